import PyProof.Rows.All
import Wide.All
import OpenK.AllK
import Wide.FinOn
import HandS.ForMost
import HandS.Style
import HandS.Wide
import HandS.EndBits
import HandS.FStrTup
import Flt.Len
import KE.KxIndex
import HandS.ForExc
import HandS.IsInst
import HandS.ExcInit
import HandS.ExcField
import HandS.MakeKwOnly
import HandS.TupMul
import HandS.Zip
import HandS.TupAny
import HandS.More
import HandS.ExcIs
import KE.KExcIs
import KE.KIndexOf
import KE.GoesEnum
import HandS.Iter
import HandS.Strs
import HandS.SetFor
import HandS.Lambda
import HandS.EndTab
import HandS.Conv
import PySem.Challenge.RW_neverregret_k03_whole_stocks_bounds_and
set_option Elab.async false
set_option linter.all false
set_option maxRecDepth 100000
/-! Defs whose promise holds where no repr is under way: so that repr of data is the text of the data. -/
namespace Gd
open PySem PySem.Spec PyProof.Rows L2
/-- room, and nothing is being shown -/
structure RmG (k : Nat) (A : Around) : Prop where
  rm : Room k A
  gd : A.guards = some []
theorem RmG.mono {j k : Nat} {A : Around} (r : RmG k A) (h : j ≤ k) : RmG j A := ⟨r.rm.mono h, r.gd⟩
structure FnG (P : Program) (w : World) (K : PySem.W.Frag) (mg : Str → Option Value) (base : Heap) (k : Nat) (f : Addr) (fd : FuncData) (ps : List Str) (sp : Sp) : Prop where
  len : ∀ xs H Q E, sp xs H Q E → xs.length = ps.length
  go : ∀ (A : Around) (out : List Env) (s : Shared) (H : Hp) (ar : Args) (us : List Value) (xs : List V) (Q : VK) (E : XK),
    RmG k A → Env0 P w K mg base A out s H → BindsTo s fd ar (ps.zip us) → Vals xs us → sp xs H Q E →
    codeAny (model P w) A (.call (.ref f) ar) (CR CX0 out P w H s Q E) s
section
variable {P : Program} {w : World} {K : PySem.W.Frag} {mg : Str → Option Value} {base : Heap}
theorem FnG.of {k : Nat} {f : Addr} {fd : FuncData} {ps : List Str} {sp : Sp} (F : FnOk P w K mg base CX0 k f fd ps sp) : FnG P w K mg base k f fd ps sp :=
  ⟨F.len, fun A out s H ar us xs Q E hr => F.run A out s H ar us xs Q E hr.rm⟩
theorem FnG.mono {j k : Nat} {f : Addr} {fd : FuncData} {ps : List Str} {sp : Sp} (F : FnG P w K mg base j f fd ps sp) (h : j ≤ k) : FnG P w K mg base k f fd ps sp :=
  ⟨F.len, fun A out s H ar us xs Q E hr => F.go A out s H ar us xs Q E (hr.mono h)⟩
/-- a def of the text, by its body -/
theorem okG {x qual : Str} {st : Stmt} {f : Addr} {fd : FuncData} {N ps : List Str} {k : Nat} {sp : Sp} (F : Fun K x qual st f fd) (S : FnScope N ps (defScope st))
    (len : ∀ xs H Q E, sp xs H Q E → xs.length = ps.length)
    (body : ∀ (cdv : Value) (A : Around) (out : List Env) (s : Shared) (H : Hp) (xs : List V) (Q : VK) (E : XK),
      RmG k (A.deeper (envOfC qual (defScope st) s.heap.objs.size f cdv)) → sp xs H Q E →
      ∃ t, PSs (cxOf CX0 P w K mg base N qual (defScope st) f cdv A out s H E).nox (defBody st) t ∧ t { nx := fun _ G => Q .non G, rt := Q } (start N xs) H) :
    FnG P w K mg base (k + 1) f fd ps sp := by
  obtain ⟨oc, od, kV, doc, pm, an, cv, ct, osl, rfl, lk, hc⟩ := F.ex
  refine ⟨len, fun A out s H ar us xs Q E hr e0 hb rv hsp => ?_⟩
  have hl := len _ _ _ _ hsp
  have up : ∀ b o, base.get? b = some o → s.heap.get? b = some o := fun b o e => (e0.bs b o e).1
  have KX := e0.mod.kin.keeps up
  have lim := e0.mod.nolimit.keeps up
  refine codeAny_call_function hr.rm.depth (KX _ _ lk) rfl S.co S.gen rfl (PySem.W.codeRec_of KX hc) (hb _ _ _ _ ?_)
  refine wpAny_newFunctionEnv_cells S.kind (fun y hy => ?_) fun env he s1 I1 => ?_
  · rcases S.par y.1 (List.of_mem_zip hy).1 with q | q
    · exact .inl q
    · exact .inr ⟨q, PySem.W.cellsFrom_some _ _ _ (.inl q)⟩
  subst he
  refine ⟨lim.keeps I1.toInCall.keep, codeAny_func ?_⟩
  obtain ⟨t, ht, hq⟩ := body cv A out s H xs Q E ⟨hr.rm.deeper _, hr.gd⟩ hsp
  refine wpAny_mono (ht.nox.run [] s1 (start N xs) H _ (inv_start S hr.rm.hd e0 hl rv I1) hq) (fun fl s' hs => ?_) fun _ _ z => z
  cases fl with
  | ret u => obtain ⟨v, σ', G, J, r1, q⟩ := hs; exact ⟨v, G, J.os, J.bare, J.base, J.hok, r1, q⟩
  | next => obtain ⟨σ', G, J, q⟩ := hs; exact ⟨.non, G, J.os, J.bare, J.base, J.hok, rfl, q⟩
  | brk => exact (hs.choose_spec.choose_spec.2).elim
  | cont => exact (hs.choose_spec.choose_spec.2).elim
end
section
variable {X : Cx} {k : Nat} {f : Addr} {fd : FuncData} {ps ks : List Str} {sp : Sp} {dvs : List V} {ds : List Value} {E : XK} {x : Str} {p pos : Pos} {e : Expr} {es : List Expr} {kws : List Keyword} {t tk : TA}
theorem run_G {pins : List (Addr × Obj)} {σ : L2.St} {H : Hp} {s : Shared} {Q : VK} {ar : Args} {us : List Value} {xs : List V} (F : FnG X.prog X.w X.K X.mg X.base k f fd ps sp) (hr : RmG k X.A)
    (I : Inv X pins σ H s) (b : BindsTo s fd ar (ps.zip us)) (rv : Vals xs us) (h : sp xs H Q E) : codeAny (model X.prog X.w) X.A (.call (.ref f) ar) (fun r s' => ∃ u, r = .ok (.ret u) ∧ EP X pins σ Q u s') s := by
  refine codeAny_mono (F.go X.A X.stack s H ar us xs Q E hr I.env0 b rv h) fun r s' hq => ?_
  rcases r with e | fl
  · exact hq.elim
  · cases fl with
    | ret u => exact ⟨u, rfl, I.after hq⟩
    | next => exact hq.elim
    | brk => exact hq.elim
    | cont => exact hq.elim
theorem call_G {pins : List (Addr × Obj)} {σ : L2.St} {H : Hp} {s : Shared} {Q : VK} {us : List Value} {xs : List V} (F : FnG X.prog X.w X.K X.mg X.base k f fd ps sp) (hr : RmG k X.A) (hb : Binds X.K fd ps ds) (hd : Vals dvs ds)
    (I : Inv X pins σ H s) (rv : Vals xs us) (h : sp (xs ++ dvs) H Q E) : wpAny (model X.prog X.w) X.A (call (.ref f) us) (EP X pins σ Q) X.xe s := by
  have r2 : Vals (xs ++ dvs) (us ++ ds) := rv.append hd
  have hl : (us ++ ds).length = ps.length := r2.length.symm.trans (F.len _ _ _ _ h)
  refine wpAny_call (codeAny_mono (run_G F hr I (hb s us I.kIn hl) r2 h) fun r s' hq => ?_)
  obtain ⟨u, rfl, z⟩ := hq
  exact z
/-- f(e, ..) -/
theorem pe_callG (F : FnG X.prog X.w X.K X.mg X.base k f fd ps sp) (hr : RmG k X.A) (hg : Gl X x) (hm : X.mg x = some (.ref f)) (hk : PySem.W.keepIn X.K (.ref f) = true) (hb : Binds X.K fd ps ds) (hd : Vals dvs ds)
    (ha : PA X (e :: es) t) (h1 : (x == ("__debug__" : Str)) = false := by decide)
    (h2 : starEach (e :: es) X.env = (false, eval e X.env) :: starEach es X.env := by rfl) (h3 : (backTo pos (starEach es X.env)).any (·.1) = false := by rfl) :
    PE X (.Call (.Name x p) (e :: es) [] pos) (tCall sp dvs E t) :=
  ⟨fun pins s σ H Q I h => wpAny_Call_Name_kw (ld_glob I hg hm (PySem.W.callWith_K (h₀ := X.base) I.ok.mod.kin hk
    (thn (ha.run pos pins s σ H _ I h) fun us s1 ⟨vs, H1, I1, r, q⟩ => ⟨I1.kIn, call_G F hr hb hd I1 r q⟩) h2 h3) h1)⟩
/-- repr of data -/
theorem call_repr (hg : X.A.guards = some []) (hu : X.A.units + 64 < cLine) : CallR X (.builtin "repr") (fun xs H Q => ∃ a d, xs = [.ref a] ∧ Dp X.K H (.ref a) d ∧ d.showable = true ∧ d.hasDict = false ∧ d.depth ≤ 60 ∧ d.shown.length ≤ sizeLine ∧ Q (.str d.shown) H) := by
  intro pins s σ H xs us Q I r h
  obtain ⟨a, d, rfl, hp, hs, hn, hd, hz, q⟩ := h
  obtain ⟨u, rfl, ru⟩ := vals1 r
  obtain rfl : u = .ref a := ru
  obtain ⟨as, rd⟩ := Dp.reads I d _ _ hp rfl
  exact repr_of_reads' rd hs (PyData.noDict_hsm hn) hg (by omega) (fun _ _ z => z) (fun h' u tk hk => ⟨.str d.shown, H, I.kept hk, ⟨_, rfl⟩, q⟩) hz
/-- repr of an int -/
theorem call_reprI : CallR X (.builtin "repr") (fun xs H Q => ∃ i, xs = [.int i] ∧ i.natAbs.log2 < 1920 ∧ Q (.str (toString i)) H) := by
  intro pins s σ H xs us Q I r h
  obtain ⟨i, rfl, hz, q⟩ := h
  obtain ⟨u, rfl, tk, rfl⟩ := vals1 r
  exact PySem.P.repr_of_int hz ⟨.str _, H, I.tok _, ⟨_, rfl⟩, q⟩
end
end Gd
/-! The end of a law row, from a promise that holds where no repr is under way. -/
namespace Gd
open PySem PySem.Spec PyProof.Rows L2
section
variable {P : Program} {w : World} {K : PySem.W.Frag} {mg mb : Str → Option Value} {k : Nat} {fa a : Addr} {fd : FuncData} {x : Str} {sp : Sp} {s : Shared} {vs : List Value} {ns : List Int}
/-- the heap H tracks nothing but the script -/
structure Bare (K : PySem.W.Frag) (a : Addr) (H : Hp) : Prop where
  one : ∀ b, H b ≠ none → b = a
  out : H a ≠ none → K.lookup a = none
theorem hid_map {H : Hp} (ha : s.heap.get? a = some { cls := .type "list", data := .seq vs.toArray }) (B : Bare K a H) {b : Addr} {m : Str → Option Value} (h : s.heap.Ns b m) : (hidT s.heap H).Ns b m := by
  obtain ⟨o, es, ep, e, d, r⟩ := h
  refine ⟨o, es, ep, hidT_get e ?_, d, r⟩
  cases q : H b with
  | none => rfl
  | some u =>
    have z := B.one b (by simp [q])
    subst z
    have z2 := Option.some.inj (ha.symm.trans e)
    subst z2
    exact absurd d (by intro z; cases z)
theorem hid_in {H : Hp} (KX : K.In s.heap) (B : Bare K a H) : K.In (hidT s.heap H) := fun b o e => hidT_get (KX b o e) (by
  cases q : H b with
  | none => rfl
  | some u =>
    have z := B.one b (by simp [q])
    subst z
    have z2 := B.out (by simp [q])
    rw [z2] at e
    cases e)
theorem end_core (KX : K.In s.heap) (hns : s.heap.Ns mainGlobals mg) (hb : s.heap.Ns builtinsNs mb) (hbb : ∀ y : Str, y ≠ "__name__" → mb y = bootBuiltins y) (hlim : s.heap.NoLimit) (hg : s.gens = #[])
    (ha : s.heap.get? a = some { cls := .type "list", data := .seq vs.toArray }) (hr : Room k callerA)
    (F : ∀ base : Heap, K.In base → base.Ns mainGlobals mg → FnG P w K mg base k fa fd [x] sp) (hbind : ∀ (t : Shared) (u : Value), BindsTo t fd ⟨[u], []⟩ [(x, u)])
    {H : Hp} (hO : Only H) (hok : HOk P w H s.heap) (B : Bare K a H) (h : sp [.ref a] H (fun v _ => v = .bl true) fun _ _ _ => False) :
    codeAny (model P w) callerA (.call (.ref fa) ⟨[.ref a], []⟩) (fun r s' => r = .ok (.ret (.bool true)) ∧ OldK s.heap s'.heap ∧ s'.os = s.os ∧ AllBare s'.gens) s := by
  have KB := hid_in KX B
  have NB := hid_map ha B hns
  have MB : Mod K mg (hidT s.heap H) := ⟨KB, NB, ⟨mb, hid_map ha B hb, hbb⟩, hlim.elim fun mc z => ⟨mc, hid_map ha B z.1, z.2⟩⟩
  have e0 : Env0 P w K mg (hidT s.heap H) callerA [] s H :=
    ⟨rfl, MB, fun b o e => of_hidT e, Nat.le_of_eq (hidT_size _ _), trivial, fun b z => (nomatch (show b ∈ ([] : List Addr) from z)), hok, .of_eq hg⟩
  refine codeAny_mono ((F _ KB NB).go callerA [] s H ⟨[.ref a], []⟩ [.ref a] [.ref a] _ _ ⟨hr, rfl⟩ e0 (hbind s (.ref a)) (.cons rfl .nil) h) fun r s' z => ?_
  rcases r with e | fl
  · exact z.elim
  · cases fl with
    | next => exact z.elim
    | brk => exact z.elim
    | cont => exact z.elim
    | ret u =>
      obtain ⟨v, G, os, bare, un, okG, ru, rfl⟩ := z
      obtain rfl : u = Value.bool true := ru
      refine ⟨rfl, OldK.of_keep fun b o e => ?_, os, bare⟩
      cases q : H b with
      | none => exact un.keep b o e q (fun z => nomatch (show b ∈ ([] : List Addr) from z)) (fun z => nomatch z)
      | some u =>
        rcases hO b with z | ⟨ob, xs, z⟩
        · exact nomatch q.symm.trans z
        · have e1 := (hok b _ z).1
          have e2 := (okG b _ (un.frzs b ob _ z)).1
          exact e2.trans (e1.symm.trans e)
theorem end_call (KX : K.In s.heap) (hns : s.heap.Ns mainGlobals mg) (hb : s.heap.Ns builtinsNs mb) (hbb : ∀ y : Str, y ≠ "__name__" → mb y = bootBuiltins y) (hlim : s.heap.NoLimit) (hg : s.gens = #[])
    (ha : s.heap.get? a = some { cls := .type "list", data := .seq vs.toArray }) (hi : IntsAre vs ns) (hl : ns.length ≤ sizeLine) (hr : Room k callerA)
    (F : ∀ base : Heap, K.In base → base.Ns mainGlobals mg → FnG P w K mg base k fa fd [x] sp) (hbind : ∀ (t : Shared) (u : Value), BindsTo t fd ⟨[u], []⟩ [(x, u)])
    (hsp : ∀ H : Hp, Only H → SqL K H a (ns.map V.int) → sp [.ref a] H (fun v _ => v = .bl true) fun _ _ _ => False) :
    codeAny (model P w) callerA (.call (.ref fa) ⟨[.ref a], []⟩) (fun r s' => r = .ok (.ret (.bool true)) ∧ OldK s.heap s'.heap ∧ s'.os = s.os ∧ AllBare s'.gens) s := by
  have rv := vals_ints hi
  cases hk : K.lookup a with
  | some o =>
    have e := Option.some.inj (ha.symm.trans (KX a o hk))
    subst e
    have hO : Only fun _ => none := fun _ => .inl rfl
    exact end_core KX hns hb hbb hlim hg ha hr F hbind hO (fun b u z => nomatch (show (none : Option HO) = some u from z)) ⟨fun b z => absurd rfl z, fun z => absurd rfl z⟩
      (hsp _ hO (.inr ⟨_, vs.toArray, _, hk, rfl, rfl, rfl, by rw [List.size_toArray, hi.length]; exact hl, by simpa using rv⟩))
  | none =>
    let H : Hp := fun b => if b = a then some (.frz { cls := .type "list", data := .seq vs.toArray } (.lst (ns.map V.int))) else none
    have at_a : H a = some (.frz { cls := .type "list", data := .seq vs.toArray } (.lst (ns.map V.int))) := if_pos rfl
    have off : ∀ {b}, b ≠ a → H b = none := fun h => if_neg h
    have hO : Only H := fun b => by
      by_cases z : b = a
      · exact .inr ⟨_, _, if_pos z⟩
      · exact .inl (off z)
    refine end_core KX hns hb hbb hlim hg ha hr F hbind hO (fun b u z => ?_) ⟨fun b z => ?_, fun _ => hk⟩ (hsp H hO (.inl (.inr ⟨_, at_a⟩)))
    · by_cases y : b = a
      · subst y
        have z2 := Option.some.inj (at_a.symm.trans z)
        subst z2
        exact ⟨ha, by rw [List.length_map]; exact hl, vs, _, rv, ha⟩
      · exact nomatch (off y).symm.trans z
    · by_cases y : b = a
      · exact y
      · exact absurd (off y) z
end
theorem walk_G {l : PySem.W.OpenLaw} {n k : Nat} {q : Program} {loose : List Str} {XP : (Str → Option Value) → Heap → Prop} {YP : World → Heap → Prop} {d : DefRec} {K : Params → PySem.W.Frag} {sp : World → Sp} {x : Str}
    (hn : l.most = some n) (hn2 : n ≤ sizeLine) (hdf : d.params.defaults = []) (hr : Room k callerA) (hY : ∀ (w : World) (h : Heap), YP w h → (K w.params).In h)
    (F : ∀ (w : World) (mg : Str → Option Value) (fa : Addr) (h : Heap), (K w.params).In h → h.Ns mainGlobals mg → mg d.name = some (.ref fa) →
      ∃ fd : FuncData, (∀ (t : Shared) (u : Value), BindsTo t fd ⟨[u], []⟩ [(x, u)]) ∧ ∀ base : Heap, (K w.params).In base → base.Ns mainGlobals mg → FnG l.prog w (K w.params) mg base k fa fd [x] (sp w))
    (hsp : ∀ (w : World) (H : Hp) (a : Addr) (ns : List Int), ns.length ≤ n → (∀ z ∈ ns, Builtin.Int.intBits z ≤ 1048576) → Only H → SqL (K w.params) H a (ns.map V.int) → sp w [.ref a] H (fun v _ => v = .bl true) fun _ _ _ => False) :
    PySem.W.WalkO q loose XP YP l.row.toRowW d [] (fun f vs => PySem.call f vs) := by
  refine Att.attach_callB hn hdf fun w s₀ s mg mb fa o pm cd doc a vs ns G Y ho hd hcd hm hobj hi hl hbits hg => ?_
  obtain ⟨fd, hb, hF⟩ := F w mg fa _ (hY w _ Y) G.T.g hm
  exact end_call (hY w _ Y) G.T.g G.T.b G.T.builtins G.T.nolimit hg hobj hi (Nat.le_trans hl hn2) hr hF hb fun H hO hS => hsp w H a ns hl hbits hO hS
end Gd
/-! Data: what stays of it, and what its repr costs. -/
namespace Gd
open PySem PySem.Spec PyProof.Rows L2
mutual
theorem dp_same {K : PySem.W.Frag} {H G : Hp} (e : Same H G) : ∀ (d : PyData) (v : V), Dp K H v d → Dp K G v d
  | .none, _, h => by cases h; exact .non
  | .bool b, _, h => by cases h; exact .bl b
  | .int i, _, h => by cases h; exact .int i
  | .str x, _, h => by cases h; exact .str x
  | .list ds, _, h => by
    cases h with
    | lst hs ha => exact .lst (e.seq hs) (dpAll_same e ds _ ha)
  | .tuple ds, _, h => by
    cases h with
    | tup hs ha =>
      refine .tup ?_ (dpAll_same e ds _ ha)
      rcases hs with (z | ⟨o, z⟩) | z
      · exact .inl (.inl (e _ _ z))
      · exact .inl (.inr ⟨o, e _ _ z⟩)
      · exact .inr z
  | .dict _, _, h => by cases h
theorem dpAll_same {K : PySem.W.Frag} {H G : Hp} (e : Same H G) : ∀ (ds : List PyData) (vs : List V), DpAll K H vs ds → DpAll K G vs ds
  | [], _, h => by cases h; exact .nil
  | d :: ds, _, h => by
    cases h with
    | cons h1 h2 => exact .cons (dp_same e d _ h1) (dpAll_same e ds _ h2)
end
theorem same_seqT {K : PySem.W.Frag} {H H' : Hp} {a : Addr} {xs : List V} (e : Same H H') (h : SqT K H a xs) : SqT K H' a xs := by
  rcases h with (z | ⟨o, z⟩) | z
  · exact .inl (.inl (e _ _ z))
  · exact .inl (.inr ⟨o, e _ _ z⟩)
  · exact .inr z
theorem same_new {H : Hp} {p : Addr} {o : HO} (h : H p = none) : Same H (upd H p o) := fun b x e => (upd_ne (ne_of_none e h)).trans e
theorem sqT {K : PySem.W.Frag} {H : Hp} {a : Addr} {xs : List V} (h : H a = some (.tup xs)) : SqT K H a xs := .inl (.inl h)
theorem sqL {K : PySem.W.Frag} {H : Hp} {a : Addr} {xs : List V} (h : H a = some (.lst xs)) : SqL K H a xs := .inl (.inl h)
theorem dpAll_snoc {K : PySem.W.Frag} {H : Hp} {v : V} {d : PyData} : ∀ {vs : List V} {ds : List PyData}, DpAll K H vs ds → Dp K H v d → DpAll K H (vs ++ [v]) (ds ++ [d])
  | _, _, .nil, h => .cons h .nil
  | _, _, .cons a r, h => .cons a (dpAll_snoc r h)
theorem dpAll_len {K : PySem.W.Frag} {H : Hp} : ∀ {vs : List V} {ds : List PyData}, DpAll K H vs ds → vs.length = ds.length
  | _, _, .nil => rfl
  | _, _, .cons _ r => by rw [List.length_cons, List.length_cons, dpAll_len r]
theorem dpAll_get {K : PySem.W.Frag} {H : Hp} : ∀ {vs : List V} {ds : List PyData} {i : Nat} {d : PyData}, DpAll K H vs ds → ds[i]? = some d → ∃ v, vs[i]? = some v ∧ Dp K H v d
  | _, _, _, _, .nil, e => by simp at e
  | _, _, 0, _, .cons a _, e => by simp at e; subst e; exact ⟨_, rfl, a⟩
  | _, _, i + 1, d, .cons _ r, e => by
    obtain ⟨v, h1, h2⟩ := dpAll_get (i := i) (d := d) r (by simpa using e)
    exact ⟨v, by simpa using h1, h2⟩
theorem dpAll_ints {K : PySem.W.Frag} {H : Hp} : ∀ ns : List Int, DpAll K H (ns.map V.int) (ns.map .int)
  | [] => .nil
  | n :: ns => .cons (.int n) (dpAll_ints ns)
theorem dpAll_strs {K : PySem.W.Frag} {H : Hp} : ∀ ns : List Str, DpAll K H (ns.map V.str) (ns.map .str)
  | [] => .nil
  | n :: ns => .cons (.str n) (dpAll_strs ns)
/-! what repr and == ask of data -/
mutual
/-- plain data: no dicts, signs below 1000, ints below 10 ^ 9 in size -/
def fine : PyData → Bool
  | .none | .bool _ => true
  | .int i => decide (i.natAbs < 10 ^ 9)
  | .str x => x.cps.toList.all (· < 1000)
  | .list xs | .tuple xs => fineAll xs
  | .dict _ => false
def fineAll : List PyData → Bool
  | [] => true
  | x :: xs => fine x && fineAll xs
end
mutual
def costD : PyData → Nat
  | .none => 4
  | .bool _ => 5
  | .int _ => 10
  | .str x => 10 * x.length + 2
  | .list xs | .tuple xs => costAll xs + 2
  | .dict _ => 0
def costAll : List PyData → Nat
  | [] => 0
  | x :: xs => costD x + 2 + costAll xs
end
theorem fine_str {x : Str} : fine (.str x) = true ↔ ∀ c ∈ x.cps.toList, c < 1000 := by
  rw [fine, List.all_eq_true]
  exact ⟨fun h c hc => of_decide_eq_true (h c hc), fun h c hc => decide_eq_true (h c hc)⟩
mutual
theorem fine_lay : ∀ d : PyData, fine d = true → d.canLay0 = true
  | .none, _ => rfl
  | .bool _, _ => rfl
  | .int _, _ => rfl
  | .str x, h => by
    have h' := fine_str.mp h
    show x.cps.all _ = true
    rw [Array.all_eq_true']
    intro c hc
    have := h' c (by simpa using hc)
    exact decide_eq_true (by omega)
  | .list xs, h => by rw [PyData.canLay0]; exact fineAll_lay xs (by simpa [fine] using h)
  | .tuple xs, h => by rw [PyData.canLay0]; exact fineAll_lay xs (by simpa [fine] using h)
  | .dict _, h => by simp [fine] at h
theorem fineAll_lay : ∀ ds : List PyData, fineAll ds = true → PyData.canLayAll0 ds = true
  | [], _ => rfl
  | x :: xs, h => by
    have h' : fine x = true ∧ fineAll xs = true := by simpa [fineAll] using h
    rw [PyData.canLayAll0, fine_lay x h'.1, fineAll_lay xs h'.2]; rfl
end
mutual
theorem fine_show : ∀ d : PyData, fine d = true → d.showable = true
  | .none, _ => by simp [PyData.showable]
  | .bool _, _ => by simp [PyData.showable]
  | .int i, h => by
    have h' : i.natAbs < 10 ^ 9 := by simpa [fine] using h
    have : i.natAbs.log2 < 1920 := Flt.log2_lt_of (by decide) (Nat.lt_of_lt_of_le h' (by decide))
    simpa [PyData.showable] using this
  | .str x, h => by simp [PyData.showable]
  | .list xs, h => by rw [PyData.showable]; exact fineAll_show xs (by simpa [fine] using h)
  | .tuple xs, h => by rw [PyData.showable]; exact fineAll_show xs (by simpa [fine] using h)
  | .dict _, h => by simp [fine] at h
theorem fineAll_show : ∀ ds : List PyData, fineAll ds = true → PyData.showableAll ds = true
  | [], _ => by simp [PyData.showableAll]
  | x :: xs, h => by
    have h' : fine x = true ∧ fineAll xs = true := by simpa [fineAll] using h
    rw [PyData.showableAll, fine_show x h'.1, fineAll_show xs h'.2]; rfl
end
theorem list_text (ts : List Str) : (listText ts).length ≤ piled ts + 2 := by
  rw [listText_eq_join]
  have e1 : (("[" : Str)).length = 1 := rfl
  have e2 : (("]" : Str)).length = 1 := rfl
  rw [strLen_append, strLen_append, e1, e2]
  by_cases h : ts = []
  · subst h; decide +kernel
  · have := join_length_add ts h
    omega
mutual
theorem shown_cost : ∀ d : PyData, fine d = true → d.shown.length ≤ costD d
  | .none, _ => by rw [PyData.shown]; decide +kernel
  | .bool b, _ => by rw [PyData.shown]; cases b <;> decide +kernel
  | .int i, h => by
    have h' : i.natAbs < 10 ^ 9 := by simpa [fine] using h
    rw [PyData.shown, PySem.ofString_length]
    exact int_text_length_le10 (k := 9) (by decide) h'
  | .str x, h => by
    have h' := fine_str.mp h
    rw [PyData.shown, costD]
    exact StrLaws.reprText_len x fun c hc => Nat.lt_trans (h' c hc) (by decide)
  | .list xs, h => by
    rw [PyData.shown, costD]
    have := shownAll_cost xs (by simpa [fine] using h)
    have := list_text (PyData.shownAll xs)
    omega
  | .tuple xs, h => by
    rw [PyData.shown, costD]
    have := shownAll_cost xs (by simpa [fine] using h)
    have := PySem.fmt_text (PyData.shownAll xs)
    omega
  | .dict _, h => by simp [fine] at h
theorem shownAll_cost : ∀ ds : List PyData, fineAll ds = true → piled (PyData.shownAll ds) ≤ costAll ds
  | [], _ => by rw [PyData.shownAll, costAll, piled_nil]; exact Nat.le_refl 0
  | x :: xs, h => by
    have h' : fine x = true ∧ fineAll xs = true := by simpa [fineAll] using h
    have h1 := shown_cost x h'.1
    have h2 := shownAll_cost xs h'.2
    rw [PyData.shownAll, costAll, piled_cons]
    omega
end
theorem fine_shaped {d : PyData} (h : fine d = true) (hd : d.depth ≤ 60) : SeqAt.shaped d = true := by
  unfold SeqAt.shaped
  rw [fine_lay d h]
  exact decide_eq_true (by omega)
theorem fine_eqv {d : PyData} (h : fine d = true) : PyData.eqv d d = true := SeqAt.eqv_refl d (fine_lay d h)
theorem fineAll_mem : ∀ {ds : List PyData}, (∀ d ∈ ds, fine d = true) → fineAll ds = true
  | [], _ => by simp [fineAll]
  | x :: xs, h => by simp [fineAll, h x List.mem_cons_self, fineAll_mem fun d hd => h d (List.mem_cons_of_mem _ hd)]
theorem depthAll_mem {n : Nat} : ∀ {ds : List PyData}, (∀ d ∈ ds, d.depth ≤ n) → PyData.depthAll ds ≤ n
  | [], _ => by simp [PyData.depthAll]
  | x :: xs, h => by
    have h1 := h x List.mem_cons_self
    have h2 := depthAll_mem (n := n) (ds := xs) fun d hd => h d (List.mem_cons_of_mem _ hd)
    simp only [PyData.depthAll]
    omega
/-- repr(x), x plain data at an address: its text; what is asked is told by fine and costD -/
theorem call_reprF {X : Cx} (hg : X.A.guards = some []) (hu : X.A.units + 64 < cLine) : CallR X (.builtin "repr") (fun xs H Q => ∃ a d, xs = [.ref a] ∧ Dp X.K H (.ref a) d ∧ fine d = true ∧ d.depth ≤ 60 ∧ costD d ≤ sizeLine ∧ Q (.str d.shown) H) := by
  intro pins s σ H xs us Q I r h
  obtain ⟨a, d, e, hp, hf, hd, hz, q⟩ := h
  exact call_repr hg hu pins s σ H xs us Q I r ⟨a, d, e, hp, fine_show d hf, PyData.hasDict_of_canLay d (fine_lay d hf), hd, Nat.le_trans (shown_cost d hf) hz, q⟩
end Gd
/-! Calls that give all by keywords. -/
namespace Gd
open PySem PySem.Spec PyProof.Rows L2
/-- how a call by keywords alone binds: g puts their values in the parameters' order -/
def KwB (fd : FuncData) (ps ks : List Str) (g : List Value → List Value) : Prop := ∀ (s : Shared) (ws : List Value), ws.length = ks.length → BindsTo s fd ⟨[], ks.zip ws⟩ (ps.zip (g ws))
theorem kwB_of {K : PySem.W.Frag} {x qual : Str} {st : Stmt} {f : Addr} {fd : FuncData} {ps ks : List Str} {g : List Value → List Value} (F : Fun K x qual st f fd)
    (h : ∀ (kV doc pm : Value) (an : Option Addr) (cv ct : Value) (ws : List Value), ws.length = ks.length → bindArgs (PySem.W.fnOf x qual (defArgs st) (defBody st) (defScope st) .none kV doc pm an cv ct) ⟨[], ks.zip ws⟩ = pure (ps.zip (g ws))) : KwB fd ps ks g := by
  obtain ⟨oc, od, kV, doc, pm, an, cv, ct, osl, rfl, lk, hc⟩ := F.ex
  exact fun s ws hl => .of_eq (h kV doc pm an cv ct ws hl)
def tKw (m : Nat) (sp : Sp) (gV : List V → List V) (E : XK) (tk : TA) : TE := fun σ H Q => tk σ H fun zs H2 => zs.length = m ∧ sp (gV zs) H2 Q E
section
variable {X : Cx} {k : Nat} {f : Addr} {fd : FuncData} {ps ks : List Str} {sp : Sp} {E : XK} {x : Str} {p pos : Pos} {kws : List Keyword} {tk : TA}
/-- f(k = v, ..) -/
theorem pe_kwG {g : List Value → List Value} {gV : List V → List V} (F : FnG X.prog X.w X.K X.mg X.base k f fd ps sp) (hr : RmG k X.A) (hg : Gl X x) (hm : X.mg x = some (.ref f)) (hk : PySem.W.keepIn X.K (.ref f) = true)
    (hb : KwB fd ps ks g) (hv : ∀ {zs : List V} {ws : List Value}, zs.length = ks.length → Vals zs ws → Vals (gV zs) (g ws)) (hkw : PK X kws tk)
    (h1 : (backToKw pos (keywordEach kws X.env)).all (·.1.isSome) = true := by rfl) (h2 : (backToKw pos (keywordEach kws X.env)).filterMap (·.1) = ks := by rfl) (h3 : (x == ("__debug__" : Str)) = false := by decide)
    (h4 : ((backTo pos (starEach [] X.env)).any (·.1) || (backToKw pos (keywordEach kws X.env)).any (·.1.isNone)) = false := by rfl) :
    PE X (.Call (.Name x p) [] kws pos) (tKw ks.length sp gV E tk) := by
  refine ⟨fun pins s σ H Q I h => wpAny_Call_Name_kw (ld_glob I hg hm (PySem.W.callWith_KW0 (h₀ := X.base) I.ok.mod.kin hk h1 ?_ h4) h3)⟩
  refine thn (hkw.run pos pins s σ H _ I h) fun ws s2 ⟨zs, H2, I2, rz, l, q⟩ => ⟨I2.kIn, ?_⟩
  rw [h2]
  have r2 := hv l rz
  refine wpAny_call (codeAny_mono (run_G F hr I2 (hb s2 ws (rz.length.symm.trans l)) r2 q) fun r s' hq => ?_)
  obtain ⟨u, rfl, z⟩ := hq
  exact z
end
end Gd
/-! What the laws' proofs share: the source of draws, what is kept, blocks. -/
namespace Gd
open PySem PySem.Spec PyProof.Rows L2
/-- the law's source of draws at h: its list at l, its number -/
structure Hv (H : Hp) (h l : Addr) (L : List Int) (st : Int) : Prop where
  top : H h = some (.lst [.ref l, .int st])
  bot : H l = some (.lst (L.map V.int))
  ne : l ≠ h
  lo : 0 ≤ st
  hi : st < 2147483647
  len : L.length ≤ 63
/-- all but the source stands as before -/
def But (h l : Addr) (H G : Hp) : Prop := ∀ b o, b ≠ h → b ≠ l → H b = some o → G b = some o
theorem Hv.new {H : Hp} {h l p : Addr} {L : List Int} {st : Int} {o : HO} (v : Hv H h l L st) (n : H p = none) : Hv (upd H p o) h l L st :=
  ⟨(upd_ne (ne_of_none v.top n)).trans v.top, (upd_ne (ne_of_none v.bot n)).trans v.bot, v.ne, v.lo, v.hi, v.len⟩
theorem Hv.same {H G : Hp} {h l : Addr} {L : List Int} {st : Int} (v : Hv H h l L st) (e : Same H G) : Hv G h l L st :=
  ⟨e _ _ v.top, e _ _ v.bot, v.ne, v.lo, v.hi, v.len⟩
theorem Hv.setL {H : Hp} {h l : Addr} {L M : List Int} {st : Int} (v : Hv H h l L st) (hl : M.length ≤ 63) : Hv (upd H l (.lst (M.map V.int))) h l M st :=
  ⟨(upd_ne v.ne.symm).trans v.top, upd_same, v.ne, v.lo, v.hi, hl⟩
theorem Hv.setN {H : Hp} {h l : Addr} {L : List Int} {st n : Int} (v : Hv H h l L st) (h0 : 0 ≤ n) (h1 : n < 2147483647) : Hv (upd H h (.lst [.ref l, .int n])) h l L n :=
  ⟨upd_same, (upd_ne v.ne).trans v.bot, v.ne, h0, h1, v.len⟩
theorem But.refl (h l : Addr) (H : Hp) : But h l H H := fun _ _ _ _ e => e
theorem But.trans {h l : Addr} {H G J : Hp} (a : But h l H G) (b : But h l G J) : But h l H J := fun c o h1 h2 e => b c o h1 h2 (a c o h1 h2 e)
theorem But.new {h l p : Addr} {H G : Hp} {o : HO} (a : But h l H G) (n : G p = none) : But h l H (upd G p o) := fun c x h1 h2 e =>
  (upd_ne (ne_of_none (a c x h1 h2 e) n)).trans (a c x h1 h2 e)
theorem But.same {h l : Addr} {H G J : Hp} (a : But h l H G) (e : Same G J) : But h l H J := fun c x h1 h2 z => e _ _ (a c x h1 h2 z)
theorem But.atL {h l : Addr} {H G : Hp} {o : HO} (a : But h l H G) : But h l H (upd G l o) := fun c x h1 h2 e => (upd_ne h2).trans (a c x h1 h2 e)
theorem But.atH {h l : Addr} {H G : Hp} {o : HO} (a : But h l H G) : But h l H (upd G h o) := fun c x h1 h2 e => (upd_ne h1).trans (a c x h1 h2 e)
theorem fresh_of {h l p : Addr} {H G : Hp} (a : But h l H G) {o : HO} (h1 : p ≠ h) (h2 : p ≠ l) (e : G p = none) : H p = none := by
  cases q : H p with
  | none => rfl
  | some o => exact nomatch (a p o h1 h2 q).symm.trans e
theorem eqv_nil (L : List Int) : PyData.eqv (.list (L.map .int)) (.list []) = decide (L = []) := by
  cases L with
  | nil => rfl
  | cons x r => simp [PyData.eqv, PyData.eqvAll]
theorem shaped_ints (L : List Int) : SeqAt.shaped (.list (L.map .int)) = true := PySem.W.ke_shaped_ints L
theorem dp_ints {K : PySem.W.Frag} {H : Hp} {l : Addr} {L : List Int} (h : H l = some (.lst (L.map V.int))) : Dp K H (.ref l) (.list (L.map .int)) := .lst (sqL h) (dpAll_ints L)
theorem last_map {L : List Int} (h : L ≠ []) : atI (L.map V.int) (-1) = some (.int (L.getLast h)) := by
  have e : L.map V.int = L.dropLast.map V.int ++ [.int (L.getLast h)] := by
    rw [← List.map_singleton, ← List.map_append, List.dropLast_concat_getLast]
  rw [e]
  exact atI_last _ _
theorem last_get {L : List Int} (h : L ≠ []) : (L.map V.int)[(L.map V.int).length - 1]? = some (.int (L.getLast h)) := by
  rw [List.length_map, List.getElem?_map, ← List.getLast?_eq_getElem?, List.getLast?_eq_getLast h]
  rfl
theorem drop_map (L : List Int) : (L.map V.int).dropLast = L.dropLast.map V.int := by rw [List.map_dropLast]
/-- all but lists stands as before -/
def KeepT (H G : Hp) : Prop := ∀ b o, H b = some o → (∀ xs, o ≠ .lst xs) → G b = some o
theorem KeepT.of {H G : Hp} (e : Same H G) : KeepT H G := fun b o h _ => e b o h
theorem KeepT.trans {H G J : Hp} (a : KeepT H G) (b : KeepT G J) : KeepT H J := fun c o h n => b c o (a c o h n) n
theorem KeepT.put {H : Hp} {p : Addr} {xs : List V} {o : HO} (h : H p = some (.lst xs)) : KeepT H (upd H p o) := fun b x e n => by
  have ne : b ≠ p := fun z => by
    subst z
    have z2 := Option.some.inj (h.symm.trans e)
    exact n _ z2.symm
  exact (upd_ne ne).trans e
theorem KeepT.but {h l : Addr} {H G : Hp} {L : List Int} {st : Int} (v : Hv H h l L st) (b : But h l H G) : KeepT H G := fun c o e n =>
  b c o (fun z => by subst z; exact n _ (Option.some.inj (v.top.symm.trans e)).symm) (fun z => by subst z; exact n _ (Option.some.inj (v.bot.symm.trans e)).symm) e
theorem KeepT.seqT {K : PySem.W.Frag} {H G : Hp} {a : Addr} {xs : List V} (e : KeepT H G) (h : SqT K H a xs) : SqT K G a xs := by
  rcases h with (z | ⟨o, z⟩) | z
  · exact .inl (.inl (e _ _ z (by intro _ q; cases q)))
  · exact .inl (.inr ⟨o, e _ _ z (by intro _ q; cases q)⟩)
  · exact .inr z
mutual
def noList : PyData → Bool
  | .none | .bool _ | .int _ | .str _ => true
  | .tuple xs => noListAll xs
  | .list _ | .dict _ => false
def noListAll : List PyData → Bool
  | [] => true
  | x :: xs => noList x && noListAll xs
end
mutual
theorem dp_keep {K : PySem.W.Frag} {H G : Hp} (e : KeepT H G) : ∀ (d : PyData) (v : V), noList d = true → Dp K H v d → Dp K G v d
  | .none, _, _, h => by cases h; exact .non
  | .bool b, _, _, h => by cases h; exact .bl b
  | .int i, _, _, h => by cases h; exact .int i
  | .str x, _, _, h => by cases h; exact .str x
  | .list ds, _, n, _ => by simp [noList] at n
  | .tuple ds, _, n, h => by
    cases h with
    | tup hs ha => exact .tup (e.seqT hs) (dpAll_keep e ds _ (by simpa [noList] using n) ha)
  | .dict _, _, _, h => by cases h
theorem dpAll_keep {K : PySem.W.Frag} {H G : Hp} (e : KeepT H G) : ∀ (ds : List PyData) (vs : List V), noListAll ds = true → DpAll K H vs ds → DpAll K G vs ds
  | [], _, _, h => by cases h; exact .nil
  | d :: ds, _, n, h => by
    have n' : noList d = true ∧ noListAll ds = true := by simpa [noListAll] using n
    cases h with
    | cons h1 h2 => exact .cons (dp_keep e d _ n'.1 h1) (dpAll_keep e ds _ n'.2 h2)
end
theorem noListAll_mem : ∀ {ds : List PyData}, (∀ d ∈ ds, noList d = true) → noListAll ds = true
  | [], _ => rfl
  | x :: xs, h => by rw [noListAll, h x List.mem_cons_self, noListAll_mem fun d hd => h d (List.mem_cons_of_mem _ hd)]; rfl
theorem lt_one (a b : Nat) : decide (([a] : List Nat) < [b]) = decide (a < b) := by
  by_cases h : a < b
  · rw [decide_eq_true h]
    exact decide_eq_true (List.Lex.rel h)
  · rw [decide_eq_false h]
    refine decide_eq_false fun z => ?_
    cases z with
    | rel z => exact h z
    | cons z => cases z
theorem if_out {c : TT} {t u : TS} {D : Ends} {σ : L2.St} {G : Hp} (R : Bool) (h1 : ∀ B : Bool → Hp → Prop, (∀ G', Same G G' → B R G') → c σ G B) (h2 : ∀ G', Same G G' → if R = true then t D σ G' else u D σ G') : tIfS c t u D σ G := h1 _ h2
theorem seq_out {t u : TS} {D : Ends} {σ : L2.St} {G : Hp} (R : L2.St → Hp → Prop) (h1 : ∀ N : L2.St → Hp → Prop, (∀ σ' G', R σ' G' → N σ' G') → t { D with nx := N } σ G) (h2 : ∀ σ' G', R σ' G' → u D σ' G') : tSeq t u D σ G := h1 (u D) h2
theorem But.seqL {K : PySem.W.Frag} {h l p : Addr} {H G : Hp} {xs : List V} (b : But h l H G) (h1 : p ≠ h) (h2 : p ≠ l) (e : SqL K H p xs) : SqL K G p xs := by
  rcases e with (z | ⟨o, z⟩) | z
  · exact .inl (.inl (b _ _ h1 h2 z))
  · exact .inl (.inr ⟨o, b _ _ h1 h2 z⟩)
  · exact .inr z
theorem for_str {x : Str} {g : TG} {tb : TS} {D : Ends} {σ : L2.St} {H : Hp} (Pv : Nat → L2.St → Hp → Prop) (h0 : Pv 0 σ H)
    (hs : ∀ i c σ H, x.cps.toList[i]? = some c → Pv i σ H → g (.str ⟨#[c]⟩) σ H fun σ2 H2 => tb { D with nx := Pv (i + 1), ct := Pv (i + 1), bk := D.nx } σ2 H2) (hd : ∀ σ H, Pv x.cps.toList.length σ H → D.nx σ H) :
    ∃ W : Nat → Nat → L2.St → Hp → Prop, (∃ m, W 0 m σ H) ∧ ∀ i m σ H, W i m σ H →
      ((Its x).stop i H ∧ D.nx σ H) ∨ ((Its x).go i H ∧ ∃ N : L2.St → Hp → Prop, (∀ σ' H', N σ' H' → ∃ m', m' < m ∧ W (i + 1) m' σ' H') ∧ ∀ v H', (Its x).yld i H v H' → g v σ H' fun σ2 H2 => tb { D with nx := N, ct := N, bk := D.nx } σ2 H2) := by
  refine ⟨fun i m σ H => m = x.cps.toList.length - i ∧ i ≤ x.cps.toList.length ∧ Pv i σ H, ⟨_, rfl, Nat.zero_le _, h0⟩, fun i m σ H hw => ?_⟩
  obtain ⟨rfl, hi, hp⟩ := hw
  by_cases hlt : i < x.cps.toList.length
  · refine .inr ⟨by show i < x.cps.size; simpa using hlt, Pv (i + 1), fun σ' H' hp' => ⟨_, by omega, rfl, hlt, hp'⟩, fun v H' hy => ?_⟩
    obtain ⟨rfl, c, hc, rfl⟩ := hy
    exact hs i c σ _ (by simpa using hc) hp
  · have e : i = x.cps.toList.length := by omega
    subst e
    exact .inl ⟨by show x.cps.size ≤ _; simp, hd σ H hp⟩
section
variable {X : Cx}
end
theorem dpAll_last {K : PySem.W.Frag} {H : Hp} : ∀ {ds : List PyData} {d : PyData} {vs : List V}, DpAll K H vs (ds ++ [d]) → ∃ us v, vs = us ++ [v] ∧ DpAll K H us ds ∧ Dp K H v d
  | [], d, vs, h => by
    cases h with
    | cons a r => cases r; exact ⟨[], _, rfl, .nil, a⟩
  | x :: r, d, vs, h => by
    cases h with
    | cons a t =>
      obtain ⟨us, v, e, h1, h2⟩ := dpAll_last t
      exact ⟨_ :: us, v, by rw [e]; rfl, .cons a h1, h2⟩
theorem ix_last {α : Type} (us : List α) (v : α) : ixN (us ++ [v]).length (-1) = some us.length := by
  unfold ixN
  rw [List.length_append, if_neg (by decide), if_pos (by show -((us.length + 1 : Nat) : Int) ≤ -1; omega)]
  show some (-1 + ((us.length + 1 : Nat) : Int)).toNat = _
  congr 1
  omega
theorem set_last {α : Type} (us : List α) (v u : α) : (us ++ [v]).set us.length u = us ++ [u] := by
  rw [List.set_append_right _ _ (Nat.le_refl _), Nat.sub_self]
  rfl
theorem eqv_nilD (ds : List PyData) : PyData.eqv (.list ds) (.list []) = ds.isEmpty := by
  cases ds with
  | nil => rfl
  | cons x r => simp [PyData.eqv, PyData.eqvAll]
theorem sg_ne {c n : Nat} {s : Str} (e : s = ⟨#[n]⟩) (h : c ≠ n) : ¬ V.str ⟨#[c]⟩ = V.str s := fun z => h (by
  rw [e] at z
  have e2 : (⟨#[c]⟩ : Str) = ⟨#[n]⟩ := V.str.inj z
  injection e2 with e2
  simpa using e2)
theorem fold_mem (c : Nat) (a : Array Nat) : ∀ (n : Nat) (b : Array Nat), c ∈ ((List.replicate n a).foldl (· ++ ·) b).toList → c ∈ b.toList ∨ c ∈ a.toList
  | 0, b, h => .inl h
  | n + 1, b, h => by
    rw [List.replicate_succ, List.foldl_cons] at h
    rcases fold_mem c a n (b ++ a) h with z | z
    · rw [Array.toList_append] at z
      exact List.mem_append.mp z
    · exact .inr z
theorem mul_mem {c : Nat} {x : Str} {i : Int} (h : c ∈ (Txt.mul x i).cps.toList) : c ∈ x.cps.toList := by
  unfold Txt.mul at h
  split at h
  · exact absurd h (by simp [Str.empty])
  · split at h
    · exact h
    · rcases fold_mem c x.cps _ _ h with z | z
      · simp at z
      · exact z
section
variable {X : Cx}
/-- z * i, z a short text -/
theorem op_mulT : OpR X (binaryOp .Mult) (fun x y H Q => ∃ z i, x = .str z ∧ y = .int i ∧ z.length ≤ 16 ∧ 0 ≤ i ∧ i ≤ 1048576 ∧ ∀ u : Str, (u.length : Int) = (z.length : Int) * i → (∀ c ∈ u.cps.toList, c ∈ z.cps.toList) → Q (.str u) H) := by
  intro pins s σ H x y v u Q I rx ry h
  obtain ⟨z, i, rfl, rfl, h1, h2, h3, q⟩ := h
  obtain ⟨t, rfl⟩ := rx
  obtain ⟨t2, rfl⟩ := ry
  exact PySem.W.KXi.mul rfl h1 (by omega) h3 fun t' k _ e => ⟨.str _, H, I.tok k, ⟨t', rfl⟩, q _ (e h2) fun c hc => mul_mem hc⟩
end
theorem app_list (a b : Str) : (a ++ b).cps.toList = a.cps.toList ++ b.cps.toList := by
  show (a.cps ++ b.cps).toList = _
  rw [Array.toList_append]
theorem sum_le {α : Type} {f : α → Nat} {b : Nat} : ∀ {l : List α}, (∀ x ∈ l, f x ≤ b) → (l.map f).sum ≤ l.length * b
  | [], _ => Nat.zero_le _
  | x :: r, h => by
    have h1 := h x List.mem_cons_self
    have h2 := sum_le (f := f) (b := b) (l := r) fun y hy => h y (List.mem_cons_of_mem _ hy)
    rw [List.map_cons, List.sum_cons, List.length_cons, Nat.succ_mul]
    omega
theorem blk_cons {X : Cx} {st : Stmt} {r : List Stmt} {t : TS} {G : TS → Prop} (h : PS X st t) (n : ∃ u, PSs X r u ∧ G (tSeq t u)) : ∃ u, PSs X (st :: r) u ∧ G u := n.elim fun u z => ⟨_, pss_cons h z.1, z.2⟩
theorem blk_nil {X : Cx} {G : TS → Prop} (h : G tNext) : ∃ u, PSs X [] u ∧ G u := ⟨_, pss_nil, h⟩
end Gd
/-! Further rules: what may raise at known slots, keywords, isinstance of a caught error with its own dict, places in tuples. -/
namespace Gd
open PySem PySem.Spec PyProof.Rows L2
/-- a call by positional values and keywords, no defaults -/
theorem kbn_of {K : PySem.W.Frag} {x qual : Str} {st : Stmt} {f : Addr} {fd : FuncData} {ps ks : List Str} {n : Nat} {g : List Value → List Value → List Value} {gV : List V → List V → List V} (F : Fun K x qual st f fd)
    (h : ∀ (kV doc pm : Value) (an : Option Addr) (cv ct : Value) (us ws : List Value), us.length = n → ws.length = ks.length → bindArgs (PySem.W.fnOf x qual (defArgs st) (defBody st) (defScope st) .none kV doc pm an cv ct) ⟨us, ks.zip ws⟩ = pure (ps.zip (g us ws)))
    (r : ∀ {vs : List V} {us : List Value} {zs : List V} {ws : List Value}, Vals vs us → Vals zs ws → Vals (gV vs zs) (g us ws)) : KBn K fd ps n ks g gV := by
  obtain ⟨oc, od, kV, doc, pm, an, cv, ct, osl, rfl, lk, hc⟩ := F.ex
  exact ⟨fun s us ws _ l1 l2 => .of_eq (h kV doc pm an cv ct us ws l1 l2), r⟩
section
variable {X : Cx} {CX : CXT} {k n : Nat} {f C : Addr} {fd : FuncData} {ps ks : List Str} {sp : Sp} {x m : Str} {p pos apos : Pos} {e o : Expr} {es : List Expr} {kws : List Keyword} {t tk ta : TA} {to : TE} {g : List Value → List Value → List Value} {gV : List V → List V → List V}
/-- f(k = v, ..), f raising nothing -/
def tKn (m : Nat) (sp : Sp) (gV : List V → List V → List V) (tk : TA) : TE := fun σ H Q => tk σ H fun zs H2 => zs.length = m ∧ sp (gV [] zs) H2 Q E0
theorem pe_kwN (F : FnG X.prog X.w X.K X.mg X.base k f fd ps sp) (hr : RmG k X.A) (hg : Gl X x) (hm : X.mg x = some (.ref f)) (hk : PySem.W.keepIn X.K (.ref f) = true) (hb : KBn X.K fd ps 0 ks g gV) (hkw : PK X kws tk)
    (h1 : (backToKw pos (keywordEach kws X.env)).all (·.1.isSome) = true := by rfl) (h2 : (backToKw pos (keywordEach kws X.env)).filterMap (·.1) = ks := by rfl) (h3 : (x == ("__debug__" : Str)) = false := by decide)
    (h4 : ((backTo pos (starEach [] X.env)).any (·.1) || (backToKw pos (keywordEach kws X.env)).any (·.1.isNone)) = false := by rfl) :
    PE X (.Call (.Name x p) [] kws pos) (tKn ks.length sp gV tk) := by
  refine ⟨fun pins s σ H Q I h => wpAny_Call_Name_kw (ld_glob I hg hm (PySem.W.callWith_KW0 (h₀ := X.base) I.ok.mod.kin hk h1 ?_ h4) h3)⟩
  refine thn (hkw.run pos pins s σ H _ I h) fun ws s2 ⟨zs, H2, I2, rz, l, q⟩ => ⟨I2.kIn, ?_⟩
  rw [h2]
  refine wpAny_call (codeAny_mono (run_G F hr I2 (hb.to s2 [] ws I2.kIn rfl (rz.length.symm.trans l)) (hb.rel .nil rz) q) fun r s' hq => ?_)
  obtain ⟨u, rfl, z⟩ := hq
  exact z
/-- o.m(k = v, ..), m raising nothing -/
def tMKn (C : Addr) (m : Str) (l : Nat) (sp : Sp) (gV : List V → List V → List V) (to : TE) (tk : TA) : TE := fun σ H Q => to σ H fun x H1 => ∃ a dx fs, x = .ref a ∧ H1 a = some (.ins C dx fs) ∧ fs.lookup m = none ∧ tk σ H1 fun zs H2 => zs.length = l ∧ sp (gV [x] zs) H2 Q E0
theorem pe_methK {pl : Sem Bool} (he : PE X o to) (c : Cls X.K C) (hm : Meth X.K C m f) (F : FnG X.prog X.w X.K X.mg X.base k f fd ps sp) (hr : RmG k X.A) (hb : KBn X.K fd ps 1 ks g gV) (hkw : PK X kws tk)
    (h1 : (backToKw pos (keywordEach kws X.env)).all (·.1.isSome) = true := by rfl) (h2 : (backToKw pos (keywordEach kws X.env)).filterMap (·.1) = ks := by rfl)
    (h4 : ((backTo pos (starEach [] X.env)).any (·.1) || (backToKw pos (keywordEach kws X.env)).any (·.1.isNone)) = false := by rfl)
    (ht : eval (.Call (.Attribute o m apos) [] kws pos) X.env = (do
      let ov ← eval o X.env
      standAt apos.atName
      let (f, first) ← holding [ov] (getMethod ov m pl)
      callWith pos f first (backTo pos (starEach [] X.env)) (backToKw pos (keywordEach kws X.env))) := by rfl) :
    PE X (.Call (.Attribute o m apos) [] kws pos) (tMKn C m ks.length sp gV to tk) := by
  refine ⟨fun pins s σ H Q I h => PySem.W.methodCall_KW (pl := pl) (thn (he.run pins s σ H _ I h) fun u s1 ⟨x, H1, I1, rx, a, dx, fs, ex, ea, l, q⟩ => ?_) ht⟩
  subst ex
  obtain rfl : u = Value.ref a := rx
  refine getmeth_ok I1 ea c hm l (PySem.W.callWith_KW0 (first := [.ref a]) (h₀ := X.base) I.ok.mod.kin hm.kp h1 ?_ h4)
  refine thn (hkw.run pos pins s1 σ H1 _ I1 q) fun ws s2 ⟨zs, H2, I2, rz, l, q⟩ => ⟨I2.kIn, ?_⟩
  rw [h2]
  refine wpAny_call (codeAny_mono (run_G F hr I2 (hb.to s2 [.ref a] ws I2.kIn rfl (rz.length.symm.trans l)) (hb.rel (.cons (show RelV (V.ref a) (Value.ref a) from rfl) .nil) rz) q) fun r s' hq => ?_)
  obtain ⟨u, rfl, z⟩ := hq
  exact z
/-- C(e, ..) whose __init__ may raise; E: what is wanted then, at these slots -/
def tMakeS (C : Addr) (sp : Sp) (E : L2.St → XK) (t : TA) : TE := fun σ H Q => t σ H fun vs H1 => ∀ x dx, H1 x = none → H1 dx = none → dx ≠ x →
  sp (.ref x :: vs) (upd (upd H1 dx (.own x)) x (.ins C dx [])) (fun v H2 => v = .non ∧ Q (.ref x) H2) (E σ)
theorem pe_makeS {E : L2.St → XK} (M : Mk X.K C f) (F : FnOk X.prog X.w X.K X.mg X.base CX k f fd ps sp) (hr : Room (k + 1) X.A) (hg : Gl X x) (hm : X.mg x = some (.ref C)) (hb : Binds X.K fd ps []) (hx : ∀ σ, PassesAt CX X σ (E σ))
    (ha : PA X (e :: es) t) (h1 : (x == ("__debug__" : Str)) = false := by decide) (h2 : starEach (e :: es) X.env = (false, eval e X.env) :: starEach es X.env := by rfl) (h3 : (backTo pos (starEach es X.env)).any (·.1) = false := by rfl) :
    PE X (.Call (.Name x p) (e :: es) [] pos) (tMakeS C sp E t) := by
  refine ⟨fun pins s σ H Q I h => wpAny_Call_Name_kw (ld_glob I hg hm (PySem.W.callWith_K (h₀ := X.base) I.ok.mod.kin M.kp (thn (ha.run pos pins s σ H _ I h) fun us s1 ⟨vs, H1, I1, r, q⟩ => ⟨I1.kIn, ?_⟩) h2 h3) h1)⟩
  have q2 := q (s1.heap.objs.size + 1) s1.heap.objs.size (I1.hok.fresh (Nat.le_succ _)) (I1.hok.fresh (Nat.le_refl _)) (Nat.ne_of_lt (Nat.lt_succ_self _))
  have I2 := Inv.made (C := C) I1
  have r2 : Vals (V.ref (s1.heap.objs.size + 1) :: vs) (Value.ref (s1.heap.objs.size + 1) :: us) := .cons rfl r
  have hl : (Value.ref (s1.heap.objs.size + 1) :: us).length = ps.length := r2.length.symm.trans (F.len _ _ _ _ q2)
  have b := hb _ (Value.ref (s1.heap.objs.size + 1) :: us) I2.kIn (by rw [List.append_nil]; exact hl)
  rw [List.append_nil] at b
  refine wpAny_call (make_map (f := f) I1.kIn M.makes M.init (beq_iff_eq.mp M.fn) (codeAny_mono (F.run _ X.stack _ _ ⟨Value.ref (s1.heap.objs.size + 1) :: us, []⟩ _ _ _ (E σ) (hr.make C us []) (I2.env0.make C us []) b r2 q2) fun r s' hq => ?_))
  rcases r with er | fl
  · exact hx σ pins _ _ er s' I2 hq
  · cases fl with
    | ret u =>
      obtain ⟨v, H', I3, rv, ev, q3⟩ := I2.after hq
      subst ev
      exact ⟨rv, ⟨V.ref (s1.heap.objs.size + 1), H', I3, rfl, q3⟩⟩
    | next => exact hq.elim
    | brk => exact hq.elim
    | cont => exact hq.elim
/-- isinstance(e, c), e the error that the suite holds, of the class at D -/
theorem call_isE2 {a D : Addr} {oe : Obj} {d : Option Addr} {pn : List (Addr × Obj)} (T : L2.ExcC X.K D) (hz : Zc (.ref D) d oe) (hf : ∃ vs, oe.data = .fields vs) :
    CallR (X.suite a ((a, oe) :: pn)) (.builtin "isinstance") (fun xs H Q => ∃ (c : V) (u : Value) (b : Bool), xs = [.ref a, c] ∧ ClsV c u ∧ PySem.W.kitOne X.K (.ref D) u = some b ∧ (d = none ∨ ∃ dd fs, d = some dd ∧ H dd = some (.xd fs) ∧ fs.lookup ("__class__" : Str) = none) ∧ Q (.bl b) H) := by
  intro pins s σ H xs us Q I r h
  obtain ⟨c, u, b, rfl, hc, e, hd, q⟩ := h
  obtain ⟨u1, u2, rfl, r1, r2⟩ := vals2 r
  obtain rfl : u1 = Value.ref a := r1
  have e2 := hc.eq r2
  subst e2
  obtain ⟨ha, _⟩ := I.pin (a, oe) (List.mem_append_left _ List.mem_cons_self)
  obtain ⟨vs, hv⟩ := hf
  have hcl : (PySem.W.clsIn X.K D).isSome = true := by
    obtain ⟨cd, z, _⟩ := PySem.W.any_some T.hd
    rw [z]
    rfl
  obtain ⟨od, J⟩ : ∃ od, PySem.W.InstAt s.heap a oe D od := by
    rcases hd with rfl | ⟨dd, fs, rfl, hx, _⟩
    · exact ⟨none, ha, hz.1, by unfold PySem.W.notCls; rw [hv] <;> rfl, by rw [hz.2]; trivial⟩
    · obtain ⟨mA, hns, _⟩ := (show ObjOk X.prog X.w H s.heap dd (.xd fs) from I.hok dd _ hx)
      obtain ⟨od, ho, _⟩ := lookIn_ns hns
      exact ⟨some od, ha, hz.1, by unfold PySem.W.notCls; rw [hv] <;> rfl, by rw [hz.2]; exact ho⟩
  exact PySem.W.kia_one (PySem.W.kitx_exc (x := a) (ox := oe) (od := od) hcl T.hg T.hk T.hs T.ha T.hn T.ht T.hm) I.kIn J e (fun z => nomatch z) fun tk => ⟨.bl b, H, I.tok tk, rfl, q⟩
end
end Gd
namespace Gd
open PySem PySem.Spec PyProof.Rows L2
section
variable {X : Cx}
/-- t.index(n), n in it -/
theorem mt_indexI : MtR X "tuple.index" (fun x xs H Q => ∃ (p : Addr) (ns : List Int) (z : Int), x = .ref p ∧ xs = [.int z] ∧ SqT X.K H p (ns.map V.int) ∧ z ∈ ns ∧ Q (.int (ns.idxOf z : Nat)) H) := by
  intro pins s σ H x xs v us Q I rx rs h
  obtain ⟨p, ns, z, rfl, rfl, hq, hz, q⟩ := h
  obtain rfl : v = Value.ref p := rx
  obtain ⟨u, rfl, t, rfl⟩ := vals1 rs
  obtain ⟨its, r, pl, _⟩ := I.tuple hq
  exact PySem.SeqAt.tuple_index_ints pl (intsAre_of r) hz ⟨.int (ns.idxOf z : Nat), H, I.tok _, ⟨_, rfl⟩, q⟩
/-- (x,) * k -/
theorem op_rep1 : OpR X (binaryOp .Mult) (fun x y H Q => ∃ (l : Addr) (k : Int) (z : V), x = .ref l ∧ y = .int k ∧ SqT X.K H l [z] ∧ 2 ≤ k ∧ k ≤ 100000 ∧ ∀ p, H p = none → Q (.ref p) (upd H p (.tup (List.replicate k.toNat z)))) := by
  intro pins s σ H x y v u Q I rx ry h
  obtain ⟨l, k, z, rfl, rfl, hT, h1, h2, q⟩ := h
  obtain rfl : v = Value.ref l := rx
  obtain ⟨t, rfl⟩ := ry
  obtain ⟨its, r, ⟨⟨cls, dd, data, sl⟩, ho, hc, n, hd⟩, hs⟩ := I.tuple hT
  simp only at hc hd
  subst hc hd
  obtain ⟨u0, rfl, r0⟩ := vals1 r
  have e1 : ([u0] : List Value).toArray.size = 1 := rfl
  have fl : (List.replicate k.toNat [u0]).flatten = List.replicate k.toNat u0 := by
    generalize k.toNat = m
    induction m with
    | zero => rfl
    | succ m ih => rw [List.replicate_succ, List.flatten_cons, ih, List.replicate_succ]; rfl
  have c0 : (decide (k < -(2 ^ 63)) || decide (k ≥ 2 ^ 63)) = false := by rw [decide_eq_false (by omega), decide_eq_false (by omega)]; rfl
  have c1 : (([u0] : List Value).toArray.isEmpty || k == 1) = false := by
    rw [show ([u0] : List Value).toArray.isEmpty = false from rfl, Bool.false_or]
    exact beq_eq_false_iff_ne.mpr (by omega)
  have c2 : (decide (k ≤ 0) || ([u0] : List Value).toArray.isEmpty) = false := by
    rw [show ([u0] : List Value).toArray.isEmpty = false from rfl, Bool.or_false]
    exact decide_eq_false (by omega)
  have c4 : Builtin.Tuple.tupleTooMany (((([u0] : List Value).toArray.size : Nat) : Int) * k) = false := by
    unfold Builtin.Tuple.tupleTooMany
    rw [e1, sizeLine_eq]
    exact decide_eq_false (by omega)
  have hz : (List.replicate k.toNat u0).length ≤ sizeLine := by
    rw [List.length_replicate, sizeLine_eq]
    omega
  refine wpAny_binaryOp_repeat_ref (T := "tuple") (U := "int") (by decide) ⟨_, ho, rfl⟩ (fun s' => typeIs_int s' k t) noFill_tuple_mul F.fills_int_mul F.slot_int_rmul repeat_tuple F.slot_int_index.lookup
    (call_meets F.slot_int_rmul (typeIs_int s k t) F.entry_int_rmul (F.args_int_rmul_2 _ _) (int_rmul_tuple k t l ([u0] : List Value).toArray n dd sl)
      ⟨ho, rfl, ⟨_, ho, rfl⟩, call_meets F.slot_tuple_mul ⟨_, ho, rfl⟩ F.entry_tuple_mul (F.args_tuple_mul_2 _ _) (tuple_mulW l ([u0] : List Value).toArray n dd sl k t c0 c1 c2 (by rw [e1]; omega) c4 (by rw [size_rep, List.size_toArray, fl]; exact hz)) ⟨ho, ?_⟩⟩)
  rw [size_rep, fl]
  refine ⟨.ref s.heap.objs.size, _, I.laid (t' := s.toks) (o := .tup (List.replicate k.toNat z)) (fun b ob q => Heap.get?_push_of_some _ q) (Nat.le_refl _) ?_, rfl, q _ (I.hok.fresh (Nat.le_refl _))⟩
  refine ⟨by rw [List.length_replicate, sizeLine_eq]; omega, List.replicate k.toNat u0, ?_, IsTup.new _ _⟩
  generalize k.toNat = m
  induction m with
  | zero => exact .nil
  | succ m ih => rw [List.replicate_succ, List.replicate_succ]; exact .cons r0 ih
end
end Gd
namespace Gd
open PySem PySem.Spec PyProof.Rows L2
/-- a tuple that is known to have no attributes of its own -/
def PlT (H : Hp) (p : Addr) (xs : List V) : Prop := ∃ o : Obj, o.cls = .type "tuple" ∧ o.dict = none ∧ H p = some (.frz o (.tup xs))
theorem PlT.sq {K : PySem.W.Frag} {H : Hp} {p : Addr} {xs : List V} (h : PlT H p xs) : SqT K H p xs := let ⟨o, _, _, e⟩ := h; .inl (.inr ⟨o, e⟩)
theorem PlT.same {H G : Hp} {p : Addr} {xs : List V} (h : PlT H p xs) (e : Same H G) : PlT G p xs := let ⟨o, a, b, z⟩ := h; ⟨o, a, b, e _ _ z⟩
theorem PlT.keep {H G : Hp} {p : Addr} {xs : List V} (h : PlT H p xs) (e : KeepT H G) : PlT G p xs := let ⟨o, a, b, z⟩ := h; ⟨o, a, b, e _ _ z (by intro _ q; cases q)⟩
section
variable {X : Cx} {o e : Expr} {es : List Expr} {to : TE} {t : TA} {name : Str} {apos cpos : Pos} {id : String} {r : V → List V → Hp → VK → Prop}
/-- tuple(xs), xs a list: no attributes -/
theorem call_tuple_pl : CallR X (.type "tuple") (fun xs H Q => ∃ p ys, xs = [.ref p] ∧ SqL X.K H p ys ∧ ∀ l G, H l = none → Same H G → PlT G l ys → Q (.ref l) G) := by
  intro pins s σ H xs us Q I r h
  obtain ⟨p, ys, rfl, hq, q⟩ := h
  obtain ⟨u, rfl, rx⟩ := vals1 r
  cases rx
  obtain ⟨its, r', pl, hz⟩ := I.list hq
  have hlen := r'.length
  refine call_tuple_list pl.isList (fun h' kp => ?_) (by simp only [List.size_toArray] <;> omega)
  have I1 : Inv X pins σ H { s with heap := h' } := I.kept (t' := s.toks) kp
  have hn := I1.hok.fresh (Nat.le_refl _)
  have I2 : Inv X pins σ (upd H h'.objs.size (.frz { cls := .type "tuple", data := .seq its.toArray } (.tup ys))) { s with heap := h'.push { cls := .type "tuple", data := .seq its.toArray } } :=
    I1.laid (t' := s.toks) (fun b o e => Heap.get?_push_of_some _ e) (Nat.le_refl _) (show ObjOk X.prog X.w _ _ _ (.frz _ (.tup ys)) from ⟨Heap.get?_push_size _ rfl, hz, its, r', IsTup.new _ _⟩)
  exact ⟨.ref h'.objs.size, _, I2, rfl, q _ _ hn (same_new hn) ⟨_, rfl, rfl, upd_same⟩⟩
/-- t.m(e, ..), t such a tuple -/
def tBMT (r : V → List V → Hp → VK → Prop) (to : TE) (t : TA) : TE := fun σ H Q => to σ H fun x H1 => (∃ p ys, x = .ref p ∧ PlT H1 p ys) ∧ t σ H1 fun xs H2 => r x xs H2 Q
theorem pe_bmT (pa : PlainAttrs "tuple") (slot : Slot "tuple" name id) (hty : typeOf (.builtin id) = pure (.type "method_descriptor")) (hm : MtR X id r) (ho : PE X o to) (ha : PA X (e :: es) t)
    (hbase : attributeBase o name X.env (eval o X.env) = eval o X.env := by rfl)
    (hfew : ((backTo cpos (starEach (e :: es) X.env)).all (fun x => !x.1) && (backToKw cpos (keywordEach [] X.env)).all (fun x => x.1.isSome)
      && decide ((e :: es).length + ([] : List Keyword).length + (if ([] : List Keyword).isEmpty then 0 else 1) < 30)) = true := by rfl)
    (hline : (apos.endLine == cpos.line) = true := by rfl) (hs : starEach (e :: es) X.env = (false, eval e X.env) :: starEach es X.env := by rfl) (hplain : (backTo cpos (starEach es X.env)).any (·.1) = false := by rfl) :
    PE X (.Call (.Attribute o name apos) (e :: es) [] cpos) (tBMT r to t) := by
  refine ⟨fun pins s σ H Q I h => ?_⟩
  refine wpAny_Call_method_late hbase hfew hline rfl (thn (ho.run pins s σ H _ I h) fun v s1 ⟨x, H1, I1, r1, ty, q1⟩ => ?_)
  obtain ⟨p, ys, rfl, ob, hc, hd, hq⟩ := ty
  obtain rfl : v = Value.ref p := r1
  have ho := (I1.hok p _ hq).1
  refine ⟨"tuple", id, pa, slot, hty, ⟨ob, ho, hc⟩, fun a e => ?_, ?_⟩
  · cases e
    exact ⟨ob, ho, hd⟩
  have hA := ha.run cpos pins s1 σ H1 _ I1 q1
  rw [hs] at hA ⊢
  refine Calls.callWith_builtin (by show (false || (backTo cpos (starEach es X.env)).any (·.1)) = false; rw [hplain] <;> rfl) (Calls.evalArgs_plain ?_)
  exact thn hA fun us s2 ⟨vs, H2, I2, r2, q2⟩ => hm pins s2 σ H2 (.ref p) vs _ us Q I2 rfl r2 q2
end
end Gd
/-! What further laws share: values told by their types, numbers, sorted lists, frames. -/
namespace Gd
open PySem PySem.Spec PyProof.Rows L2
/-- a value of a built-in type, by the name of the type -/
def TyN (K : PySem.W.Frag) (H : Hp) (x : V) (n : String) : Prop := TyX K H x (.type n)
theorem TyN.int {K : PySem.W.Frag} {H : Hp} (i : Int) : TyN K H (.int i) "int" := .base (.int i)
theorem TyN.bl {K : PySem.W.Frag} {H : Hp} (b : Bool) : TyN K H (.bl b) "bool" := .base (.bl b)
theorem TyN.non {K : PySem.W.Frag} {H : Hp} : TyN K H .non "NoneType" := .base .non
theorem TyN.str {K : PySem.W.Frag} {H : Hp} (x : Str) : TyN K H (.str x) "str" := .base (.str x)
theorem tyX_same {K : PySem.W.Frag} {H G : Hp} (e : Same H G) {x : V} {t : Value} (h : TyX K H x t) : TyX K G x t := by
  cases h with
  | base b =>
    cases b with
    | non => exact .base .non
    | bl y => exact .base (.bl y)
    | int i => exact .base (.int i)
    | str y => exact .base (.str y)
    | flt y => exact .base (.flt y)
    | lst q => exact .base (.lst (e _ _ q))
    | frz q => exact .base (.frz (e _ _ q))
    | tup q => exact .base (.tup (e _ _ q))
    | dK q => exact .base (.dK (e _ _ q))
    | dT q => exact .base (.dT (e _ _ q))
    | ins q a b c d m => exact .base (.ins (e _ _ q) a b c d m)
  | byt b => exact .byt b
  | set q => exact .set (e _ _ q)
  | kList q c => exact .kList q c
  | kTuple q c => exact .kTuple q c
  | kDict q c => exact .kDict q c
  | fTuple q => exact .fTuple (e _ _ q)
  | fDict q => exact .fDict (e _ _ q)
/-- whether any value is a number below a limit -/
def NumV (K : PySem.W.Frag) (H : Hp) (lim : Int) (x : V) (b : Bool) : Prop :=
  (∃ i, x = .int i ∧ b = decide (0 ≤ i ∧ i < lim)) ∨ (∃ y, x = .bl y ∧ b = false) ∨ (∃ n, TyN K H x n ∧ kitB n "int" = some false ∧ b = false)
theorem NumV.same {K : PySem.W.Frag} {H G : Hp} (e : Same H G) {lim : Int} {x : V} {b : Bool} (h : NumV K H lim x b) : NumV K G lim x b :=
  h.imp id fun h => h.imp id fun ⟨n, t, k, z⟩ => ⟨n, tyX_same e t, k, z⟩
def NumVs (K : PySem.W.Frag) (H : Hp) (lim : Int) : List V → List Bool → Prop := Paired (NumV K H lim)
theorem paired_at {α β : Type} {R : α → β → Prop} : ∀ {xs : List α} {ys : List β} {i : Nat} {x : α}, Paired R xs ys → xs[i]? = some x → ∃ y, ys[i]? = some y ∧ R x y
  | _, _, _, _, .nil, e => by simp at e
  | _, _, 0, _, .cons r _, e => by simp at e; subst e; exact ⟨_, rfl, r⟩
  | _, _, i + 1, x, .cons _ t, e => by
    obtain ⟨y, h1, h2⟩ := paired_at (i := i) (x := x) t (by simpa using e)
    exact ⟨y, by simpa using h1, h2⟩
theorem tyT {K : PySem.W.Frag} {H : Hp} {c : Addr} {xs : List V} (h : SqT K H c xs) : TyN K H (.ref c) "tuple" := by
  rcases h with (z | ⟨o, z⟩) | ⟨o, its, n, hk, hc, _⟩
  · exact .base (.tup z)
  · exact .fTuple z
  · exact .kTuple hk hc
theorem nd_ints {l : List Nat} (h : l.Nodup) : (l.map fun a : Nat => (a : Int)).Nodup := by
  induction l with
  | nil => exact List.nodup_nil
  | cons a r ih =>
    obtain ⟨h1, h2⟩ := List.nodup_cons.mp h
    rw [List.map_cons]
    refine List.nodup_cons.mpr ⟨fun z => ?_, ih h2⟩
    obtain ⟨b, hb, e⟩ := List.mem_map.mp z
    have : b = a := by omega
    exact h1 (this ▸ hb)
theorem inV_ints (a : Int) (l : List Int) : inV (.int a) (l.map V.int) = decide (a ∈ l) := by
  induction l with
  | nil => rfl
  | cons b r ih =>
    have e : inV (.int a) ((b :: r).map V.int) = (eqV (.int b) (.int a) || inV (.int a) (r.map V.int)) := rfl
    rw [e, ih]
    by_cases h : b = a
    · subst h
      have : eqV (.int b) (.int b) = true := by simp [eqV]
      rw [this, Bool.true_or]
      exact (decide_eq_true List.mem_cons_self).symm
    · have : eqV (.int b) (.int a) = false := by simp [eqV, h]
      rw [this, Bool.false_or]
      exact decide_eq_decide.mpr ⟨fun z => List.mem_cons_of_mem _ z, fun z => (List.mem_cons.mp z).resolve_left fun e => h e.symm⟩
theorem flat_ints (l : List Int) : (l.map V.int).all flatV = true := List.all_eq_true.mpr fun x hx => by
  obtain ⟨n, _, rfl⟩ := List.mem_map.mp hx
  rfl
/-- sorted lists with the same things, each once, are one -/
theorem sorted_same : ∀ {a b : List Int}, a.Pairwise (· ≤ ·) → b.Pairwise (· ≤ ·) → a.Nodup → b.Nodup → (∀ x, x ∈ a ↔ x ∈ b) → a = b
  | [], [], _, _, _, _, _ => rfl
  | [], y :: s, _, _, _, _, h => absurd ((h y).mpr List.mem_cons_self) List.not_mem_nil
  | x :: r, [], _, _, _, _, h => absurd ((h x).mp List.mem_cons_self) List.not_mem_nil
  | x :: r, y :: s, pa, pb, na, nb, h => by
    obtain ⟨a1, a2⟩ := List.pairwise_cons.mp pa
    obtain ⟨b1, b2⟩ := List.pairwise_cons.mp pb
    obtain ⟨n1, n2⟩ := List.nodup_cons.mp na
    obtain ⟨m1, m2⟩ := List.nodup_cons.mp nb
    have e : x = y := by
      rcases List.mem_cons.mp ((h x).mp List.mem_cons_self) with z | z
      · exact z
      · rcases List.mem_cons.mp ((h y).mpr List.mem_cons_self) with z2 | z2
        · exact z2.symm
        · exact Int.le_antisymm (a1 y z2) (b1 x z)
    subst e
    rw [sorted_same a2 b2 n2 m2 fun z => ?_]
    constructor
    · intro hz
      rcases List.mem_cons.mp ((h z).mp (List.mem_cons_of_mem _ hz)) with q | q
      · exact absurd (q ▸ hz) n1
      · exact q
    · intro hz
      rcases List.mem_cons.mp ((h z).mpr (List.mem_cons_of_mem _ hz)) with q | q
      · exact absurd (q ▸ hz) m1
      · exact q
theorem cost_ints : ∀ l : List Int, costAll (l.map .int) = 12 * l.length
  | [] => by rw [List.map_nil, costAll]; rfl
  | x :: r => by
    rw [List.map_cons, costAll, cost_ints r, costD, List.length_cons]
    omega
theorem ints_fine {l : List Int} (h : ∀ x ∈ l, x.natAbs < 10 ^ 9) (hl : l.length ≤ 1000) : fine (.tuple (l.map .int)) = true ∧ (PyData.tuple (l.map .int)).depth ≤ 60 ∧ costD (.tuple (l.map .int)) ≤ sizeLine := by
  refine ⟨?_, ?_, ?_⟩
  · rw [fine]
    refine fineAll_mem fun d hd => ?_
    obtain ⟨x, hx, rfl⟩ := List.mem_map.mp hd
    rw [fine]
    exact decide_eq_true (h x hx)
  · rw [PyData.depth]
    have : PyData.depthAll (l.map .int) ≤ 1 := depthAll_mem fun d hd => by
      obtain ⟨x, _, rfl⟩ := List.mem_map.mp hd
      simp [PyData.depth]
    omega
  · rw [costD, cost_ints, sizeLine_eq]
    omega
theorem dp_tup {K : PySem.W.Frag} {H : Hp} {q : Addr} {l : List Int} (h : SqT K H q (l.map V.int)) : Dp K H (.ref q) (.tuple (l.map .int)) := .tup h (dpAll_ints l)
theorem map_at {ns : List Int} {i : Nat} {x : V} (h : (ns.map V.int)[i]? = some x) : ∃ n, ns[i]? = some n ∧ x = .int n := by
  rw [List.getElem?_map] at h
  cases e : ns[i]? with
  | none => rw [e] at h; cases h
  | some n => rw [e] at h; exact ⟨n, rfl, (Option.some.inj h).symm⟩
theorem paired_snoc {α β : Type} {R : α → β → Prop} : ∀ {xs : List α} {ys : List β} {x : α} {y : β}, Paired R xs ys → R x y → Paired R (xs ++ [x]) (ys ++ [y])
  | _, _, _, _, .nil, r => .cons r .nil
  | _, _, _, _, .cons a t, r => .cons a (paired_snoc t r)
theorem paired_mono {α β : Type} {R S : α → β → Prop} (h : ∀ a b, R a b → S a b) : ∀ {xs : List α} {ys : List β}, Paired R xs ys → Paired S xs ys
  | _, _, .nil => .nil
  | _, _, .cons a t => .cons (h _ _ a) (paired_mono h t)
/-- a statement's reading, kept shut -/
def tWr (t : TS) : TS := t
theorem ps_wr {X : Cx} {st : Stmt} {t : TS} (h : PS X st t) : PS X st (tWr t) := h
/-- isinstance(e, c), e the error that the suite holds; its class is told by the reading -/
theorem call_isE3 {X : Cx} {a D : Addr} {cls : Value} {oe : Obj} {d : Option Addr} {pn : List (Addr × Obj)} (T : L2.ExcC X.K D) (hz : Zc cls d oe) (hf : ∃ vs, oe.data = .fields vs) :
    CallR (X.suite a ((a, oe) :: pn)) (.builtin "isinstance") (fun xs H Q => cls = .ref D ∧ ∃ (c : V) (u : Value) (b : Bool), xs = [.ref a, c] ∧ ClsV c u ∧ PySem.W.kitOne X.K (.ref D) u = some b ∧ (d = none ∨ ∃ dd fs, d = some dd ∧ H dd = some (.xd fs) ∧ fs.lookup ("__class__" : Str) = none) ∧ Q (.bl b) H) := by
  intro pins s σ H xs us Q I r h
  obtain ⟨e, h⟩ := h
  subst e
  exact call_isE2 T hz hf pins s σ H xs us Q I r h
abbrev rTup (K : PySem.W.Frag) : List V → Hp → VK → Prop := fun xs H Q => ∃ p ys, xs = [.ref p] ∧ ((SqL K H p ys ∧ ∀ l, H l = none → Q (.ref l) (upd H l (.tup ys))) ∨ (SqT K H p ys ∧ Q (.ref p) H))
theorem call_tupK {X : Cx} : CallR X (.type "tuple") (rTup X.K) := call_tuple_of
theorem kit_yes {K : PySem.W.Frag} {A B : Addr} (h1 : PySem.W.isClsIn K B = true) (h2 : PySem.W.typeIn K (.ref B) = some (.type "type")) (h3 : PySem.W.subIn K (.ref A) (.ref B) = some true) : PySem.W.kitOne K (.ref A) (.ref B) = some true := by
  unfold PySem.W.kitOne
  split
  · rfl
  · have e : ((PySem.W.clsIn K B).isSome && PySem.W.typeIn K (.ref B) == some (.type "type")) = true := by
      have h1' : (PySem.W.clsIn K B).isSome = true := h1
      rw [h1', h2] <;> rfl
    show (if ((PySem.W.clsIn K B).isSome && PySem.W.typeIn K (.ref B) == some (.type "type")) = true then PySem.W.subIn K (.ref A) (.ref B) else none) = some true
    rw [if_pos e]
    exact h3
theorem kit_no {K : PySem.W.Frag} {A B : Addr} (h1 : PySem.W.isClsIn K B = true) (h2 : PySem.W.typeIn K (.ref B) = some (.type "type")) (h0 : PySem.W.subIn K (.ref A) (.ref A) = some true) (h3 : PySem.W.subIn K (.ref A) (.ref B) = some false) : PySem.W.kitOne K (.ref A) (.ref B) = some false := by
  have ne : (Value.ref A == Value.ref B) = false := by
    cases e : (Value.ref A == Value.ref B) with
    | false => rfl
    | true =>
      have z := eq_of_beq e
      rw [← z, h0] at h3
      cases h3
  unfold PySem.W.kitOne
  rw [ne]
  have e : ((PySem.W.clsIn K B).isSome && PySem.W.typeIn K (.ref B) == some (.type "type")) = true := by
    have h1' : (PySem.W.clsIn K B).isSome = true := h1
    rw [h1', h2] <;> rfl
  show (if ((PySem.W.clsIn K B).isSome && PySem.W.typeIn K (.ref B) == some (.type "type")) = true then PySem.W.subIn K (.ref A) (.ref B) else none) = some false
  rw [if_pos e]
  exact h3
/-- all stands as before but what is in S; all but lists stands as before -/
structure Frm (S : List Addr) (H G : Hp) : Prop where
  kt : KeepT H G
  ks : ∀ b o, b ∉ S → H b = some o → G b = some o
theorem Frm.same {S : List Addr} {H G : Hp} (e : Same H G) : Frm S H G := ⟨.of e, fun b o _ h => e b o h⟩
theorem Frm.trans {S : List Addr} {H G J : Hp} (a : Frm S H G) (b : Frm S G J) : Frm S H J := ⟨a.kt.trans b.kt, fun c o n h => b.ks c o n (a.ks c o n h)⟩
theorem Frm.mono {S T : List Addr} {H G : Hp} (a : Frm S H G) (h : ∀ x ∈ S, x ∈ T) : Frm T H G := ⟨a.kt, fun b o n e => a.ks b o (fun z => n (h b z)) e⟩
theorem Frm.put {S : List Addr} {H : Hp} {p : Addr} {xs : List V} {o : HO} (h : H p = some (.lst xs)) (m : p ∈ S) : Frm S H (upd H p o) := ⟨.put h, fun b x n e => (upd_ne fun z => n (by rw [z]; exact m)).trans e⟩
theorem Frm.new {S : List Addr} {H : Hp} {p : Addr} {o : HO} (h : H p = none) : Frm S H (upd H p o) := .same (same_new h)
theorem Frm.but {h l : Addr} {S : List Addr} {H G : Hp} {L : List Int} {st : Int} (v : Hv H h l L st) (b : But h l H G) (m1 : h ∈ S) (m2 : l ∈ S) : Frm S H G :=
  ⟨.but v b, fun c o n e => b c o (fun z => n (by rw [z]; exact m1)) (fun z => n (by rw [z]; exact m2)) e⟩
theorem Frm.seqT {K : PySem.W.Frag} {S : List Addr} {H G : Hp} {a : Addr} {xs : List V} (f : Frm S H G) (h : SqT K H a xs) : SqT K G a xs := f.kt.seqT h
theorem Hv.frm {h l : Addr} {S : List Addr} {H G : Hp} {L : List Int} {st : Int} (v : Hv H h l L st) (f : Frm S H G) (n1 : h ∉ S) (n2 : l ∉ S) : Hv G h l L st :=
  ⟨f.ks _ _ n1 v.top, f.ks _ _ n2 v.bot, v.ne, v.lo, v.hi, v.len⟩
theorem ixN_nat {n a : Nat} (h : a < n) : ixN n (a : Int) = some a := by
  unfold ixN
  rw [if_pos (by omega), if_pos (by omega)]
  rfl
theorem lc_str {x : Str} {g : TG} {tt : TT} {te : TE} {vs : List Nat} {σ : L2.St} {H1 : Hp} {D : Addr} {Qd : Hp → Prop} (Pv : Nat → Hp → Prop) (h0 : Pv 0 (upd H1 D (.lst [])))
    (hs : ∀ i c H, x.cps.toList[i]? = some c → Pv i H → g (.str ⟨#[c]⟩) (wipe σ vs) H fun σ2 H2 => wipe σ2 vs = wipe σ vs ∧ tt σ2 H2 fun b H3 =>
      if b = true then te σ2 H3 fun y H4 => ∃ acc, H4 D = some (.lst acc) ∧ acc.length < sizeLine ∧ Pv (i + 1) (upd H4 D (.lst (acc ++ [y]))) else Pv (i + 1) H3) (hd : ∀ H, Pv x.cps.toList.length H → Qd H) :
    ∃ W : Nat → Nat → Hp → Prop, (∃ m, W 0 m (upd H1 D (.lst []))) ∧ ∀ i m H, W i m H →
      ((Its x).stop i H ∧ Qd H) ∨ ((Its x).go i H ∧ ∃ Nx : Hp → Prop, (∀ H', Nx H' → ∃ m', m' < m ∧ W (i + 1) m' H') ∧ ∀ v H', (Its x).yld i H v H' → g v (wipe σ vs) H' fun σ2 H2 => wipe σ2 vs = wipe σ vs ∧ tt σ2 H2 fun b H3 =>
        if b = true then te σ2 H3 fun y H4 => ∃ acc, H4 D = some (.lst acc) ∧ acc.length < sizeLine ∧ Nx (upd H4 D (.lst (acc ++ [y]))) else Nx H3) := by
  refine ⟨fun i m H => m = x.cps.toList.length - i ∧ i ≤ x.cps.toList.length ∧ Pv i H, ⟨_, rfl, Nat.zero_le _, h0⟩, fun i m H hw => ?_⟩
  obtain ⟨rfl, hi, hp⟩ := hw
  by_cases hlt : i < x.cps.toList.length
  · refine .inr ⟨by show i < x.cps.size; simpa using hlt, Pv (i + 1), fun H' hp' => ⟨_, by omega, rfl, hlt, hp'⟩, fun v H' hy => ?_⟩
    obtain ⟨rfl, c, hc, rfl⟩ := hy
    exact hs i c _ (by simpa using hc) hp
  · have e : i = x.cps.toList.length := by omega
    subst e
    exact .inl ⟨by show x.cps.size ≤ _; simp, hd H hp⟩
end Gd
/-! enumerate of a tuple. -/
namespace Gd
open PySem PySem.Spec PyProof.Rows L2
set_option maxHeartbeats 1000000 in
theorem en_new {u : Value} {ob : Obj} {N : Heap → Prop} (B : Begins u ob N) :
    Meets (Builtin.«enumerate.__new__» ⟨[.type "enumerate", u], []⟩) (fun _ R z => N z.heap ∧
      R (.ok (.ret (.ref (z.heap.push ob).objs.size))) { z with heap := (z.heap.push ob).push { cls := .type "enumerate", data := .fields #[.none, .bool false, .ref z.heap.objs.size, rawInt 0, .none, .none] } }) := by
  refine .of_wp fun prog w A R z hz => ?_
  obtain ⟨hp, ga, dr, tk, os⟩ := z
  obtain ⟨n1, fin⟩ := hz
  have sb := sub_enumerate
  have it1 : ∀ {A2 : Around} {E2 : Value → Shared → Prop} {Q2 : Value → Shared → Prop}, Q2 (.ref hp.objs.size) ⟨hp.push ob, ga, dr, tk, os⟩ → wpAny (model prog w) A2 (pyIter u) Q2 E2 ⟨hp, ga, dr, tk, os⟩ :=
    fun y => B.iter prog w _ _ ⟨hp, ga, dr, tk, os⟩ _ n1 y
  wp_walk using it1
  refine wpAny_stack_any fun st => wpAny_pure ?_
  split
  · rename_i c _ _ _ _ _
    cases (c == Value.type "enumerate")
    · wp_walk using it1
      exact ⟨_, rfl, fin⟩
    · wp_walk using it1
      exact ⟨_, rfl, fin⟩
  · wp_walk using it1
    exact ⟨_, rfl, fin⟩
theorem en_call {prog : Program} {w : World} {A : Around} {E : Value → Shared → Prop} {z : Shared} {u : Value} {ob : Obj} {N : Heap → Prop} {Q : Value → Shared → Prop} (B : Begins u ob N) (n1 : N z.heap)
    (fin : ∀ g, IsEnum g (z.heap.objs.size + 1) z.heap.objs.size 0 .none → g.get? z.heap.objs.size = some ob → (∀ b o, z.heap.get? b = some o → g.get? b = some o) → Q (.ref (z.heap.objs.size + 1)) { z with heap := g }) :
    wpAny (model prog w) A (call (.type "enumerate") [u]) Q E z := by
  refine callType_new F.called_enumerate (by decide) (F.typeCall_enumerate_1 _) (F.newCall_enumerate_1 _) (fun x => F.args_object_init_2 x _) F.entry_enumerate_new (en_new B) ⟨n1, ?_⟩
  have sz : (z.heap.push ob).objs.size = z.heap.objs.size + 1 := Heap.size_push ..
  have top := Heap.get?_push_size (z.heap.push ob) (o := { cls := .type "enumerate", data := .fields #[.none, .bool false, .ref z.heap.objs.size, rawInt 0, .none, .none] }) rfl
  show _ ∧ _
  rw [sz] at top ⊢
  exact ⟨⟨_, top, rfl⟩, fin _ top (Heap.get?_push_of_some _ (Heap.get?_push_size _ B.free)) fun b o e => Heap.get?_push_of_some _ (Heap.get?_push_of_some _ e)⟩
/-- the tuple at a, each item in a new pair with its number -/
def ItEn (K : PySem.W.Frag) (a : Addr) : It where
  go i H := ∃ (xs : List V) (x : V), SqT K H a xs ∧ xs[i]? = some x
  yld i H v G := ∃ T x, v = .ref T ∧ H T = none ∧ G = upd H T (.tup [.int (i : Nat), x]) ∧ ∀ xs, SqT K H a xs → xs[i]? = some x
  stop i H := ∃ xs : List V, SqT K H a xs ∧ xs.length ≤ i
theorem turn_en {P : Program} {w : World} {K : PySem.W.Frag} {ts : List Expr} {kk : Nat} {tp : Pos} (a e r : Addr) :
    Turn P w K (.Tuple ts kk tp) (ItEn K a) [e, r] e (fun i h => (∃ old, IsEnum h e r ((i : Nat) : Int) old) ∧ h.IsTupleIter r a i) where
  mem := List.mem_cons_self
  obj := fun i h st b hb => by
    obtain ⟨⟨old, he⟩, o, ho, hc, hd⟩ := st
    rcases List.mem_cons.mp hb with z | z
    · subst z
      exact ⟨_, he, fun v q => nomatch q⟩
    · refine ⟨o, List.mem_singleton.mp z ▸ ho, fun v q => ?_⟩
      rw [hd] at q
      cases q
  keep := fun i h g st k => by
    obtain ⟨⟨old, he⟩, hr⟩ := st
    exact ⟨⟨old, k e List.mem_cons_self _ he⟩, hr.at fun o z => k r (List.mem_cons_of_mem _ List.mem_cons_self) o z⟩
  item := by
    intro X h1 h2 h3 calm i pins z σ H E I fp st gg
    subst h1 h2 h3
    obtain ⟨⟨old, he⟩, hr⟩ := st
    obtain ⟨xs, x, hq, hx⟩ := gg
    obtain ⟨its, rv, pt, _⟩ := I.tuple hq
    obtain ⟨u, hu, ru⟩ := rv.get hx
    have tup : z.heap.IsTuple a its.toArray := pt
    have el : e < z.heap.objs.size := Heap.lt_size he
    obtain ⟨o1, g1, c1, d1⟩ := id hr
    have rl : r < z.heap.objs.size := Heap.lt_size g1
    obtain ⟨o2, g2, c2, _⟩ := id tup
    have er : e ≠ r := fun q => by
      have y := Option.some.inj (he.symm.trans (q ▸ g1))
      rw [← y] at c1
      exact absurd (Value.type.inj c1) (by decide)
    have ea : e ≠ a := fun q => by
      have y := Option.some.inj (he.symm.trans (q ▸ g2))
      rw [← y] at c2
      exact absurd (Value.type.inj c2) (by decide)
    have ra : a ≠ r := fun q => by
      have y := Option.some.inj (g1.symm.trans (q ▸ g2))
      rw [← y, c1] at c2
      exact absurd (Value.type.inj c2) (by decide)
    have hd : X.A.in1.handled = none := I.ok.hd calm
    have hlt : i < its.toArray.size := by
      have q := (List.getElem?_eq_some_iff.mp hu).1
      simpa using q
    have nin : e ∉ [r, a] := fun q => (List.mem_cons.mp q).elim er fun q => ea (List.mem_singleton.mp q)
    refine wpAny_pyNext_enum_itemD (Draws.tuple (prog := X.prog) (w := X.w) hd r a ra its.toArray) he ⟨hr, tup⟩ hlt er nin fun y g tk py ho st2 hT hsz hk => ?_
    have hy : y = u := by
      have q : its.toArray[i]? = some y := py
      have q2 : its.toArray[i]? = some u := by simpa using hu
      exact Option.some.inj (q.symm.trans q2)
    subst hy
    refine ⟨_, rfl, wpAny_letOwnedTupleGo_enum (s := { z with heap := g, toks := tk + 1 }) ho fun g2 he2 sb => ?_⟩
    have keep : ∀ b o, b ∉ [e, r] → z.heap.get? b = some o → g2.get? b = some o := fun b o nb q => by
      have nbe : b ≠ e := fun w => nb (by rw [w]; exact List.mem_cons_self)
      have nbr : b ≠ r := fun w => nb (by rw [w]; exact List.mem_cons_of_mem _ List.mem_cons_self)
      exact (sb.2 b nbe).trans (hk b o nbe nbr q)
    have T2 : g2.get? z.heap.objs.size = some { cls := .type "tuple", data := .seq #[.int i tk, y] } := (sb.2 _ (Nat.ne_of_gt el)).trans hT
    have fit : ObjOk X.prog X.w (upd H z.heap.objs.size (.tup [.int (i : Nat), x])) g2 z.heap.objs.size (.tup [.int (i : Nat), x]) :=
      ⟨by show 2 ≤ sizeLine; decide, [.int i tk, y], .cons ⟨_, rfl⟩ (.cons ru .nil), ⟨_, T2, rfl, _, rfl⟩⟩
    have J : Inv X pins σ (upd H z.heap.objs.size (.tup [.int (i : Nat), x])) { z with heap := g2, toks := tk + 1 } := I.turnedNew (ch := [e, r]) keep fp (Nat.le_refl _) fit
    refine ⟨.ref z.heap.objs.size, _, J, rfl, ⟨_, x, rfl, I.hok.fresh (Nat.le_refl _), rfl, fun ys hy => by rw [I.tuple_inj hy hq]; exact hx⟩, ⟨⟨y, ?_⟩, ?_⟩, fun b hb => ?_⟩
    · have e1 : ((i + 1 : Nat) : Int) = (i : Int) + 1 := by omega
      rw [e1]
      exact he2
    · exact st2.1.at fun o q => (sb.2 r (Ne.symm er)).trans q
    · have lt : b < z.heap.objs.size := by
        rcases List.mem_cons.mp hb with w | w
        · exact w ▸ el
        · exact List.mem_singleton.mp w ▸ rl
      rw [upd_ne (Nat.ne_of_lt lt)]
      exact (fp b hb).1
  done := by
    intro X h1 h2 h3 calm i pins z σ H E I fp st gg
    subst h1 h2 h3
    obtain ⟨⟨old, he⟩, hr⟩ := st
    obtain ⟨xs, hq, hx⟩ := gg
    obtain ⟨its, rv, pt, _⟩ := I.tuple hq
    have tup : z.heap.IsTuple a its.toArray := pt
    have hl := rv.length
    obtain ⟨f0, f1, f2, f3, f4, f5⟩ := fp r (List.mem_cons_of_mem _ List.mem_cons_self)
    obtain ⟨o1, g1, c1, d1⟩ := id hr
    obtain ⟨o2, g2, c2, _⟩ := id tup
    have ra : a ≠ r := fun q => by
      have y := Option.some.inj (g1.symm.trans (q ▸ g2))
      rw [← y, c1] at c2
      exact absurd (Value.type.inj c2) (by decide)
    have hT : z.TypeIs (.ref e) "enumerate" := ⟨_, he, rfl⟩
    have hd : X.A.in1.handled = none := I.ok.hd calm
    unfold pyNext
    refine wpAny_bind (wpAny_attempt (wpAny_callSpecial?_slot (name := Str.ofString "__next__") hT F.slot_enumerate_next
      (wpAny_call_entry F.slot_enumerate_next hT F.entry_enumerate_next ?_ (F.args_enumerate_next_1 _))))
    show wpAny _ _ (field (.ref e) 2 >>= _) _ _ _
    refine wpAny_bind (wpAny_field he rfl (x := .ref r) rfl ?_)
    refine wpAny_bind (wpAny_nextOf_tuple_end hd hr tup (by simp; omega) fun g x hext hstop => ?_)
    obtain ⟨o, ho, hc⟩ := hstop
    refine wpAny_bind (wpAny_isInstance (T := "StopIteration") (b := true) ⟨o, ho, hc⟩ isSubtype_stop ?_)
    exact wpAny_pure ⟨rfl, I.turned (t' := z.toks) (fun b o hb q => hext b o hb q) f0 f1 f3 f4 f5⟩
  self := fun A i z Q E st h => by
    obtain ⟨⟨_, he⟩, _⟩ := st
    exact wpAny_pyIter_enum he h
def iEn (K : PySem.W.Frag) (ta : TA) : TI := fun σ H R => ta σ H fun vs G => ∃ a xs, vs = [.ref a] ∧ SqT K G a xs ∧ R (ItEn K a) G
/-- for i, x in enumerate(t) -/
theorem pi_enT {X : Cx} {e : Expr} {ta : TA} {p pos tp : Pos} {ts : List Expr} {kk : Nat} (hg : Gl X "enumerate") (hm : X.mg "enumerate" = none) (ha : PA X [e] ta) (hs : starEach [e] X.env = [(false, eval e X.env)] := by rfl) :
    PI X (.Tuple ts kk tp) (.Call (.Name "enumerate" p) [e] [] pos) (iEn X.K ta) := by
  refine ⟨fun pins s σ H R I h => ?_⟩
  refine Call_ (ld_blt I hg hm boot_enumerate (PyProof.Rows.callWith_type1 (thn (ha.run pos pins s σ H _ I h) fun us s1 ⟨vs, H1, I1, r1, a, xs, ev, hq, q⟩ => ?_) hs rfl))
  subst ev
  obtain ⟨u, rfl, ru⟩ := vals1 r1
  obtain rfl : u = Value.ref a := ru
  obtain ⟨its, rv, pt, _⟩ := I1.tuple hq
  refine en_call (begins_tuple a its.toArray) (show s1.heap.IsTuple a its.toArray from pt) fun g he hr hk => wpAny_pyIter_enum he ?_
  have I2 : Inv X pins σ H1 { s1 with heap := g } := I1.kept (t' := s1.toks) hk
  refine ⟨s1.heap.objs.size + 1, [s1.heap.objs.size + 1, s1.heap.objs.size], _, _, H1, rfl, I2, turn_en a (s1.heap.objs.size + 1) s1.heap.objs.size, ⟨⟨.none, he⟩, _, hr, rfl, rfl⟩, fun b hb => ?_, q⟩
  have ge : s1.heap.objs.size ≤ b := by
    rcases List.mem_cons.mp hb with z | z
    · exact z ▸ Nat.le_succ _
    · exact List.mem_singleton.mp z ▸ Nat.le_refl _
  exact I1.fpOk ge (I1.hok.fresh ge)
theorem for_en {K : PySem.W.Frag} {a : Addr} {xs : List V} {g : TG} {tb : TS} {D : Ends} {σ : L2.St} {H : Hp} (Pv : Nat → L2.St → Hp → Prop) (h0 : Pv 0 σ H) (stay : ∀ i σ G, i ≤ xs.length → Pv i σ G → SqT K G a xs)
    (hs : ∀ i x T σ G, xs[i]? = some x → Pv i σ G → G T = none → g (.ref T) σ (upd G T (.tup [.int (i : Nat), x])) fun σ2 H2 => tb { D with nx := Pv (i + 1), ct := Pv (i + 1), bk := D.nx } σ2 H2) (hd : ∀ σ G, Pv xs.length σ G → D.nx σ G) :
    ∃ W : Nat → Nat → L2.St → Hp → Prop, (∃ m, W 0 m σ H) ∧ ∀ i m σ H, W i m σ H →
      ((ItEn K a).stop i H ∧ D.nx σ H) ∨ ((ItEn K a).go i H ∧ ∃ N : L2.St → Hp → Prop, (∀ σ' H', N σ' H' → ∃ m', m' < m ∧ W (i + 1) m' σ' H') ∧ ∀ v H', (ItEn K a).yld i H v H' → g v σ H' fun σ2 H2 => tb { D with nx := N, ct := N, bk := D.nx } σ2 H2) := by
  refine ⟨fun i m σ G => m = xs.length - i ∧ i ≤ xs.length ∧ Pv i σ G, ⟨_, rfl, Nat.zero_le _, h0⟩, fun i m σ G hw => ?_⟩
  obtain ⟨rfl, hi, hp⟩ := hw
  have hq := stay i σ G hi hp
  by_cases hlt : i < xs.length
  · refine .inr ⟨⟨xs, xs[i], hq, List.getElem?_eq_getElem hlt⟩, Pv (i + 1), fun σ' H' hp' => ⟨_, by omega, rfl, hlt, hp'⟩, fun v G' hy => ?_⟩
    obtain ⟨T, x, rfl, hT, rfl, hx⟩ := hy
    exact hs i x T σ G (hx xs hq) hp hT
  · have e : i = xs.length := by omega
    subst e
    exact .inl ⟨⟨xs, hq, Nat.le_refl _⟩, hd σ G hp⟩
theorem lc_en {K : PySem.W.Frag} {a : Addr} {xs : List V} {g : TG} {tt : TT} {te : TE} {vs : List Nat} {σ : L2.St} {H1 : Hp} {D : Addr} {Qd : Hp → Prop} (Pv : Nat → Hp → Prop) (h0 : Pv 0 (upd H1 D (.lst []))) (stay : ∀ i G, i ≤ xs.length → Pv i G → SqT K G a xs)
    (hs : ∀ i x T G, xs[i]? = some x → Pv i G → G T = none → g (.ref T) (wipe σ vs) (upd G T (.tup [.int (i : Nat), x])) fun σ2 H2 => wipe σ2 vs = wipe σ vs ∧ tt σ2 H2 fun b H3 =>
      if b = true then te σ2 H3 fun y H4 => ∃ acc, H4 D = some (.lst acc) ∧ acc.length < sizeLine ∧ Pv (i + 1) (upd H4 D (.lst (acc ++ [y]))) else Pv (i + 1) H3) (hd : ∀ H, Pv xs.length H → Qd H) :
    ∃ W : Nat → Nat → Hp → Prop, (∃ m, W 0 m (upd H1 D (.lst []))) ∧ ∀ i m H, W i m H →
      ((ItEn K a).stop i H ∧ Qd H) ∨ ((ItEn K a).go i H ∧ ∃ Nx : Hp → Prop, (∀ H', Nx H' → ∃ m', m' < m ∧ W (i + 1) m' H') ∧ ∀ v H', (ItEn K a).yld i H v H' → g v (wipe σ vs) H' fun σ2 H2 => wipe σ2 vs = wipe σ vs ∧ tt σ2 H2 fun b H3 =>
        if b = true then te σ2 H3 fun y H4 => ∃ acc, H4 D = some (.lst acc) ∧ acc.length < sizeLine ∧ Nx (upd H4 D (.lst (acc ++ [y]))) else Nx H3) := by
  refine ⟨fun i m G => m = xs.length - i ∧ i ≤ xs.length ∧ Pv i G, ⟨_, rfl, Nat.zero_le _, h0⟩, fun i m G hw => ?_⟩
  obtain ⟨rfl, hi, hp⟩ := hw
  have hq := stay i G hi hp
  by_cases hlt : i < xs.length
  · refine .inr ⟨⟨xs, xs[i], hq, List.getElem?_eq_getElem hlt⟩, Pv (i + 1), fun H' hp' => ⟨_, by omega, rfl, hlt, hp'⟩, fun v G' hy => ?_⟩
    obtain ⟨T, x, rfl, hT, rfl, hx⟩ := hy
    exact hs i x T G (hx xs hq) hp hT
  · have e : i = xs.length := by omega
    subst e
    exact .inl ⟨⟨xs, hq, Nat.le_refl _⟩, hd G hp⟩
end Gd
/-! Tables as data and as objects: what the laws share. -/
namespace Gd
open PySem PySem.Spec PyProof.Rows L2
theorem strs_inv {K : PySem.W.Frag} {H : Hp} : ∀ {ss : List Str} {vs : List V}, DpAll K H vs (ss.map .str) → vs = ss.map V.str
  | [], _, h => by cases h; rfl
  | s :: r, _, h => by
    cases h with
    | cons a t =>
      cases a
      rw [strs_inv t]
      rfl
theorem ints_inv {K : PySem.W.Frag} {H : Hp} : ∀ {ns : List Int} {vs : List V}, DpAll K H vs (ns.map .int) → vs = ns.map V.int
  | [], _, h => by cases h; rfl
  | s :: r, _, h => by
    cases h with
    | cons a t =>
      cases a
      rw [ints_inv t]
      rfl
theorem tup_inv {K : PySem.W.Frag} {H : Hp} {v : V} {ds : List PyData} (h : Dp K H v (.tuple ds)) : ∃ q vs, v = .ref q ∧ SqT K H q vs ∧ DpAll K H vs ds := by
  cases h with
  | tup hs ha => exact ⟨_, _, rfl, hs, ha⟩
theorem tints_inv {K : PySem.W.Frag} {H : Hp} {v : V} {ns : List Int} (h : Dp K H v (.tuple (ns.map .int))) : ∃ q, v = .ref q ∧ SqT K H q (ns.map V.int) := by
  obtain ⟨q, vs, rfl, hs, ha⟩ := tup_inv h
  rw [ints_inv ha] at hs
  exact ⟨q, rfl, hs⟩
theorem dp_tup_strs {K : PySem.W.Frag} {H : Hp} {q : Addr} {l : List Str} (h : SqT K H q (l.map V.str)) : Dp K H (.ref q) (.tuple (l.map .str)) := .tup h (dpAll_strs l)
/-- a name: one to eight small letters -/
def Nm (z : Str) : Prop := (1 ≤ z.length ∧ z.length ≤ 8) ∧ ∀ c ∈ z.cps.toList, 97 ≤ c ∧ c ≤ 122
/-- names, ascending -/
def AscS (ss : List Str) : Prop := ss.Pairwise fun x y => x.cps.toList < y.cps.toList
def AscI (ns : List Int) : Prop := ns.Pairwise (· < ·)
theorem pw_next {α : Type} {R : α → α → Prop} : ∀ {l : List α} {i : Nat} {x y : α}, l.Pairwise R → l[i]? = some x → l[i + 1]? = some y → R x y
  | [], _, _, _, _, h, _ => by simp at h
  | a :: r, 0, x, y, p, h1, h2 => by
    simp at h1 h2
    subst h1
    exact (List.pairwise_cons.mp p).1 y (List.mem_of_getElem? h2)
  | a :: r, i + 1, x, y, p, h1, h2 => pw_next (l := r) (i := i) (List.pairwise_cons.mp p).2 (by simpa using h1) (by simpa using h2)
/-- whether any value is a tuple of numbers below a limit -/
def NumsV (K : PySem.W.Frag) (H : Hp) (lim : Int) (x : V) (b : Bool) : Prop :=
  (∃ n, TyN K H x n ∧ kitB n "tuple" = some false ∧ b = false) ∨ (∃ (p : Addr) (xs : List V) (bs : List Bool), x = .ref p ∧ SqT K H p xs ∧ xs.length ≤ 1000 ∧ NumVs K H lim xs bs ∧ b = bs.all id)
/-- names and lots -/
structure TD where
  kinds : List Str
  types : List (Str × List Int)
structure TOk (t : TD) : Prop where
  k1 : 1 ≤ t.kinds.length
  k8 : t.kinds.length ≤ 8
  kn : ∀ z ∈ t.kinds, Nm z
  ka : AscS t.kinds
  t12 : t.types.length ≤ 12
  tn : ∀ p ∈ t.types, Nm p.1
  ta : AscS (t.types.map (·.1))
  la : ∀ p ∈ t.types, AscI p.2
  lb : ∀ p ∈ t.types, ∀ n ∈ p.2, 0 ≤ n ∧ n < (t.kinds.length : Int)
def kindsD (t : TD) : PyData := .tuple (t.kinds.map .str)
def typeD (p : Str × List Int) : PyData := .tuple [.str p.1, .tuple (p.2.map .int)]
def typesD (t : TD) : PyData := .tuple (t.types.map typeD)
theorem asc_len {ns : List Int} {k : Nat} (h : AscI ns) (b : ∀ n ∈ ns, 0 ≤ n ∧ n < (k : Int)) : ns.length ≤ k := by
  have key : ∀ (l : List Int) (lo : Int), AscI l → (∀ n ∈ l, lo ≤ n ∧ n < (k : Int)) → (l.length : Int) ≤ max 0 ((k : Int) - lo) := by
    intro l
    induction l with
    | nil => intro lo _ _; simp; omega
    | cons x r ih =>
      intro lo p q
      obtain ⟨p1, p2⟩ := List.pairwise_cons.mp p
      have hx := q x List.mem_cons_self
      have := ih (x + 1) p2 fun n hn => ⟨by have := p1 n hn; omega, (q n (List.mem_cons_of_mem _ hn)).2⟩
      rw [List.length_cons]
      omega
  have := key ns 0 h b
  omega
theorem TOk.lot8 {t : TD} (h : TOk t) {p : Str × List Int} (m : p ∈ t.types) : p.2.length ≤ 8 := Nat.le_trans (asc_len (h.la p m) (h.lb p m)) h.k8
theorem kinds_sq {K : PySem.W.Frag} {H : Hp} {pk : Addr} {t : TD} (h : Dp K H (.ref pk) (kindsD t)) : SqT K H pk (t.kinds.map V.str) := by
  obtain ⟨q, vs, e, hs, ha⟩ := tup_inv h
  cases e
  rw [strs_inv ha] at hs
  exact hs
theorem types_sq {K : PySem.W.Frag} {H : Hp} {pt : Addr} {t : TD} (h : Dp K H (.ref pt) (typesD t)) : ∃ us, SqT K H pt us ∧ DpAll K H us (t.types.map typeD) := by
  obtain ⟨q, vs, e, hs, ha⟩ := tup_inv h
  cases e
  exact ⟨vs, hs, ha⟩
theorem type_inv {K : PySem.W.Frag} {H : Hp} {v : V} {p : Str × List Int} (h : Dp K H v (typeD p)) : ∃ q l, v = .ref q ∧ SqT K H q [.str p.1, .ref l] ∧ SqT K H l (p.2.map V.int) := by
  obtain ⟨q, vs, rfl, hs, ha⟩ := tup_inv h
  cases ha with
  | cons a r =>
  cases r with
  | cons b r =>
  cases r
  cases a
  obtain ⟨l, rfl, hl⟩ := tints_inv b
  exact ⟨q, l, rfl, hs, hl⟩
theorem type_at {K : PySem.W.Frag} {H : Hp} {us : List V} {t : TD} {i : Nat} {x : V} (h : DpAll K H us (t.types.map typeD)) (e : us[i]? = some x) : ∃ p, t.types[i]? = some p ∧ Dp K H x (typeD p) := by
  have hl := dpAll_len h
  rw [List.length_map] at hl
  have hi : i < t.types.length := by rw [← hl]; exact (List.getElem?_eq_some_iff.mp e).1
  obtain ⟨v, hv, dv⟩ := dpAll_get h (i := i) (d := typeD t.types[i]) (by rw [List.getElem?_map, List.getElem?_eq_getElem hi]; rfl)
  obtain rfl : v = x := Option.some.inj (hv.symm.trans e)
  exact ⟨_, List.getElem?_eq_getElem hi, dv⟩
theorem types_at {K : PySem.W.Frag} {H : Hp} {us : List V} {t : TD} {i : Nat} {p : Str × List Int} (h : DpAll K H us (t.types.map typeD)) (e : t.types[i]? = some p) : ∃ x, us[i]? = some x ∧ Dp K H x (typeD p) :=
  dpAll_get h (i := i) (d := typeD p) (by rw [List.getElem?_map, e]; rfl)
theorem noList_strs (l : List Str) : noListAll (l.map .str) = true := noListAll_mem fun d hd => by
  obtain ⟨x, _, rfl⟩ := List.mem_map.mp hd
  rfl
theorem noList_intsD (l : List Int) : noListAll (l.map .int) = true := noListAll_mem fun d hd => by
  obtain ⟨x, _, rfl⟩ := List.mem_map.mp hd
  rfl
theorem noList_kinds (t : TD) : noList (kindsD t) = true := by
  rw [kindsD, noList]
  exact noList_strs _
theorem noList_type (p : Str × List Int) : noList (typeD p) = true := by
  simp [typeD, noList, noListAll, noList_intsD]
theorem noList_types (t : TD) : noList (typesD t) = true := by
  rw [typesD, noList]
  exact noListAll_mem fun d hd => by
    obtain ⟨p, _, rfl⟩ := List.mem_map.mp hd
    exact noList_type p
mutual
theorem dp_sq {K : PySem.W.Frag} {H G : Hp} (e : ∀ a xs, SqT K H a xs → SqT K G a xs) : ∀ (d : PyData) (v : V), noList d = true → Dp K H v d → Dp K G v d
  | .none, _, _, h => by cases h; exact .non
  | .bool b, _, _, h => by cases h; exact .bl b
  | .int i, _, _, h => by cases h; exact .int i
  | .str x, _, _, h => by cases h; exact .str x
  | .list ds, _, n, _ => by simp [noList] at n
  | .tuple ds, _, n, h => by
    cases h with
    | tup hs ha => exact .tup (e _ _ hs) (dpAll_sq e ds _ (by simpa [noList] using n) ha)
  | .dict _, _, _, h => by cases h
theorem dpAll_sq {K : PySem.W.Frag} {H G : Hp} (e : ∀ a xs, SqT K H a xs → SqT K G a xs) : ∀ (ds : List PyData) (vs : List V), noListAll ds = true → DpAll K H vs ds → DpAll K G vs ds
  | [], _, _, h => by cases h; exact .nil
  | d :: ds, _, n, h => by
    have n' : noList d = true ∧ noListAll ds = true := by simpa [noListAll] using n
    cases h with
    | cons h1 h2 => exact .cons (dp_sq e d _ n'.1 h1) (dpAll_sq e ds _ n'.2 h2)
end
/-- tuples stand, where all but an instance stands -/
theorem sqT_ins {K : PySem.W.Frag} {H G : Hp} {p C dx : Addr} {fs : List (Str × V)} (hp : H p = some (.ins C dx fs)) (k : ∀ b o, b ≠ p → H b = some o → G b = some o) (a : Addr) (xs : List V) (h : SqT K H a xs) : SqT K G a xs := by
  rcases h with (z | ⟨o, z⟩) | z
  · exact .inl (.inl (k _ _ (ne_of z hp (by intro q; cases q)) z))
  · exact .inl (.inr ⟨o, k _ _ (ne_of z hp (by intro q; cases q)) z⟩)
  · exact .inr z
/-! costs -/
theorem nm_fine {z : Str} (h : Nm z) : fine (.str z) = true := fine_str.mpr fun c hc => by have := h.2 c hc; omega
theorem type_fine {p : Str × List Int} {k : Nat} (h : Nm p.1) (b : ∀ n ∈ p.2, 0 ≤ n ∧ n < (k : Int)) (hk : k ≤ 8) : fine (typeD p) = true := by
  have e : fineAll (p.2.map .int) = true := fineAll_mem fun d hd => by
    obtain ⟨x, hx, rfl⟩ := List.mem_map.mp hd
    have := b x hx
    rw [fine]
    exact decide_eq_true (by omega)
  simp only [typeD, fine, fineAll, e, Bool.and_true]
  have := nm_fine h
  rw [fine] at this
  exact this
theorem lot_cost (l : List Int) : costAll (l.map .int) = 12 * l.length := cost_ints l
theorem table_fine {t : TD} (h : TOk t) : (fine (kindsD t) = true ∧ (kindsD t).depth ≤ 5 ∧ costD (kindsD t) ≤ 1000) ∧ (fine (typesD t) = true ∧ (typesD t).depth ≤ 5 ∧ costD (typesD t) ≤ 10000) := by
  have cs : ∀ l : List Str, (∀ z ∈ l, Nm z) → costAll (l.map .str) ≤ 84 * l.length := fun l hl => by
    induction l with
    | nil => rw [List.map_nil, costAll]; exact Nat.le_refl 0
    | cons z r ih =>
      have h1 := ih fun y hy => hl y (List.mem_cons_of_mem _ hy)
      have h2 := (hl z List.mem_cons_self).1.2
      rw [List.map_cons, costAll, costD, List.length_cons]
      omega
  have ct : ∀ l : List (Str × List Int), (∀ p ∈ l, Nm p.1 ∧ p.2.length ≤ 8) → costAll (l.map typeD) ≤ 300 * l.length := fun l hl => by
    induction l with
    | nil => rw [List.map_nil, costAll]; exact Nat.le_refl 0
    | cons p r ih =>
      have h1 := ih fun y hy => hl y (List.mem_cons_of_mem _ hy)
      have h2 := (hl p List.mem_cons_self).1.1.2
      have h3 := (hl p List.mem_cons_self).2
      rw [List.map_cons, costAll, List.length_cons]
      simp only [typeD, costD, costAll, lot_cost]
      omega
  refine ⟨⟨?_, ?_, ?_⟩, ?_, ?_, ?_⟩
  · rw [kindsD, fine]
    exact fineAll_mem fun d hd => by
      obtain ⟨z, hz, rfl⟩ := List.mem_map.mp hd
      exact nm_fine (h.kn z hz)
  · rw [kindsD, PyData.depth]
    have : PyData.depthAll (t.kinds.map .str) ≤ 1 := depthAll_mem fun d hd => by
      obtain ⟨z, _, rfl⟩ := List.mem_map.mp hd
      simp [PyData.depth]
    omega
  · rw [kindsD, costD]
    have h1 := cs t.kinds h.kn
    have h2 := h.k8
    omega
  · rw [typesD, fine]
    exact fineAll_mem fun d hd => by
      obtain ⟨p, hp, rfl⟩ := List.mem_map.mp hd
      exact type_fine (h.tn p hp) (h.lb p hp) h.k8
  · rw [typesD, PyData.depth]
    have : PyData.depthAll (t.types.map typeD) ≤ 3 := depthAll_mem fun d hd => by
      obtain ⟨p, _, rfl⟩ := List.mem_map.mp hd
      have e : PyData.depthAll (p.2.map .int) ≤ 1 := depthAll_mem fun d hd => by
        obtain ⟨x, _, rfl⟩ := List.mem_map.mp hd
        simp [PyData.depth]
      simp only [typeD, PyData.depth, PyData.depthAll]
      omega
    omega
  · rw [typesD, costD]
    have h1 := ct t.types fun p hp => ⟨h.tn p hp, h.lot8 hp⟩
    have h2 := h.t12
    omega
/-! the object -/
theorem tk_ : ¬ (("types" : Str) = "kinds") := by decide +kernel
theorem kt_ : ¬ (("kinds" : Str) = "types") := fun z => tk_ z.symm
def tf (pk pt : Addr) : List (Str × V) := putF "types" (.ref pt) (putF "kinds" (.ref pk) [])
theorem tf_k (pk pt : Addr) : (tf pk pt).lookup ("kinds" : Str) = some (.ref pk) := by unfold tf; rw [lookup_putF, if_neg kt_, lookup_putF, if_pos rfl]
theorem tf_t (pk pt : Addr) : (tf pk pt).lookup ("types" : Str) = some (.ref pt) := by unfold tf; rw [lookup_putF, if_pos rfl]
theorem tf_no (pk pt : Addr) {m : Str} (h1 : ¬ m = "kinds") (h2 : ¬ m = "types") : (tf pk pt).lookup m = none := by
  unfold tf
  rw [lookup_putF, if_neg h2, lookup_putF, if_neg h1]
  rfl
theorem len_putF2 (f : Str) (v : V) : ∀ fs : List (Str × V), (putF f v fs).length ≤ fs.length + 1
  | [] => Nat.le_refl _
  | (g, u) :: r => by
    have ih := len_putF2 f v r
    unfold putF
    split
    · exact Nat.le_succ _
    · exact Nat.succ_le_succ ih
structure TblAt (K : PySem.W.Frag) (C : Addr) (H : Hp) (p dx pk pt : Addr) (t : TD) : Prop where
  obj : H p = some (.ins C dx (tf pk pt))
  kd : Dp K H (.ref pk) (kindsD t)
  td : Dp K H (.ref pt) (typesD t)
theorem TblAt.keep {K : PySem.W.Frag} {C : Addr} {H G : Hp} {p dx pk pt : Addr} {t : TD} (d : TblAt K C H p dx pk pt t) (k : KeepT H G) : TblAt K C G p dx pk pt t :=
  ⟨k _ _ d.obj (by intro _ q; cases q), dp_keep k _ _ (noList_kinds t) d.kd, dp_keep k _ _ (noList_types t) d.td⟩
theorem TblAt.same {K : PySem.W.Frag} {C : Addr} {H G : Hp} {p dx pk pt : Addr} {t : TD} (d : TblAt K C H p dx pk pt t) (k : Same H G) : TblAt K C G p dx pk pt t := d.keep (.of k)
structure TTxt (K : PySem.W.Frag) (mg : Str → Option Value) (C : Addr) : Prop where
  cl : Cls K C
  nK : NoAttr K C "kinds"
  nT : NoAttr K C "types"
  mgC : mg "Table" = some (.ref C)
end Gd
/-! The names that the laws draw: letters, order. -/
namespace Gd
open PySem PySem.Spec PyProof.Rows L2
theorem lt_tri : ∀ a b : List Nat, a < b ∨ a = b ∨ b < a
  | [], [] => .inr (.inl rfl)
  | [], y :: s => .inl List.Lex.nil
  | x :: r, [] => .inr (.inr List.Lex.nil)
  | x :: r, y :: s => by
    rcases Nat.lt_trichotomy x y with h | h | h
    · exact .inl (List.Lex.rel h)
    · subst h
      rcases lt_tri r s with h | h | h
      · exact .inl (List.Lex.cons h)
      · exact .inr (.inl (by rw [h]))
      · exact .inr (.inr (List.Lex.cons h))
    · exact .inr (.inr (List.Lex.rel h))
theorem lt_tr : ∀ {a b c : List Nat}, a < b → b < c → a < c := fun {a b c} h1 h2 => List.lt_trans h1 h2
theorem str_ext {x y : Str} (h : x.cps.toList = y.cps.toList) : x = y := by
  obtain ⟨a⟩ := x
  obtain ⟨b⟩ := y
  have : a = b := Array.toList_inj.mp h
  rw [this]
theorem rising_asc : ∀ (l : List Str) (p : Str), risingS p l = true → (p :: l).Nodup → AscS (p :: l)
  | [], p, _, _ => List.pairwise_singleton _ _
  | x :: r, p, h, n => by
    have h' : (!ltCps x.cps.toList p.cps.toList && risingS x r) = true := h
    obtain ⟨h1, h2⟩ := Bool.and_eq_true_iff.mp h'
    obtain ⟨n1, n2⟩ := List.nodup_cons.mp n
    have ih := rising_asc r x h2 n2
    have hlt : p.cps.toList < x.cps.toList := by
      rcases lt_tri p.cps.toList x.cps.toList with z | z | z
      · exact z
      · exact absurd (str_ext z ▸ List.mem_cons_self) n1
      · rw [ltCps_eq, decide_eq_true z] at h1
        cases h1
    refine List.pairwise_cons.mpr ⟨fun y hy => ?_, ih⟩
    rcases List.mem_cons.mp hy with e | e
    · exact e ▸ hlt
    · exact lt_tr hlt ((List.pairwise_cons.mp ih).1 y e)
theorem sorted_asc {l : List Str} (h : sortedS l = true) (n : l.Nodup) : AscS l := by
  cases l with
  | nil => exact List.Pairwise.nil
  | cons p r => exact rising_asc r p h n
theorem nodup_of {α : Type} : ∀ {l : List α}, (∀ (i j : Nat) (x : α), l[i]? = some x → l[j]? = some x → i = j) → l.Nodup
  | [], _ => List.nodup_nil
  | a :: r, h => by
    refine List.nodup_cons.mpr ⟨fun m => ?_, nodup_of fun i j x h1 h2 => ?_⟩
    · obtain ⟨k, hk, e⟩ := List.getElem_of_mem m
      have := h 0 (k + 1) a rfl (by rw [List.getElem?_cons_succ, List.getElem?_eq_getElem hk, e])
      omega
    · have := h (i + 1) (j + 1) x (by rw [List.getElem?_cons_succ]; exact h1) (by rw [List.getElem?_cons_succ]; exact h2)
      omega
/-- the letter of a place -/
def letN (first : Nat) (i : Nat) : Nat := 97 + (first + 7 * i) % 26
def nameN (front : Str) (first i : Nat) : Str := front ++ ⟨#[letN first i]⟩
/-- what stands ahead of the letter -/
def Front (z : Str) : Prop := z.length ≤ 7 ∧ ∀ c ∈ z.cps.toList, 97 ≤ c ∧ c ≤ 122
theorem name_cps (front : Str) (first i : Nat) : (nameN front first i).cps.toList = front.cps.toList ++ [letN first i] := app_list _ _
theorem name_len (front : Str) (first i : Nat) : (nameN front first i).length = front.length + 1 := by
  show (nameN front first i).cps.size = front.cps.size + 1
  have := congrArg List.length (name_cps front first i)
  simpa using this
theorem name_nm {front : Str} (h : Front front) (first i : Nat) : Nm (nameN front first i) := by
  have h1 := h.1
  refine ⟨by rw [name_len]; omega, fun c hc => ?_⟩
  rw [name_cps] at hc
  rcases List.mem_append.mp hc with z | z
  · exact h.2 c z
  · have e := List.mem_singleton.mp z
    unfold letN at e
    omega
theorem name_inj {front : Str} {first i j : Nat} (hi : i < 12) (hj : j < 12) (h : nameN front first i = nameN front first j) : i = j := by
  have e := congrArg (fun z : Str => z.cps.toList) h
  simp only [name_cps] at e
  have e2 := List.append_cancel_left e
  have e3 : letN first i = letN first j := by simpa using e2
  unfold letN at e3
  omega
def namesN (front : Str) (first n : Nat) : List Str := (List.range n).map (nameN front first)
theorem namesN_succ (front : Str) (first n : Nat) : namesN front first (n + 1) = namesN front first n ++ [nameN front first n] := by
  unfold namesN
  rw [List.range_succ, List.map_append]
  rfl
theorem namesN_len (front : Str) (first n : Nat) : (namesN front first n).length = n := by
  unfold namesN
  rw [List.length_map, List.length_range]
theorem namesN_get {front : Str} {first n i : Nat} {x : Str} (h : (namesN front first n)[i]? = some x) : i < n ∧ x = nameN front first i := by
  have hi : i < n := by
    have := (List.getElem?_eq_some_iff.mp h).1
    rw [namesN_len] at this
    exact this
  unfold namesN at h
  rw [List.getElem?_map, List.getElem?_range hi] at h
  exact ⟨hi, (Option.some.inj h).symm⟩
theorem namesN_at {front : Str} {first n i : Nat} (hi : i < n) : (namesN front first n)[i]? = some (nameN front first i) := by
  unfold namesN
  rw [List.getElem?_map, List.getElem?_range hi]
  rfl
/-- good names, each once -/
def GoodN (n : Nat) (l : List Str) : Prop := l.length = n ∧ (∀ z ∈ l, Nm z) ∧ l.Nodup
theorem names_good {front : Str} (h : Front front) (first : Nat) {n : Nat} (hn : n ≤ 12) : GoodN n (namesN front first n) := by
  refine ⟨namesN_len _ _ _, fun z hz => ?_, nodup_of fun i j x h1 h2 => ?_⟩
  · obtain ⟨i, _, rfl⟩ := List.mem_map.mp hz
    exact name_nm h _ _
  · obtain ⟨i1, e1⟩ := namesN_get h1
    obtain ⟨j1, e2⟩ := namesN_get h2
    exact name_inj (by omega) (by omega) (e1.symm.trans e2)
theorem names_o {front : Str} (h : Front front) (first : Nat) {n a : Nat} (hn : n ≤ 12) (hl : (nameN front first a).length < 8) {o : Str} (ho : o.cps.toList = [111]) : GoodN n ((namesN front first n).set a (nameN front first a ++ o)) := by
  have lo : o.length = 1 := by
    have := congrArg List.length ho
    simpa [Str.length] using this
  have l2 : (nameN front first a ++ o).length = front.length + 2 := by rw [strLen_append, name_len, lo]
  have nm2 : Nm (nameN front first a ++ o) := by
    rw [name_len] at hl
    refine ⟨by rw [l2]; omega, fun c hc => ?_⟩
    rw [app_list] at hc
    rcases List.mem_append.mp hc with z | z
    · exact (name_nm h first a).2 c z
    · rw [ho] at z
      have := List.mem_singleton.mp z
      omega
  refine ⟨by rw [List.length_set, namesN_len], fun z hz => ?_, nodup_of fun i j x h1 h2 => ?_⟩
  · rcases List.mem_or_eq_of_mem_set hz with m | m
    · obtain ⟨i, _, rfl⟩ := List.mem_map.mp m
      exact name_nm h _ _
    · exact m ▸ nm2
  · have key : ∀ i x, ((namesN front first n).set a (nameN front first a ++ o))[i]? = some x → (i = a ∧ x = nameN front first a ++ o) ∨ (i ≠ a ∧ i < n ∧ x = nameN front first i) := by
      intro i x hx
      by_cases z : i = a
      · subst z
        have hi := (List.getElem?_eq_some_iff.mp hx).1
        rw [List.length_set] at hi
        rw [List.getElem?_set_self hi] at hx
        exact .inl ⟨rfl, (Option.some.inj hx).symm⟩
      · rw [List.getElem?_set_ne (Ne.symm z)] at hx
        obtain ⟨q1, q2⟩ := namesN_get hx
        exact .inr ⟨z, q1, q2⟩
    rcases key i x h1 with ⟨a1, e1⟩ | ⟨a1, b1, e1⟩
    · rcases key j x h2 with ⟨a2, e2⟩ | ⟨a2, b2, e2⟩
      · rw [a1, a2]
      · have := congrArg Str.length (e1.symm.trans e2)
        rw [l2, name_len] at this
        omega
    · rcases key j x h2 with ⟨a2, e2⟩ | ⟨a2, b2, e2⟩
      · have := congrArg Str.length (e1.symm.trans e2)
        rw [l2, name_len] at this
        omega
      · exact name_inj (by omega) (by omega) (e1.symm.trans e2)
theorem good_perm {n : Nat} {l m : List Str} (h : GoodN n l) (p : m.Perm l) : GoodN n m := ⟨p.length_eq.trans h.1, fun z hz => h.2.1 z (p.mem_iff.mp hz), p.nodup_iff.mpr h.2.2⟩
abbrev zAbc : Str := Str.ofString "abcdefghijklmnopqrstuvwxyz"
theorem abc_at {i : Nat} (h : i < 26) : zAbc.cps.toList[i]? = some (97 + i) := by
  have : ∀ i : Fin 26, zAbc.cps.toList[i.val]? = some (97 + i.val) := by decide +kernel
  exact this ⟨i, h⟩
theorem front_lit {z : Str} (h : (decide (z.length ≤ 7) && z.cps.toList.all fun c => decide (97 ≤ c ∧ c ≤ 122)) = true) : Front z := by
  obtain ⟨h1, h2⟩ := Bool.and_eq_true_iff.mp h
  exact ⟨of_decide_eq_true h1, fun c hc => of_decide_eq_true (p := 97 ≤ c ∧ c ≤ 122) (List.all_eq_true.mp h2 c hc)⟩
end Gd
/-! {e for a in xs for b in ys}, numbers; len(set(t)). -/
namespace Gd
open PySem PySem.Spec PyProof.Rows L2
/-- the set comprehension with two clauses, no tests -/
abbrev sx (elt t0 i0 t1 i1 : Expr) (sc : Scope) (pos : Pos) : Expr := .SetComp elt [⟨t0, i0, [], 0⟩, ⟨t1, i1, [], 0⟩] sc pos
theorem sx_turn0 (elt t0 i0 t1 i1 : Expr) (sc : Scope) (pos : Pos) (it acc : Value) (env : Env) : compTurn (sx elt t0 i0 t1 i1 sc pos) 0 it acc env = (standAt i0.pos >>= fun _ => pyNext it >>= fun r => match r with
    | none => pure (.done .next)
    | some v => letOwnedTupleGo t0 it v >>= fun _ => assign t0 env v >>= fun _ =>
      (eval i1 env >>= fun x => standAt i1.pos >>= fun _ => foldedSetIterable i1 env x >>= fun x => holding [x] (pyIter x) >>= fun j => runOwn (.compStart (sx elt t0 i0 t1 i1 sc pos) 1 j acc env) env >>= fun _ =>
        again (.compLoop (sx elt t0 i0 t1 i1 sc pos) 0 it acc env))) := by rfl
theorem sx_turn1 (elt t0 i0 t1 i1 : Expr) (sc : Scope) (pos : Pos) (it acc : Value) (env : Env) : compTurn (sx elt t0 i0 t1 i1 sc pos) 1 it acc env = (standAt i1.pos >>= fun _ => pyNext it >>= fun r => match r with
    | none => pure (.done .next)
    | some v => letOwnedTupleGo t1 it v >>= fun _ => assign t1 env v >>= fun _ =>
      (eval elt env >>= fun x => standAt elt.pos >>= fun _ => call (.builtin "set.add") [acc, x] >>= fun _ => pure ()) >>= fun _ =>
        again (.compLoop (sx elt t0 i0 t1 i1 sc pos) 1 it acc env)) := by rfl
section
variable {prog : Program} {w : World} {A : Around} {R : Result → Shared → Prop} {z : Shared} {elt t0 i0 t1 i1 : Expr} {sc : Scope} {pos : Pos} {it acc : Value} {env : Env}
abbrev nB (prog : Program) (w : World) (A : Around) (env : Env) (R : Result → Shared → Prop) : Value → Shared → Prop := notedBy (model prog w) A env fun e y => R (.error e) y
/-- the first clause's loop -/
theorem sx_loop0 (hs : ∀ x, foldedSetIterable i1 env x = pure x) (J : Nat → Shared → Prop)
    (turn : ∀ n y, J n y → wpAny (model prog w) A (pyNext it) (fun r y1 => match r with
      | none => R (.ok .next) y1
      | some v => wpAny (model prog w) A (letOwnedTupleGo t0 it v) (fun _ y2 => wpAny (model prog w) A (assign t0 env v) (fun _ y3 => wpAny (model prog w) A (eval i1 env) (fun x y4 => wpAny (model prog w) A (pyIter x) (fun j y5 =>
          codeAny (model prog w) A (.compStart (sx elt t0 i0 t1 i1 sc pos) 1 j acc env) (fun r y6 => match r with
            | .ok _ => ∃ m, m < n ∧ J m y6
            | .error _ => False) y5) (nB prog w A env R) y4) (nB prog w A env R) y3) (nB prog w A env R) y2) (nB prog w A env R) y1) (nB prog w A env R) y)
    (n : Nat) (h : J n z) : codeAny (model prog w) A (.compLoop (sx elt t0 i0 t1 i1 sc pos) 0 it acc env) R z := by
  refine codeAny_loop rfl J (fun n y hJ => ?_) n h
  show wpAny _ A ((compTurn (sx elt t0 i0 t1 i1 sc pos) 0 it acc env).onRaise (fun x => do noteFrame x env; theTreesLotGoes x)) _ _ y
  refine wpAny_noted ?_
  rw [sx_turn0]
  refine wpAny_bind (wpAny_standAt (wpAny_bind (wpAny_mono (turn n y hJ) (fun r y1 q1 => ?_) fun _ _ e => e)))
  cases r with
  | none => exact wpAny_pure q1
  | some v =>
    refine wpAny_bind (wpAny_mono q1 (fun _ y2 q2 => wpAny_bind (wpAny_mono q2 (fun _ y3 q3 => wpAny_bind (wpAny_mono q3 (fun x y4 q4 => ?_) fun _ _ e => e)) fun _ _ e => e)) fun _ _ e => e)
    refine wpAny_bind (wpAny_standAt (wpAny_bind (wpAny_of_eq (hs x) (wpAny_bind (wpAny_holding (wpAny_mono q4 (fun j y5 q5 => ?_) fun _ _ e => e))))))
    refine wpAny_bind (wpAny_runOwn ?_)
    rw [Around.mark_none]
    refine codeAny_mono q5 fun r y6 hr => ?_
    cases r with
    | error e => exact hr.elim
    | ok f =>
      first
        | exact wpAny_pure ⟨rfl, hr⟩
        | exact wpAny_bind (wpAny_pure (wpAny_pure ⟨rfl, hr⟩))
/-- the second's -/
theorem sx_loop1 (J : Nat → Shared → Prop)
    (turn : ∀ n y, J n y → wpAny (model prog w) A (pyNext it) (fun r y1 => match r with
      | none => R (.ok .next) y1
      | some v => wpAny (model prog w) A (letOwnedTupleGo t1 it v) (fun _ y2 => wpAny (model prog w) A (assign t1 env v) (fun _ y3 => wpAny (model prog w) A (eval elt env) (fun x y4 =>
          wpAny (model prog w) A (call (.builtin "set.add") [acc, x]) (fun _ y5 => ∃ m, m < n ∧ J m y5) (nB prog w A env R) y4) (nB prog w A env R) y3) (nB prog w A env R) y2) (nB prog w A env R) y1) (nB prog w A env R) y)
    (n : Nat) (h : J n z) : codeAny (model prog w) A (.compLoop (sx elt t0 i0 t1 i1 sc pos) 1 it acc env) R z := by
  refine codeAny_loop rfl J (fun n y hJ => ?_) n h
  show wpAny _ A ((compTurn (sx elt t0 i0 t1 i1 sc pos) 1 it acc env).onRaise (fun x => do noteFrame x env; theTreesLotGoes x)) _ _ y
  refine wpAny_noted ?_
  rw [sx_turn1]
  refine wpAny_bind (wpAny_standAt (wpAny_bind (wpAny_mono (turn n y hJ) (fun r y1 q1 => ?_) fun _ _ e => e)))
  cases r with
  | none => exact wpAny_pure q1
  | some v =>
    refine wpAny_bind (wpAny_mono q1 (fun _ y2 q2 => wpAny_bind (wpAny_mono q2 (fun _ y3 q3 => ?_) fun _ _ e => e)) fun _ _ e => e)
    exact wpAny_bind (wpAny_bind (wpAny_mono q3 (fun x y4 q4 => wpAny_bind (wpAny_standAt (wpAny_bind (wpAny_mono q4 (fun _ y5 q5 => wpAny_pure (wpAny_pure ⟨rfl, q5⟩)) fun _ _ e => e)))) fun _ _ e => e))
/-- a clause's start -/
theorem sx_start {d : Nat} {g : Comprehension} (hg : (clausesOf (sx elt t0 i0 t1 i1 sc pos))[d]? = some g) (ha : g.is_async = 0) (h0 : codeAny (model prog w) A (.compLoop (sx elt t0 i0 t1 i1 sc pos) d it acc env) R z)
    (h1 : wpAny (model prog w) A (pyIter it) (fun j y => codeAny (model prog w) A (.compLoop (sx elt t0 i0 t1 i1 sc pos) d j acc env) R y) (notedBy (model prog w) A env fun x y => R (.error x) y) z) :
    codeAny (model prog w) A (.compStart (sx elt t0 i0 t1 i1 sc pos) d it acc env) R z := by
  refine codeAny_of_tree ?_
  show wpAny _ _ ((compStart (sx elt t0 i0 t1 i1 sc pos) d it acc env).onRaise (fun x => do noteFrame x env; standAt theWindowsPlace)) _ _ z
  refine wpAny_notedAt ?_
  unfold compStart
  rw [hg]
  have e0 : (Option.some g).elim false (fun x => x.is_async != 0) = false := by
    show (g.is_async != 0) = false
    rw [ha]
    rfl
  rw [e0]
  show wpAny _ _ (ask >>= _) _ _ z
  refine wpAny_bind (wpAny_askSetting (wpAny_ite ?_))
  split
  · first
      | exact wpAny_bind (wpAny_pure (wpAny_pure (And.intro rfl h0)))
      | exact wpAny_pure (And.intro rfl h0)
  · first
      | exact wpAny_bind (wpAny_rule (wpAny_bind (wpAny_standAt (wpAny_bind (wpAny_mono h1 (fun j y q => wpAny_pure (And.intro rfl q)) fun _ _ e => e)))))
      | (refine wpAny_bind (wpAny_rule ?_); show wpAny _ _ (standAt g.iter.pos >>= _) _ _ z; exact wpAny_bind (wpAny_standAt (wpAny_bind (wpAny_mono h1 (fun j y q => wpAny_pure (And.intro rfl q)) fun _ _ e => e))))
end
theorem fresh_set {prog : Program} {w : World} {A : Around} {E : Value → Shared → Prop} {z : Shared} {Q : Value → Shared → Prop}
    (h : Q (.ref z.heap.objs.size) { z with heap := z.heap.push { cls := .type "set", dict := none, data := .set #[] 0 (.fresh 0 0 (!w.params.followText "set-order")) } }) : wpAny (model prog w) A (newSet (.type "set")) Q E z := by
  unfold newSet
  refine wpAny_bind (wpAny_byText ?_)
  exact wpAny_newObj_type h (by show 0 ≤ _; exact Nat.zero_le _)
/-- the reading: the set at D, kept by W, W1 -/
def tSx (w : World) (wi : TI) (g : TG) (wi1 : TI) (g1 : TG) (te : TE) (vs vs1 : List Nat) : TE := fun σ H Q => wi σ H fun J H1 => ∀ D, H1 D = none → ∃ W : Nat → Nat → Hp → Prop, (∃ m, W 0 m (upd H1 D (SetO w D (fun _ => false) 0))) ∧ ∀ i m G, W i m G →
  (J.stop i G ∧ Q (.ref D) G) ∨ (J.go i G ∧ ∃ N : Hp → Prop, (∀ G', N G' → ∃ n, n < m ∧ W (i + 1) n G') ∧ ∀ x G', J.yld i G x G' → g x (wipe σ vs) G' fun σ2 G2 => wipe σ2 vs = wipe σ vs ∧ wi1 σ2 G2 fun J1 G3 => ∃ W1 : Nat → Nat → Hp → Prop, (∃ m, W1 0 m G3) ∧
    ∀ j k G4, W1 j k G4 → (J1.stop j G4 ∧ N G4) ∨ (J1.go j G4 ∧ ∃ N1 : Hp → Prop, (∀ G', N1 G' → ∃ n, n < k ∧ W1 (j + 1) n G') ∧ ∀ y G', J1.yld j G4 y G' → g1 y (wipe σ2 vs1) G' fun σ3 G5 => wipe σ3 vs1 = wipe σ2 vs1 ∧
      te σ3 G5 fun u G6 => ∃ (k0 : Int) (S : Int → Bool) (c : Nat), u = .int k0 ∧ G6 D = some (SetO w D S c) ∧ c + 1 < scanBound ∧ N1 (upd G6 D (SetO w D (fun a => S a || decide (a = k0)) (if S k0 = true then c else c + 1)))))
section
variable {X : Cx}
theorem pe_sx {elt t0 i0 t1 i1 : Expr} {sc : Scope} {own : List (Str × Nat)} {vs1 : List Nat} {pos : Pos} {wi wi1 : TI} {g g1 : TG} {te : TE} (hc : X.calm = true) (hN : X.N.Nodup) (hi : PI X t0 i0 wi) (ok : BlkOk X.N X.env.scope sc own) (hv : ∀ i ∈ vs1, i ∈ own.map (·.2))
    (hg : ∀ (s : Shared) (H : Hp) (C : Addr) (cl : List (Str × Addr)) (fp : List Addr), PG (X.blk s H sc (compEnvC sc cl C X.env) fp) t0 g) (hi1 : ∀ (s : Shared) (H : Hp) (C : Addr) (cl : List (Str × Addr)) (fp : List Addr), PI (X.blk s H sc (compEnvC sc cl C X.env) fp) t1 i1 wi1)
    (hg1 : ∀ (s : Shared) (H : Hp) (C : Addr) (cl : List (Str × Addr)) (fp : List Addr), PG (X.blk s H sc (compEnvC sc cl C X.env) fp) t1 g1) (he : ∀ (s : Shared) (H : Hp) (C : Addr) (cl : List (Str × Addr)) (fp : List Addr), PE (X.blk s H sc (compEnvC sc cl C X.env) fp) elt te)
    (hs : ∀ x, foldedSetIterable i0 X.env x = pure x := by intro _; rfl) (hs1 : ∀ env x, foldedSetIterable i1 env x = pure x := by intro _ _; rfl) :
    PE X (sx elt t0 i0 t1 i1 sc pos) (tSx X.w wi g wi1 g1 te (own.map (·.2)) vs1) := by
  refine ⟨fun pins s σ H Q I h => ?_⟩
  rw [arm_eval_SetComp]
  have hfree : ∀ y ∈ sc.names, y.2 = .free → ∃ c, X.env.cells.lookup y.1 = some c := fun y hy e => by
    rcases ok.free y hy e with k | k
    · exact I.ok.has _ (.inl k)
    · exact I.ok.has _ (.inr k)
  show wpAny _ _ (comprehension (sx elt t0 i0 t1 i1 sc pos) sc X.env (firstIterPos [⟨t0, i0, [], 0⟩, ⟨t1, i1, [], 0⟩] pos) (newSet (.type "set")) false (eval i0 X.env)) _ _ s
  refine wpAny_comprehension_free (use := none) rfl hs (closure_ok hfree) ok.kind (fun y hy e => by rw [ok.uniq y hy, e])
    (thn (hi.run pins s σ H _ I h) fun xv s1 hx => thn hx fun itv s2 h2 => ?_)
  obtain ⟨it, fp, tn, J, H2, e, I2, T, st2, f2, q⟩ := h2
  subst e
  refine fresh_set (newEnv_comp ?_)
  generalize hD : s2.heap.objs.size = D
  have nD : H2 D = none := I2.hok.fresh (Nat.le_of_eq hD)
  obtain ⟨W, ⟨m0, w0⟩, turn⟩ := q D nD
  have fr := setR_fresh (h := s2.heap) X.w
  rw [hD] at fr
  have big : ∀ b o, s2.heap.get? b = some o → (s2.heap.push { cls := .type "set", dict := none, data := .set #[] 0 (.fresh 0 0 (!X.w.params.followText "set-order")) }).get? b = some o := fun b o e => Heap.get?_push_of_some _ e
  have grow : s2.heap.objs.size < (s2.heap.push { cls := .type "set", dict := none, data := .set #[] 0 (.fresh 0 0 (!X.w.params.followText "set-order")) }).objs.size := by
    rw [Heap.size_push]
    exact Nat.lt_succ_self _
  generalize hp3 : s2.heap.push { cls := .type "set", dict := none, data := .set #[] 0 (.fresh 0 0 (!X.w.params.followText "set-order")) } = p3 at fr big grow ⊢
  generalize hs3 : ({ s2 with heap := p3 } : Shared) = s3
  have h3 : s3.heap = p3 := by rw [← hs3]
  have I3 : Inv X pins σ (upd H2 D (SetO X.w D (fun _ => false) 0)) s3 := by
    rw [← hs3]
    exact I2.laid (t' := s2.toks) big (Nat.le_of_eq hD) (setO_new fr)
  have szf : ∀ b ∈ fp, b < s2.heap.objs.size := fun b hb => by
    obtain ⟨o, e, _⟩ := T.obj _ _ st2 b hb
    exact Heap.lt_size e
  have f3 : ∀ b ∈ fp, FpOk X pins (upd H2 D (SetO X.w D (fun _ => false) 0)) b ∧ b < s3.heap.objs.size := fun b hb => by
    have lt := szf b hb
    refine ⟨⟨?_, (f2 b hb).2⟩, by rw [h3]; exact Nat.lt_trans lt grow⟩
    rw [upd_ne (by rw [← hD]; exact Nat.ne_of_lt lt)]
    exact (f2 b hb).1
  have st3 : tn 0 s3.heap := T.keep _ _ _ st2 fun b _ o e => by rw [h3]; exact big b o e
  have I4 := block_start I3 ok hN f3
  have pg := hg s3 (upd H2 D (SetO X.w D (fun _ => false) 0)) s3.heap.objs.size (cellsFrom (s3.heap.objs.size + 1) sc.names (cloFrom X.env.cells sc.names [])) fp
  have pe := he s3 (upd H2 D (SetO X.w D (fun _ => false) 0)) s3.heap.objs.size (cellsFrom (s3.heap.objs.size + 1) sc.names (cloFrom X.env.cells sc.names [])) fp
  have pj := hi1 s3 (upd H2 D (SetO X.w D (fun _ => false) 0)) s3.heap.objs.size (cellsFrom (s3.heap.objs.size + 1) sc.names (cloFrom X.env.cells sc.names [])) fp
  have ph := hg1 s3 (upd H2 D (SetO X.w D (fun _ => false) 0)) s3.heap.objs.size (cellsFrom (s3.heap.objs.size + 1) sc.names (cloFrom X.env.cells sc.names [])) fp
  have nfp : ∀ b ∈ fp, (upd H2 D (SetO X.w D (fun _ => false) 0)) b = none := fun b hb => (f3 b hb).1.1
  show codeAny _ _ (.compStart (sx elt t0 i0 t1 i1 sc pos) 0 (.ref it) (.ref D) (compEnvC sc (cellsFrom (s3.heap.objs.size + 1) sc.names (cloFrom X.env.cells sc.names [])) s3.heap.objs.size X.env)) (compPost (model X.prog X.w) X.A X.xe none (EP X pins σ Q) (.ref D) s3.heap.objs.size) { s3 with heap := pushCells (s3.heap.push { cls := .type "dict", data := .dict #[] }) sc.names }
  generalize hce : compEnvC sc (cellsFrom (s3.heap.objs.size + 1) sc.names (cloFrom X.env.cells sc.names [])) s3.heap.objs.size X.env = ce at I4 pg pe pj ph ⊢
  have cL : ce.locals = s3.heap.objs.size := by subst hce; rfl
  generalize hH3 : upd H2 D (SetO X.w D (fun _ => false) 0) = H3 at I3 I4 pg pe pj ph w0 nfp f3
  generalize hs4 : ({ s3 with heap := pushCells (s3.heap.push { cls := .type "dict", data := .dict #[] }) sc.names } : Shared) = s4 at I4 ⊢
  have st4 : tn 0 s4.heap := T.keep _ _ _ st3 fun b _ o e => by rw [← hs4]; exact pushCells_keeps _ _ _ _ (Heap.get?_push_of_some _ e)
  have fpk : ∀ {τ : L2.St} {G : Hp} {y : Shared}, Inv (X.blk s3 H3 sc ce fp) [] τ G y → (∀ b ∈ fp, G b = none) → ∀ b ∈ fp, FpOk (X.blk s3 H3 sc ce fp) [] G b := fun {τ G y} K1 nn b hb =>
    ⟨nn b hb, (K1.ok.exf b hb).1, K1.ok.exfs b hb, .inl hb, fun x c e => (K1.ok.exf b hb).2 x c e, fun p hp => absurd (show p ∈ ([] : List (Addr × Obj)) ++ [] from hp) (by simp)⟩
  have loop : codeAny (model X.prog X.w) X.A (.compLoop (sx elt t0 i0 t1 i1 sc pos) 0 (.ref it) (.ref D) ce) (compPost (model X.prog X.w) X.A X.xe none (EP X pins σ Q) (.ref D) s3.heap.objs.size) s4 := by
    refine sx_loop0 (hs1 ce) (fun n y => ∃ i G, Inv (X.blk s3 H3 sc ce fp) [] (wipe σ (own.map (·.2))) G y ∧ tn i y.heap ∧ (∀ b ∈ fp, G b = none) ∧ W i n G) ?_ m0 ⟨0, H3, I4, st4, nfp, w0⟩
    rintro n s5 ⟨i, H5, I5, st5, n5, w5⟩
    rcases turn i n H5 w5 with ⟨stop, fin⟩ | ⟨go, N, hN2, step⟩
    · refine thnF (T.done (X.blk s3 H3 sc ce fp) rfl rfl rfl hc i [] s5 _ H5 (fun _ _ => False) I5 (fpk I5 n5) st5 stop) fun r s6 ⟨hr, I6⟩ => ?_
      subst hr
      have I7 : Inv X pins σ H5 s6 := I3.call' (ch := fp) I6.os I6.base I6.hok I6.bare fun b hb => ⟨(f3 b hb).1.2.2.2.1, (f3 b hb).1.2.1, (f3 b hb).1.2.2.2.2.1, (f3 b hb).1.2.2.2.2.2⟩
      have nC : H5 s3.heap.objs.size = none := by
        have z : H5 ce.locals = none := I6.free
        rw [cL] at z
        exact z
      obtain ⟨m, hm, _⟩ := I6.loc
      have hm : s6.heap.Ns ce.locals m := hm
      rw [cL] at hm
      obtain ⟨g0, g1', g2, g3, g4, g5⟩ := I3.fpOk (Nat.le_refl _) nC
      exact ⟨m, hm, fun h'' sb => ⟨.ref D, H5, I7.turned (t' := s6.toks) (fun b o hb e => (sb.2 b hb).trans e) g0 g1' g3 g4 g5, rfl, fin⟩⟩
    · refine thnF (T.item (X.blk s3 H3 sc ce fp) rfl rfl rfl hc i [] s5 _ H5 (fun _ _ => False) I5 (fpk I5 n5) st5 go) fun r s6 ⟨u, hr, h6⟩ => ?_
      subst hr
      refine thnF h6 fun _ s7 ⟨x, H7, I7, r7, y7, st7, n7⟩ => ?_
      have I7' := I7.pinned (fpk I7 n7) (T.obj _ _ st7)
      refine thnF (pg.run _ s7 _ H7 x u _ I7' r7 (step x H7 y7)) fun _ s8 ⟨σ8, H8, I8, hw8, q8⟩ => ?_
      have back : ∀ {τ : L2.St} {y : Shared} {G : Hp}, Inv (X.blk s3 H3 sc ce fp) ([] ++ pinsAt fp s7.heap) τ G y → (wipe σ (own.map (·.2))).length = τ.length → (∀ (j : Nat) v, (wipe σ (own.map (·.2)))[j]? = some (some v) → τ[j]? = some (some v)) → N G →
          ∃ m, m < n ∧ ∃ i G, Inv (X.blk s3 H3 sc ce fp) [] (wipe σ (own.map (·.2))) G y ∧ tn i y.heap ∧ (∀ b ∈ fp, G b = none) ∧ W i m G := fun {τ y G} K1 hl hk nx => by
        obtain ⟨m', hm, w'⟩ := hN2 G nx
        have pin : ∀ b ∈ fp, ∀ o, s7.heap.get? b = some o → y.heap.get? b = some o ∧ G b = none := fun b hb o e =>
          let z := K1.pin (b, o) (List.mem_append_right _ (List.mem_append_right _ (mem_pinsAt hb e)))
          ⟨z.1, z.2.1⟩
        refine ⟨m', hm, i + 1, G, (K1.unpinned (pins := [])).weak hl hk, T.keep _ _ _ st7 fun b hb o e => (pin b hb o e).1, fun b hb => ?_, w'⟩
        obtain ⟨o, e, _⟩ := T.obj _ _ st7 b hb
        exact (pin b hb o e).2
      have hl8 : (wipe σ (own.map (·.2))).length = σ8.length := by rw [← hw8, wipe_length]
      have hk9 : ∀ (j : Nat) v, (wipe σ (own.map (·.2)))[j]? = some (some v) → (wipe σ8 vs1)[j]? = some (some v) := fun j v e => by
        rw [← hw8] at e
        obtain ⟨e1, e2⟩ := wipe_some e
        rw [wipe_out fun z => e2 (hv j z)]
        exact e1
      refine thnF (pj.run _ s8 σ8 H8 _ I8 q8) fun xv s10 hx => thnF hx fun itv s11 h11 => ?_
      obtain ⟨it1, fp1, tn1, J1, H11, e1, I11, T1, st11, f11, W1, ⟨m1, w1⟩, turn1⟩ := h11
      subst e1
      have fpk1 : ∀ {G : Hp}, (∀ b ∈ fp1, G b = none) → ∀ b ∈ fp1, FpOk (X.blk s3 H3 sc ce fp) ([] ++ pinsAt fp s7.heap) G b := fun nn b hb => ⟨nn b hb, (f11 b hb).2⟩
      have loop1 : codeAny (model X.prog X.w) X.A (.compLoop (sx elt t0 i0 t1 i1 sc pos) 1 (.ref it1) (.ref D) ce)
          (fun r y => match r with
            | .ok _ => ∃ m, m < n ∧ ∃ i G, Inv (X.blk s3 H3 sc ce fp) [] (wipe σ (own.map (·.2))) G y ∧ tn i y.heap ∧ (∀ b ∈ fp, G b = none) ∧ W i m G
            | .error _ => False) s11 := by
        refine sx_loop1 (fun k y => ∃ j G, Inv (X.blk s3 H3 sc ce fp) ([] ++ pinsAt fp s7.heap) (wipe σ8 vs1) G y ∧ tn1 j y.heap ∧ (∀ b ∈ fp1, G b = none) ∧ W1 j k G) ?_ m1 ⟨0, H11, I11.weak (wipe_length _ _) (fun j v e => (wipe_some e).1), st11, fun b hb => (f11 b hb).1, w1⟩
        rintro k s12 ⟨j, H12, I12, st12, n12, w12⟩
        rcases turn1 j k H12 w12 with ⟨stop1, nx1⟩ | ⟨go1, N1, hN1, step1⟩
        · refine thnF (T1.done (X.blk s3 H3 sc ce fp) rfl rfl rfl hc j _ s12 (wipe σ8 vs1) H12 (fun _ _ => False) I12 (fpk1 n12) st12 stop1) fun r s13 ⟨hr, I13⟩ => ?_
          subst hr
          exact back I13 (hl8.trans (wipe_length σ8 vs1).symm) hk9 nx1
        · refine thnF (T1.item (X.blk s3 H3 sc ce fp) rfl rfl rfl hc j _ s12 (wipe σ8 vs1) H12 (fun _ _ => False) I12 (fpk1 n12) st12 go1) fun r s13 ⟨u1, hr, h13⟩ => ?_
          subst hr
          refine thnF h13 fun _ s14 ⟨x1, H14, I14, r14, y14, st14, n14⟩ => ?_
          have I14' := I14.pinned (fpk1 n14) (T1.obj _ _ st14)
          refine thnF (ph.run _ s14 (wipe σ8 vs1) H14 x1 u1 _ I14' r14 (step1 x1 H14 y14)) fun _ s15 ⟨σ15, H15, I15, hw15, q15⟩ => ?_
          refine thnF (pe.run _ s15 σ15 H15 _ I15 q15) fun uv s17 ⟨yv, H17, I17, r17, k0, S, c, ey, hD17, room, nx⟩ => ?_
          subst ey
          refine thnF (mt_sadd (X := X.blk s3 H3 sc ce fp) _ s17 σ15 H17 (.ref D) [.int k0] _ [uv] (fun _ G => N1 G) I17 rfl (.cons r17 .nil) ⟨D, k0, S, c, rfl, rfl, hD17, room, nx⟩) fun _ s18 ⟨_, H18, I18, _, nx18⟩ => ?_
          obtain ⟨m', hm, w'⟩ := hN1 H18 nx18
          have pin : ∀ b ∈ fp1, ∀ o, s14.heap.get? b = some o → s18.heap.get? b = some o ∧ H18 b = none := fun b hb o e =>
            let z := I18.pin (b, o) (List.mem_append_right _ (List.mem_append_right _ (mem_pinsAt hb e)))
            ⟨z.1, z.2.1⟩
          refine ⟨m', hm, j + 1, H18, I18.unpinned.weak (by rw [← hw15, wipe_length]) (fun j v e => by rw [← hw15] at e; exact (wipe_some e).1), T1.keep _ _ _ st14 fun b hb o e => (pin b hb o e).1, fun b hb => ?_, w'⟩
          obtain ⟨o, e, _⟩ := T1.obj _ _ st14 b hb
          exact (pin b hb o e).2
      exact sx_start (d := 1) rfl rfl loop1 (T1.self X.A 0 _ _ _ st11 loop1)
  exact sx_start (d := 0) rfl rfl loop (T.self X.A 0 _ _ _ st4 loop)
end
end Gd
namespace Gd
open PySem PySem.Spec PyProof.Rows L2
theorem perm_sub : ∀ {ks ns : List Int}, ks.Nodup → (∀ x ∈ ks, x ∈ ns) → ks.length ≤ ns.length ∧ (ks.length = ns.length → ns.Perm ks)
  | [], ns, _, _ => ⟨Nat.zero_le _, fun e => by
    rw [List.length_nil] at e
    rw [List.eq_nil_of_length_eq_zero e.symm]⟩
  | x :: r, ns, n, h => by
    obtain ⟨n1, n2⟩ := List.nodup_cons.mp n
    have hx := h x List.mem_cons_self
    have p := List.perm_cons_erase hx
    have hl := List.length_erase_of_mem hx
    have hp := List.length_pos_of_mem hx
    obtain ⟨i1, i2⟩ := perm_sub (ns := ns.erase x) n2 fun y hy => by
      have hy2 := h y (List.mem_cons_of_mem _ hy)
      have ne : y ≠ x := fun e => n1 (e ▸ hy)
      exact (List.mem_erase_of_ne ne).mpr hy2
    refine ⟨by rw [List.length_cons]; omega, fun e => ?_⟩
    rw [List.length_cons] at e
    exact p.trans ((i2 (by omega)).cons x)
theorem count_nd {ks ns : List Int} (n : ks.Nodup) (h : ∀ x, x ∈ ks ↔ x ∈ ns) : ks.length ≤ ns.length ∧ (ks.length = ns.length ↔ ns.Nodup) := by
  obtain ⟨h1, h2⟩ := perm_sub n fun x hx => (h x).mp hx
  refine ⟨h1, fun e => ?_, fun d => ?_⟩
  · exact ((h2 e).nodup_iff).mpr n
  · have := (perm_sub d fun x hx => (h x).mpr hx).1
    omega
def tLenSetT (K : PySem.W.Frag) (ta : TE) : TE := fun σ H Q => ta σ H fun x G => ∃ (l : Addr) (ns : List Int), x = .ref l ∧ SqT K G l (ns.map V.int) ∧ ns.length ≤ 1000 ∧ ∀ c : Nat, c ≤ ns.length → (c = ns.length ↔ ns.Nodup) → Q (.int (c : Nat)) G
/-- len(set(t)), t a tuple of ints -/
theorem pe_lenSetT {X : Cx} {a : Expr} {ta : TE} {p p2 q pos : Pos} (hg : Gl X "len") (hm : X.mg "len" = none) (hg2 : Gl X "set") (hm2 : X.mg "set" = none) (ha : PE X a ta) (hc : X.calm = true := by rfl)
    (na : starEach [a] X.env = (false, eval a X.env) :: starEach [] X.env := by rfl) : PE X (.Call (.Name "len" p) [.Call (.Name "set" p2) [a] [] q] [] pos) (tLenSetT X.K ta) := by
  refine ⟨fun pins s σ H Q I h => ?_⟩
  refine Call_ (ld_blt I hg hm boot_len (PyProof.Rows.callWith_builtin1 (PyProof.Rows.args_cons ?_ rfl) rfl rfl))
  refine Call_ (ld_blt I hg2 hm2 boot_set (PyProof.Rows.callWith_type1 (PyProof.Rows.args_cons (thn (ha.run pins s σ H _ I h) fun v y ⟨x, G, J, rx, l, ns, ex, hq, hl, fin⟩ => PyProof.Rows.args_nil ?_) na) na rfl))
  subst ex
  cases rx
  obtain ⟨its, r, pl, _⟩ := J.tuple hq
  refine call_set_tupI (P := X.prog) (w := X.w) ns (J.ok.hd hc) (show y.heap.IsTuple l its.toArray from pl) (by simpa using intsAre_of r) (by unfold scanBound; omega) fun g tk c hS _ hk => ?_
  refine PyProof.Rows.args_nil ?_
  obtain ⟨o, es, ep, t, ho, hex, hd, _, hn, hS2, _, hf, hz, _⟩ := hS
  have K2 : Inv X pins σ G { y with heap := g, toks := tk } := J.kept hk
  have cnt := count_nd (ks := es.toList.map keyOf) (ns := ns) hn fun x => by
    have := hS2 x
    rw [decide_eq_true_eq] at this
    exact this.symm
  rw [List.length_map, Array.length_toList, hz] at cnt
  exact call_len_set ho hex hd hf (by rw [hz] <;> omega) ⟨.int c, G, K2.tok _, ⟨_, by rw [hz]⟩, fin c cnt.1 cnt.2⟩
/-- a walk over a tuple, whatever its turn is -/
theorem w_tup {K : PySem.W.Frag} {a : Addr} {xs : List V} {Body : Nat → V → Hp → (Hp → Prop) → Prop} {Q : Hp → Prop} {H0 : Hp} (Pv : Nat → Hp → Prop) (h0 : Pv 0 H0) (stay : ∀ i G, i ≤ xs.length → Pv i G → SqT K G a xs)
    (hs : ∀ i x G, xs[i]? = some x → Pv i G → Body i x G (Pv (i + 1))) (hd : ∀ G, Pv xs.length G → Q G) :
    ∃ W : Nat → Nat → Hp → Prop, (∃ m, W 0 m H0) ∧ ∀ i m G, W i m G → ((Itt K a).stop i G ∧ Q G) ∨ ((Itt K a).go i G ∧ ∃ N : Hp → Prop, (∀ G', N G' → ∃ n, n < m ∧ W (i + 1) n G') ∧ ∀ x G', (Itt K a).yld i G x G' → Body i x G' N) := by
  refine ⟨fun i m G => m = xs.length - i ∧ i ≤ xs.length ∧ Pv i G, ⟨_, rfl, Nat.zero_le _, h0⟩, fun i m G hw => ?_⟩
  obtain ⟨rfl, hi, hp⟩ := hw
  have hq := stay i G hi hp
  by_cases hlt : i < xs.length
  · refine .inr ⟨⟨xs, xs[i], hq, List.getElem?_eq_getElem hlt⟩, Pv (i + 1), fun G' hp' => ⟨_, by omega, rfl, hlt, hp'⟩, fun x G' hy => ?_⟩
    obtain ⟨rfl, hx⟩ := hy
    exact hs i x _ (hx xs hq) hp
  · have e : i = xs.length := by omega
    subst e
    exact .inl ⟨⟨xs, hq, Nat.le_refl _⟩, hd G hp⟩
/-- the set at D holds just ks -/
def SetL (w : World) (G : Hp) (D : Addr) (ks : List Int) : Prop := ks.Nodup ∧ ∃ S : Int → Bool, (∀ k, S k = true ↔ k ∈ ks) ∧ G D = some (SetO w D S ks.length)
theorem SetL.add {w : World} {G : Hp} {D : Addr} {ks : List Int} {S : Int → Bool} (n : ks.Nodup) (h : ∀ k, S k = true ↔ k ∈ ks) (k0 : Int) :
    SetL w (upd G D (SetO w D (fun a => S a || decide (a = k0)) (if S k0 = true then ks.length else ks.length + 1))) D (if k0 ∈ ks then ks else ks ++ [k0]) := by
  by_cases m : k0 ∈ ks
  · rw [if_pos m, if_pos ((h k0).mpr m)]
    refine ⟨n, _, fun k => ?_, upd_same⟩
    rw [Bool.or_eq_true, h, decide_eq_true_iff]
    exact ⟨fun z => z.elim id fun e => e ▸ m, .inl⟩
  · rw [if_neg m, if_neg fun z => m ((h k0).mp z)]
    refine ⟨?_, _, fun k => ?_, by rw [upd_same, List.length_append]; rfl⟩
    · refine List.nodup_append.mpr ⟨n, by simp, fun x hx y hy => ?_⟩
      rw [List.mem_singleton] at hy
      rw [hy]
      exact fun e => m (e ▸ hx)
    · rw [Bool.or_eq_true, h, decide_eq_true_iff, List.mem_append, List.mem_singleton]
theorem nd_bound {ks : List Int} {n : Nat} (h : ks.Nodup) (b : ∀ k ∈ ks, 0 ≤ k ∧ k < (n : Int)) : ks.length ≤ n := by
  have := (perm_sub (ns := (List.range n).map fun i : Nat => (i : Int)) h fun x hx => ?_).1
  · rw [List.length_map, List.length_range] at this
    exact this
  · obtain ⟨h0, h1⟩ := b x hx
    obtain ⟨j, rfl⟩ := Int.eq_ofNat_of_zero_le h0
    exact List.mem_map.mpr ⟨j, List.mem_range.mpr (by omega), rfl⟩
theorem asc_same {a b : List Int} (ha : AscI a) (hb : AscI b) (h : ∀ x, x ∈ a ↔ x ∈ b) : a = b :=
  sorted_same (ha.imp fun h => Int.le_of_lt h) (hb.imp fun h => Int.le_of_lt h) (ha.imp fun h => Int.ne_of_lt h) (hb.imp fun h => Int.ne_of_lt h) h
end Gd
/-! What gives data, and tests by repr that it is as is due. -/
namespace Gd
open PySem PySem.Spec PyProof.Rows L2
/-- t gives the data d, and all stands as before -/
def Gv (K : PySem.W.Frag) (σ : L2.St) (H : Hp) (t : TE) (d : PyData) : Prop := ∀ Q : VK, (∀ v G, Same H G → Dp K G v d → Q v G) → t σ H Q
/-- plain data that repr and == serve -/
structure Fd (d : PyData) : Prop where
  f : fine d = true
  dp : d.depth ≤ 60
  c : costD d ≤ sizeLine
theorem Fd.sh {d : PyData} (h : Fd d) : SeqAt.shaped d = true := fine_shaped h.f h.dp
abbrev rReprF (K : PySem.W.Frag) : List V → Hp → VK → Prop := fun xs H Q => ∃ a d, xs = [.ref a] ∧ Dp K H (.ref a) d ∧ fine d = true ∧ d.depth ≤ 60 ∧ costD d ≤ sizeLine ∧ Q (.str d.shown) H
abbrev tRe (K : PySem.W.Frag) (t : TE) : TE := tCB (rReprF K) (tCons t tNil)
theorem re_gv {K : PySem.W.Frag} {σ : L2.St} {H : Hp} {t : TE} {ds : List PyData} (hd : Fd (.tuple ds)) (h : Gv K σ H t (.tuple ds)) (Q : VK) (q : ∀ G, Same H G → Q (.str (PyData.tuple ds).shown) G) : tRe K t σ H Q := by
  refine h _ fun v G s dv => ?_
  cases dv with
  | tup hs ha => exact ⟨_, _, rfl, .tup hs ha, hd.f, hd.dp, hd.c, q G s⟩
/-- repr(a) != repr(b), both as is due -/
theorem re_no {K : PySem.W.Frag} {σ : L2.St} {H : Hp} {t1 t2 : TE} {ds : List PyData} (hd : Fd (.tuple ds)) (h1 : Gv K σ H t1 (.tuple ds)) (h2 : ∀ G, Same H G → Gv K σ G t2 (.tuple ds)) {B : Bool → Hp → Prop} (hB : ∀ G, Same H G → B false G) :
    tTest (tOp rNe (tRe K t1) (tRe K t2)) σ H B := by
  refine re_gv hd h1 _ fun G1 s1 => re_gv hd (h2 G1 s1) _ fun G2 s2 => ⟨rfl, _, rfl, ?_⟩
  rw [decide_eq_true rfl]
  exact hB _ (s1.trans s2)
/-- a != b, both as is due -/
theorem ne_no {K : PySem.W.Frag} {σ : L2.St} {H : Hp} {t1 t2 : TE} {d : PyData} (nl : noList d = true) (hd : Fd d) (h1 : Gv K σ H t1 d) (h2 : ∀ G, Same H G → Gv K σ G t2 d) {B : Bool → Hp → Prop} (hB : ∀ G, Same H G → B false G) :
    tTest (tOp (rNeD K) t1 t2) σ H B := by
  refine h1 _ fun v1 G1 s1 d1 => h2 G1 s1 _ fun v2 G2 s2 d2 => ⟨d, d, dp_same s2 _ _ d1, d2, hd.sh, hd.sh, _, rfl, ?_⟩
  rw [fine_eqv hd.f]
  exact hB _ (s1.trans s2)
/-- repr(a) != repr(b) or c != e, all as is due -/
theorem re_ne_no {K : PySem.W.Frag} {σ : L2.St} {H : Hp} {t1 t2 t3 t4 : TE} {ds : List PyData} (nl : noList (.tuple ds) = true) (hd : Fd (.tuple ds)) (h1 : Gv K σ H t1 (.tuple ds)) (h2 : ∀ G, Same H G → Gv K σ G t2 (.tuple ds)) (h3 : ∀ G, Same H G → Gv K σ G t3 (.tuple ds)) (h4 : ∀ G, Same H G → Gv K σ G t4 (.tuple ds))
    {B : Bool → Hp → Prop} (hB : ∀ G, Same H G → B false G) : tOr (tTest (tOp rNe (tRe K t1) (tRe K t2))) (tTest (tOp (rNeD K) t3 t4)) σ H B := by
  refine re_no hd h1 h2 fun G1 s1 => iteF ?_
  exact ne_no nl hd (h3 G1 s1) (fun G s => h4 G (s1.trans s)) fun G2 s2 => hB _ (s1.trans s2)
theorem gv_var {K : PySem.W.Frag} {σ : L2.St} {H : Hp} {i : Nat} {v : V} {d : PyData} (h : σ[i]? = some (some v)) (dv : Dp K H v d) : Gv K σ H (tVar i) d := fun Q q => ⟨v, h, q _ _ (Same.refl _) dv⟩
theorem ints_fd {l : List Int} (h : ∀ x ∈ l, x.natAbs < 10 ^ 9) (hl : l.length ≤ 1000) : Fd (.tuple (l.map .int)) := let ⟨a, b, c⟩ := ints_fine h hl; ⟨a, b, c⟩
/-- repr of a bool -/
theorem call_reprB {X : Cx} : CallR X (.builtin "repr") (fun xs H Q => ∃ b, xs = [.bl b] ∧ Q (.str (if b then "True" else "False")) H) := by
  intro pins s σ H xs us Q I r h
  obtain ⟨b, rfl, q⟩ := h
  obtain ⟨u, rfl, ru⟩ := vals1 r
  cases ru
  exact PySem.P.repr_of_bool ⟨.str _, H, I.tok _, ⟨_, rfl⟩, q⟩
/-- the law's rows of truths -/
structure TrsAt (H : Hp) (a : Addr) (rs : List Addr) (tl kl : Nat) (acc : Nat → Int → Bool) : Prop where
  top : H a = some (.lst (rs.map V.ref))
  len : rs.length = tl
  row : ∀ i r, rs[i]? = some r → H r = some (.lst ((List.range kl).map fun k : Nat => V.bl (acc i (k : Int))))
theorem TrsAt.same {H G : Hp} {a : Addr} {rs : List Addr} {tl kl : Nat} {acc : Nat → Int → Bool} (d : TrsAt H a rs tl kl acc) (s : Same H G) : TrsAt G a rs tl kl acc := ⟨s _ _ d.top, d.len, fun i r e => s _ _ (d.row i r e)⟩
theorem TrsAt.but {h l : Addr} {H G : Hp} {a : Addr} {rs : List Addr} {tl kl : Nat} {acc : Nat → Int → Bool} (d : TrsAt H a rs tl kl acc) (b : But h l H G) (n : ∀ x ∈ a :: rs, x ≠ h ∧ x ≠ l) : TrsAt G a rs tl kl acc :=
  ⟨b _ _ (n a List.mem_cons_self).1 (n a List.mem_cons_self).2 d.top, d.len, fun i r e => let m := n r (List.mem_cons_of_mem _ (List.mem_of_getElem? e)); b _ _ m.1 m.2 (d.row i r e)⟩
/-- truths[at][kind] -/
theorem trs_ix {K : PySem.W.Frag} {H : Hp} {a : Addr} {rs : List Addr} {tl kl : Nat} {acc : Nat → Int → Bool} (d : TrsAt H a rs tl kl acc) {i k : Nat} (hi : i < tl) (hk : k < kl) : ∃ r, SqL K H a (rs.map V.ref) ∧ (rs.map V.ref)[i]? = some (.ref r) ∧
    SqL K H r ((List.range kl).map fun k : Nat => V.bl (acc i (k : Int))) ∧ ((List.range kl).map fun k : Nat => V.bl (acc i (k : Int)))[k]? = some (.bl (acc i (k : Int))) := by
  have hl : i < rs.length := by rw [d.len]; exact hi
  refine ⟨rs[i], sqL d.top, ?_, sqL (d.row i _ (List.getElem?_eq_getElem hl)), ?_⟩
  · rw [List.getElem?_map, List.getElem?_eq_getElem hl]
    rfl
  · rw [List.getElem?_map, List.getElem?_range hk]
    rfl
end Gd
/-! What all laws share further: calls by keywords, tuples joined and cut, displays of data. -/
namespace Gd
open PySem PySem.Spec PyProof.Rows L2
section
variable {X : Cx} {CX : CXT} {k : Nat} {f : Addr} {fd : FuncData} {ps ks : List Str} {sp : Sp} {E : XK} {x : Str} {p pos : Pos} {e : Expr} {es : List Expr} {kws : List Keyword} {t tk : TA}
/-- f(k = v, ..), f may raise, but not here -/
theorem pe_kwP {g : List Value → List Value} {gV : List V → List V} (F : FnOk X.prog X.w X.K X.mg X.base CX k f fd ps sp) (hr : Room k X.A) (hg : Gl X x) (hm : X.mg x = some (.ref f)) (hk : PySem.W.keepIn X.K (.ref f) = true)
    (hb : KwB fd ps ks g) (hx : Passes CX X E) (hv : ∀ {zs : List V} {ws : List Value}, zs.length = ks.length → Vals zs ws → Vals (gV zs) (g ws)) (hkw : PK X kws tk)
    (h1 : (backToKw pos (keywordEach kws X.env)).all (·.1.isSome) = true := by rfl) (h2 : (backToKw pos (keywordEach kws X.env)).filterMap (·.1) = ks := by rfl) (h3 : (x == ("__debug__" : Str)) = false := by decide)
    (h4 : ((backTo pos (starEach [] X.env)).any (·.1) || (backToKw pos (keywordEach kws X.env)).any (·.1.isNone)) = false := by rfl) :
    PE X (.Call (.Name x p) [] kws pos) (tKw ks.length sp gV E tk) := by
  refine ⟨fun pins s σ H Q I h => wpAny_Call_Name_kw (ld_glob I hg hm (PySem.W.callWith_KW0 (h₀ := X.base) I.ok.mod.kin hk h1 ?_ h4) h3)⟩
  refine thn (hkw.run pos pins s σ H _ I h) fun ws s2 ⟨zs, H2, I2, rz, l, q⟩ => ⟨I2.kIn, ?_⟩
  rw [h2]
  have r2 := hv l rz
  refine wpAny_call (codeAny_mono (F.run X.A X.stack s2 H2 ⟨[], ks.zip ws⟩ (g ws) (gV zs) Q E hr I2.env0 (hb s2 ws (rz.length.symm.trans l)) r2 q) fun r s' hq => ?_)
  cases r with
  | error e => exact hx pins σ H2 s2 e s' I2 hq
  | ok fl =>
    cases fl with
    | ret u => exact I2.after hq
    | next => exact False.elim hq
    | brk => exact False.elim hq
    | cont => exact False.elim hq
end
theorem cat_to {K : PySem.W.Frag} {H : Hp} {a b : Addr} {xs ys : List V} {Q : VK} (ha : SqT K H a xs) (hb : SqT K H b ys) (hl : xs.length + ys.length ≤ 5000) (q : ∀ G r, Same H G → SqT K G r (xs ++ ys) → Q (.ref r) G) : rCatA K (.ref a) (.ref b) H Q := by
  refine ⟨a, b, xs, ys, rfl, rfl, ha, hb, by rw [sizeLine_eq]; omega, fun e => ?_, fun _ e => ?_, fun _ _ p np => q _ p (same_new np) (sqT upd_same)⟩
  · subst e
    exact q H b (Same.refl _) hb
  · subst e
    exact q H a (Same.refl _) (by rw [List.append_nil]; exact ha)
theorem slA_to {K : PySem.W.Frag} {H : Hp} {a : Addr} {xs : List V} {lo hi : Option Int} {Q : VK} (ha : SqT K H a xs) (q : ∀ G r, Same H G → SqT K G r (cutV xs lo hi) → Q (.ref r) G) : rSlA K (.ref a) lo hi H Q := by
  refine ⟨a, xs, rfl, ha, fun ⟨e1, e2⟩ => ?_, fun _ p np => q _ p (same_new np) (sqT upd_same)⟩
  refine q H a (Same.refl _) ?_
  have e : cutV xs lo hi = xs := by
    unfold cutV
    rw [e1, e2, List.drop_zero, Nat.sub_zero, List.take_of_length_le (Nat.le_refl _)]
  rw [e]
  exact ha
theorem cut_to {xs : List V} {n : Nat} (h : n ≤ xs.length) : cutV xs none (some (n : Int)) = xs.take n := by
  unfold cutV
  rw [HT.sIx_none, HT.sIx_nat, List.drop_zero, Nat.sub_zero, Nat.min_eq_left h]
theorem cut_from {xs : List V} {n : Nat} (h : n ≤ xs.length) : cutV xs (some (n : Int)) none = xs.drop n := by
  unfold cutV
  rw [HT.sIx_none, HT.sIx_nat, Nat.min_eq_left h, List.take_of_length_le (by rw [List.length_drop]; exact Nat.le_refl _)]
theorem paired_take {α β : Type} {R : α → β → Prop} : ∀ {xs : List α} {ys : List β} (n : Nat), Paired R xs ys → Paired R (xs.take n) (ys.take n)
  | _, _, 0, _ => .nil
  | _, _, n + 1, .nil => .nil
  | _, _, n + 1, .cons a t => .cons a (paired_take n t)
theorem paired_drop {α β : Type} {R : α → β → Prop} : ∀ {xs : List α} {ys : List β} (n : Nat), Paired R xs ys → Paired R (xs.drop n) (ys.drop n)
  | _, _, 0, h => h
  | _, _, n + 1, .nil => .nil
  | _, _, n + 1, .cons a t => paired_drop n t
theorem paired_app {α β : Type} {R : α → β → Prop} : ∀ {xs : List α} {ys : List β} {us : List α} {ws : List β}, Paired R xs ys → Paired R us ws → Paired R (xs ++ us) (ys ++ ws)
  | _, _, _, _, .nil, h => h
  | _, _, _, _, .cons a t, h => .cons a (paired_app t h)
theorem perm_pop {L M : List Int} {k : Nat} {y : Int} (h : L[k]? = some y) : (L.eraseIdx k ++ (M ++ [y])).Perm (L ++ M) := by
  obtain ⟨hk, e⟩ := List.getElem?_eq_some_iff.mp h
  have p1 : (y :: L.eraseIdx k).Perm L := by
    have e2 : L = L.take k ++ y :: L.drop (k + 1) := by
      rw [← e, ← List.drop_eq_getElem_cons hk, List.take_append_drop]
    rw [List.eraseIdx_eq_take_drop_succ]
    refine List.Perm.trans ?_ (List.Perm.of_eq e2.symm)
    exact List.perm_middle.symm
  have p2 : (L.eraseIdx k ++ (M ++ [y])).Perm (y :: (L.eraseIdx k ++ M)) := by
    rw [← List.append_assoc]
    exact List.perm_append_singleton _ _
  exact p2.trans (p1.append_right M)
theorem erase_map (l : List Int) (k : Nat) : (l.map V.int).eraseIdx k = (l.eraseIdx k).map V.int := by
  rw [List.eraseIdx_eq_take_drop_succ, List.eraseIdx_eq_take_drop_succ, List.map_append, List.map_take, List.map_drop]
/-- the arguments give the data ds, and all stands as before -/
def GvA (K : PySem.W.Frag) (σ : L2.St) (H : Hp) (t : TA) (ds : List PyData) : Prop := ∀ Q : List V → Hp → Prop, (∀ vs G, Same H G → DpAll K G vs ds → Q vs G) → t σ H Q
theorem gvA_nil {K : PySem.W.Frag} {σ : L2.St} {H : Hp} : GvA K σ H tNil [] := fun Q q => q _ _ (Same.refl _) .nil
theorem gvA_cons {K : PySem.W.Frag} {σ : L2.St} {H : Hp} {t : TE} {ta : TA} {d : PyData} {ds : List PyData} (h1 : Gv K σ H t d) (h2 : ∀ G, Same H G → GvA K σ G ta ds) : GvA K σ H (tCons t ta) (d :: ds) := fun Q q =>
  h1 _ fun v G s dv => h2 G s _ fun vs G2 s2 dvs => q _ _ (s.trans s2) (.cons (dp_same s2 _ _ dv) dvs)
theorem gv_tup {K : PySem.W.Frag} {σ : L2.St} {H : Hp} {ta : TA} {ds : List PyData} (h : GvA K σ H ta ds) (l : Nat.ble ds.length 1000 = true := by rfl) : Gv K σ H (tTup ta) (.tuple ds) := fun Q q =>
  h _ fun vs G s dvs => ⟨by have := Nat.le_of_ble_eq_true l; rw [dpAll_len dvs, sizeLine_eq]; omega, fun p np => q _ _ (s.trans (same_new np)) (.tup (sqT upd_same) (dpAll_same (same_new np) _ _ dvs))⟩
theorem gv_int {K : PySem.W.Frag} {σ : L2.St} {H : Hp} {i : Int} : Gv K σ H (tC (.int i)) (.int i) := fun Q q => q _ _ (Same.refl _) (.int i)
theorem gv_str {K : PySem.W.Frag} {σ : L2.St} {H : Hp} {z : Str} : Gv K σ H (tC (.str z)) (.str z) := fun Q q => q _ _ (Same.refl _) (.str z)
theorem gv_tup0 {K : PySem.W.Frag} {σ : L2.St} {H : Hp} : Gv K σ H (tTup tNil) (.tuple []) := gv_tup gvA_nil
end Gd
namespace Gd
open PySem PySem.Spec PyProof.Rows L2
theorem tuple_mul1 (l : Addr) (items : Array Value) (n : Nat) (dd : Option Addr) (sl : Array (Option Value)) (u : Tok) :
    Meets (Builtin.«tuple.__mul__» ⟨[.ref l, .int 1 u], []⟩) (fun _ R s => s.heap.get? l = some { cls := .type "tuple", dict := dd, data := .seq items n, slots := sl } ∧ R (.ok (.ret (Value.ref l))) s) :=
  .of_wp fun prog w A R s h => by
    obtain ⟨hp, g, d, tk, os⟩ := s
    obtain ⟨hl, h⟩ := h
    have f1 := AutoSeq1.idx_int
    have c0 : (decide ((1 : Int) < -(2 ^ 63)) || decide ((1 : Int) ≥ 2 ^ 63)) = false := by decide
    have c1 : (items.isEmpty || (1 : Int) == 1) = true := by simp
    wp_walk using wpAny_loadPart' hl
    repeat (first
      | (refine wpAny_ite_false (decide_eq_false (by rw [c0]; exact Bool.false_ne_true)) ?_; wp_walk using wpAny_loadPart' hl)
      | (refine wpAny_ite_true (decide_eq_true (by rw [c1])) ?_; wp_walk using wpAny_loadPart' hl))
    exact ⟨_, rfl, h⟩
section
variable {X : Cx}
abbrev rRepM (K : PySem.W.Frag) : V → V → Hp → VK → Prop := fun x y H Q => ∃ (l : Addr) (k : Int) (z : V), x = .ref l ∧ y = .int k ∧ SqT K H l [z] ∧ 1 ≤ k ∧ k ≤ 100000 ∧ ∀ G r, Same H G → SqT K G r (List.replicate k.toNat z) → Q (.ref r) G
/-- (x,) * k, k may be 1 -/
theorem op_repM : OpR X (binaryOp .Mult) (rRepM X.K) := by
  intro pins s σ H x y v u Q I rx ry h
  obtain ⟨l, k, z, rfl, rfl, hT, h1, h2, q⟩ := h
  by_cases hk : 2 ≤ k
  · exact op_rep1 pins s σ H _ _ v u Q I rx ry ⟨l, k, z, rfl, rfl, hT, hk, h2, fun p np => q _ p (same_new np) (sqT upd_same)⟩
  obtain rfl : k = 1 := by omega
  obtain rfl : v = Value.ref l := rx
  obtain ⟨t, rfl⟩ := ry
  have hq := q H l (Same.refl _) hT
  obtain ⟨its, r, ⟨⟨cls, dd, data, sl⟩, ho, hc, n, hd⟩, hs⟩ := I.tuple hT
  simp only at hc hd
  subst hc hd
  refine wpAny_binaryOp_repeat_ref (T := "tuple") (U := "int") (by decide) ⟨_, ho, rfl⟩ (fun s' => typeIs_int s' 1 t) noFill_tuple_mul F.fills_int_mul F.slot_int_rmul repeat_tuple F.slot_int_index.lookup
    (call_meets F.slot_int_rmul (typeIs_int s 1 t) F.entry_int_rmul (F.args_int_rmul_2 _ _) (int_rmul_tuple 1 t l its.toArray n dd sl)
      ⟨ho, rfl, ⟨_, ho, rfl⟩, call_meets F.slot_tuple_mul ⟨_, ho, rfl⟩ F.entry_tuple_mul (F.args_tuple_mul_2 _ _) (tuple_mul1 l its.toArray n dd sl t) ⟨ho, ?_⟩⟩)
  exact ⟨.ref l, H, I, rfl, hq⟩
end
end Gd
/-! The end of a law row as in Ge, for laws that hand lambdas over: code objects and their tables. -/
namespace Gd
open PySem PySem.Spec PyProof.Rows L2
abbrev tabO : Obj := { cls := .none, data := .fields #[] }
section
variable {P : Program} {w : World} {K : PySem.W.Frag} {mg mb : Str → Option Value} {k : Nat} {fa a : Addr} {cs : List (Addr × Addr)} {fd : FuncData} {x : Str} {sp : Sp} {s : Shared} {vs : List Value} {ns : List Int}
/-- what is there of code objects and tables at the start -/
structure TabsAt (K : PySem.W.Frag) (mg : Str → Option Value) (h : Heap) (cs : List (Addr × Addr)) : Prop where
  tb : ∀ p ∈ cs, h.get? p.2 = some tabO
  nk : ∀ p ∈ cs, K.lookup p.2 = none
  hd : ∀ p ∈ cs, PySem.W.CodeHd h p.1 p.2
/-- tracked are at most the script and the tables -/
structure BareT (K : PySem.W.Frag) (a : Addr) (cs : List (Addr × Addr)) (H : Hp) : Prop where
  one : ∀ b, H b ≠ none → b = a ∨ ∃ p ∈ cs, p.2 = b
  out : H a ≠ none → K.lookup a = none
  tab : ∀ p ∈ cs, H p.2 = some (.tbl #[])
  sort : ∀ b, H b = none ∨ (∃ p ∈ cs, p.2 = b) ∨ ∃ o xs, H b = some (.frz o (.lst xs))
section
variable {H : Hp} (ha : s.heap.get? a = some { cls := .type "list", data := .seq vs.toArray }) (T : TabsAt K mg s.heap cs) (B : BareT K a cs H)
include ha T B
theorem untracked {b : Addr} {o : Obj} (e : s.heap.get? b = some o) (h1 : ∀ us m, o.data ≠ .seq us m) (h2 : o.data ≠ .fields #[]) : H b = none := by
  refine Classical.byContradiction fun q => ?_
  rcases B.one b q with z | ⟨p, hp, z⟩
  · rw [z] at e
    have u := Option.some.inj (e.symm.trans ha)
    exact h1 _ _ (congrArg Obj.data u)
  · rw [← z] at e
    have u := Option.some.inj (e.symm.trans (T.tb p hp))
    exact h2 (congrArg Obj.data u)
theorem hidT_map {b : Addr} {m : Str → Option Value} (h : s.heap.Ns b m) : (hidT s.heap H).Ns b m := by
  obtain ⟨o, es, ep, e, d, r⟩ := h
  refine ⟨o, es, ep, hidT_get e (untracked ha T B e (fun us m z => ?_) fun z => ?_), d, r⟩ <;> exact nomatch d.symm.trans z
theorem hidT_in (KX : K.In s.heap) : K.In (hidT s.heap H) := fun b o e => hidT_get (KX b o e) (by
  refine Classical.byContradiction fun q => ?_
  rcases B.one b q with z | ⟨p, hp, z⟩
  · rw [z] at e q
    exact nomatch (B.out q).symm.trans e
  · rw [← z] at e
    exact nomatch (T.nk p hp).symm.trans e)
theorem hidT_code (p : Addr × Addr) (hp : p ∈ cs) : PySem.W.CodeHd (hidT s.heap H) p.1 p.2 := by
  obtain ⟨o, us, c1, c2, c3, c4, c5, c6, c7, e, q1, q2, q3, rest⟩ := T.hd p hp
  refine ⟨o, us, c1, c2, c3, c4, c5, c6, c7, hidT_get e (untracked ha T B e (fun _ _ z => nomatch q2.symm.trans z) fun z => ?_), q1, q2, q3, rest⟩
  have u : Data.fields us = Data.fields #[] := q2.symm.trans z
  injection u with u
  rw [u] at q3
  simp at q3
theorem hidT_tab (hns : s.heap.Ns mainGlobals mg)
    (hbm : ∃ (m : Addr) (ob : Obj), mg "__builtins__" = some (.ref m) ∧ m ≠ builtinsNs ∧ s.heap.get? m = some ob ∧ ob.cls = .type "module" ∧ ob.dict = some builtinsNs ∧ ob.data = .plain) : ∀ p ∈ cs, LamX.TabB (hidT s.heap H) mg p.1 p.2 := fun p hp => by
  obtain ⟨m, ob, d1, d2, d3, d4, d5, d6⟩ := hbm
  obtain ⟨og, es, ep, eg, dg, _⟩ := hns
  have n1 : m ≠ mainGlobals := fun z => by
    rw [z] at d3
    have u := congrArg Obj.data (Option.some.inj (d3.symm.trans eg))
    rw [d6, dg] at u
    cases u
  have n2 : m ≠ p.2 := fun z => by
    rw [z] at d3
    have u := congrArg Obj.data (Option.some.inj (d3.symm.trans (T.tb p hp)))
    rw [d6] at u
    cases u
  have n3 : mainGlobals ≠ p.2 := fun z => by
    rw [z] at eg
    have u := congrArg Obj.data (Option.some.inj (eg.symm.trans (T.tb p hp)))
    rw [dg] at u
    cases u
  exact ⟨hidT_code ha T B p hp, ⟨m, ob, d1, d2, n1, n2, hidT_get d3 (untracked ha T B d3 (fun _ _ z => nomatch d6.symm.trans z) fun z => nomatch d6.symm.trans z), d4, d5, d6⟩, n3⟩
end
theorem end_coreT (KX : K.In s.heap) (hns : s.heap.Ns mainGlobals mg) (hb : s.heap.Ns builtinsNs mb) (hbb : ∀ y : Str, y ≠ "__name__" → mb y = bootBuiltins y) (hlim : s.heap.NoLimit) (hg : s.gens = #[])
    (hbm : ∃ (m : Addr) (ob : Obj), mg "__builtins__" = some (.ref m) ∧ m ≠ builtinsNs ∧ s.heap.get? m = some ob ∧ ob.cls = .type "module" ∧ ob.dict = some builtinsNs ∧ ob.data = .plain)
    (ha : s.heap.get? a = some { cls := .type "list", data := .seq vs.toArray }) (T : TabsAt K mg s.heap cs) (hr : Room k callerA)
    (F : ∀ base : Heap, K.In base → base.Ns mainGlobals mg → (∀ p ∈ cs, LamX.TabB base mg p.1 p.2) → FnG P w K mg base k fa fd [x] sp) (hbind : ∀ (t : Shared) (u : Value), BindsTo t fd ⟨[u], []⟩ [(x, u)])
    {H : Hp} (hok : HOk P w H s.heap) (B : BareT K a cs H) (h : sp [.ref a] H (fun v _ => v = .bl true) fun _ _ _ => False) :
    codeAny (model P w) callerA (.call (.ref fa) ⟨[.ref a], []⟩) (fun r s' => r = .ok (.ret (.bool true)) ∧ OldK s.heap s'.heap ∧ s'.os = s.os ∧ AllBare s'.gens) s := by
  have KB := hidT_in ha T B KX
  have NB := hidT_map ha T B hns
  have MB : Mod K mg (hidT s.heap H) := ⟨KB, NB, ⟨mb, hidT_map ha T B hb, hbb⟩, hlim.elim fun mc z => ⟨mc, hidT_map ha T B z.1, z.2⟩⟩
  have e0 : Env0 P w K mg (hidT s.heap H) callerA [] s H :=
    ⟨rfl, MB, fun b o e => of_hidT e, Nat.le_of_eq (hidT_size _ _), trivial, fun b z => (nomatch (show b ∈ ([] : List Addr) from z)), hok, .of_eq hg⟩
  refine codeAny_mono ((F _ KB NB (hidT_tab ha T B hns hbm)).go callerA [] s H ⟨[.ref a], []⟩ [.ref a] [.ref a] _ _ ⟨hr, rfl⟩ e0 (hbind s (.ref a)) (.cons rfl .nil) h) fun r s' z => ?_
  rcases r with e | fl
  · exact z.elim
  cases fl with
  | next => exact z.elim
  | brk => exact z.elim
  | cont => exact z.elim
  | ret u =>
    obtain ⟨v, G, os, bare, un, okG, ru, rfl⟩ := z
    obtain rfl : u = Value.bool true := ru
    -- a table has grown, all else stands
    have big : ∀ p ∈ cs, ∃ more : Array Value, s'.heap.get? p.2 = some { cls := .none, data := .fields more } := fun p hp => by
      obtain ⟨more, g⟩ := un.tbls p.2 #[] (B.tab p hp)
      exact ⟨_, okG p.2 _ g⟩
    have old : ∀ b o, (¬ ∃ p ∈ cs, p.2 = b) → s.heap.get? b = some o → s'.heap.get? b = some o := fun b o n e => by
      rcases B.sort b with y | y | ⟨ob, xs, y⟩
      · exact un.keep b o e y (fun g => nomatch (show b ∈ ([] : List Addr) from g)) (fun g => nomatch g)
      · exact absurd y n
      · exact ((okG b _ (un.frzs b ob _ y)).1).trans ((hok b _ y).1.symm.trans e)
    refine ⟨rfl, ⟨fun b o e => ?_, fun b o e => ?_⟩, os, bare⟩
    · by_cases y : ∃ p ∈ cs, p.2 = b
      · obtain ⟨p, hp, rfl⟩ := y
        obtain ⟨more, g⟩ := big p hp
        obtain rfl : tabO = o := Option.some.inj ((T.tb p hp).symm.trans e)
        exact .inr (.inl ⟨((T.hd p hp).tab (T.tb p hp)).isCodeTable, rfl, #[], more, rfl, by rw [Array.empty_append]; exact g⟩)
      · exact .inl (old b o y e)
    · by_cases y : ∃ p ∈ cs, p.2 = b
      · obtain ⟨p, hp, rfl⟩ := y
        obtain ⟨more, g⟩ := big p hp
        exact ⟨_, g⟩
      · exact ⟨o, old b o y e⟩
open Classical in
/-- the tables alone, over what is below -/
noncomputable def tabsOn (cs : List (Addr × Addr)) (lo : Hp) : Hp := fun b => if ∃ p ∈ cs, p.2 = b then some (.tbl #[]) else lo b
theorem tabsOn_in {lo : Hp} {p : Addr × Addr} (hp : p ∈ cs) : tabsOn cs lo p.2 = some (.tbl #[]) := if_pos ⟨p, hp, rfl⟩
theorem tabsOn_off {lo : Hp} {b : Addr} (n : ¬ ∃ p ∈ cs, p.2 = b) : tabsOn cs lo b = lo b := if_neg n
theorem end_callT (KX : K.In s.heap) (hns : s.heap.Ns mainGlobals mg) (hb : s.heap.Ns builtinsNs mb) (hbb : ∀ y : Str, y ≠ "__name__" → mb y = bootBuiltins y) (hlim : s.heap.NoLimit) (hg : s.gens = #[])
    (hbm : ∃ (m : Addr) (ob : Obj), mg "__builtins__" = some (.ref m) ∧ m ≠ builtinsNs ∧ s.heap.get? m = some ob ∧ ob.cls = .type "module" ∧ ob.dict = some builtinsNs ∧ ob.data = .plain)
    (ha : s.heap.get? a = some { cls := .type "list", data := .seq vs.toArray }) (hi : IntsAre vs ns) (hl : ns.length ≤ sizeLine) (T : TabsAt K mg s.heap cs) (hr : Room k callerA)
    (F : ∀ base : Heap, K.In base → base.Ns mainGlobals mg → (∀ p ∈ cs, LamX.TabB base mg p.1 p.2) → FnG P w K mg base k fa fd [x] sp) (hbind : ∀ (t : Shared) (u : Value), BindsTo t fd ⟨[u], []⟩ [(x, u)])
    (hsp : ∀ H : Hp, (∀ p ∈ cs, H p.2 = some (.tbl #[])) → SqL K H a (ns.map V.int) → sp [.ref a] H (fun v _ => v = .bl true) fun _ _ _ => False) :
    codeAny (model P w) callerA (.call (.ref fa) ⟨[.ref a], []⟩) (fun r s' => r = .ok (.ret (.bool true)) ∧ OldK s.heap s'.heap ∧ s'.os = s.os ∧ AllBare s'.gens) s := by
  have rv := vals_ints hi
  have aT : ¬ ∃ p ∈ cs, p.2 = a := fun ⟨p, hp, z⟩ => by
    have e := T.tb p hp
    rw [z] at e
    have u := congrArg Obj.data (Option.some.inj (ha.symm.trans e))
    cases u
  -- whatever is below, if it tracks at most the script
  have go : ∀ lo : Hp, (∀ b, b ≠ a → lo b = none) → (lo a ≠ none → K.lookup a = none) → (lo a = none ∨ ∃ o xs, lo a = some (.frz o (.lst xs))) → (∀ u, lo a = some u → ObjOk P w (tabsOn cs lo) s.heap a u) → SqL K (tabsOn cs lo) a (ns.map V.int) →
      codeAny (model P w) callerA (.call (.ref fa) ⟨[.ref a], []⟩) (fun r s' => r = .ok (.ret (.bool true)) ∧ OldK s.heap s'.heap ∧ s'.os = s.os ∧ AllBare s'.gens) s := fun lo l1 l2 l3 l4 hS => by
    refine end_coreT KX hns hb hbb hlim hg hbm ha T hr F hbind (H := tabsOn cs lo) (fun b u e => ?_) ⟨fun b n => ?_, fun n => l2 fun z => n ((tabsOn_off aT).trans z), fun p hp => tabsOn_in hp, fun b => ?_⟩ (hsp _ (fun p hp => tabsOn_in hp) hS)
    · by_cases y : ∃ p ∈ cs, p.2 = b
      · obtain ⟨p, hp, rfl⟩ := y
        obtain rfl : HO.tbl #[] = u := Option.some.inj ((tabsOn_in hp).symm.trans e)
        exact T.tb p hp
      · have e2 := (tabsOn_off y).symm.trans e
        by_cases q : b = a
        · subst q
          exact l4 u e2
        · exact nomatch (l1 b q).symm.trans e2
    · by_cases y : ∃ p ∈ cs, p.2 = b
      · exact .inr y
      · refine .inl (Classical.byContradiction fun q => n ((tabsOn_off y).trans (l1 b q)))
    · by_cases y : ∃ p ∈ cs, p.2 = b
      · exact .inr (.inl y)
      · by_cases q : b = a
        · subst q
          rcases l3 with z | ⟨o, xs, z⟩
          · exact .inl ((tabsOn_off y).trans z)
          · exact .inr (.inr ⟨o, xs, (tabsOn_off y).trans z⟩)
        · exact .inl ((tabsOn_off y).trans (l1 b q))
  cases hk : K.lookup a with
  | some o =>
    obtain rfl : ({ cls := .type "list", data := .seq vs.toArray } : Obj) = o := Option.some.inj (ha.symm.trans (KX a o hk))
    exact go (fun _ => none) (fun _ _ => rfl) (fun z => absurd rfl z) (.inl rfl) (fun u z => nomatch (show (none : Option HO) = some u from z)) (.inr ⟨_, vs.toArray, _, hk, rfl, rfl, rfl, by rw [List.size_toArray, hi.length]; exact hl, by simpa using rv⟩)
  | none =>
    let lo : Hp := fun b => if b = a then some (.frz { cls := .type "list", data := .seq vs.toArray } (.lst (ns.map V.int))) else none
    have e1 : lo a = some (.frz { cls := .type "list", data := .seq vs.toArray } (.lst (ns.map V.int))) := if_pos rfl
    refine go lo (fun b q => if_neg q) (fun _ => hk) (.inr ⟨_, _, e1⟩) (fun u z => ?_) (.inl (.inr ⟨_, (tabsOn_off aT).trans e1⟩))
    obtain rfl := Option.some.inj (e1.symm.trans z)
    exact ⟨ha, by rw [List.length_map]; exact hl, vs, _, rv, ha⟩
end
/-- what the end asks of a law's promise at the head's heap -/
def LawG (l : PySem.W.OpenLaw) (w : World) (K : PySem.W.Frag) (k n : Nat) (x : Str) (mg : Str → Option Value) (fa : Addr) (h : Heap) : Prop :=
  ∃ (fd : FuncData) (cs : List (Addr × Addr)) (sp : Sp), TabsAt K mg h cs ∧ (∀ (t : Shared) (u : Value), BindsTo t fd ⟨[u], []⟩ [(x, u)]) ∧
    (∀ (H : Hp) (a : Addr) (ns : List Int), ns.length ≤ n → (∀ p ∈ cs, H p.2 = some (.tbl #[])) → SqL K H a (ns.map V.int) → sp [.ref a] H (fun v _ => v = .bl true) fun _ _ _ => False) ∧
    ∀ base : Heap, K.In base → base.Ns mainGlobals mg → (∀ p ∈ cs, LamX.TabB base mg p.1 p.2) → FnG l.prog w K mg base k fa fd [x] sp
theorem walk_GT {l : PySem.W.OpenLaw} {n k : Nat} {q : Program} {loose : List Str} {XP : (Str → Option Value) → Heap → Prop} {YP : World → Heap → Prop} {d : DefRec} {K : Params → PySem.W.Frag} {x : Str}
    (hn : l.most = some n) (hn2 : n ≤ sizeLine) (hdf : d.params.defaults = []) (hr : Room k callerA) (hY : ∀ (w : World) (h : Heap), YP w h → (K w.params).In h)
    (F : ∀ (w : World) (mg : Str → Option Value) (fa : Addr) (h : Heap), YP w h → (K w.params).In h → h.Ns mainGlobals mg → mg d.name = some (.ref fa) → LawG l w (K w.params) k n x mg fa h) :
    PySem.W.WalkO q loose XP YP l.row.toRowW d [] (fun f vs => PySem.call f vs) := by
  refine Att.attach_callB hn hdf fun w s₀ s mg mb fa o pm cd doc a vs ns G Y ho hd hcd hm hobj hi hl hbits hg => ?_
  obtain ⟨fd, cs, sp, T, hb, hsp, hF⟩ := F w mg fa _ Y (hY w _ Y) G.T.g hm
  exact end_callT (hY w _ Y) G.T.g G.T.b G.T.builtins G.T.nolimit hg G.T.bmain hobj hi (Nat.le_trans hl hn2) T hr hF hb fun H hH hS => hsp H a ns hl hH hS
end Gd
/-! A def that calls the lambda it got and tells of an error by its name: try: action() / except x as e: .. / return z. -/
namespace Gd
open PySem PySem.Spec PyProof.Rows L2
/-- what an error finds has as many slots as the def -/
theorem takes_len {X : Cx} {W : WX} (t : Takes X W) : Takes X (fun cls d σ H => σ.length = X.N.length → W cls d σ H) := fun u s' ⟨a, B, sI, pins, σ, H, cls, d, e, I, r1, r2, r3, r4, r5, r6, w⟩ =>
  t u s' ⟨a, B, sI, pins, σ, H, cls, d, e, I, r1, r2, r3, r4, r5, r6, w I.len⟩
/-- what the def makes of the lambda: R of an error, z0 without one -/
abbrev TTh (R : Value → Option Addr → Hp → VK → Prop) (z0 : Str) : (XK → Hp → VK → Prop) → Hp → VK → Prop := fun tl H Q => tl (fun cls d H' => R cls d H' Q) H fun _ H' => Q (.str z0) H'
theorem heard_gives {X : Cx} {Ng : List Str} {xg a e x2 q z0 : Str} {sg : Scope} {g : Addr} {cdg c : Value} {i j : Nat} {b0 : Stmt} {suite : List Stmt} {ts : Addr → Value → Option Addr → TS} {R : Value → Option Addr → Hp → VK → Prop} {p1 p2 p3 p4 p5 p6 p7 p8 : Pos}
    (hsu : ∀ (s : Shared) (H : Hp) (aE : Addr) (oe : Obj) (cls : Value) (d : Option Addr) (pn : List (Addr × Obj)), Zc cls d oe → (∃ vs, oe.data = .fields vs) → PSs ((cxOf C8.CX0 X.prog X.w X.K X.mg X.base Ng xg sg g cdg X.A X.stack s H C8.E0).nox.suite aE ((aE, oe) :: pn)) (b0 :: suite) (ts aE cls d))
    (nd : Ng.Nodup) (hi : Ng[i]? = some e) (hl : sg.names.lookup e = some .local) (nm : ∀ (s : Shared) (H : Hp), Names (cxOf C8.CX0 X.prog X.w X.K X.mg X.base Ng xg sg g cdg X.A X.stack s H C8.E0).nox x2 c)
    (h0 : ∀ f : Addr, (L2.start Ng [V.ref f])[0]? = some (some (V.ref f)))
    (hR : ∀ (D : Ends) (σ : L2.St) (cls : Value) (d : Option Addr) (H : Hp), σ.length = Ng.length → R cls d H D.rt → wAs X.K c i ts (fun _ _ _ _ => False) D cls d σ H) :
    LamX.GivesTo X Ng xg sg g cdg [.Try [.Expr (.Call (.Name a p1) [] [] p2) p3] [.ExceptHandler (some (.Name x2 p4)) (some e) (b0 :: suite) p5] [] [] p6, .Return (some (.Constant (.str z0) j p7)) p8] a q (TTh R z0) := by
  intro f c' s H Q tl act hc h
  refine ⟨_, pss_cons (ps_try_as (X := (cxOf C8.CX0 X.prog X.w X.K X.mg X.base Ng xg sg g cdg X.A X.stack s H C8.E0).nox) (i := i) (Wout := fun _ _ _ _ => False)
      (tb := fun W D σ H => ∃ Ech : XK, (∀ cls d σ' H', σ'.length = Ng.length → Ech cls d H' → W cls d σ' H') ∧ σ[0]? = some (some (.ref f)) ∧ H c' = some (LamX.CodeO c' q) ∧ tl Ech H fun _ H' => D.nx σ H')
      rfl rfl nd hi hl (nm s H) LamX.takes0 (fun W pn xe tk _ => ?_) (fun aE oe cls d pn hz hf => hsu s H aE oe cls d pn hz hf)) (pss_one (ps_ret pe_str)), ?_⟩
  · refine ⟨fun pins s' σ H' D I hh => ?_⟩
    obtain ⟨Ech, hW, h1, h2, h3⟩ := hh
    have hp := act _ pn xe Ech p1 p2 (takes_len tk) fun cls d σ' H' he hl => hW cls d σ' H' hl he
    exact (pss_one (ps_expr hp)).run pins s' σ H' D I ⟨h1, h2, h3⟩
  · exact ⟨fun cls d H' => R cls d H' Q, fun cls d σ' H' hl hr => hR _ σ' cls d H' hl hr, h0 f, hc, h⟩
end Gd
namespace Gd
open PySem PySem.Spec PyProof.Rows L2
/-- the places below n where f holds -/
def idxF (f : Nat → Bool) (n : Nat) : List Int := ((List.range n).filter f).map fun i : Nat => (i : Int)
theorem idxF_zero (f : Nat → Bool) : idxF f 0 = [] := rfl
theorem idxF_succ (f : Nat → Bool) (n : Nat) : idxF f (n + 1) = idxF f n ++ (if f n = true then [(n : Int)] else []) := by
  unfold idxF
  rw [List.range_succ, List.filter_append, List.map_append]
  by_cases h : f n = true
  · rw [if_pos h, List.filter_cons_of_pos h]
    rfl
  · rw [if_neg h, List.filter_cons_of_neg h]
    rfl
theorem idxF_len (f : Nat → Bool) (n : Nat) : (idxF f n).length ≤ n := by
  unfold idxF
  rw [List.length_map]
  have := List.length_filter_le f (List.range n)
  rw [List.length_range] at this
  exact this
theorem idxF_mem {f : Nat → Bool} {n : Nat} {x : Int} : x ∈ idxF f n ↔ ∃ i : Nat, x = (i : Int) ∧ i < n ∧ f i = true := by
  unfold idxF
  constructor
  · intro h
    obtain ⟨i, hi, e⟩ := List.mem_map.mp h
    obtain ⟨h1, h2⟩ := List.mem_filter.mp hi
    exact ⟨i, e.symm, List.mem_range.mp h1, h2⟩
  · rintro ⟨i, rfl, h1, h2⟩
    exact List.mem_map.mpr ⟨i, List.mem_filter.mpr ⟨List.mem_range.mpr h1, h2⟩, rfl⟩
theorem idxF_congr {f g : Nat → Bool} {n : Nat} (h : ∀ i, i < n → f i = g i) : idxF f n = idxF g n := by
  unfold idxF
  rw [List.filter_congr fun x hx => h x (List.mem_range.mp hx)]
theorem idxF_asc (f : Nat → Bool) (n : Nat) : AscI (idxF f n) := by
  unfold idxF AscI
  rw [List.pairwise_map]
  exact (List.Pairwise.filter f List.pairwise_lt_range).imp fun h => by omega
/-- a type accepts a kind -/
def acc (t : TD) (a : Nat) (k : Int) : Bool := match t.types[a]? with
  | some c => decide (k ∈ c.2)
  | none => false
theorem acc_of {t : TD} {a : Nat} {c : Str × List Int} (h : t.types[a]? = some c) (k : Int) : acc t a k = decide (k ∈ c.2) := by
  unfold acc
  rw [h]
def typesOf (t : TD) (ks : List Int) : List Int := idxF (fun a => ks.any fun k => acc t a k) t.types.length
def takersL (t : TD) (k : Int) : List Int := typesOf t [k]
def withoutL (t : TD) (k : Int) : List Int := idxF (fun a => !acc t a k) t.types.length
theorem idx_small {f : Nat → Bool} {n : Nat} (h : n ≤ 12) : ∀ x ∈ idxF f n, x.natAbs < 10 ^ 9 := fun x hx => by
  obtain ⟨i, rfl, hi, _⟩ := idxF_mem.mp hx
  omega
end Gd
namespace Gd
open PySem PySem.Spec PyProof.Rows L2
/-- what is told of an error with a word -/
structure WTxt (K : PySem.W.Frag) (mg : Str → Option Value) (nm : Str) (CX fX : Addr) : Prop where
  ox : OexC K CX
  nW : PySem.W.findIn K (.ref CX) "word" = some none
  iC : PySem.W.findIn K (.ref CX) "__init__" = some (some (.ref fX))
  tI : PySem.W.typeIn K (.ref fX) = some (.type "function")
  gR : mg nm = some (.ref CX)
theorem blk_nox {X : Cx} {r : List Stmt} {G : TS → Prop} (h : ∃ u, PSs X.nox r u ∧ G u) : ∃ u, PSs X r u ∧ G u := h.elim fun u z => ⟨u, z.1.nox, z.2⟩
def xdS (z : Str) : HO := .xd [(("word" : Str), .str z)]
def spIRef (K : PySem.W.Frag) (C : Addr) : Sp := fun vs H Q _ => ∃ (a : Addr) (z : Str), vs = [.ref a, .str z] ∧ H a = some (exo a C none) ∧ ∀ dx, H dx = none → dx ≠ a → Q .non (upd (upd H dx (exd dx [("word", .str z)])) a (exo a C (some dx)))
/-- all but lists and instances stands as before -/
def KeepU (H G : Hp) : Prop := ∀ b o, H b = some o → (∀ xs, o ≠ .lst xs) → (∀ C dx fs, o ≠ .ins C dx fs) → G b = some o
theorem KeepU.of {H G : Hp} (e : KeepT H G) : KeepU H G := fun b o h n _ => e b o h n
theorem KeepU.trans {H G J : Hp} (a : KeepU H G) (b : KeepU G J) : KeepU H J := fun c o h n m => b c o (a c o h n m) n m
theorem KeepU.ins {H : Hp} {p C dx : Addr} {fs : List (Str × V)} {o : HO} (h : H p = some (.ins C dx fs)) : KeepU H (upd H p o) := fun b x e _ m => by
  have ne : b ≠ p := fun z => by
    subst z
    exact m _ _ _ (Option.some.inj (h.symm.trans e)).symm
  exact (upd_ne ne).trans e
theorem KeepU.seqT {K : PySem.W.Frag} {H G : Hp} {a : Addr} {xs : List V} (e : KeepU H G) (h : SqT K H a xs) : SqT K G a xs := by
  rcases h with (z | ⟨o, z⟩) | z
  · exact .inl (.inl (e _ _ z (by intro _ q; cases q) (by intro _ _ _ q; cases q)))
  · exact .inl (.inr ⟨o, e _ _ z (by intro _ q; cases q) (by intro _ _ _ q; cases q)⟩)
  · exact .inr z
theorem KeepU.dp {K : PySem.W.Frag} {H G : Hp} (e : KeepU H G) (d : PyData) (v : V) (n : noList d = true) (h : Dp K H v d) : Dp K G v d := dp_sq (fun _ _ z => e.seqT z) d v n h
theorem KeepU.dpAll {K : PySem.W.Frag} {H G : Hp} (e : KeepU H G) (ds : List PyData) (vs : List V) (n : noListAll ds = true) (h : DpAll K H vs ds) : DpAll K G vs ds := dpAll_sq (fun _ _ z => e.seqT z) ds vs n h
/-- all stands but what is in S; all but lists and instances stands -/
structure FrmU (S : List Addr) (H G : Hp) : Prop where
  ku : KeepU H G
  ks : ∀ b o, b ∉ S → H b = some o → G b = some o
theorem FrmU.of {S : List Addr} {H G : Hp} (f : Frm S H G) : FrmU S H G := ⟨.of f.kt, f.ks⟩
theorem FrmU.same {S : List Addr} {H G : Hp} (e : Same H G) : FrmU S H G := .of (.same e)
theorem FrmU.trans {S : List Addr} {H G J : Hp} (a : FrmU S H G) (b : FrmU S G J) : FrmU S H J := ⟨a.ku.trans b.ku, fun c o n h => b.ks c o n (a.ks c o n h)⟩
theorem FrmU.mono {S T : List Addr} {H G : Hp} (a : FrmU S H G) (h : ∀ x ∈ S, x ∈ T) : FrmU T H G := ⟨a.ku, fun b o n e => a.ks b o (fun z => n (h b z)) e⟩
theorem FrmU.ins {S : List Addr} {H : Hp} {p C dx : Addr} {fs : List (Str × V)} {o : HO} (h : H p = some (.ins C dx fs)) (m : p ∈ S) : FrmU S H (upd H p o) := ⟨.ins h, fun b x n e => (upd_ne fun z => n (by rw [z]; exact m)).trans e⟩
theorem Hv.frmU {h l : Addr} {S : List Addr} {H G : Hp} {L : List Int} {st : Int} (v : Hv H h l L st) (f : FrmU S H G) (n1 : h ∉ S) (n2 : l ∉ S) : Hv G h l L st :=
  ⟨f.ks _ _ n1 v.top, f.ks _ _ n2 v.bot, v.ne, v.lo, v.hi, v.len⟩
/-- for i, x in enumerate(list) -/
theorem for_enL {K : PySem.W.Frag} {a : Addr} {xs : List V} {g : TG} {tb : TS} {D : Ends} {σ : L2.St} {H : Hp} (Pv : Nat → L2.St → Hp → Prop) (h0 : Pv 0 σ H) (stay : ∀ i σ G, i ≤ xs.length → Pv i σ G → SqL K G a xs)
    (hs : ∀ i x T σ G, xs[i]? = some x → Pv i σ G → G T = none → g (.ref T) σ (upd G T (.tup [.int (i : Nat), x])) fun σ2 H2 => tb { D with nx := Pv (i + 1), ct := Pv (i + 1), bk := D.nx } σ2 H2) (hd : ∀ σ G, Pv xs.length σ G → D.nx σ G) :
    ∃ W : Nat → Nat → L2.St → Hp → Prop, (∃ m, W 0 m σ H) ∧ ∀ i m σ H, W i m σ H →
      ((Ite K a).stop i H ∧ D.nx σ H) ∨ ((Ite K a).go i H ∧ ∃ N : L2.St → Hp → Prop, (∀ σ' H', N σ' H' → ∃ m', m' < m ∧ W (i + 1) m' σ' H') ∧ ∀ v H', (Ite K a).yld i H v H' → g v σ H' fun σ2 H2 => tb { D with nx := N, ct := N, bk := D.nx } σ2 H2) := by
  refine ⟨fun i m σ G => m = xs.length - i ∧ i ≤ xs.length ∧ Pv i σ G, ⟨_, rfl, Nat.zero_le _, h0⟩, fun i m σ G hw => ?_⟩
  obtain ⟨rfl, hi, hp⟩ := hw
  have hq := stay i σ G hi hp
  by_cases hlt : i < xs.length
  · refine .inr ⟨⟨xs, xs[i], hq, List.getElem?_eq_getElem hlt⟩, Pv (i + 1), fun σ' G' hp' => ⟨_, by omega, rfl, hlt, hp'⟩, fun v G' hy => ?_⟩
    obtain ⟨T, x, rfl, hT, rfl, hx⟩ := hy
    exact hs i x T σ G (hx xs hq) hp hT
  · have e : i = xs.length := by omega
    subst e
    exact .inl ⟨⟨xs, hq, Nat.le_refl _⟩, hd σ G hp⟩
abbrev rLenQ (K : PySem.W.Frag) : List V → Hp → VK → Prop := fun xs H Q => ∃ p ys, xs = [.ref p] ∧ (SqL K H p ys ∨ SqT K H p ys) ∧ Q (.int ys.length) H
end Gd
/-! A try with several except clauses, each with a name, which let no error pass. -/
namespace Gd
open PySem PySem.Spec PyProof.Rows L2
/-- a clause: its class, the slot of its name, what its suite makes of an error -/
abbrev Clause := Value × Nat × (Addr → Value → Option Addr → TS)
/-- what clauses wish of an error: the first that fits gets it, and one fits -/
def wAll (K : PySem.W.Frag) (D : Ends) : List Clause → WX
  | [] => fun _ _ _ _ => False
  | c :: r => wAs K c.1 c.2.1 c.2.2 (wAll K D r) D
inductive ClsOk (X : Cx) : List ExceptHandler → List Clause → Prop
  | nil : ClsOk X [] []
  | cons {x n : Str} {c : Value} {i : Nat} {ts : Addr → Value → Option Addr → TS} {b : Stmt} {bs : List Stmt} {p q : Pos} {hs : List ExceptHandler} {l : List Clause} (nm : Names X x c) (hi : X.N[i]? = some n) (hl : X.env.kindOf n = some .local)
      (su : ∀ (a : Addr) (o : Obj) (cls : Value) (d : Option Addr) (pn : List (Addr × Obj)), Zc cls d o → (∃ vs, o.data = .fields vs) → PSs (X.suite a ((a, o) :: pn)) (b :: bs) (ts a cls d)) (r : ClsOk X hs l) :
      ClsOk X (.ExceptHandler (some (.Name x p)) (some n) (b :: bs) q :: hs) ((c, i, ts) :: l)
/-- an error that has come down to the clauses: t, the state without it -/
structure Down (X : Cx) (pins : List (Addr × Obj)) (σ : L2.St) (H : Hp) (t s : Shared) (a : Addr) (B : Heap) (cls : Value) (d : Option Addr) : Prop where
  I : Inv X pins σ H t
  nb : ∀ b o, t.heap.get? b = some o → b ∉ frs X.stack → B.get? b = some o
  up : t.heap.UpToSlots s.heap
  fl : HandSPX.FlyingZ B (X.env :: X.outer) a (Zc cls d) s.heap
  na : H a = none
  os : s.os = t.os
  ag : AllBare s.gens
section
variable {X : Cx} {pins : List (Addr × Obj)} {σ : L2.St} {H : Hp} {t s : Shared} {a : Addr} {B : Heap} {cls : Value} {d : Option Addr}
theorem Down.on (x : Down X pins σ H t s a B cls d) {h' : Heap} (fl : HandSPX.FlyingZ B (X.env :: X.outer) a (Zc cls d) h') (up : s.heap.UpToSlots h') : Down X pins σ H t { s with heap := h' } a B cls d :=
  ⟨x.I, x.nb, x.up.trans up, fl, x.na, x.os, x.ag⟩
theorem Down.inv (x : Down X pins σ H t s a B cls d) : Inv X pins σ H s := x.I.landed x.nb x.fl.1 x.up x.os x.ag
/-- the state in which the clauses look at it -/
theorem Down.held (x : Down X pins σ H t s a B cls d) (hf : X.env.frame = some X.env.locals) : ∃ o : Obj, s.heap.get? a = some o ∧ Zc cls d o ∧ (∃ vs, o.data = .fields vs) ∧ Inv (X.suite a ((a, o) :: (X.pn ++ pins))) [] σ H s := by
  obtain ⟨o, vs, e, z, dt⟩ := x.fl.there
  have off : a ∉ frs (X.env :: X.outer) := fun m => by
    obtain ⟨_, o2, e2, n⟩ := x.fl.2.2.1.mem m
    obtain rfl : o = o2 := Option.some.inj (e.symm.trans e2)
    exact n _ dt
  have at_ : ∀ {v : Env}, v ∈ X.env :: X.outer → v.frame ≠ some a := fun {v} m q => off (List.mem_filterMap.mpr ⟨v, m, q⟩)
  refine ⟨o, e, z, ⟨vs, dt⟩, x.inv.suite e dt x.na (fun q => at_ List.mem_cons_self (by rw [hf, q])) fun m => ?_⟩
  obtain ⟨v, hv, q⟩ := List.mem_filterMap.mp m
  exact at_ (List.mem_cons_of_mem _ hv) q
theorem clauses_go {hds : List ExceptHandler} {l : List Clause} {D : Ends} (hf : X.env.frame = some X.env.locals) (hN : X.N.Nodup) (ok : X.Ok) (k : ClsOk X hds l) (x : Down X pins σ H t s a B cls d) (w : wAll X.K D l cls d σ H) :
    wpAny (model X.prog X.w) X.A (handleBy (.ref a) X.env hds) (SP X pins D) X.xe s := by
  induction k with
  | nil => exact w.elim
  | @cons cn n c i ts b bs p q hs l nm hi hl su r ih =>
    obtain ⟨y, fit, yes, no⟩ := w
    obtain ⟨o, e, z, dt, S⟩ := x.held hf
    have fits := PySem.W.exm_one (M := model X.prog X.w) x.inv.kIn (fun A Q E s' k q => wpAny_typeOf_ref (k _ _ e) (by rw [z.1]; exact q)) fit
    have name : ∀ {Q E : Value → Shared → Prop}, Q c s → wpAny (model X.prog X.w) (X.A.mark (some (.ref a))) (eval (.Name cn p) X.env) Q E s := fun q => by
      rcases nm with ⟨g, g2, m | ⟨m, v, n3⟩⟩
      · exact ld_glob (X := X.suite a ((a, o) :: (X.pn ++ pins))) S g m q g2
      · exact ld_blt (X := X.suite a ((a, o) :: (X.pn ++ pins))) S g m v q n3 g2
    refine wpAny_handleBy_cons (codeAny_handlers_test (name (fits.here ?_))) (by intro q; cases q)
    cases y
    · exact ih (no rfl)
    refine codeAny_handlers_suite_as (HandSPX.lands_againZ x.fl fun h' fl up => ?_)
    have x2 := x.on fl up
    obtain ⟨o2, e2, z2, dt2, S2⟩ := x2.held hf
    refine store_ok (X := X.suite a ((a, o2) :: (X.pn ++ pins))) (v := .ref a) S2 hN hi (.inl hl) rfl (fun s3 S3 => ?_) (.inr hl)
    refine wpAny_mono ((su a o2 cls d (X.pn ++ pins) z2 dt2).run [] s3 _ H _ S3 (yes rfl a x.na)) (fun f s4 h4 => ?_) fun _ _ z => z.elim
    have away : ∀ {σ4 : L2.St} {H4 : Hp} {R : Shared → Prop}, Inv (X.suite a ((a, o2) :: (X.pn ++ pins))) [] σ4 H4 s4 → (∀ s5, Inv X pins (σ4.set i none) H4 s5 → R s5) → wpAny (model X.prog X.w) X.A (do bindName X.env n .none; unbindBehindTheSuite X.env n q) (fun _ s5 => R s5) X.xe s4 := fun S4 g => gone_ok (S4.unsuite ok) hN hi hl g
    rcases f with _ | u | _ | _
    · obtain ⟨_, _, S4, q4⟩ := h4
      exact away S4 fun _ J => ⟨_, _, J, q4⟩
    all_goals first
      | (obtain ⟨_, _, _, S4, r4, q4⟩ := h4; exact away S4 fun _ J => ⟨_, _, _, J, r4, q4⟩)
      | (obtain ⟨_, _, S4, q4⟩ := h4; exact away S4 fun _ J => ⟨_, _, J, q4⟩)
end
section
variable {X : Cx} {body : List Stmt} {hd : ExceptHandler} {hds : List ExceptHandler} {l : List Clause} {pos : Pos} {tb : WX → TS}
theorem ps_try_all (hs : X.stack = X.env :: X.outer) (hf : X.env.frame = some X.env.locals) (hN : X.N.Nodup) (k : ClsOk X (hd :: hds) l)
    (hb : ∀ (W : WX) (pn : List (Addr × Obj)) (xe : Value → Shared → Prop), Takes (X.tr pn xe) W → PassesOwn (model X.prog X.w) X.A X.env xe → PSs (X.tr pn xe) body (tb W)) :
    PS X (.Try body (hd :: hds) [] [] pos) fun D σ H => tb (wAll X.K D l) D σ H := by
  refine ⟨fun pins s σ H D I h => ?_⟩
  have ok := I.ok
  refine wpAny_Try_except (wpAny_mono ((hb (wAll X.K D l) (X.pn ++ pins) (fun e s1 => wpAny (model X.prog X.w) X.A (noteFrame e X.env) (fun _ s2 => wpAny (model X.prog X.w) X.A (setFlight e none) (fun _ s3 => wpAny (model X.prog X.w) X.A (handleBy e X.env (hd :: hds)) (SP X pins D) X.xe s3) X.xe s2) X.xe s1) ?_ PassesOwn.looking).run [] s σ H D (I.toTry _) h) ?_ fun _ _ z => z)
  · rintro u s' ⟨a, B, t, pins', σ', H', cls, d, rfl, J, nb, up, sky, na, os, ag, w⟩
    have sky' : Sky B (X.env :: X.outer) a (Zc cls d) X.env.locals s'.heap := hs ▸ sky
    have fr : X.A.frames = some (X.env :: X.outer) := ok.frames.trans (congrArg some hs)
    exact Sky.land Zc.steady fr hf sky' fun h3 fl up3 => clauses_go (t := t) hf hN ok k ⟨J.ofTry ok, nb, up.trans up3, fl, na, os, ag⟩ w
  · intro f s1 h1
    rcases f with _ | u | _ | _
    · obtain ⟨_, _, J, q⟩ := h1
      exact wpAny_execs_nil ⟨_, _, J.ofTry ok, q⟩
    all_goals first
      | (obtain ⟨_, _, _, J, r, q⟩ := h1; exact ⟨_, _, _, J.ofTry ok, r, q⟩)
      | (obtain ⟨_, _, J, q⟩ := h1; exact ⟨_, _, J.ofTry ok, q⟩)
end
end Gd
/-! A def that calls the lambda it got and tells of errors by several clauses with names: try: action() / except x as e: .. / except .. / return z. -/
namespace Gd
open PySem PySem.Spec PyProof.Rows L2
abbrev asEnds (D : Ends) (i : Nat) : Ends := { nx := fun σ' H' => D.nx (σ'.set i none) H', rt := D.rt, bk := fun σ' H' => D.bk (σ'.set i none) H', ct := fun σ' H' => D.ct (σ'.set i none) H' }
section
variable {K : PySem.W.Frag} {D : Ends} {c : Value} {i : Nat} {ts : Addr → Value → Option Addr → TS} {r : List Clause} {cls : Value} {d : Option Addr} {σ : L2.St} {H : Hp}
theorem wAll_hit (e : PySem.W.exmOne K cls c = some true) (h : ∀ a, H a = none → ts a cls d (asEnds D i) (σ.set i (some (.ref a))) H) : wAll K D ((c, i, ts) :: r) cls d σ H := ⟨true, e, fun _ => h, fun z => nomatch z⟩
theorem wAll_miss (e : PySem.W.exmOne K cls c = some false) (h : wAll K D r cls d σ H) : wAll K D ((c, i, ts) :: r) cls d σ H := ⟨false, e, fun z => (nomatch z), fun _ => h⟩
end
/-- what the def makes of the lambda: R of an error, zv without one -/
abbrev TTs (R : Value → Option Addr → Hp → VK → Prop) (zv : V) : (XK → Hp → VK → Prop) → Hp → VK → Prop := fun tl H Q => tl (fun cls d H' => R cls d H' Q) H fun _ H' => Q zv H'
theorem heards_gives {X : Cx} {Ng : List Str} {xg a q : Str} {sg : Scope} {g : Addr} {cdg : Value} {hd : ExceptHandler} {hds : List ExceptHandler} {l : List Clause} {z : Expr} {zv : V} {R : Value → Option Addr → Hp → VK → Prop} {p1 p2 p3 p6 p8 : Pos}
    (nd : Ng.Nodup) (hk : ∀ (s : Shared) (H : Hp), ClsOk (cxOf C8.CX0 X.prog X.w X.K X.mg X.base Ng xg sg g cdg X.A X.stack s H C8.E0).nox (hd :: hds) l) (hz : ∀ Y : Cx, PE Y z (tC zv))
    (h0 : ∀ f : Addr, (L2.start Ng [V.ref f])[0]? = some (some (V.ref f)))
    (hR : ∀ (D : Ends) (σ : L2.St) (cls : Value) (d : Option Addr) (H : Hp), σ.length = Ng.length → R cls d H D.rt → wAll X.K D l cls d σ H) :
    LamX.GivesTo X Ng xg sg g cdg [.Try [.Expr (.Call (.Name a p1) [] [] p2) p3] (hd :: hds) [] [] p6, .Return (some z) p8] a q (TTs R zv) := by
  intro f c' s H Q tl act hc h
  refine ⟨_, pss_cons (ps_try_all (X := (cxOf C8.CX0 X.prog X.w X.K X.mg X.base Ng xg sg g cdg X.A X.stack s H C8.E0).nox)
      (tb := fun W D σ H => ∃ En : XK, (∀ cls d σ' H', σ'.length = Ng.length → En cls d H' → W cls d σ' H') ∧ σ[0]? = some (some (.ref f)) ∧ H c' = some (LamX.CodeO c' q) ∧ tl En H fun _ H' => D.nx σ H')
      rfl rfl nd (hk s H) fun W pn xe tk _ => ⟨fun pins s' σ H' D I hh => ?_⟩) (pss_one (ps_ret (hz _))), ?_⟩
  · obtain ⟨En, hW, a1, a2, a3⟩ := hh
    exact (pss_one (ps_expr (act _ pn xe En p1 p2 (takes_len tk) fun cls d σ' H' he hl => hW cls d σ' H' hl he))).run pins s' σ H' D I ⟨a1, a2, a3⟩
  · exact ⟨fun cls d H' => R cls d H' Q, fun cls d σ' H' hl hr => hR _ σ' cls d H' hl hr, h0 f, hc, h⟩
end Gd
/-! Defs that hand lambdas over: their code object is told; what stands while tables grow. -/
namespace Gd
open PySem PySem.Spec PyProof.Rows L2
/-- a table of lambdas among those that are followed: of the code object c, its lambdas bear the name z -/
structure LamT (T : List (Addr × Str)) (base : Heap) (mg : Str → Option Value) (c P : Addr) (z : Str) : Prop where
  tb : LamX.TabB base mg c P
  mem : (P, z) ∈ T
  un : ∀ p ∈ T, p.1 = P → p.2 = z
theorem un_of {z : Str} {P : Addr} : ∀ {T : List (Addr × Str)}, (T.map (·.1)).Nodup → (P, z) ∈ T → ∀ p ∈ T, p.1 = P → p.2 = z
  | q :: r, n, m, p, hp, e => by
    rw [List.map_cons] at n
    obtain ⟨n1, n2⟩ := List.nodup_cons.mp n
    rcases List.mem_cons.mp m with m | m
    · rcases List.mem_cons.mp hp with hp | hp
      · rw [hp, ← m]
      · exact absurd (List.mem_map.mpr ⟨p, hp, by rw [e, ← m]⟩) n1
    · rcases List.mem_cons.mp hp with hp | hp
      · exact absurd (List.mem_map.mpr ⟨(P, z), m, by rw [← e, hp]⟩) n1
      · exact un_of n2 m p hp e
section
variable {P : Program} {w : World} {K : PySem.W.Frag} {mg : Str → Option Value} {base : Heap}
/-- a def of the text, by its body, its code object known -/
theorem okGC {x qual : Str} {st : Stmt} {f c : Addr} {fd : FuncData} {N ps : List Str} {k : Nat} {sp : Sp} (F : Fun K x qual st f fd) (hc : fd.code = .ref c) (S : FnScope N ps (defScope st))
    (len : ∀ xs H Q E, sp xs H Q E → xs.length = ps.length)
    (body : ∀ (A : Around) (out : List Env) (s : Shared) (H : Hp) (xs : List V) (Q : VK) (E : XK), RmG k (A.deeper (envOfC qual (defScope st) s.heap.objs.size f (.ref c))) → sp xs H Q E →
      ∃ t, PSs (cxOf CX0 P w K mg base N qual (defScope st) f (.ref c) A out s H E).nox (defBody st) t ∧ t { nx := fun _ G => Q .non G, rt := Q } (start N xs) H) : FnG P w K mg base (k + 1) f fd ps sp := by
  obtain ⟨oc, od, kV, doc, pm, an, cv, ct, osl, rfl, lk, hcd⟩ := F.ex
  obtain rfl : cv = .ref c := hc
  refine ⟨len, fun A out s H ar us xs Q E hr e0 hb rv hsp => ?_⟩
  have up : ∀ b o, base.get? b = some o → s.heap.get? b = some o := fun b o e => (e0.bs b o e).1
  have KX := e0.mod.kin.keeps up
  refine codeAny_call_function hr.rm.depth (KX _ _ lk) rfl S.co S.gen rfl (PySem.W.codeRec_of KX hcd) (hb _ _ _ _ (wpAny_newFunctionEnv_cells S.kind (fun y hy => ?_) fun env he s1 I1 => ?_))
  · exact (S.par y.1 (List.of_mem_zip hy).1).imp id fun q => ⟨q, PySem.W.cellsFrom_some _ _ _ (.inl q)⟩
  subst he
  refine ⟨(e0.mod.nolimit.keeps up).keeps I1.toInCall.keep, codeAny_func ?_⟩
  obtain ⟨t, ht, hq⟩ := body A out s H xs Q E ⟨hr.rm.deeper _, hr.gd⟩ hsp
  refine wpAny_mono (ht.nox.run [] s1 (start N xs) H _ (inv_start S hr.rm.hd e0 (len _ _ _ _ hsp) rv I1) hq) (fun fl s' hs => ?_) fun _ _ z => z
  rcases fl with _ | u | _ | _
  · obtain ⟨σ', G, J, q⟩ := hs; exact ⟨.non, G, J.os, J.bare, J.base, J.hok, rfl, q⟩
  all_goals first
    | (obtain ⟨v, σ', G, J, r1, q⟩ := hs; exact ⟨v, G, J.os, J.bare, J.base, J.hok, r1, q⟩)
    | exact (hs.choose_spec.choose_spec.2).elim
end
/-- what a lambda's body may raise is heard -/
theorem passX {X : Cx} {A : Around} {out : List Env} {s : Shared} {H : Hp} {E : XK} {sc : Scope} {f c' : Addr} : Passes (L2.CX X.prog X.w) (LamX.lamCx X A out s H E sc f c') E := passes_call (takes_of rfl rfl rfl rfl) fun _ _ _ _ h => h
/-- f(lambda: ..), f one that hears errors -/
theorem pe_lamT {X : Cx} {T : List (Addr × Str)} {TT : (XK → Hp → VK → Prop) → Hp → VK → Prop} {x a : Str} {g c P : Addr} {k : Nat} {st : Stmt} {fd : FuncData} {Ng : List Str} {params : Arguments} {body : Expr} {scope : Scope} {t : XK → TE} {p lpos pos : Pos}
    (F : Fun X.K x x st g fd) (b : Binds X.K fd [a] []) (hg : Gl X x) (hm : X.mg x = some (.ref g)) (S : FnScope Ng [a] (defScope st)) (h0 : Ng[0]? = some a) (hv : Vis (defScope st) a)
    (hG : ∀ cdv, LamX.GivesTo X Ng x (defScope st) g cdv (defBody st) a (X.env.qual ++ "<lambda>") TT) (L : LamT T X.base X.mg c P (X.env.qual ++ "<lambda>")) (hcode : X.env.code = .ref c) (hr : Room (k + 2) X.A) (hl : LamX.LamS X.env.scope scope)
    (hbody : ∀ (A : Around) (outer : List Env) (s : Shared) (H : Hp) (E : XK) (f c' : Addr), Room k (A.deeper (LamX.lamEnv X scope s.heap.objs.size f c')) → PE (LamX.lamCx X A outer s H E scope f c') body (t E))
    (hdef : defaultsOf params X.env = ([], []) := by rfl) (hbind : ∀ (q : Str) (cl : List (Str × Addr)) (pm cv ctv : Value), bindArgs (PySem.W.kla_fn "<lambda>" q params body scope cl pm cv ctv) ⟨[], []⟩ = pure [] := by intros; rfl)
    (hdb : (x == ("__debug__" : Str)) = false := by decide) (hd : (a == ("__debug__" : Str)) = false := by decide) (hcd : (a == ("__classdict__" : Str)) = false := by decide) :
    PE X (.Call (.Name x p) [.Lambda params body scope lpos] [] pos) (LamX.tLam T TT t) := by
  obtain ⟨oc, od, kV, doc, pm, an, cdv, ct, osl, rfl, lk, hc⟩ := F.ex
  exact LamX.pe_lamcall hg hm F.kp lk hc b S h0 hv (hG cdv) L.tb hcode L.mem L.un hr hl hdef hbind hbody hdb hd hcd
end Gd
namespace K3
open PySem PySem.Spec PyProof.Rows L2 Gd
def topS (i : Nat) : Stmt := PySem.Challenge.pw_neverregret_k03_whole_stocks_bounds_and.main.body.getD i (.Pass ⟨0, 0, 0, 0⟩)
abbrev s_is_number : Stmt := topS 6
abbrev n_is_number : List Str := ["value"]
theorem sc_is_number : FnScope n_is_number ["value"] (defScope s_is_number) := ⟨rfl, rfl, rfl, by decide +kernel, rfl, by decide +kernel, by decide +kernel⟩
abbrev s_is_number_below : Stmt := topS 7
abbrev n_is_number_below : List Str := ["value", "limit"]
theorem sc_is_number_below : FnScope n_is_number_below ["value", "limit"] (defScope s_is_number_below) := ⟨rfl, rfl, rfl, by decide +kernel, rfl, by decide +kernel, by decide +kernel⟩
abbrev s_is_name : Stmt := topS 8
abbrev n_is_name : List Str := ["value", "sign"]
theorem sc_is_name : FnScope n_is_name ["value"] (defScope s_is_name) := ⟨rfl, rfl, rfl, by decide +kernel, rfl, by decide +kernel, by decide +kernel⟩
abbrev s_is_tuple_of : Stmt := topS 9
abbrev n_is_tuple_of : List Str := ["value", "length"]
theorem sc_is_tuple_of : FnScope n_is_tuple_of ["value", "length"] (defScope s_is_tuple_of) := ⟨rfl, rfl, rfl, by decide +kernel, rfl, by decide +kernel, by decide +kernel⟩
abbrev s_is_ascending : Stmt := topS 10
abbrev n_is_ascending : List Str := ["items", "at"]
theorem sc_is_ascending : FnScope n_is_ascending ["items"] (defScope s_is_ascending) := ⟨rfl, rfl, rfl, by decide +kernel, rfl, by decide +kernel, by decide +kernel⟩
abbrev s_are_numbers_below : Stmt := topS 11
abbrev n_are_numbers_below : List Str := ["value", "limit", "item"]
theorem sc_are_numbers_below : FnScope n_are_numbers_below ["value", "limit"] (defScope s_are_numbers_below) := ⟨rfl, rfl, rfl, by decide +kernel, rfl, by decide +kernel, by decide +kernel⟩
abbrev s_is_lot_below : Stmt := topS 12
abbrev n_is_lot_below : List Str := ["value", "limit"]
theorem sc_is_lot_below : FnScope n_is_lot_below ["value", "limit"] (defScope s_is_lot_below) := ⟨rfl, rfl, rfl, by decide +kernel, rfl, by decide +kernel, by decide +kernel⟩
abbrev s_is_lot_of_names : Stmt := topS 13
abbrev n_is_lot_of_names : List Str := ["value", "item"]
theorem sc_is_lot_of_names : FnScope n_is_lot_of_names ["value"] (defScope s_is_lot_of_names) := ⟨rfl, rfl, rfl, by decide +kernel, rfl, by decide +kernel, by decide +kernel⟩
abbrev s_counts_of : Stmt := topS 14
abbrev n_counts_of : List Str := ["items", "length", "counts", "item"]
theorem sc_counts_of : FnScope n_counts_of ["items", "length"] (defScope s_counts_of) := ⟨rfl, rfl, rfl, by decide +kernel, rfl, by decide +kernel, by decide +kernel⟩
abbrev s_changed_at : Stmt := topS 15
abbrev n_changed_at : List Str := ["numbers", "at", "by"]
theorem sc_changed_at : FnScope n_changed_at ["numbers", "at", "by"] (defScope s_changed_at) := ⟨rfl, rfl, rfl, by decide +kernel, rfl, by decide +kernel, by decide +kernel⟩
abbrev s_first_false : Stmt := topS 16
abbrev n_first_false : List Str := ["flags"]
theorem sc_first_false : FnScope n_first_false ["flags"] (defScope s_first_false) := ⟨rfl, rfl, rfl, by decide +kernel, rfl, by decide +kernel, by decide +kernel⟩
abbrev s_InvalidTable_init : Stmt := inClass (topS 19) 0
abbrev n_InvalidTable_init : List Str := ["self", "at"]
theorem sc_InvalidTable_init : FnScope n_InvalidTable_init ["self", "at"] (defScope s_InvalidTable_init) := ⟨rfl, rfl, rfl, by decide +kernel, rfl, by decide +kernel, by decide +kernel⟩
abbrev s_InvalidStock_init : Stmt := inClass (topS 20) 0
abbrev n_InvalidStock_init : List Str := ["self", "at"]
theorem sc_InvalidStock_init : FnScope n_InvalidStock_init ["self", "at"] (defScope s_InvalidStock_init) := ⟨rfl, rfl, rfl, by decide +kernel, rfl, by decide +kernel, by decide +kernel⟩
abbrev s_InvalidBounds_init : Stmt := inClass (topS 21) 0
abbrev n_InvalidBounds_init : List Str := ["self", "at"]
theorem sc_InvalidBounds_init : FnScope n_InvalidBounds_init ["self", "at"] (defScope s_InvalidBounds_init) := ⟨rfl, rfl, rfl, by decide +kernel, rfl, by decide +kernel, by decide +kernel⟩
abbrev s_InvalidRow_init : Stmt := inClass (topS 22) 0
abbrev n_InvalidRow_init : List Str := ["self", "at"]
theorem sc_InvalidRow_init : FnScope n_InvalidRow_init ["self", "at"] (defScope s_InvalidRow_init) := ⟨rfl, rfl, rfl, by decide +kernel, rfl, by decide +kernel, by decide +kernel⟩
abbrev s_Refused_init : Stmt := inClass (topS 23) 0
abbrev n_Refused_init : List Str := ["self", "word"]
theorem sc_Refused_init : FnScope n_Refused_init ["self", "word"] (defScope s_Refused_init) := ⟨rfl, rfl, rfl, by decide +kernel, rfl, by decide +kernel, by decide +kernel⟩
abbrev s_Table_init : Stmt := inClass (topS 25) 0
abbrev n_Table_init : List Str := ["self", "kinds", "types", "at", "item"]
theorem sc_Table_init : FnScope n_Table_init ["self", "kinds", "types"] (defScope s_Table_init) := ⟨rfl, rfl, rfl, by decide +kernel, rfl, by decide +kernel, by decide +kernel⟩
abbrev s_Table_eq : Stmt := inClass (topS 25) 1
abbrev n_Table_eq : List Str := ["self", "other"]
theorem sc_Table_eq : FnScope n_Table_eq ["self", "other"] (defScope s_Table_eq) := ⟨rfl, rfl, rfl, by decide +kernel, rfl, by decide +kernel, by decide +kernel⟩
abbrev s_is_type_pair : Stmt := topS 26
abbrev n_is_type_pair : List Str := ["value", "many_kinds"]
theorem sc_is_type_pair : FnScope n_is_type_pair ["value", "many_kinds"] (defScope s_is_type_pair) := ⟨rfl, rfl, rfl, by decide +kernel, rfl, by decide +kernel, by decide +kernel⟩
abbrev s_stock_fault : Stmt := topS 27
abbrev n_stock_fault : List Str := ["table", "value", "item"]
theorem sc_stock_fault : FnScope n_stock_fault ["table", "value"] (defScope s_stock_fault) := ⟨rfl, rfl, rfl, by decide +kernel, rfl, by decide +kernel, by decide +kernel⟩
abbrev s_check_stock : Stmt := topS 28
abbrev n_check_stock : List Str := ["table", "value", "fault"]
theorem sc_check_stock : FnScope n_check_stock ["table", "value"] (defScope s_check_stock) := ⟨rfl, rfl, rfl, by decide +kernel, rfl, by decide +kernel, by decide +kernel⟩
abbrev s_bounds_fault : Stmt := topS 29
abbrev n_bounds_fault : List Str := ["table", "value", "item"]
theorem sc_bounds_fault : FnScope n_bounds_fault ["table", "value"] (defScope s_bounds_fault) := ⟨rfl, rfl, rfl, by decide +kernel, rfl, by decide +kernel, by decide +kernel⟩
abbrev s_check_bounds : Stmt := topS 30
abbrev n_check_bounds : List Str := ["table", "value", "fault"]
theorem sc_check_bounds : FnScope n_check_bounds ["table", "value"] (defScope s_check_bounds) := ⟨rfl, rfl, rfl, by decide +kernel, rfl, by decide +kernel, by decide +kernel⟩
abbrev s_row_fault : Stmt := topS 31
abbrev n_row_fault : List Str := ["table", "value", "item"]
theorem sc_row_fault : FnScope n_row_fault ["table", "value"] (defScope s_row_fault) := ⟨rfl, rfl, rfl, by decide +kernel, rfl, by decide +kernel, by decide +kernel⟩
abbrev s_check_row : Stmt := topS 32
abbrev n_check_row : List Str := ["table", "value", "fault"]
theorem sc_check_row : FnScope n_check_row ["table", "value"] (defScope s_check_row) := ⟨rfl, rfl, rfl, by decide +kernel, rfl, by decide +kernel, by decide +kernel⟩
abbrev s_units_in : Stmt := topS 34
abbrev n_units_in : List Str := ["stock", "kinds", "kind"]
theorem sc_units_in : FnScope n_units_in ["stock", "kinds"] (defScope s_units_in) := ⟨rfl, rfl, rfl, by decide +kernel, rfl, by decide +kernel, by decide +kernel⟩
abbrev s_unit_taken : Stmt := topS 35
abbrev n_unit_taken : List Str := ["stock", "kind"]
theorem sc_unit_taken : FnScope n_unit_taken ["stock", "kind"] (defScope s_unit_taken) := ⟨rfl, rfl, rfl, by decide +kernel, rfl, by decide +kernel, by decide +kernel⟩
abbrev s_unit_put : Stmt := topS 36
abbrev n_unit_put : List Str := ["stock", "kind"]
theorem sc_unit_put : FnScope n_unit_put ["stock", "kind"] (defScope s_unit_put) := ⟨rfl, rfl, rfl, by decide +kernel, rfl, by decide +kernel, by decide +kernel⟩
abbrev s_bounds_after : Stmt := topS 37
abbrev n_bounds_after : List Str := ["bounds", "request"]
theorem sc_bounds_after : FnScope n_bounds_after ["bounds", "request"] (defScope s_bounds_after) := ⟨rfl, rfl, rfl, by decide +kernel, rfl, by decide +kernel, by decide +kernel⟩
abbrev s_row_counts : Stmt := topS 38
abbrev n_row_counts : List Str := ["table", "row"]
theorem sc_row_counts : FnScope n_row_counts ["table", "row"] (defScope s_row_counts) := ⟨rfl, rfl, rfl, by decide +kernel, rfl, by decide +kernel, by decide +kernel⟩
abbrev s__law_heap : Stmt := topS 40
abbrev n__law_heap : List Str := ["script", "cell", "cells", "stir"]
theorem sc__law_heap : FnScope n__law_heap ["script"] (defScope s__law_heap) := ⟨rfl, rfl, rfl, by decide +kernel, rfl, by decide +kernel, by decide +kernel⟩
abbrev s__law_draw : Stmt := topS 41
abbrev n__law_draw : List Str := ["heap", "many", "rest"]
theorem sc__law_draw : FnScope n__law_draw ["heap", "many"] (defScope s__law_draw) := ⟨rfl, rfl, rfl, by decide +kernel, rfl, by decide +kernel, by decide +kernel⟩
abbrev s__law_pick : Stmt := topS 42
abbrev n__law_pick : List Str := ["heap", "some"]
theorem sc__law_pick : FnScope n__law_pick ["heap", "some"] (defScope s__law_pick) := ⟨rfl, rfl, rfl, by decide +kernel, rfl, by decide +kernel, by decide +kernel⟩
abbrev s__law_names : Stmt := topS 43
abbrev n__law_names : List Str := ["heap", "many", "letters", "front", "first", "at", "found"]
theorem sc__law_names : FnScope n__law_names ["heap", "many"] (defScope s__law_names) := ⟨rfl, rfl, rfl, by decide +kernel, rfl, by decide +kernel, by decide +kernel⟩
abbrev s__law_lot : Stmt := topS 44
abbrev n__law_lot : List Str := ["heap", "many", "share", "at"]
theorem sc__law_lot : FnScope n__law_lot ["heap", "many", "share"] (defScope s__law_lot) := ⟨rfl, rfl, rfl, by decide +kernel, rfl, by decide +kernel, by decide +kernel⟩
abbrev s__law_parts : Stmt := topS 45
abbrev n__law_parts : List Str := ["heap", "kinds", "types", "names", "found", "name", "kind", "lot"]
theorem sc__law_parts : FnScope n__law_parts ["heap", "kinds", "types"] (defScope s__law_parts) := ⟨rfl, rfl, rfl, by decide +kernel, rfl, by decide +kernel, by decide +kernel⟩
abbrev s__law_is_number : Stmt := topS 46
abbrev n__law_is_number : List Str := ["value", "most"]
theorem sc__law_is_number : FnScope n__law_is_number ["value", "most"] (defScope s__law_is_number) := ⟨rfl, rfl, rfl, by decide +kernel, rfl, by decide +kernel, by decide +kernel⟩
abbrev s__law_fault : Stmt := topS 47
abbrev n__law_fault : List Str := ["value", "sizes", "most", "none", "at"]
theorem sc__law_fault : FnScope n__law_fault ["value", "sizes", "most", "none"] (defScope s__law_fault) := ⟨rfl, rfl, rfl, by decide +kernel, rfl, by decide +kernel, by decide +kernel⟩
abbrev s__law_heard : Stmt := topS 48
abbrev n__law_heard : List Str := ["action", "error"]
theorem sc__law_heard : FnScope n__law_heard ["action"] (defScope s__law_heard) := ⟨rfl, rfl, rfl, by decide +kernel, rfl, by decide +kernel, by decide +kernel⟩
abbrev s__law_odd : Stmt := topS 49
abbrev n__law_odd : List Str := ["heap", "value", "some", "at", "part"]
theorem sc__law_odd : FnScope n__law_odd ["heap", "value"] (defScope s__law_odd) := ⟨rfl, rfl, rfl, by decide +kernel, rfl, by decide +kernel, by decide +kernel⟩
abbrev s__law_checked_right : Stmt := topS 50
abbrev n__law_checked_right : List Str := ["heap", "table", "stock", "bounds", "row", "kinds", "types", "turn", "at", "heard", "value"]
theorem sc__law_checked_right : FnScope n__law_checked_right ["heap", "table", "stock", "bounds", "row"] (defScope s__law_checked_right) := ⟨rfl, rfl, rfl, by decide +kernel, rfl, by decide +kernel, by decide +kernel⟩
abbrev s__law_units_right : Stmt := topS 51
abbrev n__law_units_right : List Str := ["heap", "table", "stock", "share", "lot", "kind", "due", "less", "more"]
theorem sc__law_units_right : FnScope n__law_units_right ["heap", "table", "stock"] (defScope s__law_units_right) := ⟨rfl, rfl, rfl, by decide +kernel, rfl, by decide +kernel, by decide +kernel⟩
abbrev s__law_requests_right : Stmt := topS 52
abbrev n__law_requests_right : List Str := ["table", "bounds", "row", "due", "counts", "request", "at"]
theorem sc__law_requests_right : FnScope n__law_requests_right ["table", "bounds", "row"] (defScope s__law_requests_right) := ⟨rfl, rfl, rfl, by decide +kernel, rfl, by decide +kernel, by decide +kernel⟩
abbrev s_law : Stmt := topS 53
abbrev n_law : List Str := ["script", "heap", "turn", "kinds", "types", "numbers", "stock", "bounds", "size", "row", "kept", "heard", "table", "kind", "name", "request"]
theorem sc_law : FnScope n_law ["script"] (defScope s_law) := ⟨rfl, rfl, rfl, by decide +kernel, rfl, by decide +kernel, by decide +kernel⟩
end K3
namespace K3
open PySem PySem.Spec PyProof.Rows L2 Gd
section
variable {P : Program} {w : World} {K : PySem.W.Frag} {mg : Str → Option Value} {base : Heap}
def spDraw : Sp := fun vs H Q _ => ∃ (h l : Addr) (L : List Int) (st m : Int), vs = [.ref h, .int m] ∧ Hv H h l L st ∧ 0 < m ∧ m < 1000000000 ∧
  ∀ G L' st' r, But h l H G → Hv G h l L' st' → 0 ≤ r → r < m → Q (.int r) G
theorem ok_draw {f : Addr} {fd : FuncData} {k : Nat} (F : Fun K "_law_draw" "_law_draw" s__law_draw f fd) (mi : mg "int" = none) : FnOk P w K mg base CX0 (k + 1) f fd ["heap", "many"] spDraw := by
  refine F.ok sc__law_draw (fun vs H Q E h => ?_) (fun cdv A outer s H vs Q E hr h => ?_)
  · obtain ⟨h, l, L, st, m, rfl, _⟩ := h
    rfl
  · obtain ⟨h, l, L, st, m, rfl, hv, h0, h1, q⟩ := h
    refine ⟨_, pss_cons (ps_while PassesOwn.never (PW.pt (pw_and (pt_cmpR (op_neD hr.units) (pe_ix ix_list (pv 0) pe_int (fun _ _ => rfl)) (pe_lst pa_nil) (nomark _))
        (pw_and1 (pt_cmpR op_eq (pe_ix ix_list (pe_ix ix_list (pv 0) pe_int (fun _ _ => rfl)) (pe_un un_neg pe_int) (fun _ _ => rfl)) pe_int (nomark _)))))
        (pss_one (ps_expr (pe_bm0 PySem.F.plainAttrs_list PySem.F.slot_list_pop PySem.F.type_list_pop mt_pop (pe_ix ix_list (pv 0) pe_int (fun _ _ => rfl))))))
      (pss_cons (ps_if (pt_cmpR (op_neD hr.units) (pe_ix ix_list (pv 0) pe_int (fun _ _ => rfl)) (pe_lst pa_nil) (nomark _))
        (pss_cons (ps_set (i := 2) sc__law_draw.nd rfl (.inl rfl) (pe_bm0 PySem.F.plainAttrs_list PySem.F.slot_list_pop PySem.F.type_list_pop mt_pop (pe_ix ix_list (pv 0) pe_int (fun _ _ => rfl))))
          (pss_cons (ps_expr (pe_bm PySem.F.plainAttrs_list PySem.F.slot_list_append PySem.F.type_list_append mt_append (pe_ix ix_list (pv 0) pe_int (fun _ _ => rfl)) (pa_cons (pe_op op_fdivN (pv 2) (pv 1)) pa_nil)))
            (pss_one (ps_ret (pe_op op_mod (pe_callTy call_int1 (by rfl) mi (by decide +kernel) (pa_cons (pv 2) pa_nil)) (pv 1)))))) pss_nil)
      (pss_cons (ps_asg (pe_op op_mod (pe_callTy call_int1 (by rfl) mi (by decide +kernel) (pa_cons (pe_op op_add (pe_op op_mul (pe_ix ix_list (pv 0) pe_int (fun _ _ => rfl)) pe_int) pe_int) pa_nil)) pe_int) (pg_sub (pv 0) pe_int set_list))
      (pss_one (ps_ret (pe_op op_mod (pe_callTy call_int1 (by rfl) mi (by decide +kernel) (pa_cons (pe_op op_fdivN (pe_ix ix_list (pv 0) pe_int (fun _ _ => rfl)) pe_int) pa_nil)) (pv 1)))))), ?_⟩
    refine ⟨fun n σ G => ∃ M, n = M.length ∧ σ = [some (.ref h), some (.int m), none] ∧ Hv G h l M st ∧ But h l H G, ⟨_, L, rfl, rfl, hv, But.refl _ _ _⟩, fun n σ G hw => ?_⟩
    obtain ⟨M, rfl, rfl, hg, bt⟩ := hw
    refine ⟨.ref h, rfl, h, _, 0, .ref l, rfl, rfl, sqL hg.top, atI_nat (j := 0) rfl, Nat.zero_le _, fun p np => ?_⟩
    refine ⟨.list (M.map .int), .list [], dp_ints (hg.new np).bot, .lst (sqL upd_same) .nil, shaped_ints M, rfl, _, rfl, ?_⟩
    have hg1 := hg.new (o := .lst []) np
    have bt1 := bt.new (o := .lst []) np
    rw [eqv_nil]
    by_cases hM : M = []
    · -- the list is empty: a new number
      subst hM
      refine iteF ?_
      refine iteF ?_
      -- if heap[0] != []
      refine ⟨.ref h, rfl, h, _, 0, .ref l, rfl, rfl, sqL hg1.top, atI_nat (j := 0) rfl, Nat.zero_le _, fun p2 np2 => ?_⟩
      refine ⟨.list (([] : List Int).map .int), .list [], dp_ints (hg1.new np2).bot, .lst (sqL upd_same) .nil, shaped_ints [], rfl, _, rfl, ?_⟩
      have hg2 := hg1.new (o := .lst []) np2
      have bt2 := bt1.new (o := .lst []) np2
      rw [eqv_nil]
      refine iteF ?_
      -- heap[1] = int(heap[1] * 48271 + 17) % 2147483647
      have hlo := hv.lo
      have hhi := hv.hi
      refine ⟨.ref h, rfl, h, _, 1, .int st, rfl, rfl, sqL hg2.top, atI_nat (j := 1) rfl, _, _, rfl, rfl, .inl ⟨by omega, by omega⟩, _, _, rfl, rfl, .inl ⟨_, rfl, _, _, rfl, rfl, (by show (0 : Int) < 2147483647; decide), ?_⟩⟩
      have n0 := Int.emod_nonneg (st * 48271 + 17) (show (2147483647 : Int) ≠ 0 by decide)
      have n1 := Int.emod_lt_of_pos (st * 48271 + 17) (show (0 : Int) < 2147483647 by decide)
      refine ⟨.ref h, rfl, h, _, 1, 1, rfl, rfl, hg2.top, rfl, ?_⟩
      have hg3 := hg2.setN n0 n1
      have bt3 : But h l H _ := bt2.atH (o := .lst [.ref l, .int ((st * 48271 + 17) % 2147483647)])
      -- return int(heap[1] // 32) % many
      refine ⟨.ref h, rfl, h, _, 1, _, rfl, rfl, sqL upd_same, atI_nat (j := 1) rfl, _, _, rfl, rfl, ⟨by decide, by decide⟩, .inl ⟨_, rfl, .int m, rfl, _, _, rfl, rfl, h0, ?_⟩⟩
      exact q _ _ _ _ bt3 hg3 (Int.emod_nonneg _ (by omega)) (Int.emod_lt_of_pos _ h0)
    · rw [decide_eq_false hM]
      refine iteT ?_
      -- heap[0][-1] == 0
      refine ⟨.ref h, rfl, h, _, 0, .ref l, rfl, rfl, sqL hg1.top, atI_nat (j := 0) rfl, 1, rfl, l, _, -1, _, rfl, rfl, sqL hg1.bot, last_map hM, rfl, _, rfl, ?_⟩
      have lt : M.dropLast.length < M.length := by
        have := List.length_pos_iff.mpr hM
        rw [List.length_dropLast]
        omega
      by_cases hz : M.getLast hM = 0
      · -- it ends in 0: pop
        rw [hz, decide_eq_true rfl]
        refine iteT ?_
        refine ⟨fun σ' G' => σ' = [some (.ref h), some (.int m), none] ∧ Hv G' h l M.dropLast st ∧ But h l H G', fun σ' G' z => ⟨_, lt, _, rfl, z.1, z.2.1, z.2.2⟩, ?_⟩
        refine ⟨.ref h, rfl, h, _, 0, .ref l, rfl, rfl, sqL hg1.top, atI_nat (j := 0) rfl, .inl ⟨rfl, _, sqL hg1.bot⟩, l, _, _, rfl, rfl, hg1.bot, last_get hM, rfl, ?_, ?_⟩
        · rw [drop_map]
          exact hg1.setL (Nat.le_trans (Nat.le_of_lt lt) hg1.len)
        · exact bt1.atL
      · -- the loop's end
        rw [decide_eq_false (show ¬ V.int (M.getLast hM) = V.int 0 from fun z => hz (V.int.inj z))]
        refine iteF ?_
        -- if heap[0] != []
        refine ⟨.ref h, rfl, h, _, 0, .ref l, rfl, rfl, sqL hg1.top, atI_nat (j := 0) rfl, Nat.zero_le _, fun p2 np2 => ?_⟩
        refine ⟨.list (M.map .int), .list [], dp_ints (hg1.new np2).bot, .lst (sqL upd_same) .nil, shaped_ints M, rfl, _, rfl, ?_⟩
        have hg2 := hg1.new (o := .lst []) np2
        have bt2 := bt1.new (o := .lst []) np2
        rw [eqv_nil, decide_eq_false hM]
        refine iteT ?_
        -- rest = heap[0].pop()
        refine ⟨.ref h, rfl, h, _, 0, .ref l, rfl, rfl, sqL hg2.top, atI_nat (j := 0) rfl, .inl ⟨rfl, _, sqL hg2.bot⟩, l, _, _, rfl, rfl, hg2.bot, last_get hM, ?_⟩
        rw [drop_map]
        have hg3 := hg2.setL (M := M.dropLast) (Nat.le_trans (Nat.le_of_lt lt) hg1.len)
        have bt3 : But h l H _ := bt2.atL (o := .lst (M.dropLast.map V.int))
        -- heap[0].append(rest // many)
        refine ⟨.ref h, rfl, h, _, 0, .ref l, rfl, rfl, sqL hg3.top, atI_nat (j := 0) rfl, .inl ⟨rfl, _, sqL hg3.bot⟩, .int (M.getLast hM), rfl, .int m, rfl, _, _, rfl, rfl, ⟨by omega, by omega⟩, l, _, _, rfl, rfl, hg3.bot, ?_, ?_⟩
        · have := hg1.len
          rw [List.length_map]
          exact small1000 (by omega)
        have e : M.dropLast.map V.int ++ [.int ((M.getLast hM).fdiv m)] = (M.dropLast ++ [(M.getLast hM).fdiv m]).map V.int := by
          rw [List.map_append]
          rfl
        rw [e]
        have hg4 := hg3.setL (M := M.dropLast ++ [(M.getLast hM).fdiv m]) (by
          have := hg1.len
          rw [List.length_append]
          show _ + 1 ≤ 63
          omega)
        have bt4 : But h l H _ := bt3.atL (o := .lst ((M.dropLast ++ [(M.getLast hM).fdiv m]).map V.int))
        -- return int(rest) % many
        refine ⟨.int (M.getLast hM), rfl, .inl ⟨_, rfl, .int m, rfl, _, _, rfl, rfl, h0, ?_⟩⟩
        exact q _ _ _ _ bt4 hg4 (Int.emod_nonneg _ (by omega)) (Int.emod_lt_of_pos _ h0)
def spPick (K : PySem.W.Frag) : Sp := fun vs H Q _ => ∃ (h l : Addr) (L : List Int) (st : Int) (p : Addr) (xs : List V), vs = [.ref h, .ref p] ∧ Hv H h l L st ∧ SqL K H p xs ∧ p ≠ h ∧ p ≠ l ∧ 0 < xs.length ∧ xs.length < 1000 ∧
  ∀ (G : Hp) (L' : List Int) (st' : Int) (i : Nat) (x : V), But h l H G → Hv G h l L' st' → xs[i]? = some x → Q x G
theorem ok_pick {f fD : Addr} {fd fdD : FuncData} {k : Nat} (F : Fun K "_law_pick" "_law_pick" s__law_pick f fd) (FD : Fun K "_law_draw" "_law_draw" s__law_draw fD fdD) (bD : Binds K fdD ["heap", "many"] []) (gD : mg "_law_draw" = some (.ref fD))
    (ml : mg "len" = none) (mi : mg "int" = none) : FnOk P w K mg base CX0 (k + 1 + 1) f fd ["heap", "some"] (spPick K) := by
  have GD : FnOk P w K mg base CX0 (k + 1) fD fdD ["heap", "many"] spDraw := ok_draw FD mi
  refine F.ok sc__law_pick (fun vs H Q E h => ?_) (fun cdv A outer s H vs Q E hr h => ?_)
  · obtain ⟨h, l, L, st, p, xs, rfl, _⟩ := h
    rfl
  · obtain ⟨h, l, L, st, p, xs, rfl, hv, hs, n1, n2, h0, h1, q⟩ := h
    refine ⟨_, pss_one (ps_ret (pe_ix ix_list (pv 1) (pe_call GD hr (by rfl) gD FD.kp bD .nil pass0 (pa_cons (pv 0) (pa_cons (pe_callB call_len_seq (by rfl) ml PySem.boot_len (pa_cons (pv 1) pa_nil)) pa_nil))) (fun _ _ => rfl))), ?_⟩
    refine ⟨.ref p, rfl, .ref h, rfl, .ref p, rfl, p, xs, rfl, .inl hs, h, l, L, st, xs.length, rfl, hv, by omega, by omega, fun G L' st' r bt hv' r0 r1 => ?_⟩
    obtain ⟨i, rfl⟩ := Int.eq_ofNat_of_zero_le r0
    have hi : i < xs.length := by omega
    exact ⟨p, xs, _, xs[i], rfl, rfl, bt.seqL n1 n2 hs, atI_nat (List.getElem?_eq_getElem hi), q G L' st' i _ bt hv' (List.getElem?_eq_getElem hi)⟩
def spHeap (K : PySem.W.Frag) : Sp := fun vs H Q _ => ∃ (a : Addr) (ns : List Int), vs = [.ref a] ∧ SqL K H a (ns.map V.int) ∧ ns.length ≤ 63 ∧
  ∀ (G : Hp) (h l : Addr) (L : List Int) (st : Int), Same H G → H h = none → H l = none → Hv G h l L st → Q (.ref h) G
theorem ok_heap {f : Addr} {fd : FuncData} {k : Nat} (F : Fun K "_law_heap" "_law_heap" s__law_heap f fd) (ma : mg "abs" = none) (mi : mg "int" = none) : FnOk P w K mg base CX0 (k + 1) f fd ["script"] (spHeap K) := by
  refine F.ok sc__law_heap (fun vs H Q E h => ?_) (fun cdv A outer s H vs Q E hr h => ?_)
  · obtain ⟨a, ns, rfl, _⟩ := h
    rfl
  · obtain ⟨a, ns, rfl, hs, hl, q⟩ := h
    refine ⟨_, pss_cons (ps_par (i := 2) (j := 3) rfl sc__law_heap.nd rfl rfl (by decide) rfl rfl (pa_cons (pe_lc (own := [("cell", 1)]) (g := gName 1) (tt := tYes) rfl sc__law_heap.nd (pi_list (pe_slice sl_list (pv 0) po_none (po_some pe_int)))
          (blkOk_by (own := [("cell", 1)]) (N := ["script", "cell", "cells", "stir"]) (sc := defScope s__law_heap) (by decide +kernel)) (fun _ _ _ _ _ => pg_name (i := 1) sc__law_heap.nd rfl (Or.inl rfl)) (fun _ _ _ _ _ => pts_nil)
          (fun _ _ _ _ _ => pe_op op_add (pe_op op_mul pe_int (pe_callB call_abs (by rfl) ma (by decide +kernel) (pa_cons (pv 1) pa_nil))) (pe_callTy call_int1 (by rfl) mi (by decide +kernel) (pa_cons (pe_cmpR op_lt (pv 1) pe_int (nomark _)) pa_nil)))) (pa_cons pe_int pa_nil)) (by rfl))
      (pss_cons (ps_for PassesOwn.never rfl (pi_list (pv 2)) (pg_name (i := 1) sc__law_heap.nd rfl (.inl rfl))
        (pss_one (ps_set (i := 3) sc__law_heap.nd rfl (.inl rfl) (pe_op op_mod (pe_callTy call_int1 (by rfl) mi (by decide +kernel) (pa_cons (pe_op op_add (pe_op op_add (pe_op op_mul (pv 3) pe_int) (pe_op op_mod (pe_callTy call_int1 (by rfl) mi (by decide +kernel) (pa_cons (pv 1) pa_nil)) pe_int)) pe_int) pa_nil)) pe_int))))
      (pss_one (ps_ret (pe_lst (pa_cons (pe_revL (pe_lc (own := [("cell", 1)]) (g := gName 1) rfl sc__law_heap.nd (pi_list (pv 2))
          (blkOk_by (own := [("cell", 1)]) (N := ["script", "cell", "cells", "stir"]) (sc := defScope s__law_heap) (by decide +kernel)) (fun _ _ _ _ _ => pg_name (i := 1) sc__law_heap.nd rfl (Or.inl rfl))
          (fun _ _ _ _ _ => pts_one (pt_cmpR op_ge (pv 1) (pe_op op_pow pe_int pe_int) (nomark _))) (fun _ _ _ _ _ => pv 1))) (pa_cons (pv 3) pa_nil)))))), ?_⟩
    -- script[:60]
    refine ⟨.ref a, rfl, 60, rfl, a, _, rfl, hs, fun p np => ⟨p, rfl, ⟨_, sqL upd_same⟩, fun D nD => ?_⟩⟩
    have s1 : Same H _ := same_new (o := .lst (cutV (ns.map V.int) none (some 60))) np
    have ecut : cutV (ns.map V.int) none (some 60) = (ns.take 60).map V.int := by
      unfold cutV
      rw [HT.sIx_none, show (some (60 : Int)) = some ((60 : Nat) : Int) from rfl, HT.sIx_nat, List.drop_zero, Nat.sub_zero, List.length_map, List.map_take]
      by_cases z : 60 ≤ ns.length
      · rw [Nat.min_eq_left z]
      · rw [Nat.min_eq_right (by omega), List.take_of_length_le (by rw [List.length_map]; exact Nat.le_refl _), List.take_of_length_le (by rw [List.length_map]; omega)]
    rw [ecut] at s1 nD ⊢
    refine lc_list (K := K) (a := p) (xs := (ns.take 60).map V.int) (fun i G => Same (upd H p (.lst ((ns.take 60).map V.int))) G ∧ ∃ cs : List Int, G D = some (.lst (cs.map V.int)) ∧ cs.length = i)
      ⟨same_new nD, [], upd_same, rfl⟩ (fun i G _ hP => sqL (hP.1 _ _ upd_same)) (fun i x G hx hP => ?_) (fun G hP => ?_)
    · obtain ⟨s2, cs, gD, cl⟩ := hP
      obtain ⟨n, hn, rfl⟩ : ∃ n, (ns.take 60)[i]? = some n ∧ V.int n = x := by
        rw [List.getElem?_map] at hx
        cases e : (ns.take 60)[i]? with
        | none => rw [e] at hx; cases hx
        | some n => rw [e] at hx; exact ⟨n, rfl, Option.some.inj hx⟩
      have hi := (List.getElem?_eq_some_iff.mp hn).1
      rw [List.length_take] at hi
      refine ⟨rfl, ?_⟩
      dsimp only [tYes]
      rw [if_pos rfl]
      refine ⟨_, rfl, n, rfl, 2, _, rfl, rfl, .inl ⟨by decide, by decide⟩, _, rfl, _, _, rfl, rfl, .inr ⟨_, rfl, _, _, rfl, rfl, cs.map V.int, gD, ?_, fun b o e => ?_, cs ++ [2 * (if n < 0 then -n else n) + (if decide (n < 0) = true then 1 else 0)], ?_, ?_⟩⟩
      · rw [List.length_map]
        exact small1000 (by omega)
      · rw [upd_ne (ne_of_none e nD)]
        exact s2 _ _ e
      · rw [upd_same, List.map_append]
        rfl
      · rw [List.length_append, cl]
        rfl
    · obtain ⟨s2, cs, gD, cl⟩ := hP
      have sG := s1.trans s2
      rw [List.length_map, List.length_take] at cl
      refine ⟨_, _, rfl, ?_⟩
      -- for cell in cells
      refine ⟨.ref D, rfl, D, rfl, ⟨_, sqL gD⟩, for_list (xs := cs.map V.int) (fun i σ G' => G' = G ∧ ∃ (st : Int) (y : Option V), σ = [some (.ref a), y, some (.ref D), some (.int st)] ∧ 0 ≤ st ∧ st < 2147483647)
        ⟨rfl, 30011, none, rfl, by decide, by decide⟩ (fun i σ G' _ hP => by rw [hP.1]; exact sqL gD) (fun i x σ G' hx hP => ?_) (fun σ G' hP => ?_)⟩
      · obtain ⟨rfl, st, y, rfl, h0, h1⟩ := hP
        obtain ⟨n, rfl⟩ : ∃ n, V.int n = x := by
          rw [List.getElem?_map] at hx
          cases e : cs[i]? with
          | none => rw [e] at hx; cases hx
          | some n => rw [e] at hx; exact ⟨n, Option.some.inj hx⟩
        refine ⟨_, rfl, _, _, rfl, rfl, .inl ⟨by omega, by omega⟩, _, rfl, .inl ⟨_, rfl, _, _, rfl, rfl, (by show (0 : Int) < 2147483563; decide), _, _, rfl, rfl, _, _, rfl, rfl, .inl ⟨_, rfl, _, _, rfl, rfl, (by show (0 : Int) < 2147483647; decide), rfl, _, _, rfl, ?_, ?_⟩⟩⟩
        · exact Int.emod_nonneg _ (by decide)
        · exact Int.emod_lt_of_pos _ (by decide)
      · obtain ⟨rfl, st, y, rfl, h0, h1⟩ := hP
        refine ⟨.ref D, rfl, D, rfl, ⟨_, sqL gD⟩, fun D2 nD2 => ?_⟩
        refine lc_list (K := K) (a := D) (xs := cs.map V.int) (fun i G2 => Same G' G2 ∧ ∃ es : List Int, G2 D2 = some (.lst (es.map V.int)) ∧ es.length ≤ i)
          ⟨same_new nD2, [], upd_same, Nat.le_refl _⟩ (fun i G2 _ hP => sqL (hP.1 _ _ gD)) (fun i x G2 hx hP => ?_) (fun G2 hP => ?_)
        · obtain ⟨s3, es, gE, el⟩ := hP
          obtain ⟨n, hn, rfl⟩ : ∃ n, cs[i]? = some n ∧ V.int n = x := by
            rw [List.getElem?_map] at hx
            cases e : cs[i]? with
            | none => rw [e] at hx; cases hx
            | some n => rw [e] at hx; exact ⟨n, rfl, Option.some.inj hx⟩
          have hi := (List.getElem?_eq_some_iff.mp hn).1
          refine ⟨rfl, _, rfl, 10, 18, rfl, rfl, ⟨by decide, by decide, by decide⟩, _, _, rfl, rfl, _, rfl, ite2 (fun _ => ?_) (fun _ => ⟨s3, es, gE, Nat.le_succ_of_le el⟩)⟩
          refine ⟨_, rfl, es.map V.int, gE, ?_, fun b o e => ?_, es ++ [n], ?_, ?_⟩
          · rw [List.length_map]
            exact small1000 (by omega)
          · rw [upd_ne (ne_of_none e nD2)]
            exact s3 _ _ e
          · rw [upd_same, List.map_append]
            rfl
          · rw [List.length_append]
            exact Nat.succ_le_succ el
        · obtain ⟨s3, es, gE, el⟩ := hP
          rw [List.length_map] at el
          refine ⟨D2, _, rfl, sqL gE, fun l nl => ?_⟩
          refine ⟨_, rfl, by show 2 ≤ sizeLine; decide, fun h nh => ?_⟩
          have s4 : Same G2 _ := same_new (o := .lst (es.map V.int).reverse) nl
          have s5 := s4.trans (same_new (o := .lst [.ref l, .int st]) nh)
          have up : ∀ b, G2 b = none → H b = none := fun b e => by
            cases z : H b with
            | none => rfl
            | some o => exact nomatch (s3 _ _ (sG _ _ z)).symm.trans e
          have nlh : l ≠ h := ne_of_none upd_same nh
          refine q _ h l es.reverse st ((sG.trans s3).trans s5) (up h ((by
            cases z : G2 h with
            | none => rfl
            | some o => exact nomatch (s4 _ _ z).symm.trans nh))) (up l nl) ⟨upd_same, ?_, nlh, h0, h1, ?_⟩
          · rw [upd_ne nlh, upd_same, List.map_reverse]
          · rw [List.length_reverse]
            omega
end
end K3
namespace K3
open PySem PySem.Spec PyProof.Rows L2 Gd
section
variable {P : Program} {w : World} {K : PySem.W.Frag} {mg : Str → Option Value} {base : Heap}
def spNumB (K : PySem.W.Frag) : Sp := fun vs H Q _ => ∃ (x : V) (lim : Int) (b : Bool), vs = [x, .int lim] ∧ NumV K H lim x b ∧ Q (.bl b) H
def spNum (K : PySem.W.Frag) : Sp := fun vs H Q _ => ∃ x : V, vs = [x] ∧ ((∃ i, x = .int i ∧ Q (.bl (decide (0 ≤ i))) H) ∨ (∃ y, x = .bl y ∧ Q (.bl false) H) ∨ (∃ n, TyN K H x n ∧ kitB n "int" = some false ∧ Q (.bl false) H))
theorem ok_num {f : Addr} {fd : FuncData} {k : Nat} (F : Fun K "is_number" "is_number" s_is_number f fd) (mI : mg "isinstance" = none) (mi : mg "int" = none) (mb : mg "bool" = none) : FnOk P w K mg base CX0 (k + 1) f fd ["value"] (spNum K) := by
  refine F.ok sc_is_number (fun vs H Q E h => ?_) (fun cdv A outer s H vs Q E hr h => ?_)
  · obtain ⟨x, rfl, _⟩ := h
    rfl
  · obtain ⟨x, rfl, q⟩ := h
    refine blk_cons (ps_ret (pe_and (pe_callB call_isi (by rfl) mI (by decide +kernel) (pa_cons (pv 0) (pa_cons (pe_bltn (v := .ty "int") (by rfl) mi (by decide +kernel) rfl) pa_nil)))
      (pe_and (pe_not (pe_callB call_isi (by rfl) mI (by decide +kernel) (pa_cons (pv 0) (pa_cons (pe_bltn (v := .ty "bool") (by rfl) mb (by decide +kernel) rfl) pa_nil)))) (pe_one (pe_cmpR op_ge (pv 0) pe_int (nomark _)))))) ?_
    refine blk_nil ?_
    rcases q with ⟨i, rfl, q⟩ | ⟨y, rfl, q⟩ | ⟨n, t, kk, q⟩
    · refine ⟨_, rfl, _, _, _, _, true, rfl, .ty "int", TyN.int i, kit_ty (by decide +kernel), _, rfl, iteT ?_⟩
      refine ⟨_, rfl, _, _, _, _, false, rfl, .ty "bool", TyN.int i, kit_ty (by decide +kernel), _, rfl, _, rfl, iteT ?_⟩
      exact ⟨_, rfl, _, _, rfl, rfl, q⟩
    · refine ⟨_, rfl, _, _, _, _, true, rfl, .ty "int", TyN.bl y, kit_ty (by decide +kernel), _, rfl, iteT ?_⟩
      exact ⟨_, rfl, _, _, _, _, true, rfl, .ty "bool", TyN.bl y, kit_ty (by decide +kernel), _, rfl, _, rfl, iteF q⟩
    · exact ⟨_, rfl, _, _, _, _, false, rfl, .ty "int", t, kit_ty kk, _, rfl, iteF q⟩
theorem ok_numB {f fN : Addr} {fd fdN : FuncData} {k : Nat} (F : Fun K "is_number_below" "is_number_below" s_is_number_below f fd) (FN : Fun K "is_number" "is_number" s_is_number fN fdN) (bN : Binds K fdN ["value"] []) (gN : mg "is_number" = some (.ref fN))
    (mI : mg "isinstance" = none) (mi : mg "int" = none) (mb : mg "bool" = none) : FnOk P w K mg base CX0 (k + 1 + 1) f fd ["value", "limit"] (spNumB K) := by
  have GN : FnOk P w K mg base CX0 (k + 1) fN fdN ["value"] (spNum K) := ok_num FN mI mi mb
  refine F.ok sc_is_number_below (fun vs H Q E h => ?_) (fun cdv A outer s H vs Q E hr h => ?_)
  · obtain ⟨x, lim, b, rfl, _⟩ := h
    rfl
  · obtain ⟨x, lim, b, rfl, hx, q⟩ := h
    refine blk_cons (ps_ret (pe_and (pe_call GN hr (by rfl) gN FN.kp bN .nil pass0 (pa_cons (pv 0) pa_nil)) (pe_one (pe_cmpR op_lt (pv 0) (pv 1) (nomark _))))) ?_
    refine blk_nil ?_
    rcases hx with ⟨i, rfl, rfl⟩ | ⟨y, rfl, rfl⟩ | ⟨n, t, kk, rfl⟩
    · refine ⟨_, rfl, _, rfl, .inl ⟨i, rfl, _, rfl, ?_⟩⟩
      by_cases h0 : 0 ≤ i
      · rw [decide_eq_true h0]
        refine iteT ⟨_, rfl, _, rfl, _, _, rfl, rfl, ?_⟩
        have e : decide (0 ≤ i ∧ i < lim) = decide (i < lim) := decide_eq_decide.mpr ⟨fun z => z.2, fun z => ⟨h0, z⟩⟩
        rw [e] at q
        exact q
      · rw [decide_eq_false h0]
        refine iteF ?_
        rw [decide_eq_false fun z => h0 z.1] at q
        exact q
    · exact ⟨_, rfl, _, rfl, .inr (.inl ⟨y, rfl, _, rfl, iteF q⟩)⟩
    · exact ⟨_, rfl, _, rfl, .inr (.inr ⟨n, t, kk, _, rfl, iteF q⟩)⟩
/-! ### is_name, of a name -/
def spName : Sp := fun vs H Q _ => ∃ z : Str, vs = [.str z] ∧ Nm z ∧ ∀ G, Same H G → Q (.bl true) G
theorem ok_name {f : Addr} {fd : FuncData} {k : Nat} {t : Tok} (F : Fun K "is_name" "is_name" s_is_name f fd) (gL : mg "MOST_LETTERS" = some (.int 8 t)) (mI : mg "isinstance" = none) (ms : mg "str" = none) (ml : mg "len" = none) (ma : mg "all" = none) : FnOk P w K mg base CX0 (k + 1) f fd ["value"] spName := by
  refine F.ok sc_is_name (fun vs H Q E h => ?_) (fun cdv A outer s H vs Q E hr h => ?_)
  · obtain ⟨z, rfl, _⟩ := h
    rfl
  · obtain ⟨z, rfl, hz, q⟩ := h
    refine blk_cons (ps_if (PW.pt (pw_or (pt_not (pt_val (pe_callB call_isi (by rfl) mI (by decide +kernel) (pa_cons (pv 0) (pa_cons (pe_bltn (v := .ty "str") (by rfl) ms (by decide +kernel) rfl) pa_nil)))))
      (pw_or1 (pt_not (pt_chain op_le op_le pe_int (pe_callB call_len_str (by rfl) ml PySem.boot_len (pa_cons (pv 0) pa_nil)) (pe_glob (v := .int 8) (by rfl) gL ⟨_, rfl⟩)))))) (pss_one (ps_ret pe_bl)) pss_nil) ?_
    refine blk_cons (ps_ret (pe_callB (cr_all rfl) (by rfl) ma (by decide +kernel) (pa_cons (pe_lc (own := [("sign", 1)]) (g := gName 1) (tt := tYes) rfl sc_is_name.nd (pi_str (pv 0)) (blkOk_by (own := [("sign", 1)]) (N := n_is_name) (sc := defScope s_is_name) (by decide +kernel))
      (fun _ _ _ _ _ => pg_name (i := 1) sc_is_name.nd rfl (Or.inl rfl)) (fun _ _ _ _ _ => pts_nil) (fun _ _ _ _ _ => pe_chain op_le_str op_le_str pe_str (pv 1) pe_str)) pa_nil))) ?_
    refine blk_nil ?_
    obtain ⟨⟨z1, z8⟩, zc⟩ := hz
    refine ⟨_, rfl, _, _, _, _, true, rfl, .ty "str", TyN.str z, kit_ty (by decide +kernel), _, rfl, iteF ?_⟩
    refine ⟨_, rfl, z, rfl, Nat.le_trans z8 (by decide), _, _, rfl, rfl, _, rfl, ?_⟩
    rw [decide_eq_true (show (1 : Int) ≤ (z.length : Int) by omega)]
    refine iteT ⟨_, _, rfl, rfl, _, rfl, ?_⟩
    rw [decide_eq_true (show (z.length : Int) ≤ 8 by omega)]
    refine iteF ?_
    refine ⟨_, rfl, z, rfl, fun D nD => lc_str (fun i G => Same H G ∧ G D = some (.lst ((List.replicate i true).map V.bl))) ⟨same_new nD, upd_same⟩ (fun i c G hc hP => ?_) (fun G hP => ?_)⟩
    · obtain ⟨s1, gD⟩ := hP
      have hm := zc c (List.mem_of_getElem? hc)
      have hi : i < z.cps.toList.length := (List.getElem?_eq_some_iff.mp hc).1
      have hi8 : i < 8 := Nat.lt_of_lt_of_le hi z8
      refine ⟨rfl, ?_⟩
      dsimp only [tYes]
      rw [if_pos rfl]
      refine ⟨_, rfl, _, _, rfl, rfl, _, rfl, ?_⟩
      have e1 : decide ((⟨#[c]⟩ : Str).cps.toList < (Str.ofString "a").cps.toList) = false := by
        show decide (([c] : List Nat) < [97]) = false
        rw [lt_one]
        exact decide_eq_false (by omega)
      have e2 : decide ((Str.ofString "z").cps.toList < (⟨#[c]⟩ : Str).cps.toList) = false := by
        show decide (([122] : List Nat) < [c]) = false
        rw [lt_one]
        exact decide_eq_false (by omega)
      rw [e1]
      refine iteT ⟨_, _, rfl, rfl, ?_⟩
      rw [e2]
      refine ⟨_, gD, ?_, fun b ob e => ?_, ?_⟩
      · rw [List.length_map, List.length_replicate]
        exact small1000 (by omega)
      · rw [upd_ne (ne_of_none e nD)]
        exact s1 _ _ e
      · rw [upd_same, List.replicate_succ', List.map_append]
        rfl
    · obtain ⟨s1, gD⟩ := hP
      refine ⟨D, _, rfl, sqL gD, ?_⟩
      rw [show (List.replicate z.cps.toList.length true).all id = true from List.all_eq_true.mpr fun x hx => by rw [List.eq_of_mem_replicate hx]; rfl]
      exact q _ s1
end
end K3
namespace Gd
open PySem PySem.Spec PyProof.Rows L2
/-- x < y, ints or texts -/
def rLt2 : V → V → Hp → VK → Prop := fun x y H Q => (∃ i j : Int, x = .int i ∧ y = .int j ∧ Q (.bl (decide (i < j))) H) ∨ (∃ i j : Str, x = .str i ∧ y = .str j ∧ Q (.bl (decide (i.cps.toList < j.cps.toList))) H)
theorem op_lt2 {X : Cx} : OpR X (compareOp .Lt) rLt2 := by
  intro pins s σ H x y v u Q I rx ry h
  rcases h with ⟨i, j, hx, hy, q⟩ | ⟨i, j, hx, hy, q⟩
  · exact op_lt pins s σ H x y v u Q I rx ry ⟨i, j, hx, hy, q⟩
  · exact op_lt_str pins s σ H x y v u Q I rx ry ⟨i, j, hx, hy, q⟩
theorem numV_of {K : PySem.W.Frag} {H : Hp} {lim n : Int} (h : 0 ≤ n ∧ n < lim) : NumV K H lim (.int n) true := .inl ⟨n, rfl, (decide_eq_true h).symm⟩
theorem numsV_ints {K : PySem.W.Frag} {H : Hp} {lim : Int} {p : Addr} {ns : List Int} (h : SqT K H p (ns.map V.int)) (b : ∀ n ∈ ns, 0 ≤ n ∧ n < lim) (l : ns.length ≤ 1000) : NumsV K H lim (.ref p) true := by
  have key : ∀ l : List Int, (∀ n ∈ l, 0 ≤ n ∧ n < lim) → NumVs K H lim (l.map V.int) (l.map fun _ => true) ∧ (l.map fun _ => true).all id = true := fun l hl => by
    induction l with
    | nil => exact ⟨.nil, rfl⟩
    | cons x r ih =>
      obtain ⟨i1, i2⟩ := ih fun n hn => hl n (List.mem_cons_of_mem _ hn)
      exact ⟨.cons (numV_of (hl x List.mem_cons_self)) i1, i2⟩
  obtain ⟨k1, k2⟩ := key ns b
  exact .inr ⟨p, _, _, rfl, h, by rw [List.length_map]; exact l, k1, k2.symm⟩
end Gd
namespace K3
open PySem PySem.Spec PyProof.Rows L2 Gd
section
variable {P : Program} {w : World} {K : PySem.W.Frag} {mg : Str → Option Value} {base : Heap}
def spTupOf (K : PySem.W.Frag) : Sp := fun vs H Q _ => ∃ (x : V) (n : Int), vs = [x, .int n] ∧ ((∃ m, TyN K H x m ∧ kitB m "tuple" = some false ∧ Q (.bl false) H) ∨ (∃ (p : Addr) (xs : List V), x = .ref p ∧ SqT K H p xs ∧ Q (.bl (decide ((xs.length : Int) = n))) H))
theorem ok_tupOf {f : Addr} {fd : FuncData} {k : Nat} (F : Fun K "is_tuple_of" "is_tuple_of" s_is_tuple_of f fd) (mI : mg "isinstance" = none) (mt : mg "tuple" = none) (ml : mg "len" = none) : FnOk P w K mg base CX0 (k + 1) f fd ["value", "length"] (spTupOf K) := by
  refine F.ok sc_is_tuple_of (fun vs H Q E h => ?_) (fun cdv A outer s H vs Q E hr h => ?_)
  · obtain ⟨x, n, rfl, _⟩ := h
    rfl
  · obtain ⟨x, n, rfl, q⟩ := h
    refine blk_cons (ps_ret (pe_and (pe_callB call_isi (by rfl) mI (by decide +kernel) (pa_cons (pv 0) (pa_cons (pe_bltn (v := .ty "tuple") (by rfl) mt (by decide +kernel) rfl) pa_nil)))
      (pe_one (pe_cmpR op_eq (pe_callB call_len_seq (by rfl) ml PySem.boot_len (pa_cons (pv 0) pa_nil)) (pv 1) (nomark _))))) ?_
    refine blk_nil ?_
    rcases q with ⟨m, t, kk, q⟩ | ⟨p, xs, rfl, ht, q⟩
    · exact ⟨_, rfl, _, _, _, _, false, rfl, .ty "tuple", t, kit_ty kk, _, rfl, iteF q⟩
    · refine ⟨_, rfl, _, _, _, _, true, rfl, .ty "tuple", tyT ht, kit_ty (by decide +kernel), _, rfl, iteT ⟨_, rfl, p, xs, rfl, .inr ht, _, rfl, rfl, ?_⟩⟩
      have e : decide (V.int (xs.length : Int) = V.int n) = decide ((xs.length : Int) = n) := decide_eq_decide.mpr ⟨fun z => V.int.inj z, fun z => congrArg V.int z⟩
      rw [e]
      exact q
/-! ### is_ascending, of what is -/
def spAsc (K : PySem.W.Frag) : Sp := fun vs H Q _ => ∃ (p : Addr) (xs : List V), vs = [.ref p] ∧ SqT K H p xs ∧ xs.length ≤ 1000 ∧ ((∃ ns : List Int, xs = ns.map V.int ∧ AscI ns) ∨ (∃ ss : List Str, xs = ss.map V.str ∧ AscS ss)) ∧ ∀ G, Same H G → Q (.bl true) G
theorem ok_asc {f : Addr} {fd : FuncData} {k : Nat} (F : Fun K "is_ascending" "is_ascending" s_is_ascending f fd) (mr : mg "range" = none) (ml : mg "len" = none) (ma : mg "all" = none) : FnOk P w K mg base CX0 (k + 1) f fd ["items"] (spAsc K) := by
  refine F.ok sc_is_ascending (fun vs H Q E h => ?_) (fun cdv A outer s H vs Q E hr h => ?_)
  · obtain ⟨p, xs, rfl, _⟩ := h
    rfl
  · obtain ⟨p, xs, rfl, ht, hl, hx, q⟩ := h
    refine blk_cons (ps_ret (pe_callB (cr_all rfl) (by rfl) ma (by decide +kernel) (pa_cons (pe_lc (own := [("at", 1)]) (g := gName 1) (tt := tYes) rfl sc_is_ascending.nd (pi_range1 (by rfl) mr (pa_cons (pe_op op_sub (pe_callB call_len_seq (by rfl) ml PySem.boot_len (pa_cons (pv 0) pa_nil)) pe_int) pa_nil))
      (blkOk_by (own := [("at", 1)]) (N := n_is_ascending) (sc := defScope s_is_ascending) (by decide +kernel)) (fun _ _ _ _ _ => pg_name (i := 1) sc_is_ascending.nd rfl (Or.inl rfl)) (fun _ _ _ _ _ => pts_nil)
      (fun _ _ _ _ _ => pe_cmpR op_lt2 (pe_ix (r := rIxT K) ix_tup (pv 0) (pv 1) (fun _ _ => rfl)) (pe_ix (r := rIxT K) ix_tup (pv 0) (pe_op op_add (pv 1) pe_int) (fun _ _ => rfl)) (nomark _))) pa_nil))) ?_
    refine blk_nil ?_
    refine ⟨_, rfl, p, xs, rfl, .inr ht, _, _, rfl, rfl, _, rfl, by omega, by omega, fun D nD => lc_range (lo := 0) (fun i G => Same H G ∧ G D = some (.lst ((List.replicate i true).map V.bl))) ⟨same_new nD, upd_same⟩ (fun i G hi hP => ?_) (fun G hP => ?_)⟩
    · obtain ⟨s1, gD⟩ := hP
      have h1 : i < xs.length := by omega
      have h2 : i + 1 < xs.length := by omega
      have ht1 := same_seqT s1 ht
      refine ⟨rfl, ?_⟩
      dsimp only [tYes]
      rw [if_pos rfl]
      refine ⟨_, rfl, _, rfl, p, xs, _, xs[i], rfl, rfl, ht1, at_of (j := i) (by omega) (List.getElem?_eq_getElem h1), _, rfl, _, rfl, _, _, rfl, rfl, p, xs, _, xs[i + 1], rfl, rfl, ht1, at_of (j := i + 1) (by omega) (List.getElem?_eq_getElem h2), ?_⟩
      have fin : ∃ acc, G D = some (.lst acc) ∧ acc.length < sizeLine ∧ Same H (upd G D (.lst (acc ++ [.bl true]))) ∧ (upd G D (.lst (acc ++ [.bl true]))) D = some (.lst ((List.replicate (i + 1) true).map V.bl)) := by
        refine ⟨_, gD, ?_, fun b ob e => ?_, ?_⟩
        · rw [List.length_map, List.length_replicate]
          exact small1000 (by omega)
        · rw [upd_ne (ne_of_none e nD)]
          exact s1 _ _ e
        · rw [upd_same, List.replicate_succ', List.map_append]
          rfl
      rcases hx with ⟨ns, rfl, ha⟩ | ⟨ss, rfl, ha⟩
      · rw [List.length_map] at h1 h2
        have e := pw_next ha (List.getElem?_eq_getElem h1) (List.getElem?_eq_getElem h2)
        refine .inl ⟨ns[i], ns[i + 1], by rw [List.getElem_map], by rw [List.getElem_map], ?_⟩
        rw [decide_eq_true e]
        exact fin
      · rw [List.length_map] at h1 h2
        have e := pw_next ha (List.getElem?_eq_getElem h1) (List.getElem?_eq_getElem h2)
        refine .inr ⟨ss[i], ss[i + 1], by rw [List.getElem_map], by rw [List.getElem_map], ?_⟩
        rw [decide_eq_true e]
        exact fin
    · obtain ⟨s1, gD⟩ := hP
      refine ⟨D, _, rfl, sqL gD, ?_⟩
      rw [show (List.replicate _ true).all id = true from List.all_eq_true.mpr fun x hx => by rw [List.eq_of_mem_replicate hx]; rfl]
      exact q _ s1
/-! ### are_numbers_below -/
def spNums (K : PySem.W.Frag) : Sp := fun vs H Q _ => ∃ (x : V) (lim : Int) (b : Bool), vs = [x, .int lim] ∧ NumsV K H lim x b ∧ ∀ G, Same H G → Q (.bl b) G
theorem ok_nums {f fB fN : Addr} {fd fdB fdN : FuncData} {k : Nat} (F : Fun K "are_numbers_below" "are_numbers_below" s_are_numbers_below f fd) (FB : Fun K "is_number_below" "is_number_below" s_is_number_below fB fdB) (FN : Fun K "is_number" "is_number" s_is_number fN fdN) (bN : Binds K fdN ["value"] []) (bB : Binds K fdB ["value", "limit"] []) (gN : mg "is_number" = some (.ref fN)) (gB : mg "is_number_below" = some (.ref fB))
    (mI : mg "isinstance" = none) (mi : mg "int" = none) (mb : mg "bool" = none) (mt : mg "tuple" = none) (ma : mg "all" = none) : FnOk P w K mg base CX0 (k + 1 + 1 + 1) f fd ["value", "limit"] (spNums K) := by
  have GB : FnOk P w K mg base CX0 (k + 1 + 1) fB fdB ["value", "limit"] (spNumB K) := ok_numB FB FN bN gN mI mi mb
  refine F.ok sc_are_numbers_below (fun vs H Q E h => ?_) (fun cdv A outer s H vs Q E hr h => ?_)
  · obtain ⟨x, lim, b, rfl, _⟩ := h
    rfl
  · obtain ⟨x, lim, b, rfl, hx, q⟩ := h
    refine blk_cons (ps_ret (pe_and (pe_callB call_isi (by rfl) mI (by decide +kernel) (pa_cons (pv 0) (pa_cons (pe_bltn (v := .ty "tuple") (by rfl) mt (by decide +kernel) rfl) pa_nil)))
      (pe_one (pe_callB (cr_all rfl) (by rfl) ma (by decide +kernel) (pa_cons (pe_lc (own := [("item", 2)]) (g := gName 2) (tt := tYes) rfl sc_are_numbers_below.nd (pi_tup (pv 0)) (blkOk_by (own := [("item", 2)]) (N := n_are_numbers_below) (sc := defScope s_are_numbers_below) (by decide +kernel))
        (fun _ _ _ _ _ => pg_name (i := 2) sc_are_numbers_below.nd rfl (Or.inl rfl)) (fun _ _ _ _ _ => pts_nil) (fun _ _ _ _ _ => pe_call GB hr (by rfl) gB FB.kp bB .nil pass0 (pa_cons (pv 2) (pa_cons (pv 1) pa_nil)))) pa_nil))))) ?_
    refine blk_nil ?_
    rcases hx with ⟨n, t, kk, rfl⟩ | ⟨p, xs, bs, rfl, ht, hl, hb, rfl⟩
    · exact ⟨_, rfl, _, _, _, _, false, rfl, .ty "tuple", t, kit_ty kk, _, rfl, iteF (q _ (Same.refl _))⟩
    · have hbl : bs.length = xs.length := (Paired.length hb).symm
      refine ⟨_, rfl, _, _, _, _, true, rfl, .ty "tuple", tyT ht, kit_ty (by decide +kernel), _, rfl, iteT ?_⟩
      refine ⟨.ref p, rfl, p, rfl, ⟨_, ht⟩, fun D nD => lc_tup (K := K) (a := p) (xs := xs) (fun i G => Same H G ∧ G D = some (.lst ((bs.take i).map V.bl))) ⟨same_new nD, upd_same⟩ (fun i G _ hP => same_seqT hP.1 ht) (fun i x G hxi hP => ?_) (fun G hP => ?_)⟩
      · obtain ⟨s1, gD⟩ := hP
        obtain ⟨b0, hb0, hn⟩ := paired_at hb hxi
        refine ⟨rfl, ?_⟩
        dsimp only [tYes]
        rw [if_pos rfl]
        refine ⟨x, rfl, _, rfl, x, lim, b0, rfl, hn.same s1, (bs.take i).map V.bl, gD, ?_, fun b o e => ?_, ?_⟩
        · rw [List.length_map, List.length_take]
          exact small1000 (by omega)
        · rw [upd_ne (ne_of_none e nD)]
          exact s1 _ _ e
        · rw [upd_same, List.take_add_one, hb0, List.map_append]
          rfl
      · obtain ⟨s1, gD⟩ := hP
        rw [← hbl, List.take_length] at gD
        exact ⟨D, bs, rfl, sqL gD, q G s1⟩
/-! ### is_lot_below, is_lot_of_names: of what is -/
def spLot (K : PySem.W.Frag) : Sp := fun vs H Q _ => ∃ (p : Addr) (ns : List Int) (lim : Int), vs = [.ref p, .int lim] ∧ SqT K H p (ns.map V.int) ∧ ns.length ≤ 1000 ∧ AscI ns ∧ (∀ n ∈ ns, 0 ≤ n ∧ n < lim) ∧ ∀ G, Same H G → Q (.bl true) G
theorem ok_lot {f fS fA fB fN : Addr} {fd fdS fdA fdB fdN : FuncData} {k : Nat} (F : Fun K "is_lot_below" "is_lot_below" s_is_lot_below f fd) (FS : Fun K "are_numbers_below" "are_numbers_below" s_are_numbers_below fS fdS) (FA : Fun K "is_ascending" "is_ascending" s_is_ascending fA fdA)
    (FB : Fun K "is_number_below" "is_number_below" s_is_number_below fB fdB) (FN : Fun K "is_number" "is_number" s_is_number fN fdN) (bS : Binds K fdS ["value", "limit"] []) (bA : Binds K fdA ["items"] []) (bN : Binds K fdN ["value"] []) (bB : Binds K fdB ["value", "limit"] []) (gS : mg "are_numbers_below" = some (.ref fS)) (gA : mg "is_ascending" = some (.ref fA)) (gN : mg "is_number" = some (.ref fN)) (gB : mg "is_number_below" = some (.ref fB))
    (mI : mg "isinstance" = none) (mi : mg "int" = none) (mb : mg "bool" = none) (mt : mg "tuple" = none) (ma : mg "all" = none) (mr : mg "range" = none) (ml : mg "len" = none) : FnOk P w K mg base CX0 (k + 1 + 1 + 1 + 1) f fd ["value", "limit"] (spLot K) := by
  have GS : FnOk P w K mg base CX0 (k + 1 + 1 + 1) fS fdS ["value", "limit"] (spNums K) := ok_nums FS FB FN bN bB gN gB mI mi mb mt ma
  have GA : FnOk P w K mg base CX0 (k + 1 + 1 + 1) fA fdA ["items"] (spAsc K) := ok_asc FA mr ml ma
  refine F.ok sc_is_lot_below (fun vs H Q E h => ?_) (fun cdv A outer s H vs Q E hr h => ?_)
  · obtain ⟨p, ns, lim, rfl, _⟩ := h
    rfl
  · obtain ⟨p, ns, lim, rfl, ht, hl, ha, hb, q⟩ := h
    refine blk_cons (ps_ret (pe_and (pe_call GS hr (by rfl) gS FS.kp bS .nil pass0 (pa_cons (pv 0) (pa_cons (pv 1) pa_nil))) (pe_one (pe_call GA hr (by rfl) gA FA.kp bA .nil pass0 (pa_cons (pv 0) pa_nil))))) ?_
    refine blk_nil ?_
    refine ⟨_, rfl, _, rfl, .ref p, lim, true, rfl, numsV_ints ht hb hl, fun G s1 => ⟨_, rfl, iteT ⟨_, rfl, p, _, rfl, same_seqT s1 ht, by rw [List.length_map]; exact hl, .inl ⟨ns, rfl, ha⟩, fun G2 s2 => q _ (s1.trans s2)⟩⟩⟩
def spLotN (K : PySem.W.Frag) : Sp := fun vs H Q _ => ∃ (p : Addr) (ss : List Str), vs = [.ref p] ∧ SqT K H p (ss.map V.str) ∧ ss.length ≤ 1000 ∧ AscS ss ∧ (∀ z ∈ ss, Nm z) ∧ ∀ G, Same H G → Q (.bl true) G
theorem ok_lotN {f fM fA : Addr} {fd fdM fdA : FuncData} {k : Nat} {t : Tok} (F : Fun K "is_lot_of_names" "is_lot_of_names" s_is_lot_of_names f fd) (FM : Fun K "is_name" "is_name" s_is_name fM fdM) (FA : Fun K "is_ascending" "is_ascending" s_is_ascending fA fdA)
    (bM : Binds K fdM ["value"] []) (bA : Binds K fdA ["items"] []) (gM : mg "is_name" = some (.ref fM)) (gA : mg "is_ascending" = some (.ref fA)) (gL : mg "MOST_LETTERS" = some (.int 8 t))
    (mI : mg "isinstance" = none) (ms : mg "str" = none) (mt : mg "tuple" = none) (ma : mg "all" = none) (mr : mg "range" = none) (ml : mg "len" = none) : FnOk P w K mg base CX0 (k + 1 + 1) f fd ["value"] (spLotN K) := by
  have GM : FnOk P w K mg base CX0 (k + 1) fM fdM ["value"] spName := ok_name FM gL mI ms ml ma
  have GA : FnOk P w K mg base CX0 (k + 1) fA fdA ["items"] (spAsc K) := ok_asc FA mr ml ma
  refine F.ok sc_is_lot_of_names (fun vs H Q E h => ?_) (fun cdv A outer s H vs Q E hr h => ?_)
  · obtain ⟨p, ss, rfl, _⟩ := h
    rfl
  · obtain ⟨p, ss, rfl, ht, hl, ha, hb, q⟩ := h
    refine blk_cons (ps_ret (pe_and (pe_callB call_isi (by rfl) mI (by decide +kernel) (pa_cons (pv 0) (pa_cons (pe_bltn (v := .ty "tuple") (by rfl) mt (by decide +kernel) rfl) pa_nil)))
      (pe_and (pe_callB (cr_all rfl) (by rfl) ma (by decide +kernel) (pa_cons (pe_lc (own := [("item", 1)]) (g := gName 1) (tt := tYes) rfl sc_is_lot_of_names.nd (pi_tup (pv 0)) (blkOk_by (own := [("item", 1)]) (N := n_is_lot_of_names) (sc := defScope s_is_lot_of_names) (by decide +kernel))
        (fun _ _ _ _ _ => pg_name (i := 1) sc_is_lot_of_names.nd rfl (Or.inl rfl)) (fun _ _ _ _ _ => pts_nil) (fun _ _ _ _ _ => pe_call GM hr (by rfl) gM FM.kp bM .nil pass0 (pa_cons (pv 1) pa_nil))) pa_nil))
      (pe_one (pe_call GA hr (by rfl) gA FA.kp bA .nil pass0 (pa_cons (pv 0) pa_nil)))))) ?_
    refine blk_nil ?_
    refine ⟨_, rfl, _, _, _, _, true, rfl, .ty "tuple", tyT ht, kit_ty (by decide +kernel), _, rfl, iteT ?_⟩
    refine ⟨.ref p, rfl, p, rfl, ⟨_, ht⟩, fun D nD => lc_tup (K := K) (a := p) (xs := ss.map V.str) (fun i G => Same H G ∧ G D = some (.lst ((List.replicate i true).map V.bl))) ⟨same_new nD, upd_same⟩ (fun i G _ hP => same_seqT hP.1 ht) (fun i x G hxi hP => ?_) (fun G hP => ?_)⟩
    · obtain ⟨s1, gD⟩ := hP
      rw [List.getElem?_map] at hxi
      obtain ⟨z, hz, rfl⟩ := Option.map_eq_some_iff.mp hxi
      have hi : i < ss.length := (List.getElem?_eq_some_iff.mp hz).1
      refine ⟨rfl, ?_⟩
      dsimp only [tYes]
      rw [if_pos rfl]
      refine ⟨_, rfl, z, rfl, hb z (List.mem_of_getElem? hz), fun G2 s2 => ⟨_, s2 _ _ gD, ?_, fun b o e => ?_, ?_⟩⟩
      · rw [List.length_map, List.length_replicate]
        exact small1000 (by omega)
      · rw [upd_ne (ne_of_none e nD)]
        exact s2 _ _ (s1 _ _ e)
      · rw [upd_same, List.replicate_succ', List.map_append]
        rfl
    · obtain ⟨s1, gD⟩ := hP
      refine ⟨D, _, rfl, sqL gD, ?_⟩
      rw [show (List.replicate _ true).all id = true from List.all_eq_true.mpr fun x hx => by rw [List.eq_of_mem_replicate hx]; rfl]
      refine ⟨_, rfl, iteT ⟨_, rfl, p, _, rfl, same_seqT s1 ht, by rw [List.length_map]; exact hl, .inr ⟨ss, rfl, ha⟩, fun G2 s2 => q _ (s1.trans s2)⟩⟩
end
end K3
namespace K3
open PySem PySem.Spec PyProof.Rows L2 Gd
section
variable {P : Program} {w : World} {K : PySem.W.Frag} {mg : Str → Option Value} {base : Heap}
/-! ### is_type_pair, of what is -/
def spPair (K : PySem.W.Frag) : Sp := fun vs H Q _ => ∃ (v : V) (p : Str × List Int) (lim : Int), vs = [v, .int lim] ∧ Dp K H v (typeD p) ∧ Nm p.1 ∧ AscI p.2 ∧ (∀ n ∈ p.2, 0 ≤ n ∧ n < lim) ∧ p.2.length ≤ 1000 ∧ ∀ G, Same H G → Q (.bl true) G
theorem ok_pair {f fT fM fL : Addr} {fd fdT fdM fdL : FuncData} {k : Nat} (F : Fun K "is_type_pair" "is_type_pair" s_is_type_pair f fd) (FT : Fun K "is_tuple_of" "is_tuple_of" s_is_tuple_of fT fdT) (FM : Fun K "is_name" "is_name" s_is_name fM fdM) (FL : Fun K "is_lot_below" "is_lot_below" s_is_lot_below fL fdL)
    (bT : Binds K fdT ["value", "length"] []) (bM : Binds K fdM ["value"] []) (bL : Binds K fdL ["value", "limit"] []) (gT : mg "is_tuple_of" = some (.ref fT)) (gM : mg "is_name" = some (.ref fM)) (gL : mg "is_lot_below" = some (.ref fL))
    (GT : FnOk P w K mg base CX0 k fT fdT ["value", "length"] (spTupOf K)) (GM : FnOk P w K mg base CX0 k fM fdM ["value"] spName) (GL : FnOk P w K mg base CX0 k fL fdL ["value", "limit"] (spLot K)) :
    FnOk P w K mg base CX0 (k + 1) f fd ["value", "many_kinds"] (spPair K) := by
  refine F.ok sc_is_type_pair (fun vs H Q E h => ?_) (fun cdv A outer s H vs Q E hr h => ?_)
  · obtain ⟨v, p, lim, rfl, _⟩ := h
    rfl
  · obtain ⟨v, p, lim, rfl, hd, hn, ha, hb, hl, q⟩ := h
    refine blk_cons (ps_ret (pe_and (pe_call GT hr (by rfl) gT FT.kp bT .nil pass0 (pa_cons (pv 0) (pa_cons pe_int pa_nil))) (pe_and (pe_call GM hr (by rfl) gM FM.kp bM .nil pass0 (pa_cons (pe_ix ix_tup (pv 0) pe_int (fun _ _ => rfl)) pa_nil))
      (pe_one (pe_call GL hr (by rfl) gL FL.kp bL .nil pass0 (pa_cons (pe_ix ix_tup (pv 0) pe_int (fun _ _ => rfl)) (pa_cons (pv 1) pa_nil))))))) ?_
    refine blk_nil ?_
    obtain ⟨a, l, rfl, hq, hlq⟩ := type_inv hd
    refine ⟨_, rfl, _, 2, rfl, .inr ⟨a, _, rfl, hq, _, rfl, iteT ?_⟩⟩
    refine ⟨_, rfl, a, _, 0, _, rfl, rfl, hq, atI_nat (j := 0) rfl, p.1, rfl, hn, fun G s1 => ⟨_, rfl, iteT ?_⟩⟩
    exact ⟨_, rfl, a, _, 1, _, rfl, rfl, same_seqT s1 hq, atI_nat (j := 1) rfl, _, rfl, l, p.2, lim, rfl, same_seqT s1 hlq, hl, ha, hb, fun G2 s2 => q _ (s1.trans s2)⟩
/-! ### Table(kinds, types), of what is -/
def spTInit (K : PySem.W.Frag) (C : Addr) : Sp := fun vs H Q _ => ∃ (p dx pk pt : Addr) (t : TD), vs = [.ref p, .ref pk, .ref pt] ∧ H p = some (.ins C dx []) ∧ Dp K H (.ref pk) (kindsD t) ∧ Dp K H (.ref pt) (typesD t) ∧ TOk t ∧
  ∀ G, (∀ b o, b ≠ p → H b = some o → G b = some o) → TblAt K C G p dx pk pt t → Q .non G
theorem ok_tinit {f C fN fP : Addr} {fd fdN fdP : FuncData} {k : Nat} {t1 t2 : Tok} (F : Fun K "__init__" "Table.__init__" s_Table_init f fd) (T : TTxt K mg C) (FN : Fun K "is_lot_of_names" "is_lot_of_names" s_is_lot_of_names fN fdN) (FP : Fun K "is_type_pair" "is_type_pair" s_is_type_pair fP fdP)
    (bN : Binds K fdN ["value"] []) (bP : Binds K fdP ["value", "many_kinds"] []) (gN : mg "is_lot_of_names" = some (.ref fN)) (gP : mg "is_type_pair" = some (.ref fP)) (gK : mg "MOST_KINDS" = some (.int 8 t1)) (gT : mg "MOST_TYPES" = some (.int 12 t2))
    (GN : FnOk P w K mg base CX0 k fN fdN ["value"] (spLotN K)) (GP : FnOk P w K mg base CX0 k fP fdP ["value", "many_kinds"] (spPair K)) (mI : mg "isinstance" = none) (mt : mg "tuple" = none) (ml : mg "len" = none) (mE : mg "enumerate" = none) :
    FnOk P w K mg base CX0 (k + 1) f fd ["self", "kinds", "types"] (spTInit K C) := by
  refine F.ok sc_Table_init (fun vs H Q E h => ?_) (fun cdv A outer s H vs Q E hr h => ?_)
  · obtain ⟨p, dx, pk, pt, t, rfl, _⟩ := h
    rfl
  · obtain ⟨p, dx, pk, pt, t, rfl, hp, hk, ht, ok, q⟩ := h
    refine blk_cons (ps_if (PW.pt (pw_or (pt_not (pt_val (pe_call GN hr (by rfl) gN FN.kp bN .nil pass0 (pa_cons (pv 1) pa_nil)))) (pw_or1 (pt_not (pt_chain op_le op_le pe_int (pe_callB call_len_seq (by rfl) ml PySem.boot_len (pa_cons (pv 1) pa_nil)) (pe_glob (v := .int 8) (by rfl) gK ⟨_, rfl⟩)))))) (pss_one ps_never) pss_nil) ?_
    refine blk_cons (ps_if (PW.pt (pw_or (pt_not (pt_val (pe_callB call_isi (by rfl) mI (by decide +kernel) (pa_cons (pv 2) (pa_cons (pe_bltn (v := .ty "tuple") (by rfl) mt (by decide +kernel) rfl) pa_nil)))))
      (pw_or1 (pt_cmpR op_gt (pe_callB call_len_seq (by rfl) ml PySem.boot_len (pa_cons (pv 2) pa_nil)) (pe_glob (v := .int 12) (by rfl) gT ⟨_, rfl⟩) (nomark _))))) (pss_one ps_never) pss_nil) ?_
    refine blk_cons (ps_for PassesOwn.never rfl (pi_enT (by rfl) mE (pa_cons (pv 2) pa_nil)) (pg_tup rfl (pgs_cons (pg_name (i := 3) sc_Table_init.nd rfl (.inl rfl)) (pgs_cons (pg_name (i := 4) sc_Table_init.nd rfl (.inl rfl)) pgs_nil)))
      (pss_one (ps_if (PW.pt (pw_or (pt_not (pt_val (pe_call GP hr (by rfl) gP FP.kp bP .nil pass0 (pa_cons (pv 4) (pa_cons (pe_callB call_len_seq (by rfl) ml PySem.boot_len (pa_cons (pv 1) pa_nil)) pa_nil)))))
        (pw_or1 (PW.pt (pw_and (pt_cmpR op_gt (pv 3) pe_int (nomark _)) (pw_and1 (pt_cmpR op_le_str (pe_ix ix_tup (pv 4) pe_int (fun _ _ => rfl)) (pe_ix ix_tup (pe_ix ix_tup (pv 2) (pe_op op_sub (pv 3) pe_int) (fun _ _ => rfl)) pe_int (fun _ _ => rfl)) (nomark _)))))))) (pss_one ps_never) pss_nil))) ?_
    refine blk_cons (ps_fld (pv 0) (pv 1) rfl) ?_
    refine blk_cons (ps_fld (pv 0) (pv 2) rfl) ?_
    refine blk_nil ?_
    have k1 := ok.k1
    have k8 := ok.k8
    have t12 := ok.t12
    have hks := kinds_sq hk
    obtain ⟨us, hts, hda⟩ := types_sq ht
    have hlu := dpAll_len hda
    rw [List.length_map] at hlu
    refine ⟨_, rfl, pk, t.kinds, rfl, hks, by omega, ok.ka, ok.kn, fun G1 s1 => ⟨_, rfl, iteF ?_⟩⟩
    refine ⟨_, rfl, pk, _, rfl, .inr (same_seqT s1 hks), _, _, rfl, rfl, _, rfl, ?_⟩
    rw [List.length_map, decide_eq_true (show (1 : Int) ≤ (t.kinds.length : Int) by omega)]
    refine iteT ⟨_, _, rfl, rfl, _, rfl, ?_⟩
    rw [decide_eq_true (show (t.kinds.length : Int) ≤ 8 by omega)]
    refine iteF ?_
    refine ⟨_, rfl, _, _, _, _, true, rfl, .ty "tuple", tyT (same_seqT s1 hts), kit_ty (by decide +kernel), _, rfl, iteF ?_⟩
    refine ⟨_, rfl, pt, _, rfl, .inr (same_seqT s1 hts), _, _, rfl, rfl, _, rfl, ?_⟩
    rw [decide_eq_false (show ¬ (us.length : Int) > 12 by omega)]
    refine iteF ?_
    dsimp only [tNext]
    refine seq_out (t := tFor _ _ _) (fun σ' G' => Same H G' ∧ ∃ y3 y4 : Option V, σ' = [some (.ref p), some (.ref pk), some (.ref pt), y3, y4]) (fun N hN => ?_) (fun σ' G2 hR => ?_)
    · refine ⟨_, rfl, pt, us, rfl, same_seqT s1 hts, for_en (xs := us) (fun i σ G => Same H G ∧ ∃ y3 y4 : Option V, σ = [some (.ref p), some (.ref pk), some (.ref pt), y3, y4]) ⟨s1, _, _, rfl⟩ (fun i σ G _ hP => same_seqT hP.1 hts) (fun i x Tp σ G hx hP nT => ?_) (fun σ G hP => hN _ _ hP)⟩
      obtain ⟨s2, y3, y4, rfl⟩ := hP
      have s3 := s2.trans (same_new (o := .tup [.int (i : Nat), x]) nT)
      have gT' := sqT (K := K) (upd_same (H := G) (a := Tp) (o := .tup [.int (i : Nat), x]))
      generalize upd G Tp (.tup [.int (i : Nat), x]) = G3 at s3 gT' ⊢
      obtain ⟨c, hc, dx1⟩ := type_at hda hx
      have hm := List.mem_of_getElem? hc
      refine ⟨Tp, _, rfl, gT', rfl, _, _, rfl, _, _, rfl, rfl, ?_⟩
      refine ⟨_, rfl, _, rfl, pk, _, rfl, .inr (same_seqT s3 hks), x, c, _, rfl, dp_same s3 _ _ dx1, ok.tn c hm, ok.la c hm, fun n hn => by rw [List.length_map]; exact ok.lb c hm n hn, Nat.le_trans (ok.lot8 hm) (by decide), fun G4 s4 => ⟨_, rfl, iteF ?_⟩⟩
      have s5 := s3.trans s4
      refine ⟨_, rfl, _, _, rfl, rfl, _, rfl, ite2 (fun h0 => ?_) (fun _ => iteF ⟨s5, _, _, rfl⟩)⟩
      have i0 : 0 < i := by
        have := of_decide_eq_true h0
        omega
      obtain ⟨j, rfl⟩ : ∃ j, i = j + 1 := ⟨i - 1, by omega⟩
      obtain ⟨a1, l1, rfl, hq1, _⟩ := type_inv (dp_same s5 _ _ dx1)
      have hj : j < t.types.length := by
        have := (List.getElem?_eq_some_iff.mp hc).1
        omega
      have hcj := List.getElem?_eq_getElem hj
      obtain ⟨v0, hv0, dv0⟩ := types_at hda hcj
      obtain ⟨a0, l0, rfl, hq0, _⟩ := type_inv (dp_same s5 _ _ dv0)
      refine ⟨_, rfl, a1, _, 0, _, rfl, rfl, hq1, atI_nat (j := 0) rfl, _, rfl, _, rfl, _, _, rfl, rfl, pt, us, _, _, rfl, rfl, same_seqT s5 hts, at_of (j := j) (by omega) hv0, a0, _, 0, _, rfl, rfl, hq0, atI_nat (j := 0) rfl, _, _, rfl, rfl, _, rfl, ?_⟩
      have lt := pw_next ok.ta (i := j) (by rw [List.getElem?_map, hcj]; rfl) (by rw [List.getElem?_map, hc]; rfl)
      rw [decide_eq_true lt]
      exact iteF ⟨s5, _, _, rfl⟩
    obtain ⟨s2, y3, y4, rfl⟩ := hR
    have hp2 := s2 _ _ hp
    refine ⟨_, rfl, _, rfl, p, C, dx, _, rfl, hp2, T.cl, T.nK, by show 0 < 1000; decide, ?_⟩
    refine ⟨_, rfl, _, rfl, p, C, dx, _, rfl, upd_same, T.cl, T.nT, Nat.lt_of_le_of_lt (len_putF2 _ _ _) (by show 1 < 1000; decide), ?_⟩
    have keep : ∀ b o, b ≠ p → H b = some o → (upd (upd G2 p (.ins C dx (putF "kinds" (.ref pk) []))) p (.ins C dx (tf pk pt))) b = some o := fun b o hb e => (upd_ne hb).trans ((upd_ne hb).trans (s2 _ _ e))
    have ks : ∀ a xs, SqT K H a xs → SqT K (upd (upd G2 p (.ins C dx (putF "kinds" (.ref pk) []))) p (.ins C dx (tf pk pt))) a xs := sqT_ins hp keep
    exact q _ keep ⟨upd_same, dp_sq ks _ _ (noList_kinds t) hk, dp_sq ks _ _ (noList_types t) ht⟩
end
end K3
namespace K3
open PySem PySem.Spec PyProof.Rows L2 Gd
section
variable {P : Program} {w : World} {K : PySem.W.Frag} {mg : Str → Option Value} {base : Heap}
/-! ### _law_names -/
def spNames (K : PySem.W.Frag) : Sp := fun vs H Q _ => ∃ (h l : Addr) (L : List Int) (st : Int) (n : Nat), vs = [.ref h, .int (n : Int)] ∧ Hv H h l L st ∧ n ≤ 12 ∧
  ∀ (G : Hp) (L' : List Int) (st' : Int) (q : Addr) (ss : List Str), But h l H G → Hv G h l L' st' → SqT K G q (ss.map V.str) → GoodN n ss → AscS ss → Q (.ref q) G
theorem ok_names {f fD fP : Addr} {fd fdD fdP : FuncData} {k : Nat} (F : Fun K "_law_names" "_law_names" s__law_names f fd) (FD : Fun K "_law_draw" "_law_draw" s__law_draw fD fdD) (FP : Fun K "_law_pick" "_law_pick" s__law_pick fP fdP)
    (bD : Binds K fdD ["heap", "many"] []) (bP : Binds K fdP ["heap", "some"] []) (gD : mg "_law_draw" = some (.ref fD)) (gP : mg "_law_pick" = some (.ref fP))
    (ml : mg "len" = none) (mi : mg "int" = none) (mr : mg "range" = none) (mt : mg "tuple" = none) (ms : mg "sorted" = none) (mm : mg "max" = none) : FnOk P w K mg base CX0 (k + 1 + 1 + 1) f fd ["heap", "many"] (spNames K) := by
  have GD : FnOk P w K mg base CX0 (k + 1 + 1) fD fdD ["heap", "many"] spDraw := ok_draw FD mi
  have GP : FnOk P w K mg base CX0 (k + 1 + 1) fP fdP ["heap", "some"] (spPick K) := ok_pick FP FD bD gD ml mi
  refine F.ok sc__law_names (fun vs H Q E h => ?_) (fun cdv A outer s H vs Q E hr h => ?_)
  · obtain ⟨h, l, L, st, n, rfl, _⟩ := h
    rfl
  · obtain ⟨h, l, L, st, n, rfl, hv, hn, q⟩ := h
    refine blk_cons (ps_asg (pe_tup (pa_cons pe_str (pa_cons (pe_call GP hr (by rfl) gP FP.kp bP .nil pass0 (pa_cons (pv 0) (pa_cons (pe_lst (pa_cons pe_str (pa_cons pe_str (pa_cons pe_str (pa_cons pe_str (pa_cons pe_str pa_nil)))))) pa_nil))) (pa_cons (pe_call GD hr (by rfl) gD FD.kp bD .nil pass0 (pa_cons (pv 0) (pa_cons pe_int pa_nil))) pa_nil))))
      (pg_tup rfl (pgs_cons (pg_name (i := 2) sc__law_names.nd rfl (.inr rfl)) (pgs_cons (pg_name (i := 3) sc__law_names.nd rfl (.inr rfl)) (pgs_cons (pg_name (i := 4) sc__law_names.nd rfl (.inr rfl)) pgs_nil))))) ?_
    refine blk_cons (ps_setLc (i := 6) (own := [("at", 5)]) (g := gName 5) (tt := tYes) rfl sc__law_names.nd rfl rfl (sw_true rfl rfl rfl (by decide +kernel)) (pi_range1 (by rfl) mr (pa_cons (pv 1) pa_nil)) (blkOk_by (own := [("at", 5)]) (N := n__law_names) (sc := defScope s__law_names) (by decide +kernel))
      (fun _ _ _ _ _ => pg_name (i := 5) sc__law_names.nd rfl (Or.inl rfl)) (fun _ _ _ _ _ => pts_nil)
      (fun _ _ _ _ _ => pe_op op_add_str (pv 3) (pe_ix ix_str (pv 2) (pe_op op_mod (pe_callTy call_int1 (by rfl) mi (by decide +kernel) (pa_cons (pe_op op_add (pv 4) (pe_op op_mul pe_int (pv 5))) pa_nil)) pe_int) (fun _ _ => rfl)))) ?_
    refine blk_cons (ps_set (i := 5) sc__law_names.nd rfl (.inl rfl) (pe_call GD hr (by rfl) gD FD.kp bD .nil pass0 (pa_cons (pv 0) (pa_cons (pe_callB (call_max2 rfl) (by rfl) mm (by decide +kernel) (pa_cons pe_int (pa_cons (pv 1) pa_nil))) pa_nil)))) ?_
    refine blk_cons (ps_if (PW.pt (pw_and (pt_cmpR op_gt (pv 1) pe_int (nomark _)) (pw_and (pt_cmpR op_lt (pe_callB call_len_str (by rfl) ml PySem.boot_len (pa_cons (pe_ix ix_list (pv 6) (pv 5) (fun _ _ => rfl)) pa_nil)) pe_int (nomark _))
      (pw_and1 (pt_cmpR op_eq (pe_call GD hr (by rfl) gD FD.kp bD .nil pass0 (pa_cons (pv 0) (pa_cons pe_int pa_nil))) pe_int (nomark _)))))) (pss_one (ps_asg (pe_op op_add_str (pe_ix ix_list (pv 6) (pv 5) (fun _ _ => rfl)) pe_str) (pg_sub (pv 6) (pv 5) set_list))) pss_nil) ?_
    refine blk_cons (ps_ret (pe_callTy call_tuple_of (by rfl) mt (by decide +kernel) (pa_cons (pe_callB cr_sortedS (by rfl) ms (by decide +kernel) (pa_cons (pv 6) pa_nil)) pa_nil))) ?_
    refine blk_nil ?_
    -- letters, front, first
    refine ⟨_, rfl, by show 5 ≤ sizeLine; decide, fun p np => ?_⟩
    refine ⟨h, l, L, st, p, [.str (Str.ofString ""), .str (Str.ofString ""), .str (Str.ofString "b"), .str (Str.ofString "zz"), .str (Str.ofString "mnopqrs")], rfl, hv.new np, sqL upd_same, (ne_of_none hv.top np).symm, (ne_of_none hv.bot np).symm, by show 0 < 5; decide, by show 5 < 1000; decide, fun G1 L1 st1 i x b1 hv1 hx => ?_⟩
    obtain ⟨z, rfl, hz⟩ : ∃ z, x = .str z ∧ Front z := by
      match i, hx with
      | 0, hx => cases hx; exact ⟨_, rfl, front_lit (by decide +kernel)⟩
      | 1, hx => cases hx; exact ⟨_, rfl, front_lit (by decide +kernel)⟩
      | 2, hx => cases hx; exact ⟨_, rfl, front_lit (by decide +kernel)⟩
      | 3, hx => cases hx; exact ⟨_, rfl, front_lit (by decide +kernel)⟩
      | 4, hx => cases hx; exact ⟨_, rfl, front_lit (by decide +kernel)⟩
      | _ + 5, hx => simp at hx
    refine ⟨_, rfl, h, l, L1, st1, 26, rfl, hv1, by decide, by decide, fun G2 L2 st2 r b2 hv2 r0 r1 => ?_⟩
    obtain ⟨first, rfl⟩ := Int.eq_ofNat_of_zero_le r0
    refine ⟨by show 3 ≤ sizeLine; decide, fun tq ntq => ⟨tq, _, rfl, sqT upd_same, rfl, _, _, rfl, _, _, rfl, _, _, rfl, rfl, ?_⟩⟩
    have b3 := (((But.refl h l H).new np).trans (b1.trans b2)).new (o := .tup [.str zAbc, .str z, .int (first : Int)]) ntq
    have hv3 := hv2.new (o := .tup [.str zAbc, .str z, .int (first : Int)]) ntq
    generalize upd G2 tq (.tup [.str zAbc, .str z, .int (first : Int)]) = G3 at b3 hv3 ⊢
    -- found
    refine ⟨_, rfl, _, rfl, by omega, by omega, fun D nD => ?_⟩
    have neh : h ≠ D := ne_of_none hv3.top nD
    have nel : l ≠ D := ne_of_none hv3.bot nD
    refine lc_range (lo := 0) (n := ((n : Int)).toNat) (fun i G => Same G3 G ∧ G D = some (.lst ((namesN z first i).map V.str))) ⟨same_new nD, upd_same⟩ (fun i G hi hP => ?_) (fun G hP => ?_)
    · obtain ⟨s1, gD⟩ := hP
      refine ⟨rfl, ?_⟩
      dsimp only [tYes]
      rw [if_pos rfl]
      have e1 : (first : Int) + 7 * (0 + (i : Int)) = ((first + 7 * i : Nat) : Int) := by omega
      have hz7 := hz.1
      have hat : atI zAbc.cps.toList (((first : Int) + 7 * (0 + (i : Int))) % 26) = some (letN first i) := by
        have e : ((first : Int) + 7 * (0 + (i : Int))) % 26 = (((first + 7 * i) % 26 : Nat) : Int) := by omega
        rw [e]
        exact atI_nat (abc_at (Nat.mod_lt _ (by decide)))
      refine ⟨_, rfl, _, rfl, _, rfl, _, rfl, _, _, rfl, rfl, .inl ⟨by decide, by decide⟩, _, _, rfl, rfl, .inl ⟨_, rfl, _, _, rfl, rfl, by show (0 : Int) < 26; decide, zAbc, ((first : Int) + 7 * (0 + (i : Int))) % 26, letN first i, rfl, rfl, by decide +kernel, hat, ?_⟩⟩
      refine ⟨z, _, rfl, rfl, ?_, ?_⟩
      · show z.length + 1 ≤ _
        exact Nat.le_trans (Nat.succ_le_succ hz7) (by decide)
      refine ⟨_, gD, ?_, fun b ob e => ?_, ?_⟩
      · rw [List.length_map, namesN_len]
        exact small1000 (by omega)
      · rw [upd_ne (ne_of_none e nD)]
        exact s1 _ _ e
      · rw [upd_same, namesN_succ, List.map_append]
        rfl
    obtain ⟨s4, gD⟩ := hP
    have en : ((n : Int)).toNat = n := by omega
    rw [en] at gD
    have b4 : But h l H G := b3.same s4
    have hv4 := hv3.same s4
    -- at
    refine ⟨_, rfl, _, rfl, _, _, rfl, h, l, L2, st2, _, rfl, hv4, ?_, ?_, fun G5 L5 st5 r5 b5 hv5 r50 r51 => ?_⟩
    · split <;> omega
    · split <;> omega
    obtain ⟨a, rfl⟩ := Int.eq_ofNat_of_zero_le r50
    have gD5 := b5 _ _ neh.symm nel.symm gD
    have b5' := b4.trans b5
    -- if many > 0 and ..
    dsimp only [gName]
    refine seq_out (t := tIfS _ _ _) (fun σ' G' => ∃ (ss : List Str) (L' : List Int) (st' : Int) (y5 : Option V), σ' = [some (.ref h), some (.int (n : Int)), some (.str zAbc), some (.str z), some (.int (first : Int)), y5, some (.ref D)] ∧ G' D = some (.lst (ss.map V.str)) ∧ GoodN n ss ∧ But h l H G' ∧ Hv G' h l L' st') (fun N hN => ?_) (fun σ' G6 hR => ?_)
    · have plain : ∀ (G6 : Hp) (L6 : List Int) (st6 : Int), G6 D = some (.lst ((namesN z first n).map V.str)) → But h l H G6 → Hv G6 h l L6 st6 → N [some (.ref h), some (.int (n : Int)), some (.str zAbc), some (.str z), some (.int (first : Int)), some (.int (a : Int)), some (.ref D)] G6 := fun G6 L6 st6 g1 g2 g3 =>
        hN _ _ ⟨_, L6, st6, _, rfl, g1, names_good hz first hn, g2, g3⟩
      refine ⟨_, rfl, _, _, rfl, rfl, _, rfl, ite2 (fun h0 => ?_) (fun _ => plain G5 L5 st5 gD5 b5' hv5)⟩
      have n0 : 0 < n := by
        have := of_decide_eq_true h0
        omega
      have han : a < n := by
        revert r51
        split <;> intro r51 <;> omega
      have ga := namesN_at (front := z) (first := first) han
      refine ⟨_, rfl, _, rfl, D, _, _, _, rfl, rfl, sqL gD5, atI_nat (by rw [List.getElem?_map, ga]; rfl), nameN z first a, rfl, Nat.le_trans (name_nm hz first a).1.2 (by decide), _, _, rfl, rfl, _, rfl, ite2 (fun h8 => ?_) (fun _ => plain G5 L5 st5 gD5 b5' hv5)⟩
      have l8 : (nameN z first a).length < 8 := by
        have := of_decide_eq_true h8
        omega
      refine ⟨_, rfl, h, l, L5, st5, 2, rfl, hv5, by decide, by decide, fun G6 L6 st6 r6 b6 hv6 r60 r61 => ?_⟩
      have gD6 := b6 _ _ neh.symm nel.symm gD5
      refine ⟨rfl, _, rfl, ite2 (fun _ => ?_) (fun _ => plain G6 L6 st6 gD6 (b5'.trans b6) hv6)⟩
      refine ⟨_, rfl, _, rfl, D, _, _, _, rfl, rfl, sqL gD6, atI_nat (by rw [List.getElem?_map, ga]; rfl), _, _, rfl, rfl, ?_, ?_⟩
      · have := (name_nm hz first a).1.2
        exact Nat.le_trans (Nat.add_le_add this (show (Str.ofString "o").length ≤ 1 by decide +kernel)) (by decide)
      refine ⟨_, rfl, _, rfl, D, _, _, a, rfl, rfl, gD6, ixN_nat (by rw [List.length_map, namesN_len]; exact han), ?_⟩
      refine hN _ _ ⟨(namesN z first n).set a (nameN z first a ++ Str.ofString "o"), L6, st6, _, rfl, ?_, names_o hz first hn l8 (by decide +kernel), fun b ob e1 e2 e => ?_, ⟨(upd_ne neh).trans hv6.top, (upd_ne nel).trans hv6.bot, hv6.ne, hv6.lo, hv6.hi, hv6.len⟩⟩
      · rw [upd_same, List.map_set]
      · have e0 := b3 b ob e1 e2 e
        rw [upd_ne (ne_of_none e0 nD)]
        exact b6 _ _ e1 e2 (b5 _ _ e1 e2 (s4 _ _ e0))
    obtain ⟨ss, L6, st6, y5, rfl, gD6, gs, b6, hv6⟩ := hR
    refine ⟨_, rfl, D, ss, rfl, sqL gD6, by have := gs.1; omega, fun ys p7 hp hs np7 => ?_⟩
    have gy := good_perm gs hp
    refine ⟨p7, _, rfl, .inl ⟨sqL upd_same, fun q8 nq8 => ?_⟩⟩
    exact q _ L6 st6 q8 ys ((b6.new np7).new nq8) ((hv6.new np7).new nq8) (sqT upd_same) gy (sorted_asc hs gy.2.2)
end
end K3
namespace Gd
open PySem PySem.Spec PyProof.Rows L2
def LotOk (kk : Nat) (ls : List Int) : Prop := AscI ls ∧ ∀ n ∈ ls, 0 ≤ n ∧ n < (kk : Int)
theorem lot_idx (g : Nat → Bool) (n : Nat) : LotOk n (idxF g n) := ⟨idxF_asc g n, fun x hx => by
  obtain ⟨i, rfl, hi, _⟩ := idxF_mem.mp hx
  omega⟩
theorem rgV_idx (n : Nat) : rgV 0 (n : Int) = (idxF (fun _ => true) n).map V.int := by
  unfold rgV idxF
  rw [List.filter_eq_self.mpr fun _ _ => rfl, List.map_map, show ((n : Int) - 0).toNat = n by omega]
  refine List.map_congr_left fun i _ => ?_
  show V.int (0 + (i : Int)) = V.int (i : Int)
  rw [Int.zero_add]
theorem types_fineL {cs : List (Str × List Int)} {kk : Nat} (hk : kk ≤ 8) (h : ∀ c ∈ cs, Nm c.1 ∧ LotOk kk c.2) : SeqAt.shaped (.list (cs.map typeD)) = true := by
  refine fine_shaped ?_ ?_
  · rw [fine]
    exact fineAll_mem fun d hd => by
      obtain ⟨p, hp, rfl⟩ := List.mem_map.mp hd
      exact type_fine (h p hp).1 (h p hp).2.2 hk
  · rw [PyData.depth]
    have : PyData.depthAll (cs.map typeD) ≤ 3 := depthAll_mem fun d hd => by
      obtain ⟨p, _, rfl⟩ := List.mem_map.mp hd
      have e : PyData.depthAll (p.2.map .int) ≤ 1 := depthAll_mem fun d hd => by
        obtain ⟨x, _, rfl⟩ := List.mem_map.mp hd
        simp [PyData.depth]
      simp only [typeD, PyData.depth, PyData.depthAll]
      omega
    omega
theorem noListAll_types (cs : List (Str × List Int)) : noListAll (cs.map typeD) = true := noListAll_mem fun d hd => by
  obtain ⟨p, _, rfl⟩ := List.mem_map.mp hd
  exact noList_type p
end Gd
namespace K3
open PySem PySem.Spec PyProof.Rows L2 Gd
section
variable {P : Program} {w : World} {K : PySem.W.Frag} {mg : Str → Option Value} {base : Heap}
/-! ### _law_lot -/
def spLLot (K : PySem.W.Frag) : Sp := fun vs H Q _ => ∃ (h l : Addr) (L : List Int) (st : Int) (n : Nat) (sh : Int), vs = [.ref h, .int (n : Int), .int sh] ∧ Hv H h l L st ∧ n ≤ 12 ∧ 0 < sh ∧ sh < 1000 ∧
  ∀ (G : Hp) (L' : List Int) (st' : Int) (q : Addr) (g : Nat → Bool), But h l H G → Hv G h l L' st' → SqT K G q ((idxF g n).map V.int) → Q (.ref q) G
theorem ok_llot {f fD : Addr} {fd fdD : FuncData} {k : Nat} (F : Fun K "_law_lot" "_law_lot" s__law_lot f fd) (FD : Fun K "_law_draw" "_law_draw" s__law_draw fD fdD) (bD : Binds K fdD ["heap", "many"] []) (gD : mg "_law_draw" = some (.ref fD))
    (mi : mg "int" = none) (mr : mg "range" = none) (mt : mg "tuple" = none) : FnOk P w K mg base CX0 (k + 1 + 1) f fd ["heap", "many", "share"] (spLLot K) := by
  have GD : FnOk P w K mg base CX0 (k + 1) fD fdD ["heap", "many"] spDraw := ok_draw FD mi
  refine F.ok sc__law_lot (fun vs H Q E h => ?_) (fun cdv A outer s H vs Q E hr h => ?_)
  · obtain ⟨h, l, L, st, n, sh, rfl, _⟩ := h
    rfl
  · obtain ⟨h, l, L, st, n, sh, rfl, hv, hn, h0, h1, q⟩ := h
    refine blk_cons (ps_ret (pe_callTy call_tuple_of (by rfl) mt (by decide +kernel) (pa_cons (pe_lc (own := [("at", 3)]) (g := gName 3) rfl sc__law_lot.nd (pi_range1 (by rfl) mr (pa_cons (pv 1) pa_nil)) (blkOk_by (own := [("at", 3)]) (N := n__law_lot) (sc := defScope s__law_lot) (by decide +kernel))
      (fun _ _ _ _ _ => pg_name (i := 3) sc__law_lot.nd rfl (Or.inl rfl)) (fun _ _ _ _ _ => pts_one (pt_cmpR op_eq (pe_call GD hr (by rfl) gD FD.kp bD .nil pass0 (pa_cons (pv 0) (pa_cons (pv 2) pa_nil))) pe_int (nomark _))) (fun _ _ _ _ _ => pv 3)) pa_nil))) ?_
    refine blk_nil ?_
    refine ⟨_, rfl, _, rfl, by omega, by omega, fun D nD => ?_⟩
    have neh : h ≠ D := ne_of_none hv.top nD
    have nel : l ≠ D := ne_of_none hv.bot nD
    refine lc_range (lo := 0) (n := ((n : Int)).toNat) (fun i G => But h l H G ∧ (∃ L4 st4, Hv G h l L4 st4) ∧ ∃ g : Nat → Bool, G D = some (.lst ((idxF g i).map V.int))) ⟨(But.refl _ _ _).new nD, ⟨_, _, hv.new nD⟩, fun _ => false, upd_same⟩ (fun i G hi hP => ?_) (fun G hP => ?_)
    · obtain ⟨b1, ⟨L1, st1, hv1⟩, g, gD1⟩ := hP
      refine ⟨rfl, _, rfl, _, rfl, h, l, L1, st1, sh, rfl, hv1, h0, by omega, fun G2 L2 st2 r b2 hv2 r0 r1 => ?_⟩
      have gD2 := b2 _ _ neh.symm nel.symm gD1
      have ez : (0 + (i : Int)) = (i : Int) := by omega
      have same : ∀ b : Bool, idxF (fun a => if a = i then b else g a) i = idxF g i := fun b => idxF_congr fun a ha => if_neg (by omega)
      refine ⟨rfl, _, rfl, ite2 (fun _ => ?_) (fun _ => ⟨fun b o e1 e2 e => b2 _ _ e1 e2 (b1 _ _ e1 e2 e), ⟨L2, st2, hv2⟩, fun a => if a = i then false else g a, ?_⟩)⟩
      · refine ⟨_, rfl, _, gD2, ?_, fun b ob e1 e2 e => ?_, ⟨L2, st2, ⟨(upd_ne neh).trans hv2.top, (upd_ne nel).trans hv2.bot, hv2.ne, hv2.lo, hv2.hi, hv2.len⟩⟩, fun a => if a = i then true else g a, ?_⟩
        · have := idxF_len g i
          rw [List.length_map]
          exact small1000 (by omega)
        · rw [upd_ne (ne_of_none e nD)]
          exact b2 _ _ e1 e2 (b1 _ _ e1 e2 e)
        · rw [upd_same, idxF_succ, same, if_pos (if_pos rfl), List.map_append, ez]
          rfl
      · rw [idxF_succ, same, if_neg (by rw [if_pos rfl]; exact Bool.false_ne_true), List.append_nil]
        exact gD2
    · obtain ⟨b1, ⟨L1, st1, hv1⟩, g, gD1⟩ := hP
      rw [show ((n : Int)).toNat = n by omega] at gD1
      exact ⟨D, _, rfl, .inl ⟨sqL gD1, fun q1 n1 => q _ L1 st1 q1 g (b1.new n1) (hv1.new n1) (sqT upd_same)⟩⟩
/-! ### _law_parts -/
def spParts (K : PySem.W.Frag) : Sp := fun vs H Q _ => ∃ (h l : Addr) (L : List Int) (st : Int) (kk tt : Nat), vs = [.ref h, .int (kk : Int), .int (tt : Int)] ∧ Hv H h l L st ∧ 1 ≤ kk ∧ kk ≤ 8 ∧ tt ≤ 12 ∧
  ∀ (G : Hp) (L' : List Int) (st' : Int) (q pk pt : Addr) (t : TD), But h l H G → Hv G h l L' st' → SqT K G q [.ref pk, .ref pt] → Dp K G (.ref pk) (kindsD t) → Dp K G (.ref pt) (typesD t) → TOk t → t.kinds.length = kk → t.types.length = tt → Q (.ref q) G
theorem ok_parts {f fD fP fM fL : Addr} {fd fdD fdP fdM fdL : FuncData} {k : Nat} (F : Fun K "_law_parts" "_law_parts" s__law_parts f fd) (FD : Fun K "_law_draw" "_law_draw" s__law_draw fD fdD) (FP : Fun K "_law_pick" "_law_pick" s__law_pick fP fdP) (FM : Fun K "_law_names" "_law_names" s__law_names fM fdM) (FL : Fun K "_law_lot" "_law_lot" s__law_lot fL fdL)
    (bD : Binds K fdD ["heap", "many"] []) (bP : Binds K fdP ["heap", "some"] []) (bM : Binds K fdM ["heap", "many"] []) (bL : Binds K fdL ["heap", "many", "share"] []) (gD : mg "_law_draw" = some (.ref fD)) (gP : mg "_law_pick" = some (.ref fP)) (gM : mg "_law_names" = some (.ref fM)) (gL : mg "_law_lot" = some (.ref fL))
    (ml : mg "len" = none) (mi : mg "int" = none) (mr : mg "range" = none) (mt : mg "tuple" = none) (ms : mg "sorted" = none) (mm : mg "max" = none) : FnOk P w K mg base CX0 (k + 1 + 1 + 1 + 1) f fd ["heap", "kinds", "types"] (spParts K) := by
  have GD : FnOk P w K mg base CX0 (k + 1 + 1 + 1) fD fdD ["heap", "many"] spDraw := ok_draw FD mi
  have GP : FnOk P w K mg base CX0 (k + 1 + 1 + 1) fP fdP ["heap", "some"] (spPick K) := ok_pick FP FD bD gD ml mi
  have GM : FnOk P w K mg base CX0 (k + 1 + 1 + 1) fM fdM ["heap", "many"] (spNames K) := ok_names FM FD FP bD bP gD gP ml mi mr mt ms mm
  have GL : FnOk P w K mg base CX0 (k + 1 + 1 + 1) fL fdL ["heap", "many", "share"] (spLLot K) := ok_llot FL FD bD gD mi mr mt
  refine F.ok sc__law_parts (fun vs H Q E h => ?_) (fun cdv A outer s H vs Q E hr h => ?_)
  · obtain ⟨h, l, L, st, kk, tt, rfl, _⟩ := h
    rfl
  · obtain ⟨h, l, L, st, kk, tt, rfl, hv, k1, k8, t12, q⟩ := h
    refine blk_cons (ps_par (i := 3) (j := 4) rfl sc__law_parts.nd rfl rfl (by decide) rfl rfl (pa_cons (pe_call GM hr (by rfl) gM FM.kp bM .nil pass0 (pa_cons (pv 0) (pa_cons (pv 2) pa_nil))) (pa_cons (pe_lst pa_nil) pa_nil)) (by rfl)) ?_
    refine blk_cons (ps_for PassesOwn.never rfl (pi_tup (pv 3)) (pg_name (i := 5) sc__law_parts.nd rfl (.inl rfl))
      (pss_cons (ps_set (i := 6) sc__law_parts.nd rfl (.inl rfl) (pe_call GD hr (by rfl) gD FD.kp bD .nil pass0 (pa_cons (pv 0) (pa_cons pe_int pa_nil))))
      (pss_cons (ps_set (i := 7) sc__law_parts.nd rfl (.inl rfl) (pe_call GL hr (by rfl) gL FL.kp bL .nil pass0 (pa_cons (pv 0) (pa_cons (pv 1) (pa_cons (pe_call GP hr (by rfl) gP FP.kp bP .nil pass0 (pa_cons (pv 0) (pa_cons (pe_lst (pa_cons pe_int (pa_cons pe_int (pa_cons pe_int pa_nil)))) pa_nil))) pa_nil)))))
      (pss_cons (ps_if (PW.pt (pw_and (pt_cmpR op_eq (pv 6) pe_int (nomark _)) (pw_and1 (pt_cmpR (op_neD hr.units) (pv 4) (pe_lst pa_nil) (nomark _))))) (pss_one (ps_set (i := 7) sc__law_parts.nd rfl (.inl rfl) (pe_ix ix_tup (pe_ix ix_list (pv 4) (pe_un un_neg pe_int) (fun _ _ => rfl)) pe_int (fun _ _ => rfl)))) pss_nil)
      (pss_one (ps_expr (pe_bm PySem.F.plainAttrs_list PySem.F.slot_list_append PySem.F.type_list_append mt_append (pv 4) (pa_cons (pe_tup (pa_cons (pv 5) (pa_cons (pe_ifExp (PW.pt (pw_and (pt_cmpR op_eq (pv 6) pe_int (nomark _)) (pw_and1 (pt_cmpR op_eq (pe_call GD hr (by rfl) gD FD.kp bD .nil pass0 (pa_cons (pv 0) (pa_cons pe_int pa_nil))) pe_int (nomark _)))))
        (pe_tupRg rfl (by rfl) mt (prg_1 (by rfl) mr (pv 1))) (pv 7)) pa_nil))) pa_nil)))))))) ?_
    refine blk_cons (ps_ret (pe_tup (pa_cons (pe_call GM hr (by rfl) gM FM.kp bM .nil pass0 (pa_cons (pv 0) (pa_cons (pv 1) pa_nil))) (pa_cons (pe_callTy call_tuple_of (by rfl) mt (by decide +kernel) (pa_cons (pv 4) pa_nil)) pa_nil)))) ?_
    refine blk_nil ?_
    refine ⟨_, rfl, _, rfl, h, l, L, st, tt, rfl, hv, t12, fun G1 L1 st1 nq ss b1 hv1 hnq gs as => ⟨Nat.zero_le _, fun F nF => ⟨_, _, rfl, ?_⟩⟩⟩
    have nFh : h ≠ F := ne_of_none hv1.top nF
    have nFl : l ≠ F := ne_of_none hv1.bot nF
    have hv2 := hv1.new (o := .lst []) nF
    have b2 := b1.new (o := .lst []) nF
    have hnq2 := same_seqT (same_new (o := .lst []) nF) hnq
    have gF := upd_same (H := G1) (a := F) (o := .lst [])
    have hHF : H F = none ∨ True := .inr trivial
    generalize upd G1 F (.lst []) = G2 at hv2 b2 hnq2 gF ⊢
    have keepH : ∀ {G : Hp} {ob : HO}, But h l H G1 → But h l H G → But h l H (upd G F ob) := fun {G ob} ba bb b o e1 e2 e => (upd_ne (ne_of_none (ba _ _ e1 e2 e) nF)).trans (bb _ _ e1 e2 e)
    dsimp only [gName]
    refine seq_out (t := tFor _ _ _) (fun σ' G' => ∃ (cs : List (Str × List Int)) (vs : List V) (y5 y6 y7 : Option V) (L' : List Int) (st' : Int), σ' = [some (.ref h), some (.int (kk : Int)), some (.int (tt : Int)), some (.ref nq), some (.ref F), y5, y6, y7] ∧ But h l H G' ∧ Hv G' h l L' st' ∧ G' F = some (.lst vs) ∧ DpAll K G' vs (cs.map typeD) ∧
      cs.map (·.1) = ss ∧ ∀ c ∈ cs, LotOk kk c.2) (fun N hN => ?_) (fun σ' G3 hR => ?_)
    · refine ⟨_, rfl, nq, rfl, ⟨_, hnq2⟩, for_tup (xs := ss.map V.str) (fun i σ G => ∃ (cs : List (Str × List Int)) (vs : List V) (y5 y6 y7 : Option V) (L' : List Int) (st' : Int), σ = [some (.ref h), some (.int (kk : Int)), some (.int (tt : Int)), some (.ref nq), some (.ref F), y5, y6, y7] ∧ But h l H G ∧ Hv G h l L' st' ∧ G F = some (.lst vs) ∧ DpAll K G vs (cs.map typeD) ∧
          cs.map (·.1) = ss.take i ∧ (∀ c ∈ cs, LotOk kk c.2) ∧ SqT K G nq (ss.map V.str)) ⟨[], [], none, none, none, L1, st1, rfl, b2, hv2, gF, .nil, rfl, fun c hc => absurd hc List.not_mem_nil, hnq2⟩ (fun i σ G _ hP => ?_) (fun i x σ G hx hP => ?_) (fun σ G hP => ?_)⟩
      · obtain ⟨_, _, _, _, _, _, _, _, _, _, _, _, _, _, z⟩ := hP
        exact z
      · obtain ⟨cs, vs, y5, y6, y7, L3, st3, rfl, b3, hv3, gF3, hd3, hc3, hl3, hq3⟩ := hP
        rw [List.getElem?_map] at hx
        obtain ⟨z, hz, rfl⟩ := Option.map_eq_some_iff.mp hx
        have hi : i < ss.length := (List.getElem?_eq_some_iff.mp hz).1
        have hcl : cs.length = i := by
          have := congrArg List.length hc3
          rw [List.length_map, List.length_take] at this
          omega
        have gsl := gs.1
        have hnm : ∀ c ∈ cs, Nm c.1 ∧ LotOk kk c.2 := fun c hc => by
          have m : c.1 ∈ cs.map (·.1) := List.mem_map.mpr ⟨c, hc, rfl⟩
          rw [hc3] at m
          exact ⟨gs.2.1 _ ((List.take_sublist i ss).mem m), hl3 c hc⟩
        dsimp only [gName]
        -- kind
        refine ⟨_, rfl, h, l, L3, st3, 6, rfl, hv3, by decide, by decide, fun G4 L4 st4 kn b4 hv4 kn0 kn1 => ?_⟩
        have k4 := KeepT.but hv3 b4
        have gF4 := b4 _ _ nFh.symm nFl.symm gF3
        -- lot
        refine ⟨_, rfl, _, rfl, _, rfl, by show 3 ≤ sizeLine; decide, fun p5 n5 => ?_⟩
        refine ⟨h, l, L4, st4, p5, [.int 2, .int 2, .int 3], rfl, hv4.new n5, sqL upd_same, (ne_of_none hv4.top n5).symm, (ne_of_none hv4.bot n5).symm, by show 0 < 3; decide, by show 3 < 1000; decide, fun G6 L6 st6 j6 x6 b6 hv6 hx6 => ?_⟩
        obtain ⟨sh, rfl, sh0, sh1⟩ : ∃ sh : Int, x6 = .int sh ∧ 0 < sh ∧ sh < 1000 := by
          match j6, hx6 with
          | 0, hx6 => cases hx6; exact ⟨_, rfl, by decide, by decide⟩
          | 1, hx6 => cases hx6; exact ⟨_, rfl, by decide, by decide⟩
          | 2, hx6 => cases hx6; exact ⟨_, rfl, by decide, by decide⟩
          | _ + 3, hx6 => simp at hx6
        have s5 : Same G4 (upd G4 p5 (.lst [.int 2, .int 2, .int 3])) := same_new n5
        refine ⟨h, l, L6, st6, kk, sh, rfl, hv6, by omega, sh0, sh1, fun G7 L7 st7 lq gl b7 hv7 hlq => ?_⟩
        have kt7 : KeepT G G7 := (k4.trans (.of s5)).trans ((KeepT.but (hv4.same s5) b6).trans (KeepT.but hv6 b7))
        have b07 : But h l H G7 := b3.trans ((b4.trans ((But.refl h l G4).same s5)).trans (b6.trans b7))
        have gF7 := b7 _ _ nFh.symm nFl.symm (b6 _ _ nFh.symm nFl.symm (s5 _ _ gF4))
        have hd7 := dpAll_keep kt7 _ _ (noListAll_types cs) hd3
        have hq7 := kt7.seqT hq3
        -- if kind == 0 and found != []
        dsimp only [gName]
        refine seq_out (t := tIfS _ _ _) (fun σ' G' => ∃ (lq : Addr) (ls : List Int), σ' = [some (.ref h), some (.int (kk : Int)), some (.int (tt : Int)), some (.ref nq), some (.ref F), some (.str z), some (.int kn), some (.ref lq)] ∧ SqT K G' lq (ls.map V.int) ∧ LotOk kk ls ∧ Same G7 G') (fun N2 hN2 => ?_) (fun σ' G8 hR => ?_)
        · have plain : ∀ G8, Same G7 G8 → N2 [some (.ref h), some (.int (kk : Int)), some (.int (tt : Int)), some (.ref nq), some (.ref F), some (.str z), some (.int kn), some (.ref lq)] G8 := fun G8 s8 => hN2 _ _ ⟨lq, _, rfl, same_seqT s8 hlq, lot_idx gl kk, s8⟩
          refine ⟨_, rfl, rfl, _, rfl, ite2 (fun _ => ?_) (fun _ => plain G7 (Same.refl _))⟩
          refine ⟨_, rfl, Nat.zero_le _, fun p8 n8 => ?_⟩
          have s8 : Same G7 (upd G7 p8 (.lst [])) := same_new n8
          refine ⟨_, _, .lst (sqL (s8 _ _ gF7)) (dpAll_same s8 _ _ hd7), .lst (sqL upd_same) .nil, types_fineL k8 hnm, rfl, _, rfl, ?_⟩
          have gF8 := s8 _ _ gF7
          have hd8 := dpAll_same s8 _ _ hd7
          generalize upd G7 p8 (.lst []) = G8 at s8 gF8 hd8 ⊢
          rw [eqv_nilD]
          rcases List.eq_nil_or_concat cs with e | ⟨c0, c1, ec⟩
          · subst e
            exact iteF (plain G8 s8)
          · rw [List.concat_eq_append] at ec
            subst ec
            have hd8' := hd8
            rw [List.map_append] at hd8'
            obtain ⟨us0, v, rfl, _, dv⟩ := dpAll_last hd8'
            obtain ⟨a1, l1, rfl, hq1, hl1⟩ := type_inv dv
            have e0 : ((c0 ++ [c1]).map typeD).isEmpty = false := by
              rw [List.map_append]
              cases c0.map typeD <;> rfl
            rw [e0]
            refine iteT ⟨_, rfl, 1, rfl, F, _, -1, _, rfl, rfl, sqL gF8, atI_last _ _, a1, _, 1, _, rfl, rfl, hq1, atI_nat (j := 1) rfl, ?_⟩
            exact hN2 _ _ ⟨l1, _, rfl, hl1, hl3 c1 (by simp), s8⟩
        obtain ⟨lq2, ls, rfl, hls, lok, s8⟩ := hR
        have gF8 := s8 _ _ gF7
        have hv8 := hv7.same s8
        have b08 := b07.same s8
        have hd8 := dpAll_same s8 _ _ hd7
        have hq8 := same_seqT s8 hq7
        -- found.append((name, ..))
        refine ⟨_, rfl, .inl ⟨rfl, _, sqL gF8⟩, _, rfl, ?_⟩
        have fin : ∀ (G9 : Hp) (L9 : List Int) (st9 : Int) (lr : Addr) (lz : List Int), But h l H G9 → Hv G9 h l L9 st9 → G9 F = some (.lst vs) → DpAll K G9 vs (cs.map typeD) → SqT K G9 nq (ss.map V.str) → SqT K G9 lr (lz.map V.int) → LotOk kk lz →
            [V.str z, V.ref lr].length ≤ sizeLine ∧ ∀ tp, G9 tp = none → ∃ l0 vs0 v1, V.ref F = .ref l0 ∧ [V.ref tp] = [v1] ∧ (upd G9 tp (.tup [.str z, .ref lr])) l0 = some (.lst vs0) ∧ vs0.length < sizeLine ∧
              ∃ (cs : List (Str × List Int)) (vs : List V) (y5 y6 y7 : Option V) (L' : List Int) (st' : Int), [some (.ref h), some (.int (kk : Int)), some (.int (tt : Int)), some (.ref nq), some (.ref F), some (.str z), some (.int kn), some (.ref lq2)] = [some (.ref h), some (.int (kk : Int)), some (.int (tt : Int)), some (.ref nq), some (.ref F), y5, y6, y7] ∧
                But h l H (upd (upd G9 tp (.tup [.str z, .ref lr])) l0 (.lst (vs0 ++ [v1]))) ∧ Hv (upd (upd G9 tp (.tup [.str z, .ref lr])) l0 (.lst (vs0 ++ [v1]))) h l L' st' ∧ (upd (upd G9 tp (.tup [.str z, .ref lr])) l0 (.lst (vs0 ++ [v1]))) F = some (.lst vs) ∧
                DpAll K (upd (upd G9 tp (.tup [.str z, .ref lr])) l0 (.lst (vs0 ++ [v1]))) vs (cs.map typeD) ∧ cs.map (·.1) = ss.take (i + 1) ∧ (∀ c ∈ cs, LotOk kk c.2) ∧ SqT K (upd (upd G9 tp (.tup [.str z, .ref lr])) l0 (.lst (vs0 ++ [v1]))) nq (ss.map V.str) := by
          intro G9 L9 st9 lr lz b9 hv9 gF9 hd9 hq9 hlr lok9
          refine ⟨by show 2 ≤ sizeLine; decide, fun tp ntp => ⟨F, vs, .ref tp, rfl, rfl, (upd_ne (ne_of_none gF9 ntp)).trans gF9, ?_, cs ++ [(z, lz)], vs ++ [.ref tp], _, _, _, L9, st9, rfl, ?_, ?_, upd_same, ?_, ?_, ?_, ?_⟩⟩
          · rw [dpAll_len hd9, List.length_map]
            exact small1000 (by omega)
          · exact keepH b1 (b9.new ntp)
          · have hv10 := hv9.new (o := .tup [.str z, .ref lr]) ntp
            exact ⟨(upd_ne nFh).trans hv10.top, (upd_ne nFl).trans hv10.bot, hv10.ne, hv10.lo, hv10.hi, hv10.len⟩
          · have gF10 := (upd_ne (o := .tup [.str z, .ref lr]) (ne_of_none gF9 ntp)).trans gF9
            have k10 : KeepT G9 (upd (upd G9 tp (.tup [.str z, .ref lr])) F (.lst (vs ++ [.ref tp]))) := (KeepT.of (same_new ntp)).trans (.put gF10)
            rw [List.map_append]
            refine dpAll_snoc (dpAll_keep k10 _ _ (noListAll_types cs) hd9) ?_
            have ntF : tp ≠ F := (ne_of_none gF9 ntp).symm
            exact .tup (sqT ((upd_ne ntF).trans upd_same)) (.cons (.str _) (.cons (.tup (k10.seqT hlr) (dpAll_ints lz)) .nil))
          · rw [List.map_append, hc3, List.take_add_one, hz]
            rfl
          · intro c hc
            rcases List.mem_append.mp hc with m | m
            · exact hl3 c m
            · rw [List.mem_singleton.mp m]
              exact lok9
          · have gF10 := (upd_ne (o := .tup [.str z, .ref lr]) (ne_of_none gF9 ntp)).trans gF9
            exact ((KeepT.of (same_new ntp)).trans (.put gF10)).seqT hq9
        refine ⟨_, rfl, rfl, _, rfl, ite2 (fun _ => ?_) (fun _ => ⟨_, rfl, fin G8 L7 st7 lq2 ls b08 hv8 gF8 hd8 hq8 hls lok⟩)⟩
        refine ⟨_, rfl, h, l, L7, st7, 3, rfl, hv8, by decide, by decide, fun G9 L9 st9 r9 b9 hv9 r90 r91 => ?_⟩
        have kt9 := KeepT.but hv8 b9
        have gF9 := b9 _ _ nFh.symm nFl.symm gF8
        have hd9 := dpAll_keep kt9 _ _ (noListAll_types cs) hd8
        have b09 := b08.trans b9
        refine ⟨rfl, _, rfl, ite2 (fun _ => ?_) (fun _ => ⟨_, rfl, fin G9 L9 st9 lq2 ls b09 hv9 gF9 hd9 (kt9.seqT hq8) (kt9.seqT hls) lok⟩)⟩
        refine ⟨_, rfl, _, rfl, .of_le (by omega) (by omega) (by omega) (by omega), fun rq nrq => ?_⟩
        have s10 := same_new (o := .tup (rgV 0 (kk : Int))) nrq
        exact fin _ L9 st9 rq (idxF (fun _ => true) kk) (b09.same s10) (hv9.same s10) (s10 _ _ gF9) (dpAll_same s10 _ _ hd9) (same_seqT s10 (kt9.seqT hq8)) (by rw [← rgV_idx]; exact sqT upd_same) (lot_idx _ kk)
      · obtain ⟨cs, vs, y5, y6, y7, L3, st3, rfl, b3, hv3, gF3, hd3, hc3, hl3, hq3⟩ := hP
        rw [List.length_map, List.take_length] at hc3
        exact hN _ _ ⟨cs, vs, _, _, _, L3, st3, rfl, b3, hv3, gF3, hd3, hc3, hl3⟩
    obtain ⟨cs, vs, y5, y6, y7, L3, st3, rfl, b3, hv3, gF3, hd3, hc3, hl3⟩ := hR
    refine ⟨_, rfl, _, rfl, h, l, L3, st3, kk, rfl, hv3, by omega, fun G4 L4 st4 kq ks b4 hv4 hkq gk ak => ?_⟩
    have gF4 := b4 _ _ nFh.symm nFl.symm gF3
    have hd4 := dpAll_keep (KeepT.but hv3 b4) _ _ (noListAll_types cs) hd3
    refine ⟨_, rfl, F, vs, rfl, .inl ⟨sqL gF4, fun tq ntq => ⟨by show 2 ≤ sizeLine; decide, fun rq nrq => ?_⟩⟩⟩
    have s5 := (same_new (o := .tup vs) ntq).trans (same_new (o := .tup [.ref kq, .ref tq]) nrq)
    have csl : cs.length = tt := by
      have := congrArg List.length hc3
      rw [List.length_map, gs.1] at this
      exact this
    have nm : ∀ c ∈ cs, Nm c.1 := fun c hc => gs.2.1 _ (hc3 ▸ List.mem_map.mpr ⟨c, hc, rfl⟩)
    refine q _ L4 st4 rq kq tq ⟨ks, cs⟩ ((b3.trans b4).same s5) (hv4.same s5) (sqT upd_same) (dp_tup_strs (same_seqT s5 hkq)) ?_ ⟨?_, ?_, gk.2.1, ak, ?_, nm, ?_, fun p hp => (hl3 p hp).1, fun p hp n hn => ?_⟩ gk.1 csl
    · exact .tup (sqT ((upd_ne (ne_of_none upd_same nrq)).trans upd_same)) (dpAll_same s5 _ _ hd4)
    · show 1 ≤ ks.length
      rw [gk.1]
      exact k1
    · show ks.length ≤ 8
      rw [gk.1]
      exact k8
    · show cs.length ≤ 12
      omega
    · show AscS (cs.map (·.1))
      rw [hc3]
      exact as
    · show 0 ≤ n ∧ n < (ks.length : Int)
      rw [gk.1]
      exact (hl3 p hp).2 n hn
end
end K3
namespace K3
open PySem PySem.Spec PyProof.Rows L2 Gd
section
variable {P : Program} {w : World} {K : PySem.W.Frag} {mg : Str → Option Value} {base : Heap}
/-! ### changed_at -/
/-- an item of a stock or of bounds -/
abbrev itV : Option Int → V := fun o => match o with
  | none => .non
  | some i => .int i
def spChg (K : PySem.W.Frag) : Sp := fun vs H Q _ => ∃ (q : Addr) (xs : List (Option Int)) (a : Nat) (i by_ : Int), vs = [.ref q, .int (a : Int), .int by_] ∧ SqT K H q (xs.map itV) ∧ xs[a]? = some (some i) ∧ xs.length ≤ 1000 ∧ ∀ G r, Same H G → SqT K G r ((xs.set a (some (i + by_))).map itV) → Q (.ref r) G
theorem ok_chg {f : Addr} {fd : FuncData} {k : Nat} (F : Fun K "changed_at" "changed_at" s_changed_at f fd) : FnOk P w K mg base CX0 (k + 1) f fd ["numbers", "at", "by"] (spChg K) := by
  refine F.ok sc_changed_at (fun vs H Q E h => ?_) (fun cdv A outer s H vs Q E hr h => ?_)
  · obtain ⟨q, xs, a, i, b, rfl, _⟩ := h
    rfl
  · obtain ⟨q0, xs, a, i, b, rfl, hq, hi, hl, q⟩ := h
    have ha : a < xs.length := (List.getElem?_eq_some_iff.mp hi).1
    refine blk_cons (ps_ret (pe_op (r := rCatA K) op_catA (pe_op (r := rCatA K) op_catA (pe_slice (r := rSlA K) sl_tupA (pv 0) po_none (po_some (pv 1))) (pe_tup (pa_cons (pe_op op_add (pe_ix (r := rIxT K) ix_tup (pv 0) (pv 1) (fun _ _ => rfl)) (pv 2)) pa_nil))) (pe_slice (r := rSlA K) sl_tupA (pv 0) (po_some (pe_op op_add (pv 1) pe_int)) po_none))) ?_
    refine blk_nil ?_
    refine ⟨_, rfl, ?_⟩
    dsimp only [tNoPart]
    refine ⟨_, rfl, _, rfl, slA_to hq fun G1 q1 s1 h1 => ?_⟩
    rw [cut_to (by rw [List.length_map]; omega)] at h1
    refine ⟨_, rfl, _, rfl, q0, _, _, itV (some i), rfl, rfl, same_seqT s1 hq, atI_nat (by rw [List.getElem?_map, hi]; rfl), _, rfl, _, _, rfl, rfl, by show 1 ≤ sizeLine; decide, fun p2 n2 => ?_⟩
    have s2 := same_new (o := .tup [V.int (i + b)]) n2
    refine cat_to (same_seqT s2 h1) (sqT upd_same) (by rw [List.length_take, List.length_map]; show _ + 1 ≤ 5000; omega) fun G3 q3 s3 h3 => ?_
    have s13 := (s1.trans s2).trans s3
    refine ⟨_, rfl, _, rfl, _, _, rfl, rfl, _, rfl, ?_⟩
    dsimp only [tNoPart]
    rw [show (a : Int) + 1 = ((a + 1 : Nat) : Int) by omega]
    refine slA_to (same_seqT s13 hq) fun G4 q4 s4 h4 => ?_
    rw [cut_from (by rw [List.length_map]; omega)] at h4
    refine cat_to (same_seqT s4 h3) h4 (by rw [List.length_append, List.length_take, List.length_drop, List.length_map]; show _ + 1 + _ ≤ 5000; omega) fun G5 q5 s5 h5 => q G5 q5 ((s13.trans s4).trans s5) ?_
    have e : (xs.map itV).take a ++ [V.int (i + b)] ++ (xs.map itV).drop (a + 1) = (xs.set a (some (i + b))).map itV := by
      rw [List.set_eq_take_append_cons_drop, if_pos ha, List.map_append, List.map_cons, List.map_take, List.map_drop, List.append_assoc]
      rfl
    rw [e] at h5
    exact h5
/-! ### first_false -/
/-- the place of the first false one -/
def firstF : List Bool → Option Nat
  | [] => none
  | true :: r => (firstF r).map (· + 1)
  | false :: _ => some 0
theorem firstF_in : ∀ bs : List Bool, inV (.bl false) (bs.map V.bl) = (firstF bs).isSome
  | [] => rfl
  | true :: r => by
    show (eqV (.bl true) (.bl false) || inV (.bl false) (r.map V.bl)) = _
    rw [firstF_in r, show eqV (.bl true) (.bl false) = false from rfl, Bool.false_or, firstF, Option.isSome_map]
  | false :: r => by
    show (eqV (.bl false) (.bl false) || inV (.bl false) (r.map V.bl)) = _
    rw [show eqV (.bl false) (.bl false) = true from rfl, Bool.true_or, firstF]
    rfl
theorem firstF_at : ∀ {bs : List Bool} {j : Nat}, firstF bs = some j → bs[j]? = some false ∧ ∀ m b, m < j → bs[m]? = some b → b = true
  | [], _, h => by cases h
  | false :: r, j, h => by
    rw [firstF] at h
    cases h
    exact ⟨rfl, fun m b hm => absurd hm (Nat.not_lt_zero _)⟩
  | true :: r, j, h => by
    rw [firstF] at h
    obtain ⟨i, hi, rfl⟩ := Option.map_eq_some_iff.mp h
    obtain ⟨h1, h2⟩ := firstF_at hi
    refine ⟨by simpa using h1, fun m b hm hb => ?_⟩
    cases m with
    | zero => simpa using hb.symm
    | succ m => exact h2 m b (by omega) (by simpa using hb)
abbrev ffV (bs : List Bool) : V := match firstF bs with
  | none => .non
  | some n => .int (n : Int)
def spFF (K : PySem.W.Frag) : Sp := fun vs H Q _ => ∃ (q : Addr) (bs : List Bool), vs = [.ref q] ∧ SqL K H q (bs.map V.bl) ∧ bs.length ≤ 1000 ∧ Q (ffV bs) H
theorem ok_ff {f : Addr} {fd : FuncData} {k : Nat} (F : Fun K "first_false" "first_false" s_first_false f fd) : FnOk P w K mg base CX0 (k + 1) f fd ["flags"] (spFF K) := by
  refine F.ok sc_first_false (fun vs H Q E h => ?_) (fun cdv A outer s H vs Q E hr h => ?_)
  · obtain ⟨q, bs, rfl, _⟩ := h
    rfl
  · obtain ⟨q0, bs, rfl, hq, hl, q⟩ := h
    refine blk_cons (ps_ret (pe_ifExp (pt_cmpR (r := rIn K false) op_in_seq pe_bl (pv 0) (by rfl)) (pe_bm PySem.F.plainAttrs_list PySem.F.slot_list_index PySem.F.type_list_index mt_index (pv 0) (pa_cons pe_bl pa_nil)) pe_non)) ?_
    refine blk_nil ?_
    refine ⟨_, rfl, q0, _, rfl, .inl hq, rfl, ?_, _, rfl, ?_⟩
    · exact List.all_eq_true.mpr fun x hx => by
        obtain ⟨b, _, rfl⟩ := List.mem_map.mp hx
        rfl
    rw [if_neg Bool.false_ne_true, firstF_in]
    unfold ffV at q
    cases e : firstF bs with
    | none =>
      rw [e] at q
      exact iteF q
    | some j =>
      rw [e] at q
      obtain ⟨h1, h2⟩ := firstF_at e
      refine iteT ⟨_, rfl, .inl ⟨rfl, _, hq⟩, q0, _, .bl false, j, .bl false, rfl, rfl, hq, rfl, ?_, by rw [List.getElem?_map, h1]; rfl, rfl, fun m z hm hz => ?_, q⟩
      · exact List.all_eq_true.mpr fun x hx => by
          obtain ⟨b, _, rfl⟩ := List.mem_map.mp hx
          rfl
      · rw [List.getElem?_map] at hz
        obtain ⟨b, hb, rfl⟩ := Option.map_eq_some_iff.mp hz
        rw [h2 m b hm hb]
        rfl
end
end K3
namespace K3
open PySem PySem.Spec PyProof.Rows L2 Gd
theorem ints_it (xs : List Int) : (xs.map some).map itV = xs.map V.int := by
  rw [List.map_map]
  rfl
/-- what is asked where an error with a word is raised -/
theorem boom_to {K : PySem.W.Frag} {C : Addr} {σ : L2.St} {H : Hp} {z : Str} {E : XK} (q : ∀ d G, H d = none → Same H G → G d = some (xdS z) → E (.ref C) (some d) G) : tMkO C (spIRef K C) [] (tCons (tC (.str z)) tNil) σ H fun cls d H' => (fun cls d _ H => E cls d H) cls d σ H' := by
  refine ⟨by show 1 ≤ 1000; decide, fun a na => ⟨a, _, rfl, upd_same, fun dx2 n1 n2 => ⟨rfl, dx2, [("word", .str z)], upd_same, (upd_ne n2).trans upd_same, ?_, ?_⟩⟩⟩
  · exact (upd_ne n2).symm.trans n1
  · have n3 : H dx2 = none := (upd_ne n2).symm.trans n1
    refine q dx2 _ n3 (fun b o e => ?_) upd_same
    have ba : b ≠ a := ne_of_none e na
    have bd : b ≠ dx2 := ne_of_none e n3
    rw [upd_ne bd, del_ne ba, upd_ne ba, upd_ne bd, upd_ne ba]
    exact e
section
variable {P : Program} {w : World} {K : PySem.W.Frag} {mg : Str → Option Value} {base : Heap}
theorem ok_iref {f C : Addr} {fd : FuncData} {k : Nat} (F : Fun K "__init__" "Refused.__init__" s_Refused_init f fd) (T : WTxt K mg "Refused" C f) : FnOk P w K mg base CX0 (k + 1) f fd ["self", "word"] (spIRef K C) := by
  refine F.ok sc_Refused_init (fun vs H Q E h => ?_) (fun cdv A outer s H vs Q E hr h => ?_)
  · obtain ⟨a, z, rfl, _⟩ := h
    rfl
  · obtain ⟨a, z, rfl, ha, q⟩ := h
    refine blk_cons (ps_ost (pv 0) (pv 1)) ?_
    refine blk_nil ?_
    exact ⟨_, rfl, _, rfl, a, C, rfl, T.ox, T.nW, .inl ⟨ha, fun dx h1 h2 => q dx h1 h2⟩⟩
/-! ### unit_taken -/
def spTaken (K : PySem.W.Frag) (CR : Addr) : Sp := fun vs H Q E => ∃ (q : Addr) (xs : List Int) (a : Nat) (u : Int), vs = [.ref q, .int (a : Int)] ∧ SqT K H q (xs.map V.int) ∧ xs[a]? = some u ∧ xs.length ≤ 1000 ∧ (u ≠ 0 → ∀ G r, Same H G → SqT K G r ((xs.set a (u - 1)).map V.int) → Q (.ref r) G) ∧
  (u = 0 → ∀ d G, H d = none → Same H G → G d = some (xdS "unit") → E (.ref CR) (some d) G)
theorem ok_taken {f CR fC fR : Addr} {fd fdC fdR : FuncData} {k : Nat} (F : Fun K "unit_taken" "unit_taken" s_unit_taken f fd) (FC : Fun K "changed_at" "changed_at" s_changed_at fC fdC) (bC : Binds K fdC ["numbers", "at", "by"] []) (gC : mg "changed_at" = some (.ref fC)) (GC : FnOk P w K mg base CX0 (k + 1) fC fdC ["numbers", "at", "by"] (spChg K))
    (FR : Fun K "__init__" "Refused.__init__" s_Refused_init fR fdR) (TR : WTxt K mg "Refused" CR fR) (bR : Binds K fdR ["self", "word"] []) (GR : FnOk P w K mg base CX0 k fR fdR ["self", "word"] (spIRef K CR)) : FnOk P w K mg base (L2.CX P w) (k + 1 + 1) f fd ["stock", "kind"] (spTaken K CR) := by
  refine F.okX sc_unit_taken (fun vs H Q E h => ?_) (fun cdv A outer s H vs Q E hr h => ?_)
  · obtain ⟨q, xs, a, u, rfl, _⟩ := h
    rfl
  · obtain ⟨q0, xs, a, u, rfl, hq, hu, hl, qT, qF⟩ := h
    refine blk_cons (ps_if (pt_cmpR op_eq (pe_ix (r := rIxT K) ix_tup (pv 0) (pv 1) (fun _ _ => rfl)) pe_int (nomark _)) (pss_one (ps_raise rfl (takes_of rfl rfl rfl rfl) (pmk_oex TR.ox TR.iC TR.tI GR hr bR .nil pass0 (by rfl) TR.gR (pa_cons pe_str pa_nil)))) pss_nil) ?_
    refine blk_cons (ps_ret (pe_call GC hr (by rfl) gC FC.kp bC .nil pass0 (pa_cons (pv 0) (pa_cons (pv 1) (pa_cons (pe_un un_neg pe_int) pa_nil))))) ?_
    refine blk_nil ?_
    refine ⟨_, rfl, _, rfl, q0, _, _, .int u, rfl, rfl, hq, atI_nat (by rw [List.getElem?_map, hu]; rfl), rfl, _, rfl, ite2 (fun e => ?_) (fun e => ?_)⟩
    · have e0 : u = 0 := V.int.inj (of_decide_eq_true e)
      exact boom_to (qF e0)
    · have e0 : u ≠ 0 := fun z => e (decide_eq_true (by rw [z]))
      refine ⟨_, rfl, _, rfl, _, rfl, q0, xs.map some, a, u, -1, rfl, by rw [ints_it]; exact hq, by rw [List.getElem?_map, hu]; rfl, by rw [List.length_map]; exact hl, fun G r s h => qT e0 G r s ?_⟩
      rw [← List.map_set, ints_it] at h
      exact h
end
end K3
namespace K3
open PySem PySem.Spec PyProof.Rows L2 Gd
section
variable {P : Program} {w : World} {K : PySem.W.Frag} {mg : Str → Option Value} {base : Heap}
/-! ### unit_put -/
def spPutU (K : PySem.W.Frag) (CR : Addr) : Sp := fun vs H Q E => ∃ (q : Addr) (xs : List Int) (a : Nat) (u : Int), vs = [.ref q, .int (a : Int)] ∧ SqT K H q (xs.map V.int) ∧ xs[a]? = some u ∧ xs.length ≤ 1000 ∧ (u < 400 → ∀ G r, Same H G → SqT K G r ((xs.set a (u + 1)).map V.int) → Q (.ref r) G) ∧
  (¬ u < 400 → ∀ d G, H d = none → Same H G → G d = some (xdS "units") → E (.ref CR) (some d) G)
theorem ok_putU {f CR fC fR : Addr} {fd fdC fdR : FuncData} {k : Nat} {t : Tok} (F : Fun K "unit_put" "unit_put" s_unit_put f fd) (FC : Fun K "changed_at" "changed_at" s_changed_at fC fdC) (bC : Binds K fdC ["numbers", "at", "by"] []) (gC : mg "changed_at" = some (.ref fC)) (GC : FnOk P w K mg base CX0 (k + 1) fC fdC ["numbers", "at", "by"] (spChg K))
    (FR : Fun K "__init__" "Refused.__init__" s_Refused_init fR fdR) (TR : WTxt K mg "Refused" CR fR) (bR : Binds K fdR ["self", "word"] []) (GR : FnOk P w K mg base CX0 k fR fdR ["self", "word"] (spIRef K CR)) (gM : mg "MOST_UNITS" = some (.int 400 t)) : FnOk P w K mg base (L2.CX P w) (k + 1 + 1) f fd ["stock", "kind"] (spPutU K CR) := by
  refine F.okX sc_unit_put (fun vs H Q E h => ?_) (fun cdv A outer s H vs Q E hr h => ?_)
  · obtain ⟨q, xs, a, u, rfl, _⟩ := h
    rfl
  · obtain ⟨q0, xs, a, u, rfl, hq, hu, hl, qT, qF⟩ := h
    refine blk_cons (ps_if (pt_cmpR op_ge (pe_ix (r := rIxT K) ix_tup (pv 0) (pv 1) (fun _ _ => rfl)) (pe_glob (v := .int 400) (by rfl) gM ⟨_, rfl⟩) (nomark _)) (pss_one (ps_raise rfl (takes_of rfl rfl rfl rfl) (pmk_oex TR.ox TR.iC TR.tI GR hr bR .nil pass0 (by rfl) TR.gR (pa_cons pe_str pa_nil)))) pss_nil) ?_
    refine blk_cons (ps_ret (pe_call GC hr (by rfl) gC FC.kp bC .nil pass0 (pa_cons (pv 0) (pa_cons (pv 1) (pa_cons pe_int pa_nil))))) ?_
    refine blk_nil ?_
    refine ⟨_, rfl, _, rfl, q0, _, _, .int u, rfl, rfl, hq, atI_nat (by rw [List.getElem?_map, hu]; rfl), _, _, rfl, rfl, _, rfl, ite2 (fun e => ?_) (fun e => ?_)⟩
    · have e0 : u ≥ 400 := of_decide_eq_true e
      exact boom_to (qF (by omega))
    · have e0 : ¬ u ≥ 400 := fun z => e (decide_eq_true z)
      refine ⟨_, rfl, _, rfl, q0, xs.map some, a, u, 1, rfl, by rw [ints_it]; exact hq, by rw [List.getElem?_map, hu]; rfl, by rw [List.length_map]; exact hl, fun G r s h => qT (by omega) G r s ?_⟩
      rw [← List.map_set, ints_it] at h
      exact h
/-! ### bounds_after -/
def spBAfter (K : PySem.W.Frag) (CR : Addr) : Sp := fun vs H Q E => ∃ (q : Addr) (xs : List (Option Int)) (a : Nat) (u : Option Int), vs = [.ref q, .int (a : Int)] ∧ SqT K H q (xs.map itV) ∧ xs[a]? = some u ∧ xs.length ≤ 1000 ∧ (u ≠ some 0 → ∀ G r, Same H G → SqT K G r ((xs.set a (u.map (· - 1))).map itV) → Q (.ref r) G) ∧
  (u = some 0 → ∀ d G, H d = none → Same H G → G d = some (xdS "bound") → E (.ref CR) (some d) G)
theorem ok_bafter {f CR fC fR : Addr} {fd fdC fdR : FuncData} {k : Nat} (F : Fun K "bounds_after" "bounds_after" s_bounds_after f fd) (FC : Fun K "changed_at" "changed_at" s_changed_at fC fdC) (bC : Binds K fdC ["numbers", "at", "by"] []) (gC : mg "changed_at" = some (.ref fC)) (GC : FnOk P w K mg base CX0 (k + 1) fC fdC ["numbers", "at", "by"] (spChg K))
    (FR : Fun K "__init__" "Refused.__init__" s_Refused_init fR fdR) (TR : WTxt K mg "Refused" CR fR) (bR : Binds K fdR ["self", "word"] []) (GR : FnOk P w K mg base CX0 k fR fdR ["self", "word"] (spIRef K CR)) : FnOk P w K mg base (L2.CX P w) (k + 1 + 1) f fd ["bounds", "request"] (spBAfter K CR) := by
  refine F.okX sc_bounds_after (fun vs H Q E h => ?_) (fun cdv A outer s H vs Q E hr h => ?_)
  · obtain ⟨q, xs, a, u, rfl, _⟩ := h
    rfl
  · obtain ⟨q0, xs, a, u, rfl, hq, hu, hl, qT, qF⟩ := h
    have ha : a < xs.length := (List.getElem?_eq_some_iff.mp hu).1
    have hat : (xs.map itV)[a]? = some (itV u) := by rw [List.getElem?_map, hu]; rfl
    refine blk_cons (ps_if (pt_cmpR op_isN (pe_ix (r := rIxT K) ix_tup (pv 0) (pv 1) (fun _ _ => rfl)) pe_non (nomark _)) (pss_one (ps_ret (pv 0))) pss_nil) ?_
    refine blk_cons (ps_if (pt_cmpR op_eq (pe_ix (r := rIxT K) ix_tup (pv 0) (pv 1) (fun _ _ => rfl)) pe_int (nomark _)) (pss_one (ps_raise rfl (takes_of rfl rfl rfl rfl) (pmk_oex TR.ox TR.iC TR.tI GR hr bR .nil pass0 (by rfl) TR.gR (pa_cons pe_str pa_nil)))) pss_nil) ?_
    refine blk_cons (ps_ret (pe_call GC hr (by rfl) gC FC.kp bC .nil pass0 (pa_cons (pv 0) (pa_cons (pv 1) (pa_cons (pe_un un_neg pe_int) pa_nil))))) ?_
    refine blk_nil ?_
    refine ⟨_, rfl, _, rfl, q0, _, _, itV u, rfl, rfl, hq, atI_nat hat, ?_⟩
    cases u with
    | none =>
      refine ⟨rfl, _, rfl, iteT ⟨_, rfl, ?_⟩⟩
      refine qT (by simp) H q0 (Same.refl _) ?_
      rw [show xs.set a (Option.map (· - 1) none) = xs from List.ext_getElem? fun b => by
        by_cases z : a = b
        · subst z
          rw [List.getElem?_set_self ha, hu]
          rfl
        · rw [List.getElem?_set_ne z]]
      exact hq
    | some i =>
      refine ⟨rfl, _, rfl, iteF ?_⟩
      refine ⟨_, rfl, _, rfl, q0, _, _, .int i, rfl, rfl, hq, atI_nat hat, rfl, _, rfl, ite2 (fun e => ?_) (fun e => ?_)⟩
      · have e0 : i = 0 := V.int.inj (of_decide_eq_true e)
        exact boom_to (qF (by rw [e0]))
      · have e0 : i ≠ 0 := fun z => e (decide_eq_true (by rw [z]))
        exact ⟨_, rfl, _, rfl, _, rfl, q0, xs, a, i, -1, rfl, hq, hu, hl, fun G r s h => qT (by simpa using e0) G r s h⟩
end
end K3
namespace K3
open PySem PySem.Spec PyProof.Rows L2 Gd
section
variable {X : Cx}
/-- l[i] where it is added to, i from 0 on -/
theorem get_list : PGet X (fun o i H Q => ∃ (p : Addr) (xs : List V) (j : Nat) (z : V), o = .ref p ∧ i = .int (j : Int) ∧ SqL X.K H p xs ∧ xs[j]? = some z ∧ Q z H) := by
  intro pins s σ H o i ov iv Q I ro ri h
  obtain ⟨p, xs, j, z, rfl, rfl, hq, hz, q⟩ := h
  cases ro
  obtain ⟨t, rfl⟩ := ri
  obtain ⟨its, r, pl, hz2⟩ := I.list hq
  obtain ⟨u, eu, ru⟩ := r.get hz
  have lj : j < xs.length := (List.getElem?_eq_some_iff.mp hz).1
  have l63 := line63
  exact getItem_listL pl.isList (by omega) (by omega) (by rw [Int.toNat_natCast]; exact eu) ⟨z, H, I, ru, q⟩
end
def unitsIn (xs : List Int) (ks : List Nat) : Int := (ks.map fun k => xs.getD k 0).sum
abbrev natsV (ks : List Nat) : List V := ks.map fun k : Nat => V.int (k : Int)
section
variable {P : Program} {w : World} {K : PySem.W.Frag} {mg : Str → Option Value} {base : Heap}
/-! ### units_in -/
def spUnits (K : PySem.W.Frag) : Sp := fun vs H Q _ => ∃ (q kq : Addr) (xs : List Int) (ks : List Nat), vs = [.ref q, .ref kq] ∧ SqT K H q (xs.map V.int) ∧ SqT K H kq (natsV ks) ∧ (∀ k ∈ ks, k < xs.length) ∧ ks.length ≤ 1000 ∧ ∀ G, Same H G → Q (.int (unitsIn xs ks)) G
theorem ok_units {f : Addr} {fd : FuncData} {k : Nat} (F : Fun K "units_in" "units_in" s_units_in f fd) (ms : mg "sum" = none) : FnOk P w K mg base CX0 (k + 1) f fd ["stock", "kinds"] (spUnits K) := by
  refine F.ok sc_units_in (fun vs H Q E h => ?_) (fun cdv A outer s H vs Q E hr h => ?_)
  · obtain ⟨q, kq, xs, ks, rfl, _⟩ := h
    rfl
  · obtain ⟨q0, kq, xs, ks, rfl, hq, hk, hb, hl, q⟩ := h
    refine blk_cons (ps_ret (pe_callB (cr_sum rfl) (by rfl) ms (by decide +kernel) (pa_cons (pe_lc (own := [("kind", 2)]) (g := gName 2) (tt := tYes) rfl sc_units_in.nd (pi_tup (pv 1)) (blkOk_by (own := [("kind", 2)]) (N := n_units_in) (sc := defScope s_units_in) (by decide +kernel))
      (fun _ _ _ _ _ => pg_name (i := 2) sc_units_in.nd rfl (Or.inl rfl)) (fun _ _ _ _ _ => pts_nil) (fun _ _ _ _ _ => pe_ix (r := rIxT K) ix_tup (pv 0) (pv 2) (fun _ _ => rfl))) pa_nil))) ?_
    refine blk_nil ?_
    refine ⟨_, rfl, kq, rfl, ⟨_, hk⟩, fun D nD => lc_tup (xs := natsV ks) (fun i G => Same H G ∧ G D = some (.lst (((ks.take i).map fun k => xs.getD k 0).map V.int))) ⟨same_new nD, upd_same⟩ (fun i G _ hP => same_seqT hP.1 hk) (fun i x G hx hP => ?_) (fun G hP => ?_)⟩
    · obtain ⟨s1, gD⟩ := hP
      rw [List.getElem?_map] at hx
      obtain ⟨kk, hkk, rfl⟩ := Option.map_eq_some_iff.mp hx
      have hlt := hb kk (List.mem_of_getElem? hkk)
      have hi := (List.getElem?_eq_some_iff.mp hkk).1
      refine ⟨rfl, ?_⟩
      dsimp only [tYes]
      rw [if_pos rfl]
      refine ⟨_, rfl, _, rfl, q0, _, _, .int (xs.getD kk 0), rfl, rfl, same_seqT s1 hq, atI_nat (by rw [List.getElem?_map, List.getElem?_eq_getElem hlt, List.getD_eq_getElem?_getD, List.getElem?_eq_getElem hlt]; rfl), _, gD, by rw [List.length_map, List.length_map, List.length_take, sizeLine_eq]; omega, fun bb ob eb => (upd_ne (ne_of_none eb nD)).trans (s1 _ _ eb), ?_⟩
      rw [upd_same, List.take_add_one, hkk, List.map_append, List.map_append]
      rfl
    · obtain ⟨s1, gD⟩ := hP
      rw [show (natsV ks).length = ks.length from List.length_map _, List.take_length] at gD
      exact ⟨D, _, rfl, sqL gD, q _ s1⟩
/-! ### counts_of -/
def cstep (c : List Int) (o : Option Nat) : List Int := match o with
  | none => c
  | some a => c.set a (c.getD a 0 + 1)
def countsL (n : Nat) (l : List (Option Nat)) : List Int := l.foldl cstep (List.replicate n 0)
theorem countsL_snoc (n : Nat) (l : List (Option Nat)) (o : Option Nat) : countsL n (l ++ [o]) = cstep (countsL n l) o := by
  unfold countsL
  rw [List.foldl_append]
  rfl
theorem countsL_len (n : Nat) (l : List (Option Nat)) : (countsL n l).length = n := by
  have key : ∀ (l : List (Option Nat)) (c : List Int), (l.foldl cstep c).length = c.length := fun l => by
    induction l with
    | nil => exact fun _ => rfl
    | cons o r ih =>
      intro c
      rw [List.foldl_cons, ih]
      cases o with
      | none => rfl
      | some a => exact List.length_set
  rw [countsL, key, List.length_replicate]
abbrev onV (o : Option Nat) : V := match o with
  | none => .non
  | some a => .int (a : Int)
theorem flat0 (n : Nat) : (List.replicate n [V.int 0]).flatten = (List.replicate n (0 : Int)).map V.int := by
  induction n with
  | zero => rfl
  | succ m ih => rw [List.replicate_succ, List.replicate_succ, List.flatten_cons, ih]; rfl
def spCounts (K : PySem.W.Frag) : Sp := fun vs H Q _ => ∃ (q : Addr) (l : List (Option Nat)) (n : Nat), vs = [.ref q, .int (n : Int)] ∧ SqT K H q (l.map onV) ∧ (∀ a, some a ∈ l → a < n) ∧ n ≤ 1000 ∧ ∀ G r, Same H G → SqT K G r ((countsL n l).map V.int) → Q (.ref r) G
theorem ok_counts {f : Addr} {fd : FuncData} {k : Nat} (F : Fun K "counts_of" "counts_of" s_counts_of f fd) (mt : mg "tuple" = none) : FnOk P w K mg base CX0 (k + 1) f fd ["items", "length"] (spCounts K) := by
  refine F.ok sc_counts_of (fun vs H Q E h => ?_) (fun cdv A outer s H vs Q E hr h => ?_)
  · obtain ⟨q, l, n, rfl, _⟩ := h
    rfl
  · obtain ⟨q0, l, n, rfl, hq, hb, hn, q⟩ := h
    refine blk_cons (ps_set (i := 2) sc_counts_of.nd rfl (.inl rfl) (pe_op op_rep (pe_lst (pa_cons pe_int pa_nil)) (pv 1))) ?_
    refine blk_cons (ps_for PassesOwn.never rfl (pi_tup (pv 0)) (pg_name (i := 3) sc_counts_of.nd rfl (.inl rfl))
      (pss_one (ps_if (pt_cmpR op_notN (pv 3) pe_non (nomark _)) (pss_one (ps_augS (pv 2) (pv 3) get_list pe_int ip_add set_list)) pss_nil))) ?_
    refine blk_cons (ps_ret (pe_callTy call_tuple_of (by rfl) mt (by decide +kernel) (pa_cons (pv 2) pa_nil))) ?_
    refine blk_nil ?_
    refine ⟨by show 1 ≤ sizeLine; decide, fun p1 n1 => ⟨_, rfl, p1, _, _, rfl, rfl, upd_same, by omega, by omega, by rw [sizeLine_eq]; show 1 * _ ≤ _; omega, fun F1 nF => ?_⟩⟩
    have s1 := (same_new (o := .lst [V.int 0]) n1).trans (same_new (o := .lst (List.replicate ((n : Int)).toNat [V.int 0]).flatten) nF)
    have g1 := upd_same (H := upd H p1 (.lst [V.int 0])) (a := F1) (o := .lst (List.replicate ((n : Int)).toNat [V.int 0]).flatten)
    have nF0 : H F1 = none := (same_new (o := .lst [V.int 0]) n1).free nF
    rw [flat0, show ((n : Int)).toNat = n by omega] at g1 s1
    rw [flat0, show ((n : Int)).toNat = n by omega]
    generalize upd (upd H p1 (.lst [V.int 0])) F1 (.lst ((List.replicate n (0 : Int)).map V.int)) = G1 at s1 g1 ⊢
    dsimp only [gName]
    refine seq_out (t := tFor _ _ _) (fun σ' G' => ∃ y3 : Option V, σ' = [some (.ref q0), some (.int (n : Int)), some (.ref F1), y3] ∧ Same H G' ∧ G' F1 = some (.lst ((countsL n l).map V.int))) (fun N hN => ?_) (fun σ' G2 hR => ?_)
    · refine ⟨_, rfl, q0, rfl, ⟨_, same_seqT s1 hq⟩, for_tup (xs := l.map onV) (fun i σ G => ∃ y3 : Option V, σ = [some (.ref q0), some (.int (n : Int)), some (.ref F1), y3] ∧ Same H G ∧ G F1 = some (.lst ((countsL n (l.take i)).map V.int))) ⟨_, rfl, s1, g1⟩ (fun i σ G _ hP => ?_) (fun i x σ G hx hP => ?_) (fun σ G hP => ?_)⟩
      · obtain ⟨_, _, z, _⟩ := hP
        exact same_seqT z hq
      · obtain ⟨y3, rfl, s2, g2⟩ := hP
        rw [List.getElem?_map] at hx
        obtain ⟨o, ho, rfl⟩ := Option.map_eq_some_iff.mp hx
        have tk : l.take (i + 1) = l.take i ++ [o] := by
          rw [List.take_add_one, ho]
          rfl
        rw [tk, countsL_snoc]
        have lc := countsL_len n (l.take i)
        generalize countsL n (l.take i) = c at g2 lc ⊢
        dsimp only [gName]
        cases o with
        | none => exact ⟨_, rfl, rfl, _, rfl, iteF ⟨_, rfl, s2, g2⟩⟩
        | some a =>
          have han := hb a (List.mem_of_getElem? ho)
          have hca : c[a]? = some (c.getD a 0) := by
            rw [List.getD_eq_getElem?_getD, List.getElem?_eq_getElem (by omega)]
            rfl
          refine ⟨_, rfl, rfl, _, rfl, iteT ⟨_, rfl, _, rfl, F1, _, a, .int (c.getD a 0), rfl, rfl, sqL g2, by rw [List.getElem?_map, hca]; rfl, _, _, rfl, rfl, F1, _, _, a, rfl, rfl, g2, ixN_nat (by rw [List.length_map]; omega), ?_⟩⟩
          refine ⟨_, rfl, fun bb ob eb => (upd_ne (ne_of_none eb nF0)).trans (s2 _ _ eb), ?_⟩
          rw [upd_same]
          show some (HO.lst _) = some (HO.lst ((c.set a (c.getD a 0 + 1)).map V.int))
          rw [List.map_set]
      · obtain ⟨y3, rfl, s2, g2⟩ := hP
        rw [List.length_map, List.take_length] at g2
        exact hN _ _ ⟨_, rfl, s2, g2⟩
    obtain ⟨y3, rfl, s2, g2⟩ := hR
    exact ⟨_, rfl, F1, _, rfl, .inl ⟨sqL g2, fun t nt => q _ t (s2.trans (same_new nt)) (sqT upd_same)⟩⟩
end
end K3
namespace K3
open PySem PySem.Spec PyProof.Rows L2 Gd
/-- an item of a stock, of bounds (nn) or of a row, whether it is right -/
def ItmV (K : PySem.W.Frag) (nn : Bool) (lim : Int) (H : Hp) (x : V) (b : Bool) : Prop := (NumV K H lim x b ∧ (nn = true → x ≠ .non)) ∨ (nn = true ∧ x = .non ∧ b = true)
theorem ItmV.same {K : PySem.W.Frag} {nn : Bool} {lim : Int} {H G : Hp} (e : Same H G) {x : V} {b : Bool} (h : ItmV K nn lim H x b) : ItmV K nn lim G x b := h.imp (fun z => ⟨z.1.same e, z.2⟩) id
/-- any value, and its items if it is a tuple -/
inductive AnyV (K : PySem.W.Frag) (nn : Bool) (lim : Int) (H : Hp) : V → Option (List Bool) → Prop
  | no {x : V} {m : String} : TyN K H x m → kitB m "tuple" = some false → AnyV K nn lim H x none
  | tup {p : Addr} {xs : List V} {bs : List Bool} : SqT K H p xs → xs.length ≤ 1000 → Paired (ItmV K nn lim H) xs bs → AnyV K nn lim H (.ref p) (some bs)
/-- the fault that is told: -1, or the place of the first wrong item -/
def faultI (ok : Nat → Bool) : Option (List Bool) → Option Int
  | none => some (-1)
  | some bs => if ok bs.length then (firstF bs).map fun n : Nat => (n : Int) else some (-1)
theorem faultI_t {ok : Nat → Bool} {bs : List Bool} (h : ok bs.length = true) : faultI ok (some bs) = (firstF bs).map fun n : Nat => (n : Int) := if_pos h
theorem faultI_f {ok : Nat → Bool} {bs : List Bool} (h : ok bs.length = false) : faultI ok (some bs) = some (-1) := if_neg (by rw [h]; exact Bool.false_ne_true)
theorem ffV_eq (bs : List Bool) : ffV bs = itV ((firstF bs).map fun n : Nat => (n : Int)) := by
  unfold ffV
  cases firstF bs <;> rfl
section
variable {P : Program} {w : World} {K : PySem.W.Frag} {mg : Str → Option Value} {base : Heap}
/-! ### stock_fault -/
def spSF (K : PySem.W.Frag) (C : Addr) : Sp := fun vs H Q _ => ∃ (p dx pk pt : Addr) (t : TD) (x : V) (r : Option (List Bool)), vs = [.ref p, x] ∧ TblAt K C H p dx pk pt t ∧ TOk t ∧ AnyV K false 401 H x r ∧ ∀ G, Same H G → Q (itV (faultI (fun n => decide (n = t.kinds.length)) r)) G
theorem ok_sf {f C fT fF fB : Addr} {fd fdT fdF fdB : FuncData} {k : Nat} {tk : Tok} (F : Fun K "stock_fault" "stock_fault" s_stock_fault f fd) (T : TTxt K mg C) (FT : Fun K "is_tuple_of" "is_tuple_of" s_is_tuple_of fT fdT) (bT : Binds K fdT ["value", "length"] []) (gT : mg "is_tuple_of" = some (.ref fT)) (GT : FnOk P w K mg base CX0 k fT fdT ["value", "length"] (spTupOf K))
    (FF : Fun K "first_false" "first_false" s_first_false fF fdF) (bF : Binds K fdF ["flags"] []) (gF : mg "first_false" = some (.ref fF)) (GF : FnOk P w K mg base CX0 k fF fdF ["flags"] (spFF K)) (FB : Fun K "is_number_below" "is_number_below" s_is_number_below fB fdB) (bB : Binds K fdB ["value", "limit"] []) (gB : mg "is_number_below" = some (.ref fB)) (GB : FnOk P w K mg base CX0 k fB fdB ["value", "limit"] (spNumB K))
    (gM : mg "MOST_UNITS" = some (.int 400 tk)) (ml : mg "len" = none) : FnOk P w K mg base CX0 (k + 1) f fd ["table", "value"] (spSF K C) := by
  refine F.ok sc_stock_fault (fun vs H Q E h => ?_) (fun cdv A outer s H vs Q E hr h => ?_)
  · obtain ⟨p, dx, pk, pt, t, x, r, rfl, _⟩ := h
    rfl
  · obtain ⟨p, dx, pk, pt, t, x, r, rfl, d, ok, hx, q⟩ := h
    refine blk_cons (ps_if (pt_not (pt_val (pe_call GT hr (by rfl) gT FT.kp bT .nil pass0 (pa_cons (pv 1) (pa_cons (pe_callB call_len_seq (by rfl) ml PySem.boot_len (pa_cons (pe_fld (pv 0) rfl) pa_nil)) pa_nil))))) (pss_one (ps_ret (pe_un un_neg pe_int))) pss_nil) ?_
    refine blk_cons (ps_ret (pe_call GF hr (by rfl) gF FF.kp bF .nil pass0 (pa_cons (pe_lc (own := [("item", 2)]) (g := gName 2) (tt := tYes) rfl sc_stock_fault.nd (pi_tup (pv 1)) (blkOk_by (own := [("item", 2)]) (N := n_stock_fault) (sc := defScope s_stock_fault) (by decide +kernel))
      (fun _ _ _ _ _ => pg_name (i := 2) sc_stock_fault.nd rfl (Or.inl rfl)) (fun _ _ _ _ _ => pts_nil) (fun _ _ _ _ _ => pe_call GB hr (by rfl) gB FB.kp bB .nil pass0 (pa_cons (pv 2) (pa_cons (pe_op op_add (pe_glob (v := .int 400) (by rfl) gM ⟨_, rfl⟩) pe_int) pa_nil)))) pa_nil))) ?_
    refine blk_nil ?_
    refine ⟨_, rfl, _, rfl, p, C, dx, _, _, rfl, d.obj, T.cl, T.nK, tf_k _ _, pk, _, rfl, .inr (kinds_sq d.kd), _, _, rfl, ?_⟩
    have lk : (t.kinds.map V.str).length = t.kinds.length := List.length_map _
    rw [lk]
    cases hx with
    | @no _ m ty kk => exact .inl ⟨m, ty, kk, _, rfl, iteT ⟨_, rfl, q _ (Same.refl _)⟩⟩
    | @tup pq xs bs ht hl hp =>
      have hbl : bs.length = xs.length := (Paired.length hp).symm
      refine .inr ⟨pq, xs, rfl, ht, _, rfl, ?_⟩
      by_cases hn : xs.length = t.kinds.length
      · rw [decide_eq_true (show (xs.length : Int) = (t.kinds.length : Int) by omega)]
        refine iteF ?_
        refine ⟨_, rfl, pq, rfl, ⟨_, ht⟩, fun D nD => lc_tup (K := K) (a := pq) (xs := xs) (fun i G => Same H G ∧ G D = some (.lst ((bs.take i).map V.bl))) ⟨same_new nD, upd_same⟩ (fun i G _ hP => same_seqT hP.1 ht) (fun i y G hy hP => ?_) (fun G hP => ?_)⟩
        · obtain ⟨s1, gD⟩ := hP
          obtain ⟨b0, hb0, hnum⟩ := paired_at hp hy
          have hnum' : NumV K H 401 y b0 := (hnum.resolve_right fun z => nomatch z.1).1
          refine ⟨rfl, ?_⟩
          dsimp only [tYes]
          rw [if_pos rfl]
          refine ⟨y, rfl, _, _, rfl, rfl, y, 401, b0, rfl, hnum'.same s1, _, gD, by rw [List.length_map, List.length_take, sizeLine_eq]; omega, fun bb ob eb => (upd_ne (ne_of_none eb nD)).trans (s1 _ _ eb), ?_⟩
          rw [upd_same, List.take_add_one, hb0, List.map_append]
          rfl
        · obtain ⟨s1, gD⟩ := hP
          rw [← hbl, List.take_length] at gD
          refine ⟨D, bs, rfl, sqL gD, by omega, ?_⟩
          rw [ffV_eq]
          have e := q G s1
          rw [faultI_t (decide_eq_true (hbl.trans hn))] at e
          exact e
      · rw [decide_eq_false (show ¬ (xs.length : Int) = (t.kinds.length : Int) by omega)]
        refine iteT ⟨_, rfl, ?_⟩
        have e := q _ (Same.refl _)
        rw [faultI_f (decide_eq_false (by omega))] at e
        exact e
end
end K3
namespace K3
open PySem PySem.Spec PyProof.Rows L2 Gd
section
variable {P : Program} {w : World} {K : PySem.W.Frag} {mg : Str → Option Value} {base : Heap}
/-! ### bounds_fault -/
def spBF (K : PySem.W.Frag) (C : Addr) : Sp := fun vs H Q _ => ∃ (p dx pk pt : Addr) (t : TD) (x : V) (r : Option (List Bool)), vs = [.ref p, x] ∧ TblAt K C H p dx pk pt t ∧ TOk t ∧ AnyV K true 401 H x r ∧ ∀ G, Same H G → Q (itV (faultI (fun n => decide (n = t.types.length)) r)) G
theorem ok_bf {f C fT fF fB : Addr} {fd fdT fdF fdB : FuncData} {k : Nat} {tk : Tok} (F : Fun K "bounds_fault" "bounds_fault" s_bounds_fault f fd) (T : TTxt K mg C) (FT : Fun K "is_tuple_of" "is_tuple_of" s_is_tuple_of fT fdT) (bT : Binds K fdT ["value", "length"] []) (gT : mg "is_tuple_of" = some (.ref fT)) (GT : FnOk P w K mg base CX0 k fT fdT ["value", "length"] (spTupOf K))
    (FF : Fun K "first_false" "first_false" s_first_false fF fdF) (bF : Binds K fdF ["flags"] []) (gF : mg "first_false" = some (.ref fF)) (GF : FnOk P w K mg base CX0 k fF fdF ["flags"] (spFF K)) (FB : Fun K "is_number_below" "is_number_below" s_is_number_below fB fdB) (bB : Binds K fdB ["value", "limit"] []) (gB : mg "is_number_below" = some (.ref fB)) (GB : FnOk P w K mg base CX0 k fB fdB ["value", "limit"] (spNumB K))
    (gM : mg "MOST_UNITS" = some (.int 400 tk)) (ml : mg "len" = none) : FnOk P w K mg base CX0 (k + 1) f fd ["table", "value"] (spBF K C) := by
  refine F.ok sc_bounds_fault (fun vs H Q E h => ?_) (fun cdv A outer s H vs Q E hr h => ?_)
  · obtain ⟨p, dx, pk, pt, t, x, r, rfl, _⟩ := h
    rfl
  · obtain ⟨p, dx, pk, pt, t, x, r, rfl, d, ok, hx, q⟩ := h
    refine blk_cons (ps_if (pt_not (pt_val (pe_call GT hr (by rfl) gT FT.kp bT .nil pass0 (pa_cons (pv 1) (pa_cons (pe_callB call_len_seq (by rfl) ml PySem.boot_len (pa_cons (pe_fld (pv 0) rfl) pa_nil)) pa_nil))))) (pss_one (ps_ret (pe_un un_neg pe_int))) pss_nil) ?_
    refine blk_cons (ps_ret (pe_call GF hr (by rfl) gF FF.kp bF .nil pass0 (pa_cons (pe_lc (own := [("item", 2)]) (g := gName 2) (tt := tYes) rfl sc_bounds_fault.nd (pi_tup (pv 1)) (blkOk_by (own := [("item", 2)]) (N := n_bounds_fault) (sc := defScope s_bounds_fault) (by decide +kernel))
      (fun _ _ _ _ _ => pg_name (i := 2) sc_bounds_fault.nd rfl (Or.inl rfl)) (fun _ _ _ _ _ => pts_nil) (fun _ _ _ _ _ => pe_or (pe_cmpR op_isN (pv 2) pe_non (nomark _)) (pe_one (pe_call GB hr (by rfl) gB FB.kp bB .nil pass0 (pa_cons (pv 2) (pa_cons (pe_op op_add (pe_glob (v := .int 400) (by rfl) gM ⟨_, rfl⟩) pe_int) pa_nil)))))) pa_nil))) ?_
    refine blk_nil ?_
    obtain ⟨tus, htq, hda⟩ := types_sq d.td
    have lk : tus.length = t.types.length := by rw [dpAll_len hda, List.length_map]
    refine ⟨_, rfl, _, rfl, p, C, dx, _, _, rfl, d.obj, T.cl, T.nT, tf_t _ _, pt, _, rfl, .inr htq, _, _, rfl, ?_⟩
    rw [lk]
    cases hx with
    | @no _ m ty kk => exact .inl ⟨m, ty, kk, _, rfl, iteT ⟨_, rfl, q _ (Same.refl _)⟩⟩
    | @tup pq xs bs ht hl hp =>
      have hbl : bs.length = xs.length := (Paired.length hp).symm
      refine .inr ⟨pq, xs, rfl, ht, _, rfl, ?_⟩
      by_cases hn : xs.length = t.types.length
      · rw [decide_eq_true (show (xs.length : Int) = (t.types.length : Int) by omega)]
        refine iteF ?_
        refine ⟨_, rfl, pq, rfl, ⟨_, ht⟩, fun D nD => lc_tup (K := K) (a := pq) (xs := xs) (fun i G => Same H G ∧ G D = some (.lst ((bs.take i).map V.bl))) ⟨same_new nD, upd_same⟩ (fun i G _ hP => same_seqT hP.1 ht) (fun i y G hy hP => ?_) (fun G hP => ?_)⟩
        · obtain ⟨s1, gD⟩ := hP
          obtain ⟨b0, hb0, hnum⟩ := paired_at hp hy
          refine ⟨rfl, ?_⟩
          dsimp only [tYes]
          rw [if_pos rfl]
          have fin : ∃ acc, G D = some (.lst acc) ∧ acc.length < sizeLine ∧ Same H (upd G D (.lst (acc ++ [.bl b0]))) ∧ (upd G D (.lst (acc ++ [.bl b0]))) D = some (.lst ((bs.take (i + 1)).map V.bl)) := by
            refine ⟨_, gD, by rw [List.length_map, List.length_take, sizeLine_eq]; omega, fun bb ob eb => (upd_ne (ne_of_none eb nD)).trans (s1 _ _ eb), ?_⟩
            rw [upd_same, List.take_add_one, hb0, List.map_append]
            rfl
          rcases hnum with ⟨hnum', hnon⟩ | ⟨_, e1, e2⟩
          · refine ⟨y, rfl, rfl, _, rfl, ?_⟩
            rw [decide_eq_false (hnon rfl)]
            refine iteF ⟨y, rfl, _, _, rfl, rfl, y, 401, b0, rfl, hnum'.same s1, ?_⟩
            exact fin
          · subst e1
            subst e2
            exact ⟨_, rfl, rfl, _, rfl, iteT fin⟩
        · obtain ⟨s1, gD⟩ := hP
          rw [← hbl, List.take_length] at gD
          refine ⟨D, bs, rfl, sqL gD, by omega, ?_⟩
          rw [ffV_eq]
          have e := q G s1
          rw [faultI_t (decide_eq_true (hbl.trans hn))] at e
          exact e
      · rw [decide_eq_false (show ¬ (xs.length : Int) = (t.types.length : Int) by omega)]
        refine iteT ⟨_, rfl, ?_⟩
        have e := q _ (Same.refl _)
        rw [faultI_f (decide_eq_false (by omega))] at e
        exact e
end
end K3
namespace K3
open PySem PySem.Spec PyProof.Rows L2 Gd
theorem tyTup {K : PySem.W.Frag} {H : Hp} {c : Addr} {xs : List V} (h : SqT K H c xs) : TyN K H (.ref c) "tuple" := by
  rcases h with (z | ⟨o, z⟩) | ⟨o, its, n, hk, hc, _⟩
  · exact .base (.tup z)
  · exact .fTuple z
  · exact .kTuple hk hc
section
variable {P : Program} {w : World} {K : PySem.W.Frag} {mg : Str → Option Value} {base : Heap}
/-! ### row_fault -/
def spRF (K : PySem.W.Frag) (C : Addr) : Sp := fun vs H Q _ => ∃ (p dx pk pt : Addr) (t : TD) (x : V) (r : Option (List Bool)), vs = [.ref p, x] ∧ TblAt K C H p dx pk pt t ∧ TOk t ∧ AnyV K false (t.types.length : Int) H x r ∧ ∀ G, Same H G → Q (itV (faultI (fun n => decide (n ≤ 400)) r)) G
theorem ok_rf {f C fF fB : Addr} {fd fdF fdB : FuncData} {k : Nat} {tk : Tok} (F : Fun K "row_fault" "row_fault" s_row_fault f fd) (T : TTxt K mg C) (FF : Fun K "first_false" "first_false" s_first_false fF fdF) (bF : Binds K fdF ["flags"] []) (gF : mg "first_false" = some (.ref fF)) (GF : FnOk P w K mg base CX0 k fF fdF ["flags"] (spFF K))
    (FB : Fun K "is_number_below" "is_number_below" s_is_number_below fB fdB) (bB : Binds K fdB ["value", "limit"] []) (gB : mg "is_number_below" = some (.ref fB)) (GB : FnOk P w K mg base CX0 k fB fdB ["value", "limit"] (spNumB K))
    (gM : mg "MOST_REQUESTS" = some (.int 400 tk)) (ml : mg "len" = none) (mI : mg "isinstance" = none) (mt : mg "tuple" = none) : FnOk P w K mg base CX0 (k + 1) f fd ["table", "value"] (spRF K C) := by
  refine F.ok sc_row_fault (fun vs H Q E h => ?_) (fun cdv A outer s H vs Q E hr h => ?_)
  · obtain ⟨p, dx, pk, pt, t, x, r, rfl, _⟩ := h
    rfl
  · obtain ⟨p, dx, pk, pt, t, x, r, rfl, d, ok, hx, q⟩ := h
    refine blk_cons (ps_if (PW.pt (pw_or (pt_not (pt_val (pe_callB call_isi (by rfl) mI (by decide +kernel) (pa_cons (pv 1) (pa_cons (pe_bltn (v := .ty "tuple") (by rfl) mt (by decide +kernel) rfl) pa_nil))))) (pw_or1 (pt_cmpR op_gt (pe_callB call_len_seq (by rfl) ml PySem.boot_len (pa_cons (pv 1) pa_nil)) (pe_glob (v := .int 400) (by rfl) gM ⟨_, rfl⟩) (nomark _))))) (pss_one (ps_ret (pe_un un_neg pe_int))) pss_nil) ?_
    refine blk_cons (ps_ret (pe_call GF hr (by rfl) gF FF.kp bF .nil pass0 (pa_cons (pe_lc (own := [("item", 2)]) (g := gName 2) (tt := tYes) rfl sc_row_fault.nd (pi_tup (pv 1)) (blkOk_by (own := [("item", 2)]) (N := n_row_fault) (sc := defScope s_row_fault) (by decide +kernel))
      (fun _ _ _ _ _ => pg_name (i := 2) sc_row_fault.nd rfl (Or.inl rfl)) (fun _ _ _ _ _ => pts_nil) (fun _ _ _ _ _ => pe_call GB hr (by rfl) gB FB.kp bB .nil pass0 (pa_cons (pv 2) (pa_cons (pe_callB (r := rLenQ K) call_len_seq (by rfl) ml PySem.boot_len (pa_cons (show PE _ _ (tFld K (tVar 0) "types") from pe_fld (pv 0) rfl) pa_nil)) pa_nil)))) pa_nil))) ?_
    refine blk_nil ?_
    obtain ⟨tus, htq, hda⟩ := types_sq d.td
    have lk : tus.length = t.types.length := by rw [dpAll_len hda, List.length_map]
    cases hx with
    | @no _ m ty kk => exact ⟨_, rfl, _, _, _, _, false, rfl, .ty "tuple", ty, kit_ty kk, _, rfl, iteT (iteT ⟨_, rfl, q _ (Same.refl _)⟩)⟩
    | @tup pq xs bs ht hl hp =>
      have hbl : bs.length = xs.length := (Paired.length hp).symm
      refine ⟨_, rfl, _, _, _, _, true, rfl, .ty "tuple", tyTup ht, kit_ty (by decide +kernel), _, rfl, iteF ?_⟩
      refine ⟨_, rfl, pq, xs, rfl, .inr ht, _, _, rfl, rfl, _, rfl, ?_⟩
      by_cases hn : xs.length ≤ 400
      · rw [decide_eq_false (show ¬ (xs.length : Int) > 400 by omega)]
        refine iteF ?_
        refine ⟨_, rfl, pq, rfl, ⟨_, ht⟩, fun D nD => lc_tup (K := K) (a := pq) (xs := xs) (fun i G => Same H G ∧ G D = some (.lst ((bs.take i).map V.bl))) ⟨same_new nD, upd_same⟩ (fun i G _ hP => same_seqT hP.1 ht) (fun i y G hy hP => ?_) (fun G hP => ?_)⟩
        · obtain ⟨s1, gD⟩ := hP
          obtain ⟨b0, hb0, hnum⟩ := paired_at hp hy
          have hnum' : NumV K H (t.types.length : Int) y b0 := (hnum.resolve_right fun z => nomatch z.1).1
          have d1 := d.same s1
          refine ⟨rfl, ?_⟩
          dsimp only [tYes]
          rw [if_pos rfl]
          refine ⟨y, rfl, _, rfl, p, C, dx, _, _, rfl, d1.obj, T.cl, T.nT, tf_t _ _, pt, _, rfl, .inr (same_seqT s1 htq), y, _, b0, rfl, ?_, _, gD, by rw [List.length_map, List.length_take, sizeLine_eq]; omega, fun bb ob eb => (upd_ne (ne_of_none eb nD)).trans (s1 _ _ eb), ?_⟩
          · rw [lk]
            exact hnum'.same s1
          · rw [upd_same, List.take_add_one, hb0, List.map_append]
            rfl
        · obtain ⟨s1, gD⟩ := hP
          rw [← hbl, List.take_length] at gD
          refine ⟨D, bs, rfl, sqL gD, by omega, ?_⟩
          rw [ffV_eq]
          have e := q G s1
          rw [faultI_t (decide_eq_true (by omega))] at e
          exact e
      · rw [decide_eq_true (show (xs.length : Int) > 400 by omega)]
        refine iteT ⟨_, rfl, ?_⟩
        have e := q _ (Same.refl _)
        rw [faultI_f (decide_eq_false (by omega))] at e
        exact e
end
end K3
namespace K3
open PySem PySem.Spec PyProof.Rows L2 Gd
/-- what is told of an error with a place -/
structure ATxt (K : PySem.W.Frag) (mg : Str → Option Value) (nm : Str) (CX fX : Addr) : Prop where
  ox : OexC K CX
  nA : PySem.W.findIn K (.ref CX) "at" = some none
  iC : PySem.W.findIn K (.ref CX) "__init__" = some (some (.ref fX))
  tI : PySem.W.typeIn K (.ref fX) = some (.type "function")
  gR : mg nm = some (.ref CX)
def xdA (i : Int) : HO := .xd [(("at" : Str), .int i)]
def spIAt (K : PySem.W.Frag) (C : Addr) : Sp := fun vs H Q _ => ∃ (a : Addr) (i : Int), vs = [.ref a, .int i] ∧ H a = some (exo a C none) ∧ ∀ dx, H dx = none → dx ≠ a → Q .non (upd (upd H dx (exd dx [("at", .int i)])) a (exo a C (some dx)))
theorem boomA_to {K : PySem.W.Frag} {C : Addr} {σ : L2.St} {H : Hp} {n : Nat} {i : Int} {E : XK} (hσ : σ[n]? = some (some (.int i))) (q : ∀ d G, H d = none → Same H G → G d = some (xdA i) → E (.ref C) (some d) G) : tMkO C (spIAt K C) [] (tCons (tVar n) tNil) σ H fun cls d H' => (fun cls d _ H => E cls d H) cls d σ H' := by
  refine ⟨_, hσ, by show 1 ≤ 1000; decide, fun a na => ⟨a, _, rfl, upd_same, fun dx2 n1 n2 => ⟨rfl, dx2, [("at", .int i)], upd_same, (upd_ne n2).trans upd_same, ?_, ?_⟩⟩⟩
  · exact (upd_ne n2).symm.trans n1
  · have n3 : H dx2 = none := (upd_ne n2).symm.trans n1
    refine q dx2 _ n3 (fun b o e => ?_) upd_same
    have ba : b ≠ a := ne_of_none e na
    have bd : b ≠ dx2 := ne_of_none e n3
    rw [upd_ne bd, del_ne ba, upd_ne ba, upd_ne bd, upd_ne ba]
    exact e
section
variable {P : Program} {w : World} {K : PySem.W.Frag} {mg : Str → Option Value} {base : Heap}
theorem ok_iats {f C : Addr} {fd : FuncData} {k : Nat} (F : Fun K "__init__" "InvalidStock.__init__" s_InvalidStock_init f fd) (T : ATxt K mg "InvalidStock" C f) : FnOk P w K mg base CX0 (k + 1) f fd ["self", "at"] (spIAt K C) := by
  refine F.ok sc_InvalidStock_init (fun vs H Q E h => ?_) (fun cdv A outer s H vs Q E hr h => ?_)
  · obtain ⟨a, z, rfl, _⟩ := h
    rfl
  · obtain ⟨a, z, rfl, ha, q⟩ := h
    refine blk_cons (ps_ost (pv 0) (pv 1)) ?_
    refine blk_nil ?_
    exact ⟨_, rfl, _, rfl, a, C, rfl, T.ox, T.nA, .inl ⟨ha, fun dx h1 h2 => q dx h1 h2⟩⟩
def spCSF (K : PySem.W.Frag) (C CE : Addr) : Sp := fun vs H Q E => ∃ (p dx pk pt : Addr) (t : TD) (x : V) (r : Option (List Bool)), vs = [.ref p, x] ∧ TblAt K C H p dx pk pt t ∧ TOk t ∧ AnyV K false 401 H x r ∧
  (faultI (fun n => decide (n = t.kinds.length)) r = none → ∀ G, Same H G → Q .non G) ∧ (∀ i, faultI (fun n => decide (n = t.kinds.length)) r = some i → ∀ d G, H d = none → Same H G → G d = some (xdA i) → E (.ref CE) (some d) G)
theorem ok_cs {f C CE fF fE : Addr} {fd fdF fdE : FuncData} {k : Nat} (F : Fun K "check_stock" "check_stock" s_check_stock f fd) (FF : Fun K "stock_fault" "stock_fault" s_stock_fault fF fdF) (bF : Binds K fdF ["table", "value"] []) (gF : mg "stock_fault" = some (.ref fF)) (GF : FnOk P w K mg base CX0 (k + 1) fF fdF ["table", "value"] (spSF K C))
    (FE : Fun K "__init__" "InvalidStock.__init__" s_InvalidStock_init fE fdE) (TX : ATxt K mg "InvalidStock" CE fE) (bE : Binds K fdE ["self", "at"] []) (GE : FnOk P w K mg base CX0 k fE fdE ["self", "at"] (spIAt K CE)) : FnOk P w K mg base (L2.CX P w) (k + 1 + 1) f fd ["table", "value"] (spCSF K C CE) := by
  refine F.okX sc_check_stock (fun vs H Q E h => ?_) (fun cdv A outer s H vs Q E hr h => ?_)
  · obtain ⟨p, dx, pk, pt, t, x, r, rfl, _⟩ := h
    rfl
  · obtain ⟨p, dx, pk, pt, t, x, r, rfl, d, ok, hx, qT, qF⟩ := h
    refine blk_cons (ps_set (i := 2) sc_check_stock.nd rfl (.inl rfl) (pe_call GF hr (by rfl) gF FF.kp bF .nil pass0 (pa_cons (pv 0) (pa_cons (pv 1) pa_nil)))) ?_
    refine blk_cons (ps_if (pt_cmpR op_notN (pv 2) pe_non (nomark _)) (pss_one (ps_raise rfl (takes_of rfl rfl rfl rfl) (pmk_oex TX.ox TX.iC TX.tI GE hr bE .nil pass0 (by rfl) TX.gR (pa_cons (pv 2) pa_nil)))) pss_nil) ?_
    refine blk_nil ?_
    refine ⟨_, rfl, _, rfl, p, dx, pk, pt, t, x, r, rfl, d, ok, hx, fun G1 s1 => ?_⟩
    cases e : faultI (fun n => decide (n = t.kinds.length)) r with
    | none => exact ⟨_, rfl, rfl, _, rfl, iteF (qT e _ s1)⟩
    | some i => exact ⟨_, rfl, rfl, _, rfl, iteT (boomA_to rfl fun dd G n sm g => qF i e dd G (s1.free n) (s1.trans sm) g)⟩
theorem ok_iatb {f C : Addr} {fd : FuncData} {k : Nat} (F : Fun K "__init__" "InvalidBounds.__init__" s_InvalidBounds_init f fd) (T : ATxt K mg "InvalidBounds" C f) : FnOk P w K mg base CX0 (k + 1) f fd ["self", "at"] (spIAt K C) := by
  refine F.ok sc_InvalidBounds_init (fun vs H Q E h => ?_) (fun cdv A outer s H vs Q E hr h => ?_)
  · obtain ⟨a, z, rfl, _⟩ := h
    rfl
  · obtain ⟨a, z, rfl, ha, q⟩ := h
    refine blk_cons (ps_ost (pv 0) (pv 1)) ?_
    refine blk_nil ?_
    exact ⟨_, rfl, _, rfl, a, C, rfl, T.ox, T.nA, .inl ⟨ha, fun dx h1 h2 => q dx h1 h2⟩⟩
def spCBF (K : PySem.W.Frag) (C CE : Addr) : Sp := fun vs H Q E => ∃ (p dx pk pt : Addr) (t : TD) (x : V) (r : Option (List Bool)), vs = [.ref p, x] ∧ TblAt K C H p dx pk pt t ∧ TOk t ∧ AnyV K true 401 H x r ∧
  (faultI (fun n => decide (n = t.types.length)) r = none → ∀ G, Same H G → Q .non G) ∧ (∀ i, faultI (fun n => decide (n = t.types.length)) r = some i → ∀ d G, H d = none → Same H G → G d = some (xdA i) → E (.ref CE) (some d) G)
theorem ok_cb {f C CE fF fE : Addr} {fd fdF fdE : FuncData} {k : Nat} (F : Fun K "check_bounds" "check_bounds" s_check_bounds f fd) (FF : Fun K "bounds_fault" "bounds_fault" s_bounds_fault fF fdF) (bF : Binds K fdF ["table", "value"] []) (gF : mg "bounds_fault" = some (.ref fF)) (GF : FnOk P w K mg base CX0 (k + 1) fF fdF ["table", "value"] (spBF K C))
    (FE : Fun K "__init__" "InvalidBounds.__init__" s_InvalidBounds_init fE fdE) (TX : ATxt K mg "InvalidBounds" CE fE) (bE : Binds K fdE ["self", "at"] []) (GE : FnOk P w K mg base CX0 k fE fdE ["self", "at"] (spIAt K CE)) : FnOk P w K mg base (L2.CX P w) (k + 1 + 1) f fd ["table", "value"] (spCBF K C CE) := by
  refine F.okX sc_check_bounds (fun vs H Q E h => ?_) (fun cdv A outer s H vs Q E hr h => ?_)
  · obtain ⟨p, dx, pk, pt, t, x, r, rfl, _⟩ := h
    rfl
  · obtain ⟨p, dx, pk, pt, t, x, r, rfl, d, ok, hx, qT, qF⟩ := h
    refine blk_cons (ps_set (i := 2) sc_check_bounds.nd rfl (.inl rfl) (pe_call GF hr (by rfl) gF FF.kp bF .nil pass0 (pa_cons (pv 0) (pa_cons (pv 1) pa_nil)))) ?_
    refine blk_cons (ps_if (pt_cmpR op_notN (pv 2) pe_non (nomark _)) (pss_one (ps_raise rfl (takes_of rfl rfl rfl rfl) (pmk_oex TX.ox TX.iC TX.tI GE hr bE .nil pass0 (by rfl) TX.gR (pa_cons (pv 2) pa_nil)))) pss_nil) ?_
    refine blk_nil ?_
    refine ⟨_, rfl, _, rfl, p, dx, pk, pt, t, x, r, rfl, d, ok, hx, fun G1 s1 => ?_⟩
    cases e : faultI (fun n => decide (n = t.types.length)) r with
    | none => exact ⟨_, rfl, rfl, _, rfl, iteF (qT e _ s1)⟩
    | some i => exact ⟨_, rfl, rfl, _, rfl, iteT (boomA_to rfl fun dd G n sm g => qF i e dd G (s1.free n) (s1.trans sm) g)⟩
theorem ok_iatr {f C : Addr} {fd : FuncData} {k : Nat} (F : Fun K "__init__" "InvalidRow.__init__" s_InvalidRow_init f fd) (T : ATxt K mg "InvalidRow" C f) : FnOk P w K mg base CX0 (k + 1) f fd ["self", "at"] (spIAt K C) := by
  refine F.ok sc_InvalidRow_init (fun vs H Q E h => ?_) (fun cdv A outer s H vs Q E hr h => ?_)
  · obtain ⟨a, z, rfl, _⟩ := h
    rfl
  · obtain ⟨a, z, rfl, ha, q⟩ := h
    refine blk_cons (ps_ost (pv 0) (pv 1)) ?_
    refine blk_nil ?_
    exact ⟨_, rfl, _, rfl, a, C, rfl, T.ox, T.nA, .inl ⟨ha, fun dx h1 h2 => q dx h1 h2⟩⟩
def spCRF (K : PySem.W.Frag) (C CE : Addr) : Sp := fun vs H Q E => ∃ (p dx pk pt : Addr) (t : TD) (x : V) (r : Option (List Bool)), vs = [.ref p, x] ∧ TblAt K C H p dx pk pt t ∧ TOk t ∧ AnyV K false (t.types.length : Int) H x r ∧
  (faultI (fun n => decide (n ≤ 400)) r = none → ∀ G, Same H G → Q .non G) ∧ (∀ i, faultI (fun n => decide (n ≤ 400)) r = some i → ∀ d G, H d = none → Same H G → G d = some (xdA i) → E (.ref CE) (some d) G)
theorem ok_cr {f C CE fF fE : Addr} {fd fdF fdE : FuncData} {k : Nat} (F : Fun K "check_row" "check_row" s_check_row f fd) (FF : Fun K "row_fault" "row_fault" s_row_fault fF fdF) (bF : Binds K fdF ["table", "value"] []) (gF : mg "row_fault" = some (.ref fF)) (GF : FnOk P w K mg base CX0 (k + 1) fF fdF ["table", "value"] (spRF K C))
    (FE : Fun K "__init__" "InvalidRow.__init__" s_InvalidRow_init fE fdE) (TX : ATxt K mg "InvalidRow" CE fE) (bE : Binds K fdE ["self", "at"] []) (GE : FnOk P w K mg base CX0 k fE fdE ["self", "at"] (spIAt K CE)) : FnOk P w K mg base (L2.CX P w) (k + 1 + 1) f fd ["table", "value"] (spCRF K C CE) := by
  refine F.okX sc_check_row (fun vs H Q E h => ?_) (fun cdv A outer s H vs Q E hr h => ?_)
  · obtain ⟨p, dx, pk, pt, t, x, r, rfl, _⟩ := h
    rfl
  · obtain ⟨p, dx, pk, pt, t, x, r, rfl, d, ok, hx, qT, qF⟩ := h
    refine blk_cons (ps_set (i := 2) sc_check_row.nd rfl (.inl rfl) (pe_call GF hr (by rfl) gF FF.kp bF .nil pass0 (pa_cons (pv 0) (pa_cons (pv 1) pa_nil)))) ?_
    refine blk_cons (ps_if (pt_cmpR op_notN (pv 2) pe_non (nomark _)) (pss_one (ps_raise rfl (takes_of rfl rfl rfl rfl) (pmk_oex TX.ox TX.iC TX.tI GE hr bE .nil pass0 (by rfl) TX.gR (pa_cons (pv 2) pa_nil)))) pss_nil) ?_
    refine blk_nil ?_
    refine ⟨_, rfl, _, rfl, p, dx, pk, pt, t, x, r, rfl, d, ok, hx, fun G1 s1 => ?_⟩
    cases e : faultI (fun n => decide (n ≤ 400)) r with
    | none => exact ⟨_, rfl, rfl, _, rfl, iteF (qT e _ s1)⟩
    | some i => exact ⟨_, rfl, rfl, _, rfl, iteT (boomA_to rfl fun dd G n sm g => qF i e dd G (s1.free n) (s1.trans sm) g)⟩
end
end K3
namespace K3
open PySem PySem.Spec PyProof.Rows L2 Gd
section
variable {P : Program} {w : World} {K : PySem.W.Frag} {mg : Str → Option Value} {base : Heap}
/-! ### row_counts -/
def spRC (K : PySem.W.Frag) (C : Addr) : Sp := fun vs H Q _ => ∃ (p dx pk pt q : Addr) (t : TD) (l : List Nat), vs = [.ref p, .ref q] ∧ TblAt K C H p dx pk pt t ∧ TOk t ∧ SqT K H q (natsV l) ∧ (∀ a ∈ l, a < t.types.length) ∧ ∀ G r, Same H G → SqT K G r ((countsL t.types.length (l.map some)).map V.int) → Q (.ref r) G
theorem ok_rowc {f C fC : Addr} {fd fdC : FuncData} {k : Nat} (F : Fun K "row_counts" "row_counts" s_row_counts f fd) (T : TTxt K mg C) (FC : Fun K "counts_of" "counts_of" s_counts_of fC fdC) (bC : Binds K fdC ["items", "length"] []) (gC : mg "counts_of" = some (.ref fC)) (GC : FnOk P w K mg base CX0 k fC fdC ["items", "length"] (spCounts K)) (ml : mg "len" = none) :
    FnOk P w K mg base CX0 (k + 1) f fd ["table", "row"] (spRC K C) := by
  refine F.ok sc_row_counts (fun vs H Q E h => ?_) (fun cdv A outer s H vs Q E hr h => ?_)
  · obtain ⟨p, dx, pk, pt, q, t, l, rfl, _⟩ := h
    rfl
  · obtain ⟨p, dx, pk, pt, q0, t, l, rfl, d, ok, hq, hb, q⟩ := h
    refine blk_cons (ps_ret (pe_call GC hr (by rfl) gC FC.kp bC .nil pass0 (pa_cons (pv 1) (pa_cons (pe_callB call_len_seq (by rfl) ml PySem.boot_len (pa_cons (pe_fld (pv 0) rfl) pa_nil)) pa_nil)))) ?_
    refine blk_nil ?_
    obtain ⟨tus, htq, hda⟩ := types_sq d.td
    have lk : tus.length = t.types.length := by rw [dpAll_len hda, List.length_map]
    refine ⟨_, rfl, _, rfl, p, C, dx, _, _, rfl, d.obj, T.cl, T.nT, tf_t _ _, pt, _, rfl, .inr htq, q0, l.map some, t.types.length, by rw [lk]; rfl, ?_, fun a ha => ?_, by have := ok.t12; omega, q⟩
    · rw [List.map_map]
      exact hq
    · obtain ⟨b, hb2, e⟩ := List.mem_map.mp ha
      cases e
      exact hb a hb2
end
end K3
namespace K3
open PySem PySem.Spec PyProof.Rows L2 Gd
theorem inV_nats (a : Nat) (l : List Nat) : inV (.int (a : Int)) (natsV l) = decide (a ∈ l) := by
  induction l with
  | nil => rfl
  | cons b r ih =>
    have e : inV (.int (a : Int)) (natsV (b :: r)) = (eqV (.int (b : Int)) (.int (a : Int)) || inV (.int (a : Int)) (natsV r)) := rfl
    rw [e, ih]
    by_cases h : b = a
    · subst h
      rw [show eqV (.int (b : Int)) (.int (b : Int)) = true from beq_self_eq_true _, Bool.true_or]
      exact (decide_eq_true List.mem_cons_self).symm
    · rw [show eqV (.int (b : Int)) (.int (a : Int)) = false from beq_eq_false_iff_ne.mpr (by omega), Bool.false_or]
      exact decide_eq_decide.mpr ⟨fun z => List.mem_cons_of_mem _ z, fun z => (List.mem_cons.mp z).resolve_left fun e => h e.symm⟩
theorem flat_nats (l : List Nat) : (natsV l).all flatV = true := List.all_eq_true.mpr fun x hx => by
  obtain ⟨n, _, rfl⟩ := List.mem_map.mp hx
  rfl
theorem firstF_none : ∀ {bs : List Bool}, (∀ (m : Nat) (b : Bool), bs[m]? = some b → b = true) → firstF bs = none
  | [], _ => rfl
  | b :: r, h => by
    obtain rfl : b = true := h 0 b rfl
    rw [firstF, firstF_none fun m b e => h (m + 1) b (by simpa using e)]
    rfl
theorem firstF_eq : ∀ {bs : List Bool} {j : Nat}, bs[j]? = some false → (∀ (m : Nat) (b : Bool), m < j → bs[m]? = some b → b = true) → firstF bs = some j
  | [], _, h, _ => by simp at h
  | b :: r, 0, h, _ => by
    obtain rfl : b = false := by simpa using h
    rfl
  | b :: r, j + 1, h, g => by
    obtain rfl : b = true := g 0 b (Nat.succ_pos _) rfl
    rw [firstF, firstF_eq (bs := r) (j := j) (by simpa using h) fun m b hm e => g (m + 1) b (by omega) (by simpa using e)]
    rfl
section
variable {P : Program} {w : World} {K : PySem.W.Frag} {mg : Str → Option Value} {base : Heap}
/-! ### _law_is_number -/
def spLNum (K : PySem.W.Frag) : Sp := fun vs H Q _ => ∃ (x : V) (m : Int) (b : Bool), vs = [x, .int m] ∧ NumV K H (m + 1) x b ∧ Q (.bl b) H
theorem ok_lnum {f : Addr} {fd : FuncData} {k : Nat} (F : Fun K "_law_is_number" "_law_is_number" s__law_is_number f fd) (mI : mg "isinstance" = none) (mi : mg "int" = none) (mb : mg "bool" = none) : FnOk P w K mg base CX0 (k + 1) f fd ["value", "most"] (spLNum K) := by
  refine F.ok sc__law_is_number (fun vs H Q E h => ?_) (fun cdv A outer s H vs Q E hr h => ?_)
  · obtain ⟨x, m, b, rfl, _⟩ := h
    rfl
  · obtain ⟨x, m, b, rfl, hx, q⟩ := h
    refine blk_cons (ps_ret (pe_and (pe_callB call_isi (by rfl) mI (by decide +kernel) (pa_cons (pv 0) (pa_cons (pe_bltn (v := .ty "int") (by rfl) mi (by decide +kernel) rfl) pa_nil)))
      (pe_and (pe_not (pe_callB call_isi (by rfl) mI (by decide +kernel) (pa_cons (pv 0) (pa_cons (pe_bltn (v := .ty "bool") (by rfl) mb (by decide +kernel) rfl) pa_nil)))) (pe_one (pe_chain op_le op_le pe_int (pv 0) (pv 1)))))) ?_
    refine blk_nil ?_
    rcases hx with ⟨i, rfl, rfl⟩ | ⟨y, rfl, rfl⟩ | ⟨n, t, kk, rfl⟩
    · refine ⟨_, rfl, _, _, _, _, true, rfl, .ty "int", TyN.int i, kit_ty (by decide +kernel), _, rfl, iteT ?_⟩
      refine ⟨_, rfl, _, _, _, _, false, rfl, .ty "bool", TyN.int i, kit_ty (by decide +kernel), _, rfl, _, rfl, iteT ?_⟩
      refine ⟨_, rfl, _, _, rfl, rfl, _, rfl, ?_⟩
      by_cases h0 : 0 ≤ i
      · rw [decide_eq_true h0]
        refine iteT ⟨_, rfl, _, _, rfl, rfl, ?_⟩
        dsimp only
        rw [show decide (i ≤ m) = decide (0 ≤ i ∧ i < m + 1) from decide_eq_decide.mpr ⟨fun z => ⟨h0, by omega⟩, fun z => by omega⟩]
        exact q
      · rw [decide_eq_false h0]
        refine iteF ?_
        rw [decide_eq_false fun z => h0 z.1] at q
        exact q
    · refine ⟨_, rfl, _, _, _, _, true, rfl, .ty "int", TyN.bl y, kit_ty (by decide +kernel), _, rfl, iteT ?_⟩
      exact ⟨_, rfl, _, _, _, _, true, rfl, .ty "bool", TyN.bl y, kit_ty (by decide +kernel), _, rfl, _, rfl, iteF q⟩
    · exact ⟨_, rfl, _, _, _, _, false, rfl, .ty "int", t, kit_ty kk, _, rfl, iteF q⟩
/-! ### _law_fault -/
def spLF (K : PySem.W.Frag) : Sp := fun vs H Q _ => ∃ (x : V) (sq : Addr) (ss : List Nat) (m : Int) (nn : Bool) (r : Option (List Bool)), vs = [x, .ref sq, .int m, .bl nn] ∧ SqL K H sq (natsV ss) ∧ AnyV K nn (m + 1) H x r ∧ Q (itV (faultI (fun n => decide (n ∈ ss)) r)) H
theorem ok_lf {f fN : Addr} {fd fdN : FuncData} {k : Nat} (F : Fun K "_law_fault" "_law_fault" s__law_fault f fd) (FN : Fun K "_law_is_number" "_law_is_number" s__law_is_number fN fdN) (bN : Binds K fdN ["value", "most"] []) (gN : mg "_law_is_number" = some (.ref fN)) (GN : FnOk P w K mg base CX0 k fN fdN ["value", "most"] (spLNum K))
    (mI : mg "isinstance" = none) (mt : mg "tuple" = none) (ml : mg "len" = none) (mr : mg "range" = none) : FnOk P w K mg base CX0 (k + 1) f fd ["value", "sizes", "most", "none"] (spLF K) := by
  refine F.ok sc__law_fault (fun vs H Q E h => ?_) (fun cdv A outer s H vs Q E hr h => ?_)
  · obtain ⟨x, sq, ss, m, nn, r, rfl, _⟩ := h
    rfl
  · obtain ⟨x, sq, ss, m, nn, r, rfl, hs, hx, q⟩ := h
    refine blk_cons (ps_if (PW.pt (pw_or (pt_not (pt_val (pe_callB call_isi (by rfl) mI (by decide +kernel) (pa_cons (pv 0) (pa_cons (pe_bltn (v := .ty "tuple") (by rfl) mt (by decide +kernel) rfl) pa_nil))))) (pw_or1 (pt_cmpR (r := rIn K true) op_notIn_seq (pe_callB call_len_seq (by rfl) ml PySem.boot_len (pa_cons (pv 0) pa_nil)) (pv 1) (by rfl))))) (pss_one (ps_ret (pe_op op_sub pe_int pe_int))) pss_nil) ?_
    refine blk_cons (ps_for PassesOwn.never rfl (pi_range1 (by rfl) mr (pa_cons (pe_callB call_len_seq (by rfl) ml PySem.boot_len (pa_cons (pv 0) pa_nil)) pa_nil)) (pg_name (i := 4) sc__law_fault.nd rfl (.inl rfl))
      (pss_one (ps_if (PW.pt (pw_and (pt_not (pt_val (pe_call GN hr (by rfl) gN FN.kp bN .nil pass0 (pa_cons (pe_ix (r := rIxT K) ix_tup (pv 0) (pv 4) (fun _ _ => rfl)) (pa_cons (pv 2) pa_nil))))) (pw_and1 (pt_not (PW.pt (pw_and (pt_val (pv 3)) (pw_and1 (pt_cmpR op_isN (pe_ix (r := rIxT K) ix_tup (pv 0) (pv 4) (fun _ _ => rfl)) pe_non (nomark _))))))))) (pss_one (ps_ret (pv 4))) pss_nil))) ?_
    refine blk_cons (ps_ret pe_non) ?_
    refine blk_nil ?_
    cases hx with
    | @no _ mm ty kk => exact ⟨_, rfl, _, _, _, _, false, rfl, .ty "tuple", ty, kit_ty kk, _, rfl, iteT (iteT ⟨_, _, rfl, rfl, q⟩)⟩
    | @tup pq xs bs ht hl hp =>
      have hbl : bs.length = xs.length := (Paired.length hp).symm
      refine ⟨_, rfl, _, _, _, _, true, rfl, .ty "tuple", tyTup ht, kit_ty (by decide +kernel), _, rfl, iteF ?_⟩
      refine ⟨_, rfl, pq, xs, rfl, .inr ht, _, rfl, sq, _, rfl, .inl hs, rfl, flat_nats ss, _, rfl, ?_⟩
      rw [if_pos rfl, inV_nats]
      by_cases hn : xs.length ∈ ss
      · rw [decide_eq_true hn]
        refine iteF ?_
        rw [faultI_t (decide_eq_true (hbl ▸ hn))] at q
        refine ⟨_, rfl, pq, xs, rfl, .inr ht, _, rfl, by omega, by omega, for_range (lo := 0) (fun i σ G => ∃ y4 : Option V, σ = [some (.ref pq), some (.ref sq), some (.int m), some (.bl nn), y4] ∧ G = H ∧ ∀ j b, j < i → bs[j]? = some b → b = true) ⟨_, rfl, rfl, fun j b hj => absurd hj (Nat.not_lt_zero _)⟩ (fun i σ G hi hP => ?_) (fun σ G hP => ?_)⟩
        · obtain ⟨y4, rfl, rfl, hall⟩ := hP
          have hix : i < xs.length := by omega
          have hy : xs[i]? = some xs[i] := List.getElem?_eq_getElem hix
          obtain ⟨b0, hb0, hnum⟩ := paired_at hp hy
          generalize xs[i] = y at hy hnum
          dsimp only [gName]
          have ez : (0 + (i : Int)) = (i : Int) := by omega
          have hat : atI xs (0 + (i : Int)) = some y := by rw [ez]; exact atI_nat hy
          have next : b0 = true → ∃ y4 : Option V, [some (V.ref pq), some (.ref sq), some (.int m), some (.bl nn), some (.int (0 + (i : Int)))] = [some (.ref pq), some (.ref sq), some (.int m), some (.bl nn), y4] ∧ G = G ∧ ∀ j b, j < i + 1 → bs[j]? = some b → b = true := fun e => ⟨_, rfl, rfl, fun j b hj hb => by
            by_cases z : j = i
            · rw [z, hb0] at hb
              exact (Option.some.inj hb).symm.trans e
            · exact hall j b (by omega) hb⟩
          rcases hnum with ⟨hnum', hnon⟩ | ⟨e1, e2, e3⟩
          · refine ⟨_, rfl, _, rfl, pq, xs, _, y, rfl, rfl, ht, hat, _, rfl, y, m, b0, rfl, hnum', _, rfl, ?_⟩
            cases b0 with
            | true => exact iteF (iteF (next rfl))
            | false =>
              rw [firstF_eq hb0 hall] at q
              refine iteT ?_
              have back : itV (Option.map (fun n : Nat => (n : Int)) (some i)) = .int (0 + (i : Int)) := by rw [ez]; rfl
              rw [back] at q
              cases nn with
              | false => exact ⟨_, rfl, _, rfl, iteF (iteT ⟨_, rfl, q⟩)⟩
              | true =>
                refine ⟨_, rfl, _, rfl, iteT ⟨_, rfl, _, rfl, pq, xs, _, y, rfl, rfl, ht, hat, rfl, _, rfl, ?_⟩⟩
                rw [decide_eq_false (hnon rfl)]
                exact iteT ⟨_, rfl, q⟩
          · subst e1
            subst e2
            refine ⟨_, rfl, _, rfl, pq, xs, _, .non, rfl, rfl, ht, hat, _, rfl, .non, m, false, rfl, .inr (.inr ⟨_, .non, by decide +kernel, rfl⟩), _, rfl, iteT ?_⟩
            refine ⟨_, rfl, _, rfl, iteT ⟨_, rfl, _, rfl, pq, xs, _, .non, rfl, rfl, ht, hat, rfl, _, rfl, ?_⟩⟩
            rw [decide_eq_true rfl]
            exact iteF (next e3)
        · obtain ⟨y4, rfl, rfl, hall⟩ := hP
          rw [firstF_none fun j b hb => hall j b (by have := (List.getElem?_eq_some_iff.mp hb).1; omega) hb] at q
          exact q
      · rw [decide_eq_false hn]
        refine iteT ⟨_, _, rfl, rfl, ?_⟩
        rw [faultI_f (decide_eq_false (hbl ▸ hn))] at q
        exact q
end
end K3
namespace K3
open PySem PySem.Spec PyProof.Rows L2 Gd
/-- what is told of the errors that are heard -/
structure HTxt (K : PySem.W.Frag) (mg : Str → Option Value) (CS CB CW CF CD CT : Addr) : Prop where
  gS : mg "InvalidStock" = some (.ref CS)
  gB : mg "InvalidBounds" = some (.ref CB)
  gW : mg "InvalidRow" = some (.ref CW)
  gF : mg "Refused" = some (.ref CF)
  gD : mg "DeskError" = some (.ref CD)
  gT : mg "InvalidTable" = some (.ref CT)
  nS : PySem.W.findIn K (.ref CS) "at" = some none
  nB : PySem.W.findIn K (.ref CB) "at" = some none
  nW : PySem.W.findIn K (.ref CW) "at" = some none
  nF : PySem.W.findIn K (.ref CF) "word" = some none
  ss : PySem.W.exmOne K (.ref CS) (.ref CS) = some true
  bs : PySem.W.exmOne K (.ref CB) (.ref CS) = some false
  bb : PySem.W.exmOne K (.ref CB) (.ref CB) = some true
  ws : PySem.W.exmOne K (.ref CW) (.ref CS) = some false
  wb : PySem.W.exmOne K (.ref CW) (.ref CB) = some false
  ww : PySem.W.exmOne K (.ref CW) (.ref CW) = some true
  fs : PySem.W.exmOne K (.ref CF) (.ref CS) = some false
  fb : PySem.W.exmOne K (.ref CF) (.ref CB) = some false
  fw : PySem.W.exmOne K (.ref CF) (.ref CW) = some false
  ff : PySem.W.exmOne K (.ref CF) (.ref CF) = some true
  isD : PySem.W.kitOne K (.ref CW) (.ref CD) = some true
  isT : PySem.W.kitOne K (.ref CW) (.ref CT) = some false
  eW : ExcC K CW
  xS : XfC K CS
  xB : XfC K CB
  xW : XfC K CW
  xF : XfC K CF
/-- what is heard of an error -/
def RHd (K : PySem.W.Frag) (CS CB CW CF : Addr) : Value → Option Addr → Hp → VK → Prop := fun cls d H Q => ∃ dd, d = some dd ∧
  ((∃ (i : Int) (C : Addr) (z : Str), H dd = some (xdA i) ∧ cls = .ref C ∧ (C = CS ∧ z = "stock" ∨ C = CB ∧ z = "bounds" ∨ C = CW ∧ z = "row") ∧ ∀ G r, Same H G → SqT K G r [.str z, .int i] → Q (.ref r) G) ∨
   (∃ z : Str, H dd = some (xdS z) ∧ cls = .ref CF ∧ Q (.str z) H))
theorem xdA_at (i : Int) : ([(("at" : Str), V.int i)] : List (Str × V)).lookup ("at" : Str) = some (.int i) := rfl
theorem xdS_at (z : Str) : ([(("word" : Str), V.str z)] : List (Str × V)).lookup ("word" : Str) = some (.str z) := rfl
abbrev rIsE (K : PySem.W.Frag) (a : Addr) (cls : Value) (d : Option Addr) (D : Addr) : List V → Hp → VK → Prop := fun xs H Q => cls = .ref D ∧ ∃ (c : V) (u : Value) (b : Bool), xs = [.ref a, c] ∧ ClsV c u ∧ PySem.W.kitOne K (.ref D) u = some b ∧ (d = none ∨ ∃ dd fs, d = some dd ∧ H dd = some (.xd fs) ∧ fs.lookup ("__class__" : Str) = none) ∧ Q (.bl b) H
abbrev tPl (a : Addr) (cls : Value) (d : Option Addr) (C : Addr) (z : Str) : TE := tTup (tCons (tC (.str z)) (tCons (tXf a cls d C "at" (tVar 1)) tNil))
abbrev tIsE (K : PySem.W.Frag) (a : Addr) (cls : Value) (d : Option Addr) (D E : Addr) : TT := tB (tCB (rIsE K a cls d D) (tCons (tVar 1) (tCons (tC (.ref E)) tNil)))
abbrev clsH (K : PySem.W.Frag) (CS CB CW CF CD CT : Addr) : List Clause := [(.ref CS, 1, fun a cls d => tRet (tPl a cls d CS "stock")), (.ref CB, 1, fun a cls d => tRet (tPl a cls d CB "bounds")),
  (.ref CW, 1, fun a cls d => tRet (tIf (tAnd (tIsE K a cls d CW CD) (tNot (tIsE K a cls d CW CT))) (tPl a cls d CW "row") (tC (.str "mixed")))), (.ref CF, 1, fun a cls d => tRet (tXf a cls d CF "word" (tVar 1)))]
abbrev hcx (X : Cx) (fH : Addr) (cdv : Value) (s : Shared) (H : Hp) : Cx := (cxOf C8.CX0 X.prog X.w X.K X.mg X.base n__law_heard "_law_heard" (defScope s__law_heard) fH cdv X.A X.stack s H C8.E0).nox
section
variable {X : Cx} {CS CB CW CF CD CT fH : Addr} {cdv : Value} {q : Str}
theorem gives_heard (T : HTxt X.K X.mg CS CB CW CF CD CT) (mI : X.mg "isinstance" = none) :
    LamX.GivesTo X n__law_heard "_law_heard" (defScope s__law_heard) fH cdv (defBody s__law_heard) "action" q (TTs (RHd X.K CS CB CW CF) .non) := by
  refine heards_gives (l := clsH X.K CS CB CW CF CD CT) sc__law_heard.nd (fun s H => ?a) (fun Y => pe_non) (fun f => rfl) (fun D σ cls d H hl hr => ?b)
  case a =>
    exact ClsOk.cons (X := hcx X fH cdv s H) (i := 1) (x := "InvalidStock") (n := "error") ⟨rfl, by decide, .inl T.gS⟩ rfl rfl (fun a o cls d pn hz hf => pss_one (ps_ret (pe_tup (pa_cons pe_str (pa_cons (pe_xf (X := hcx X fH cdv s H) T.xS T.nS hz hf (pv 1)) pa_nil)))))
      (ClsOk.cons (X := hcx X fH cdv s H) (i := 1) (x := "InvalidBounds") (n := "error") ⟨rfl, by decide, .inl T.gB⟩ rfl rfl (fun a o cls d pn hz hf => pss_one (ps_ret (pe_tup (pa_cons pe_str (pa_cons (pe_xf (X := hcx X fH cdv s H) T.xB T.nB hz hf (pv 1)) pa_nil)))))
      (ClsOk.cons (X := hcx X fH cdv s H) (i := 1) (x := "InvalidRow") (n := "error") ⟨rfl, by decide, .inl T.gW⟩ rfl rfl (fun a o cls d pn hz hf => pss_one (ps_ret (pe_ifExp (PW.pt (pw_and (pt_val (pe_callB (call_isE3 (X := hcx X fH cdv s H) T.eW hz hf) (by rfl) mI (by decide +kernel) (pa_cons (pv 1) (pa_cons (pe_glob (v := .ref CD) (by rfl) T.gD rfl) pa_nil))))
      (pw_and1 (pt_not (pt_val (pe_callB (call_isE3 (X := hcx X fH cdv s H) T.eW hz hf) (by rfl) mI (by decide +kernel) (pa_cons (pv 1) (pa_cons (pe_glob (v := .ref CT) (by rfl) T.gT rfl) pa_nil)))))))) (pe_tup (pa_cons pe_str (pa_cons (pe_xf (X := hcx X fH cdv s H) T.xW T.nW hz hf (pv 1)) pa_nil))) pe_str)))
      (ClsOk.cons (X := hcx X fH cdv s H) (i := 1) (x := "Refused") (n := "error") ⟨rfl, by decide, .inl T.gF⟩ rfl rfl (fun a o cls d pn hz hf => pss_one (ps_ret (pe_xf (X := hcx X fH cdv s H) T.xF T.nF hz hf (pv 1))))
      .nil)))
  case b =>
    have sl : ∀ a : Addr, (σ.set 1 (some (V.ref a)))[1]? = some (some (.ref a)) := fun a => List.getElem?_set_self (by rw [hl]; decide)
    obtain ⟨dd, rfl, ⟨i, C, z, hx, rfl, hC, qq⟩ | ⟨z, hx, rfl, qq⟩⟩ := hr
    · rcases hC with ⟨rfl, rfl⟩ | ⟨rfl, rfl⟩ | ⟨rfl, rfl⟩
      · exact wAll_hit T.ss fun a _ => ⟨_, sl a, rfl, rfl, dd, _, _, rfl, hx, xdA_at i, (by show 2 ≤ sizeLine; decide), fun r n => qq _ r (same_new n) (sqT upd_same)⟩
      · exact wAll_miss T.bs (wAll_hit T.bb fun a _ => ⟨_, sl a, rfl, rfl, dd, _, _, rfl, hx, xdA_at i, (by show 2 ≤ sizeLine; decide), fun r n => qq _ r (same_new n) (sqT upd_same)⟩)
      · refine wAll_miss T.ws (wAll_miss T.wb (wAll_hit T.ww fun a _ => ?_))
        refine ⟨_, sl a, rfl, .ref CD, .ref CD, true, rfl, .own _, T.isD, .inr ⟨dd, _, rfl, hx, rfl⟩, _, rfl, iteT ?_⟩
        refine ⟨_, sl a, rfl, .ref CT, .ref CT, false, rfl, .own _, T.isT, .inr ⟨dd, _, rfl, hx, rfl⟩, _, rfl, iteT ?_⟩
        exact ⟨_, sl a, rfl, rfl, dd, _, _, rfl, hx, xdA_at i, (by show 2 ≤ sizeLine; decide), fun r n => qq _ r (same_new n) (sqT upd_same)⟩
    · exact wAll_miss T.fs (wAll_miss T.fb (wAll_miss T.fw (wAll_hit T.ff fun a _ => ⟨_, sl a, rfl, rfl, dd, _, _, rfl, hx, xdS_at z, qq⟩)))
end
end K3
/-! Values told by a property that new objects leave as it is; n copies of a text. -/
namespace Gd
open PySem PySem.Spec PyProof.Rows L2
/-- an expression's value has R, and nothing but new objects came -/
def Gp (σ : L2.St) (H : Hp) (t : TE) (R : Hp → V → Prop) : Prop := ∀ Q : VK, (∀ v G, Same H G → R G v → Q v G) → t σ H Q
def GpA (σ : L2.St) (H : Hp) (t : TA) (R : Hp → V → Prop) (n : Nat) : Prop := ∀ Q : List V → Hp → Prop, (∀ vs G, Same H G → vs.length = n → (∀ v ∈ vs, R G v) → Q vs G) → t σ H Q
theorem asg_go {te : TE} {g : TG} {u : TS} {D : Ends} {σ : L2.St} {H : Hp} (h : te σ H fun x H1 => g x σ H1 fun σ' G' => u D σ' G') : tSeq (tAsg te g) u D σ H := h
theorem ifS_go {c : TT} {t u : TS} {D : Ends} {σ : L2.St} {H : Hp} (h : c σ H fun b H1 => if b = true then t D σ H1 else u D σ H1) : tIfS c t u D σ H := h
theorem seq_go {t u : TS} {D : Ends} {σ : L2.St} {H : Hp} (h : t { D with nx := fun σ' G' => u D σ' G' } σ H) : tSeq t u D σ H := h
theorem ret_go {te : TE} {u : TS} {D : Ends} {σ : L2.St} {H : Hp} (h : te σ H D.rt) : tSeq (tRet te) u D σ H := h
/-- repr(a) == repr(b) and c == d, all as is due -/
theorem re_eq_and {K : PySem.W.Frag} {σ : L2.St} {H : Hp} {t1 t2 t3 t4 : TE} {ds : List PyData} (nl : noList (.tuple ds) = true) (hd : Fd (.tuple ds)) (h1 : Gv K σ H t1 (.tuple ds)) (h2 : ∀ G, Same H G → Gv K σ G t2 (.tuple ds)) (h3 : ∀ G, Same H G → Gv K σ G t3 (.tuple ds)) (h4 : ∀ G, Same H G → Gv K σ G t4 (.tuple ds))
    {Q : VK} (hQ : ∀ G, Same H G → Q (.bl true) G) : tAndV (tOp rEq (tRe K t1) (tRe K t2)) (tOp (rEqD K) t3 t4) σ H Q := by
  refine re_gv hd h1 _ fun G1 s1 => re_gv hd (h2 G1 s1) _ fun G2 s2 => ⟨rfl, _, rfl, ?_⟩
  rw [decide_eq_true rfl]
  have s12 := s1.trans s2
  refine iteT (h3 G2 s12 _ fun v3 G3 s3 d3 => h4 G3 (s12.trans s3) _ fun v4 G4 s4 d4 => ⟨_, _, dp_same s4 _ _ d3, d4, hd.sh, hd.sh, ?_⟩)
  rw [fine_eqv hd.f]
  exact hQ _ ((s12.trans s3).trans s4)
theorem cons_go {te : TE} {ta : TA} {σ : L2.St} {H : Hp} {Q : List V → Hp → Prop} (h : te σ H fun x H1 => ta σ H1 fun xs H2 => Q (x :: xs) H2) : tCons te ta σ H Q := h
theorem lst_go {ta : TA} {σ : L2.St} {H : Hp} {Q : VK} (h : ta σ H fun xs H1 => xs.length ≤ sizeLine ∧ ∀ p, H1 p = none → Q (.ref p) (upd H1 p (.lst xs))) : tLst ta σ H Q := h
theorem cb_go {r : List V → Hp → VK → Prop} {ta : TA} {σ : L2.St} {H : Hp} {Q : VK} (h : ta σ H fun xs H1 => r xs H1 Q) : tCB r ta σ H Q := h
theorem op_go {r : R2} {ta tb : TE} {σ : L2.St} {H : Hp} {Q : VK} (h : ta σ H fun x H1 => tb σ H1 fun y H2 => r x y H2 Q) : tOp r ta tb σ H Q := h
theorem test_go {te : TE} {σ : L2.St} {H : Hp} {Q : Bool → Hp → Prop} (h : te σ H fun x H1 => ∃ k, x = .bl k ∧ Q k H1) : tTest te σ H Q := h
theorem gv_lst {K : PySem.W.Frag} {σ : L2.St} {H : Hp} {ta : TA} {ds : List PyData} (h : GvA K σ H ta ds) (l : Nat.ble ds.length 1000 = true := by rfl) : Gv K σ H (tLst ta) (.list ds) := fun Q q => h _ fun vs G s d => ⟨by
  have e := dpAll_len d
  have := Nat.le_of_ble_eq_true l
  have : (1000 : Nat) ≤ sizeLine := by decide
  omega, fun p n => q _ _ (s.trans (same_new n)) (.lst (sqL upd_same) (dpAll_same (same_new n) _ _ d))⟩
theorem neD_no {K : PySem.W.Frag} {σ : L2.St} {H : Hp} {t1 t2 : TE} {d : PyData} (sh : SeqAt.shaped d = true) (f : fine d = true) (h1 : Gv K σ H t1 d) (h2 : ∀ G, Same H G → Gv K σ G t2 d) {B : Bool → Hp → Prop} (hB : ∀ G, Same H G → B false G) : tTest (tOp (rNeD K) t1 t2) σ H B := by
  refine h1 _ fun v1 G1 s1 d1 => h2 G1 s1 _ fun v2 G2 s2 d2 => ⟨d, d, dp_same s2 _ _ d1, d2, sh, sh, _, rfl, ?_⟩
  rw [fine_eqv f]
  exact hB _ (s1.trans s2)
theorem eqD_yes {K : PySem.W.Frag} {σ : L2.St} {H : Hp} {t1 t2 : TE} {d : PyData} (sh : SeqAt.shaped d = true) (f : fine d = true) (h1 : Gv K σ H t1 d) (h2 : ∀ G, Same H G → Gv K σ G t2 d) {Q : VK} (hQ : ∀ G, Same H G → Q (.bl true) G) : tOp (rEqD K) t1 t2 σ H Q := by
  refine h1 _ fun v1 G1 s1 d1 => h2 G1 s1 _ fun v2 G2 s2 d2 => ⟨d, d, dp_same s2 _ _ d1, d2, sh, sh, ?_⟩
  rw [fine_eqv f]
  exact hQ _ (s1.trans s2)
theorem and_go {ta tb : TE} {σ : L2.St} {H : Hp} {Q : VK} (h : ta σ H fun x H1 => ∃ c, x = .bl c ∧ if c = true then tb σ H1 Q else Q (.bl false) H1) : tAndV ta tb σ H Q := h
theorem or_go {t u : TT} {σ : L2.St} {H : Hp} {Q : Bool → Hp → Prop} (h : t σ H fun b H1 => if b = true then Q true H1 else u σ H1 Q) : tOr t u σ H Q := h
def Stb (R : Hp → V → Prop) : Prop := ∀ G G' v, Same G G' → R G v → R G' v
theorem gpA_nil {σ : L2.St} {H : Hp} {R : Hp → V → Prop} : GpA σ H tNil R 0 := fun Q q => q _ _ (Same.refl _) rfl fun v m => nomatch m
theorem gpA_cons {σ : L2.St} {H : Hp} {R : Hp → V → Prop} {t : TE} {ta : TA} {n : Nat} (S : Stb R) (h1 : Gp σ H t R) (h2 : ∀ G, Same H G → GpA σ G ta R n) : GpA σ H (tCons t ta) R (n + 1) := fun Q q => by
  refine h1 _ fun v G s r => ?_
  refine h2 G s _ fun vs G2 s2 l r2 => q _ _ (s.trans s2) (by rw [List.length_cons, l]) fun x m => ?_
  rcases List.mem_cons.mp m with e | m
  · rw [e]
    exact S _ _ _ s2 r
  · exact r2 x m
theorem gp_c {σ : L2.St} {H : Hp} {R : Hp → V → Prop} {v : V} (r : R H v) : Gp σ H (tC v) R := fun Q q => q _ _ (Same.refl _) r
theorem gp_v {σ : L2.St} {H : Hp} {R : Hp → V → Prop} {i : Nat} {v : V} (e : σ[i]? = some (some v)) (r : R H v) : Gp σ H (tVar i) R := fun Q q => ⟨v, e, q _ _ (Same.refl _) r⟩
/-- a display of n such values -/
theorem gp_lst {σ : L2.St} {H : Hp} {R : Hp → V → Prop} {ta : TA} {n : Nat} (hn : n ≤ 1000) (h : GpA σ H ta R n) (S : Stb R) {Q : VK} (q : ∀ p vs G, Same H G → G p = some (.lst vs) → H p = none → vs.length = n → (∀ v ∈ vs, R G v) → Q (.ref p) G) : tLst ta σ H Q := by
  refine h _ fun vs G s l r => ⟨?_, fun p np => ?_⟩
  · have : (1000 : Nat) ≤ sizeLine := by decide
    omega
  · exact q p vs _ (s.trans (same_new np)) upd_same (s.free np) l fun v m => S _ _ _ (same_new np) (r v m)
section
variable {X : Cx}
/-- a text of one sign, n times -/
theorem op_mulS : OpR X (binaryOp .Mult) (fun x y H Q => ∃ (z : Str) (n : Nat), x = .str z ∧ y = .int (n : Int) ∧ z.length = 1 ∧ n ≤ 1000 ∧ ∀ z', Q (.str z') H) := by
  intro pins s σ H x y v u Q I rx ry h
  obtain ⟨z, n, rfl, rfl, l, hn, q⟩ := h
  obtain ⟨t, rfl⟩ := rx
  obtain ⟨t2, rfl⟩ := ry
  refine SB.mul ⟨?_, fun _ _ => ?_, fun _ _ => ?_⟩ fun t' k => ⟨.str _, H, I.tok _, ⟨_, rfl⟩, q _⟩
  · rw [decide_eq_false (by omega), decide_eq_false (by omega)]
    rfl
  · rw [l]
    rename_i h1 _
    have : (1 : Int) ≤ (2 ^ 63 - 1) / (n : Int) := (Int.le_ediv_iff_mul_le (by omega)).mpr (by omega)
    show ¬ ((1 : Nat) : Int) > _
    omega
  · rw [l]
    have : (1000 : Nat) ≤ sizeLine := by decide
    exact decide_eq_false (by omega)
end
end Gd
namespace K3
open PySem PySem.Spec PyProof.Rows L2 Gd
/-! ### values of all sorts -/
/-- an item of such a tuple -/
def ItK (K : PySem.W.Frag) (S : List Addr) (H : Hp) (x : V) : Prop := (∃ i, x = .int i) ∨ (∃ b, x = .bl b) ∨ x = .non ∨ (∃ n, TyN K H x n ∧ kitB n "int" = some false ∧ x ≠ .non ∧ ∀ a ∈ S, x ≠ .ref a) ∨ (∃ p ys, x = .ref p ∧ SqT K H p ys)
inductive OddV (K : PySem.W.Frag) (S : List Addr) (H : Hp) : V → Prop
  | no {x : V} {m : String} : TyN K H x m → kitB m "tuple" = some false → (∀ a ∈ S, x ≠ .ref a) → OddV K S H x
  | tup {p : Addr} {xs : List V} : SqT K H p xs → xs.length ≤ 1000 → (∀ x ∈ xs, ItK K S H x) → OddV K S H (.ref p)
/-- all stands but lists in S and tables -/
def Fr (S : List Addr) (H G : Hp) : Prop := ∀ b o, b ∉ S → H b = some o → (∀ ps, o ≠ .tbl ps) → G b = some o
theorem Fr.same {S : List Addr} {H G : Hp} (e : Same H G) : Fr S H G := fun b o _ h _ => e b o h
theorem Fr.but {h l : Addr} {H G : Hp} (e : But h l H G) : Fr [h, l] H G := fun b o n z _ => e b o (fun q => n (by simp [q])) (fun q => n (by simp [q])) z
theorem Fr.trans {S : List Addr} {H G J : Hp} (a : Fr S H G) (b : Fr S G J) : Fr S H J := fun c o n h t => b c o n (a c o n h t) t
theorem Fr.ext {S : List Addr} {H G : Hp} (e : LamX.ExtN H G) : Fr S H G := fun b o _ h t => e b o h t
theorem Fr.mono {S T : List Addr} {H G : Hp} (a : Fr S H G) (h : ∀ x ∈ S, x ∈ T) : Fr T H G := fun b o n => a b o fun z => n (h b z)
theorem tyX_fr {K : PySem.W.Frag} {S : List Addr} {H G : Hp} (e : Fr S H G) {x : V} {t : Value} (n : ∀ a ∈ S, x ≠ .ref a) (h : TyX K H x t) : TyX K G x t := by
  have st : ∀ {a o}, x = .ref a → H a = some o → (∀ ps, o ≠ .tbl ps) → G a = some o := fun {a o} ex ha ht => e a o (fun m => n a m ex) ha ht
  cases h with
  | base b =>
    cases b with
    | non => exact .base .non
    | bl y => exact .base (.bl y)
    | int i => exact .base (.int i)
    | str y => exact .base (.str y)
    | flt y => exact .base (.flt y)
    | lst q => exact .base (.lst (st rfl q fun _ z => by cases z))
    | frz q => exact .base (.frz (st rfl q fun _ z => by cases z))
    | tup q => exact .base (.tup (st rfl q fun _ z => by cases z))
    | dK q => exact .base (.dK (st rfl q fun _ z => by cases z))
    | dT q => exact .base (.dT (st rfl q fun _ z => by cases z))
    | ins q a b c d m => exact .base (.ins (st rfl q fun _ z => by cases z) a b c d m)
  | byt b => exact .byt b
  | set q => exact .set (st rfl q fun _ z => by cases z)
  | kList q c => exact .kList q c
  | kTuple q c => exact .kTuple q c
  | kDict q c => exact .kDict q c
  | fTuple q => exact .fTuple (st rfl q fun _ z => by cases z)
  | fDict q => exact .fDict (st rfl q fun _ z => by cases z)
/-- in S are lists alone, so that no tuple is among them -/
def Lsts (S : List Addr) (H : Hp) : Prop := ∀ a ∈ S, ∃ xs, H a = some (.lst xs)
theorem Fr.seqT {K : PySem.W.Frag} {S : List Addr} {H G : Hp} {a : Addr} {xs : List V} (e : Fr S H G) (L : Lsts S H) (h : SqT K H a xs) : SqT K G a xs := by
  have off : ∀ o, H a = some o → (∀ ys, o ≠ .lst ys) → a ∉ S := fun o ha n m => by
    obtain ⟨ys, z⟩ := L a m
    exact n ys (Option.some.inj (ha.symm.trans z))
  rcases h with (z | ⟨o, z⟩) | z
  · exact .inl (.inl (e _ _ (off _ z fun _ q => by cases q) z fun _ q => by cases q))
  · exact .inl (.inr ⟨o, e _ _ (off _ z fun _ q => by cases q) z fun _ q => by cases q⟩)
  · exact .inr z
theorem ItK.fr {K : PySem.W.Frag} {S : List Addr} {H G : Hp} {x : V} (e : Fr S H G) (L : Lsts S H) (h : ItK K S H x) : ItK K S G x := h.imp id (.imp id (.imp id (.imp (fun ⟨n, t, k, a, b⟩ => ⟨n, tyX_fr e b t, k, a, b⟩) fun ⟨p, ys, z, s⟩ => ⟨p, ys, z, e.seqT L s⟩)))
theorem OddV.fr {K : PySem.W.Frag} {S : List Addr} {H G : Hp} {x : V} (e : Fr S H G) (L : Lsts S H) (h : OddV K S H x) : OddV K S G x := by
  cases h with
  | no t k n => exact .no (tyX_fr e n t) k n
  | tup s l a => exact .tup (e.seqT L s) l fun x m => (a x m).fr e L
theorem TblAt.fr {K : PySem.W.Frag} {C : Addr} {S : List Addr} {H G : Hp} {p dx pk pt : Addr} {t : TD} (e : Fr S H G) (L : Lsts S H) (d : TblAt K C H p dx pk pt t) : TblAt K C G p dx pk pt t :=
  ⟨e _ _ (fun m => by obtain ⟨ys, z⟩ := L p m; cases d.obj.symm.trans z) d.obj (fun _ z => nomatch z), dp_sq (fun a xs s => e.seqT L s) _ _ (noList_kinds t) d.kd, dp_sq (fun a xs s => e.seqT L s) _ _ (noList_types t) d.td⟩
theorem ItK.sub {K : PySem.W.Frag} {S T : List Addr} {H : Hp} {x : V} (s : ∀ a ∈ T, a ∈ S) (h : ItK K S H x) : ItK K T H x := h.imp id (.imp id (.imp id (.imp (fun ⟨n, t, k, a, b⟩ => ⟨n, t, k, a, fun c m => b c (s c m)⟩) id)))
theorem OddV.sub {K : PySem.W.Frag} {S T : List Addr} {H : Hp} {x : V} (s : ∀ a ∈ T, a ∈ S) (h : OddV K S H x) : OddV K T H x := by
  cases h with
  | no t k n => exact .no t k fun a m => n a (s a m)
  | tup p l a => exact .tup p l fun x m => (a x m).sub s
/-- what a judge makes of an item -/
theorem ItK.itm {K : PySem.W.Frag} {S : List Addr} {H : Hp} {x : V} (nn : Bool) (lim : Int) (h : ItK K S H x) : ∃ b, ItmV K nn lim H x b := by
  rcases h with ⟨i, rfl⟩ | ⟨b, rfl⟩ | rfl | ⟨n, t, k, nx, _⟩ | ⟨p, ys, rfl, s⟩
  · exact ⟨_, .inl ⟨.inl ⟨i, rfl, rfl⟩, fun _ z => nomatch z⟩⟩
  · exact ⟨_, .inl ⟨.inr (.inl ⟨b, rfl, rfl⟩), fun _ z => nomatch z⟩⟩
  · cases nn with
    | true => exact ⟨_, .inr ⟨rfl, rfl, rfl⟩⟩
    | false => exact ⟨_, .inl ⟨.inr (.inr ⟨_, .non, by decide +kernel, rfl⟩), fun z => nomatch z⟩⟩
  · exact ⟨_, .inl ⟨.inr (.inr ⟨n, t, k, rfl⟩), fun _ => nx⟩⟩
  · exact ⟨_, .inl ⟨.inr (.inr ⟨_, tyT s, by decide +kernel, rfl⟩), fun _ z => nomatch z⟩⟩
theorem paired_ex {α β : Type} {R : α → β → Prop} : ∀ {xs : List α}, (∀ x ∈ xs, ∃ y, R x y) → ∃ ys, Paired R xs ys
  | [], _ => ⟨[], .nil⟩
  | x :: r, h => by
    obtain ⟨y, hy⟩ := h x List.mem_cons_self
    obtain ⟨ys, hs⟩ := paired_ex fun z m => h z (List.mem_cons_of_mem _ m)
    exact ⟨y :: ys, .cons hy hs⟩
theorem OddV.any {K : PySem.W.Frag} {S : List Addr} {H : Hp} {x : V} (nn : Bool) (lim : Int) (h : OddV K S H x) : ∃ r, AnyV K nn lim H x r := by
  cases h with
  | no t k _ => exact ⟨none, .no t k⟩
  | tup s l a =>
    obtain ⟨bs, hb⟩ := paired_ex fun y m => (a y m).itm nn lim
    exact ⟨some bs, .tup s l hb⟩
theorem ItK.it {K : PySem.W.Frag} {S : List Addr} {H : Hp} (o : Option Int) : ItK K S H (itV o) := by
  cases o with
  | none => exact .inr (.inr (.inl rfl))
  | some i => exact .inl ⟨i, rfl⟩
theorem odd_its {K : PySem.W.Frag} {S : List Addr} {H : Hp} {q : Addr} {xs : List (Option Int)} (h : SqT K H q (xs.map itV)) (l : xs.length ≤ 1000) : OddV K S H (.ref q) := .tup h (by rw [List.length_map]; exact l) fun x m => by
  obtain ⟨o, _, rfl⟩ := List.mem_map.mp m
  exact .it o
end K3
namespace K3
open PySem PySem.Spec PyProof.Rows L2 Gd
theorem stb_odd {K : PySem.W.Frag} {S : List Addr} : Stb (fun G v => Lsts S G ∧ OddV K S G v) := fun G G' v e h => ⟨fun a m => let ⟨xs, z⟩ := h.1 a m; ⟨xs, e _ _ z⟩, h.2.fr (.same e) h.1⟩
theorem dpAll_its {K : PySem.W.Frag} {H : Hp} (xs : List (Option Int)) : DpAll K H (xs.map itV) (xs.map fun o => match o with | none => PyData.none | some i => .int i) := by
  induction xs with
  | nil => exact .nil
  | cons o r ih =>
    cases o with
    | none => exact .cons .non ih
    | some i => exact .cons (.int i) ih
theorem stb_it {K : PySem.W.Frag} {S : List Addr} : Stb (fun G v => Lsts S G ∧ ItK K S G v) := fun G G' v e h => ⟨fun a m => let ⟨xs, z⟩ := h.1 a m; ⟨xs, e _ _ z⟩, h.2.fr (.same e) h.1⟩
abbrev itD (o : Option Int) : PyData := match o with | none => .none | some i => .int i
theorem its_shaped {xs : List (Option Int)} (h : ∀ i, some i ∈ xs → i.natAbs < 10 ^ 9) : SeqAt.shaped (.tuple (xs.map itD)) = true := by
  refine fine_shaped ?_ ?_
  · rw [fine]
    refine fineAll_mem fun d hd => ?_
    obtain ⟨o, ho, rfl⟩ := List.mem_map.mp hd
    cases o with
    | none => rfl
    | some i => exact decide_eq_true (h i ho)
  · rw [PyData.depth]
    have : PyData.depthAll (xs.map itD) ≤ 0 := depthAll_mem fun d hd => by
      obtain ⟨o, ho, rfl⟩ := List.mem_map.mp hd
      cases o <;> exact Nat.le_refl _
    omega
theorem its_nil (xs : List (Option Int)) : PyData.eqv (.tuple (xs.map itD)) (.tuple []) = decide (xs = []) := by
  cases xs <;> rfl
theorem cutV_mem {xs : List V} {lo hi : Option Int} {x : V} (m : x ∈ cutV xs lo hi) : x ∈ xs := List.mem_of_mem_drop (List.mem_of_mem_take m)
theorem itK_map {K : PySem.W.Frag} {S : List Addr} {H : Hp} {xs : List (Option Int)} {x : V} (m : x ∈ xs.map itV) : ItK K S H x := by
  obtain ⟨o, _, rfl⟩ := List.mem_map.mp m
  exact .it o
theorem lsts_hv {H : Hp} {h l : Addr} {L : List Int} {st : Int} (v : Hv H h l L st) : Lsts [h, l] H := fun a m => by
  rcases List.mem_cons.mp m with e | m
  · rw [e]
    exact ⟨_, v.top⟩
  · rw [List.mem_singleton.mp m]
    exact ⟨_, v.bot⟩
section
variable {P : Program} {w : World} {K : PySem.W.Frag} {mg : Str → Option Value} {base : Heap}
/-! ### _law_odd -/
def spOdd (K : PySem.W.Frag) : Sp := fun vs H Q _ => ∃ (h l q : Addr) (L : List Int) (st : Int) (xs : List (Option Int)), vs = [.ref h, .ref q] ∧ Hv H h l L st ∧ SqT K H q (xs.map itV) ∧ xs.length ≤ 400 ∧ (∀ i, some i ∈ xs → i.natAbs < 10 ^ 9) ∧
  ∀ G L' st' y, But h l H G → Hv G h l L' st' → OddV K [h, l] G y → Q y G
theorem ok_odd {f fD fP : Addr} {fd fdD fdP : FuncData} {k : Nat} (F : Fun K "_law_odd" "_law_odd" s__law_odd f fd) (FD : Fun K "_law_draw" "_law_draw" s__law_draw fD fdD) (bD : Binds K fdD ["heap", "many"] []) (gD : mg "_law_draw" = some (.ref fD)) (GD : FnOk P w K mg base CX0 k fD fdD ["heap", "many"] spDraw)
    (FP : Fun K "_law_pick" "_law_pick" s__law_pick fP fdP) (bP : Binds K fdP ["heap", "some"] []) (gP : mg "_law_pick" = some (.ref fP)) (GP : FnOk P w K mg base CX0 k fP fdP ["heap", "some"] (spPick K)) (ml : mg "len" = none) (mL : mg "list" = none) :
    FnOk P w K mg base CX0 (k + 1) f fd ["heap", "value"] (spOdd K) := by
  refine F.ok sc__law_odd (fun vs H Q E h => ?_) (fun cdv A outer s H vs Q E hr h => ?_)
  · obtain ⟨h, l, q, L, st, xs, rfl, _⟩ := h
    rfl
  · obtain ⟨h, l, q, L, st, xs, rfl, hv, hq, hn, hb, qq⟩ := h
    refine blk_cons (ps_set (i := 2) sc__law_odd.nd rfl (.inl rfl) (pe_lst (pa_cons (pe_slice (r := rSlA K) sl_tupA (pv 1) po_none (po_some (pe_un un_neg pe_int))) (pa_cons (pe_op (r := rCatA K) op_catA (pv 1) (pe_tup (pa_cons pe_int pa_nil))) (pa_cons (pe_callTy call_list_of (by rfl) mL (by decide +kernel) (pa_cons (pv 1) pa_nil))
      (pa_cons pe_non (pa_cons pe_int (pa_cons pe_dnewK (pa_cons (pe_op op_mulS pe_str (pe_callB call_len_seq (by rfl) ml PySem.boot_len (pa_cons (pv 1) pa_nil))) (pa_cons (pe_tup (pa_cons (pv 1) pa_nil)) pa_nil)))))))))) ?_
    refine blk_cons (ps_if (pt_cmpR (op_neD hr.units) (pv 1) (pe_tup pa_nil) (nomark _)) (pss_cons (ps_set (i := 3) sc__law_odd.nd rfl (.inl rfl) (pe_call GD hr (by rfl) gD FD.kp bD .nil pass0 (pa_cons (pv 0) (pa_cons (pe_callB call_len_seq (by rfl) ml PySem.boot_len (pa_cons (pv 1) pa_nil)) pa_nil))))
      (pss_cons (ps_set (i := 4) sc__law_odd.nd rfl (.inl rfl) (pe_call GP hr (by rfl) gP FP.kp bP .nil pass0 (pa_cons (pv 0) (pa_cons (pe_lst (pa_cons pe_int (pa_cons pe_int (pa_cons (pe_op op_sub pe_int pe_int) (pa_cons pe_bl (pa_cons pe_bl (pa_cons pe_str (pa_cons (pe_tup (pa_cons pe_int pa_nil)) (pa_cons (pe_lst pa_nil) (pa_cons pe_non
        (pa_cons (pe_op op_pow pe_int pe_int) (pa_cons pe_int (pa_cons pe_int pa_nil))))))))))))) pa_nil))))
      (pss_one (ps_set (i := 2) sc__law_odd.nd rfl (.inl rfl) (pe_op op_cat (pv 2) (pe_op op_rep (pe_lst (pa_cons (pe_op (r := rCatA K) op_catA (pe_op (r := rCatA K) op_catA (pe_slice (r := rSlA K) sl_tupA (pv 1) po_none (po_some (pv 3))) (pe_tup (pa_cons (pv 4) pa_nil))) (pe_slice (r := rSlA K) sl_tupA (pv 1) (po_some (pe_op op_add (pv 3) pe_int)) po_none)) pa_nil)) pe_int)))))) pss_nil) ?_
    refine blk_cons (ps_ret (pe_call GP hr (by rfl) gP FP.kp bP .nil pass0 (pa_cons (pv 0) (pa_cons (pv 2) pa_nil)))) ?_
    refine blk_nil ?_
    have n1 : ∀ {G p}, Same H G → G p = none → ∀ a ∈ [h, l], V.ref p ≠ .ref a := fun {G p} s np a m e => by
      obtain ⟨ys, z⟩ := (lsts_hv hv) a m
      have := s _ _ z
      cases e
      rw [np] at this
      cases this
    have lst : ∀ {G}, Same H G → Lsts [h, l] G := fun {G} s a m => let ⟨ys, z⟩ := (lsts_hv hv) a m; ⟨ys, s _ _ z⟩
    refine asg_go (gp_lst (n := 8) (R := fun G v => Lsts [h, l] G ∧ OddV K [h, l] G v) (by decide) ?_ stb_odd ?_)
    · have tp : ∀ {G r ys}, Same H G → SqT K G r ys → ys.length ≤ 1000 → (∀ y ∈ ys, ItK K [h, l] G y) → Lsts [h, l] G ∧ OddV K [h, l] G (.ref r) := fun s e l a => ⟨lst s, .tup e l a⟩
      have lx : (xs.map itV).length ≤ 400 := by rw [List.length_map]; exact hn
      have nn : ∀ {G x m}, Same H G → TyN K G x m → kitB m "tuple" = some false → (∀ a ∈ [h, l], x ≠ .ref a) → Lsts [h, l] G ∧ OddV K [h, l] G x := fun s t k n => ⟨lst s, .no t k n⟩
      refine gpA_cons stb_odd (fun Q q' => ⟨_, rfl, 1, rfl, _, rfl, slA_to hq fun G r s e => q' _ _ s (tp s e (Nat.le_trans (cutV_length _ _ _) (by omega)) fun y m => itK_map (cutV_mem m))⟩) fun G1 s1 => ?_
      refine gpA_cons stb_odd (fun Q q' => ⟨_, rfl, by show 1 ≤ sizeLine; decide, fun r1 n1 => cat_to (same_seqT (s1.trans (same_new n1)) hq) (sqT upd_same) (by show _ + 1 ≤ 5000; omega) fun G r s e => q' _ _ ((same_new n1).trans s) (tp ((s1.trans (same_new n1)).trans s) e (by rw [List.length_append]; show _ + 1 ≤ 1000; omega) fun y m => ?_)⟩) fun G2 s2 => ?_
      · rcases List.mem_append.mp m with m | m
        · exact itK_map m
        · exact .inl ⟨0, List.mem_singleton.mp m⟩
      have s12 := s1.trans s2
      refine gpA_cons stb_odd (fun Q q' => ⟨_, rfl, q, _, rfl, .inr (same_seqT s12 hq), fun r n => q' _ _ (same_new n) (nn (s12.trans (same_new n)) (.base (.lst upd_same)) (by decide +kernel) (n1 s12 n))⟩) fun G3 s3 => ?_
      have s13 := s12.trans s3
      refine gpA_cons stb_odd (gp_c (nn s13 .non (by decide +kernel) fun a m => by intro z; cases z)) fun G4 s4 => ?_
      have s14 := s13.trans s4
      refine gpA_cons stb_odd (gp_c (nn s14 (.int 5) (by decide +kernel) fun a m => by intro z; cases z)) fun G5 s5 => ?_
      have s15 := s14.trans s5
      refine gpA_cons stb_odd (fun Q q' => fun r n => q' _ _ (same_new n) (nn (s15.trans (same_new n)) (.base (.dK upd_same)) (by decide +kernel) (n1 s15 n))) fun G6 s6 => ?_
      have s16 := s15.trans s6
      refine gpA_cons stb_odd (fun Q q' => ⟨.ref q, rfl, q, _, rfl, .inr (same_seqT s16 hq), "0", _, rfl, rfl, rfl, by omega, fun z' => q' _ _ (Same.refl _) (nn s16 (.str z') (by decide +kernel) fun a m => by intro z; cases z)⟩) fun G7 s7 => ?_
      have s17 := s16.trans s7
      refine gpA_cons stb_odd (fun Q q' => ⟨_, rfl, by show 1 ≤ sizeLine; decide, fun r n => q' _ _ (same_new n) (tp (s17.trans (same_new n)) (sqT upd_same) (by show 1 ≤ 1000; decide) fun y m => ?_)⟩) fun G8 s8 => gpA_nil
      rw [List.mem_singleton.mp m]
      exact .inr (.inr (.inr (.inr ⟨q, _, rfl, same_seqT (s17.trans (same_new n)) hq⟩)))
    · intro p vs G1 s1 gp np lv hall
      dsimp only [gName]
      have bt1 : But h l H G1 := (But.refl h l H).same s1
      have hv1 := hv.same s1
      have ph : p ≠ h := fun e => by rw [e] at np; cases np.symm.trans hv.top
      have pl : p ≠ l := fun e => by rw [e] at np; cases np.symm.trans hv.bot
      refine seq_out (fun σ' G' => ∃ p vs y3 y4 L' st', σ' = [some (.ref h), some (.ref q), some (.ref p), y3, y4] ∧ But h l H G' ∧ Hv G' h l L' st' ∧ G' p = some (.lst vs) ∧ p ≠ h ∧ p ≠ l ∧ 0 < vs.length ∧ vs.length < 1000 ∧ ∀ v ∈ vs, OddV K [h, l] G' v) (fun N hN => ?_) (fun σ' G' hR => ?_)
      · refine ⟨.ref q, rfl, Nat.zero_le _, fun r n => ⟨.tuple (xs.map itD), .tuple [], .tup (same_seqT (s1.trans (same_new n)) hq) (dpAll_its xs), .tup (sqT upd_same) .nil, its_shaped hb, rfl, _, rfl, ?_⟩⟩
        rw [its_nil]
        have s1n := s1.trans (same_new (o := .tup []) n)
        have nph : G1 p ≠ none := by rw [gp]; exact fun z => nomatch z
        have npr : p ≠ r := fun e => nph (e ▸ n)
        by_cases hx : xs = []
        · rw [decide_eq_true hx]
          refine iteF (hN _ _ ⟨p, vs, none, none, L, st, rfl, bt1.new n, hv1.new n, (upd_ne npr).trans gp, ph, pl, by omega, by omega, fun v m => (stb_odd _ _ _ (same_new n) (hall v m)).2⟩)
        · rw [decide_eq_false hx]
          refine iteT ?_
          have lx : (xs.map itV).length = xs.length := List.length_map _
          have x1 : 0 < xs.length := List.length_pos_iff.mpr hx
          refine asg_go ⟨_, rfl, _, rfl, q, _, rfl, .inr (same_seqT s1n hq), h, l, L, st, _, rfl, hv.same s1n, by omega, by omega, fun G2 L2 st2 a b2 hv2 a0 a1 => ?_⟩
          dsimp only [gName]
          have b02 : But h l H G2 := ((But.refl h l H).same s1n).trans b2
          have q2 : SqT K G2 q (xs.map itV) := (KeepT.but hv b02).seqT hq
          have p2 : G2 p = some (.lst vs) := b2 _ _ ph pl ((upd_ne npr).trans gp)
          have all2 : ∀ v ∈ vs, OddV K [h, l] G2 v := fun v m => (stb_odd _ _ _ (same_new n) (hall v m)).2.fr (.but b2) (lsts_hv (hv.same s1n))
          obtain ⟨a, rfl⟩ := Int.eq_ofNat_of_zero_le a0
          rw [lx] at a1
          have lst2 : ∀ {G}, Same G2 G → Lsts [h, l] G := fun {G} s a m => let ⟨ys, z⟩ := (lsts_hv hv2) a m; ⟨ys, s _ _ z⟩
          have nn : ∀ {G x m}, Same G2 G → TyN K G x m → kitB m "int" = some false → x ≠ .non → (∀ a ∈ [h, l], x ≠ .ref a) → Lsts [h, l] G ∧ ItK K [h, l] G x := fun s t k n1 n2 => ⟨lst2 s, .inr (.inr (.inr (.inl ⟨_, t, k, n1, n2⟩)))⟩
          have ni : ∀ {G i}, Same G2 G → Lsts [h, l] G ∧ ItK K [h, l] G (.int i) := fun s => ⟨lst2 s, .inl ⟨_, rfl⟩⟩
          have nb : ∀ {G b}, Same G2 G → Lsts [h, l] G ∧ ItK K [h, l] G (.bl b) := fun s => ⟨lst2 s, .inr (.inl ⟨_, rfl⟩)⟩
          refine asg_go ⟨_, rfl, gp_lst (n := 12) (R := fun G v => Lsts [h, l] G ∧ ItK K [h, l] G v) (by decide) ?_ stb_it fun pp vs2 G3 s3 gpl npl lv2 hall2 => ⟨h, l, L2, st2, pp, vs2, rfl, hv2.same s3, sqL gpl, ?_, ?_, by omega, by omega, fun G4 L4 st4 i x b4 hv4 hx => ?_⟩⟩
          · refine gpA_cons stb_it (gp_c (ni (Same.refl _))) fun G1 s1 => gpA_cons stb_it (gp_c (ni s1)) fun G2' s2 => ?_
            have s2 := s1.trans s2
            refine gpA_cons stb_it (fun Q q' => ⟨_, _, rfl, rfl, q' _ _ (Same.refl _) (ni s2)⟩) fun G3 s3 => ?_
            have s3 := s2.trans s3
            refine gpA_cons stb_it (gp_c (nb s3)) fun G4 s4 => ?_
            have s4 := s3.trans s4
            refine gpA_cons stb_it (gp_c (nb s4)) fun G5 s5 => ?_
            have s5 := s4.trans s5
            refine gpA_cons stb_it (gp_c (nn s5 (.str _) (by decide +kernel) (by intro z; cases z) fun a m => by intro z; cases z)) fun G6 s6 => ?_
            have s6 := s5.trans s6
            refine gpA_cons stb_it (fun Q q' => ⟨by show 1 ≤ sizeLine; decide, fun r n => q' _ _ (same_new n) ⟨lst2 (s6.trans (same_new n)), .inr (.inr (.inr (.inr ⟨r, _, rfl, sqT upd_same⟩)))⟩⟩) fun G7 s7 => ?_
            have s7 := s6.trans s7
            refine gpA_cons stb_it (fun Q q' => ⟨by show 0 ≤ sizeLine; decide, fun r n => q' _ _ (same_new n) (nn (s7.trans (same_new n)) (.base (.lst upd_same)) (by decide +kernel) (by intro z; cases z) fun a m e => by
              obtain ⟨ys, z⟩ := lst2 s7 a m
              cases e
              cases n.symm.trans z)⟩) fun G8 s8 => ?_
            have s8 := s7.trans s8
            refine gpA_cons stb_it (gp_c ⟨lst2 s8, .inr (.inr (.inl rfl))⟩) fun G9 s9 => ?_
            have s9 := s8.trans s9
            refine gpA_cons stb_it (fun Q q' => ⟨_, _, rfl, rfl, ⟨by decide, by decide, by decide⟩, q' _ _ (Same.refl _) (ni s9)⟩) fun G10 s10 => ?_
            have s10 := s9.trans s10
            exact gpA_cons stb_it (gp_c (ni s10)) fun G11 s11 => gpA_cons stb_it (gp_c (ni (s10.trans s11))) fun G12 s12 => gpA_nil
          · intro e; rw [e] at npl; cases npl.symm.trans hv2.top
          · intro e; rw [e] at npl; cases npl.symm.trans hv2.bot
          dsimp only [gName]
          have xk : ItK K [h, l] G4 x := (hall2 x (List.mem_of_getElem? hx)).2.fr (.but b4) (lst2 s3)
          have b24 : But h l G2 G4 := ((But.refl h l G2).same s3).trans b4
          have q4 : SqT K G4 q (xs.map itV) := (KeepT.but hv2 b24).seqT q2
          have p4 : G4 p = some (.lst vs) := b24 _ _ ph pl p2
          have all4 : ∀ v ∈ vs, OddV K [h, l] G4 v := fun v m => (all2 v m).fr (.but b24) (lsts_hv hv2)
          refine ⟨_, rfl, _, rfl, _, rfl, _, rfl, slA_to q4 fun G5 r5 s5 h5 => ?_⟩
          refine ⟨_, rfl, by show 1 ≤ sizeLine; decide, fun r6 n6 => cat_to (same_seqT (same_new n6) h5) (sqT upd_same) ?_ fun G7 r7 s7 h7 => ?_⟩
          · have := cutV_length (xs.map itV) none (some (a : Int))
            show _ + 1 ≤ 5000
            omega
          refine ⟨_, rfl, _, rfl, _, _, rfl, rfl, _, rfl, ?_⟩
          dsimp only [tNoPart]
          have s47 := s5.trans ((same_new (o := .tup [x]) n6).trans s7)
          refine slA_to (same_seqT s47 q4) fun G8 r8 s8 h8 => ?_
          have s48 := s47.trans s8
          refine cat_to (same_seqT s8 h7) h8 ?_ fun G9 r9 s9 h9 => ?_
          · have e1 := cutV_length (xs.map itV) none (some (a : Int))
            have e2 := cutV_length (xs.map itV) (some ((a : Int) + 1)) none
            rw [List.length_append]
            show _ + 1 + _ ≤ 5000
            omega
          have s49 := s48.trans s9
          have odd9 : OddV K [h, l] G9 (.ref r9) := .tup h9 (by
            have e1 := cutV_length (xs.map itV) none (some (a : Int))
            have e2 := cutV_length (xs.map itV) (some ((a : Int) + 1)) none
            rw [List.length_append, List.length_append]
            show _ + 1 + _ ≤ 1000
            omega) fun y m => by
              rcases List.mem_append.mp m with m | m
              · rcases List.mem_append.mp m with m | m
                · exact itK_map (cutV_mem m)
                · rw [List.mem_singleton.mp m]
                  exact xk.fr (.same s49) (lsts_hv hv4)
              · exact itK_map (cutV_mem m)
          refine ⟨by show 1 ≤ sizeLine; decide, fun r10 n10 => ⟨_, _, _, rfl, rfl, upd_same, by decide, by decide, (by show 8 ≤ sizeLine; decide), fun r11 n11 => ?_⟩⟩
          have s11 := (s49.trans (same_new (o := .lst [.ref r9]) n10)).trans (same_new (o := .lst (List.replicate (Int.toNat 8) [V.ref r9]).flatten) n11)
          refine ⟨_, _, _, _, rfl, rfl, s11 _ _ p4, upd_same, (by rw [lv]; show 8 + 8 ≤ sizeLine; decide), fun r12 n12 => ?_⟩
          dsimp only [gName]
          have s12 := s11.trans (same_new (o := .lst (vs ++ (List.replicate (Int.toNat 8) [V.ref r9]).flatten)) n12)
          have hv11 := hv4.same s11
          have lr : (List.replicate (Int.toNat 8) [V.ref r9]).flatten.length = 8 := rfl
          refine hN _ _ ⟨r12, _, some (.int (a : Int)), some x, L4, st4, rfl, (b02.trans b24).same s12, hv4.same s12, upd_same, (fun e => ?_), (fun e => ?_), (by rw [List.length_append]; omega), (by rw [List.length_append]; omega), fun v m => ?_⟩
          · rw [e] at n12; cases n12.symm.trans hv11.top
          · rw [e] at n12; cases n12.symm.trans hv11.bot
          · rcases List.mem_append.mp m with m | m
            · exact (all4 v m).fr (.same s12) (lsts_hv hv4)
            · have : v = .ref r9 := by
                obtain ⟨ll, m1, m2⟩ := List.mem_flatten.mp m
                rw [List.eq_of_mem_replicate m1] at m2
                exact List.mem_singleton.mp m2
              rw [this]
              exact odd9.fr (.same (((same_new n10).trans (same_new n11)).trans (same_new n12))) (lsts_hv (hv4.same s49))
      · obtain ⟨p2, vs2, y3, y4, L2, st2, rfl, b2, hv2, g2, n1, n2, l1, l2, all2⟩ := hR
        exact ⟨_, rfl, _, rfl, h, l, L2, st2, p2, vs2, rfl, hv2, sqL g2, n1, n2, l1, l2, fun G3 L3 st3 i x b3 hv3 hx => qq G3 L3 st3 x (b2.trans b3) hv3 ((all2 x (List.mem_of_getElem? hx)).fr (.but b3) (lsts_hv hv2))⟩
end
end K3
namespace K3
open PySem PySem.Spec PyProof.Rows L2 Gd
section
variable {X : Cx} {CS CB CW CF CD CT fH c Pt : Addr} {fdH : FuncData} {T : List (Addr × Str)} {k : Nat} {params : Arguments} {body : Expr} {scope : Scope} {t : XK → TE} {p lpos pos : Pos}
/-- _law_heard(lambda: ..) -/
theorem pe_hd (FH : Fun X.K "_law_heard" "_law_heard" s__law_heard fH fdH) (bH : Binds X.K fdH ["action"] []) (hg : Gl X "_law_heard") (gH : X.mg "_law_heard" = some (.ref fH)) (TH : HTxt X.K X.mg CS CB CW CF CD CT) (mI : X.mg "isinstance" = none)
    (L : LamT T X.base X.mg c Pt (X.env.qual ++ "<lambda>")) (hcode : X.env.code = .ref c) (hr : Room (k + 2) X.A) (hl : LamX.LamS X.env.scope scope)
    (hbody : ∀ (A : Around) (outer : List Env) (s : Shared) (H : Hp) (E : XK) (f c' : Addr), Room k (A.deeper (LamX.lamEnv X scope s.heap.objs.size f c')) → PE (LamX.lamCx X A outer s H E scope f c') body (t E))
    (hdef : defaultsOf params X.env = ([], []) := by rfl) (hbind : ∀ (q : Str) (cl : List (Str × Addr)) (pm cv ctv : Value), bindArgs (PySem.W.kla_fn "<lambda>" q params body scope cl pm cv ctv) ⟨[], []⟩ = pure [] := by intros; rfl) :
    PE X (.Call (.Name "_law_heard" p) [.Lambda params body scope lpos] [] pos) (LamX.tLam T (TTs (RHd X.K CS CB CW CF) .non) t) :=
  pe_lamT FH bH hg gH sc__law_heard rfl (.inl rfl) (fun cdv => gives_heard TH mI) L hcode hr hl hbody hdef hbind
end
/-- what stands from one statement of the law to the next -/
structure On (T : List (Addr × Str)) (h l : Addr) (H G : Hp) : Prop where
  fr : Fr [h, l] H G
  tb : LamX.Tabs T G
  hv : ∃ L st, Hv G h l L st
theorem hv_ext {h l : Addr} {H G : Hp} {L : List Int} {st : Int} (e : LamX.ExtN H G) (v : Hv H h l L st) : Hv G h l L st := ⟨e _ _ v.top fun _ z => (nomatch z), e _ _ v.bot fun _ z => (nomatch z), v.ne, v.lo, v.hi, v.len⟩
theorem tabs_but {T : List (Addr × Str)} {h l : Addr} {H G : Hp} {L : List Int} {st : Int} (v : Hv H h l L st) (t : LamX.Tabs T H) (b : But h l H G) : LamX.Tabs T G := fun p hp => by
  obtain ⟨ps, e, ok, a⟩ := t p hp
  have n1 : p.1 ≠ h := fun z => by rw [z, v.top] at e; cases e
  have n2 : p.1 ≠ l := fun z => by rw [z, v.bot] at e; cases e
  refine ⟨ps, b _ _ n1 n2 e, ok, fun pos cv hc => ?_⟩
  obtain ⟨c, e1, e2⟩ := a pos cv hc
  refine ⟨c, e1, b _ _ (fun z => ?_) (fun z => ?_) e2⟩
  · rw [z, v.top] at e2; unfold LamX.CodeO at e2; cases e2
  · rw [z, v.bot] at e2; unfold LamX.CodeO at e2; cases e2
theorem On.but {T : List (Addr × Str)} {h l : Addr} {H G J : Hp} {L : List Int} {st : Int} (o : On T h l H G) (b : But h l G J) (v : Hv J h l L st) : On T h l H J := ⟨o.fr.trans (.but b), let ⟨_, _, g⟩ := o.hv; tabs_but g o.tb b, _, _, v⟩
theorem On.same {T : List (Addr × Str)} {h l : Addr} {H G J : Hp} (o : On T h l H G) (s : Same G J) : On T h l H J := ⟨o.fr.trans (.same s), o.tb.ext s, let ⟨L, st, g⟩ := o.hv; ⟨L, st, g.same s⟩⟩
theorem On.ext {T : List (Addr × Str)} {h l : Addr} {H G J : Hp} (o : On T h l H G) (e : LamX.ExtN G J) (t : LamX.Tabs T J) : On T h l H J := ⟨o.fr.trans (.ext e), t, let ⟨L, st, g⟩ := o.hv; ⟨L, st, hv_ext e g⟩⟩
theorem On.seqT {K : PySem.W.Frag} {T : List (Addr × Str)} {h l a : Addr} {H G : Hp} {L : List Int} {st : Int} {xs : List V} (o : On T h l H G) (v : Hv H h l L st) (s : SqT K H a xs) : SqT K G a xs := o.fr.seqT (lsts_hv v) s
/-- t[:i] + (x,) + t[i + 1:] -/
theorem put_to {K : PySem.W.Frag} {σ : L2.St} {H : Hp} {q : Addr} {xs : List V} {i a b : Nat} {v : V} {te : TE} {Q : VK} (h2 : σ[a]? = some (some (.ref q))) (h5 : σ[b]? = some (some (.int (i : Nat)))) (hq : SqT K H q xs) (hi : i < xs.length) (hn : xs.length ≤ 1000)
    (hte : ∀ G, Same H G → ∀ Q : VK, Q v G → te σ G Q) (qq : ∀ G r, Same H G → SqT K G r (xs.set i v) → Q (.ref r) G) :
    tOp (rCatA K) (tOp (rCatA K) (tSl (rSlA K) (tVar a) tNoPart (tPart (tVar b))) (tTup (tCons te tNil))) (tSl (rSlA K) (tVar a) (tPart (tOp (rI0 fun i j => .int (i + j)) (tVar b) (tC (.int 1)))) tNoPart) σ H Q := by
  refine ⟨_, h2, _, h5, _, rfl, slA_to hq fun G1 r1 s1 e1 => hte G1 s1 _ ⟨by show 1 ≤ sizeLine; decide, fun r2 n2 => ?_⟩⟩
  rw [cut_to (by omega)] at e1
  refine cat_to (same_seqT (same_new n2) e1) (sqT upd_same) (by rw [List.length_take]; show _ + 1 ≤ 5000; omega) fun G3 r3 s3 e3 => ?_
  have s13 := (s1.trans (same_new (o := .tup [v]) n2)).trans s3
  refine ⟨_, h2, _, h5, _, _, rfl, rfl, _, rfl, ?_⟩
  dsimp only [tNoPart]
  refine slA_to (same_seqT s13 hq) fun G4 r4 s4 e4 => ?_
  rw [show ((i : Int) + 1) = ((i + 1 : Nat) : Int) by omega, cut_from (by omega)] at e4
  refine cat_to (same_seqT s4 e3) e4 (by rw [List.length_append, List.length_take, List.length_drop]; show _ + 1 + _ ≤ 5000; omega) fun G5 r5 s5 e5 => qq G5 r5 ((s13.trans s4).trans s5) ?_
  rw [List.set_eq_take_append_cons_drop, if_pos hi]
  rw [List.append_assoc] at e5
  exact e5
theorem On.refl {T : List (Addr × Str)} {h l : Addr} {H : Hp} {L : List Int} {st : Int} (v : Hv H h l L st) (t : LamX.Tabs T H) : On T h l H H := ⟨fun _ _ _ e _ => e, t, L, st, v⟩
theorem On.trans {T : List (Addr × Str)} {h l : Addr} {H G J : Hp} (a : On T h l H G) (b : On T h l G J) : On T h l H J := ⟨a.fr.trans b.fr, b.tb, b.hv⟩
theorem idx_nats (g : Nat → Bool) (n : Nat) : (idxF g n).map V.int = natsV ((List.range n).filter g) := by
  unfold idxF
  rw [List.map_map]
  rfl
theorem units_log {xs : List Int} {ks : List Nat} (h : ∀ x ∈ xs, 0 ≤ x ∧ x ≤ 400) (hk : ks.length ≤ 12) : (unitsIn xs ks).natAbs.log2 < 1920 := by
  have key : ∀ ks : List Nat, 0 ≤ unitsIn xs ks ∧ unitsIn xs ks ≤ 400 * ks.length := fun ks => by
    induction ks with
    | nil => exact ⟨Int.le_refl _, Int.le_refl _⟩
    | cons k r ih =>
      have e : unitsIn xs (k :: r) = xs.getD k 0 + unitsIn xs r := rfl
      have b : 0 ≤ xs.getD k 0 ∧ xs.getD k 0 ≤ 400 := by
        rw [List.getD_eq_getElem?_getD]
        cases q : xs[k]? with
        | none => exact ⟨Int.le_refl _, by decide⟩
        | some x => exact h x (List.mem_of_getElem? q)
      rw [e, List.length_cons]
      omega
  obtain ⟨a, b⟩ := key ks
  exact Flt.log2_lt_of (by decide) (Nat.lt_of_lt_of_le (show (unitsIn xs ks).natAbs < 5000 by omega) (by decide))
section
variable {P : Program} {w : World} {K : PySem.W.Frag} {mg : Str → Option Value} {base : Heap}
/-! ### _law_units_right -/
def spUR (K : PySem.W.Frag) (T : List (Addr × Str)) : Sp := fun vs H Q _ => ∃ (h l q : Addr) (tv : V) (L : List Int) (st : Int) (xs : List Int), vs = [.ref h, tv, .ref q] ∧ Hv H h l L st ∧ LamX.Tabs T H ∧ SqT K H q (xs.map V.int) ∧ xs.length ≤ 12 ∧ (∀ x ∈ xs, 0 ≤ x ∧ x ≤ 400) ∧ ∀ G, On T h l H G → Q (.bl true) G
theorem ok_ur {f fL fU fT fP fH CS CB CW CF CD CT c Pt : Addr} {fd fdL fdU fdT fdP fdH : FuncData} {k : Nat} {T : List (Addr × Str)} (F : Fun K "_law_units_right" "_law_units_right" s__law_units_right f fd) (hc : fd.code = .ref c) (LT : LamT T base mg c Pt ("_law_units_right" ++ ".<locals>." ++ "<lambda>"))
    (FL : Fun K "_law_lot" "_law_lot" s__law_lot fL fdL) (bL : Binds K fdL ["heap", "many", "share"] []) (gL : mg "_law_lot" = some (.ref fL)) (GL : FnOk P w K mg base CX0 k fL fdL ["heap", "many", "share"] (spLLot K))
    (FU : Fun K "units_in" "units_in" s_units_in fU fdU) (bU : Binds K fdU ["stock", "kinds"] []) (kU : KwB fdU ["stock", "kinds"] ["kinds", "stock"] List.reverse) (gU : mg "units_in" = some (.ref fU)) (GU : FnOk P w K mg base CX0 k fU fdU ["stock", "kinds"] (spUnits K))
    (FT : Fun K "unit_taken" "unit_taken" s_unit_taken fT fdT) (bT : Binds K fdT ["stock", "kind"] []) (kT : KwB fdT ["stock", "kind"] ["kind", "stock"] List.reverse) (gT : mg "unit_taken" = some (.ref fT)) (GT : FnOk P w K mg base (L2.CX P w) k fT fdT ["stock", "kind"] (spTaken K CF))
    (FP : Fun K "unit_put" "unit_put" s_unit_put fP fdP) (bP : Binds K fdP ["stock", "kind"] []) (kP : KwB fdP ["stock", "kind"] ["kind", "stock"] List.reverse) (gP : mg "unit_put" = some (.ref fP)) (GP : FnOk P w K mg base (L2.CX P w) k fP fdP ["stock", "kind"] (spPutU K CF))
    (FH : Fun K "_law_heard" "_law_heard" s__law_heard fH fdH) (bH : Binds K fdH ["action"] []) (gH : mg "_law_heard" = some (.ref fH)) (TH : HTxt K mg CS CB CW CF CD CT) (mI : mg "isinstance" = none)
    (ml : mg "len" = none) (mr : mg "range" = none) (ms : mg "sum" = none) (mp : mg "repr" = none) :
    FnG P w K mg base (k + 2 + 1) f fd ["heap", "table", "stock"] (spUR K T) := by
  refine okGC F hc sc__law_units_right (fun vs H Q E h => ?_) (fun A outer s H vs Q E hrg h => ?_)
  · obtain ⟨h, l, q, tv, L, st, xs, rfl, _⟩ := h
    rfl
  · obtain ⟨h, l, q, tv, L, st, xs, rfl, hv, tb, hq, hn, hb, qq⟩ := h
    have hr2 := hrg.rm
    have hr : Room k _ := hr2.mono (Nat.le_add_right _ _)
    have hgd := hrg.gd
    refine blk_cons (ps_for PassesOwn.never rfl (pi_list (pe_lst (pa_cons pe_int (pa_cons pe_int (pa_cons pe_int pa_nil))))) (pg_name (i := 3) sc__law_units_right.nd rfl (.inl rfl))
      (pss_cons (ps_set (i := 4) sc__law_units_right.nd rfl (.inl rfl) (pe_call GL hr (by rfl) gL FL.kp bL .nil pass0 (pa_cons (pv 0) (pa_cons (pe_callB call_len_seq (by rfl) ml PySem.boot_len (pa_cons (pv 2) pa_nil)) (pa_cons (pv 3) pa_nil)))))
      (pss_cons (ps_set (i := 6) sc__law_units_right.nd rfl (.inl rfl) (pe_callB (cr_sum rfl) (by rfl) ms (by decide +kernel) (pa_cons (pe_lc (own := [("kind", 5)]) (g := gName 5) (tt := tYes) rfl sc__law_units_right.nd (pi_tup (pv 4)) (blkOk_by (own := [("kind", 5)]) (N := n__law_units_right) (sc := defScope s__law_units_right) (by decide +kernel))
        (fun _ _ _ _ _ => pg_name (i := 5) sc__law_units_right.nd rfl (Or.inl rfl)) (fun _ _ _ _ _ => pts_nil) (fun _ _ _ _ _ => pe_ix (r := rIxT K) ix_tup (pv 2) (pv 5) (fun _ _ => rfl))) pa_nil)))
      (pss_one (ps_if (PW.pt (pw_or (pt_cmpR op_ne (pe_callB call_reprI (by rfl) mp (by decide +kernel) (pa_cons (pe_call GU hr (by rfl) gU FU.kp bU .nil pass0 (pa_cons (pv 2) (pa_cons (pv 4) pa_nil))) pa_nil)) (pe_callB call_reprI (by rfl) mp (by decide +kernel) (pa_cons (pv 6) pa_nil)) (nomark _))
        (pw_or1 (pt_cmpR op_ne (pe_kwP (E := E0) (gV := List.reverse) GU hr (by rfl) gU FU.kp kU pass0 (fun _ r => r.reverse) (pk_cons (pv 4) (pk_cons (pv 2) pk_nil))) (pv 6) (nomark _))))) (pss_one (ps_ret pe_bl)) pss_nil))))) ?_
    refine blk_cons (ps_for PassesOwn.never rfl (pi_range1 (by rfl) mr (pa_cons (pe_callB call_len_seq (by rfl) ml PySem.boot_len (pa_cons (pv 2) pa_nil)) pa_nil)) (pg_name (i := 5) sc__law_units_right.nd rfl (.inr rfl))
      (pss_cons (ps_par (i := 7) (j := 8) rfl sc__law_units_right.nd rfl rfl (by decide) rfl rfl (pa_cons (pe_op (r := rCatA K) op_catA (pe_op (r := rCatA K) op_catA (pe_slice (r := rSlA K) sl_tupA (pv 2) po_none (po_some (pv 5))) (pe_tup (pa_cons (pe_op op_sub (pe_ix (r := rIxT K) ix_tup (pv 2) (pv 5) (fun _ _ => rfl)) pe_int) pa_nil))) (pe_slice (r := rSlA K) sl_tupA (pv 2) (po_some (pe_op op_add (pv 5) pe_int)) po_none)) (pa_cons (pe_op (r := rCatA K) op_catA (pe_op (r := rCatA K) op_catA (pe_slice (r := rSlA K) sl_tupA (pv 2) po_none (po_some (pv 5))) (pe_tup (pa_cons (pe_op op_add (pe_ix (r := rIxT K) ix_tup (pv 2) (pv 5) (fun _ _ => rfl)) pe_int) pa_nil))) (pe_slice (r := rSlA K) sl_tupA (pv 2) (po_some (pe_op op_add (pv 5) pe_int)) po_none)) pa_nil)) (by rfl))
      (pss_cons (ps_if (pt_cmpR op_eq (pe_ix (r := rIxT K) ix_tup (pv 2) (pv 5) (fun _ _ => rfl)) pe_int (nomark _)) (pss_one (ps_if (pt_cmpR (op_neD hr.units) (pe_hd (k := k) FH bH (by rfl) gH TH mI LT rfl hr2 (LamX.lamS_by (sc := defScope s__law_units_right) (by decide +kernel)) (fun A out s H E f c' hr' => pe_call (E := E) GT hr' (by rfl) gT FT.kp bT .nil passX (pa_cons (pv 2) (pa_cons (pv 5) pa_nil)))) pe_str (nomark _)) (pss_one (ps_ret pe_bl)) pss_nil))
        (pss_one (ps_if (PW.pt (pw_or (pt_cmpR op_ne (pe_callB (call_reprF hgd hr.units) (by rfl) mp (by decide +kernel) (pa_cons (pe_call (E := E0) GT hr (by rfl) gT FT.kp bT .nil passL (pa_cons (pv 2) (pa_cons (pv 5) pa_nil))) pa_nil)) (pe_callB (call_reprF hgd hr.units) (by rfl) mp (by decide +kernel) (pa_cons (pv 7) pa_nil)) (nomark _))
          (pw_or1 (pt_cmpR (op_neD hr.units) (pe_kwP (E := E0) (gV := List.reverse) GT hr (by rfl) gT FT.kp kT passL (fun _ r => r.reverse) (pk_cons (pv 5) (pk_cons (pv 2) pk_nil))) (pv 7) (nomark _))))) (pss_one (ps_ret pe_bl)) pss_nil)))
      (pss_one (ps_if (pt_cmpR op_eq (pe_ix (r := rIxT K) ix_tup (pv 2) (pv 5) (fun _ _ => rfl)) pe_int (nomark _)) (pss_one (ps_if (pt_cmpR (op_neD hr.units) (pe_hd (k := k) FH bH (by rfl) gH TH mI LT rfl hr2 (LamX.lamS_by (sc := defScope s__law_units_right) (by decide +kernel)) (fun A out s H E f c' hr' => pe_call (E := E) GP hr' (by rfl) gP FP.kp bP .nil passX (pa_cons (pv 2) (pa_cons (pv 5) pa_nil)))) pe_str (nomark _)) (pss_one (ps_ret pe_bl)) pss_nil))
        (pss_one (ps_if (PW.pt (pw_or (pt_cmpR op_ne (pe_callB (call_reprF hgd hr.units) (by rfl) mp (by decide +kernel) (pa_cons (pe_call (E := E0) GP hr (by rfl) gP FP.kp bP .nil passL (pa_cons (pv 2) (pa_cons (pv 5) pa_nil))) pa_nil)) (pe_callB (call_reprF hgd hr.units) (by rfl) mp (by decide +kernel) (pa_cons (pv 8) pa_nil)) (nomark _))
          (pw_or1 (pt_cmpR (op_neD hr.units) (pe_kwP (E := E0) (gV := List.reverse) GP hr (by rfl) gP FP.kp kP passL (fun _ r => r.reverse) (pk_cons (pv 5) (pk_cons (pv 2) pk_nil))) (pv 8) (nomark _))))) (pss_one (ps_ret pe_bl)) pss_nil))))))) ?_
    refine blk_cons (ps_ret pe_bl) ?_
    refine blk_nil ?_
    have lx : (xs.map V.int).length = xs.length := List.length_map _
    refine seq_out (t := tFor _ _ _) (fun σ' G' => On T h l H G' ∧ ∃ y3 y4 y6, σ' = [some (.ref h), some tv, some (.ref q), y3, y4, none, y6, none, none]) (fun N hN => ?_) (fun σ' G' hR => ?_)
    · refine ⟨by show 3 ≤ sizeLine; decide, fun pl npl => ⟨pl, rfl, ⟨_, sqL upd_same⟩, for_list (xs := [.int 2, .int 1, .int 99]) (fun i σ G => On T h l (upd H pl (.lst [.int 2, .int 1, .int 99])) G ∧ ∃ y3 y4 y6, σ = [some (.ref h), some tv, some (.ref q), y3, y4, none, y6, none, none]) ?_ ?_ ?_ ?_⟩⟩
      · exact ⟨(On.refl hv tb).same (same_new npl) |> fun o => ⟨fun _ _ _ e _ => e, o.tb, o.hv⟩, none, none, none, rfl⟩
      · intro i σ G _ hP
        refine sqL (hP.1.fr pl _ (fun m => ?_) upd_same fun _ z => nomatch z)
        obtain ⟨ys, z⟩ := lsts_hv hv pl m
        cases npl.symm.trans z
      · intro i x σ G hx hP
        obtain ⟨o, y3, y4, y6, rfl⟩ := hP
        dsimp only [gName]
        have hv0 := hv.new (o := .lst [.int 2, .int 1, .int 99]) npl
        have q0 : SqT K (upd H pl (.lst [.int 2, .int 1, .int 99])) q (xs.map V.int) := same_seqT (same_new npl) hq
        obtain ⟨sh, rfl, s0, s1⟩ : ∃ sh : Int, x = .int sh ∧ 0 < sh ∧ sh < 1000 := by
          rcases i with _ | _ | _ | i
          · exact ⟨2, (Option.some.inj hx).symm, by decide, by decide⟩
          · exact ⟨1, (Option.some.inj hx).symm, by decide, by decide⟩
          · exact ⟨99, (Option.some.inj hx).symm, by decide, by decide⟩
          · simp at hx
        obtain ⟨L1, st1, hv1⟩ := o.hv
        refine asg_go ⟨_, rfl, _, rfl, q, _, rfl, .inr (o.seqT hv0 q0), _, rfl, h, l, L1, st1, xs.length, sh, (by rw [lx]; rfl), hv1, hn, s0, s1, fun G2 L2 st2 q4 g b2 hv2 h4 => ?_⟩
        dsimp only [gName]
        have o2 := o.but b2 hv2
        rw [idx_nats] at h4
        have hq2 := o2.seqT hv0 q0
        have kb : ∀ k ∈ (List.range xs.length).filter g, k < xs.length := fun k m => List.mem_range.mp (List.mem_filter.mp m).1
        have kl : ((List.range xs.length).filter g).length ≤ 12 := by
          have := List.length_filter_le g (List.range xs.length)
          rw [List.length_range] at this
          omega
        generalize (List.range xs.length).filter g = ks at h4 kb kl
        refine asg_go ⟨_, rfl, q4, rfl, ⟨_, h4⟩, fun D nD => lc_tup (xs := natsV ks) (fun i G => Same G2 G ∧ G D = some (.lst (((ks.take i).map fun k => xs.getD k 0).map V.int))) ⟨same_new nD, upd_same⟩ (fun i G _ hP => same_seqT hP.1 h4) (fun i x G hx hP => ?_) (fun G hP => ?_)⟩
        · obtain ⟨s1, gD⟩ := hP
          rw [List.getElem?_map] at hx
          obtain ⟨kk, hkk, rfl⟩ := Option.map_eq_some_iff.mp hx
          have hlt := kb kk (List.mem_of_getElem? hkk)
          refine ⟨rfl, ?_⟩
          dsimp only [tYes]
          rw [if_pos rfl]
          refine ⟨_, rfl, _, rfl, q, _, _, .int (xs.getD kk 0), rfl, rfl, same_seqT s1 hq2, atI_nat (by rw [List.getElem?_map, List.getElem?_eq_getElem hlt, List.getD_eq_getElem?_getD, List.getElem?_eq_getElem hlt]; rfl), _, gD, by rw [List.length_map, List.length_map, List.length_take, sizeLine_eq]; omega, fun bb ob eb => (upd_ne (ne_of_none eb nD)).trans (s1 _ _ eb), ?_⟩
          rw [upd_same, List.take_add_one, hkk, List.map_append, List.map_append]
          rfl
        · obtain ⟨s1, gD⟩ := hP
          rw [show (natsV ks).length = ks.length from List.length_map _, List.take_length] at gD
          refine ⟨D, _, rfl, sqL gD, ?_⟩
          dsimp only [gName]
          have hlog := units_log hb kl
          refine ⟨_, rfl, _, rfl, q, q4, xs, ks, rfl, same_seqT s1 hq2, same_seqT s1 h4, kb, by omega, fun G3 s3 => ⟨_, rfl, hlog, ⟨_, rfl, _, rfl, hlog, rfl, _, rfl, ?_⟩⟩⟩
          rw [show decide (V.str (Str.ofString (toString (unitsIn xs ks))) = V.str (Str.ofString (toString (List.map (fun k => xs.getD k 0) ks).sum))) = true from decide_eq_true rfl]
          refine iteF ⟨_, rfl, _, rfl, rfl, q, q4, xs, ks, rfl, same_seqT (s1.trans s3) hq2, same_seqT (s1.trans s3) h4, kb, by omega, fun G4 s4 => ⟨_, rfl, rfl, _, rfl, ?_⟩⟩
          rw [show decide (V.int (unitsIn xs ks) = V.int (List.map (fun k => xs.getD k 0) ks).sum) = true from decide_eq_true rfl]
          exact iteF ⟨o2.same ((s1.trans s3).trans s4), _, _, _, rfl⟩
      · intro σ G hP
        obtain ⟨o, y3, y4, y6, e⟩ := hP
        refine hN σ G ⟨⟨fun b ob n eb t => o.fr b ob n ((upd_ne (ne_of_none eb npl)).trans eb) t, o.tb, o.hv⟩, y3, y4, y6, e⟩
    · obtain ⟨o, y3, y4, y6, rfl⟩ := hR
      refine seq_out (t := tFor _ _ _) (fun σ' G' => On T h l H G') (fun N hN => ?_) (fun σ' G' hR => qq G' hR)
      refine ⟨_, rfl, q, _, rfl, .inr (o.seqT hv hq), _, rfl, by omega, by omega, for_range (lo := 0) (fun i σ G => On T h l H G ∧ ∃ y3 y4 y5 y6 y7 y8, σ = [some (.ref h), some tv, some (.ref q), y3, y4, y5, y6, y7, y8]) ?_ ?_ ?_⟩
      · exact ⟨o, _, _, _, _, _, _, rfl⟩
      · intro i σ G hi hP
        obtain ⟨o1, y3, y4, y5, y6, y7, y8, rfl⟩ := hP
        have ez : (0 + (i : Int)) = (i : Int) := by omega
        rw [ez]
        dsimp only [gName]
        have hlt : i < xs.length := by omega
        have hu : xs[i]? = some xs[i] := List.getElem?_eq_getElem hlt
        have hub := hb _ (List.mem_of_getElem? hu)
        generalize xs[i] = u at hu hub
        have hq1 := o1.seqT hv hq
        have ixu : ∀ (G' : Hp) (σ : L2.St) (Q : VK), SqT K G' q (xs.map V.int) → σ[2]? = some (some (.ref q)) → σ[5]? = some (some (.int (i : Int))) → Q (.int u) G' → tOp (rIxT K) (tVar 2) (tVar 5) σ G' Q := fun G' σ Q hh e2 e5 qv => ⟨_, e2, _, e5, q, _, _, _, rfl, rfl, hh, atI_nat (by rw [List.getElem?_map, hu]; rfl), qv⟩
        refine seq_out (t := tPar _ _ _) (fun σ' G' => Same G G' ∧ ∃ r7 r8, SqT K G' r7 ((xs.set i (u - 1)).map V.int) ∧ SqT K G' r8 ((xs.set i (u + 1)).map V.int) ∧ σ' = [some (.ref h), some tv, some (.ref q), y3, y4, some (.int (i : Int)), y6, some (.ref r7), some (.ref r8)]) (fun N hN => ?_) (fun σ' G' hR => ?_)
        · have lm : ∀ (v : Int), (xs.map V.int).set i (.int v) = (xs.set i v).map V.int := fun v => List.map_set.symm
          refine put_to (v := .int (u - 1)) rfl rfl hq1 (by omega) (by omega) (fun G' s' Q' q' => ixu _ _ _ (same_seqT s' hq1) rfl rfl ⟨_, _, rfl, rfl, q'⟩) fun G2 r2 s2 h2 => ?_
          refine put_to (v := .int (u + 1)) rfl rfl (same_seqT s2 hq1) (by omega) (by omega) (fun G' s' Q' q' => ixu _ _ _ (same_seqT (s2.trans s') hq1) rfl rfl ⟨_, _, rfl, rfl, q'⟩) fun G3 r3 s3 h3 => ⟨_, _, rfl, hN _ _ ⟨s2.trans s3, r2, r3, ?_, ?_, rfl⟩⟩
          · rw [← lm]
            exact same_seqT s3 h2
          · rw [← lm]
            exact h3
        · obtain ⟨s2, r7, r8, h7, h8, rfl⟩ := hR
          have o2 := o1.same s2
          have hq2 := o2.seqT hv hq
          refine seq_out (t := tIfS _ _ _) (fun σ' G'' => LamX.ExtN G' G'' ∧ LamX.Tabs T G'' ∧ ∃ y6, σ' = [some (.ref h), some tv, some (.ref q), y3, y4, some (.int (i : Int)), y6, some (.ref r7), some (.ref r8)]) (fun N hN => ?_) (fun σ'' G'' hR => ?_)
          · refine ixu _ _ _ hq2 rfl rfl ⟨rfl, _, rfl, ?_⟩
            by_cases hu0 : u = 0
            · rw [hu0, decide_eq_true rfl]
              refine iteT (ifS_go ⟨o2.tb, fun H1 e1 t1 => ⟨_, rfl, _, rfl, q, xs, i, u, rfl, (o2.ext e1 t1).seqT hv hq, hu, by omega, fun z => absurd hu0 z, fun _ d G3 nd s3 gd => ⟨d, rfl, .inr ⟨"unit", gd, rfl, ?_⟩⟩⟩⟩)
              refine ⟨.str "unit", .str "unit", .str _, .str _, by decide +kernel, by decide +kernel, _, rfl, ?_⟩
              rw [show PyData.eqv (.str "unit") (.str "unit") = true from by decide +kernel]
              have o3 := (o2.ext e1 t1).same s3
              have x2 : LamX.ExtN G' G3 := e1.trans (.of s3)
              exact iteF (hN _ _ ⟨x2, o3.tb, _, rfl⟩)
            · rw [decide_eq_false (show ¬ V.int u = V.int 0 from fun z => hu0 (V.int.inj z))]
              have f7 : Fd (.tuple ((xs.set i (u - 1)).map .int)) := ints_fd (fun x m => ?_) (by rw [List.length_set]; omega)
              have d7 : ∀ {G}, Same G' G → Dp K G (.ref r7) (.tuple ((xs.set i (u - 1)).map .int)) := fun s => .tup (same_seqT s h7) (dpAll_ints _)
              have n7 : noList (.tuple ((xs.set i (u - 1)).map .int)) = true := by rw [noList]; exact noList_intsD _
              refine iteF (ifS_go (re_ne_no n7 f7 (fun Q q' => ⟨_, rfl, _, rfl, q, xs, i, u, rfl, hq2, hu, by omega, fun _ G r s h => q' _ _ s (.tup h (dpAll_ints _)), fun z => absurd z hu0⟩) (fun G s => gv_var rfl (d7 s))
                (fun G s Q q' => ⟨_, rfl, _, rfl, rfl, q, xs, i, u, rfl, same_seqT s hq2, hu, by omega, fun _ G r s h => q' _ _ s (.tup h (dpAll_ints _)), fun z => absurd z hu0⟩) (fun G s => gv_var rfl (d7 s)) fun G s => iteF (hN _ _ ⟨.of s, o2.tb.ext s, _, rfl⟩)))
              rcases List.mem_or_eq_of_mem_set m with m | m
              · have := hb _ m
                omega
              · omega
          · obtain ⟨e3, t3, y9, rfl⟩ := hR
            have o3 := o2.ext e3 t3
            have hq3 := o3.seqT hv hq
            have h8 : SqT K G'' r8 ((xs.set i (u + 1)).map V.int) := (Fr.ext (S := []) e3).seqT (fun _ m => nomatch m) h8
            refine ifS_go (ixu _ _ _ hq3 rfl rfl ⟨rfl, _, rfl, ?_⟩)
            by_cases hu0 : u = 400
            · rw [hu0, decide_eq_true rfl]
              refine iteT (ifS_go ⟨t3, fun H1 e1 t1 => ⟨_, rfl, _, rfl, q, xs, i, u, rfl, (o3.ext e1 t1).seqT hv hq, hu, by omega, fun z => absurd z (by omega), fun _ d G3 nd s3 gd => ⟨d, rfl, .inr ⟨"units", gd, rfl, ?_⟩⟩⟩⟩)
              refine ⟨.str "units", .str "units", .str _, .str _, by decide +kernel, by decide +kernel, _, rfl, ?_⟩
              rw [show PyData.eqv (.str "units") (.str "units") = true from by decide +kernel]
              exact iteF ⟨(o3.ext e1 t1).same s3, _, _, _, _, _, _, rfl⟩
            · rw [decide_eq_false (show ¬ V.int u = V.int 400 from fun z => hu0 (V.int.inj z))]
              have f8 : Fd (.tuple ((xs.set i (u + 1)).map .int)) := ints_fd (fun x m => ?_) (by rw [List.length_set]; omega)
              have d8 : ∀ {G}, Same G'' G → Dp K G (.ref r8) (.tuple ((xs.set i (u + 1)).map .int)) := fun s => .tup (same_seqT s h8) (dpAll_ints _)
              have n8 : noList (.tuple ((xs.set i (u + 1)).map .int)) = true := by rw [noList]; exact noList_intsD _
              refine iteF (ifS_go (re_ne_no n8 f8 (fun Q q' => ⟨_, rfl, _, rfl, q, xs, i, u, rfl, hq3, hu, by omega, fun _ G r s h => q' _ _ s (.tup h (dpAll_ints _)), fun z => absurd z (by omega)⟩) (fun G s => gv_var rfl (d8 s))
                (fun G s Q q' => ⟨_, rfl, _, rfl, rfl, q, xs, i, u, rfl, same_seqT s hq3, hu, by omega, fun _ G r s h => q' _ _ s (.tup h (dpAll_ints _)), fun z => absurd z (by omega)⟩) (fun G s => gv_var rfl (d8 s)) fun G s => iteF ⟨o3.same s, _, _, _, _, _, _, rfl⟩))
              rcases List.mem_or_eq_of_mem_set m with m | m
              · have := hb _ m
                omega
              · omega
      · intro σ G hP
        exact hN σ G hP.1
end
end K3
namespace K3
open PySem PySem.Spec PyProof.Rows L2 Gd
theorem counts_bd : ∀ (l : List (Option Nat)) (c : List Int) (B : Int), (∀ x ∈ c, 0 ≤ x ∧ x ≤ B) → 0 ≤ B → ∀ x ∈ l.foldl cstep c, 0 ≤ x ∧ x ≤ B + l.length
  | [], c, B, h, _, x, m => by
    have := h x m
    rw [List.length_nil]
    omega
  | o :: r, c, B, h, h0, x, m => by
    have ih := counts_bd r (cstep c o) (B + 1) (fun y my => ?_) (by omega) x m
    · rw [List.length_cons]
      omega
    cases o with
    | none =>
      have := h y my
      omega
    | some a =>
      rcases List.mem_or_eq_of_mem_set my with m2 | m2
      · have := h y m2
        omega
      · have e : 0 ≤ c.getD a 0 ∧ c.getD a 0 ≤ B := by
          rw [List.getD_eq_getElem?_getD]
          cases q : c[a]? with
          | none => exact ⟨Int.le_refl _, h0⟩
          | some z => exact h z (List.mem_of_getElem? q)
        omega
theorem countsL_bd {n : Nat} {l : List (Option Nat)} : ∀ x ∈ countsL n l, 0 ≤ x ∧ x ≤ l.length := fun x m => by
  have := counts_bd l (List.replicate n 0) 0 (fun y my => by rw [List.eq_of_mem_replicate my]; exact ⟨Int.le_refl _, Int.le_refl _⟩) (Int.le_refl _) x m
  omega
theorem its_fd {xs : List (Option Int)} (h : ∀ i, some i ∈ xs → i.natAbs < 10 ^ 9) (hl : xs.length ≤ 1000) : Fd (.tuple (xs.map itD)) := by
  have f : fine (.tuple (xs.map itD)) = true := by
    rw [fine]
    refine fineAll_mem fun d hd => ?_
    obtain ⟨o, ho, rfl⟩ := List.mem_map.mp hd
    cases o with
    | none => rfl
    | some i => exact decide_eq_true (h i ho)
  refine ⟨f, ?_, ?_⟩
  · rw [PyData.depth]
    have : PyData.depthAll (xs.map itD) ≤ 0 := depthAll_mem fun d hd => by
      obtain ⟨o, ho, rfl⟩ := List.mem_map.mp hd
      cases o <;> exact Nat.le_refl _
    omega
  · have key : ∀ xs : List (Option Int), costAll (xs.map itD) ≤ 12 * xs.length := fun xs => by
      induction xs with
      | nil => exact Nat.le_refl _
      | cons o r ih =>
        rw [List.map_cons, costAll, List.length_cons]
        have : costD (itD o) ≤ 10 := by
          cases o with
          | none => decide
          | some i => exact Nat.le_refl _
        omega
    have := key xs
    rw [costD]
    have : (12 * 1000 + 2 : Nat) ≤ sizeLine := by decide
    omega
theorem nl_its (xs : List (Option Int)) : noList (.tuple (xs.map itD)) = true := by
  rw [noList]
  refine noListAll_mem fun d hd => ?_
  obtain ⟨o, _, rfl⟩ := List.mem_map.mp hd
  cases o <;> rfl
theorem dp_it {K : PySem.W.Frag} {H : Hp} (o : Option Int) : Dp K H (itV o) (itD o) := by
  cases o with
  | none => exact .non
  | some i => exact .int i
theorem its_int {xs : List Int} : xs.map V.int = (xs.map some).map itV := (ints_it xs).symm
section
variable {P : Program} {w : World} {K : PySem.W.Frag} {mg : Str → Option Value} {base : Heap}
/-! ### _law_requests_right -/
def spQR (K : PySem.W.Frag) (T : List (Addr × Str)) (C : Addr) : Sp := fun vs H Q _ => ∃ (p dx pk pt bq rq : Addr) (t : TD) (bs : List (Option Int)) (l : List Nat), vs = [.ref p, .ref bq, .ref rq] ∧ TblAt K C H p dx pk pt t ∧ TOk t ∧ LamX.Tabs T H ∧ SqT K H bq (bs.map itV) ∧ bs.length ≤ 12 ∧ (∀ i, some i ∈ bs → 0 ≤ i ∧ i ≤ 400) ∧
  SqT K H rq (natsV l) ∧ (∀ a ∈ l, a < t.types.length) ∧ l.length ≤ 400 ∧ ∀ G, LamX.ExtN H G → LamX.Tabs T G → Q (.bl true) G
theorem ok_qr {f fB fR fH C CS CB CW CF CD CT c Pt : Addr} {fd fdB fdR fdH : FuncData} {k : Nat} {T : List (Addr × Str)} (F : Fun K "_law_requests_right" "_law_requests_right" s__law_requests_right f fd) (hc : fd.code = .ref c) (LT : LamT T base mg c Pt ("_law_requests_right" ++ ".<locals>." ++ "<lambda>"))
    (TT : TTxt K mg C) (FB : Fun K "bounds_after" "bounds_after" s_bounds_after fB fdB) (bB : Binds K fdB ["bounds", "request"] []) (kB : KwB fdB ["bounds", "request"] ["request", "bounds"] List.reverse) (gB : mg "bounds_after" = some (.ref fB)) (GB : FnOk P w K mg base (L2.CX P w) k fB fdB ["bounds", "request"] (spBAfter K CF))
    (FR : Fun K "row_counts" "row_counts" s_row_counts fR fdR) (bR : Binds K fdR ["table", "row"] []) (kR : KwB fdR ["table", "row"] ["row", "table"] List.reverse) (gR : mg "row_counts" = some (.ref fR)) (GR : FnOk P w K mg base CX0 k fR fdR ["table", "row"] (spRC K C))
    (FH : Fun K "_law_heard" "_law_heard" s__law_heard fH fdH) (bH : Binds K fdH ["action"] []) (gH : mg "_law_heard" = some (.ref fH)) (TH : HTxt K mg CS CB CW CF CD CT) (mI : mg "isinstance" = none)
    (ml : mg "len" = none) (mr : mg "range" = none) (mt : mg "tuple" = none) (mp : mg "repr" = none) :
    FnG P w K mg base (k + 2 + 1) f fd ["table", "bounds", "row"] (spQR K T C) := by
  refine okGC F hc sc__law_requests_right (fun vs H Q E h => ?_) (fun A outer s H vs Q E hrg h => ?_)
  · obtain ⟨p, dx, pk, pt, bq, rq, t, bs, l, rfl, _⟩ := h
    rfl
  · obtain ⟨p, dx, pk, pt, bq, rq, t, bs, l, rfl, d, ok, tb, hq, hn, hb, hrq, hl, hl4, qq⟩ := h
    have hr2 := hrg.rm
    have hr : Room k _ := hr2.mono (Nat.le_add_right _ _)
    have hgd := hrg.gd
    refine blk_cons (ps_for PassesOwn.never rfl (pi_range1 (by rfl) mr (pa_cons (pe_callB call_len_seq (by rfl) ml PySem.boot_len (pa_cons (pv 1) pa_nil)) pa_nil)) (pg_name (i := 6) sc__law_requests_right.nd rfl (.inr rfl))
      (pss_cons (ps_if (pt_cmpR (op_eqD hr.units) (pe_ix (r := rIxT K) ix_tup (pv 1) (pv 6) (fun _ _ => rfl)) pe_int (nomark _)) (pss_cons (ps_if (pt_cmpR (op_neD hr.units) (pe_hd (k := k) FH bH (by rfl) gH TH mI LT rfl hr2 (LamX.lamS_by (sc := defScope s__law_requests_right) (by decide +kernel)) (fun A out s H E f c' hr' => pe_call (E := E) GB hr' (by rfl) gB FB.kp bB .nil passX (pa_cons (pv 1) (pa_cons (pv 6) pa_nil)))) pe_str (nomark _)) (pss_one (ps_ret pe_bl)) pss_nil)
        (pss_one ps_continue)) pss_nil)
      (pss_cons (ps_set (i := 3) sc__law_requests_right.nd rfl (.inl rfl) (pe_op (r := rCatA K) op_catA (pe_op (r := rCatA K) op_catA (pe_slice (r := rSlA K) sl_tupA (pv 1) po_none (po_some (pv 6))) (pe_tup (pa_cons (pe_ifExp (pt_cmpR op_isN (pe_ix (r := rIxT K) ix_tup (pv 1) (pv 6) (fun _ _ => rfl)) pe_non (nomark _)) pe_non (pe_op op_sub (pe_ix (r := rIxT K) ix_tup (pv 1) (pv 6) (fun _ _ => rfl)) pe_int)) pa_nil))) (pe_slice (r := rSlA K) sl_tupA (pv 1) (po_some (pe_op op_add (pv 6) pe_int)) po_none)))
      (pss_one (ps_if (PW.pt (pw_or (pt_cmpR op_ne (pe_callB (call_reprF hgd hr.units) (by rfl) mp (by decide +kernel) (pa_cons (pe_call (E := E0) GB hr (by rfl) gB FB.kp bB .nil passL (pa_cons (pv 1) (pa_cons (pv 6) pa_nil))) pa_nil)) (pe_callB (call_reprF hgd hr.units) (by rfl) mp (by decide +kernel) (pa_cons (pv 3) pa_nil)) (nomark _))
          (pw_or1 (pt_cmpR (op_neD hr.units) (pe_kwP (E := E0) (gV := List.reverse) GB hr (by rfl) gB FB.kp kB passL (fun _ r => r.reverse) (pk_cons (pv 6) (pk_cons (pv 1) pk_nil))) (pv 3) (nomark _))))) (pss_one (ps_ret pe_bl)) pss_nil))))) ?_
    refine blk_cons (ps_set (i := 4) sc__law_requests_right.nd rfl (.inl rfl) (pe_op op_rep (pe_lst (pa_cons pe_int pa_nil)) (pe_callB call_len_seq (by rfl) ml PySem.boot_len (pa_cons (pe_fld (pv 0) rfl) pa_nil)))) ?_
    refine blk_cons (ps_for PassesOwn.never rfl (pi_tup (pv 2)) (pg_name (i := 5) sc__law_requests_right.nd rfl (.inl rfl)) (pss_one (ps_asg (pe_op op_add (pe_ix ix_list (pv 4) (pv 5) (fun _ _ => rfl)) pe_int) (pg_sub (pv 4) (pv 5) set_list)))) ?_
    refine blk_cons (ps_ret (pe_and (pe_cmpR op_eq (pe_callB (call_reprF hgd hr.units) (by rfl) mp (by decide +kernel) (pa_cons (pe_call (E := E0) GR hr (by rfl) gR FR.kp bR .nil pass0 (pa_cons (pv 0) (pa_cons (pv 2) pa_nil))) pa_nil)) (pe_callB (call_reprF hgd hr.units) (by rfl) mp (by decide +kernel) (pa_cons (pe_callTy call_tuple_of (by rfl) mt (by decide +kernel) (pa_cons (pv 4) pa_nil)) pa_nil)) (nomark _))
      (pe_one (pe_cmpR (op_eqD hr.units) (pe_kwP (E := E0) (gV := List.reverse) GR hr (by rfl) gR FR.kp kR pass0 (fun _ r => r.reverse) (pk_cons (pv 2) (pk_cons (pv 0) pk_nil))) (pe_callTy call_tuple_of (by rfl) mt (by decide +kernel) (pa_cons (pv 4) pa_nil)) (nomark _))))) ?_
    refine blk_nil ?_
    have lx : (bs.map itV).length = bs.length := List.length_map _
    refine seq_out (t := tFor _ _ _) (fun σ' G' => LamX.ExtN H G' ∧ LamX.Tabs T G' ∧ ∃ y3 y5 y6, σ' = [some (.ref p), some (.ref bq), some (.ref rq), y3, none, y5, y6]) (fun N hN => ?_) (fun σ' G' hR => ?_)
    · refine ⟨_, rfl, bq, _, rfl, .inr hq, _, rfl, by omega, by omega, for_range (lo := 0) (fun i σ G => LamX.ExtN H G ∧ LamX.Tabs T G ∧ ∃ y3 y5 y6, σ = [some (.ref p), some (.ref bq), some (.ref rq), y3, none, y5, y6]) ?_ ?_ ?_⟩
      · exact ⟨.refl _, tb, _, _, _, rfl⟩
      · intro i σ G hi hP
        obtain ⟨o1, t1, y3, y5, y6, rfl⟩ := hP
        have ez : (0 + (i : Int)) = (i : Int) := by omega
        rw [ez]
        dsimp only [gName]
        have hlt : i < bs.length := by omega
        have hu : bs[i]? = some bs[i] := List.getElem?_eq_getElem hlt
        generalize bs[i] = u at hu
        have hub : ∀ z, u = some z → 0 ≤ z ∧ z ≤ 400 := fun z e => hb z (List.mem_of_getElem? (e ▸ hu))
        have st : ∀ {G a xs}, LamX.ExtN H G → SqT K H a xs → SqT K G a xs := fun e s => (Fr.ext (S := []) e).seqT (fun _ m => nomatch m) s
        have hq1 := st o1 hq
        have ixu : ∀ (G' : Hp) (σ : L2.St) (Q : VK), SqT K G' bq (bs.map itV) → σ[1]? = some (some (.ref bq)) → σ[6]? = some (some (.int (i : Int))) → Q (itV u) G' → tOp (rIxT K) (tVar 1) (tVar 6) σ G' Q := fun G' σ Q hh e2 e5 qv => ⟨_, e2, _, e5, bq, _, _, _, rfl, rfl, hh, atI_nat (by rw [List.getElem?_map, hu]; rfl), qv⟩
        refine seq_go (ifS_go (ixu _ _ _ hq1 rfl rfl ⟨itD u, .int 0, dp_it u, .int 0, ?_, by decide +kernel, _, rfl, ?_⟩))
        · cases u with
          | none => decide +kernel
          | some z => exact fine_shaped (decide_eq_true (by have := hub z rfl; omega)) (by show (0 : Nat) ≤ 60; decide)
        by_cases hu0 : u = some 0
        · subst hu0
          rw [show PyData.eqv (itD (some 0)) (.int 0) = true from by decide +kernel]
          refine iteT (seq_go (ifS_go ⟨t1, fun H1 e1 t1 => ⟨_, rfl, _, rfl, bq, bs, i, some 0, rfl, st (o1.trans e1) hq, hu, by omega, fun z => absurd rfl z, fun _ d G3 nd s3 gd => ⟨d, rfl, .inr ⟨"bound", gd, rfl, ?_⟩⟩⟩⟩))
          refine ⟨.str "bound", .str "bound", .str _, .str _, by decide +kernel, by decide +kernel, _, rfl, ?_⟩
          rw [show PyData.eqv (.str "bound") (.str "bound") = true from by decide +kernel]
          exact iteF ⟨(o1.trans e1).trans (.of s3), t1.ext s3, _, _, _, rfl⟩
        · have ev : PyData.eqv (itD u) (.int 0) = false := by
            cases u with
            | none => rfl
            | some z =>
              show (z == 0) = false
              exact beq_eq_false_iff_ne.mpr fun e => hu0 (by rw [e])
          rw [ev]
          refine iteF ?_
          dsimp only [tNext]
          refine asg_go ?_
          refine put_to (v := itV (u.map (· - 1))) rfl rfl hq1 (by omega) (by omega) (fun G' s' Q' q' => ixu _ _ _ (same_seqT s' hq1) rfl rfl ⟨rfl, _, rfl, ?_⟩) fun G2 r2 s2 h2 => ?_
          · cases u with
            | none => rw [decide_eq_true rfl]; exact iteT q'
            | some z =>
              rw [decide_eq_false (show ¬ itV (some z) = V.non from fun e => nomatch e)]
              exact iteF (ixu _ _ _ (same_seqT s' hq1) rfl rfl ⟨_, _, rfl, rfl, q'⟩)
          dsimp only [gName]
          rw [← List.map_set] at h2
          have hq2 := same_seqT s2 hq1
          have f7 : Fd (.tuple ((bs.set i (u.map (· - 1))).map itD)) := its_fd (fun z m => ?_) (by rw [List.length_set]; omega)
          have d7 : ∀ {G}, Same G2 G → Dp K G (.ref r2) (.tuple ((bs.set i (u.map (· - 1))).map itD)) := fun s => .tup (same_seqT s h2) (dpAll_its _)
          refine ifS_go (re_ne_no (nl_its _) f7 (fun Q q' => ⟨_, rfl, _, rfl, bq, bs, i, u, rfl, hq2, hu, by omega, fun _ G r s h => q' _ _ s (.tup h (dpAll_its _)), fun z => absurd z hu0⟩) (fun G s => gv_var rfl (d7 s))
            (fun G s Q q' => ⟨_, rfl, _, rfl, rfl, bq, bs, i, u, rfl, same_seqT s hq2, hu, by omega, fun _ G r s h => q' _ _ s (.tup h (dpAll_its _)), fun z => absurd z hu0⟩) (fun G s => gv_var rfl (d7 s)) fun G s => iteF ⟨o1.trans (.of (s2.trans s)), t1.ext (s2.trans s), _, _, _, rfl⟩)
          rcases List.mem_or_eq_of_mem_set m with m | m
          · have := hb _ m
            omega
          · cases u with
            | none => cases m
            | some z2 =>
              have := hub z2 rfl
              cases m
              show (z2 - 1).natAbs < _
              omega
      · intro σ G hP
        exact hN σ G hP
    · obtain ⟨o1, t1, y3, y5, y6, rfl⟩ := hR
      have d1 := TblAt.fr (.ext (S := []) o1) (fun _ m => nomatch m) d
      have hrq1 : SqT K G' rq (natsV l) := (Fr.ext (S := []) o1).seqT (fun _ m => nomatch m) hrq
      obtain ⟨tus, htq, hda⟩ := types_sq d1.td
      have lk : tus.length = t.types.length := by rw [dpAll_len hda, List.length_map]
      have t12 := ok.t12
      refine asg_go ⟨by show 1 ≤ sizeLine; decide, fun p1 n1 => ⟨_, rfl, p, C, dx, _, _, rfl, (d1.same (same_new n1)).obj, TT.cl, TT.nT, tf_t _ _, pt, _, rfl, .inr (same_seqT (same_new n1) htq), p1, _, _, rfl, rfl, upd_same, by omega, by omega, by rw [sizeLine_eq]; show 1 * _ ≤ _; omega, fun F1 nF => ?_⟩⟩
      have s1 := (same_new (o := .lst [V.int 0]) n1).trans (same_new (o := .lst (List.replicate ((tus.length : Int)).toNat [V.int 0]).flatten) nF)
      have g1 := upd_same (H := upd G' p1 (.lst [V.int 0])) (a := F1) (o := .lst (List.replicate ((tus.length : Int)).toNat [V.int 0]).flatten)
      have nF0 : G' F1 = none := (same_new (o := .lst [V.int 0]) n1).free nF
      rw [flat0, show ((tus.length : Int)).toNat = t.types.length by omega] at g1 s1
      rw [flat0, show ((tus.length : Int)).toNat = t.types.length by omega]
      generalize upd (upd G' p1 (.lst [V.int 0])) F1 (.lst ((List.replicate t.types.length (0 : Int)).map V.int)) = G1 at s1 g1 ⊢
      dsimp only [gName]
      refine seq_out (t := tFor _ _ _) (fun σ' J => ∃ y5 : Option V, σ' = [some (.ref p), some (.ref bq), some (.ref rq), y3, some (.ref F1), y5, y6] ∧ Same G' J ∧ J F1 = some (.lst ((countsL t.types.length (l.map some)).map V.int))) (fun N hN => ?_) (fun σ' J hR => ?_)
      · refine ⟨_, rfl, rq, rfl, ⟨_, same_seqT s1 hrq1⟩, for_tup (xs := natsV l) (fun i σ J => ∃ y5 : Option V, σ = [some (.ref p), some (.ref bq), some (.ref rq), y3, some (.ref F1), y5, y6] ∧ Same G' J ∧ J F1 = some (.lst ((countsL t.types.length ((l.map some).take i)).map V.int))) ⟨_, rfl, s1, g1⟩ (fun i σ J _ hP => ?_) (fun i x σ J hx hP => ?_) (fun σ J hP => ?_)⟩
        · obtain ⟨_, _, z, _⟩ := hP
          exact same_seqT z hrq1
        · obtain ⟨y5, rfl, s2, g2⟩ := hP
          rw [List.getElem?_map] at hx
          obtain ⟨a, ho, rfl⟩ := Option.map_eq_some_iff.mp hx
          have tk : (l.map some).take (i + 1) = (l.map some).take i ++ [some a] := by
            rw [List.take_add_one, List.getElem?_map, ho]
            rfl
          rw [tk, countsL_snoc]
          have lc := countsL_len t.types.length ((l.map some).take i)
          generalize countsL t.types.length ((l.map some).take i) = c at g2 lc ⊢
          dsimp only [gName]
          have han := hl a (List.mem_of_getElem? ho)
          have hca : c[a]? = some (c.getD a 0) := by
            rw [List.getD_eq_getElem?_getD, List.getElem?_eq_getElem (by omega)]
            rfl
          refine ⟨_, rfl, _, rfl, F1, _, _, .int (c.getD a 0), rfl, rfl, sqL g2, atI_nat (by rw [List.getElem?_map, hca]; rfl), _, _, rfl, rfl, ?_⟩
          refine ⟨_, rfl, _, rfl, F1, _, _, a, rfl, rfl, g2, ixN_nat (by rw [List.length_map]; omega), ?_⟩
          refine ⟨_, rfl, fun bb ob eb => (upd_ne (ne_of_none eb nF0)).trans (s2 _ _ eb), ?_⟩
          rw [upd_same]
          show some (HO.lst _) = some (HO.lst ((c.set a (c.getD a 0 + 1)).map V.int))
          rw [List.map_set]
        · obtain ⟨y5, rfl, s2, g2⟩ := hP
          rw [show (natsV l).length = (l.map some).length by rw [List.length_map, List.length_map], List.take_length] at g2
          exact hN _ _ ⟨_, rfl, s2, g2⟩
      · obtain ⟨y5, rfl, s2, g2⟩ := hR
        have fc : Fd (.tuple ((countsL t.types.length (l.map some)).map .int)) := ints_fd (fun x m => by
          have := countsL_bd x m
          rw [List.length_map] at this
          omega) (by rw [countsL_len]; omega)
        have nc : noList (.tuple ((countsL t.types.length (l.map some)).map .int)) = true := by rw [noList]; exact noList_intsD _
        have d2 := d1.same s2
        have hrq2 := same_seqT s2 hrq1
        have v2 : ∀ {G σ}, Same J G → σ[4]? = some (some (V.ref F1)) → Gv K σ G (tCB (fun xs H Q => ∃ p ys, xs = [.ref p] ∧ ((SqL K H p ys ∧ ∀ t, H t = none → Q (.ref t) (upd H t (.tup ys))) ∨ (SqT K H p ys ∧ Q (.ref p) H))) (tCons (tVar 4) tNil)) (.tuple ((countsL t.types.length (l.map some)).map .int)) := fun s e Q q' => ⟨_, e, F1, _, rfl, .inl ⟨sqL (s _ _ g2), fun t nt => q' _ _ (same_new nt) (.tup (sqT upd_same) (dpAll_ints _))⟩⟩
        refine ret_go (re_eq_and nc fc (fun Q q' => ⟨_, rfl, _, rfl, p, dx, pk, pt, rq, t, l, rfl, d2, ok, hrq2, hl, fun G r s h => q' _ _ s (.tup h (dpAll_ints _))⟩) (fun G s => v2 s rfl)
          (fun G s Q q' => ⟨_, rfl, _, rfl, rfl, p, dx, pk, pt, rq, t, l, rfl, d2.same s, ok, same_seqT s hrq2, hl, fun G r s h => q' _ _ s (.tup h (dpAll_ints _))⟩) (fun G s => v2 s rfl) fun G s => ?_)
        exact qq _ (o1.trans (.of (s2.trans s))) (t1.ext (s2.trans s))
end
end K3
namespace K3
open PySem PySem.Spec PyProof.Rows L2 Gd
/-- what is heard of a check with such a fault -/
def hD (z : Str) : Option Int → PyData
  | none => .none
  | some i => .tuple [.str z, .int i]
theorem nl_hD (z : Str) (r : Option Int) : noList (hD z r) = true := by
  cases r <;> rfl
theorem dp_ext {K : PySem.W.Frag} {H G : Hp} (e : LamX.ExtN H G) (d : PyData) (v : V) (n : noList d = true) (h : Dp K H v d) : Dp K G v d := dp_sq (fun a xs s => (Fr.ext (S := []) e).seqT (fun _ m => nomatch m) s) d v n h
/-- a lambda that checks: no fault, or an error that tells it -/
def Chk (T : List (Addr × Str)) (σ : L2.St) (H : Hp) (t : XK → TE) (r : Option Int) (C : Addr) : Prop := ∀ (E : XK) (G : Hp) (Q : VK), LamX.ExtN H G → LamX.Tabs T G → (r = none → ∀ G', Same G G' → Q .non G') →
  (∀ i, r = some i → ∀ d G', G d = none → Same G G' → G' d = some (xdA i) → E (.ref C) (some d) G') → t E σ G Q
theorem hear_to {K : PySem.W.Frag} {T : List (Addr × Str)} {CS CB CW CF C : Addr} {z : Str} {σ : L2.St} {H : Hp} {t : XK → TE} {r : Option Int} {Q : VK} (hz : C = CS ∧ z = "stock" ∨ C = CB ∧ z = "bounds" ∨ C = CW ∧ z = "row") (tb : LamX.Tabs T H) (h : Chk T σ H t r C)
    (q : ∀ G v, LamX.ExtN H G → LamX.Tabs T G → Dp K G v (hD z r) → Q v G) : LamX.tLam T (TTs (RHd K CS CB CW CF) .non) t σ H Q := by
  refine ⟨tb, fun H1 e1 t1 => h _ H1 _ e1 t1 (fun hr G' s => q _ _ (e1.trans (.of s)) (t1.ext s) (by rw [hr]; exact .non)) fun i hr d G' nd s hd => ⟨d, rfl, .inl ⟨i, C, z, hd, rfl, hz, fun G2 a s2 ha => q _ _ ((e1.trans (.of s)).trans (.of s2)) ((t1.ext s).ext s2) ?_⟩⟩⟩
  rw [hr]
  exact .tup ha (.cons (.str z) (.cons (.int i) .nil))
theorem tabs_put {T : List (Addr × Str)} {H : Hp} {a : Addr} {xs : List V} {o : HO} (e : H a = some (.lst xs)) (t : LamX.Tabs T H) : LamX.Tabs T (upd H a o) := fun p hp => by
  obtain ⟨ps, e1, ok, al⟩ := t p hp
  have n1 : p.1 ≠ a := fun z => by rw [z, e] at e1; cases e1
  refine ⟨ps, (upd_ne n1).trans e1, ok, fun pos cv hc => ?_⟩
  obtain ⟨c, e2, e3⟩ := al pos cv hc
  refine ⟨c, e2, (upd_ne fun z => ?_).trans e3⟩
  rw [z, e] at e3
  unfold LamX.CodeO at e3
  cases e3
theorem rgV_nats (n : Nat) : rgV 0 (n : Int) = natsV (List.range n) := by
  unfold rgV
  rw [show ((n : Int) - 0).toNat = n by omega]
  refine List.map_congr_left fun i _ => ?_
  rw [Int.zero_add]
theorem hD_fine {z : Str} (hz : z = "stock" ∨ z = "bounds" ∨ z = "row") {r : Option Int} (hr : ∀ i, r = some i → i.natAbs < 10 ^ 9) : fine (.list [hD z r, hD z r]) = true ∧ (PyData.list [hD z r, hD z r]).depth ≤ 60 ∧ costD (.list [hD z r, hD z r]) ≤ sizeLine := by
  have fz : (z.cps.toList.all (· < 1000)) = true ∧ z.length ≤ 10 := by rcases hz with rfl | rfl | rfl <;> exact ⟨by decide +kernel, by decide +kernel⟩
  cases r with
  | none => exact ⟨rfl, by show (1 : Nat) ≤ 60; decide, by show (14 : Nat) ≤ sizeLine; decide⟩
  | some i =>
    have hi := hr i rfl
    have f1 : fine (hD z (some i)) = true := by
      unfold hD
      show (fine (.str z) && (fine (.int i) && true)) = true
      rw [show fine (.str z) = true from fz.1, show fine (.int i) = true from decide_eq_true hi]
      rfl
    refine ⟨?_, ?_, ?_⟩
    · rw [fine, fineAll, fineAll, f1]
      rfl
    · unfold hD
      show (2 : Nat) ≤ 60
      decide
    · have : costD (.list [hD z (some i), hD z (some i)]) = 2 * ((10 * z.length + 2 + 2 + (10 + 2 + 0) + 2) + 2) + 2 := by
        unfold hD
        rw [costD, costAll, costAll, costAll, costD, costAll, costAll, costAll, costD, costD]
        omega
      rw [this]
      have : (1000 : Nat) ≤ sizeLine := by decide
      omega
end K3
namespace K3
open PySem PySem.Spec PyProof.Rows L2 Gd
theorem paired_imp {α β : Type} {R S : α → β → Prop} (h : ∀ x y, R x y → S x y) : ∀ {xs : List α} {ys : List β}, Paired R xs ys → Paired S xs ys
  | _, _, .nil => .nil
  | _, _, .cons a t => .cons (h _ _ a) (paired_imp h t)
theorem AnyV.ext {K : PySem.W.Frag} {nn : Bool} {lim : Int} {H G : Hp} {x : V} {r : Option (List Bool)} (e : LamX.ExtN H G) (h : AnyV K nn lim H x r) : AnyV K nn lim G x r := by
  have f : Fr [] H G := .ext e
  have ty : ∀ {y : V} {m : String}, TyN K H y m → TyN K G y m := fun t => tyX_fr f (fun _ m => nomatch m) t
  cases h with
  | no t k => exact .no (ty t) k
  | tup s l p => exact .tup (f.seqT (fun _ m => nomatch m) s) l (paired_imp (fun y b i => i.imp (fun z => ⟨z.1.imp id fun w => w.imp id fun ⟨n, t, k⟩ => ⟨n, ty t, k⟩, z.2⟩) id) p)
theorem firstF_lt {bs : List Bool} {j : Nat} (h : firstF bs = some j) : j < bs.length := (List.getElem?_eq_some_iff.mp (firstF_at h).1).1
theorem fault_small {K : PySem.W.Frag} {nn : Bool} {lim : Int} {H : Hp} {x : V} {r : Option (List Bool)} {ok : Nat → Bool} (h : AnyV K nn lim H x r) : ∀ i, faultI ok r = some i → i.natAbs < 10 ^ 9 := fun i e => by
  cases h with
  | no t k =>
    cases e
    decide
  | @tup p xs bs s l pr =>
    have hl := Paired.length pr
    unfold faultI at e
    dsimp only at e
    split at e
    · cases q : firstF bs with
      | none => rw [q] at e; cases e
      | some j =>
        rw [q] at e
        have := firstF_lt q
        cases e
        show ((j : Int)).natAbs < _
        omega
    · cases e
      decide
theorem its_odd {K : PySem.W.Frag} {S : List Addr} {H : Hp} {q : Addr} {xs : List (Option Int)} (h : SqT K H q (xs.map itV)) (l : xs.length ≤ 400) : OddV K S H (.ref q) := odd_its h (by omega)
section
variable {P : Program} {w : World} {K : PySem.W.Frag} {mg : Str → Option Value} {base : Heap}
/-! ### _law_checked_right -/
def spCK (K : PySem.W.Frag) (T : List (Addr × Str)) (C : Addr) : Sp := fun vs H Q _ => ∃ (h l p dx pk pt sq bq rq : Addr) (L : List Int) (st : Int) (t : TD) (xs bs rs : List (Option Int)), vs = [.ref h, .ref p, .ref sq, .ref bq, .ref rq] ∧ Hv H h l L st ∧ LamX.Tabs T H ∧ TblAt K C H p dx pk pt t ∧ TOk t ∧
  SqT K H sq (xs.map itV) ∧ xs.length ≤ 400 ∧ (∀ i, some i ∈ xs → i.natAbs < 10 ^ 9) ∧ SqT K H bq (bs.map itV) ∧ bs.length ≤ 400 ∧ (∀ i, some i ∈ bs → i.natAbs < 10 ^ 9) ∧ SqT K H rq (rs.map itV) ∧ rs.length ≤ 400 ∧ (∀ i, some i ∈ rs → i.natAbs < 10 ^ 9) ∧ ∀ G, On T h l H G → Q (.bl true) G
theorem ok_ck {f fO fF f1 f2 f3 fH C CS CB CW CF CD CT c Pt : Addr} {fd fdO fdF fd1 fd2 fd3 fdH : FuncData} {k : Nat} {T : List (Addr × Str)} (F : Fun K "_law_checked_right" "_law_checked_right" s__law_checked_right f fd) (hc : fd.code = .ref c) (LT : LamT T base mg c Pt ("_law_checked_right" ++ ".<locals>." ++ "<lambda>"))
    (TT : TTxt K mg C) (FO : Fun K "_law_odd" "_law_odd" s__law_odd fO fdO) (bO : Binds K fdO ["heap", "value"] []) (gO : mg "_law_odd" = some (.ref fO)) (GO : FnOk P w K mg base CX0 k fO fdO ["heap", "value"] (spOdd K))
    (FF : Fun K "_law_fault" "_law_fault" s__law_fault fF fdF) (bF : Binds K fdF ["value", "sizes", "most", "none"] []) (gF : mg "_law_fault" = some (.ref fF)) (GF : FnOk P w K mg base CX0 k fF fdF ["value", "sizes", "most", "none"] (spLF K))
    (F1 : Fun K "check_stock" "check_stock" s_check_stock f1 fd1) (b1 : Binds K fd1 ["table", "value"] []) (k1 : KwB fd1 ["table", "value"] ["value", "table"] List.reverse) (g1 : mg "check_stock" = some (.ref f1)) (G1 : FnOk P w K mg base (L2.CX P w) k f1 fd1 ["table", "value"] (spCSF K C CS))
    (F2 : Fun K "check_bounds" "check_bounds" s_check_bounds f2 fd2) (b2 : Binds K fd2 ["table", "value"] []) (k2 : KwB fd2 ["table", "value"] ["value", "table"] List.reverse) (g2 : mg "check_bounds" = some (.ref f2)) (G2 : FnOk P w K mg base (L2.CX P w) k f2 fd2 ["table", "value"] (spCBF K C CB))
    (F3 : Fun K "check_row" "check_row" s_check_row f3 fd3) (b3 : Binds K fd3 ["table", "value"] []) (k3 : KwB fd3 ["table", "value"] ["value", "table"] List.reverse) (g3 : mg "check_row" = some (.ref f3)) (G3 : FnOk P w K mg base (L2.CX P w) k f3 fd3 ["table", "value"] (spCRF K C CW))
    (FH : Fun K "_law_heard" "_law_heard" s__law_heard fH fdH) (bH : Binds K fdH ["action"] []) (gH : mg "_law_heard" = some (.ref fH)) (TH : HTxt K mg CS CB CW CF CD CT) (mI : mg "isinstance" = none)
    (ml : mg "len" = none) (mr : mg "range" = none) (mL : mg "list" = none) (mp : mg "repr" = none) :
    FnG P w K mg base (k + 2 + 1) f fd ["heap", "table", "stock", "bounds", "row"] (spCK K T C) := by
  refine okGC F hc sc__law_checked_right (fun vs H Q E h => ?_) (fun A outer s H vs Q E hrg h => ?_)
  · obtain ⟨h, l, p, dx, pk, pt, sq, bq, rq, L, st, t, xs, bs, rs, rfl, _⟩ := h
    rfl
  · obtain ⟨h, l, p, dx, pk, pt, sq, bq, rq, L, st, t, xs, bs, rs, rfl, hv, tb, d, ok, hsq, hsn, hsb, hbq, hbn, hbb, hrq, hrn, hrb, qq⟩ := h
    have hr2 := hrg.rm
    have hr : Room k _ := hr2.mono (Nat.le_add_right _ _)
    have hgd := hrg.gd
    refine blk_cons (ps_par (i := 5) (j := 6) rfl sc__law_checked_right.nd rfl rfl (by decide) rfl rfl (pa_cons (pe_callB call_len_seq (by rfl) ml PySem.boot_len (pa_cons (pe_fld (pv 1) rfl) pa_nil)) (pa_cons (pe_callB call_len_seq (by rfl) ml PySem.boot_len (pa_cons (pe_fld (pv 1) rfl) pa_nil)) pa_nil)) (by rfl)) ?_
    refine blk_cons (ps_for PassesOwn.never rfl (pi_range1 (by rfl) mr (pa_cons pe_int pa_nil)) (pg_name (i := 7) sc__law_checked_right.nd rfl (.inl rfl))
      (pss_cons (ps_for PassesOwn.never rfl (pi_list (pe_lst (pa_cons (pv 2) (pa_cons (pe_call GO hr (by rfl) gO FO.kp bO .nil pass0 (pa_cons (pv 0) (pa_cons (pv 2) pa_nil))) pa_nil)))) (pg_name (i := 10) sc__law_checked_right.nd rfl (.inr rfl))
        (pss_cons (ps_par (i := 8) (j := 9) rfl sc__law_checked_right.nd rfl rfl (by decide) rfl rfl (pa_cons (pe_call GF hr (by rfl) gF FF.kp bF .nil pass0 (pa_cons (pv 10) (pa_cons (pe_lst (pa_cons (pv 5) pa_nil)) (pa_cons pe_int (pa_cons pe_bl pa_nil))))) (pa_cons (pe_lst (pa_cons (pe_hd (k := k) FH bH (by rfl) gH TH mI LT rfl hr2 (LamX.lamS_by (sc := defScope s__law_checked_right) (by decide +kernel)) (fun A out s H E f c' hr' => pe_call (E := E) G1 hr' (by rfl) g1 F1.kp b1 .nil passX (pa_cons (pv 1) (pa_cons (pv 10) pa_nil)))) pa_nil)) pa_nil)) (by rfl))
        (pss_cons (ps_expr (pe_bm PySem.F.plainAttrs_list PySem.F.slot_list_append PySem.F.type_list_append mt_append (pv 9) (pa_cons (pe_hd (k := k) FH bH (by rfl) gH TH mI LT rfl hr2 (LamX.lamS_by (sc := defScope s__law_checked_right) (by decide +kernel)) (fun A out s H E f c' hr' => pe_kwP (E := E) (gV := List.reverse) G1 hr' (by rfl) g1 F1.kp k1 passX (fun _ r => r.reverse) (pk_cons (pv 10) (pk_cons (pv 1) pk_nil)))) pa_nil)))
        (pss_one (ps_if (pt_cmpR op_ne (pe_callB (call_reprF hgd hr.units) (by rfl) mp (by decide +kernel) (pa_cons (pv 9) pa_nil)) (pe_callB (call_reprF hgd hr.units) (by rfl) mp (by decide +kernel) (pa_cons (pe_op op_rep (pe_lst (pa_cons (pe_ifExp (pt_cmpR op_isN (pv 8) pe_non (nomark _)) pe_non (pe_tup (pa_cons pe_str (pa_cons (pv 8) pa_nil)))) pa_nil)) pe_int) pa_nil)) (nomark _)) (pss_one (ps_ret pe_bl)) pss_nil)))))
      (pss_cons (ps_for PassesOwn.never rfl (pi_list (pe_lst (pa_cons (pv 3) (pa_cons (pe_call GO hr (by rfl) gO FO.kp bO .nil pass0 (pa_cons (pv 0) (pa_cons (pv 3) pa_nil))) pa_nil)))) (pg_name (i := 10) sc__law_checked_right.nd rfl (.inr rfl))
        (pss_cons (ps_par (i := 8) (j := 9) rfl sc__law_checked_right.nd rfl rfl (by decide) rfl rfl (pa_cons (pe_call GF hr (by rfl) gF FF.kp bF .nil pass0 (pa_cons (pv 10) (pa_cons (pe_lst (pa_cons (pv 6) pa_nil)) (pa_cons pe_int (pa_cons pe_bl pa_nil))))) (pa_cons (pe_lst (pa_cons (pe_hd (k := k) FH bH (by rfl) gH TH mI LT rfl hr2 (LamX.lamS_by (sc := defScope s__law_checked_right) (by decide +kernel)) (fun A out s H E f c' hr' => pe_call (E := E) G2 hr' (by rfl) g2 F2.kp b2 .nil passX (pa_cons (pv 1) (pa_cons (pv 10) pa_nil)))) pa_nil)) pa_nil)) (by rfl))
        (pss_cons (ps_expr (pe_bm PySem.F.plainAttrs_list PySem.F.slot_list_append PySem.F.type_list_append mt_append (pv 9) (pa_cons (pe_hd (k := k) FH bH (by rfl) gH TH mI LT rfl hr2 (LamX.lamS_by (sc := defScope s__law_checked_right) (by decide +kernel)) (fun A out s H E f c' hr' => pe_kwP (E := E) (gV := List.reverse) G2 hr' (by rfl) g2 F2.kp k2 passX (fun _ r => r.reverse) (pk_cons (pv 10) (pk_cons (pv 1) pk_nil)))) pa_nil)))
        (pss_one (ps_if (pt_cmpR op_ne (pe_callB (call_reprF hgd hr.units) (by rfl) mp (by decide +kernel) (pa_cons (pv 9) pa_nil)) (pe_callB (call_reprF hgd hr.units) (by rfl) mp (by decide +kernel) (pa_cons (pe_op op_rep (pe_lst (pa_cons (pe_ifExp (pt_cmpR op_isN (pv 8) pe_non (nomark _)) pe_non (pe_tup (pa_cons pe_str (pa_cons (pv 8) pa_nil)))) pa_nil)) pe_int) pa_nil)) (nomark _)) (pss_one (ps_ret pe_bl)) pss_nil)))))
      (pss_one (ps_for PassesOwn.never rfl (pi_list (pe_lst (pa_cons (pv 4) (pa_cons (pe_call GO hr (by rfl) gO FO.kp bO .nil pass0 (pa_cons (pv 0) (pa_cons (pv 4) pa_nil))) pa_nil)))) (pg_name (i := 10) sc__law_checked_right.nd rfl (.inr rfl))
        (pss_cons (ps_par (i := 8) (j := 9) rfl sc__law_checked_right.nd rfl rfl (by decide) rfl rfl (pa_cons (pe_call GF hr (by rfl) gF FF.kp bF .nil pass0 (pa_cons (pv 10) (pa_cons (pe_listRg rfl (by rfl) mL (prg_1 (by rfl) mr pe_int)) (pa_cons (pe_op op_sub (pv 6) pe_int) (pa_cons pe_bl pa_nil))))) (pa_cons (pe_lst (pa_cons (pe_hd (k := k) FH bH (by rfl) gH TH mI LT rfl hr2 (LamX.lamS_by (sc := defScope s__law_checked_right) (by decide +kernel)) (fun A out s H E f c' hr' => pe_call (E := E) G3 hr' (by rfl) g3 F3.kp b3 .nil passX (pa_cons (pv 1) (pa_cons (pv 10) pa_nil)))) pa_nil)) pa_nil)) (by rfl))
        (pss_cons (ps_expr (pe_bm PySem.F.plainAttrs_list PySem.F.slot_list_append PySem.F.type_list_append mt_append (pv 9) (pa_cons (pe_hd (k := k) FH bH (by rfl) gH TH mI LT rfl hr2 (LamX.lamS_by (sc := defScope s__law_checked_right) (by decide +kernel)) (fun A out s H E f c' hr' => pe_kwP (E := E) (gV := List.reverse) G3 hr' (by rfl) g3 F3.kp k3 passX (fun _ r => r.reverse) (pk_cons (pv 10) (pk_cons (pv 1) pk_nil)))) pa_nil)))
        (pss_one (ps_if (pt_cmpR op_ne (pe_callB (call_reprF hgd hr.units) (by rfl) mp (by decide +kernel) (pa_cons (pv 9) pa_nil)) (pe_callB (call_reprF hgd hr.units) (by rfl) mp (by decide +kernel) (pa_cons (pe_op op_rep (pe_lst (pa_cons (pe_ifExp (pt_cmpR op_isN (pv 8) pe_non (nomark _)) pe_non (pe_tup (pa_cons pe_str (pa_cons (pv 8) pa_nil)))) pa_nil)) pe_int) pa_nil)) (nomark _)) (pss_one (ps_ret pe_bl)) pss_nil))))))))) ?_
    refine blk_cons (ps_ret pe_bl) ?_
    refine blk_nil ?_
    obtain ⟨tus, htq, hda⟩ := types_sq d.td
    have lkT : tus.length = t.types.length := by rw [dpAll_len hda, List.length_map]
    have lkK : (t.kinds.map V.str).length = t.kinds.length := List.length_map _
    have t12 := ok.t12
    have k8 := ok.k8
    refine seq_go ⟨_, rfl, p, C, dx, _, _, rfl, d.obj, TT.cl, TT.nK, tf_k _ _, pk, _, rfl, .inr (kinds_sq d.kd), _, rfl, p, C, dx, _, _, rfl, d.obj, TT.cl, TT.nT, tf_t _ _, pt, _, rfl, .inr htq, _, _, rfl, ?_⟩
    rw [lkK, lkT]
    dsimp only
    refine seq_out (t := tFor _ _ _) (fun σ' G' => On T h l H G') (fun N hN => ?_) (fun σ' G' hR => qq G' hR)
    refine ⟨_, rfl, by omega, by omega, for_range (lo := 0) (fun i σ G => On T h l H G ∧ ∃ y7 y8 y9 y10, σ = [some (.ref h), some (.ref p), some (.ref sq), some (.ref bq), some (.ref rq), some (.int (t.kinds.length : Int)), some (.int (t.types.length : Int)), y7, y8, y9, y10]) ?_ ?_ ?_⟩
    · exact ⟨On.refl hv tb, _, _, _, _, rfl⟩
    · intro i σ G hi hP
      obtain ⟨o0, y7, y8, y9, y10, rfl⟩ := hP
      dsimp only [gName]
      refine seq_out (t := tFor _ _ _) (fun σ' G' => On T h l H G' ∧ ∃ y8 y9 y10, σ' = [some (.ref h), some (.ref p), some (.ref sq), some (.ref bq), some (.ref rq), some (.int (t.kinds.length : Int)), some (.int (t.types.length : Int)), some (.int (0 + (i : Int))), y8, y9, y10]) (fun N hN => ?_) (fun σ' G' hR => ?_)
      · obtain ⟨L1, st1, hv1⟩ := o0.hv
        have q1 := o0.seqT hv hsq
        refine ⟨_, rfl, _, rfl, _, rfl, h, l, sq, L1, st1, xs, rfl, hv1, q1, hsn, hsb, fun G2 L2 st2 y b2 hv2 hy => ⟨by show 2 ≤ sizeLine; decide, fun pl npl => ⟨pl, rfl, ⟨_, sqL upd_same⟩, for_list (xs := [.ref sq, y]) (fun j σ G => LamX.ExtN (upd G2 pl (.lst [.ref sq, y])) G ∧ LamX.Tabs T G ∧ ∃ y8 y9 y10, σ = [some (.ref h), some (.ref p), some (.ref sq), some (.ref bq), some (.ref rq), some (.int (t.kinds.length : Int)), some (.int (t.types.length : Int)), some (.int (0 + (i : Int))), y8, y9, y10]) ?_ ?_ ?_ ?_⟩⟩⟩
        · exact ⟨.refl _, (o0.but b2 hv2).tb.ext (same_new npl), _, _, _, rfl⟩
        · exact fun j σ G _ hP => sqL (hP.1 pl _ upd_same fun _ z => nomatch z)
        · intro j x σ G hx hP
          obtain ⟨e0, t0, y8, y9, y10, rfl⟩ := hP
          have o2 := (o0.but b2 hv2).same (same_new (o := .lst [.ref sq, y]) npl)
          have o3 := o2.ext e0 t0
          have hxo : OddV K [] G x := by
            rcases j with _ | _ | j
            · cases hx
              exact its_odd (o3.seqT hv hsq) hsn
            · cases hx
              exact ((hy.fr (.same (same_new npl)) (lsts_hv hv2)).sub (T := []) fun _ m => nomatch m).fr (.ext e0) fun _ m => nomatch m
            · simp at hx
          have d3 : TblAt K C G p dx pk pt t := TblAt.fr o3.fr (lsts_hv hv) d
          obtain ⟨r, hr0⟩ := hxo.any false 401
          have sm := fault_small (ok := fun n => decide (n = t.kinds.length)) hr0
          have eL : faultI (fun n => decide (n ∈ [t.kinds.length])) r = faultI (fun n => decide (n = t.kinds.length)) r := by
            congr 1
            funext n
            exact decide_eq_decide.mpr (by simp)
          obtain ⟨r0, e0r⟩ : ∃ r0, faultI (fun n => decide (n = t.kinds.length)) r = r0 := ⟨_, rfl⟩
          rw [e0r] at sm eL
          dsimp only [gName]
          refine seq_go ⟨_, rfl, _, rfl, by show 1 ≤ sizeLine; decide, fun ps nps => ?_⟩
          have snew := same_new (o := .lst [.int (t.kinds.length : Int)]) nps
          refine ⟨x, ps, [t.kinds.length], 400, false, r, rfl, sqL upd_same, hr0.ext (.of snew), ?_⟩
          rw [eL]
          have dS := d3.same snew
          have hrS := hr0.ext (.of snew)
          refine cons_go (lst_go (cons_go (hear_to (C := CS) (z := "stock") (r := r0) (.inl ⟨rfl, rfl⟩) (t0.ext snew) (fun E G' Q' e' t' qN qS => ⟨_, rfl, _, rfl, p, dx, pk, pt, t, x, r, rfl, TblAt.fr (.ext (S := []) e') (fun _ m => nomatch m) dS, ok, hrS.ext e', fun hh => qN (e0r.symm.trans hh), fun i hi => qS i (e0r.symm.trans hi)⟩) fun G4 v e4 t4 dv => ⟨by show 1 ≤ sizeLine; decide, fun F nF => ⟨_, _, rfl, ?_⟩⟩)))
          have sF := same_new (o := .lst [v]) nF
          have eF : LamX.ExtN (upd G ps _) (upd G4 F (.lst [v])) := e4.trans (.of sF)
          dsimp only
          refine seq_go ⟨_, rfl, .inl ⟨rfl, _, sqL upd_same⟩, cons_go (hear_to (C := CS) (z := "stock") (r := r0) (.inl ⟨rfl, rfl⟩) (t4.ext sF) (fun E G' Q' e' t' qN qS => ⟨_, rfl, _, rfl, rfl, p, dx, pk, pt, t, x, r, rfl, TblAt.fr (.ext (S := []) (eF.trans e')) (fun _ m => nomatch m) dS, ok, hrS.ext (eF.trans e'), fun hh => qN (e0r.symm.trans hh), fun i hi => qS i (e0r.symm.trans hi)⟩) fun G5 v2 e5 t5 dv2 => ⟨F, _, _, rfl, rfl, e5 F _ upd_same (fun _ z => nomatch z), by show 1 < sizeLine; decide, ?_⟩)⟩
          obtain ⟨f1, f2, f3⟩ := hD_fine (z := "stock") (.inl rfl) (r := r0) sm
          have gF5 : G5 F = some (.lst [v]) := e5 F _ upd_same fun _ z => nomatch z
          have dvv : Dp K (upd G5 F (.lst ([v] ++ [v2]))) v (hD "stock" r0) := dp_keep (KeepT.put gF5) _ _ (nl_hD _ _) (dp_ext e5 _ _ (nl_hD _ _) (dp_same sF _ _ dv))
          have dvw : Dp K (upd G5 F (.lst ([v] ++ [v2]))) v2 (hD "stock" r0) := dp_keep (KeepT.put gF5) _ _ (nl_hD _ _) dv2
          have eE : LamX.ExtN (upd G2 pl (.lst [.ref sq, y])) (upd G5 F (.lst ([v] ++ [v2]))) := fun b o z nt => by
            have z4 := e4 _ _ (snew _ _ (e0 _ _ z nt)) nt
            have nb : b ≠ F := fun w => by rw [w, nF] at z4; cases z4
            exact (upd_ne nb).trans (e5 _ _ (sF _ _ z4) nt)
          have tE := tabs_put (o := .lst ([v] ++ [v2])) gF5 t5
          have gE := upd_same (H := G5) (a := F) (o := .lst ([v] ++ [v2]))
          generalize upd G5 F (.lst ([v] ++ [v2])) = GE at dvv dvw eE tE gE ⊢
          dsimp only
          refine ifS_go ⟨_, rfl, F, .list [hD "stock" r0, hD "stock" r0], rfl, .lst (sqL gE) (.cons dvv (.cons dvw .nil)), f1, f2, f3, cb_go (cons_go (op_go (lst_go (cons_go ?_))))⟩
          cases r0 with
          | none =>
            refine ⟨_, rfl, rfl, _, rfl, ?_⟩
            rw [decide_eq_true (show itV none = V.non from rfl)]
            refine iteT ⟨by show 1 ≤ sizeLine; decide, fun p1 n1 => ⟨p1, _, _, rfl, rfl, upd_same, by decide, by decide, by show 2 ≤ sizeLine; decide, fun p2 n2 => ⟨_, .list [hD "stock" none, hD "stock" none], rfl, .lst (sqL upd_same) (.cons .non (.cons .non .nil)), f1, f2, f3, rfl, _, rfl, ?_⟩⟩⟩
            rw [decide_eq_true rfl]
            have s2 := (same_new (o := .lst [V.non]) n1).trans (same_new (o := .lst (List.replicate (Int.toNat 2) [V.non]).flatten) n2)
            exact iteF ⟨eE.trans (.of s2), tE.ext s2, _, _, _, rfl⟩
          | some i0 =>
            refine ⟨_, rfl, rfl, _, rfl, ?_⟩
            rw [decide_eq_false (show ¬ itV (some i0) = V.non from fun z => nomatch z)]
            refine iteF ⟨_, rfl, by show 2 ≤ sizeLine; decide, fun p0 n0 => ⟨by show 1 ≤ sizeLine; decide, fun p1 n1 => ⟨p1, _, _, rfl, rfl, upd_same, by decide, by decide, by show 2 ≤ sizeLine; decide, fun p2 n2 => ?_⟩⟩⟩
            have s1 := (same_new (o := .lst [V.ref p0]) n1).trans (same_new (o := .lst (List.replicate (Int.toNat 2) [V.ref p0]).flatten) n2)
            have dv0 : Dp K _ (.ref p0) (hD "stock" (some i0)) := .tup (same_seqT s1 (sqT (upd_same (H := GE) (a := p0) (o := .tup [.str "stock", .int i0])))) (.cons (.str _) (.cons (.int _) .nil))
            refine ⟨_, .list [hD "stock" (some i0), hD "stock" (some i0)], rfl, .lst (sqL upd_same) (.cons dv0 (.cons dv0 .nil)), f1, f2, f3, rfl, _, rfl, ?_⟩
            rw [decide_eq_true rfl]
            have s2 := (same_new (o := .tup [.str "stock", .int i0]) n0).trans s1
            exact iteF ⟨eE.trans (.of s2), tE.ext s2, _, _, _, rfl⟩
        · intro σ G hP
          obtain ⟨e0, t0, y8, y9, y10, e⟩ := hP
          have o2 := (o0.but b2 hv2).same (same_new (o := .lst [.ref sq, y]) npl)
          exact hN σ G ⟨o2.ext e0 t0, y8, y9, y10, e⟩
      obtain ⟨o0, y8, y9, y10, rfl⟩ := hR
      refine seq_out (t := tFor _ _ _) (fun σ' G' => On T h l H G' ∧ ∃ y8 y9 y10, σ' = [some (.ref h), some (.ref p), some (.ref sq), some (.ref bq), some (.ref rq), some (.int (t.kinds.length : Int)), some (.int (t.types.length : Int)), some (.int (0 + (i : Int))), y8, y9, y10]) (fun N hN => ?_) (fun σ' G' hR => ?_)
      · obtain ⟨L1, st1, hv1⟩ := o0.hv
        have q1 := o0.seqT hv hbq
        refine ⟨_, rfl, _, rfl, _, rfl, h, l, bq, L1, st1, bs, rfl, hv1, q1, hbn, hbb, fun G2 L2 st2 y b2 hv2 hy => ⟨by show 2 ≤ sizeLine; decide, fun pl npl => ⟨pl, rfl, ⟨_, sqL upd_same⟩, for_list (xs := [.ref bq, y]) (fun j σ G => LamX.ExtN (upd G2 pl (.lst [.ref bq, y])) G ∧ LamX.Tabs T G ∧ ∃ y8 y9 y10, σ = [some (.ref h), some (.ref p), some (.ref sq), some (.ref bq), some (.ref rq), some (.int (t.kinds.length : Int)), some (.int (t.types.length : Int)), some (.int (0 + (i : Int))), y8, y9, y10]) ?_ ?_ ?_ ?_⟩⟩⟩
        · exact ⟨.refl _, (o0.but b2 hv2).tb.ext (same_new npl), _, _, _, rfl⟩
        · exact fun j σ G _ hP => sqL (hP.1 pl _ upd_same fun _ z => nomatch z)
        · intro j x σ G hx hP
          obtain ⟨e0, t0, y8, y9, y10, rfl⟩ := hP
          have o2 := (o0.but b2 hv2).same (same_new (o := .lst [.ref bq, y]) npl)
          have o3 := o2.ext e0 t0
          have hxo : OddV K [] G x := by
            rcases j with _ | _ | j
            · cases hx
              exact its_odd (o3.seqT hv hbq) hbn
            · cases hx
              exact ((hy.fr (.same (same_new npl)) (lsts_hv hv2)).sub (T := []) fun _ m => nomatch m).fr (.ext e0) fun _ m => nomatch m
            · simp at hx
          have d3 : TblAt K C G p dx pk pt t := TblAt.fr o3.fr (lsts_hv hv) d
          obtain ⟨r, hr0⟩ := hxo.any true 401
          have sm := fault_small (ok := fun n => decide (n = t.types.length)) hr0
          have eL : faultI (fun n => decide (n ∈ [t.types.length])) r = faultI (fun n => decide (n = t.types.length)) r := by
            congr 1
            funext n
            exact decide_eq_decide.mpr (by simp)
          obtain ⟨r0, e0r⟩ : ∃ r0, faultI (fun n => decide (n = t.types.length)) r = r0 := ⟨_, rfl⟩
          rw [e0r] at sm eL
          dsimp only [gName]
          refine seq_go ⟨_, rfl, _, rfl, by show 1 ≤ sizeLine; decide, fun ps nps => ?_⟩
          have snew := same_new (o := .lst [.int (t.types.length : Int)]) nps
          refine ⟨x, ps, [t.types.length], 400, true, r, rfl, sqL upd_same, hr0.ext (.of snew), ?_⟩
          rw [eL]
          have dS := d3.same snew
          have hrS := hr0.ext (.of snew)
          refine cons_go (lst_go (cons_go (hear_to (C := CB) (z := "bounds") (r := r0) (.inr (.inl ⟨rfl, rfl⟩)) (t0.ext snew) (fun E G' Q' e' t' qN qS => ⟨_, rfl, _, rfl, p, dx, pk, pt, t, x, r, rfl, TblAt.fr (.ext (S := []) e') (fun _ m => nomatch m) dS, ok, hrS.ext e', fun hh => qN (e0r.symm.trans hh), fun i hi => qS i (e0r.symm.trans hi)⟩) fun G4 v e4 t4 dv => ⟨by show 1 ≤ sizeLine; decide, fun F nF => ⟨_, _, rfl, ?_⟩⟩)))
          have sF := same_new (o := .lst [v]) nF
          have eF : LamX.ExtN (upd G ps _) (upd G4 F (.lst [v])) := e4.trans (.of sF)
          dsimp only
          refine seq_go ⟨_, rfl, .inl ⟨rfl, _, sqL upd_same⟩, cons_go (hear_to (C := CB) (z := "bounds") (r := r0) (.inr (.inl ⟨rfl, rfl⟩)) (t4.ext sF) (fun E G' Q' e' t' qN qS => ⟨_, rfl, _, rfl, rfl, p, dx, pk, pt, t, x, r, rfl, TblAt.fr (.ext (S := []) (eF.trans e')) (fun _ m => nomatch m) dS, ok, hrS.ext (eF.trans e'), fun hh => qN (e0r.symm.trans hh), fun i hi => qS i (e0r.symm.trans hi)⟩) fun G5 v2 e5 t5 dv2 => ⟨F, _, _, rfl, rfl, e5 F _ upd_same (fun _ z => nomatch z), by show 1 < sizeLine; decide, ?_⟩)⟩
          obtain ⟨f1, f2, f3⟩ := hD_fine (z := "bounds") (.inr (.inl rfl)) (r := r0) sm
          have gF5 : G5 F = some (.lst [v]) := e5 F _ upd_same fun _ z => nomatch z
          have dvv : Dp K (upd G5 F (.lst ([v] ++ [v2]))) v (hD "bounds" r0) := dp_keep (KeepT.put gF5) _ _ (nl_hD _ _) (dp_ext e5 _ _ (nl_hD _ _) (dp_same sF _ _ dv))
          have dvw : Dp K (upd G5 F (.lst ([v] ++ [v2]))) v2 (hD "bounds" r0) := dp_keep (KeepT.put gF5) _ _ (nl_hD _ _) dv2
          have eE : LamX.ExtN (upd G2 pl (.lst [.ref bq, y])) (upd G5 F (.lst ([v] ++ [v2]))) := fun b o z nt => by
            have z4 := e4 _ _ (snew _ _ (e0 _ _ z nt)) nt
            have nb : b ≠ F := fun w => by rw [w, nF] at z4; cases z4
            exact (upd_ne nb).trans (e5 _ _ (sF _ _ z4) nt)
          have tE := tabs_put (o := .lst ([v] ++ [v2])) gF5 t5
          have gE := upd_same (H := G5) (a := F) (o := .lst ([v] ++ [v2]))
          generalize upd G5 F (.lst ([v] ++ [v2])) = GE at dvv dvw eE tE gE ⊢
          dsimp only
          refine ifS_go ⟨_, rfl, F, .list [hD "bounds" r0, hD "bounds" r0], rfl, .lst (sqL gE) (.cons dvv (.cons dvw .nil)), f1, f2, f3, cb_go (cons_go (op_go (lst_go (cons_go ?_))))⟩
          cases r0 with
          | none =>
            refine ⟨_, rfl, rfl, _, rfl, ?_⟩
            rw [decide_eq_true (show itV none = V.non from rfl)]
            refine iteT ⟨by show 1 ≤ sizeLine; decide, fun p1 n1 => ⟨p1, _, _, rfl, rfl, upd_same, by decide, by decide, by show 2 ≤ sizeLine; decide, fun p2 n2 => ⟨_, .list [hD "bounds" none, hD "bounds" none], rfl, .lst (sqL upd_same) (.cons .non (.cons .non .nil)), f1, f2, f3, rfl, _, rfl, ?_⟩⟩⟩
            rw [decide_eq_true rfl]
            have s2 := (same_new (o := .lst [V.non]) n1).trans (same_new (o := .lst (List.replicate (Int.toNat 2) [V.non]).flatten) n2)
            exact iteF ⟨eE.trans (.of s2), tE.ext s2, _, _, _, rfl⟩
          | some i0 =>
            refine ⟨_, rfl, rfl, _, rfl, ?_⟩
            rw [decide_eq_false (show ¬ itV (some i0) = V.non from fun z => nomatch z)]
            refine iteF ⟨_, rfl, by show 2 ≤ sizeLine; decide, fun p0 n0 => ⟨by show 1 ≤ sizeLine; decide, fun p1 n1 => ⟨p1, _, _, rfl, rfl, upd_same, by decide, by decide, by show 2 ≤ sizeLine; decide, fun p2 n2 => ?_⟩⟩⟩
            have s1 := (same_new (o := .lst [V.ref p0]) n1).trans (same_new (o := .lst (List.replicate (Int.toNat 2) [V.ref p0]).flatten) n2)
            have dv0 : Dp K _ (.ref p0) (hD "bounds" (some i0)) := .tup (same_seqT s1 (sqT (upd_same (H := GE) (a := p0) (o := .tup [.str "bounds", .int i0])))) (.cons (.str _) (.cons (.int _) .nil))
            refine ⟨_, .list [hD "bounds" (some i0), hD "bounds" (some i0)], rfl, .lst (sqL upd_same) (.cons dv0 (.cons dv0 .nil)), f1, f2, f3, rfl, _, rfl, ?_⟩
            rw [decide_eq_true rfl]
            have s2 := (same_new (o := .tup [.str "bounds", .int i0]) n0).trans s1
            exact iteF ⟨eE.trans (.of s2), tE.ext s2, _, _, _, rfl⟩
        · intro σ G hP
          obtain ⟨e0, t0, y8, y9, y10, e⟩ := hP
          have o2 := (o0.but b2 hv2).same (same_new (o := .lst [.ref bq, y]) npl)
          exact hN σ G ⟨o2.ext e0 t0, y8, y9, y10, e⟩
      obtain ⟨o0, y8, y9, y10, rfl⟩ := hR
      obtain ⟨L1, st1, hv1⟩ := o0.hv
      have q1 := o0.seqT hv hrq
      refine ⟨_, rfl, _, rfl, _, rfl, h, l, rq, L1, st1, rs, rfl, hv1, q1, hrn, hrb, fun G2 L2 st2 y b2 hv2 hy => ⟨by show 2 ≤ sizeLine; decide, fun pl npl => ⟨pl, rfl, ⟨_, sqL upd_same⟩, for_list (xs := [.ref rq, y]) (fun j σ G => LamX.ExtN (upd G2 pl (.lst [.ref rq, y])) G ∧ LamX.Tabs T G ∧ ∃ y8 y9 y10, σ = [some (.ref h), some (.ref p), some (.ref sq), some (.ref bq), some (.ref rq), some (.int (t.kinds.length : Int)), some (.int (t.types.length : Int)), some (.int (0 + (i : Int))), y8, y9, y10]) ?_ ?_ ?_ ?_⟩⟩⟩
      · exact ⟨.refl _, (o0.but b2 hv2).tb.ext (same_new npl), _, _, _, rfl⟩
      · exact fun j σ G _ hP => sqL (hP.1 pl _ upd_same fun _ z => nomatch z)
      · intro j x σ G hx hP
        obtain ⟨e0, t0, y8, y9, y10, rfl⟩ := hP
        have o2 := (o0.but b2 hv2).same (same_new (o := .lst [.ref rq, y]) npl)
        have o3 := o2.ext e0 t0
        have hxo : OddV K [] G x := by
          rcases j with _ | _ | j
          · cases hx
            exact its_odd (o3.seqT hv hrq) hrn
          · cases hx
            exact ((hy.fr (.same (same_new npl)) (lsts_hv hv2)).sub (T := []) fun _ m => nomatch m).fr (.ext e0) fun _ m => nomatch m
          · simp at hx
        have d3 : TblAt K C G p dx pk pt t := TblAt.fr o3.fr (lsts_hv hv) d
        obtain ⟨r, hr0⟩ := hxo.any false (t.types.length : Int)
        have sm := fault_small (ok := fun n => decide (n ≤ 400)) hr0
        have eL : faultI (fun n => decide (n ∈ List.range 401)) r = faultI (fun n => decide (n ≤ 400)) r := by
          congr 1
          funext n
          exact decide_eq_decide.mpr (by rw [List.mem_range]; omega)
        obtain ⟨r0, e0r⟩ : ∃ r0, faultI (fun n => decide (n ≤ 400)) r = r0 := ⟨_, rfl⟩
        rw [e0r] at sm eL
        dsimp only [gName]
        refine seq_go ⟨_, rfl, _, rfl, .of_le (by decide) (by decide) (by decide) (by decide), fun ps nps => ⟨_, rfl, _, _, rfl, rfl, ?_⟩⟩
        have snew := same_new (o := .lst (rgV 0 401)) nps
        refine ⟨x, ps, (List.range 401), ((t.types.length : Int) - 1), false, r, rfl, sqL ?_, ?_, ?_⟩
        · rw [upd_same, show (401 : Int) = ((401 : Nat) : Int) from rfl, rgV_nats]
        · rw [show ((t.types.length : Int) - 1) + 1 = (t.types.length : Int) by omega]
          exact hr0.ext (.of snew)
        rw [eL]
        have dS := d3.same snew
        have hrS := hr0.ext (.of snew)
        refine cons_go (lst_go (cons_go (hear_to (C := CW) (z := "row") (r := r0) (.inr (.inr ⟨rfl, rfl⟩)) (t0.ext snew) (fun E G' Q' e' t' qN qS => ⟨_, rfl, _, rfl, p, dx, pk, pt, t, x, r, rfl, TblAt.fr (.ext (S := []) e') (fun _ m => nomatch m) dS, ok, hrS.ext e', fun hh => qN (e0r.symm.trans hh), fun i hi => qS i (e0r.symm.trans hi)⟩) fun G4 v e4 t4 dv => ⟨by show 1 ≤ sizeLine; decide, fun F nF => ⟨_, _, rfl, ?_⟩⟩)))
        have sF := same_new (o := .lst [v]) nF
        have eF : LamX.ExtN (upd G ps _) (upd G4 F (.lst [v])) := e4.trans (.of sF)
        dsimp only
        refine seq_go ⟨_, rfl, .inl ⟨rfl, _, sqL upd_same⟩, cons_go (hear_to (C := CW) (z := "row") (r := r0) (.inr (.inr ⟨rfl, rfl⟩)) (t4.ext sF) (fun E G' Q' e' t' qN qS => ⟨_, rfl, _, rfl, rfl, p, dx, pk, pt, t, x, r, rfl, TblAt.fr (.ext (S := []) (eF.trans e')) (fun _ m => nomatch m) dS, ok, hrS.ext (eF.trans e'), fun hh => qN (e0r.symm.trans hh), fun i hi => qS i (e0r.symm.trans hi)⟩) fun G5 v2 e5 t5 dv2 => ⟨F, _, _, rfl, rfl, e5 F _ upd_same (fun _ z => nomatch z), by show 1 < sizeLine; decide, ?_⟩)⟩
        obtain ⟨f1, f2, f3⟩ := hD_fine (z := "row") (.inr (.inr rfl)) (r := r0) sm
        have gF5 : G5 F = some (.lst [v]) := e5 F _ upd_same fun _ z => nomatch z
        have dvv : Dp K (upd G5 F (.lst ([v] ++ [v2]))) v (hD "row" r0) := dp_keep (KeepT.put gF5) _ _ (nl_hD _ _) (dp_ext e5 _ _ (nl_hD _ _) (dp_same sF _ _ dv))
        have dvw : Dp K (upd G5 F (.lst ([v] ++ [v2]))) v2 (hD "row" r0) := dp_keep (KeepT.put gF5) _ _ (nl_hD _ _) dv2
        have eE : LamX.ExtN (upd G2 pl (.lst [.ref rq, y])) (upd G5 F (.lst ([v] ++ [v2]))) := fun b o z nt => by
          have z4 := e4 _ _ (snew _ _ (e0 _ _ z nt)) nt
          have nb : b ≠ F := fun w => by rw [w, nF] at z4; cases z4
          exact (upd_ne nb).trans (e5 _ _ (sF _ _ z4) nt)
        have tE := tabs_put (o := .lst ([v] ++ [v2])) gF5 t5
        have gE := upd_same (H := G5) (a := F) (o := .lst ([v] ++ [v2]))
        generalize upd G5 F (.lst ([v] ++ [v2])) = GE at dvv dvw eE tE gE ⊢
        dsimp only
        refine ifS_go ⟨_, rfl, F, .list [hD "row" r0, hD "row" r0], rfl, .lst (sqL gE) (.cons dvv (.cons dvw .nil)), f1, f2, f3, cb_go (cons_go (op_go (lst_go (cons_go ?_))))⟩
        cases r0 with
        | none =>
          refine ⟨_, rfl, rfl, _, rfl, ?_⟩
          rw [decide_eq_true (show itV none = V.non from rfl)]
          refine iteT ⟨by show 1 ≤ sizeLine; decide, fun p1 n1 => ⟨p1, _, _, rfl, rfl, upd_same, by decide, by decide, by show 2 ≤ sizeLine; decide, fun p2 n2 => ⟨_, .list [hD "row" none, hD "row" none], rfl, .lst (sqL upd_same) (.cons .non (.cons .non .nil)), f1, f2, f3, rfl, _, rfl, ?_⟩⟩⟩
          rw [decide_eq_true rfl]
          have s2 := (same_new (o := .lst [V.non]) n1).trans (same_new (o := .lst (List.replicate (Int.toNat 2) [V.non]).flatten) n2)
          exact iteF ⟨eE.trans (.of s2), tE.ext s2, _, _, _, rfl⟩
        | some i0 =>
          refine ⟨_, rfl, rfl, _, rfl, ?_⟩
          rw [decide_eq_false (show ¬ itV (some i0) = V.non from fun z => nomatch z)]
          refine iteF ⟨_, rfl, by show 2 ≤ sizeLine; decide, fun p0 n0 => ⟨by show 1 ≤ sizeLine; decide, fun p1 n1 => ⟨p1, _, _, rfl, rfl, upd_same, by decide, by decide, by show 2 ≤ sizeLine; decide, fun p2 n2 => ?_⟩⟩⟩
          have s1 := (same_new (o := .lst [V.ref p0]) n1).trans (same_new (o := .lst (List.replicate (Int.toNat 2) [V.ref p0]).flatten) n2)
          have dv0 : Dp K _ (.ref p0) (hD "row" (some i0)) := .tup (same_seqT s1 (sqT (upd_same (H := GE) (a := p0) (o := .tup [.str "row", .int i0])))) (.cons (.str _) (.cons (.int _) .nil))
          refine ⟨_, .list [hD "row" (some i0), hD "row" (some i0)], rfl, .lst (sqL upd_same) (.cons dv0 (.cons dv0 .nil)), f1, f2, f3, rfl, _, rfl, ?_⟩
          rw [decide_eq_true rfl]
          have s2 := (same_new (o := .tup [.str "row", .int i0]) n0).trans s1
          exact iteF ⟨eE.trans (.of s2), tE.ext s2, _, _, _, rfl⟩
      · intro σ G hP
        obtain ⟨e0, t0, y8, y9, y10, e⟩ := hP
        have o2 := (o0.but b2 hv2).same (same_new (o := .lst [.ref rq, y]) npl)
        exact ⟨o2.ext e0 t0, _, y8, y9, y10, e⟩
    · intro σ G hP
      exact hN σ G hP.1
end
end K3
/-! Written tables that stand. -/
namespace Gd
open PySem PySem.Spec PyProof.Rows L2
instance : ∀ l, Decidable (AscS l) := fun l => by unfold AscS; infer_instance
instance : ∀ l, Decidable (AscI l) := fun l => by unfold AscI; infer_instance
def nmB (z : Str) : Bool := decide (1 ≤ z.length) && decide (z.length ≤ 8) && z.cps.toList.all fun c => decide (97 ≤ c ∧ c ≤ 122)
theorem nmB_of {z : Str} (h : nmB z = true) : Nm z := by
  unfold nmB at h
  rw [Bool.and_eq_true, Bool.and_eq_true] at h
  obtain ⟨⟨h1, h2⟩, h3⟩ := h
  exact ⟨⟨of_decide_eq_true h1, of_decide_eq_true h2⟩, fun c hc => of_decide_eq_true (p := 97 ≤ c ∧ c ≤ 122) (List.all_eq_true.mp h3 c hc)⟩
def okB (t : TD) : Bool := decide (1 ≤ t.kinds.length) && decide (t.kinds.length ≤ 8) && t.kinds.all nmB && decide (AscS t.kinds) && decide (t.types.length ≤ 12) && (t.types.all fun p => nmB p.1) && decide (AscS (t.types.map (·.1))) &&
  (t.types.all fun p => decide (AscI p.2)) && t.types.all fun p => p.2.all fun n => decide (0 ≤ n ∧ n < (t.kinds.length : Int))
theorem okB_of {t : TD} (h : okB t = true) : TOk t := by
  unfold okB at h
  simp only [Bool.and_eq_true, List.all_eq_true, decide_eq_true_eq] at h
  obtain ⟨⟨⟨⟨⟨⟨⟨⟨h1, h2⟩, h3⟩, h4⟩, h5⟩, h6⟩, h7⟩, h8⟩, h9⟩ := h
  exact ⟨h1, h2, fun z hz => nmB_of (h3 z hz), h4, h5, fun p hp => nmB_of (h6 p hp), h7, h8, fun p hp n hn => h9 p hp n hn⟩
end Gd
namespace K3
open PySem PySem.Spec PyProof.Rows L2 Gd
/-- Table(..) of what is right -/
theorem mk_gv {K : PySem.W.Frag} {C : Addr} {σ : L2.St} {H : Hp} {ta : TA} {t : TD} {Q : VK} (hg : GvA K σ H ta [kindsD t, typesD t]) (ok : TOk t) (q : ∀ G p dx pk pt, Same H G → TblAt K C G p dx pk pt t → Q (.ref p) G) : tMake C (spTInit K C) [] E0 ta σ H Q := by
  refine hg _ fun vs G s dvs => ?_
  cases dvs with
  | cons dk r =>
  cases r with
  | cons dt r =>
  cases r
  obtain ⟨pk, _, rfl, _, _⟩ := tup_inv dk
  obtain ⟨pt, _, rfl, _, _⟩ := tup_inv dt
  intro p dx np ndx nex
  have s5 : Same G (upd (upd G dx (.own p)) p (.ins C dx [])) := (same_new ndx).trans (same_new ((upd_ne (Ne.symm nex)).trans np))
  refine ⟨p, dx, pk, pt, t, rfl, upd_same, dp_same s5 _ _ dk, dp_same s5 _ _ dt, ok, fun G6 keep tb6 => ⟨rfl, q G6 p dx pk pt (fun b o e => ?_) tb6⟩⟩
  exact keep b o (ne_of_none (s _ _ e) np) (s5 _ _ (s _ _ e))
theorem On.put {T : List (Addr × Str)} {h l D : Addr} {H G : Hp} {xs : List V} {o : HO} (x : On T h l H G) (n : H D = none) (e : G D = some (.lst xs)) (n1 : D ≠ h) (n2 : D ≠ l) : On T h l H (upd G D o) :=
  ⟨fun b u m eb t => (upd_ne (ne_of_none eb n)).trans (x.fr b u m eb t), tabs_put e x.tb, let ⟨L, st, v⟩ := x.hv; ⟨L, st, (upd_ne n1.symm).trans v.top, (upd_ne n2.symm).trans v.bot, v.ne, v.lo, v.hi, v.len⟩⟩
theorem On.lst {T : List (Addr × Str)} {h l D : Addr} {H G : Hp} {xs : List V} (x : On T h l H G) (e : H D = some (.lst xs)) (n1 : D ≠ h) (n2 : D ≠ l) : G D = some (.lst xs) := x.fr D _ (by simp [n1, n2]) e fun _ z => nomatch z
theorem eqv_types (t : TD) : PyData.eqv (typesD t) (.tuple []) = decide (t.types = []) := by
  unfold typesD
  cases t.types <;> rfl
theorem natsV_its (l : List Nat) : natsV l = (l.map fun a : Nat => some (a : Int)).map itV := by
  rw [List.map_map]
  rfl
/-- what the law keeps of its values -/
theorem kept_fd {t : TD} (ok : TOk t) {xs bs rs : List (Option Int)} (hx : Fd (.tuple (xs.map itD))) (hb : Fd (.tuple (bs.map itD))) (hr : Fd (.tuple (rs.map itD))) (cx : costD (.tuple (xs.map itD)) ≤ 10000) (cb : costD (.tuple (bs.map itD)) ≤ 10000) (cr : costD (.tuple (rs.map itD)) ≤ 10000) :
    Fd (.tuple [.tuple (xs.map itD), .tuple (bs.map itD), .tuple (rs.map itD), kindsD t, typesD t]) := by
  obtain ⟨⟨f1, p1, c1⟩, f2, p2, c2⟩ := table_fine ok
  have dz : ∀ ys : List (Option Int), (PyData.tuple (ys.map itD)).depth ≤ 1 := fun ys => by
    rw [PyData.depth]
    have : PyData.depthAll (ys.map itD) ≤ 0 := depthAll_mem fun d hd => by
      obtain ⟨o, ho, rfl⟩ := List.mem_map.mp hd
      cases o <;> exact Nat.le_refl _
    omega
  refine ⟨?_, ?_, ?_⟩
  · rw [fine]
    refine fineAll_mem fun d hd => ?_
    simp only [List.mem_cons, List.not_mem_nil, or_false] at hd
    rcases hd with rfl | rfl | rfl | rfl | rfl
    · exact hx.f
    · exact hb.f
    · exact hr.f
    · exact f1
    · exact f2
  · rw [PyData.depth]
    have : PyData.depthAll [.tuple (xs.map itD), .tuple (bs.map itD), .tuple (rs.map itD), kindsD t, typesD t] ≤ 5 := depthAll_mem fun d hd => by
      simp only [List.mem_cons, List.not_mem_nil, or_false] at hd
      rcases hd with rfl | rfl | rfl | rfl | rfl
      · exact Nat.le_trans (dz _) (by decide)
      · exact Nat.le_trans (dz _) (by decide)
      · exact Nat.le_trans (dz _) (by decide)
      · exact p1
      · exact p2
    omega
  · have : costD (.tuple [.tuple (xs.map itD), .tuple (bs.map itD), .tuple (rs.map itD), kindsD t, typesD t]) = costD (.tuple (xs.map itD)) + 2 + (costD (.tuple (bs.map itD)) + 2 + (costD (.tuple (rs.map itD)) + 2 + (costD (kindsD t) + 2 + (costD (typesD t) + 2 + 0)))) + 2 := by
      rw [costD, costAll, costAll, costAll, costAll, costAll, costAll]
    rw [this]
    have : (60000 : Nat) ≤ sizeLine := by decide
    omega
theorem its_cost (xs : List (Option Int)) : costD (.tuple (xs.map itD)) ≤ 12 * xs.length + 2 := by
  have key : ∀ xs : List (Option Int), costAll (xs.map itD) ≤ 12 * xs.length := fun xs => by
    induction xs with
    | nil => exact Nat.le_refl _
    | cons o r ih =>
      rw [List.map_cons, costAll, List.length_cons]
      have : costD (itD o) ≤ 10 := by
        cases o with
        | none => decide
        | some i => exact Nat.le_refl _
      omega
  rw [costD]
  have := key xs
  omega
def tdA : TD := ⟨[Str.ofString "a", Str.ofString "b"], [(Str.ofString "x", [0]), (Str.ofString "y", [])]⟩
theorem tdA_ok : TOk tdA := okB_of (by decide +kernel)
theorem paired_rep {α β : Type} {R : α → β → Prop} {x : α} {y : β} (h : R x y) : ∀ n, Paired R (List.replicate n x) (List.replicate n y)
  | 0 => .nil
  | n + 1 => .cons h (paired_rep h n)
/-- check_row(table, (v,) * n) -/
theorem chk_row {K : PySem.W.Frag} {T : List (Addr × Str)} {C CW p dx pk pt : Addr} {σ : L2.St} {H : Hp} {v k : Int} {n : Nat} {b : Bool} {r : Option Int} (hσ : σ[12]? = some (some (.ref p))) (tb : TblAt K C H p dx pk pt tdA) (hk : k = (n : Int)) (hn : 1 ≤ n ∧ n ≤ 1000) (hb : b = decide (0 ≤ v ∧ v < 2))
    (hr : faultI (fun m => decide (m ≤ 400)) (some (List.replicate n b)) = r) : Chk T σ H (fun E => tCall (spCRF K C CW) [] E (tCons (tVar 12) (tCons (tOp (rRepM K) (tTup (tCons (tC (.int v)) tNil)) (tC (.int k))) tNil))) r CW := fun E G Q e t qN qS => by
  subst hk
  refine ⟨_, hσ, by show 1 ≤ sizeLine; decide, fun r1 n1 => ⟨r1, (n : Int), .int v, rfl, rfl, sqT upd_same, by omega, by omega, fun G2 r2 s2 h2 => ?_⟩⟩
  have s12 := (same_new (o := .tup [V.int v]) n1).trans s2
  rw [show ((n : Int)).toNat = n by omega] at h2
  refine ⟨p, dx, pk, pt, tdA, .ref r2, some (List.replicate n b), rfl, (TblAt.fr (.ext (S := []) e) (fun _ m => nomatch m) tb).same s12, tdA_ok, .tup h2 (by rw [List.length_replicate]; omega) (paired_rep (.inl ⟨.inl ⟨v, rfl, hb⟩, fun z => nomatch z⟩) n), fun hh G' s => qN (hr.symm.trans hh) G' (s12.trans s), fun i hi d G' nd s hd => ?_⟩
  exact qS i (hr.symm.trans hi) d G' (s12.free nd) (s12.trans s) hd
section
variable {P : Program} {w : World} {K : PySem.W.Frag} {mg : Str → Option Value} {base : Heap}
/-! ### the law -/
def spLaw (K : PySem.W.Frag) (T0 : List (Addr × Str)) : Sp := fun vs H Q _ => ∃ (a : Addr) (ns : List Int), vs = [.ref a] ∧ SqL K H a (ns.map V.int) ∧ ns.length ≤ 63 ∧ LamX.Tabs T0 H ∧ ∀ G, Q (.bl true) G
theorem ok_law {f fI fH C CS CB CW CF CD CT c Pt fHe fD fP fPa fCk fUr fQr fRw fRc fPu fTa fBa fUn : Addr} {fd fdI fdH fdHe fdD fdP fdPa fdCk fdUr fdQr fdRw fdRc fdPu fdTa fdBa fdUn : FuncData} {k : Nat} {T0 : List (Addr × Str)} (F : Fun K "law" "law" s_law f fd) (hc : fd.code = .ref c) (LT : LamT T0 base mg c Pt ("law" ++ ".<locals>." ++ "<lambda>")) (T : TTxt K mg C) (M : Mk K C fI) (bI : Binds K fdI ["self", "kinds", "types"] []) (GI : FnOk P w K mg base CX0 k fI fdI ["self", "kinds", "types"] (spTInit K C))
    (FHe : Fun K "_law_heap" "_law_heap" s__law_heap fHe fdHe) (bHe : Binds K fdHe ["script"] []) (gHe : mg "_law_heap" = some (.ref fHe)) (GHe : FnOk P w K mg base CX0 k fHe fdHe ["script"] (spHeap K))
    (FD : Fun K "_law_draw" "_law_draw" s__law_draw fD fdD) (bD : Binds K fdD ["heap", "many"] []) (gD : mg "_law_draw" = some (.ref fD)) (GD : FnOk P w K mg base CX0 k fD fdD ["heap", "many"] (spDraw))
    (FP : Fun K "_law_pick" "_law_pick" s__law_pick fP fdP) (bP : Binds K fdP ["heap", "some"] []) (gP : mg "_law_pick" = some (.ref fP)) (GP : FnOk P w K mg base CX0 k fP fdP ["heap", "some"] (spPick K))
    (FPa : Fun K "_law_parts" "_law_parts" s__law_parts fPa fdPa) (bPa : Binds K fdPa ["heap", "kinds", "types"] []) (gPa : mg "_law_parts" = some (.ref fPa)) (GPa : FnOk P w K mg base CX0 k fPa fdPa ["heap", "kinds", "types"] (spParts K))
    (FCk : Fun K "_law_checked_right" "_law_checked_right" s__law_checked_right fCk fdCk) (bCk : Binds K fdCk ["heap", "table", "stock", "bounds", "row"] []) (gCk : mg "_law_checked_right" = some (.ref fCk)) (GCk : FnG P w K mg base (k + 2) fCk fdCk ["heap", "table", "stock", "bounds", "row"] (spCK K T0 C))
    (FUr : Fun K "_law_units_right" "_law_units_right" s__law_units_right fUr fdUr) (bUr : Binds K fdUr ["heap", "table", "stock"] []) (gUr : mg "_law_units_right" = some (.ref fUr)) (GUr : FnG P w K mg base (k + 2) fUr fdUr ["heap", "table", "stock"] (spUR K T0))
    (FQr : Fun K "_law_requests_right" "_law_requests_right" s__law_requests_right fQr fdQr) (bQr : Binds K fdQr ["table", "bounds", "row"] []) (gQr : mg "_law_requests_right" = some (.ref fQr)) (GQr : FnG P w K mg base (k + 2) fQr fdQr ["table", "bounds", "row"] (spQR K T0 C))
    (FRw : Fun K "check_row" "check_row" s_check_row fRw fdRw) (bRw : Binds K fdRw ["table", "value"] []) (gRw : mg "check_row" = some (.ref fRw)) (GRw : FnOk P w K mg base (L2.CX P w) k fRw fdRw ["table", "value"] (spCRF K C CW))
    (FRc : Fun K "row_counts" "row_counts" s_row_counts fRc fdRc) (bRc : Binds K fdRc ["table", "row"] []) (gRc : mg "row_counts" = some (.ref fRc)) (GRc : FnOk P w K mg base CX0 k fRc fdRc ["table", "row"] (spRC K C))
    (FPu : Fun K "unit_put" "unit_put" s_unit_put fPu fdPu) (bPu : Binds K fdPu ["stock", "kind"] []) (gPu : mg "unit_put" = some (.ref fPu)) (GPu : FnOk P w K mg base (L2.CX P w) k fPu fdPu ["stock", "kind"] (spPutU K CF))
    (FTa : Fun K "unit_taken" "unit_taken" s_unit_taken fTa fdTa) (bTa : Binds K fdTa ["stock", "kind"] []) (gTa : mg "unit_taken" = some (.ref fTa)) (GTa : FnOk P w K mg base (L2.CX P w) k fTa fdTa ["stock", "kind"] (spTaken K CF))
    (FBa : Fun K "bounds_after" "bounds_after" s_bounds_after fBa fdBa) (bBa : Binds K fdBa ["bounds", "request"] []) (gBa : mg "bounds_after" = some (.ref fBa)) (GBa : FnOk P w K mg base (L2.CX P w) k fBa fdBa ["bounds", "request"] (spBAfter K CF))
    (FUn : Fun K "units_in" "units_in" s_units_in fUn fdUn) (bUn : Binds K fdUn ["stock", "kinds"] []) (gUn : mg "units_in" = some (.ref fUn)) (GUn : FnOk P w K mg base CX0 k fUn fdUn ["stock", "kinds"] (spUnits K))
    (FH : Fun K "_law_heard" "_law_heard" s__law_heard fH fdH) (bH : Binds K fdH ["action"] []) (gH : mg "_law_heard" = some (.ref fH)) (TH : HTxt K mg CS CB CW CF CD CT) (mI : mg "isinstance" = none)
    (ml : mg "len" = none) (mi : mg "int" = none) (mr : mg "range" = none) (mt : mg "tuple" = none) (mp : mg "repr" = none) :
    FnG P w K mg base (k + 2 + 1) f fd ["script"] (spLaw K T0) := by
  refine okGC F hc sc_law (fun vs H Q E h => ?_) (fun A outer s H vs Q E hrg h => ?_)
  · obtain ⟨a, ns, rfl, _⟩ := h
    rfl
  · obtain ⟨a, ns, rfl, hs, hl, tb, q⟩ := h
    have hr2 := hrg.rm
    have hr1 : Room (k + 1) _ := hr2.mono (Nat.le_succ _)
    have hr : Room k _ := hr2.mono (Nat.le_add_right _ _)
    have hgd := hrg.gd
    refine blk_cons (ps_set (i := 1) sc_law.nd rfl (.inr rfl) (pe_call (E := E0) GHe hr (by rfl) gHe FHe.kp bHe .nil pass0 (pa_cons (pv 0) pa_nil))) ?_
    refine blk_cons (ps_for PassesOwn.never rfl (pi_range1 (by rfl) mr (pa_cons (pe_op op_add pe_int (pe_callTy call_int1 (by rfl) mi (by decide +kernel) (pa_cons (pe_cmpR op_gt (pe_callB call_len_seq (by rfl) ml PySem.boot_len (pa_cons (pv 0) pa_nil)) pe_int (nomark _)) pa_nil))) pa_nil)) (pg_name (i := 2) sc_law.nd rfl (.inl rfl))
      (pss_cons (ps_asg (pe_call (E := E0) GPa hr (by rfl) gPa FPa.kp bPa .nil pass0 (pa_cons (pv 1) (pa_cons (pe_call (E := E0) GP hr (by rfl) gP FP.kp bP .nil pass0 (pa_cons (pv 1) (pa_cons (pe_lst (pa_cons pe_int (pa_cons pe_int (pa_cons pe_int (pa_cons pe_int (pa_cons pe_int pa_nil)))))) pa_nil))) (pa_cons (pe_call (E := E0) GP hr (by rfl) gP FP.kp bP .nil pass0 (pa_cons (pv 1) (pa_cons (pe_lst (pa_cons pe_int (pa_cons pe_int (pa_cons pe_int (pa_cons pe_int (pa_cons pe_int pa_nil)))))) pa_nil))) pa_nil)))) (pg_tup rfl (pgs_cons (pg_name (i := 3) sc_law.nd rfl (.inl rfl)) (pgs_cons (pg_name (i := 4) sc_law.nd rfl (.inr rfl)) pgs_nil))))
      (pss_cons (ps_asg (pe_tup (pa_cons (pe_make M GI hr1 (by rfl) T.mgC bI .nil pass0 (pa_cons (pv 3) (pa_cons (pv 4) pa_nil))) (pa_cons (pe_lst (pa_cons pe_int (pa_cons pe_int (pa_cons pe_int (pa_cons pe_int (pa_cons (pe_call (E := E0) GD hr (by rfl) gD FD.kp bD .nil pass0 (pa_cons (pv 1) (pa_cons pe_int pa_nil))) (pa_cons (pe_call (E := E0) GD hr (by rfl) gD FD.kp bD .nil pass0 (pa_cons (pv 1) (pa_cons pe_int pa_nil))) (pa_cons pe_int pa_nil)))))))) pa_nil))) (pg_tup rfl (pgs_cons (pg_name (i := 12) sc_law.nd rfl (.inr rfl)) (pgs_cons (pg_name (i := 5) sc_law.nd rfl (.inr rfl)) pgs_nil))))
      (pss_cons (ps_set (i := 6) sc_law.nd rfl (.inl rfl) (pe_callTy call_tuple_of (by rfl) mt (by decide +kernel) (pa_cons (pe_lc (own := [("kind", 13)]) (g := gName 13) (tt := tYes) rfl sc_law.nd (pi_tup (pv 3)) (blkOk_by (own := [("kind", 13)]) (N := n_law) (sc := defScope s_law) (by decide +kernel)) (fun _ _ _ _ _ => pg_name (i := 13) sc_law.nd rfl (Or.inl rfl)) (fun _ _ _ _ _ => pts_nil) (fun _ _ _ _ _ => (pe_call (E := E0) GP hr (by rfl) gP FP.kp bP .nil pass0 (pa_cons (pv 1) (pa_cons (pv 5) pa_nil))))) pa_nil)))
      (pss_cons (ps_set (i := 7) sc_law.nd rfl (.inl rfl) (pe_callTy call_tuple_of (by rfl) mt (by decide +kernel) (pa_cons (pe_lc (own := [("name", 14)]) (g := gName 14) (tt := tYes) rfl sc_law.nd (pi_tup (pv 4)) (blkOk_by (own := [("name", 14)]) (N := n_law) (sc := defScope s_law) (by decide +kernel)) (fun _ _ _ _ _ => pg_name (i := 14) sc_law.nd rfl (Or.inl rfl)) (fun _ _ _ _ _ => pts_nil) (fun _ _ _ _ _ => (pe_call (E := E0) GP hr (by rfl) gP FP.kp bP .nil pass0 (pa_cons (pv 1) (pa_cons (pe_op op_cat (pv 5) (pe_lst (pa_cons pe_non (pa_cons pe_non pa_nil)))) pa_nil))))) pa_nil)))
      (pss_cons (ps_set (i := 8) sc_law.nd rfl (.inl rfl) (pe_ifExp (pt_cmpR (op_neD hr.units) (pv 4) (pe_tup pa_nil) (nomark _)) (pe_call (E := E0) GP hr (by rfl) gP FP.kp bP .nil pass0 (pa_cons (pv 1) (pa_cons (pe_lst (pa_cons pe_int (pa_cons pe_int (pa_cons pe_int (pa_cons pe_int pa_nil))))) pa_nil))) pe_int))
      (pss_cons (ps_set (i := 9) sc_law.nd rfl (.inl rfl) (pe_callTy call_tuple_of (by rfl) mt (by decide +kernel) (pa_cons (pe_lc (own := [("request", 15)]) (g := gName 15) (tt := tYes) rfl sc_law.nd (pi_range1 (by rfl) mr (pa_cons (pv 8) pa_nil)) (blkOk_by (own := [("request", 15)]) (N := n_law) (sc := defScope s_law) (by decide +kernel)) (fun _ _ _ _ _ => pg_name (i := 15) sc_law.nd rfl (Or.inl rfl)) (fun _ _ _ _ _ => pts_nil) (fun _ _ _ _ _ => (pe_call (E := E0) GD hr (by rfl) gD FD.kp bD .nil pass0 (pa_cons (pv 1) (pa_cons (pe_callB (r := rLenQ K) call_len_seq (by rfl) ml PySem.boot_len (pa_cons (pv 4) pa_nil)) pa_nil))))) pa_nil)))
      (pss_cons (ps_set (i := 10) sc_law.nd rfl (.inl rfl) (pe_callB (call_reprF hgd hr.units) (by rfl) mp (by decide +kernel) (pa_cons (pe_tup (pa_cons (pv 6) (pa_cons (pv 7) (pa_cons (pv 9) (pa_cons (pv 3) (pa_cons (pv 4) pa_nil)))))) pa_nil)))
      (pss_cons (ps_if (PW.pt (pw_or (pt_not (pt_val (pe_callG (E := E0) GCk hrg (by rfl) gCk FCk.kp bCk .nil (pa_cons (pv 1) (pa_cons (pv 12) (pa_cons (pv 6) (pa_cons (pv 7) (pa_cons (pv 9) pa_nil)))))))) (pw_or1 (pt_not (pt_val (pe_callG (E := E0) GUr hrg (by rfl) gUr FUr.kp bUr .nil (pa_cons (pv 1) (pa_cons (pv 12) (pa_cons (pv 6) pa_nil))))))))) (pss_one (ps_ret pe_bl)) pss_nil)
      (pss_one (ps_if (PW.pt (pw_or (pt_not (pt_val (pe_callG (E := E0) GQr hrg (by rfl) gQr FQr.kp bQr .nil (pa_cons (pv 12) (pa_cons (pv 7) (pa_cons (pv 9) pa_nil)))))) (pw_or1 (pt_cmpR op_ne (pe_callB (call_reprF hgd hr.units) (by rfl) mp (by decide +kernel) (pa_cons (pe_tup (pa_cons (pv 6) (pa_cons (pv 7) (pa_cons (pv 9) (pa_cons (pe_fld (pv 12) rfl) (pa_cons (pe_fld (pv 12) rfl) pa_nil)))))) pa_nil)) (pv 10) (nomark _))))) (pss_one (ps_ret pe_bl)) pss_nil))))))))))) ?_
    refine blk_cons (ps_set (i := 12) sc_law.nd rfl (.inr rfl) (pe_make M GI hr1 (by rfl) T.mgC bI .nil pass0 (pa_cons (pe_tup (pa_cons pe_str (pa_cons pe_str pa_nil))) (pa_cons (pe_tup (pa_cons (pe_tup (pa_cons pe_str (pa_cons (pe_tup (pa_cons pe_int pa_nil)) pa_nil))) (pa_cons (pe_tup (pa_cons pe_str (pa_cons (pe_tup pa_nil) pa_nil))) pa_nil))) pa_nil)))) ?_
    refine blk_cons (ps_set (i := 11) sc_law.nd rfl (.inl rfl) (pe_lst (pa_cons (pe_hd (k := k) FH bH (by rfl) gH TH mI LT rfl hr2 (LamX.lamS_by (sc := defScope s_law) (by decide +kernel)) (fun A out s H E f c' hr' => pe_call (E := E) GRw hr' (by rfl) gRw FRw.kp bRw .nil passX (pa_cons (pv 12) (pa_cons (pe_op (r := rRepM K) op_repM (pe_tup (pa_cons pe_int pa_nil)) pe_int) pa_nil)))) pa_nil))) ?_
    refine blk_cons (ps_expr (pe_bm PySem.F.plainAttrs_list PySem.F.slot_list_append PySem.F.type_list_append mt_append (pv 11) (pa_cons (pe_hd (k := k) FH bH (by rfl) gH TH mI LT rfl hr2 (LamX.lamS_by (sc := defScope s_law) (by decide +kernel)) (fun A out s H E f c' hr' => pe_call (E := E) GRw hr' (by rfl) gRw FRw.kp bRw .nil passX (pa_cons (pv 12) (pa_cons (pe_op (r := rRepM K) op_repM (pe_tup (pa_cons pe_int pa_nil)) pe_int) pa_nil)))) pa_nil))) ?_
    refine blk_cons (ps_expr (pe_bm PySem.F.plainAttrs_list PySem.F.slot_list_append PySem.F.type_list_append mt_append (pv 11) (pa_cons (pe_hd (k := k) FH bH (by rfl) gH TH mI LT rfl hr2 (LamX.lamS_by (sc := defScope s_law) (by decide +kernel)) (fun A out s H E f c' hr' => pe_call (E := E) GRw hr' (by rfl) gRw FRw.kp bRw .nil passX (pa_cons (pv 12) (pa_cons (pe_op (r := rRepM K) op_repM (pe_tup (pa_cons pe_int pa_nil)) pe_int) pa_nil)))) pa_nil))) ?_
    refine blk_cons (ps_if (PW.pt (pw_or (pt_cmpR (op_neD hr.units) (pv 11) (pe_lst (pa_cons pe_non (pa_cons (pe_tup (pa_cons pe_str (pa_cons (pe_op op_sub pe_int pe_int) pa_nil))) (pa_cons (pe_tup (pa_cons pe_str (pa_cons (pe_op op_sub pe_int pe_int) pa_nil))) pa_nil)))) (nomark _)) (pw_or1 (pt_cmpR (op_neD hr.units) (pe_call (E := E0) GRc hr (by rfl) gRc FRc.kp bRc .nil pass0 (pa_cons (pv 12) (pa_cons (pe_op (r := rRepM K) op_repM (pe_tup (pa_cons pe_int pa_nil)) pe_int) pa_nil))) (pe_tup (pa_cons pe_int (pa_cons pe_int pa_nil))) (nomark _))))) (pss_one (ps_ret pe_bl)) pss_nil) ?_
    refine blk_cons (ps_if (PW.pt (pw_or (pt_cmpR (op_neD hr.units) (pe_hd (k := k) FH bH (by rfl) gH TH mI LT rfl hr2 (LamX.lamS_by (sc := defScope s_law) (by decide +kernel)) (fun A out s H E f c' hr' => pe_call (E := E) GPu hr' (by rfl) gPu FPu.kp bPu .nil passX (pa_cons (pe_tup (pa_cons pe_int (pa_cons pe_int pa_nil))) (pa_cons pe_int pa_nil)))) pe_str (nomark _)) (pw_or1 (pt_cmpR (op_neD hr.units) (pe_call (E := E0) GTa hr (by rfl) gTa FTa.kp bTa .nil passL (pa_cons (pe_tup (pa_cons pe_int (pa_cons pe_int pa_nil))) (pa_cons pe_int pa_nil))) (pe_tup (pa_cons pe_int (pa_cons pe_int pa_nil))) (nomark _))))) (pss_one (ps_ret pe_bl)) pss_nil) ?_
    refine blk_cons (ps_ret (pe_and (pe_cmpR (op_eqD hr.units) (pe_call (E := E0) GBa hr (by rfl) gBa FBa.kp bBa .nil passL (pa_cons (pe_tup (pa_cons pe_int (pa_cons pe_non pa_nil))) (pa_cons pe_int pa_nil))) (pe_tup (pa_cons pe_int (pa_cons pe_non pa_nil))) (nomark _)) (pe_and (pe_cmpR (op_eqD hr.units) (pe_call (E := E0) GPu hr (by rfl) gPu FPu.kp bPu .nil passL (pa_cons (pe_tup (pa_cons pe_int (pa_cons pe_int pa_nil))) (pa_cons pe_int pa_nil))) (pe_tup (pa_cons pe_int (pa_cons pe_int pa_nil))) (nomark _)) (pe_one (pe_cmpR op_eq (pe_call (E := E0) GUn hr (by rfl) gUn FUn.kp bUn .nil pass0 (pa_cons (pe_tup (pa_cons pe_int (pa_cons pe_int pa_nil))) (pa_cons (pe_tup (pa_cons pe_int (pa_cons pe_int pa_nil))) pa_nil))) pe_int (nomark _)))))) ?_
    refine blk_nil ?_
    refine asg_go ⟨_, rfl, a, ns, rfl, hs, hl, fun G0 h l L st s0 _ _ hv0 => ?_⟩
    have hs0 : SqL K G0 a (ns.map V.int) := s0.seq hs
    have tb0 := tb.ext s0
    dsimp only [gName]
    refine seq_out (t := tFor _ _ _) (fun σ' G' => LamX.Tabs T0 G' ∧ ∃ y2 y3 y4 y5 y6 y7 y8 y9 y10 y12, σ' = [some (.ref a), some (.ref h), y2, y3, y4, y5, y6, y7, y8, y9, y10, none, y12, none, none, none]) (fun N hN => ?_) (fun σ' G' hR => ?_)
    · refine ⟨_, rfl, a, _, rfl, .inl hs0, _, _, rfl, rfl, .inr ⟨_, rfl, _, _, rfl, rfl, _, rfl, ?_, ?_, for_range (lo := 0) (fun i σ G => On T0 h l G0 G ∧ ∃ y2 y3 y4 y5 y6 y7 y8 y9 y10 y12, σ = [some (.ref a), some (.ref h), y2, y3, y4, y5, y6, y7, y8, y9, y10, none, y12, none, none, none]) ⟨On.refl hv0 tb0, _, _, _, _, _, _, _, _, _, _, rfl⟩ (fun i σ G hi hP => ?_) (fun σ G hP => ?_)⟩⟩
      · split <;> decide
      · split <;> decide
      · obtain ⟨o0, y2, y3, y4, y5, y6, y7, y8, y9, y10, y12, rfl⟩ := hP
        dsimp only [gName]
        obtain ⟨L1, st1, hv1⟩ := o0.hv
        refine asg_go ⟨_, rfl, _, rfl, by show 5 ≤ sizeLine; decide, fun p1 n1 => ?_⟩
        refine ⟨h, l, L1, st1, p1, [.int 3, .int 2, .int 1, .int 8, .int 5], rfl, hv1.new n1, sqL upd_same, (ne_of_none hv1.top n1).symm, (ne_of_none hv1.bot n1).symm, by show 0 < 5; decide, by show 5 < 1000; decide, fun G2 L2 st2 j2 x2 b2 hv2 hx2 => ?_⟩
        obtain ⟨kk, rfl, kk1, kk8⟩ : ∃ kk : Nat, x2 = .int (kk : Int) ∧ 1 ≤ kk ∧ kk ≤ 8 := by
          match j2, hx2 with
          | 0, hx2 => cases hx2; exact ⟨3, rfl, by decide, by decide⟩
          | 1, hx2 => cases hx2; exact ⟨2, rfl, by decide, by decide⟩
          | 2, hx2 => cases hx2; exact ⟨1, rfl, by decide, by decide⟩
          | 3, hx2 => cases hx2; exact ⟨8, rfl, by decide, by decide⟩
          | 4, hx2 => cases hx2; exact ⟨5, rfl, by decide, by decide⟩
          | _ + 5, hx2 => simp at hx2
        refine ⟨_, rfl, by show 5 ≤ sizeLine; decide, fun p3 n3 => ?_⟩
        refine ⟨h, l, L2, st2, p3, [.int 3, .int 5, .int 0, .int 12, .int 1], rfl, hv2.new n3, sqL upd_same, (ne_of_none hv2.top n3).symm, (ne_of_none hv2.bot n3).symm, by show 0 < 5; decide, by show 5 < 1000; decide, fun G4 L4 st4 j4 x4 b4 hv4 hx4 => ?_⟩
        obtain ⟨tt, rfl, tt12⟩ : ∃ tt : Nat, x4 = .int (tt : Int) ∧ tt ≤ 12 := by
          match j4, hx4 with
          | 0, hx4 => cases hx4; exact ⟨3, rfl, by decide⟩
          | 1, hx4 => cases hx4; exact ⟨5, rfl, by decide⟩
          | 2, hx4 => cases hx4; exact ⟨0, rfl, by decide⟩
          | 3, hx4 => cases hx4; exact ⟨12, rfl, by decide⟩
          | 4, hx4 => cases hx4; exact ⟨1, rfl, by decide⟩
          | _ + 5, hx4 => simp at hx4
        refine ⟨h, l, L4, st4, kk, tt, rfl, hv4, kk1, kk8, tt12, fun G5 L5 st5 q5 pk pt t b5 hv5 hq5 dk dt ok lk lt => ?_⟩
        have o5 : On T0 h l G0 G5 := ((((o0.same (same_new n1)).but b2 hv2).same (same_new n3)).but b4 hv4).but b5 hv5
        refine ⟨q5, _, rfl, hq5, rfl, _, _, rfl, _, _, rfl, rfl, ?_⟩
        dsimp only [gName]
        -- the table, the numbers
        refine asg_go ⟨_, rfl, _, rfl, ?_⟩
        intro p dx np ndx nex
        have s5 : Same G5 (upd (upd G5 dx (.own p)) p (.ins C dx [])) := (same_new ndx).trans (same_new ((upd_ne (Ne.symm nex)).trans np))
        refine ⟨p, dx, pk, pt, t, rfl, upd_same, dp_same s5 _ _ dk, dp_same s5 _ _ dt, ok, fun G6 keep tb6 => ⟨rfl, ?_⟩⟩
        have s6 : Same G5 G6 := fun b o e => keep b o (ne_of_none e np) (s5 _ _ e)
        have hv6 := hv5.same s6
        refine ⟨_, rfl, h, l, L5, st5, 9, rfl, hv6, by decide, by decide, fun G7 L7 st7 r7 b7 hv7 r70 r71 => ⟨_, rfl, h, l, L7, st7, 401, rfl, hv7, by decide, by decide, fun G8 L8 st8 r8 b8 hv8 r80 r81 => ⟨by show 7 ≤ sizeLine; decide, fun pn nn => ⟨by show 2 ≤ sizeLine; decide, fun pq nq => ?_⟩⟩⟩⟩
        refine ⟨pq, _, rfl, sqT upd_same, rfl, _, _, rfl, _, _, rfl, rfl, ?_⟩
        dsimp only [gName]
        have sA := (same_new (o := .lst [V.int 0, V.int 0, V.int 1, V.int 2, V.int r7, V.int r8, V.int 400]) nn).trans (same_new (o := .tup [V.ref p, V.ref pn]) nq)
        have gA : upd (upd G8 pn (.lst [V.int 0, V.int 0, V.int 1, V.int 2, V.int r7, V.int r8, V.int 400])) pq (.tup [V.ref p, V.ref pn]) pn = some (.lst (([0, 0, 1, 2, r7, r8, 400] : List Int).map V.int)) := (same_new (o := .tup [V.ref p, V.ref pn]) nq) _ _ upd_same
        have nb : ∀ z ∈ ([0, 0, 1, 2, r7, r8, 400] : List Int), 0 ≤ z ∧ z ≤ 400 := fun z m => by
          simp only [List.mem_cons, List.not_mem_nil, or_false] at m
          omega
        have nl7 : ([0, 0, 1, 2, r7, r8, 400] : List Int).length = 7 := rfl
        generalize ([0, 0, 1, 2, r7, r8, 400] : List Int) = nums at gA nb nl7
        have ph : pn ≠ h := (ne_of_none hv8.top nn).symm
        have pl : pn ≠ l := (ne_of_none hv8.bot nn).symm
        have oA := (((o5.same s6).but b7 hv7).but b8 hv8).same sA
        have hvA := hv8.same sA
        have tbA := ((tb6.keep (.but hv6 b7)).keep (.but hv7 b8)).same sA
        generalize upd (upd G8 pn (.lst [V.int 0, V.int 0, V.int 1, V.int 2, V.int r7, V.int r8, V.int 400])) pq (.tup [V.ref p, V.ref pn]) = GA at gA oA hvA tbA ⊢
        have stA : ∀ {G a xs}, On T0 h l GA G → SqT K GA a xs → SqT K G a xs := fun o s => o.seqT hvA s
        have hkA := kinds_sq tbA.kd
        obtain ⟨us, htA, hda⟩ := types_sq tbA.td
        have hlu := dpAll_len hda
        rw [List.length_map] at hlu
        have k8 := ok.k8
        have t12 := ok.t12
        -- the stock
        refine asg_go ⟨_, rfl, pk, rfl, ⟨_, hkA⟩, fun D nD => ?_⟩
        have Dh : D ≠ h := (ne_of_none hvA.top nD).symm
        have Dl : D ≠ l := (ne_of_none hvA.bot nD).symm
        have Dn : D ≠ pn := (ne_of_none gA nD).symm
        refine lc_tup (K := K) (a := pk) (xs := t.kinds.map V.str) (fun i G => On T0 h l GA G ∧ ∃ zs : List Int, zs.length = i ∧ (∀ z ∈ zs, 0 ≤ z ∧ z ≤ 400) ∧ G D = some (.lst (zs.map V.int))) ⟨((On.refl hvA oA.tb).same (same_new nD)), [], rfl, fun z m => (nomatch m), upd_same⟩ (fun i G _ hP => stA hP.1 hkA) (fun i x G hx hP => ?_) (fun G hP => ?_)
        · obtain ⟨oG, zs, lz, bz, gD⟩ := hP
          obtain ⟨LG, stG, hvG⟩ := oG.hv
          have hi : i < t.kinds.length := by
            have := (List.getElem?_eq_some_iff.mp hx).1
            rwa [List.length_map] at this
          refine ⟨rfl, ?_⟩
          dsimp only [tYes]
          rw [if_pos rfl]
          refine ⟨_, rfl, _, rfl, h, l, LG, stG, pn, _, rfl, hvG, sqL (oG.lst gA ph pl), ph, pl, by rw [List.length_map, nl7]; decide, by rw [List.length_map, nl7]; decide, fun G' L' st' j y b' hv' hy => ?_⟩
          rw [List.getElem?_map] at hy
          obtain ⟨z, hz, rfl⟩ := Option.map_eq_some_iff.mp hy
          have gD' := b' _ _ Dh Dl gD
          refine ⟨_, gD', by rw [List.length_map, lz, sizeLine_eq]; omega, (oG.but b' hv').put nD gD' Dh Dl, zs ++ [z], by rw [List.length_append, lz]; rfl, fun w m => ?_, by rw [upd_same, List.map_append]; rfl⟩
          rcases List.mem_append.mp m with m | m
          · exact bz w m
          · rw [List.mem_singleton.mp m]
            exact nb _ (List.mem_of_getElem? hz)
        obtain ⟨oB, zs, lz, bz, gD⟩ := hP
        rw [List.length_map] at lz
        refine ⟨D, _, rfl, .inl ⟨sqL gD, fun sq nsq => ?_⟩⟩
        dsimp only [gName]
        have oB' := oB.same (same_new (o := .tup (zs.map V.int)) nsq)
        have hsB : SqT K (upd G sq (.tup (zs.map V.int))) sq (zs.map V.int) := sqT upd_same
        generalize upd G sq (.tup (zs.map V.int)) = GB at oB' hsB ⊢
        -- the bounds
        have htB := stA oB' htA
        refine asg_go ⟨_, rfl, pt, rfl, ⟨_, htB⟩, fun D2 nD2 => ?_⟩
        obtain ⟨LB, stB, hvB⟩ := oB'.hv
        have D2h : D2 ≠ h := (ne_of_none hvB.top nD2).symm
        have D2l : D2 ≠ l := (ne_of_none hvB.bot nD2).symm
        refine lc_tup (K := K) (a := pt) (xs := us) (fun i G => On T0 h l GB G ∧ ∃ bs : List (Option Int), bs.length = i ∧ (∀ z, some z ∈ bs → 0 ≤ z ∧ z ≤ 400) ∧ G D2 = some (.lst (bs.map itV))) ⟨((On.refl hvB oB'.tb).same (same_new nD2)), [], rfl, fun z m => (nomatch m), upd_same⟩ (fun i G _ hP => hP.1.seqT hvB htB) (fun i x G hx hP => ?_) (fun G hP => ?_)
        · obtain ⟨oG, bs, lb, bb, gD⟩ := hP
          obtain ⟨LG, stG, hvG⟩ := oG.hv
          have hi : i < us.length := (List.getElem?_eq_some_iff.mp hx).1
          refine ⟨rfl, ?_⟩
          dsimp only [tYes]
          rw [if_pos rfl]
          refine ⟨_, rfl, _, rfl, by show 2 ≤ sizeLine; decide, fun pz nz => ⟨pn, pz, _, _, rfl, rfl, (same_new nz) _ _ (oG.lst (oB'.lst gA ph pl) ph pl), upd_same, by rw [List.length_map, nl7]; decide, fun py ny => ?_⟩⟩
          have sy := (same_new (o := .lst [V.non, V.non]) nz).trans (same_new (o := .lst (nums.map V.int ++ [V.non, V.non])) ny)
          have hvY := hvG.same sy
          refine ⟨h, l, LG, stG, py, _, rfl, hvY, sqL upd_same, (ne_of_none (hvG.same (same_new nz)).top ny).symm, (ne_of_none (hvG.same (same_new nz)).bot ny).symm, by rw [List.length_append, List.length_map, nl7]; decide, by rw [List.length_append, List.length_map, nl7]; decide, fun G' L' st' j y b' hv' hy => ?_⟩
          obtain ⟨o, rfl, bo⟩ : ∃ o : Option Int, y = itV o ∧ ∀ z, o = some z → 0 ≤ z ∧ z ≤ 400 := by
            rcases List.mem_append.mp (List.mem_of_getElem? hy) with m | m
            · obtain ⟨z, mz, rfl⟩ := List.mem_map.mp m
              exact ⟨some z, rfl, fun w e => by cases e; exact nb z mz⟩
            · refine ⟨none, ?_, fun z e => nomatch e⟩
              simp only [List.mem_cons, List.not_mem_nil, or_false, or_self] at m
              exact m
          have gD' := b' _ _ D2h D2l (sy _ _ gD)
          have oG' := (oG.same sy).but b' hv'
          refine ⟨_, gD', by rw [List.length_map, lb, sizeLine_eq]; omega, oG'.put nD2 gD' D2h D2l, bs ++ [o], by rw [List.length_append, lb]; rfl, fun w m => ?_, by rw [upd_same, List.map_append]; rfl⟩
          rcases List.mem_append.mp m with m | m
          · exact bb w m
          · exact bo w (List.mem_singleton.mp m).symm
        obtain ⟨oC, bs, lb, bb, gD2⟩ := hP
        refine ⟨D2, _, rfl, .inl ⟨sqL gD2, fun bq nbq => ?_⟩⟩
        dsimp only [gName]
        have oC' := oC.same (same_new (o := .tup (bs.map itV)) nbq)
        have hbC : SqT K (upd G bq (.tup (bs.map itV))) bq (bs.map itV) := sqT upd_same
        generalize upd G bq (.tup (bs.map itV)) = GC at oC' hbC ⊢
        -- the size
        have oAC := oB'.trans oC'
        have tbC : TblAt K C GC p dx pk pt t := TblAt.fr oAC.fr (lsts_hv hvA) tbA
        obtain ⟨⟨f1, p1', c1⟩, f2, p2', c2⟩ := table_fine ok
        refine seq_out (t := tAsg _ _) (fun σ' G' => ∃ n : Nat, n ≤ 20 ∧ (t.types = [] → n = 0) ∧ On T0 h l GC G' ∧ σ' = [some (.ref a), some (.ref h), some (.int (0 + (i : Int))), some (.ref pk), some (.ref pt), some (.ref pn), some (.ref sq), some (.ref bq), some (.int (n : Int)), y9, y10, none, some (.ref p), none, none, none]) (fun N hN => ?_) (fun σ' G' hR => ?_)
        · dsimp only [tAsg]
          refine ⟨_, rfl, Nat.zero_le _, fun r nr => ⟨typesD t, .tuple [], dp_same (same_new nr) _ _ tbC.td, .tup (sqT upd_same) .nil, fine_shaped f2 (by omega), rfl, _, rfl, ?_⟩⟩
          rw [eqv_types]
          have oC2 : On T0 h l GC (upd GC r (.tup [])) := (On.refl oC'.hv.choose_spec.choose_spec oC'.tb).same (same_new nr)
          by_cases ht : t.types = []
          · rw [decide_eq_true ht]
            exact iteF (hN _ _ ⟨0, Nat.zero_le _, fun _ => rfl, oC2, rfl⟩)
          · rw [decide_eq_false ht]
            obtain ⟨L9, st9, hv9⟩ := oC2.hv
            refine iteT ⟨_, rfl, by show 4 ≤ sizeLine; decide, fun p9 n9 => ⟨h, l, L9, st9, p9, [.int 0, .int 3, .int 9, .int 20], rfl, hv9.new n9, sqL upd_same, (ne_of_none hv9.top n9).symm, (ne_of_none hv9.bot n9).symm, by show 0 < 4; decide, by show 4 < 1000; decide, fun G' L' st' j x b' hv' hx => ?_⟩⟩
            obtain ⟨n, rfl, hn⟩ : ∃ n : Nat, x = .int (n : Int) ∧ n ≤ 20 := by
              match j, hx with
              | 0, hx => cases hx; exact ⟨0, rfl, by decide⟩
              | 1, hx => cases hx; exact ⟨3, rfl, by decide⟩
              | 2, hx => cases hx; exact ⟨9, rfl, by decide⟩
              | 3, hx => cases hx; exact ⟨20, rfl, by decide⟩
              | _ + 4, hx => simp at hx
            exact hN _ _ ⟨n, hn, fun z => absurd z ht, (oC2.same (same_new n9)).but b' hv', rfl⟩
        · obtain ⟨n, hn20, hn0, oS, rfl⟩ := hR
          obtain ⟨LC, stC, hvC⟩ := oC'.hv
          obtain ⟨LS, stS, hvS⟩ := oS.hv
          -- the row
          refine asg_go ⟨_, rfl, _, rfl, by omega, by omega, fun D3 nD3 => ?_⟩
          have D3h : D3 ≠ h := (ne_of_none hvS.top nD3).symm
          have D3l : D3 ≠ l := (ne_of_none hvS.bot nD3).symm
          have tbS : TblAt K C G' p dx pk pt t := TblAt.fr oS.fr (lsts_hv hvC) tbC
          obtain ⟨us2, htS, hda2⟩ := types_sq tbS.td
          have hlu2 := dpAll_len hda2
          rw [List.length_map] at hlu2
          refine lc_range (lo := 0) (fun j G => On T0 h l G' G ∧ ∃ rs : List Nat, rs.length = j ∧ (∀ a ∈ rs, a < t.types.length) ∧ G D3 = some (.lst (natsV rs))) ⟨(On.refl hvS oS.tb).same (same_new nD3), [], rfl, fun z m => (nomatch m), upd_same⟩ (fun j G hj hP => ?_) (fun G hP => ?_)
          · obtain ⟨oG, rs, lr, br, gD⟩ := hP
            obtain ⟨LG, stG, hvG⟩ := oG.hv
            have tpos : 0 < t.types.length := by
              rcases Nat.eq_zero_or_pos t.types.length with z | z
              · have := hn0 (List.length_eq_zero_iff.mp z)
                omega
              · exact z
            refine ⟨rfl, ?_⟩
            dsimp only [tYes]
            rw [if_pos rfl]
            refine ⟨_, rfl, _, rfl, pt, _, rfl, .inr (oG.seqT hvS htS), h, l, LG, stG, (us2.length : Int), rfl, hvG, by omega, by omega, fun G2 L2 st2 r b2 hv2 r0 r1 => ?_⟩
            obtain ⟨a2, rfl⟩ := Int.eq_ofNat_of_zero_le r0
            have gD' := b2 _ _ D3h D3l gD
            refine ⟨_, gD', by rw [List.length_map, lr, sizeLine_eq]; omega, (oG.but b2 hv2).put nD3 gD' D3h D3l, rs ++ [a2], by rw [List.length_append, lr]; rfl, fun w m => ?_, by rw [upd_same]; show some (HO.lst _) = some (HO.lst (List.map _ (rs ++ [a2]))); rw [List.map_append]; rfl⟩
            rcases List.mem_append.mp m with m | m
            · exact br w m
            · rw [List.mem_singleton.mp m]
              omega
          obtain ⟨oR, rs, lr, br, gD3⟩ := hP
          have lr20 : rs.length ≤ 20 := by rw [lr]; omega
          refine ⟨D3, _, rfl, .inl ⟨sqL gD3, fun rq nrq => ?_⟩⟩
          dsimp only [gName]
          have oR' := oR.same (same_new (o := .tup (natsV rs)) nrq)
          have hrR : SqT K (upd G rq (.tup (natsV rs))) rq (natsV rs) := sqT upd_same
          generalize upd G rq (.tup (natsV rs)) = GR at oR' hrR ⊢
          have oAR := oAC.trans (oS.trans oR')
          have tbR : TblAt K C GR p dx pk pt t := TblAt.fr oAR.fr (lsts_hv hvA) tbA
          have hsR : SqT K GR sq (zs.map V.int) := (oC'.trans (oS.trans oR')).seqT hvB hsB
          have hbR : SqT K GR bq (bs.map itV) := (oS.trans oR').seqT hvC hbC
          -- what is kept
          have fI : ∀ {ys : List (Option Int)}, (∀ z, some z ∈ ys → 0 ≤ z ∧ z ≤ 400) → ∀ z, some z ∈ ys → z.natAbs < 10 ^ 9 := fun hh z m => by
            have := hh z m
            omega
          have bx : ∀ z, some z ∈ zs.map some → 0 ≤ z ∧ z ≤ 400 := fun z m => by
            obtain ⟨w2, hw2, e⟩ := List.mem_map.mp m
            rw [← Option.some.inj e]
            exact bz w2 hw2
          have brI : ∀ z, some z ∈ rs.map (fun a : Nat => some (a : Int)) → 0 ≤ z ∧ z ≤ 400 := fun z m => by
            obtain ⟨w2, hw2, e⟩ := List.mem_map.mp m
            have := br w2 hw2
            have := Option.some.inj e
            omega
          have lb12 : bs.length ≤ 12 := by rw [lb, hlu]; exact t12
          have lz12 : zs.length ≤ 12 := by omega
          have hkF := kept_fd ok (its_fd (fI bx) (by rw [List.length_map]; omega)) (its_fd (fI bb) (by omega)) (its_fd (fI brI) (by rw [List.length_map]; omega)) (by have := its_cost (zs.map some); rw [List.length_map] at this; omega) (by have := its_cost bs; omega) (by have := its_cost (rs.map fun a : Nat => some (a : Int)); rw [List.length_map] at this; omega)
          have dX : ∀ {G}, On T0 h l GR G → Dp K G (.ref sq) (.tuple ((zs.map some).map itD)) := fun o => .tup (its_int ▸ o.seqT oR'.hv.choose_spec.choose_spec hsR) (dpAll_its _)
          have dB : ∀ {G}, On T0 h l GR G → Dp K G (.ref bq) (.tuple (bs.map itD)) := fun o => .tup (o.seqT oR'.hv.choose_spec.choose_spec hbR) (dpAll_its _)
          have dR : ∀ {G}, On T0 h l GR G → Dp K G (.ref rq) (.tuple ((rs.map fun a : Nat => some (a : Int)).map itD)) := fun o => .tup (natsV_its rs ▸ o.seqT oR'.hv.choose_spec.choose_spec hrR) (dpAll_its _)
          obtain ⟨LR, stR, hvR⟩ := oR'.hv
          have oR0 : On T0 h l GR GR := On.refl hvR oR'.tb
          have tbG : ∀ {G}, On T0 h l GR G → TblAt K C G p dx pk pt t := fun o => TblAt.fr o.fr (lsts_hv hvR) tbR
          refine asg_go (re_gv hkF (gv_tup (gvA_cons (gv_var rfl (dX oR0)) fun G s => gvA_cons (gv_var rfl (dB (oR0.same s))) fun G s2 => gvA_cons (gv_var rfl (dR ((oR0.same s).same s2))) fun G s3 => gvA_cons (gv_var rfl (tbG (((oR0.same s).same s2).same s3)).kd) fun G s4 => gvA_cons (gv_var rfl (tbG ((((oR0.same s).same s2).same s3).same s4)).td) fun _ _ => gvA_nil)) _ fun GK sK => ?_)
          dsimp only [gName]
          have oK := oR0.same sK
          obtain ⟨LK, stK, hvK⟩ := oK.hv
          have aX : ∀ {G}, On T0 h l GR G → SqT K G sq ((zs.map some).map itV) := fun o => its_int ▸ o.seqT hvR hsR
          -- the checks
          refine seq_go (ifS_go ⟨_, rfl, _, rfl, _, rfl, _, rfl, _, rfl, h, l, p, dx, pk, pt, sq, bq, rq, LK, stK, t, zs.map some, bs, rs.map fun a : Nat => some (a : Int), rfl, hvK, oK.tb, tbG oK, ok, aX oK, by rw [List.length_map]; omega, fI bx, oK.seqT hvR hbR, by omega, fI bb, natsV_its rs ▸ oK.seqT hvR hrR, by rw [List.length_map]; omega, fI brI, fun GL oKL => ⟨_, rfl, iteF ?_⟩⟩)
          have oL := oK.trans oKL
          obtain ⟨LL, stL, hvL⟩ := oL.hv
          refine ⟨_, rfl, _, rfl, _, rfl, h, l, sq, .ref p, LL, stL, zs, rfl, hvL, oL.tb, oL.seqT hvR hsR, lz12, bz, fun GM oLM => ⟨_, rfl, iteF ?_⟩⟩
          have oM := oL.trans oLM
          dsimp only [tNext]
          refine ifS_go ⟨_, rfl, _, rfl, _, rfl, p, dx, pk, pt, bq, rq, t, bs, rs, rfl, tbG oM, ok, oM.tb, oM.seqT hvR hbR, lb12, bb, oM.seqT hvR hrR, br, by omega, fun GN eN tN => ⟨_, rfl, iteF ?_⟩⟩
          have oN := oM.ext eN tN
          refine test_go (op_go (re_gv hkF (gv_tup (gvA_cons (gv_var rfl (dX oN)) fun G s => gvA_cons (gv_var rfl (dB (oN.same s))) fun G s2 => gvA_cons (gv_var rfl (dR ((oN.same s).same s2))) fun G s3 => gvA_cons (fun Q' q' => ⟨_, rfl, p, C, dx, _, _, rfl, (tbG (((oN.same s).same s2).same s3)).obj, T.cl, T.nK, tf_k _ _, q' _ _ (Same.refl _) (tbG (((oN.same s).same s2).same s3)).kd⟩) fun G s4 => gvA_cons (fun Q' q' => ⟨_, rfl, p, C, dx, _, _, rfl, (tbG ((((oN.same s).same s2).same s3).same s4)).obj, T.cl, T.nT, tf_t _ _, q' _ _ (Same.refl _) (tbG ((((oN.same s).same s2).same s3).same s4)).td⟩) fun _ _ => gvA_nil)) _ fun GO sO => ⟨_, rfl, rfl, _, rfl, ?_⟩))
          rw [decide_eq_true rfl]
          exact iteF ⟨((oA.trans oAR).trans oN).same sO, _, _, _, _, _, _, _, _, _, _, rfl⟩
      · exact hN _ _ ⟨hP.1.tb, hP.2⟩
    · obtain ⟨tbT, y2, y3, y4, y5, y6, y7, y8, y9, y10, y12, rfl⟩ := hR
      refine asg_go (mk_gv (t := tdA) (gvA_cons (gv_tup (gvA_cons gv_str fun _ _ => gvA_cons gv_str fun _ _ => gvA_nil)) fun _ _ => gvA_cons (gv_tup (gvA_cons (gv_tup (gvA_cons gv_str fun _ _ => gvA_cons (gv_tup (gvA_cons gv_int fun _ _ => gvA_nil)) fun _ _ => gvA_nil)) fun _ _ => gvA_cons (gv_tup (gvA_cons gv_str fun _ _ => gvA_cons gv_tup0 fun _ _ => gvA_nil)) fun _ _ => gvA_nil)) fun _ _ => gvA_nil) tdA_ok fun G1 p dx pk pt s1 d1 => ?_)
      dsimp only [gName]
      have t1 := tbT.ext s1
      refine asg_go (lst_go (cons_go (hear_to (C := CW) (z := "row") (r := none) (.inr (.inr ⟨rfl, rfl⟩)) t1 (chk_row (n := 400) (b := true) rfl d1 rfl (by decide) (by decide) (by decide +kernel)) fun G2 v1 e2 t2 dv1 => ⟨by show 1 ≤ sizeLine; decide, fun F nF => ?_⟩)))
      dsimp only [gName]
      have sF := same_new (o := .lst [v1]) nF
      have d2 := (TblAt.fr (.ext (S := []) e2) (fun _ m => nomatch m) d1).same sF
      have t2F := t2.ext sF
      have gF : upd G2 F (.lst [v1]) F = some (.lst [v1]) := upd_same
      have dv1 := dp_same sF _ _ dv1
      generalize upd G2 F (.lst [v1]) = G3 at d2 t2F gF dv1 ⊢
      refine seq_go ⟨_, rfl, .inl ⟨rfl, _, sqL gF⟩, cons_go (hear_to (C := CW) (z := "row") (r := some (-1)) (.inr (.inr ⟨rfl, rfl⟩)) t2F (chk_row (n := 401) (b := true) rfl d2 rfl (by decide) (by decide) (by decide +kernel)) fun G4 v2 e4 t4 dv2 => ⟨F, _, _, rfl, rfl, e4 F _ gF (fun _ z => nomatch z), by show 1 < sizeLine; decide, ?_⟩)⟩
      have gF4 := e4 F _ gF fun _ z => nomatch z
      have d4 : TblAt K C (upd G4 F (.lst ([v1] ++ [v2]))) p dx pk pt tdA := (TblAt.fr (.ext (S := []) e4) (fun _ m => nomatch m) d2).keep (KeepT.put gF4)
      have t4F := tabs_put (o := .lst ([v1] ++ [v2])) gF4 t4
      have dv1 := dp_keep (KeepT.put (o := .lst ([v1] ++ [v2])) gF4) _ _ (nl_hD _ _) (dp_ext e4 _ _ (nl_hD _ _) dv1)
      have dv2 := dp_keep (KeepT.put (o := .lst ([v1] ++ [v2])) gF4) _ _ (nl_hD _ _) dv2
      have gF5 : upd G4 F (.lst ([v1] ++ [v2])) F = some (.lst [v1, v2]) := upd_same
      generalize upd G4 F (.lst ([v1] ++ [v2])) = G5 at d4 t4F gF5 dv1 dv2 ⊢
      dsimp only
      refine seq_go ⟨_, rfl, .inl ⟨rfl, _, sqL gF5⟩, cons_go (hear_to (C := CW) (z := "row") (r := some (-1)) (.inr (.inr ⟨rfl, rfl⟩)) t4F (chk_row (n := 401) (b := false) rfl d4 rfl (by decide) (by decide) (by decide +kernel)) fun G6 v3 e6 t6 dv3 => ⟨F, _, _, rfl, rfl, e6 F _ gF5 (fun _ z => nomatch z), by show 2 < sizeLine; decide, ?_⟩)⟩
      have gF6 := e6 F _ gF5 fun _ z => nomatch z
      have d6 : TblAt K C (upd G6 F (.lst ([v1, v2] ++ [v3]))) p dx pk pt tdA := (TblAt.fr (.ext (S := []) e6) (fun _ m => nomatch m) d4).keep (KeepT.put gF6)
      have t6F := tabs_put (o := .lst ([v1, v2] ++ [v3])) gF6 t6
      have dv1 := dp_keep (KeepT.put (o := .lst ([v1, v2] ++ [v3])) gF6) _ _ (nl_hD _ _) (dp_ext e6 _ _ (nl_hD _ _) dv1)
      have dv2 := dp_keep (KeepT.put (o := .lst ([v1, v2] ++ [v3])) gF6) _ _ (nl_hD _ _) (dp_ext e6 _ _ (nl_hD _ _) dv2)
      have dv3 := dp_keep (KeepT.put (o := .lst ([v1, v2] ++ [v3])) gF6) _ _ (nl_hD _ _) dv3
      have gF7 : upd G6 F (.lst ([v1, v2] ++ [v3])) F = some (.lst [v1, v2, v3]) := upd_same
      generalize upd G6 F (.lst ([v1, v2] ++ [v3])) = G7 at d6 t6F gF7 dv1 dv2 dv3 ⊢
      dsimp only
      have gn : ∀ {σ : L2.St} {H : Hp}, Gv K σ H (tC .non) .none := fun Q q => q _ _ (Same.refl _) .non
      have gs : ∀ {σ : L2.St} {H : Hp}, Gv K σ H (tOp (rI0 fun i j => .int (i - j)) (tC (.int 0)) (tC (.int 1))) (.int (-1)) := fun Q q => ⟨_, _, rfl, rfl, q _ _ (Same.refl _) (.int _)⟩
      have gr : ∀ {σ : L2.St} {H : Hp}, Gv K σ H (tTup (tCons (tC (.str "row")) (tCons (tOp (rI0 fun i j => .int (i - j)) (tC (.int 0)) (tC (.int 1))) tNil))) (hD "row" (some (-1))) := gv_tup (gvA_cons gv_str fun _ _ => gvA_cons gs fun _ _ => gvA_nil)
      refine seq_go (ifS_go (or_go (neD_no (d := .list [hD "row" none, hD "row" (some (-1)), hD "row" (some (-1))]) (by decide +kernel) (by decide +kernel) (gv_var rfl (.lst (sqL gF7) (.cons dv1 (.cons dv2 (.cons dv3 .nil))))) (fun _ _ => gv_lst (gvA_cons gn fun _ _ => gvA_cons gr fun _ _ => gvA_cons gr fun _ _ => gvA_nil)) fun G8 s8 => iteF ?_)))
      have d8 := d6.same s8
      have cL : countsL tdA.types.length ((List.replicate 400 1).map some) = [0, 400] := by decide +kernel
      have eN : natsV (List.replicate 400 1) = List.replicate (Int.toNat 400) (V.int 1) := List.map_replicate
      refine neD_no (d := .tuple [.int 0, .int 400]) (by decide +kernel) (by decide +kernel) (fun Q q => ⟨_, rfl, by show 1 ≤ sizeLine; decide, fun r1 n1 => ⟨r1, 400, .int 1, rfl, rfl, sqT upd_same, by decide, by decide, fun G r s h => ⟨p, dx, pk, pt, r, tdA, List.replicate 400 1, rfl, d8.same ((same_new n1).trans s), tdA_ok, eN ▸ h, fun a m => by rw [List.eq_of_mem_replicate m]; decide, fun G' r' s' h' => q _ _ (((same_new n1).trans s).trans s') (.tup (by rw [cL] at h'; exact h') (.cons (.int 0) (.cons (.int 400) .nil)))⟩⟩⟩) (fun _ _ => gv_tup (gvA_cons gv_int fun _ _ => gvA_cons gv_int fun _ _ => gvA_nil)) fun G9 s9 => iteF ?_
      have t9 := t6F.ext (s8.trans s9)
      dsimp only [tNext]
      refine seq_go (ifS_go (or_go ⟨t9, fun H1 e1 t1 => ⟨by show 2 ≤ sizeLine; decide, fun r n => ⟨r, [800, 0], 0, 800, rfl, sqT upd_same, rfl, by decide, fun z => absurd z (by decide), fun _ d G3 nd s3 gd => ⟨d, rfl, .inr ⟨"units", gd, rfl, ?_⟩⟩⟩⟩⟩))
      refine ⟨.str "units", .str "units", .str _, .str _, by decide +kernel, by decide +kernel, _, rfl, ?_⟩
      rw [show PyData.eqv (.str "units") (.str "units") = true from by decide +kernel]
      refine iteF (neD_no (d := .tuple [.int 799, .int 0]) (by decide +kernel) (by decide +kernel) (fun Q q => ⟨by show 2 ≤ sizeLine; decide, fun r n => ⟨r, [800, 0], 0, 800, rfl, sqT upd_same, rfl, by decide, fun _ G r' s h => q _ _ ((same_new n).trans s) (.tup h (.cons (.int 799) (.cons (.int 0) .nil))), fun z => absurd z (by decide)⟩⟩) (fun _ _ => gv_tup (gvA_cons gv_int fun _ _ => gvA_cons gv_int fun _ _ => gvA_nil)) fun G11 s11 => iteF ?_)
      dsimp only [tNext]
      refine ret_go (and_go (eqD_yes (d := .tuple [.int 2, .none]) (by decide +kernel) (by decide +kernel) (fun Q q => ⟨by show 2 ≤ sizeLine; decide, fun r n => ⟨r, [some 3, none], 0, some 3, rfl, sqT upd_same, rfl, by decide, fun _ G r' s h => q _ _ ((same_new n).trans s) (.tup h (.cons (.int 2) (.cons .non .nil))), fun z => absurd z (by decide)⟩⟩) (fun _ _ => gv_tup (gvA_cons gv_int fun _ _ => gvA_cons gn fun _ _ => gvA_nil)) fun G12 s12 => ⟨true, rfl, iteT (and_go (eqD_yes (d := .tuple [.int 400, .int 0]) (by decide +kernel) (by decide +kernel) (fun Q q => ⟨by show 2 ≤ sizeLine; decide, fun r n => ⟨r, [399, 0], 0, 399, rfl, sqT upd_same, rfl, by decide, fun _ G r' s h => q _ _ ((same_new n).trans s) (.tup h (.cons (.int 400) (.cons (.int 0) .nil))), fun z => absurd z (by decide)⟩⟩) (fun _ _ => gv_tup (gvA_cons gv_int fun _ _ => gvA_cons gv_int fun _ _ => gvA_nil)) fun G13 s13 => ⟨true, rfl, iteT ?_⟩))⟩))
      refine ⟨by show 2 ≤ sizeLine; decide, fun r1 n1 => ⟨by show 2 ≤ sizeLine; decide, fun r2 n2 => ⟨r1, r2, [400, 400], [0, 1], rfl, same_seqT (same_new n2) (sqT upd_same), sqT upd_same, by decide, by decide, fun G s => ⟨rfl, ?_⟩⟩⟩⟩
      exact q _
end
end K3
namespace K3
open PySem PySem.Spec PyProof.Rows L2 Gd
set_option maxHeartbeats 0 in
theorem all_mk {l : PySem.W.OpenLaw} {w : World} {K : PySem.W.Frag} {h : Heap} {mg : Str → Option Value} {fa C CS CB CW CF CD CT f_is_number f_is_number_below f_is_name f_is_tuple_of f_is_ascending f_are_numbers_below f_is_lot_below f_is_lot_of_names f_counts_of f_changed_at f_first_false f_InvalidStock_init f_InvalidBounds_init f_InvalidRow_init f_Refused_init f_Table_init f_is_type_pair f_stock_fault f_check_stock f_bounds_fault f_check_bounds f_row_fault f_check_row f_units_in f_unit_taken f_unit_put f_bounds_after f_row_counts f__law_heap f__law_draw f__law_pick f__law_names f__law_lot f__law_parts f__law_is_number f__law_fault f__law_heard f__law_odd f__law_checked_right f__law_units_right f__law_requests_right f_law : Addr} (X : K.In h) (G : h.Ns mainGlobals mg) (hfa : mg "law" = some (.ref fa))
    {nmS qnS : Str} {NnS : Addr} {bsS : List Value} {snS : List Str} {subS : List Value} {abS : Bool} {colS : Option Bool} {ddS : Option Addr} {m0S m1S m2S m3S m5S : Option Value} {nmB qnB : Str} {NnB : Addr} {bsB : List Value} {snB : List Str} {subB : List Value} {abB : Bool} {colB : Option Bool} {ddB : Option Addr} {m0B m1B m2B m3B m5B : Option Value} {nmW qnW : Str} {NnW : Addr} {bsW : List Value} {snW : List Str} {subW : List Value} {abW : Bool} {colW : Option Bool} {ddW : Option Addr} {m0W m1W m2W m3W m5W : Option Value} {nmF qnF : Str} {NnF : Addr} {bsF : List Value} {snF : List Str} {subF : List Value} {abF : Bool} {colF : Option Bool} {ddF : Option Addr} {m0F m1F m2F m3F m5F : Option Value}
    {t_MOST_LETTERS t_MOST_KINDS t_MOST_TYPES t_MOST_UNITS t_MOST_REQUESTS : Tok}
    {od_is_number an_is_number od_is_number_below an_is_number_below od_is_name an_is_name od_is_tuple_of an_is_tuple_of od_is_ascending an_is_ascending od_are_numbers_below an_are_numbers_below od_is_lot_below an_is_lot_below od_is_lot_of_names an_is_lot_of_names od_counts_of an_counts_of od_changed_at an_changed_at od_first_false an_first_false od_InvalidStock_init an_InvalidStock_init od_InvalidBounds_init an_InvalidBounds_init od_InvalidRow_init an_InvalidRow_init od_Refused_init an_Refused_init od_Table_init an_Table_init od_is_type_pair an_is_type_pair od_stock_fault an_stock_fault od_check_stock an_check_stock od_bounds_fault an_bounds_fault od_check_bounds an_check_bounds od_row_fault an_row_fault od_check_row an_check_row od_units_in an_units_in od_unit_taken an_unit_taken od_unit_put an_unit_put od_bounds_after an_bounds_after od_row_counts an_row_counts od__law_heap an__law_heap od__law_draw an__law_draw od__law_pick an__law_pick od__law_names an__law_names od__law_lot an__law_lot od__law_parts an__law_parts od__law_is_number an__law_is_number od__law_fault an__law_fault od__law_heard an__law_heard od__law_odd an__law_odd od__law_checked_right an__law_checked_right od__law_units_right an__law_units_right od__law_requests_right an__law_requests_right od_law an_law : Option Addr} {sl_is_number sl_is_number_below sl_is_name sl_is_tuple_of sl_is_ascending sl_are_numbers_below sl_is_lot_below sl_is_lot_of_names sl_counts_of sl_changed_at sl_first_false sl_InvalidStock_init sl_InvalidBounds_init sl_InvalidRow_init sl_Refused_init sl_Table_init sl_is_type_pair sl_stock_fault sl_check_stock sl_bounds_fault sl_check_bounds sl_row_fault sl_check_row sl_units_in sl_unit_taken sl_unit_put sl_bounds_after sl_row_counts sl__law_heap sl__law_draw sl__law_pick sl__law_names sl__law_lot sl__law_parts sl__law_is_number sl__law_fault sl__law_heard sl__law_odd sl__law_checked_right sl__law_units_right sl__law_requests_right sl_law : Array (Option Value)} {oc_is_number kV_is_number dc_is_number pm_is_number ct_is_number cd_is_number oc_is_number_below kV_is_number_below dc_is_number_below pm_is_number_below ct_is_number_below cd_is_number_below oc_is_name kV_is_name dc_is_name pm_is_name ct_is_name cd_is_name oc_is_tuple_of kV_is_tuple_of dc_is_tuple_of pm_is_tuple_of ct_is_tuple_of cd_is_tuple_of oc_is_ascending kV_is_ascending dc_is_ascending pm_is_ascending ct_is_ascending cd_is_ascending oc_are_numbers_below kV_are_numbers_below dc_are_numbers_below pm_are_numbers_below ct_are_numbers_below cd_are_numbers_below oc_is_lot_below kV_is_lot_below dc_is_lot_below pm_is_lot_below ct_is_lot_below cd_is_lot_below oc_is_lot_of_names kV_is_lot_of_names dc_is_lot_of_names pm_is_lot_of_names ct_is_lot_of_names cd_is_lot_of_names oc_counts_of kV_counts_of dc_counts_of pm_counts_of ct_counts_of cd_counts_of oc_changed_at kV_changed_at dc_changed_at pm_changed_at ct_changed_at cd_changed_at oc_first_false kV_first_false dc_first_false pm_first_false ct_first_false cd_first_false oc_InvalidStock_init kV_InvalidStock_init dc_InvalidStock_init pm_InvalidStock_init ct_InvalidStock_init cd_InvalidStock_init oc_InvalidBounds_init kV_InvalidBounds_init dc_InvalidBounds_init pm_InvalidBounds_init ct_InvalidBounds_init cd_InvalidBounds_init oc_InvalidRow_init kV_InvalidRow_init dc_InvalidRow_init pm_InvalidRow_init ct_InvalidRow_init cd_InvalidRow_init oc_Refused_init kV_Refused_init dc_Refused_init pm_Refused_init ct_Refused_init cd_Refused_init oc_Table_init kV_Table_init dc_Table_init pm_Table_init ct_Table_init cd_Table_init oc_is_type_pair kV_is_type_pair dc_is_type_pair pm_is_type_pair ct_is_type_pair cd_is_type_pair oc_stock_fault kV_stock_fault dc_stock_fault pm_stock_fault ct_stock_fault cd_stock_fault oc_check_stock kV_check_stock dc_check_stock pm_check_stock ct_check_stock cd_check_stock oc_bounds_fault kV_bounds_fault dc_bounds_fault pm_bounds_fault ct_bounds_fault cd_bounds_fault oc_check_bounds kV_check_bounds dc_check_bounds pm_check_bounds ct_check_bounds cd_check_bounds oc_row_fault kV_row_fault dc_row_fault pm_row_fault ct_row_fault cd_row_fault oc_check_row kV_check_row dc_check_row pm_check_row ct_check_row cd_check_row oc_units_in kV_units_in dc_units_in pm_units_in ct_units_in cd_units_in oc_unit_taken kV_unit_taken dc_unit_taken pm_unit_taken ct_unit_taken cd_unit_taken oc_unit_put kV_unit_put dc_unit_put pm_unit_put ct_unit_put cd_unit_put oc_bounds_after kV_bounds_after dc_bounds_after pm_bounds_after ct_bounds_after cd_bounds_after oc_row_counts kV_row_counts dc_row_counts pm_row_counts ct_row_counts cd_row_counts oc__law_heap kV__law_heap dc__law_heap pm__law_heap ct__law_heap cd__law_heap oc__law_draw kV__law_draw dc__law_draw pm__law_draw ct__law_draw cd__law_draw oc__law_pick kV__law_pick dc__law_pick pm__law_pick ct__law_pick cd__law_pick oc__law_names kV__law_names dc__law_names pm__law_names ct__law_names cd__law_names oc__law_lot kV__law_lot dc__law_lot pm__law_lot ct__law_lot cd__law_lot oc__law_parts kV__law_parts dc__law_parts pm__law_parts ct__law_parts cd__law_parts oc__law_is_number kV__law_is_number dc__law_is_number pm__law_is_number ct__law_is_number cd__law_is_number oc__law_fault kV__law_fault dc__law_fault pm__law_fault ct__law_fault cd__law_fault oc__law_heard kV__law_heard dc__law_heard pm__law_heard ct__law_heard cd__law_heard oc__law_odd kV__law_odd dc__law_odd pm__law_odd ct__law_odd cd__law_odd oc__law_checked_right kV__law_checked_right dc__law_checked_right pm__law_checked_right ct__law_checked_right oc__law_units_right kV__law_units_right dc__law_units_right pm__law_units_right ct__law_units_right oc__law_requests_right kV__law_requests_right dc__law_requests_right pm__law_requests_right ct__law_requests_right oc_law kV_law dc_law pm_law ct_law : Value}
    {cc__law_checked_right P__law_checked_right cc__law_units_right P__law_units_right cc__law_requests_right P__law_requests_right cc_law P_law : Addr} {qd__law_checked_right qd__law_units_right qd__law_requests_right qd_law : Option Addr} {qv__law_checked_right qv__law_units_right qv__law_requests_right qv_law : Array Value} {qs__law_checked_right qs__law_units_right qs__law_requests_right qs_law : Array (Option Value)}
    (g_C : PySem.W.nsIn K mainGlobals "Table" = some (some (.ref C)))
    (g_CS : PySem.W.nsIn K mainGlobals "InvalidStock" = some (some (.ref CS)))
    (g_CB : PySem.W.nsIn K mainGlobals "InvalidBounds" = some (some (.ref CB)))
    (g_CW : PySem.W.nsIn K mainGlobals "InvalidRow" = some (some (.ref CW)))
    (g_CF : PySem.W.nsIn K mainGlobals "Refused" = some (some (.ref CF)))
    (g_CD : PySem.W.nsIn K mainGlobals "DeskError" = some (some (.ref CD)))
    (g_CT : PySem.W.nsIn K mainGlobals "InvalidTable" = some (some (.ref CT)))
    (a_is_number : PySem.W.nsIn K mainGlobals "is_number" = some (some (.ref f_is_number)))
    (l_is_number : K.lookup f_is_number = some ⟨oc_is_number, od_is_number, .func (PySem.W.fnOf "is_number" "is_number" (defArgs s_is_number) (defBody s_is_number) (defScope s_is_number) .none kV_is_number dc_is_number pm_is_number an_is_number cd_is_number ct_is_number), sl_is_number⟩)
    (c_is_number : PySem.W.codeIn K cd_is_number "is_number" = true)
    (k_is_number : PySem.W.keepIn K (.ref f_is_number) = true)
    (a_is_number_below : PySem.W.nsIn K mainGlobals "is_number_below" = some (some (.ref f_is_number_below)))
    (l_is_number_below : K.lookup f_is_number_below = some ⟨oc_is_number_below, od_is_number_below, .func (PySem.W.fnOf "is_number_below" "is_number_below" (defArgs s_is_number_below) (defBody s_is_number_below) (defScope s_is_number_below) .none kV_is_number_below dc_is_number_below pm_is_number_below an_is_number_below cd_is_number_below ct_is_number_below), sl_is_number_below⟩)
    (c_is_number_below : PySem.W.codeIn K cd_is_number_below "is_number_below" = true)
    (k_is_number_below : PySem.W.keepIn K (.ref f_is_number_below) = true)
    (a_is_name : PySem.W.nsIn K mainGlobals "is_name" = some (some (.ref f_is_name)))
    (l_is_name : K.lookup f_is_name = some ⟨oc_is_name, od_is_name, .func (PySem.W.fnOf "is_name" "is_name" (defArgs s_is_name) (defBody s_is_name) (defScope s_is_name) .none kV_is_name dc_is_name pm_is_name an_is_name cd_is_name ct_is_name), sl_is_name⟩)
    (c_is_name : PySem.W.codeIn K cd_is_name "is_name" = true)
    (k_is_name : PySem.W.keepIn K (.ref f_is_name) = true)
    (a_is_tuple_of : PySem.W.nsIn K mainGlobals "is_tuple_of" = some (some (.ref f_is_tuple_of)))
    (l_is_tuple_of : K.lookup f_is_tuple_of = some ⟨oc_is_tuple_of, od_is_tuple_of, .func (PySem.W.fnOf "is_tuple_of" "is_tuple_of" (defArgs s_is_tuple_of) (defBody s_is_tuple_of) (defScope s_is_tuple_of) .none kV_is_tuple_of dc_is_tuple_of pm_is_tuple_of an_is_tuple_of cd_is_tuple_of ct_is_tuple_of), sl_is_tuple_of⟩)
    (c_is_tuple_of : PySem.W.codeIn K cd_is_tuple_of "is_tuple_of" = true)
    (k_is_tuple_of : PySem.W.keepIn K (.ref f_is_tuple_of) = true)
    (a_is_ascending : PySem.W.nsIn K mainGlobals "is_ascending" = some (some (.ref f_is_ascending)))
    (l_is_ascending : K.lookup f_is_ascending = some ⟨oc_is_ascending, od_is_ascending, .func (PySem.W.fnOf "is_ascending" "is_ascending" (defArgs s_is_ascending) (defBody s_is_ascending) (defScope s_is_ascending) .none kV_is_ascending dc_is_ascending pm_is_ascending an_is_ascending cd_is_ascending ct_is_ascending), sl_is_ascending⟩)
    (c_is_ascending : PySem.W.codeIn K cd_is_ascending "is_ascending" = true)
    (k_is_ascending : PySem.W.keepIn K (.ref f_is_ascending) = true)
    (a_are_numbers_below : PySem.W.nsIn K mainGlobals "are_numbers_below" = some (some (.ref f_are_numbers_below)))
    (l_are_numbers_below : K.lookup f_are_numbers_below = some ⟨oc_are_numbers_below, od_are_numbers_below, .func (PySem.W.fnOf "are_numbers_below" "are_numbers_below" (defArgs s_are_numbers_below) (defBody s_are_numbers_below) (defScope s_are_numbers_below) .none kV_are_numbers_below dc_are_numbers_below pm_are_numbers_below an_are_numbers_below cd_are_numbers_below ct_are_numbers_below), sl_are_numbers_below⟩)
    (c_are_numbers_below : PySem.W.codeIn K cd_are_numbers_below "are_numbers_below" = true)
    (k_are_numbers_below : PySem.W.keepIn K (.ref f_are_numbers_below) = true)
    (a_is_lot_below : PySem.W.nsIn K mainGlobals "is_lot_below" = some (some (.ref f_is_lot_below)))
    (l_is_lot_below : K.lookup f_is_lot_below = some ⟨oc_is_lot_below, od_is_lot_below, .func (PySem.W.fnOf "is_lot_below" "is_lot_below" (defArgs s_is_lot_below) (defBody s_is_lot_below) (defScope s_is_lot_below) .none kV_is_lot_below dc_is_lot_below pm_is_lot_below an_is_lot_below cd_is_lot_below ct_is_lot_below), sl_is_lot_below⟩)
    (c_is_lot_below : PySem.W.codeIn K cd_is_lot_below "is_lot_below" = true)
    (k_is_lot_below : PySem.W.keepIn K (.ref f_is_lot_below) = true)
    (a_is_lot_of_names : PySem.W.nsIn K mainGlobals "is_lot_of_names" = some (some (.ref f_is_lot_of_names)))
    (l_is_lot_of_names : K.lookup f_is_lot_of_names = some ⟨oc_is_lot_of_names, od_is_lot_of_names, .func (PySem.W.fnOf "is_lot_of_names" "is_lot_of_names" (defArgs s_is_lot_of_names) (defBody s_is_lot_of_names) (defScope s_is_lot_of_names) .none kV_is_lot_of_names dc_is_lot_of_names pm_is_lot_of_names an_is_lot_of_names cd_is_lot_of_names ct_is_lot_of_names), sl_is_lot_of_names⟩)
    (c_is_lot_of_names : PySem.W.codeIn K cd_is_lot_of_names "is_lot_of_names" = true)
    (k_is_lot_of_names : PySem.W.keepIn K (.ref f_is_lot_of_names) = true)
    (a_counts_of : PySem.W.nsIn K mainGlobals "counts_of" = some (some (.ref f_counts_of)))
    (l_counts_of : K.lookup f_counts_of = some ⟨oc_counts_of, od_counts_of, .func (PySem.W.fnOf "counts_of" "counts_of" (defArgs s_counts_of) (defBody s_counts_of) (defScope s_counts_of) .none kV_counts_of dc_counts_of pm_counts_of an_counts_of cd_counts_of ct_counts_of), sl_counts_of⟩)
    (c_counts_of : PySem.W.codeIn K cd_counts_of "counts_of" = true)
    (k_counts_of : PySem.W.keepIn K (.ref f_counts_of) = true)
    (a_changed_at : PySem.W.nsIn K mainGlobals "changed_at" = some (some (.ref f_changed_at)))
    (l_changed_at : K.lookup f_changed_at = some ⟨oc_changed_at, od_changed_at, .func (PySem.W.fnOf "changed_at" "changed_at" (defArgs s_changed_at) (defBody s_changed_at) (defScope s_changed_at) .none kV_changed_at dc_changed_at pm_changed_at an_changed_at cd_changed_at ct_changed_at), sl_changed_at⟩)
    (c_changed_at : PySem.W.codeIn K cd_changed_at "changed_at" = true)
    (k_changed_at : PySem.W.keepIn K (.ref f_changed_at) = true)
    (a_first_false : PySem.W.nsIn K mainGlobals "first_false" = some (some (.ref f_first_false)))
    (l_first_false : K.lookup f_first_false = some ⟨oc_first_false, od_first_false, .func (PySem.W.fnOf "first_false" "first_false" (defArgs s_first_false) (defBody s_first_false) (defScope s_first_false) .none kV_first_false dc_first_false pm_first_false an_first_false cd_first_false ct_first_false), sl_first_false⟩)
    (c_first_false : PySem.W.codeIn K cd_first_false "first_false" = true)
    (k_first_false : PySem.W.keepIn K (.ref f_first_false) = true)
    (a_InvalidStock_init : PySem.W.findIn K (.ref CS) "__init__" = some (some (.ref f_InvalidStock_init)))
    (l_InvalidStock_init : K.lookup f_InvalidStock_init = some ⟨oc_InvalidStock_init, od_InvalidStock_init, .func (PySem.W.fnOf "__init__" "InvalidStock.__init__" (defArgs s_InvalidStock_init) (defBody s_InvalidStock_init) (defScope s_InvalidStock_init) .none kV_InvalidStock_init dc_InvalidStock_init pm_InvalidStock_init an_InvalidStock_init cd_InvalidStock_init ct_InvalidStock_init), sl_InvalidStock_init⟩)
    (c_InvalidStock_init : PySem.W.codeIn K cd_InvalidStock_init "InvalidStock.__init__" = true)
    (k_InvalidStock_init : PySem.W.keepIn K (.ref f_InvalidStock_init) = true)
    (i_InvalidStock_init : PySem.W.isFn K (.ref f_InvalidStock_init) = true)
    (a_InvalidBounds_init : PySem.W.findIn K (.ref CB) "__init__" = some (some (.ref f_InvalidBounds_init)))
    (l_InvalidBounds_init : K.lookup f_InvalidBounds_init = some ⟨oc_InvalidBounds_init, od_InvalidBounds_init, .func (PySem.W.fnOf "__init__" "InvalidBounds.__init__" (defArgs s_InvalidBounds_init) (defBody s_InvalidBounds_init) (defScope s_InvalidBounds_init) .none kV_InvalidBounds_init dc_InvalidBounds_init pm_InvalidBounds_init an_InvalidBounds_init cd_InvalidBounds_init ct_InvalidBounds_init), sl_InvalidBounds_init⟩)
    (c_InvalidBounds_init : PySem.W.codeIn K cd_InvalidBounds_init "InvalidBounds.__init__" = true)
    (k_InvalidBounds_init : PySem.W.keepIn K (.ref f_InvalidBounds_init) = true)
    (i_InvalidBounds_init : PySem.W.isFn K (.ref f_InvalidBounds_init) = true)
    (a_InvalidRow_init : PySem.W.findIn K (.ref CW) "__init__" = some (some (.ref f_InvalidRow_init)))
    (l_InvalidRow_init : K.lookup f_InvalidRow_init = some ⟨oc_InvalidRow_init, od_InvalidRow_init, .func (PySem.W.fnOf "__init__" "InvalidRow.__init__" (defArgs s_InvalidRow_init) (defBody s_InvalidRow_init) (defScope s_InvalidRow_init) .none kV_InvalidRow_init dc_InvalidRow_init pm_InvalidRow_init an_InvalidRow_init cd_InvalidRow_init ct_InvalidRow_init), sl_InvalidRow_init⟩)
    (c_InvalidRow_init : PySem.W.codeIn K cd_InvalidRow_init "InvalidRow.__init__" = true)
    (k_InvalidRow_init : PySem.W.keepIn K (.ref f_InvalidRow_init) = true)
    (i_InvalidRow_init : PySem.W.isFn K (.ref f_InvalidRow_init) = true)
    (a_Refused_init : PySem.W.findIn K (.ref CF) "__init__" = some (some (.ref f_Refused_init)))
    (l_Refused_init : K.lookup f_Refused_init = some ⟨oc_Refused_init, od_Refused_init, .func (PySem.W.fnOf "__init__" "Refused.__init__" (defArgs s_Refused_init) (defBody s_Refused_init) (defScope s_Refused_init) .none kV_Refused_init dc_Refused_init pm_Refused_init an_Refused_init cd_Refused_init ct_Refused_init), sl_Refused_init⟩)
    (c_Refused_init : PySem.W.codeIn K cd_Refused_init "Refused.__init__" = true)
    (k_Refused_init : PySem.W.keepIn K (.ref f_Refused_init) = true)
    (i_Refused_init : PySem.W.isFn K (.ref f_Refused_init) = true)
    (a_Table_init : PySem.W.findIn K (.ref C) "__init__" = some (some (.ref f_Table_init)))
    (l_Table_init : K.lookup f_Table_init = some ⟨oc_Table_init, od_Table_init, .func (PySem.W.fnOf "__init__" "Table.__init__" (defArgs s_Table_init) (defBody s_Table_init) (defScope s_Table_init) .none kV_Table_init dc_Table_init pm_Table_init an_Table_init cd_Table_init ct_Table_init), sl_Table_init⟩)
    (c_Table_init : PySem.W.codeIn K cd_Table_init "Table.__init__" = true)
    (k_Table_init : PySem.W.keepIn K (.ref f_Table_init) = true)
    (i_Table_init : PySem.W.isFn K (.ref f_Table_init) = true)
    (a_is_type_pair : PySem.W.nsIn K mainGlobals "is_type_pair" = some (some (.ref f_is_type_pair)))
    (l_is_type_pair : K.lookup f_is_type_pair = some ⟨oc_is_type_pair, od_is_type_pair, .func (PySem.W.fnOf "is_type_pair" "is_type_pair" (defArgs s_is_type_pair) (defBody s_is_type_pair) (defScope s_is_type_pair) .none kV_is_type_pair dc_is_type_pair pm_is_type_pair an_is_type_pair cd_is_type_pair ct_is_type_pair), sl_is_type_pair⟩)
    (c_is_type_pair : PySem.W.codeIn K cd_is_type_pair "is_type_pair" = true)
    (k_is_type_pair : PySem.W.keepIn K (.ref f_is_type_pair) = true)
    (a_stock_fault : PySem.W.nsIn K mainGlobals "stock_fault" = some (some (.ref f_stock_fault)))
    (l_stock_fault : K.lookup f_stock_fault = some ⟨oc_stock_fault, od_stock_fault, .func (PySem.W.fnOf "stock_fault" "stock_fault" (defArgs s_stock_fault) (defBody s_stock_fault) (defScope s_stock_fault) .none kV_stock_fault dc_stock_fault pm_stock_fault an_stock_fault cd_stock_fault ct_stock_fault), sl_stock_fault⟩)
    (c_stock_fault : PySem.W.codeIn K cd_stock_fault "stock_fault" = true)
    (k_stock_fault : PySem.W.keepIn K (.ref f_stock_fault) = true)
    (a_check_stock : PySem.W.nsIn K mainGlobals "check_stock" = some (some (.ref f_check_stock)))
    (l_check_stock : K.lookup f_check_stock = some ⟨oc_check_stock, od_check_stock, .func (PySem.W.fnOf "check_stock" "check_stock" (defArgs s_check_stock) (defBody s_check_stock) (defScope s_check_stock) .none kV_check_stock dc_check_stock pm_check_stock an_check_stock cd_check_stock ct_check_stock), sl_check_stock⟩)
    (c_check_stock : PySem.W.codeIn K cd_check_stock "check_stock" = true)
    (k_check_stock : PySem.W.keepIn K (.ref f_check_stock) = true)
    (a_bounds_fault : PySem.W.nsIn K mainGlobals "bounds_fault" = some (some (.ref f_bounds_fault)))
    (l_bounds_fault : K.lookup f_bounds_fault = some ⟨oc_bounds_fault, od_bounds_fault, .func (PySem.W.fnOf "bounds_fault" "bounds_fault" (defArgs s_bounds_fault) (defBody s_bounds_fault) (defScope s_bounds_fault) .none kV_bounds_fault dc_bounds_fault pm_bounds_fault an_bounds_fault cd_bounds_fault ct_bounds_fault), sl_bounds_fault⟩)
    (c_bounds_fault : PySem.W.codeIn K cd_bounds_fault "bounds_fault" = true)
    (k_bounds_fault : PySem.W.keepIn K (.ref f_bounds_fault) = true)
    (a_check_bounds : PySem.W.nsIn K mainGlobals "check_bounds" = some (some (.ref f_check_bounds)))
    (l_check_bounds : K.lookup f_check_bounds = some ⟨oc_check_bounds, od_check_bounds, .func (PySem.W.fnOf "check_bounds" "check_bounds" (defArgs s_check_bounds) (defBody s_check_bounds) (defScope s_check_bounds) .none kV_check_bounds dc_check_bounds pm_check_bounds an_check_bounds cd_check_bounds ct_check_bounds), sl_check_bounds⟩)
    (c_check_bounds : PySem.W.codeIn K cd_check_bounds "check_bounds" = true)
    (k_check_bounds : PySem.W.keepIn K (.ref f_check_bounds) = true)
    (a_row_fault : PySem.W.nsIn K mainGlobals "row_fault" = some (some (.ref f_row_fault)))
    (l_row_fault : K.lookup f_row_fault = some ⟨oc_row_fault, od_row_fault, .func (PySem.W.fnOf "row_fault" "row_fault" (defArgs s_row_fault) (defBody s_row_fault) (defScope s_row_fault) .none kV_row_fault dc_row_fault pm_row_fault an_row_fault cd_row_fault ct_row_fault), sl_row_fault⟩)
    (c_row_fault : PySem.W.codeIn K cd_row_fault "row_fault" = true)
    (k_row_fault : PySem.W.keepIn K (.ref f_row_fault) = true)
    (a_check_row : PySem.W.nsIn K mainGlobals "check_row" = some (some (.ref f_check_row)))
    (l_check_row : K.lookup f_check_row = some ⟨oc_check_row, od_check_row, .func (PySem.W.fnOf "check_row" "check_row" (defArgs s_check_row) (defBody s_check_row) (defScope s_check_row) .none kV_check_row dc_check_row pm_check_row an_check_row cd_check_row ct_check_row), sl_check_row⟩)
    (c_check_row : PySem.W.codeIn K cd_check_row "check_row" = true)
    (k_check_row : PySem.W.keepIn K (.ref f_check_row) = true)
    (a_units_in : PySem.W.nsIn K mainGlobals "units_in" = some (some (.ref f_units_in)))
    (l_units_in : K.lookup f_units_in = some ⟨oc_units_in, od_units_in, .func (PySem.W.fnOf "units_in" "units_in" (defArgs s_units_in) (defBody s_units_in) (defScope s_units_in) .none kV_units_in dc_units_in pm_units_in an_units_in cd_units_in ct_units_in), sl_units_in⟩)
    (c_units_in : PySem.W.codeIn K cd_units_in "units_in" = true)
    (k_units_in : PySem.W.keepIn K (.ref f_units_in) = true)
    (a_unit_taken : PySem.W.nsIn K mainGlobals "unit_taken" = some (some (.ref f_unit_taken)))
    (l_unit_taken : K.lookup f_unit_taken = some ⟨oc_unit_taken, od_unit_taken, .func (PySem.W.fnOf "unit_taken" "unit_taken" (defArgs s_unit_taken) (defBody s_unit_taken) (defScope s_unit_taken) .none kV_unit_taken dc_unit_taken pm_unit_taken an_unit_taken cd_unit_taken ct_unit_taken), sl_unit_taken⟩)
    (c_unit_taken : PySem.W.codeIn K cd_unit_taken "unit_taken" = true)
    (k_unit_taken : PySem.W.keepIn K (.ref f_unit_taken) = true)
    (a_unit_put : PySem.W.nsIn K mainGlobals "unit_put" = some (some (.ref f_unit_put)))
    (l_unit_put : K.lookup f_unit_put = some ⟨oc_unit_put, od_unit_put, .func (PySem.W.fnOf "unit_put" "unit_put" (defArgs s_unit_put) (defBody s_unit_put) (defScope s_unit_put) .none kV_unit_put dc_unit_put pm_unit_put an_unit_put cd_unit_put ct_unit_put), sl_unit_put⟩)
    (c_unit_put : PySem.W.codeIn K cd_unit_put "unit_put" = true)
    (k_unit_put : PySem.W.keepIn K (.ref f_unit_put) = true)
    (a_bounds_after : PySem.W.nsIn K mainGlobals "bounds_after" = some (some (.ref f_bounds_after)))
    (l_bounds_after : K.lookup f_bounds_after = some ⟨oc_bounds_after, od_bounds_after, .func (PySem.W.fnOf "bounds_after" "bounds_after" (defArgs s_bounds_after) (defBody s_bounds_after) (defScope s_bounds_after) .none kV_bounds_after dc_bounds_after pm_bounds_after an_bounds_after cd_bounds_after ct_bounds_after), sl_bounds_after⟩)
    (c_bounds_after : PySem.W.codeIn K cd_bounds_after "bounds_after" = true)
    (k_bounds_after : PySem.W.keepIn K (.ref f_bounds_after) = true)
    (a_row_counts : PySem.W.nsIn K mainGlobals "row_counts" = some (some (.ref f_row_counts)))
    (l_row_counts : K.lookup f_row_counts = some ⟨oc_row_counts, od_row_counts, .func (PySem.W.fnOf "row_counts" "row_counts" (defArgs s_row_counts) (defBody s_row_counts) (defScope s_row_counts) .none kV_row_counts dc_row_counts pm_row_counts an_row_counts cd_row_counts ct_row_counts), sl_row_counts⟩)
    (c_row_counts : PySem.W.codeIn K cd_row_counts "row_counts" = true)
    (k_row_counts : PySem.W.keepIn K (.ref f_row_counts) = true)
    (a__law_heap : PySem.W.nsIn K mainGlobals "_law_heap" = some (some (.ref f__law_heap)))
    (l__law_heap : K.lookup f__law_heap = some ⟨oc__law_heap, od__law_heap, .func (PySem.W.fnOf "_law_heap" "_law_heap" (defArgs s__law_heap) (defBody s__law_heap) (defScope s__law_heap) .none kV__law_heap dc__law_heap pm__law_heap an__law_heap cd__law_heap ct__law_heap), sl__law_heap⟩)
    (c__law_heap : PySem.W.codeIn K cd__law_heap "_law_heap" = true)
    (k__law_heap : PySem.W.keepIn K (.ref f__law_heap) = true)
    (a__law_draw : PySem.W.nsIn K mainGlobals "_law_draw" = some (some (.ref f__law_draw)))
    (l__law_draw : K.lookup f__law_draw = some ⟨oc__law_draw, od__law_draw, .func (PySem.W.fnOf "_law_draw" "_law_draw" (defArgs s__law_draw) (defBody s__law_draw) (defScope s__law_draw) .none kV__law_draw dc__law_draw pm__law_draw an__law_draw cd__law_draw ct__law_draw), sl__law_draw⟩)
    (c__law_draw : PySem.W.codeIn K cd__law_draw "_law_draw" = true)
    (k__law_draw : PySem.W.keepIn K (.ref f__law_draw) = true)
    (a__law_pick : PySem.W.nsIn K mainGlobals "_law_pick" = some (some (.ref f__law_pick)))
    (l__law_pick : K.lookup f__law_pick = some ⟨oc__law_pick, od__law_pick, .func (PySem.W.fnOf "_law_pick" "_law_pick" (defArgs s__law_pick) (defBody s__law_pick) (defScope s__law_pick) .none kV__law_pick dc__law_pick pm__law_pick an__law_pick cd__law_pick ct__law_pick), sl__law_pick⟩)
    (c__law_pick : PySem.W.codeIn K cd__law_pick "_law_pick" = true)
    (k__law_pick : PySem.W.keepIn K (.ref f__law_pick) = true)
    (a__law_names : PySem.W.nsIn K mainGlobals "_law_names" = some (some (.ref f__law_names)))
    (l__law_names : K.lookup f__law_names = some ⟨oc__law_names, od__law_names, .func (PySem.W.fnOf "_law_names" "_law_names" (defArgs s__law_names) (defBody s__law_names) (defScope s__law_names) .none kV__law_names dc__law_names pm__law_names an__law_names cd__law_names ct__law_names), sl__law_names⟩)
    (c__law_names : PySem.W.codeIn K cd__law_names "_law_names" = true)
    (k__law_names : PySem.W.keepIn K (.ref f__law_names) = true)
    (a__law_lot : PySem.W.nsIn K mainGlobals "_law_lot" = some (some (.ref f__law_lot)))
    (l__law_lot : K.lookup f__law_lot = some ⟨oc__law_lot, od__law_lot, .func (PySem.W.fnOf "_law_lot" "_law_lot" (defArgs s__law_lot) (defBody s__law_lot) (defScope s__law_lot) .none kV__law_lot dc__law_lot pm__law_lot an__law_lot cd__law_lot ct__law_lot), sl__law_lot⟩)
    (c__law_lot : PySem.W.codeIn K cd__law_lot "_law_lot" = true)
    (k__law_lot : PySem.W.keepIn K (.ref f__law_lot) = true)
    (a__law_parts : PySem.W.nsIn K mainGlobals "_law_parts" = some (some (.ref f__law_parts)))
    (l__law_parts : K.lookup f__law_parts = some ⟨oc__law_parts, od__law_parts, .func (PySem.W.fnOf "_law_parts" "_law_parts" (defArgs s__law_parts) (defBody s__law_parts) (defScope s__law_parts) .none kV__law_parts dc__law_parts pm__law_parts an__law_parts cd__law_parts ct__law_parts), sl__law_parts⟩)
    (c__law_parts : PySem.W.codeIn K cd__law_parts "_law_parts" = true)
    (k__law_parts : PySem.W.keepIn K (.ref f__law_parts) = true)
    (a__law_is_number : PySem.W.nsIn K mainGlobals "_law_is_number" = some (some (.ref f__law_is_number)))
    (l__law_is_number : K.lookup f__law_is_number = some ⟨oc__law_is_number, od__law_is_number, .func (PySem.W.fnOf "_law_is_number" "_law_is_number" (defArgs s__law_is_number) (defBody s__law_is_number) (defScope s__law_is_number) .none kV__law_is_number dc__law_is_number pm__law_is_number an__law_is_number cd__law_is_number ct__law_is_number), sl__law_is_number⟩)
    (c__law_is_number : PySem.W.codeIn K cd__law_is_number "_law_is_number" = true)
    (k__law_is_number : PySem.W.keepIn K (.ref f__law_is_number) = true)
    (a__law_fault : PySem.W.nsIn K mainGlobals "_law_fault" = some (some (.ref f__law_fault)))
    (l__law_fault : K.lookup f__law_fault = some ⟨oc__law_fault, od__law_fault, .func (PySem.W.fnOf "_law_fault" "_law_fault" (defArgs s__law_fault) (defBody s__law_fault) (defScope s__law_fault) .none kV__law_fault dc__law_fault pm__law_fault an__law_fault cd__law_fault ct__law_fault), sl__law_fault⟩)
    (c__law_fault : PySem.W.codeIn K cd__law_fault "_law_fault" = true)
    (k__law_fault : PySem.W.keepIn K (.ref f__law_fault) = true)
    (a__law_heard : PySem.W.nsIn K mainGlobals "_law_heard" = some (some (.ref f__law_heard)))
    (l__law_heard : K.lookup f__law_heard = some ⟨oc__law_heard, od__law_heard, .func (PySem.W.fnOf "_law_heard" "_law_heard" (defArgs s__law_heard) (defBody s__law_heard) (defScope s__law_heard) .none kV__law_heard dc__law_heard pm__law_heard an__law_heard cd__law_heard ct__law_heard), sl__law_heard⟩)
    (c__law_heard : PySem.W.codeIn K cd__law_heard "_law_heard" = true)
    (k__law_heard : PySem.W.keepIn K (.ref f__law_heard) = true)
    (a__law_odd : PySem.W.nsIn K mainGlobals "_law_odd" = some (some (.ref f__law_odd)))
    (l__law_odd : K.lookup f__law_odd = some ⟨oc__law_odd, od__law_odd, .func (PySem.W.fnOf "_law_odd" "_law_odd" (defArgs s__law_odd) (defBody s__law_odd) (defScope s__law_odd) .none kV__law_odd dc__law_odd pm__law_odd an__law_odd cd__law_odd ct__law_odd), sl__law_odd⟩)
    (c__law_odd : PySem.W.codeIn K cd__law_odd "_law_odd" = true)
    (k__law_odd : PySem.W.keepIn K (.ref f__law_odd) = true)
    (a__law_checked_right : PySem.W.nsIn K mainGlobals "_law_checked_right" = some (some (.ref f__law_checked_right)))
    (l__law_checked_right : K.lookup f__law_checked_right = some ⟨oc__law_checked_right, od__law_checked_right, .func (PySem.W.fnOf "_law_checked_right" "_law_checked_right" (defArgs s__law_checked_right) (defBody s__law_checked_right) (defScope s__law_checked_right) .none kV__law_checked_right dc__law_checked_right pm__law_checked_right an__law_checked_right (.ref cc__law_checked_right) ct__law_checked_right), sl__law_checked_right⟩)
    (c__law_checked_right : PySem.W.codeIn K (.ref cc__law_checked_right) "_law_checked_right" = true)
    (q__law_checked_right : K.lookup cc__law_checked_right = some ⟨.type "code", qd__law_checked_right, .fields qv__law_checked_right, qs__law_checked_right⟩)
    (r__law_checked_right : (qv__law_checked_right[11]? : Option Value) = some (.ref P__law_checked_right))
    (h__law_checked_right : PySem.W.codeHdIn K cc__law_checked_right P__law_checked_right = true)
    (n__law_checked_right : K.lookup P__law_checked_right = none)
    (t__law_checked_right : h.get? P__law_checked_right = some (PySem.W.tabObj #[]))
    (k__law_checked_right : PySem.W.keepIn K (.ref f__law_checked_right) = true)
    (a__law_units_right : PySem.W.nsIn K mainGlobals "_law_units_right" = some (some (.ref f__law_units_right)))
    (l__law_units_right : K.lookup f__law_units_right = some ⟨oc__law_units_right, od__law_units_right, .func (PySem.W.fnOf "_law_units_right" "_law_units_right" (defArgs s__law_units_right) (defBody s__law_units_right) (defScope s__law_units_right) .none kV__law_units_right dc__law_units_right pm__law_units_right an__law_units_right (.ref cc__law_units_right) ct__law_units_right), sl__law_units_right⟩)
    (c__law_units_right : PySem.W.codeIn K (.ref cc__law_units_right) "_law_units_right" = true)
    (q__law_units_right : K.lookup cc__law_units_right = some ⟨.type "code", qd__law_units_right, .fields qv__law_units_right, qs__law_units_right⟩)
    (r__law_units_right : (qv__law_units_right[11]? : Option Value) = some (.ref P__law_units_right))
    (h__law_units_right : PySem.W.codeHdIn K cc__law_units_right P__law_units_right = true)
    (n__law_units_right : K.lookup P__law_units_right = none)
    (t__law_units_right : h.get? P__law_units_right = some (PySem.W.tabObj #[]))
    (k__law_units_right : PySem.W.keepIn K (.ref f__law_units_right) = true)
    (a__law_requests_right : PySem.W.nsIn K mainGlobals "_law_requests_right" = some (some (.ref f__law_requests_right)))
    (l__law_requests_right : K.lookup f__law_requests_right = some ⟨oc__law_requests_right, od__law_requests_right, .func (PySem.W.fnOf "_law_requests_right" "_law_requests_right" (defArgs s__law_requests_right) (defBody s__law_requests_right) (defScope s__law_requests_right) .none kV__law_requests_right dc__law_requests_right pm__law_requests_right an__law_requests_right (.ref cc__law_requests_right) ct__law_requests_right), sl__law_requests_right⟩)
    (c__law_requests_right : PySem.W.codeIn K (.ref cc__law_requests_right) "_law_requests_right" = true)
    (q__law_requests_right : K.lookup cc__law_requests_right = some ⟨.type "code", qd__law_requests_right, .fields qv__law_requests_right, qs__law_requests_right⟩)
    (r__law_requests_right : (qv__law_requests_right[11]? : Option Value) = some (.ref P__law_requests_right))
    (h__law_requests_right : PySem.W.codeHdIn K cc__law_requests_right P__law_requests_right = true)
    (n__law_requests_right : K.lookup P__law_requests_right = none)
    (t__law_requests_right : h.get? P__law_requests_right = some (PySem.W.tabObj #[]))
    (k__law_requests_right : PySem.W.keepIn K (.ref f__law_requests_right) = true)
    (a_law : PySem.W.nsIn K mainGlobals "law" = some (some (.ref f_law)))
    (l_law : K.lookup f_law = some ⟨oc_law, od_law, .func (PySem.W.fnOf "law" "law" (defArgs s_law) (defBody s_law) (defScope s_law) .none kV_law dc_law pm_law an_law (.ref cc_law) ct_law), sl_law⟩)
    (c_law : PySem.W.codeIn K (.ref cc_law) "law" = true)
    (q_law : K.lookup cc_law = some ⟨.type "code", qd_law, .fields qv_law, qs_law⟩)
    (r_law : (qv_law[11]? : Option Value) = some (.ref P_law))
    (h_law : PySem.W.codeHdIn K cc_law P_law = true)
    (n_law : K.lookup P_law = none)
    (t_law : h.get? P_law = some (PySem.W.tabObj #[]))
    (k_law : PySem.W.keepIn K (.ref f_law) = true)
    (pg : PySem.W.plainGet K C Str.empty = true)
    (hdT : PySem.W.hasDictIn K C = true)
    (po : PySem.W.plainOver K C = true)
    (sa : PySem.W.findIn K (.ref C) "__setattr__" = some (some (.builtin "object.__setattr__")))
    (mk : PySem.W.makesIn K C = true)
    (kpC : PySem.W.keepIn K (.ref C) = true)
    (nK : PySem.W.findIn K (.ref C) "kinds" = some none)
    (nT : PySem.W.findIn K (.ref C) "types" = some none)
    (xS : K.lookup CS = some (excClassObj nmS qnS CS NnS bsS [.ref CD, .type "ValueError", .type "Exception", .type "BaseException", .type "object"] true snS subS abS colS ddS m0S m1S m2S m3S m5S "ValueError.__new__"))
    (sa_S : PySem.W.findIn K (.ref CS) "__setattr__" = some (some (.builtin "object.__setattr__")))
    (exCS : PySem.W.subIn K (.ref CS) (.type "BaseException") = some true)
    (tyS : PySem.W.typeIn K (.ref CS) = some (.type "type"))
    (kCS : PySem.W.keepIn K (.ref CS) = true)
    (nAS : PySem.W.findIn K (.ref CS) "at" = some none)
    (tIS : PySem.W.typeIn K (.ref f_InvalidStock_init) = some (.type "function"))
    (hgS : PySem.W.findIn K (.ref CS) "__getattribute__" = some (some (.builtin "BaseException.__getattribute__")))
    (hkS : PySem.W.findIn K (.ref CS) "__getattr__" = some none)
    (hdS : PySem.W.hasDictIn K CS = true)
    (xB : K.lookup CB = some (excClassObj nmB qnB CB NnB bsB [.ref CD, .type "ValueError", .type "Exception", .type "BaseException", .type "object"] true snB subB abB colB ddB m0B m1B m2B m3B m5B "ValueError.__new__"))
    (sa_B : PySem.W.findIn K (.ref CB) "__setattr__" = some (some (.builtin "object.__setattr__")))
    (exCB : PySem.W.subIn K (.ref CB) (.type "BaseException") = some true)
    (tyB : PySem.W.typeIn K (.ref CB) = some (.type "type"))
    (kCB : PySem.W.keepIn K (.ref CB) = true)
    (nAB : PySem.W.findIn K (.ref CB) "at" = some none)
    (tIB : PySem.W.typeIn K (.ref f_InvalidBounds_init) = some (.type "function"))
    (hgB : PySem.W.findIn K (.ref CB) "__getattribute__" = some (some (.builtin "BaseException.__getattribute__")))
    (hkB : PySem.W.findIn K (.ref CB) "__getattr__" = some none)
    (hdB : PySem.W.hasDictIn K CB = true)
    (xW : K.lookup CW = some (excClassObj nmW qnW CW NnW bsW [.ref CD, .type "ValueError", .type "Exception", .type "BaseException", .type "object"] true snW subW abW colW ddW m0W m1W m2W m3W m5W "ValueError.__new__"))
    (sa_W : PySem.W.findIn K (.ref CW) "__setattr__" = some (some (.builtin "object.__setattr__")))
    (exCW : PySem.W.subIn K (.ref CW) (.type "BaseException") = some true)
    (tyW : PySem.W.typeIn K (.ref CW) = some (.type "type"))
    (kCW : PySem.W.keepIn K (.ref CW) = true)
    (nAW : PySem.W.findIn K (.ref CW) "at" = some none)
    (tIW : PySem.W.typeIn K (.ref f_InvalidRow_init) = some (.type "function"))
    (hgW : PySem.W.findIn K (.ref CW) "__getattribute__" = some (some (.builtin "BaseException.__getattribute__")))
    (hkW : PySem.W.findIn K (.ref CW) "__getattr__" = some none)
    (hdW : PySem.W.hasDictIn K CW = true)
    (xF : K.lookup CF = some (excClassObj nmF qnF CF NnF bsF [.ref CD, .type "ValueError", .type "Exception", .type "BaseException", .type "object"] true snF subF abF colF ddF m0F m1F m2F m3F m5F "ValueError.__new__"))
    (sa_F : PySem.W.findIn K (.ref CF) "__setattr__" = some (some (.builtin "object.__setattr__")))
    (exCF : PySem.W.subIn K (.ref CF) (.type "BaseException") = some true)
    (tyF : PySem.W.typeIn K (.ref CF) = some (.type "type"))
    (kCF : PySem.W.keepIn K (.ref CF) = true)
    (nAF : PySem.W.findIn K (.ref CF) "word" = some none)
    (tIF : PySem.W.typeIn K (.ref f_Refused_init) = some (.type "function"))
    (hgF : PySem.W.findIn K (.ref CF) "__getattribute__" = some (some (.builtin "BaseException.__getattribute__")))
    (hkF : PySem.W.findIn K (.ref CF) "__getattr__" = some none)
    (hdF : PySem.W.hasDictIn K CF = true)
    (sSS : PySem.W.subIn K (.ref CS) (.ref CS) = some true)
    (sBS : PySem.W.subIn K (.ref CB) (.ref CS) = some false)
    (sBB : PySem.W.subIn K (.ref CB) (.ref CB) = some true)
    (sWS : PySem.W.subIn K (.ref CW) (.ref CS) = some false)
    (sWB : PySem.W.subIn K (.ref CW) (.ref CB) = some false)
    (sWW : PySem.W.subIn K (.ref CW) (.ref CW) = some true)
    (sFS : PySem.W.subIn K (.ref CF) (.ref CS) = some false)
    (sFB : PySem.W.subIn K (.ref CF) (.ref CB) = some false)
    (sFW : PySem.W.subIn K (.ref CF) (.ref CW) = some false)
    (sFF : PySem.W.subIn K (.ref CF) (.ref CF) = some true)
    (haW : PySem.W.findIn K (.ref CW) "__class__" = some (some (.builtin "object.__class__")))
    (hmW : PySem.W.mroIn K CW (.type "object") = some true)
    (hn : PySem.W.specialIn K (.builtin "object.__class__") "__get__" = some (some (.builtin "getset_descriptor.__get__")))
    (ht : PySem.W.takesIn K (.builtin "object.__class__") = some true)
    (iCD : PySem.W.isClsIn K CD = true)
    (tCD : PySem.W.typeIn K (.ref CD) = some (.type "type"))
    (sWD : PySem.W.subIn K (.ref CW) (.ref CD) = some true)
    (iCT : PySem.W.isClsIn K CT = true)
    (tCT : PySem.W.typeIn K (.ref CT) = some (.type "type"))
    (sWT : PySem.W.subIn K (.ref CW) (.ref CT) = some false)
    (v_MOST_LETTERS : PySem.W.nsIn K mainGlobals "MOST_LETTERS" = some (some (.int 8 t_MOST_LETTERS)))
    (v_MOST_KINDS : PySem.W.nsIn K mainGlobals "MOST_KINDS" = some (some (.int 8 t_MOST_KINDS)))
    (v_MOST_TYPES : PySem.W.nsIn K mainGlobals "MOST_TYPES" = some (some (.int 12 t_MOST_TYPES)))
    (v_MOST_UNITS : PySem.W.nsIn K mainGlobals "MOST_UNITS" = some (some (.int 400 t_MOST_UNITS)))
    (v_MOST_REQUESTS : PySem.W.nsIn K mainGlobals "MOST_REQUESTS" = some (some (.int 400 t_MOST_REQUESTS)))
    (z_int : PySem.W.nsIn K mainGlobals "int" = some none)
    (z_len : PySem.W.nsIn K mainGlobals "len" = some none)
    (z_abs : PySem.W.nsIn K mainGlobals "abs" = some none)
    (z_isinstance : PySem.W.nsIn K mainGlobals "isinstance" = some none)
    (z_bool : PySem.W.nsIn K mainGlobals "bool" = some none)
    (z_str : PySem.W.nsIn K mainGlobals "str" = some none)
    (z_all : PySem.W.nsIn K mainGlobals "all" = some none)
    (z_tuple : PySem.W.nsIn K mainGlobals "tuple" = some none)
    (z_range : PySem.W.nsIn K mainGlobals "range" = some none)
    (z_enumerate : PySem.W.nsIn K mainGlobals "enumerate" = some none)
    (z_sorted : PySem.W.nsIn K mainGlobals "sorted" = some none)
    (z_max : PySem.W.nsIn K mainGlobals "max" = some none)
    (z_sum : PySem.W.nsIn K mainGlobals "sum" = some none)
    (z_list : PySem.W.nsIn K mainGlobals "list" = some none)
    (z_repr : PySem.W.nsIn K mainGlobals "repr" = some none)
    (dist : [P__law_checked_right, P__law_units_right, P__law_requests_right, P_law].Nodup)
    : LawG l w K 9 63 "script" mg fa h := by
  have e := hfa.symm.trans (PySem.W.mg_of X G a_law)
  cases e
  have F_is_number := fun_mk (st := s_is_number) l_is_number c_is_number k_is_number
  have F_is_number_below := fun_mk (st := s_is_number_below) l_is_number_below c_is_number_below k_is_number_below
  have F_is_name := fun_mk (st := s_is_name) l_is_name c_is_name k_is_name
  have F_is_tuple_of := fun_mk (st := s_is_tuple_of) l_is_tuple_of c_is_tuple_of k_is_tuple_of
  have F_is_ascending := fun_mk (st := s_is_ascending) l_is_ascending c_is_ascending k_is_ascending
  have F_are_numbers_below := fun_mk (st := s_are_numbers_below) l_are_numbers_below c_are_numbers_below k_are_numbers_below
  have F_is_lot_below := fun_mk (st := s_is_lot_below) l_is_lot_below c_is_lot_below k_is_lot_below
  have F_is_lot_of_names := fun_mk (st := s_is_lot_of_names) l_is_lot_of_names c_is_lot_of_names k_is_lot_of_names
  have F_counts_of := fun_mk (st := s_counts_of) l_counts_of c_counts_of k_counts_of
  have F_changed_at := fun_mk (st := s_changed_at) l_changed_at c_changed_at k_changed_at
  have F_first_false := fun_mk (st := s_first_false) l_first_false c_first_false k_first_false
  have F_InvalidStock_init := fun_mk (st := s_InvalidStock_init) l_InvalidStock_init c_InvalidStock_init k_InvalidStock_init
  have F_InvalidBounds_init := fun_mk (st := s_InvalidBounds_init) l_InvalidBounds_init c_InvalidBounds_init k_InvalidBounds_init
  have F_InvalidRow_init := fun_mk (st := s_InvalidRow_init) l_InvalidRow_init c_InvalidRow_init k_InvalidRow_init
  have F_Refused_init := fun_mk (st := s_Refused_init) l_Refused_init c_Refused_init k_Refused_init
  have F_Table_init := fun_mk (st := s_Table_init) l_Table_init c_Table_init k_Table_init
  have F_is_type_pair := fun_mk (st := s_is_type_pair) l_is_type_pair c_is_type_pair k_is_type_pair
  have F_stock_fault := fun_mk (st := s_stock_fault) l_stock_fault c_stock_fault k_stock_fault
  have F_check_stock := fun_mk (st := s_check_stock) l_check_stock c_check_stock k_check_stock
  have F_bounds_fault := fun_mk (st := s_bounds_fault) l_bounds_fault c_bounds_fault k_bounds_fault
  have F_check_bounds := fun_mk (st := s_check_bounds) l_check_bounds c_check_bounds k_check_bounds
  have F_row_fault := fun_mk (st := s_row_fault) l_row_fault c_row_fault k_row_fault
  have F_check_row := fun_mk (st := s_check_row) l_check_row c_check_row k_check_row
  have F_units_in := fun_mk (st := s_units_in) l_units_in c_units_in k_units_in
  have F_unit_taken := fun_mk (st := s_unit_taken) l_unit_taken c_unit_taken k_unit_taken
  have F_unit_put := fun_mk (st := s_unit_put) l_unit_put c_unit_put k_unit_put
  have F_bounds_after := fun_mk (st := s_bounds_after) l_bounds_after c_bounds_after k_bounds_after
  have F_row_counts := fun_mk (st := s_row_counts) l_row_counts c_row_counts k_row_counts
  have F__law_heap := fun_mk (st := s__law_heap) l__law_heap c__law_heap k__law_heap
  have F__law_draw := fun_mk (st := s__law_draw) l__law_draw c__law_draw k__law_draw
  have F__law_pick := fun_mk (st := s__law_pick) l__law_pick c__law_pick k__law_pick
  have F__law_names := fun_mk (st := s__law_names) l__law_names c__law_names k__law_names
  have F__law_lot := fun_mk (st := s__law_lot) l__law_lot c__law_lot k__law_lot
  have F__law_parts := fun_mk (st := s__law_parts) l__law_parts c__law_parts k__law_parts
  have F__law_is_number := fun_mk (st := s__law_is_number) l__law_is_number c__law_is_number k__law_is_number
  have F__law_fault := fun_mk (st := s__law_fault) l__law_fault c__law_fault k__law_fault
  have F__law_heard := fun_mk (st := s__law_heard) l__law_heard c__law_heard k__law_heard
  have F__law_odd := fun_mk (st := s__law_odd) l__law_odd c__law_odd k__law_odd
  have F__law_checked_right := fun_mk (st := s__law_checked_right) l__law_checked_right c__law_checked_right k__law_checked_right
  have F__law_units_right := fun_mk (st := s__law_units_right) l__law_units_right c__law_units_right k__law_units_right
  have F__law_requests_right := fun_mk (st := s__law_requests_right) l__law_requests_right c__law_requests_right k__law_requests_right
  have F_law := fun_mk (st := s_law) l_law c_law k_law
  have b_is_number := F_is_number.binds (ps := ["value"]) fun _ _ _ _ _ _ us hl => match us, hl with | [_], _ => rfl
  have b_is_number_below := F_is_number_below.binds (ps := ["value", "limit"]) fun _ _ _ _ _ _ us hl => match us, hl with | [_, _], _ => rfl
  have b_is_name := F_is_name.binds (ps := ["value"]) fun _ _ _ _ _ _ us hl => match us, hl with | [_], _ => rfl
  have b_is_tuple_of := F_is_tuple_of.binds (ps := ["value", "length"]) fun _ _ _ _ _ _ us hl => match us, hl with | [_, _], _ => rfl
  have b_is_ascending := F_is_ascending.binds (ps := ["items"]) fun _ _ _ _ _ _ us hl => match us, hl with | [_], _ => rfl
  have b_are_numbers_below := F_are_numbers_below.binds (ps := ["value", "limit"]) fun _ _ _ _ _ _ us hl => match us, hl with | [_, _], _ => rfl
  have b_is_lot_below := F_is_lot_below.binds (ps := ["value", "limit"]) fun _ _ _ _ _ _ us hl => match us, hl with | [_, _], _ => rfl
  have b_is_lot_of_names := F_is_lot_of_names.binds (ps := ["value"]) fun _ _ _ _ _ _ us hl => match us, hl with | [_], _ => rfl
  have b_counts_of := F_counts_of.binds (ps := ["items", "length"]) fun _ _ _ _ _ _ us hl => match us, hl with | [_, _], _ => rfl
  have b_changed_at := F_changed_at.binds (ps := ["numbers", "at", "by"]) fun _ _ _ _ _ _ us hl => match us, hl with | [_, _, _], _ => rfl
  have b_first_false := F_first_false.binds (ps := ["flags"]) fun _ _ _ _ _ _ us hl => match us, hl with | [_], _ => rfl
  have b_InvalidStock_init := F_InvalidStock_init.binds (ps := ["self", "at"]) fun _ _ _ _ _ _ us hl => match us, hl with | [_, _], _ => rfl
  have b_InvalidBounds_init := F_InvalidBounds_init.binds (ps := ["self", "at"]) fun _ _ _ _ _ _ us hl => match us, hl with | [_, _], _ => rfl
  have b_InvalidRow_init := F_InvalidRow_init.binds (ps := ["self", "at"]) fun _ _ _ _ _ _ us hl => match us, hl with | [_, _], _ => rfl
  have b_Refused_init := F_Refused_init.binds (ps := ["self", "word"]) fun _ _ _ _ _ _ us hl => match us, hl with | [_, _], _ => rfl
  have b_Table_init := F_Table_init.binds (ps := ["self", "kinds", "types"]) fun _ _ _ _ _ _ us hl => match us, hl with | [_, _, _], _ => rfl
  have b_is_type_pair := F_is_type_pair.binds (ps := ["value", "many_kinds"]) fun _ _ _ _ _ _ us hl => match us, hl with | [_, _], _ => rfl
  have b_stock_fault := F_stock_fault.binds (ps := ["table", "value"]) fun _ _ _ _ _ _ us hl => match us, hl with | [_, _], _ => rfl
  have b_check_stock := F_check_stock.binds (ps := ["table", "value"]) fun _ _ _ _ _ _ us hl => match us, hl with | [_, _], _ => rfl
  have b_bounds_fault := F_bounds_fault.binds (ps := ["table", "value"]) fun _ _ _ _ _ _ us hl => match us, hl with | [_, _], _ => rfl
  have b_check_bounds := F_check_bounds.binds (ps := ["table", "value"]) fun _ _ _ _ _ _ us hl => match us, hl with | [_, _], _ => rfl
  have b_row_fault := F_row_fault.binds (ps := ["table", "value"]) fun _ _ _ _ _ _ us hl => match us, hl with | [_, _], _ => rfl
  have b_check_row := F_check_row.binds (ps := ["table", "value"]) fun _ _ _ _ _ _ us hl => match us, hl with | [_, _], _ => rfl
  have b_units_in := F_units_in.binds (ps := ["stock", "kinds"]) fun _ _ _ _ _ _ us hl => match us, hl with | [_, _], _ => rfl
  have b_unit_taken := F_unit_taken.binds (ps := ["stock", "kind"]) fun _ _ _ _ _ _ us hl => match us, hl with | [_, _], _ => rfl
  have b_unit_put := F_unit_put.binds (ps := ["stock", "kind"]) fun _ _ _ _ _ _ us hl => match us, hl with | [_, _], _ => rfl
  have b_bounds_after := F_bounds_after.binds (ps := ["bounds", "request"]) fun _ _ _ _ _ _ us hl => match us, hl with | [_, _], _ => rfl
  have b_row_counts := F_row_counts.binds (ps := ["table", "row"]) fun _ _ _ _ _ _ us hl => match us, hl with | [_, _], _ => rfl
  have b__law_heap := F__law_heap.binds (ps := ["script"]) fun _ _ _ _ _ _ us hl => match us, hl with | [_], _ => rfl
  have b__law_draw := F__law_draw.binds (ps := ["heap", "many"]) fun _ _ _ _ _ _ us hl => match us, hl with | [_, _], _ => rfl
  have b__law_pick := F__law_pick.binds (ps := ["heap", "some"]) fun _ _ _ _ _ _ us hl => match us, hl with | [_, _], _ => rfl
  have b__law_names := F__law_names.binds (ps := ["heap", "many"]) fun _ _ _ _ _ _ us hl => match us, hl with | [_, _], _ => rfl
  have b__law_lot := F__law_lot.binds (ps := ["heap", "many", "share"]) fun _ _ _ _ _ _ us hl => match us, hl with | [_, _, _], _ => rfl
  have b__law_parts := F__law_parts.binds (ps := ["heap", "kinds", "types"]) fun _ _ _ _ _ _ us hl => match us, hl with | [_, _, _], _ => rfl
  have b__law_is_number := F__law_is_number.binds (ps := ["value", "most"]) fun _ _ _ _ _ _ us hl => match us, hl with | [_, _], _ => rfl
  have b__law_fault := F__law_fault.binds (ps := ["value", "sizes", "most", "none"]) fun _ _ _ _ _ _ us hl => match us, hl with | [_, _, _, _], _ => rfl
  have b__law_heard := F__law_heard.binds (ps := ["action"]) fun _ _ _ _ _ _ us hl => match us, hl with | [_], _ => rfl
  have b__law_odd := F__law_odd.binds (ps := ["heap", "value"]) fun _ _ _ _ _ _ us hl => match us, hl with | [_, _], _ => rfl
  have b__law_checked_right := F__law_checked_right.binds (ps := ["heap", "table", "stock", "bounds", "row"]) fun _ _ _ _ _ _ us hl => match us, hl with | [_, _, _, _, _], _ => rfl
  have b__law_units_right := F__law_units_right.binds (ps := ["heap", "table", "stock"]) fun _ _ _ _ _ _ us hl => match us, hl with | [_, _, _], _ => rfl
  have b__law_requests_right := F__law_requests_right.binds (ps := ["table", "bounds", "row"]) fun _ _ _ _ _ _ us hl => match us, hl with | [_, _, _], _ => rfl
  have kw_units_in := kwB_of (ps := ["stock", "kinds"]) (ks := ["kinds", "stock"]) (g := List.reverse) F_units_in fun _ _ _ _ _ _ ws hl => match ws, hl with | [_, _], _ => rfl
  have kw_unit_taken := kwB_of (ps := ["stock", "kind"]) (ks := ["kind", "stock"]) (g := List.reverse) F_unit_taken fun _ _ _ _ _ _ ws hl => match ws, hl with | [_, _], _ => rfl
  have kw_unit_put := kwB_of (ps := ["stock", "kind"]) (ks := ["kind", "stock"]) (g := List.reverse) F_unit_put fun _ _ _ _ _ _ ws hl => match ws, hl with | [_, _], _ => rfl
  have kw_bounds_after := kwB_of (ps := ["bounds", "request"]) (ks := ["request", "bounds"]) (g := List.reverse) F_bounds_after fun _ _ _ _ _ _ ws hl => match ws, hl with | [_, _], _ => rfl
  have kw_row_counts := kwB_of (ps := ["table", "row"]) (ks := ["row", "table"]) (g := List.reverse) F_row_counts fun _ _ _ _ _ _ ws hl => match ws, hl with | [_, _], _ => rfl
  have kw_check_stock := kwB_of (ps := ["table", "value"]) (ks := ["value", "table"]) (g := List.reverse) F_check_stock fun _ _ _ _ _ _ ws hl => match ws, hl with | [_, _], _ => rfl
  have kw_check_bounds := kwB_of (ps := ["table", "value"]) (ks := ["value", "table"]) (g := List.reverse) F_check_bounds fun _ _ _ _ _ _ ws hl => match ws, hl with | [_, _], _ => rfl
  have kw_check_row := kwB_of (ps := ["table", "value"]) (ks := ["value", "table"]) (g := List.reverse) F_check_row fun _ _ _ _ _ _ ws hl => match ws, hl with | [_, _], _ => rfl
  have TT : TTxt K mg C := ⟨⟨pg, hdT, po, sa⟩, nK, nT, PySem.W.mg_of X G g_C⟩
  have M : Mk K C f_Table_init := ⟨mk, a_Table_init, i_Table_init, kpC⟩
  have oxS : OexC K CS := ⟨⟨nmS, qnS, NnS, bsS, _, snS, subS, abS, colS, ddS, m0S, m1S, m2S, m3S, m5S, xS, rfl⟩, sa_S, exCS, tyS, kCS⟩
  have oxB : OexC K CB := ⟨⟨nmB, qnB, NnB, bsB, _, snB, subB, abB, colB, ddB, m0B, m1B, m2B, m3B, m5B, xB, rfl⟩, sa_B, exCB, tyB, kCB⟩
  have oxW : OexC K CW := ⟨⟨nmW, qnW, NnW, bsW, _, snW, subW, abW, colW, ddW, m0W, m1W, m2W, m3W, m5W, xW, rfl⟩, sa_W, exCW, tyW, kCW⟩
  have oxF : OexC K CF := ⟨⟨nmF, qnF, NnF, bsF, _, snF, subF, abF, colF, ddF, m0F, m1F, m2F, m3F, m5F, xF, rfl⟩, sa_F, exCF, tyF, kCF⟩
  have AS : ATxt K mg "InvalidStock" CS f_InvalidStock_init := ⟨oxS, nAS, a_InvalidStock_init, tIS, PySem.W.mg_of X G g_CS⟩
  have AB : ATxt K mg "InvalidBounds" CB f_InvalidBounds_init := ⟨oxB, nAB, a_InvalidBounds_init, tIB, PySem.W.mg_of X G g_CB⟩
  have AW : ATxt K mg "InvalidRow" CW f_InvalidRow_init := ⟨oxW, nAW, a_InvalidRow_init, tIW, PySem.W.mg_of X G g_CW⟩
  have TR : WTxt K mg "Refused" CF f_Refused_init := ⟨oxF, nAF, a_Refused_init, tIF, PySem.W.mg_of X G g_CF⟩
  have TH : HTxt K mg CS CB CW CF CD CT := ⟨PySem.W.mg_of X G g_CS, PySem.W.mg_of X G g_CB, PySem.W.mg_of X G g_CW, PySem.W.mg_of X G g_CF, PySem.W.mg_of X G g_CD, PySem.W.mg_of X G g_CT, nAS, nAB, nAW, nAF, PySem.W.exm_ref exCS hdS tyS sSS, PySem.W.exm_ref exCS hdS tyS sBS, PySem.W.exm_ref exCB hdB tyB sBB, PySem.W.exm_ref exCS hdS tyS sWS, PySem.W.exm_ref exCB hdB tyB sWB, PySem.W.exm_ref exCW hdW tyW sWW, PySem.W.exm_ref exCS hdS tyS sFS, PySem.W.exm_ref exCB hdB tyB sFB, PySem.W.exm_ref exCW hdW tyW sFW, PySem.W.exm_ref exCF hdF tyF sFF, kit_yes iCD tCD sWD, kit_no iCT tCT sWW sWT, ⟨hgW, hkW, exCW, hdW, haW, hn, ht, hmW⟩, ⟨hgS, hkS, exCS, hdS⟩, ⟨hgB, hkB, exCB, hdB⟩, ⟨hgW, hkW, exCW, hdW⟩, ⟨hgF, hkF, exCF, hdF⟩⟩
  have LT__law_checked_right : ∀ {base : Heap}, (∀ p ∈ ([(cc__law_checked_right, P__law_checked_right), (cc__law_units_right, P__law_units_right), (cc__law_requests_right, P__law_requests_right), (cc_law, P_law)] : List (Addr × Addr)), LamX.TabB base mg p.1 p.2) → LamT [(P__law_checked_right, ("_law_checked_right" ++ ".<locals>." ++ "<lambda>")), (P__law_units_right, ("_law_units_right" ++ ".<locals>." ++ "<lambda>")), (P__law_requests_right, ("_law_requests_right" ++ ".<locals>." ++ "<lambda>")), (P_law, ("law" ++ ".<locals>." ++ "<lambda>"))] base mg cc__law_checked_right P__law_checked_right ("_law_checked_right" ++ ".<locals>." ++ "<lambda>") := fun HT => ⟨HT _ (.head _), (.head _), un_of dist (.head _)⟩
  have LT__law_units_right : ∀ {base : Heap}, (∀ p ∈ ([(cc__law_checked_right, P__law_checked_right), (cc__law_units_right, P__law_units_right), (cc__law_requests_right, P__law_requests_right), (cc_law, P_law)] : List (Addr × Addr)), LamX.TabB base mg p.1 p.2) → LamT [(P__law_checked_right, ("_law_checked_right" ++ ".<locals>." ++ "<lambda>")), (P__law_units_right, ("_law_units_right" ++ ".<locals>." ++ "<lambda>")), (P__law_requests_right, ("_law_requests_right" ++ ".<locals>." ++ "<lambda>")), (P_law, ("law" ++ ".<locals>." ++ "<lambda>"))] base mg cc__law_units_right P__law_units_right ("_law_units_right" ++ ".<locals>." ++ "<lambda>") := fun HT => ⟨HT _ (.tail _ (.head _)), (.tail _ (.head _)), un_of dist (.tail _ (.head _))⟩
  have LT__law_requests_right : ∀ {base : Heap}, (∀ p ∈ ([(cc__law_checked_right, P__law_checked_right), (cc__law_units_right, P__law_units_right), (cc__law_requests_right, P__law_requests_right), (cc_law, P_law)] : List (Addr × Addr)), LamX.TabB base mg p.1 p.2) → LamT [(P__law_checked_right, ("_law_checked_right" ++ ".<locals>." ++ "<lambda>")), (P__law_units_right, ("_law_units_right" ++ ".<locals>." ++ "<lambda>")), (P__law_requests_right, ("_law_requests_right" ++ ".<locals>." ++ "<lambda>")), (P_law, ("law" ++ ".<locals>." ++ "<lambda>"))] base mg cc__law_requests_right P__law_requests_right ("_law_requests_right" ++ ".<locals>." ++ "<lambda>") := fun HT => ⟨HT _ (.tail _ (.tail _ (.head _))), (.tail _ (.tail _ (.head _))), un_of dist (.tail _ (.tail _ (.head _)))⟩
  have LT_law : ∀ {base : Heap}, (∀ p ∈ ([(cc__law_checked_right, P__law_checked_right), (cc__law_units_right, P__law_units_right), (cc__law_requests_right, P__law_requests_right), (cc_law, P_law)] : List (Addr × Addr)), LamX.TabB base mg p.1 p.2) → LamT [(P__law_checked_right, ("_law_checked_right" ++ ".<locals>." ++ "<lambda>")), (P__law_units_right, ("_law_units_right" ++ ".<locals>." ++ "<lambda>")), (P__law_requests_right, ("_law_requests_right" ++ ".<locals>." ++ "<lambda>")), (P_law, ("law" ++ ".<locals>." ++ "<lambda>"))] base mg cc_law P_law ("law" ++ ".<locals>." ++ "<lambda>") := fun HT => ⟨HT _ (.tail _ (.tail _ (.tail _ (.head _)))), (.tail _ (.tail _ (.tail _ (.head _)))), un_of dist (.tail _ (.tail _ (.tail _ (.head _))))⟩
  refine ⟨PySem.W.fnOf "law" "law" (defArgs s_law) (defBody s_law) (defScope s_law) .none kV_law dc_law pm_law an_law (.ref cc_law) ct_law, [(cc__law_checked_right, P__law_checked_right), (cc__law_units_right, P__law_units_right), (cc__law_requests_right, P__law_requests_right), (cc_law, P_law)], spLaw K [(P__law_checked_right, ("_law_checked_right" ++ ".<locals>." ++ "<lambda>")), (P__law_units_right, ("_law_units_right" ++ ".<locals>." ++ "<lambda>")), (P__law_requests_right, ("_law_requests_right" ++ ".<locals>." ++ "<lambda>")), (P_law, ("law" ++ ".<locals>." ++ "<lambda>"))], ⟨(List.forall_mem_cons.mpr ⟨t__law_checked_right, (List.forall_mem_cons.mpr ⟨t__law_units_right, (List.forall_mem_cons.mpr ⟨t__law_requests_right, (List.forall_mem_cons.mpr ⟨t_law, (fun _ z => nomatch z)⟩)⟩)⟩)⟩), (List.forall_mem_cons.mpr ⟨n__law_checked_right, (List.forall_mem_cons.mpr ⟨n__law_units_right, (List.forall_mem_cons.mpr ⟨n__law_requests_right, (List.forall_mem_cons.mpr ⟨n_law, (fun _ z => nomatch z)⟩)⟩)⟩)⟩), (List.forall_mem_cons.mpr ⟨PySem.W.codeHd_of_K X h__law_checked_right, (List.forall_mem_cons.mpr ⟨PySem.W.codeHd_of_K X h__law_units_right, (List.forall_mem_cons.mpr ⟨PySem.W.codeHd_of_K X h__law_requests_right, (List.forall_mem_cons.mpr ⟨PySem.W.codeHd_of_K X h_law, (fun _ z => nomatch z)⟩)⟩)⟩)⟩)⟩, fun s v => .of_eq rfl, fun H a ns hl ht hs => ⟨a, ns, rfl, hs, hl, (List.forall_mem_cons.mpr ⟨LamX.TabS.nil (ht _ (.head _)), (List.forall_mem_cons.mpr ⟨LamX.TabS.nil (ht _ (.tail _ (.head _))), (List.forall_mem_cons.mpr ⟨LamX.TabS.nil (ht _ (.tail _ (.tail _ (.head _)))), (List.forall_mem_cons.mpr ⟨LamX.TabS.nil (ht _ (.tail _ (.tail _ (.tail _ (.head _))))), (fun _ z => nomatch z)⟩)⟩)⟩)⟩), fun _ => rfl⟩, fun base _ _ HT => ?_⟩
  have G__law_draw := ok_draw (P := l.prog) (w := w) (mg := mg) (base := base) (k := 0) F__law_draw (PySem.W.mg_none_of X G z_int)
  have G__law_pick := ok_pick (P := l.prog) (w := w) (mg := mg) (base := base) (k := 0) F__law_pick F__law_draw b__law_draw (PySem.W.mg_of X G a__law_draw) (PySem.W.mg_none_of X G z_len) (PySem.W.mg_none_of X G z_int)
  have G__law_heap := ok_heap (P := l.prog) (w := w) (mg := mg) (base := base) (k := 0) F__law_heap (PySem.W.mg_none_of X G z_abs) (PySem.W.mg_none_of X G z_int)
  have G_is_number := ok_num (P := l.prog) (w := w) (mg := mg) (base := base) (k := 0) F_is_number (PySem.W.mg_none_of X G z_isinstance) (PySem.W.mg_none_of X G z_int) (PySem.W.mg_none_of X G z_bool)
  have G_is_number_below := ok_numB (P := l.prog) (w := w) (mg := mg) (base := base) (k := 0) F_is_number_below F_is_number b_is_number (PySem.W.mg_of X G a_is_number) (PySem.W.mg_none_of X G z_isinstance) (PySem.W.mg_none_of X G z_int) (PySem.W.mg_none_of X G z_bool)
  have G_is_name := ok_name (P := l.prog) (w := w) (mg := mg) (base := base) (k := 0) F_is_name (PySem.W.mg_of X G v_MOST_LETTERS) (PySem.W.mg_none_of X G z_isinstance) (PySem.W.mg_none_of X G z_str) (PySem.W.mg_none_of X G z_len) (PySem.W.mg_none_of X G z_all)
  have G_is_tuple_of := ok_tupOf (P := l.prog) (w := w) (mg := mg) (base := base) (k := 0) F_is_tuple_of (PySem.W.mg_none_of X G z_isinstance) (PySem.W.mg_none_of X G z_tuple) (PySem.W.mg_none_of X G z_len)
  have G_is_ascending := ok_asc (P := l.prog) (w := w) (mg := mg) (base := base) (k := 0) F_is_ascending (PySem.W.mg_none_of X G z_range) (PySem.W.mg_none_of X G z_len) (PySem.W.mg_none_of X G z_all)
  have G_are_numbers_below := ok_nums (P := l.prog) (w := w) (mg := mg) (base := base) (k := 0) F_are_numbers_below F_is_number_below F_is_number b_is_number b_is_number_below (PySem.W.mg_of X G a_is_number) (PySem.W.mg_of X G a_is_number_below) (PySem.W.mg_none_of X G z_isinstance) (PySem.W.mg_none_of X G z_int) (PySem.W.mg_none_of X G z_bool) (PySem.W.mg_none_of X G z_tuple) (PySem.W.mg_none_of X G z_all)
  have G_is_lot_below := ok_lot (P := l.prog) (w := w) (mg := mg) (base := base) (k := 0) F_is_lot_below F_are_numbers_below F_is_ascending F_is_number_below F_is_number b_are_numbers_below b_is_ascending b_is_number b_is_number_below (PySem.W.mg_of X G a_are_numbers_below) (PySem.W.mg_of X G a_is_ascending) (PySem.W.mg_of X G a_is_number) (PySem.W.mg_of X G a_is_number_below) (PySem.W.mg_none_of X G z_isinstance) (PySem.W.mg_none_of X G z_int) (PySem.W.mg_none_of X G z_bool) (PySem.W.mg_none_of X G z_tuple) (PySem.W.mg_none_of X G z_all) (PySem.W.mg_none_of X G z_range) (PySem.W.mg_none_of X G z_len)
  have G_is_lot_of_names := ok_lotN (P := l.prog) (w := w) (mg := mg) (base := base) (k := 0) F_is_lot_of_names F_is_name F_is_ascending b_is_name b_is_ascending (PySem.W.mg_of X G a_is_name) (PySem.W.mg_of X G a_is_ascending) (PySem.W.mg_of X G v_MOST_LETTERS) (PySem.W.mg_none_of X G z_isinstance) (PySem.W.mg_none_of X G z_str) (PySem.W.mg_none_of X G z_tuple) (PySem.W.mg_none_of X G z_all) (PySem.W.mg_none_of X G z_range) (PySem.W.mg_none_of X G z_len)
  have G_is_type_pair := ok_pair (P := l.prog) (w := w) (mg := mg) (base := base) (k := 4) F_is_type_pair F_is_tuple_of F_is_name F_is_lot_below b_is_tuple_of b_is_name b_is_lot_below (PySem.W.mg_of X G a_is_tuple_of) (PySem.W.mg_of X G a_is_name) (PySem.W.mg_of X G a_is_lot_below) (G_is_tuple_of.mono (by decide)) (G_is_name.mono (by decide)) (G_is_lot_below.mono (by decide))
  have G_Table_init := ok_tinit (P := l.prog) (w := w) (mg := mg) (base := base) (k := 5) F_Table_init TT F_is_lot_of_names F_is_type_pair b_is_lot_of_names b_is_type_pair (PySem.W.mg_of X G a_is_lot_of_names) (PySem.W.mg_of X G a_is_type_pair) (PySem.W.mg_of X G v_MOST_KINDS) (PySem.W.mg_of X G v_MOST_TYPES) (G_is_lot_of_names.mono (by decide)) (G_is_type_pair.mono (by decide)) (PySem.W.mg_none_of X G z_isinstance) (PySem.W.mg_none_of X G z_tuple) (PySem.W.mg_none_of X G z_len) (PySem.W.mg_none_of X G z_enumerate)
  have G__law_names := ok_names (P := l.prog) (w := w) (mg := mg) (base := base) (k := 0) F__law_names F__law_draw F__law_pick b__law_draw b__law_pick (PySem.W.mg_of X G a__law_draw) (PySem.W.mg_of X G a__law_pick) (PySem.W.mg_none_of X G z_len) (PySem.W.mg_none_of X G z_int) (PySem.W.mg_none_of X G z_range) (PySem.W.mg_none_of X G z_tuple) (PySem.W.mg_none_of X G z_sorted) (PySem.W.mg_none_of X G z_max)
  have G__law_lot := ok_llot (P := l.prog) (w := w) (mg := mg) (base := base) (k := 0) F__law_lot F__law_draw b__law_draw (PySem.W.mg_of X G a__law_draw) (PySem.W.mg_none_of X G z_int) (PySem.W.mg_none_of X G z_range) (PySem.W.mg_none_of X G z_tuple)
  have G__law_parts := ok_parts (P := l.prog) (w := w) (mg := mg) (base := base) (k := 0) F__law_parts F__law_draw F__law_pick F__law_names F__law_lot b__law_draw b__law_pick b__law_names b__law_lot (PySem.W.mg_of X G a__law_draw) (PySem.W.mg_of X G a__law_pick) (PySem.W.mg_of X G a__law_names) (PySem.W.mg_of X G a__law_lot) (PySem.W.mg_none_of X G z_len) (PySem.W.mg_none_of X G z_int) (PySem.W.mg_none_of X G z_range) (PySem.W.mg_none_of X G z_tuple) (PySem.W.mg_none_of X G z_sorted) (PySem.W.mg_none_of X G z_max)
  have G_changed_at := ok_chg (P := l.prog) (w := w) (mg := mg) (base := base) (k := 0) F_changed_at
  have G_first_false := ok_ff (P := l.prog) (w := w) (mg := mg) (base := base) (k := 0) F_first_false
  have G_Refused_init := ok_iref (P := l.prog) (w := w) (mg := mg) (base := base) (k := 0) F_Refused_init TR
  have G_unit_taken := ok_taken (P := l.prog) (w := w) (mg := mg) (base := base) (k := 1) F_unit_taken F_changed_at b_changed_at (PySem.W.mg_of X G a_changed_at) (G_changed_at.mono (by decide)) F_Refused_init TR b_Refused_init (G_Refused_init.mono (by decide))
  have G_unit_put := ok_putU (P := l.prog) (w := w) (mg := mg) (base := base) (k := 1) F_unit_put F_changed_at b_changed_at (PySem.W.mg_of X G a_changed_at) (G_changed_at.mono (by decide)) F_Refused_init TR b_Refused_init (G_Refused_init.mono (by decide)) (PySem.W.mg_of X G v_MOST_UNITS)
  have G_bounds_after := ok_bafter (P := l.prog) (w := w) (mg := mg) (base := base) (k := 1) F_bounds_after F_changed_at b_changed_at (PySem.W.mg_of X G a_changed_at) (G_changed_at.mono (by decide)) F_Refused_init TR b_Refused_init (G_Refused_init.mono (by decide))
  have G_units_in := ok_units (P := l.prog) (w := w) (mg := mg) (base := base) (k := 0) F_units_in (PySem.W.mg_none_of X G z_sum)
  have G_counts_of := ok_counts (P := l.prog) (w := w) (mg := mg) (base := base) (k := 0) F_counts_of (PySem.W.mg_none_of X G z_tuple)
  have G_stock_fault := ok_sf (P := l.prog) (w := w) (mg := mg) (base := base) (k := 2) F_stock_fault TT F_is_tuple_of b_is_tuple_of (PySem.W.mg_of X G a_is_tuple_of) (G_is_tuple_of.mono (by decide)) F_first_false b_first_false (PySem.W.mg_of X G a_first_false) (G_first_false.mono (by decide)) F_is_number_below b_is_number_below (PySem.W.mg_of X G a_is_number_below) (G_is_number_below.mono (by decide)) (PySem.W.mg_of X G v_MOST_UNITS) (PySem.W.mg_none_of X G z_len)
  have G_bounds_fault := ok_bf (P := l.prog) (w := w) (mg := mg) (base := base) (k := 2) F_bounds_fault TT F_is_tuple_of b_is_tuple_of (PySem.W.mg_of X G a_is_tuple_of) (G_is_tuple_of.mono (by decide)) F_first_false b_first_false (PySem.W.mg_of X G a_first_false) (G_first_false.mono (by decide)) F_is_number_below b_is_number_below (PySem.W.mg_of X G a_is_number_below) (G_is_number_below.mono (by decide)) (PySem.W.mg_of X G v_MOST_UNITS) (PySem.W.mg_none_of X G z_len)
  have G_row_fault := ok_rf (P := l.prog) (w := w) (mg := mg) (base := base) (k := 2) F_row_fault TT F_first_false b_first_false (PySem.W.mg_of X G a_first_false) (G_first_false.mono (by decide)) F_is_number_below b_is_number_below (PySem.W.mg_of X G a_is_number_below) (G_is_number_below.mono (by decide)) (PySem.W.mg_of X G v_MOST_REQUESTS) (PySem.W.mg_none_of X G z_len) (PySem.W.mg_none_of X G z_isinstance) (PySem.W.mg_none_of X G z_tuple)
  have G_InvalidStock_init := ok_iats (P := l.prog) (w := w) (mg := mg) (base := base) (k := 0) F_InvalidStock_init AS
  have G_check_stock := ok_cs (P := l.prog) (w := w) (mg := mg) (base := base) (k := 2) F_check_stock F_stock_fault b_stock_fault (PySem.W.mg_of X G a_stock_fault) (G_stock_fault.mono (by decide)) F_InvalidStock_init AS b_InvalidStock_init (G_InvalidStock_init.mono (by decide))
  have G_InvalidBounds_init := ok_iatb (P := l.prog) (w := w) (mg := mg) (base := base) (k := 0) F_InvalidBounds_init AB
  have G_check_bounds := ok_cb (P := l.prog) (w := w) (mg := mg) (base := base) (k := 2) F_check_bounds F_bounds_fault b_bounds_fault (PySem.W.mg_of X G a_bounds_fault) (G_bounds_fault.mono (by decide)) F_InvalidBounds_init AB b_InvalidBounds_init (G_InvalidBounds_init.mono (by decide))
  have G_InvalidRow_init := ok_iatr (P := l.prog) (w := w) (mg := mg) (base := base) (k := 0) F_InvalidRow_init AW
  have G_check_row := ok_cr (P := l.prog) (w := w) (mg := mg) (base := base) (k := 2) F_check_row F_row_fault b_row_fault (PySem.W.mg_of X G a_row_fault) (G_row_fault.mono (by decide)) F_InvalidRow_init AW b_InvalidRow_init (G_InvalidRow_init.mono (by decide))
  have G_row_counts := ok_rowc (P := l.prog) (w := w) (mg := mg) (base := base) (k := 1) F_row_counts TT F_counts_of b_counts_of (PySem.W.mg_of X G a_counts_of) (G_counts_of.mono (by decide)) (PySem.W.mg_none_of X G z_len)
  have G__law_is_number := ok_lnum (P := l.prog) (w := w) (mg := mg) (base := base) (k := 0) F__law_is_number (PySem.W.mg_none_of X G z_isinstance) (PySem.W.mg_none_of X G z_int) (PySem.W.mg_none_of X G z_bool)
  have G__law_fault := ok_lf (P := l.prog) (w := w) (mg := mg) (base := base) (k := 1) F__law_fault F__law_is_number b__law_is_number (PySem.W.mg_of X G a__law_is_number) (G__law_is_number.mono (by decide)) (PySem.W.mg_none_of X G z_isinstance) (PySem.W.mg_none_of X G z_tuple) (PySem.W.mg_none_of X G z_len) (PySem.W.mg_none_of X G z_range)
  have G__law_odd := ok_odd (P := l.prog) (w := w) (mg := mg) (base := base) (k := 2) F__law_odd F__law_draw b__law_draw (PySem.W.mg_of X G a__law_draw) (G__law_draw.mono (by decide)) F__law_pick b__law_pick (PySem.W.mg_of X G a__law_pick) (G__law_pick.mono (by decide)) (PySem.W.mg_none_of X G z_len) (PySem.W.mg_none_of X G z_list)
  have G__law_units_right := ok_ur (P := l.prog) (w := w) (mg := mg) (base := base) (k := 3) F__law_units_right rfl (LT__law_units_right HT) F__law_lot b__law_lot (PySem.W.mg_of X G a__law_lot) (G__law_lot.mono (by decide)) F_units_in b_units_in kw_units_in (PySem.W.mg_of X G a_units_in) (G_units_in.mono (by decide)) F_unit_taken b_unit_taken kw_unit_taken (PySem.W.mg_of X G a_unit_taken) (G_unit_taken.mono (by decide)) F_unit_put b_unit_put kw_unit_put (PySem.W.mg_of X G a_unit_put) (G_unit_put.mono (by decide)) F__law_heard b__law_heard (PySem.W.mg_of X G a__law_heard) TH (PySem.W.mg_none_of X G z_isinstance) (PySem.W.mg_none_of X G z_len) (PySem.W.mg_none_of X G z_range) (PySem.W.mg_none_of X G z_sum) (PySem.W.mg_none_of X G z_repr)
  have G__law_requests_right := ok_qr (P := l.prog) (w := w) (mg := mg) (base := base) (k := 3) F__law_requests_right rfl (LT__law_requests_right HT) TT F_bounds_after b_bounds_after kw_bounds_after (PySem.W.mg_of X G a_bounds_after) (G_bounds_after.mono (by decide)) F_row_counts b_row_counts kw_row_counts (PySem.W.mg_of X G a_row_counts) (G_row_counts.mono (by decide)) F__law_heard b__law_heard (PySem.W.mg_of X G a__law_heard) TH (PySem.W.mg_none_of X G z_isinstance) (PySem.W.mg_none_of X G z_len) (PySem.W.mg_none_of X G z_range) (PySem.W.mg_none_of X G z_tuple) (PySem.W.mg_none_of X G z_repr)
  have G__law_checked_right := ok_ck (P := l.prog) (w := w) (mg := mg) (base := base) (k := 4) F__law_checked_right rfl (LT__law_checked_right HT) TT F__law_odd b__law_odd (PySem.W.mg_of X G a__law_odd) (G__law_odd.mono (by decide)) F__law_fault b__law_fault (PySem.W.mg_of X G a__law_fault) (G__law_fault.mono (by decide)) F_check_stock b_check_stock kw_check_stock (PySem.W.mg_of X G a_check_stock) (G_check_stock.mono (by decide)) F_check_bounds b_check_bounds kw_check_bounds (PySem.W.mg_of X G a_check_bounds) (G_check_bounds.mono (by decide)) F_check_row b_check_row kw_check_row (PySem.W.mg_of X G a_check_row) (G_check_row.mono (by decide)) F__law_heard b__law_heard (PySem.W.mg_of X G a__law_heard) TH (PySem.W.mg_none_of X G z_isinstance) (PySem.W.mg_none_of X G z_len) (PySem.W.mg_none_of X G z_range) (PySem.W.mg_none_of X G z_list) (PySem.W.mg_none_of X G z_repr)
  have G_law := ok_law (P := l.prog) (w := w) (mg := mg) (base := base) (k := 6) F_law rfl (LT_law HT) TT M b_Table_init (G_Table_init.mono (by decide)) F__law_heap b__law_heap (PySem.W.mg_of X G a__law_heap) (G__law_heap.mono (by decide)) F__law_draw b__law_draw (PySem.W.mg_of X G a__law_draw) (G__law_draw.mono (by decide)) F__law_pick b__law_pick (PySem.W.mg_of X G a__law_pick) (G__law_pick.mono (by decide)) F__law_parts b__law_parts (PySem.W.mg_of X G a__law_parts) (G__law_parts.mono (by decide)) F__law_checked_right b__law_checked_right (PySem.W.mg_of X G a__law_checked_right) (G__law_checked_right.mono (by decide)) F__law_units_right b__law_units_right (PySem.W.mg_of X G a__law_units_right) (G__law_units_right.mono (by decide)) F__law_requests_right b__law_requests_right (PySem.W.mg_of X G a__law_requests_right) (G__law_requests_right.mono (by decide)) F_check_row b_check_row (PySem.W.mg_of X G a_check_row) (G_check_row.mono (by decide)) F_row_counts b_row_counts (PySem.W.mg_of X G a_row_counts) (G_row_counts.mono (by decide)) F_unit_put b_unit_put (PySem.W.mg_of X G a_unit_put) (G_unit_put.mono (by decide)) F_unit_taken b_unit_taken (PySem.W.mg_of X G a_unit_taken) (G_unit_taken.mono (by decide)) F_bounds_after b_bounds_after (PySem.W.mg_of X G a_bounds_after) (G_bounds_after.mono (by decide)) F_units_in b_units_in (PySem.W.mg_of X G a_units_in) (G_units_in.mono (by decide)) F__law_heard b__law_heard (PySem.W.mg_of X G a__law_heard) TH (PySem.W.mg_none_of X G z_isinstance) (PySem.W.mg_none_of X G z_len) (PySem.W.mg_none_of X G z_int) (PySem.W.mg_none_of X G z_range) (PySem.W.mg_none_of X G z_tuple) (PySem.W.mg_none_of X G z_repr)
  exact G_law
end K3
open PySem PySem.W PyProof.Rows
set_option maxHeartbeats 0 in
theorem PySem.Challenge.cw_neverregret_k03_whole_stocks_bounds_and_holds : PySem.Challenge.rw_neverregret_k03_whole_stocks_bounds_and.Holds := by
  w_on; o_law; k_head; (case hw => w_witness2)
  k_fill
  refine Gd.walk_GT (l := PySem.Challenge.rw_neverregret_k03_whole_stocks_bounds_and) (n := 63) (k := 9) (x := "script") rfl (by decide) rfl ⟨rfl, by decide, by decide⟩ (fun w h Y => PySem.W.km_in_of Y) ?F
  case F =>
    intro w mg fa h Y KX G hmg
    refine' K3.all_mk KX G hmg ?g_C ?g_CS ?g_CB ?g_CW ?g_CF ?g_CD ?g_CT ?a_is_number ?l_is_number ?c_is_number ?k_is_number ?a_is_number_below ?l_is_number_below ?c_is_number_below ?k_is_number_below ?a_is_name ?l_is_name ?c_is_name ?k_is_name ?a_is_tuple_of ?l_is_tuple_of ?c_is_tuple_of ?k_is_tuple_of ?a_is_ascending ?l_is_ascending ?c_is_ascending ?k_is_ascending ?a_are_numbers_below ?l_are_numbers_below ?c_are_numbers_below ?k_are_numbers_below ?a_is_lot_below ?l_is_lot_below ?c_is_lot_below ?k_is_lot_below ?a_is_lot_of_names ?l_is_lot_of_names ?c_is_lot_of_names ?k_is_lot_of_names ?a_counts_of ?l_counts_of ?c_counts_of ?k_counts_of ?a_changed_at ?l_changed_at ?c_changed_at ?k_changed_at ?a_first_false ?l_first_false ?c_first_false ?k_first_false ?a_InvalidStock_init ?l_InvalidStock_init ?c_InvalidStock_init ?k_InvalidStock_init ?i_InvalidStock_init ?a_InvalidBounds_init ?l_InvalidBounds_init ?c_InvalidBounds_init ?k_InvalidBounds_init ?i_InvalidBounds_init ?a_InvalidRow_init ?l_InvalidRow_init ?c_InvalidRow_init ?k_InvalidRow_init ?i_InvalidRow_init ?a_Refused_init ?l_Refused_init ?c_Refused_init ?k_Refused_init ?i_Refused_init ?a_Table_init ?l_Table_init ?c_Table_init ?k_Table_init ?i_Table_init ?a_is_type_pair ?l_is_type_pair ?c_is_type_pair ?k_is_type_pair ?a_stock_fault ?l_stock_fault ?c_stock_fault ?k_stock_fault ?a_check_stock ?l_check_stock ?c_check_stock ?k_check_stock ?a_bounds_fault ?l_bounds_fault ?c_bounds_fault ?k_bounds_fault ?a_check_bounds ?l_check_bounds ?c_check_bounds ?k_check_bounds ?a_row_fault ?l_row_fault ?c_row_fault ?k_row_fault ?a_check_row ?l_check_row ?c_check_row ?k_check_row ?a_units_in ?l_units_in ?c_units_in ?k_units_in ?a_unit_taken ?l_unit_taken ?c_unit_taken ?k_unit_taken ?a_unit_put ?l_unit_put ?c_unit_put ?k_unit_put ?a_bounds_after ?l_bounds_after ?c_bounds_after ?k_bounds_after ?a_row_counts ?l_row_counts ?c_row_counts ?k_row_counts ?a__law_heap ?l__law_heap ?c__law_heap ?k__law_heap ?a__law_draw ?l__law_draw ?c__law_draw ?k__law_draw ?a__law_pick ?l__law_pick ?c__law_pick ?k__law_pick ?a__law_names ?l__law_names ?c__law_names ?k__law_names ?a__law_lot ?l__law_lot ?c__law_lot ?k__law_lot ?a__law_parts ?l__law_parts ?c__law_parts ?k__law_parts ?a__law_is_number ?l__law_is_number ?c__law_is_number ?k__law_is_number ?a__law_fault ?l__law_fault ?c__law_fault ?k__law_fault ?a__law_heard ?l__law_heard ?c__law_heard ?k__law_heard ?a__law_odd ?l__law_odd ?c__law_odd ?k__law_odd ?a__law_checked_right ?l__law_checked_right ?c__law_checked_right ?q__law_checked_right ?r__law_checked_right ?h__law_checked_right ?n__law_checked_right ?t__law_checked_right ?k__law_checked_right ?a__law_units_right ?l__law_units_right ?c__law_units_right ?q__law_units_right ?r__law_units_right ?h__law_units_right ?n__law_units_right ?t__law_units_right ?k__law_units_right ?a__law_requests_right ?l__law_requests_right ?c__law_requests_right ?q__law_requests_right ?r__law_requests_right ?h__law_requests_right ?n__law_requests_right ?t__law_requests_right ?k__law_requests_right ?a_law ?l_law ?c_law ?q_law ?r_law ?h_law ?n_law ?t_law ?k_law ?pg ?hdT ?po ?sa ?mk ?kpC ?nK ?nT ?xS ?sa_S ?exCS ?tyS ?kCS ?nAS ?tIS ?hgS ?hkS ?hdS ?xB ?sa_B ?exCB ?tyB ?kCB ?nAB ?tIB ?hgB ?hkB ?hdB ?xW ?sa_W ?exCW ?tyW ?kCW ?nAW ?tIW ?hgW ?hkW ?hdW ?xF ?sa_F ?exCF ?tyF ?kCF ?nAF ?tIF ?hgF ?hkF ?hdF ?sSS ?sBS ?sBB ?sWS ?sWB ?sWW ?sFS ?sFB ?sFW ?sFF ?haW ?hmW ?hn ?ht ?iCD ?tCD ?sWD ?iCT ?tCT ?sWT ?v_MOST_LETTERS ?v_MOST_KINDS ?v_MOST_TYPES ?v_MOST_UNITS ?v_MOST_REQUESTS ?z_int ?z_len ?z_abs ?z_isinstance ?z_bool ?z_str ?z_all ?z_tuple ?z_range ?z_enumerate ?z_sorted ?z_max ?z_sum ?z_list ?z_repr ?dist
    (case g_C => k_is); (case g_CS => k_is); (case g_CB => k_is); (case g_CW => k_is); (case g_CF => k_is); (case g_CD => k_is); (case g_CT => k_is); (case a_is_number => k_is); (case l_is_number => k_is); (case c_is_number => k_is); (case k_is_number => k_is); (case a_is_number_below => k_is); (case l_is_number_below => k_is); (case c_is_number_below => k_is); (case k_is_number_below => k_is); (case a_is_name => k_is); (case l_is_name => k_is); (case c_is_name => k_is); (case k_is_name => k_is); (case a_is_tuple_of => k_is); (case l_is_tuple_of => k_is); (case c_is_tuple_of => k_is); (case k_is_tuple_of => k_is); (case a_is_ascending => k_is); (case l_is_ascending => k_is); (case c_is_ascending => k_is); (case k_is_ascending => k_is); (case a_are_numbers_below => k_is); (case l_are_numbers_below => k_is); (case c_are_numbers_below => k_is); (case k_are_numbers_below => k_is); (case a_is_lot_below => k_is); (case l_is_lot_below => k_is); (case c_is_lot_below => k_is); (case k_is_lot_below => k_is); (case a_is_lot_of_names => k_is); (case l_is_lot_of_names => k_is); (case c_is_lot_of_names => k_is); (case k_is_lot_of_names => k_is); (case a_counts_of => k_is); (case l_counts_of => k_is); (case c_counts_of => k_is); (case k_counts_of => k_is); (case a_changed_at => k_is); (case l_changed_at => k_is); (case c_changed_at => k_is); (case k_changed_at => k_is); (case a_first_false => k_is); (case l_first_false => k_is); (case c_first_false => k_is); (case k_first_false => k_is); (case a_InvalidStock_init => k_is); (case l_InvalidStock_init => k_is); (case c_InvalidStock_init => k_is); (case k_InvalidStock_init => k_is); (case i_InvalidStock_init => k_is); (case a_InvalidBounds_init => k_is); (case l_InvalidBounds_init => k_is); (case c_InvalidBounds_init => k_is); (case k_InvalidBounds_init => k_is); (case i_InvalidBounds_init => k_is); (case a_InvalidRow_init => k_is); (case l_InvalidRow_init => k_is); (case c_InvalidRow_init => k_is); (case k_InvalidRow_init => k_is); (case i_InvalidRow_init => k_is); (case a_Refused_init => k_is); (case l_Refused_init => k_is); (case c_Refused_init => k_is); (case k_Refused_init => k_is); (case i_Refused_init => k_is); (case a_Table_init => k_is); (case l_Table_init => k_is); (case c_Table_init => k_is); (case k_Table_init => k_is); (case i_Table_init => k_is); (case a_is_type_pair => k_is); (case l_is_type_pair => k_is); (case c_is_type_pair => k_is); (case k_is_type_pair => k_is); (case a_stock_fault => k_is); (case l_stock_fault => k_is); (case c_stock_fault => k_is); (case k_stock_fault => k_is); (case a_check_stock => k_is); (case l_check_stock => k_is); (case c_check_stock => k_is); (case k_check_stock => k_is); (case a_bounds_fault => k_is); (case l_bounds_fault => k_is); (case c_bounds_fault => k_is); (case k_bounds_fault => k_is); (case a_check_bounds => k_is); (case l_check_bounds => k_is); (case c_check_bounds => k_is); (case k_check_bounds => k_is); (case a_row_fault => k_is); (case l_row_fault => k_is); (case c_row_fault => k_is); (case k_row_fault => k_is); (case a_check_row => k_is); (case l_check_row => k_is); (case c_check_row => k_is); (case k_check_row => k_is); (case a_units_in => k_is); (case l_units_in => k_is); (case c_units_in => k_is); (case k_units_in => k_is); (case a_unit_taken => k_is); (case l_unit_taken => k_is); (case c_unit_taken => k_is); (case k_unit_taken => k_is); (case a_unit_put => k_is); (case l_unit_put => k_is); (case c_unit_put => k_is); (case k_unit_put => k_is); (case a_bounds_after => k_is); (case l_bounds_after => k_is); (case c_bounds_after => k_is); (case k_bounds_after => k_is); (case a_row_counts => k_is); (case l_row_counts => k_is); (case c_row_counts => k_is); (case k_row_counts => k_is); (case a__law_heap => k_is); (case l__law_heap => k_is); (case c__law_heap => k_is); (case k__law_heap => k_is); (case a__law_draw => k_is); (case l__law_draw => k_is); (case c__law_draw => k_is); (case k__law_draw => k_is); (case a__law_pick => k_is); (case l__law_pick => k_is); (case c__law_pick => k_is); (case k__law_pick => k_is); (case a__law_names => k_is); (case l__law_names => k_is); (case c__law_names => k_is); (case k__law_names => k_is); (case a__law_lot => k_is); (case l__law_lot => k_is); (case c__law_lot => k_is); (case k__law_lot => k_is); (case a__law_parts => k_is); (case l__law_parts => k_is); (case c__law_parts => k_is); (case k__law_parts => k_is); (case a__law_is_number => k_is); (case l__law_is_number => k_is); (case c__law_is_number => k_is); (case k__law_is_number => k_is); (case a__law_fault => k_is); (case l__law_fault => k_is); (case c__law_fault => k_is); (case k__law_fault => k_is); (case a__law_heard => k_is); (case l__law_heard => k_is); (case c__law_heard => k_is); (case k__law_heard => k_is); (case a__law_odd => k_is); (case l__law_odd => k_is); (case c__law_odd => k_is); (case k__law_odd => k_is); (case a__law_checked_right => k_is); (case l__law_checked_right => k_is); (case c__law_checked_right => k_is); (case q__law_checked_right => k_is); (case r__law_checked_right => rfl); (case h__law_checked_right => kernel_rfl); (case n__law_checked_right => first | k_is | kernel_rfl); (case t__law_checked_right => exact PySem.W.km_tabs_of Y _ (by decide)); (case k__law_checked_right => k_is); (case a__law_units_right => k_is); (case l__law_units_right => k_is); (case c__law_units_right => k_is); (case q__law_units_right => k_is); (case r__law_units_right => rfl); (case h__law_units_right => kernel_rfl); (case n__law_units_right => first | k_is | kernel_rfl); (case t__law_units_right => exact PySem.W.km_tabs_of Y _ (by decide)); (case k__law_units_right => k_is); (case a__law_requests_right => k_is); (case l__law_requests_right => k_is); (case c__law_requests_right => k_is); (case q__law_requests_right => k_is); (case r__law_requests_right => rfl); (case h__law_requests_right => kernel_rfl); (case n__law_requests_right => first | k_is | kernel_rfl); (case t__law_requests_right => exact PySem.W.km_tabs_of Y _ (by decide)); (case k__law_requests_right => k_is); (case a_law => k_is); (case l_law => k_is); (case c_law => k_is); (case q_law => k_is); (case r_law => rfl); (case h_law => kernel_rfl); (case n_law => first | k_is | kernel_rfl); (case t_law => exact PySem.W.km_tabs_of Y _ (by decide)); (case k_law => k_is); (case pg => k_is); (case hdT => k_is); (case po => k_is); (case sa => k_is); (case mk => k_is); (case kpC => k_is); (case nK => k_is); (case nT => k_is); (case xS => k_is); (case sa_S => k_is); (case exCS => k_is); (case tyS => k_is); (case kCS => k_is); (case nAS => k_is); (case tIS => k_is); (case hgS => k_is); (case hkS => k_is); (case hdS => k_is); (case xB => k_is); (case sa_B => k_is); (case exCB => k_is); (case tyB => k_is); (case kCB => k_is); (case nAB => k_is); (case tIB => k_is); (case hgB => k_is); (case hkB => k_is); (case hdB => k_is); (case xW => k_is); (case sa_W => k_is); (case exCW => k_is); (case tyW => k_is); (case kCW => k_is); (case nAW => k_is); (case tIW => k_is); (case hgW => k_is); (case hkW => k_is); (case hdW => k_is); (case xF => k_is); (case sa_F => k_is); (case exCF => k_is); (case tyF => k_is); (case kCF => k_is); (case nAF => k_is); (case tIF => k_is); (case hgF => k_is); (case hkF => k_is); (case hdF => k_is); (case sSS => first | k_is | rfl); (case sBS => first | k_is | rfl); (case sBB => first | k_is | rfl); (case sWS => first | k_is | rfl); (case sWB => first | k_is | rfl); (case sWW => first | k_is | rfl); (case sFS => first | k_is | rfl); (case sFB => first | k_is | rfl); (case sFW => first | k_is | rfl); (case sFF => first | k_is | rfl); (case haW => k_is); (case hmW => k_is); (case hn => k_is); (case ht => k_is); (case iCD => k_is); (case tCD => k_is); (case sWD => k_is); (case iCT => k_is); (case tCT => k_is); (case sWT => k_is); (case v_MOST_LETTERS => k_is); (case v_MOST_KINDS => k_is); (case v_MOST_TYPES => k_is); (case v_MOST_UNITS => k_is); (case v_MOST_REQUESTS => k_is); (case z_int => k_is); (case z_len => k_is); (case z_abs => k_is); (case z_isinstance => k_is); (case z_bool => k_is); (case z_str => k_is); (case z_all => k_is); (case z_tuple => k_is); (case z_range => k_is); (case z_enumerate => k_is); (case z_sorted => k_is); (case z_max => k_is); (case z_sum => k_is); (case z_list => k_is); (case z_repr => k_is); (case dist => decide)
