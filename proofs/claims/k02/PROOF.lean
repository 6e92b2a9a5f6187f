import PyProof.Rows.All
import Wide.All
import OpenK.AllK
import Wide.FinOn
import HandS.ForMost
import HandS.Style
import HandS.Wide
import HandS.EndBits
import HandS.FStrTup
import Flt.Len
import KE.KxIndex
import HandS.ForExc
import HandS.IsInst
import HandS.ExcInit
import HandS.ExcField
import HandS.MakeKwOnly
import HandS.TupMul
import HandS.Zip
import HandS.TupAny
import HandS.More
import HandS.ExcIs
import KE.KExcIs
import KE.KIndexOf
import KE.GoesEnum
import HandS.Iter
import HandS.Strs
import HandS.SetFor
import HandS.Conv
import HandS.OwnEq
import PySem.Challenge.RW_neverregret_k02_whole_takers_both_ways
set_option Elab.async false
set_option linter.all false
set_option maxRecDepth 100000
/-! Defs whose promise holds where no repr is under way: so that repr of data is the text of the data. -/
namespace Gd
open PySem PySem.Spec PyProof.Rows L2
/-- room, and nothing is being shown -/
structure RmG (k : Nat) (A : Around) : Prop where
  rm : Room k A
  gd : A.guards = some []
theorem RmG.mono {j k : Nat} {A : Around} (r : RmG k A) (h : j ≤ k) : RmG j A := ⟨r.rm.mono h, r.gd⟩
structure FnG (P : Program) (w : World) (K : PySem.W.Frag) (mg : Str → Option Value) (base : Heap) (k : Nat) (f : Addr) (fd : FuncData) (ps : List Str) (sp : Sp) : Prop where
  len : ∀ xs H Q E, sp xs H Q E → xs.length = ps.length
  go : ∀ (A : Around) (out : List Env) (s : Shared) (H : Hp) (ar : Args) (us : List Value) (xs : List V) (Q : VK) (E : XK),
    RmG k A → Env0 P w K mg base A out s H → BindsTo s fd ar (ps.zip us) → Vals xs us → sp xs H Q E →
    codeAny (model P w) A (.call (.ref f) ar) (CR CX0 out P w H s Q E) s
section
variable {P : Program} {w : World} {K : PySem.W.Frag} {mg : Str → Option Value} {base : Heap}
theorem FnG.of {k : Nat} {f : Addr} {fd : FuncData} {ps : List Str} {sp : Sp} (F : FnOk P w K mg base CX0 k f fd ps sp) : FnG P w K mg base k f fd ps sp :=
  ⟨F.len, fun A out s H ar us xs Q E hr => F.run A out s H ar us xs Q E hr.rm⟩
theorem FnG.mono {j k : Nat} {f : Addr} {fd : FuncData} {ps : List Str} {sp : Sp} (F : FnG P w K mg base j f fd ps sp) (h : j ≤ k) : FnG P w K mg base k f fd ps sp :=
  ⟨F.len, fun A out s H ar us xs Q E hr => F.go A out s H ar us xs Q E (hr.mono h)⟩
/-- a def of the text, by its body -/
theorem okG {x qual : Str} {st : Stmt} {f : Addr} {fd : FuncData} {N ps : List Str} {k : Nat} {sp : Sp} (F : Fun K x qual st f fd) (S : FnScope N ps (defScope st))
    (len : ∀ xs H Q E, sp xs H Q E → xs.length = ps.length)
    (body : ∀ (cdv : Value) (A : Around) (out : List Env) (s : Shared) (H : Hp) (xs : List V) (Q : VK) (E : XK),
      RmG k (A.deeper (envOfC qual (defScope st) s.heap.objs.size f cdv)) → sp xs H Q E →
      ∃ t, PSs (cxOf CX0 P w K mg base N qual (defScope st) f cdv A out s H E).nox (defBody st) t ∧ t { nx := fun _ G => Q .non G, rt := Q } (start N xs) H) :
    FnG P w K mg base (k + 1) f fd ps sp := by
  obtain ⟨oc, od, kV, doc, pm, an, cv, ct, osl, rfl, lk, hc⟩ := F.ex
  refine ⟨len, fun A out s H ar us xs Q E hr e0 hb rv hsp => ?_⟩
  have hl := len _ _ _ _ hsp
  have up : ∀ b o, base.get? b = some o → s.heap.get? b = some o := fun b o e => (e0.bs b o e).1
  have KX := e0.mod.kin.keeps up
  have lim := e0.mod.nolimit.keeps up
  refine codeAny_call_function hr.rm.depth (KX _ _ lk) rfl S.co S.gen rfl (PySem.W.codeRec_of KX hc) (hb _ _ _ _ ?_)
  refine wpAny_newFunctionEnv_cells S.kind (fun y hy => ?_) fun env he s1 I1 => ?_
  · rcases S.par y.1 (List.of_mem_zip hy).1 with q | q
    · exact .inl q
    · exact .inr ⟨q, PySem.W.cellsFrom_some _ _ _ (.inl q)⟩
  subst he
  refine ⟨lim.keeps I1.toInCall.keep, codeAny_func ?_⟩
  obtain ⟨t, ht, hq⟩ := body cv A out s H xs Q E ⟨hr.rm.deeper _, hr.gd⟩ hsp
  refine wpAny_mono (ht.nox.run [] s1 (start N xs) H _ (inv_start S hr.rm.hd e0 hl rv I1) hq) (fun fl s' hs => ?_) fun _ _ z => z
  cases fl with
  | ret u => obtain ⟨v, σ', G, J, r1, q⟩ := hs; exact ⟨v, G, J.os, J.bare, J.base, J.hok, r1, q⟩
  | next => obtain ⟨σ', G, J, q⟩ := hs; exact ⟨.non, G, J.os, J.bare, J.base, J.hok, rfl, q⟩
  | brk => exact (hs.choose_spec.choose_spec.2).elim
  | cont => exact (hs.choose_spec.choose_spec.2).elim
end
section
variable {X : Cx} {k : Nat} {f : Addr} {fd : FuncData} {ps ks : List Str} {sp : Sp} {dvs : List V} {ds : List Value} {E : XK} {x : Str} {p pos : Pos} {e : Expr} {es : List Expr} {kws : List Keyword} {t tk : TA}
theorem run_G {pins : List (Addr × Obj)} {σ : L2.St} {H : Hp} {s : Shared} {Q : VK} {ar : Args} {us : List Value} {xs : List V} (F : FnG X.prog X.w X.K X.mg X.base k f fd ps sp) (hr : RmG k X.A)
    (I : Inv X pins σ H s) (b : BindsTo s fd ar (ps.zip us)) (rv : Vals xs us) (h : sp xs H Q E) : codeAny (model X.prog X.w) X.A (.call (.ref f) ar) (fun r s' => ∃ u, r = .ok (.ret u) ∧ EP X pins σ Q u s') s := by
  refine codeAny_mono (F.go X.A X.stack s H ar us xs Q E hr I.env0 b rv h) fun r s' hq => ?_
  rcases r with e | fl
  · exact hq.elim
  · cases fl with
    | ret u => exact ⟨u, rfl, I.after hq⟩
    | next => exact hq.elim
    | brk => exact hq.elim
    | cont => exact hq.elim
theorem call_G {pins : List (Addr × Obj)} {σ : L2.St} {H : Hp} {s : Shared} {Q : VK} {us : List Value} {xs : List V} (F : FnG X.prog X.w X.K X.mg X.base k f fd ps sp) (hr : RmG k X.A) (hb : Binds X.K fd ps ds) (hd : Vals dvs ds)
    (I : Inv X pins σ H s) (rv : Vals xs us) (h : sp (xs ++ dvs) H Q E) : wpAny (model X.prog X.w) X.A (call (.ref f) us) (EP X pins σ Q) X.xe s := by
  have r2 : Vals (xs ++ dvs) (us ++ ds) := rv.append hd
  have hl : (us ++ ds).length = ps.length := r2.length.symm.trans (F.len _ _ _ _ h)
  refine wpAny_call (codeAny_mono (run_G F hr I (hb s us I.kIn hl) r2 h) fun r s' hq => ?_)
  obtain ⟨u, rfl, z⟩ := hq
  exact z
/-- f(e, ..) -/
theorem pe_callG (F : FnG X.prog X.w X.K X.mg X.base k f fd ps sp) (hr : RmG k X.A) (hg : Gl X x) (hm : X.mg x = some (.ref f)) (hk : PySem.W.keepIn X.K (.ref f) = true) (hb : Binds X.K fd ps ds) (hd : Vals dvs ds)
    (ha : PA X (e :: es) t) (h1 : (x == ("__debug__" : Str)) = false := by decide)
    (h2 : starEach (e :: es) X.env = (false, eval e X.env) :: starEach es X.env := by rfl) (h3 : (backTo pos (starEach es X.env)).any (·.1) = false := by rfl) :
    PE X (.Call (.Name x p) (e :: es) [] pos) (tCall sp dvs E t) :=
  ⟨fun pins s σ H Q I h => wpAny_Call_Name_kw (ld_glob I hg hm (PySem.W.callWith_K (h₀ := X.base) I.ok.mod.kin hk
    (thn (ha.run pos pins s σ H _ I h) fun us s1 ⟨vs, H1, I1, r, q⟩ => ⟨I1.kIn, call_G F hr hb hd I1 r q⟩) h2 h3) h1)⟩
/-- repr of data -/
theorem call_repr (hg : X.A.guards = some []) (hu : X.A.units + 64 < cLine) : CallR X (.builtin "repr") (fun xs H Q => ∃ a d, xs = [.ref a] ∧ Dp X.K H (.ref a) d ∧ d.showable = true ∧ d.hasDict = false ∧ d.depth ≤ 60 ∧ d.shown.length ≤ sizeLine ∧ Q (.str d.shown) H) := by
  intro pins s σ H xs us Q I r h
  obtain ⟨a, d, rfl, hp, hs, hn, hd, hz, q⟩ := h
  obtain ⟨u, rfl, ru⟩ := vals1 r
  obtain rfl : u = .ref a := ru
  obtain ⟨as, rd⟩ := Dp.reads I d _ _ hp rfl
  exact repr_of_reads' rd hs (PyData.noDict_hsm hn) hg (by omega) (fun _ _ z => z) (fun h' u tk hk => ⟨.str d.shown, H, I.kept hk, ⟨_, rfl⟩, q⟩) hz
/-- repr of an int -/
theorem call_reprI : CallR X (.builtin "repr") (fun xs H Q => ∃ i, xs = [.int i] ∧ i.natAbs.log2 < 1920 ∧ Q (.str (toString i)) H) := by
  intro pins s σ H xs us Q I r h
  obtain ⟨i, rfl, hz, q⟩ := h
  obtain ⟨u, rfl, tk, rfl⟩ := vals1 r
  exact PySem.P.repr_of_int hz ⟨.str _, H, I.tok _, ⟨_, rfl⟩, q⟩
end
end Gd
/-! The end of a law row, from a promise that holds where no repr is under way. -/
namespace Gd
open PySem PySem.Spec PyProof.Rows L2
section
variable {P : Program} {w : World} {K : PySem.W.Frag} {mg mb : Str → Option Value} {k : Nat} {fa a : Addr} {fd : FuncData} {x : Str} {sp : Sp} {s : Shared} {vs : List Value} {ns : List Int}
/-- the heap H tracks nothing but the script -/
structure Bare (K : PySem.W.Frag) (a : Addr) (H : Hp) : Prop where
  one : ∀ b, H b ≠ none → b = a
  out : H a ≠ none → K.lookup a = none
theorem hid_map {H : Hp} (ha : s.heap.get? a = some { cls := .type "list", data := .seq vs.toArray }) (B : Bare K a H) {b : Addr} {m : Str → Option Value} (h : s.heap.Ns b m) : (hidT s.heap H).Ns b m := by
  obtain ⟨o, es, ep, e, d, r⟩ := h
  refine ⟨o, es, ep, hidT_get e ?_, d, r⟩
  cases q : H b with
  | none => rfl
  | some u =>
    have z := B.one b (by simp [q])
    subst z
    have z2 := Option.some.inj (ha.symm.trans e)
    subst z2
    exact absurd d (by intro z; cases z)
theorem hid_in {H : Hp} (KX : K.In s.heap) (B : Bare K a H) : K.In (hidT s.heap H) := fun b o e => hidT_get (KX b o e) (by
  cases q : H b with
  | none => rfl
  | some u =>
    have z := B.one b (by simp [q])
    subst z
    have z2 := B.out (by simp [q])
    rw [z2] at e
    cases e)
theorem end_core (KX : K.In s.heap) (hns : s.heap.Ns mainGlobals mg) (hb : s.heap.Ns builtinsNs mb) (hbb : ∀ y : Str, y ≠ "__name__" → mb y = bootBuiltins y) (hlim : s.heap.NoLimit) (hg : s.gens = #[])
    (ha : s.heap.get? a = some { cls := .type "list", data := .seq vs.toArray }) (hr : Room k callerA)
    (F : ∀ base : Heap, K.In base → base.Ns mainGlobals mg → FnG P w K mg base k fa fd [x] sp) (hbind : ∀ (t : Shared) (u : Value), BindsTo t fd ⟨[u], []⟩ [(x, u)])
    {H : Hp} (hO : Only H) (hok : HOk P w H s.heap) (B : Bare K a H) (h : sp [.ref a] H (fun v _ => v = .bl true) fun _ _ _ => False) :
    codeAny (model P w) callerA (.call (.ref fa) ⟨[.ref a], []⟩) (fun r s' => r = .ok (.ret (.bool true)) ∧ OldK s.heap s'.heap ∧ s'.os = s.os ∧ AllBare s'.gens) s := by
  have KB := hid_in KX B
  have NB := hid_map ha B hns
  have MB : Mod K mg (hidT s.heap H) := ⟨KB, NB, ⟨mb, hid_map ha B hb, hbb⟩, hlim.elim fun mc z => ⟨mc, hid_map ha B z.1, z.2⟩⟩
  have e0 : Env0 P w K mg (hidT s.heap H) callerA [] s H :=
    ⟨rfl, MB, fun b o e => of_hidT e, Nat.le_of_eq (hidT_size _ _), trivial, fun b z => (nomatch (show b ∈ ([] : List Addr) from z)), hok, .of_eq hg⟩
  refine codeAny_mono ((F _ KB NB).go callerA [] s H ⟨[.ref a], []⟩ [.ref a] [.ref a] _ _ ⟨hr, rfl⟩ e0 (hbind s (.ref a)) (.cons rfl .nil) h) fun r s' z => ?_
  rcases r with e | fl
  · exact z.elim
  · cases fl with
    | next => exact z.elim
    | brk => exact z.elim
    | cont => exact z.elim
    | ret u =>
      obtain ⟨v, G, os, bare, un, okG, ru, rfl⟩ := z
      obtain rfl : u = Value.bool true := ru
      refine ⟨rfl, OldK.of_keep fun b o e => ?_, os, bare⟩
      cases q : H b with
      | none => exact un.keep b o e q (fun z => nomatch (show b ∈ ([] : List Addr) from z)) (fun z => nomatch z)
      | some u =>
        rcases hO b with z | ⟨ob, xs, z⟩
        · exact nomatch q.symm.trans z
        · have e1 := (hok b _ z).1
          have e2 := (okG b _ (un.frzs b ob _ z)).1
          exact e2.trans (e1.symm.trans e)
theorem end_call (KX : K.In s.heap) (hns : s.heap.Ns mainGlobals mg) (hb : s.heap.Ns builtinsNs mb) (hbb : ∀ y : Str, y ≠ "__name__" → mb y = bootBuiltins y) (hlim : s.heap.NoLimit) (hg : s.gens = #[])
    (ha : s.heap.get? a = some { cls := .type "list", data := .seq vs.toArray }) (hi : IntsAre vs ns) (hl : ns.length ≤ sizeLine) (hr : Room k callerA)
    (F : ∀ base : Heap, K.In base → base.Ns mainGlobals mg → FnG P w K mg base k fa fd [x] sp) (hbind : ∀ (t : Shared) (u : Value), BindsTo t fd ⟨[u], []⟩ [(x, u)])
    (hsp : ∀ H : Hp, Only H → SqL K H a (ns.map V.int) → sp [.ref a] H (fun v _ => v = .bl true) fun _ _ _ => False) :
    codeAny (model P w) callerA (.call (.ref fa) ⟨[.ref a], []⟩) (fun r s' => r = .ok (.ret (.bool true)) ∧ OldK s.heap s'.heap ∧ s'.os = s.os ∧ AllBare s'.gens) s := by
  have rv := vals_ints hi
  cases hk : K.lookup a with
  | some o =>
    have e := Option.some.inj (ha.symm.trans (KX a o hk))
    subst e
    have hO : Only fun _ => none := fun _ => .inl rfl
    exact end_core KX hns hb hbb hlim hg ha hr F hbind hO (fun b u z => nomatch (show (none : Option HO) = some u from z)) ⟨fun b z => absurd rfl z, fun z => absurd rfl z⟩
      (hsp _ hO (.inr ⟨_, vs.toArray, _, hk, rfl, rfl, rfl, by rw [List.size_toArray, hi.length]; exact hl, by simpa using rv⟩))
  | none =>
    let H : Hp := fun b => if b = a then some (.frz { cls := .type "list", data := .seq vs.toArray } (.lst (ns.map V.int))) else none
    have at_a : H a = some (.frz { cls := .type "list", data := .seq vs.toArray } (.lst (ns.map V.int))) := if_pos rfl
    have off : ∀ {b}, b ≠ a → H b = none := fun h => if_neg h
    have hO : Only H := fun b => by
      by_cases z : b = a
      · exact .inr ⟨_, _, if_pos z⟩
      · exact .inl (off z)
    refine end_core KX hns hb hbb hlim hg ha hr F hbind hO (fun b u z => ?_) ⟨fun b z => ?_, fun _ => hk⟩ (hsp H hO (.inl (.inr ⟨_, at_a⟩)))
    · by_cases y : b = a
      · subst y
        have z2 := Option.some.inj (at_a.symm.trans z)
        subst z2
        exact ⟨ha, by rw [List.length_map]; exact hl, vs, _, rv, ha⟩
      · exact nomatch (off y).symm.trans z
    · by_cases y : b = a
      · exact y
      · exact absurd (off y) z
end
theorem walk_G {l : PySem.W.OpenLaw} {n k : Nat} {q : Program} {loose : List Str} {XP : (Str → Option Value) → Heap → Prop} {YP : World → Heap → Prop} {d : DefRec} {K : Params → PySem.W.Frag} {sp : World → Sp} {x : Str}
    (hn : l.most = some n) (hn2 : n ≤ sizeLine) (hdf : d.params.defaults = []) (hr : Room k callerA) (hY : ∀ (w : World) (h : Heap), YP w h → (K w.params).In h)
    (F : ∀ (w : World) (mg : Str → Option Value) (fa : Addr) (h : Heap), (K w.params).In h → h.Ns mainGlobals mg → mg d.name = some (.ref fa) →
      ∃ fd : FuncData, (∀ (t : Shared) (u : Value), BindsTo t fd ⟨[u], []⟩ [(x, u)]) ∧ ∀ base : Heap, (K w.params).In base → base.Ns mainGlobals mg → FnG l.prog w (K w.params) mg base k fa fd [x] (sp w))
    (hsp : ∀ (w : World) (H : Hp) (a : Addr) (ns : List Int), ns.length ≤ n → (∀ z ∈ ns, Builtin.Int.intBits z ≤ 1048576) → Only H → SqL (K w.params) H a (ns.map V.int) → sp w [.ref a] H (fun v _ => v = .bl true) fun _ _ _ => False) :
    PySem.W.WalkO q loose XP YP l.row.toRowW d [] (fun f vs => PySem.call f vs) := by
  refine Att.attach_callB hn hdf fun w s₀ s mg mb fa o pm cd doc a vs ns G Y ho hd hcd hm hobj hi hl hbits hg => ?_
  obtain ⟨fd, hb, hF⟩ := F w mg fa _ (hY w _ Y) G.T.g hm
  exact end_call (hY w _ Y) G.T.g G.T.b G.T.builtins G.T.nolimit hg hobj hi (Nat.le_trans hl hn2) hr hF hb fun H hO hS => hsp w H a ns hl hbits hO hS
end Gd
/-! Data: what stays of it, and what its repr costs. -/
namespace Gd
open PySem PySem.Spec PyProof.Rows L2
mutual
theorem dp_same {K : PySem.W.Frag} {H G : Hp} (e : Same H G) : ∀ (d : PyData) (v : V), Dp K H v d → Dp K G v d
  | .none, _, h => by cases h; exact .non
  | .bool b, _, h => by cases h; exact .bl b
  | .int i, _, h => by cases h; exact .int i
  | .str x, _, h => by cases h; exact .str x
  | .list ds, _, h => by
    cases h with
    | lst hs ha => exact .lst (e.seq hs) (dpAll_same e ds _ ha)
  | .tuple ds, _, h => by
    cases h with
    | tup hs ha =>
      refine .tup ?_ (dpAll_same e ds _ ha)
      rcases hs with (z | ⟨o, z⟩) | z
      · exact .inl (.inl (e _ _ z))
      · exact .inl (.inr ⟨o, e _ _ z⟩)
      · exact .inr z
  | .dict _, _, h => by cases h
theorem dpAll_same {K : PySem.W.Frag} {H G : Hp} (e : Same H G) : ∀ (ds : List PyData) (vs : List V), DpAll K H vs ds → DpAll K G vs ds
  | [], _, h => by cases h; exact .nil
  | d :: ds, _, h => by
    cases h with
    | cons h1 h2 => exact .cons (dp_same e d _ h1) (dpAll_same e ds _ h2)
end
theorem same_seqT {K : PySem.W.Frag} {H H' : Hp} {a : Addr} {xs : List V} (e : Same H H') (h : SqT K H a xs) : SqT K H' a xs := by
  rcases h with (z | ⟨o, z⟩) | z
  · exact .inl (.inl (e _ _ z))
  · exact .inl (.inr ⟨o, e _ _ z⟩)
  · exact .inr z
theorem same_new {H : Hp} {p : Addr} {o : HO} (h : H p = none) : Same H (upd H p o) := fun b x e => (upd_ne (ne_of_none e h)).trans e
theorem sqT {K : PySem.W.Frag} {H : Hp} {a : Addr} {xs : List V} (h : H a = some (.tup xs)) : SqT K H a xs := .inl (.inl h)
theorem sqL {K : PySem.W.Frag} {H : Hp} {a : Addr} {xs : List V} (h : H a = some (.lst xs)) : SqL K H a xs := .inl (.inl h)
theorem dpAll_snoc {K : PySem.W.Frag} {H : Hp} {v : V} {d : PyData} : ∀ {vs : List V} {ds : List PyData}, DpAll K H vs ds → Dp K H v d → DpAll K H (vs ++ [v]) (ds ++ [d])
  | _, _, .nil, h => .cons h .nil
  | _, _, .cons a r, h => .cons a (dpAll_snoc r h)
theorem dpAll_len {K : PySem.W.Frag} {H : Hp} : ∀ {vs : List V} {ds : List PyData}, DpAll K H vs ds → vs.length = ds.length
  | _, _, .nil => rfl
  | _, _, .cons _ r => by rw [List.length_cons, List.length_cons, dpAll_len r]
theorem dpAll_get {K : PySem.W.Frag} {H : Hp} : ∀ {vs : List V} {ds : List PyData} {i : Nat} {d : PyData}, DpAll K H vs ds → ds[i]? = some d → ∃ v, vs[i]? = some v ∧ Dp K H v d
  | _, _, _, _, .nil, e => by simp at e
  | _, _, 0, _, .cons a _, e => by simp at e; subst e; exact ⟨_, rfl, a⟩
  | _, _, i + 1, d, .cons _ r, e => by
    obtain ⟨v, h1, h2⟩ := dpAll_get (i := i) (d := d) r (by simpa using e)
    exact ⟨v, by simpa using h1, h2⟩
theorem dpAll_ints {K : PySem.W.Frag} {H : Hp} : ∀ ns : List Int, DpAll K H (ns.map V.int) (ns.map .int)
  | [] => .nil
  | n :: ns => .cons (.int n) (dpAll_ints ns)
theorem dpAll_strs {K : PySem.W.Frag} {H : Hp} : ∀ ns : List Str, DpAll K H (ns.map V.str) (ns.map .str)
  | [] => .nil
  | n :: ns => .cons (.str n) (dpAll_strs ns)
/-! what repr and == ask of data -/
mutual
/-- plain data: no dicts, signs below 1000, ints below 10 ^ 9 in size -/
def fine : PyData → Bool
  | .none | .bool _ => true
  | .int i => decide (i.natAbs < 10 ^ 9)
  | .str x => x.cps.toList.all (· < 1000)
  | .list xs | .tuple xs => fineAll xs
  | .dict _ => false
def fineAll : List PyData → Bool
  | [] => true
  | x :: xs => fine x && fineAll xs
end
mutual
def costD : PyData → Nat
  | .none => 4
  | .bool _ => 5
  | .int _ => 10
  | .str x => 10 * x.length + 2
  | .list xs | .tuple xs => costAll xs + 2
  | .dict _ => 0
def costAll : List PyData → Nat
  | [] => 0
  | x :: xs => costD x + 2 + costAll xs
end
theorem fine_str {x : Str} : fine (.str x) = true ↔ ∀ c ∈ x.cps.toList, c < 1000 := by
  rw [fine, List.all_eq_true]
  exact ⟨fun h c hc => of_decide_eq_true (h c hc), fun h c hc => decide_eq_true (h c hc)⟩
mutual
theorem fine_lay : ∀ d : PyData, fine d = true → d.canLay0 = true
  | .none, _ => rfl
  | .bool _, _ => rfl
  | .int _, _ => rfl
  | .str x, h => by
    have h' := fine_str.mp h
    show x.cps.all _ = true
    rw [Array.all_eq_true']
    intro c hc
    have := h' c (by simpa using hc)
    exact decide_eq_true (by omega)
  | .list xs, h => by rw [PyData.canLay0]; exact fineAll_lay xs (by simpa [fine] using h)
  | .tuple xs, h => by rw [PyData.canLay0]; exact fineAll_lay xs (by simpa [fine] using h)
  | .dict _, h => by simp [fine] at h
theorem fineAll_lay : ∀ ds : List PyData, fineAll ds = true → PyData.canLayAll0 ds = true
  | [], _ => rfl
  | x :: xs, h => by
    have h' : fine x = true ∧ fineAll xs = true := by simpa [fineAll] using h
    rw [PyData.canLayAll0, fine_lay x h'.1, fineAll_lay xs h'.2]; rfl
end
mutual
theorem fine_show : ∀ d : PyData, fine d = true → d.showable = true
  | .none, _ => by simp [PyData.showable]
  | .bool _, _ => by simp [PyData.showable]
  | .int i, h => by
    have h' : i.natAbs < 10 ^ 9 := by simpa [fine] using h
    have : i.natAbs.log2 < 1920 := Flt.log2_lt_of (by decide) (Nat.lt_of_lt_of_le h' (by decide))
    simpa [PyData.showable] using this
  | .str x, h => by simp [PyData.showable]
  | .list xs, h => by rw [PyData.showable]; exact fineAll_show xs (by simpa [fine] using h)
  | .tuple xs, h => by rw [PyData.showable]; exact fineAll_show xs (by simpa [fine] using h)
  | .dict _, h => by simp [fine] at h
theorem fineAll_show : ∀ ds : List PyData, fineAll ds = true → PyData.showableAll ds = true
  | [], _ => by simp [PyData.showableAll]
  | x :: xs, h => by
    have h' : fine x = true ∧ fineAll xs = true := by simpa [fineAll] using h
    rw [PyData.showableAll, fine_show x h'.1, fineAll_show xs h'.2]; rfl
end
theorem list_text (ts : List Str) : (listText ts).length ≤ piled ts + 2 := by
  rw [listText_eq_join]
  have e1 : (("[" : Str)).length = 1 := rfl
  have e2 : (("]" : Str)).length = 1 := rfl
  rw [strLen_append, strLen_append, e1, e2]
  by_cases h : ts = []
  · subst h; decide +kernel
  · have := join_length_add ts h
    omega
mutual
theorem shown_cost : ∀ d : PyData, fine d = true → d.shown.length ≤ costD d
  | .none, _ => by rw [PyData.shown]; decide +kernel
  | .bool b, _ => by rw [PyData.shown]; cases b <;> decide +kernel
  | .int i, h => by
    have h' : i.natAbs < 10 ^ 9 := by simpa [fine] using h
    rw [PyData.shown, PySem.ofString_length]
    exact int_text_length_le10 (k := 9) (by decide) h'
  | .str x, h => by
    have h' := fine_str.mp h
    rw [PyData.shown, costD]
    exact StrLaws.reprText_len x fun c hc => Nat.lt_trans (h' c hc) (by decide)
  | .list xs, h => by
    rw [PyData.shown, costD]
    have := shownAll_cost xs (by simpa [fine] using h)
    have := list_text (PyData.shownAll xs)
    omega
  | .tuple xs, h => by
    rw [PyData.shown, costD]
    have := shownAll_cost xs (by simpa [fine] using h)
    have := PySem.fmt_text (PyData.shownAll xs)
    omega
  | .dict _, h => by simp [fine] at h
theorem shownAll_cost : ∀ ds : List PyData, fineAll ds = true → piled (PyData.shownAll ds) ≤ costAll ds
  | [], _ => by rw [PyData.shownAll, costAll, piled_nil]; exact Nat.le_refl 0
  | x :: xs, h => by
    have h' : fine x = true ∧ fineAll xs = true := by simpa [fineAll] using h
    have h1 := shown_cost x h'.1
    have h2 := shownAll_cost xs h'.2
    rw [PyData.shownAll, costAll, piled_cons]
    omega
end
theorem fine_shaped {d : PyData} (h : fine d = true) (hd : d.depth ≤ 60) : SeqAt.shaped d = true := by
  unfold SeqAt.shaped
  rw [fine_lay d h]
  exact decide_eq_true (by omega)
theorem fine_eqv {d : PyData} (h : fine d = true) : PyData.eqv d d = true := SeqAt.eqv_refl d (fine_lay d h)
theorem fineAll_mem : ∀ {ds : List PyData}, (∀ d ∈ ds, fine d = true) → fineAll ds = true
  | [], _ => by simp [fineAll]
  | x :: xs, h => by simp [fineAll, h x List.mem_cons_self, fineAll_mem fun d hd => h d (List.mem_cons_of_mem _ hd)]
theorem depthAll_mem {n : Nat} : ∀ {ds : List PyData}, (∀ d ∈ ds, d.depth ≤ n) → PyData.depthAll ds ≤ n
  | [], _ => by simp [PyData.depthAll]
  | x :: xs, h => by
    have h1 := h x List.mem_cons_self
    have h2 := depthAll_mem (n := n) (ds := xs) fun d hd => h d (List.mem_cons_of_mem _ hd)
    simp only [PyData.depthAll]
    omega
/-- repr(x), x plain data at an address: its text; what is asked is told by fine and costD -/
theorem call_reprF {X : Cx} (hg : X.A.guards = some []) (hu : X.A.units + 64 < cLine) : CallR X (.builtin "repr") (fun xs H Q => ∃ a d, xs = [.ref a] ∧ Dp X.K H (.ref a) d ∧ fine d = true ∧ d.depth ≤ 60 ∧ costD d ≤ sizeLine ∧ Q (.str d.shown) H) := by
  intro pins s σ H xs us Q I r h
  obtain ⟨a, d, e, hp, hf, hd, hz, q⟩ := h
  exact call_repr hg hu pins s σ H xs us Q I r ⟨a, d, e, hp, fine_show d hf, PyData.hasDict_of_canLay d (fine_lay d hf), hd, Nat.le_trans (shown_cost d hf) hz, q⟩
end Gd
/-! Calls that give all by keywords. -/
namespace Gd
open PySem PySem.Spec PyProof.Rows L2
/-- how a call by keywords alone binds: g puts their values in the parameters' order -/
def KwB (fd : FuncData) (ps ks : List Str) (g : List Value → List Value) : Prop := ∀ (s : Shared) (ws : List Value), ws.length = ks.length → BindsTo s fd ⟨[], ks.zip ws⟩ (ps.zip (g ws))
theorem kwB_of {K : PySem.W.Frag} {x qual : Str} {st : Stmt} {f : Addr} {fd : FuncData} {ps ks : List Str} {g : List Value → List Value} (F : Fun K x qual st f fd)
    (h : ∀ (kV doc pm : Value) (an : Option Addr) (cv ct : Value) (ws : List Value), ws.length = ks.length → bindArgs (PySem.W.fnOf x qual (defArgs st) (defBody st) (defScope st) .none kV doc pm an cv ct) ⟨[], ks.zip ws⟩ = pure (ps.zip (g ws))) : KwB fd ps ks g := by
  obtain ⟨oc, od, kV, doc, pm, an, cv, ct, osl, rfl, lk, hc⟩ := F.ex
  exact fun s ws hl => .of_eq (h kV doc pm an cv ct ws hl)
def tKw (m : Nat) (sp : Sp) (gV : List V → List V) (E : XK) (tk : TA) : TE := fun σ H Q => tk σ H fun zs H2 => zs.length = m ∧ sp (gV zs) H2 Q E
section
variable {X : Cx} {k : Nat} {f : Addr} {fd : FuncData} {ps ks : List Str} {sp : Sp} {E : XK} {x : Str} {p pos : Pos} {kws : List Keyword} {tk : TA}
/-- f(k = v, ..) -/
theorem pe_kwG {g : List Value → List Value} {gV : List V → List V} (F : FnG X.prog X.w X.K X.mg X.base k f fd ps sp) (hr : RmG k X.A) (hg : Gl X x) (hm : X.mg x = some (.ref f)) (hk : PySem.W.keepIn X.K (.ref f) = true)
    (hb : KwB fd ps ks g) (hv : ∀ {zs : List V} {ws : List Value}, zs.length = ks.length → Vals zs ws → Vals (gV zs) (g ws)) (hkw : PK X kws tk)
    (h1 : (backToKw pos (keywordEach kws X.env)).all (·.1.isSome) = true := by rfl) (h2 : (backToKw pos (keywordEach kws X.env)).filterMap (·.1) = ks := by rfl) (h3 : (x == ("__debug__" : Str)) = false := by decide)
    (h4 : ((backTo pos (starEach [] X.env)).any (·.1) || (backToKw pos (keywordEach kws X.env)).any (·.1.isNone)) = false := by rfl) :
    PE X (.Call (.Name x p) [] kws pos) (tKw ks.length sp gV E tk) := by
  refine ⟨fun pins s σ H Q I h => wpAny_Call_Name_kw (ld_glob I hg hm (PySem.W.callWith_KW0 (h₀ := X.base) I.ok.mod.kin hk h1 ?_ h4) h3)⟩
  refine thn (hkw.run pos pins s σ H _ I h) fun ws s2 ⟨zs, H2, I2, rz, l, q⟩ => ⟨I2.kIn, ?_⟩
  rw [h2]
  have r2 := hv l rz
  refine wpAny_call (codeAny_mono (run_G F hr I2 (hb s2 ws (rz.length.symm.trans l)) r2 q) fun r s' hq => ?_)
  obtain ⟨u, rfl, z⟩ := hq
  exact z
end
end Gd
/-! What the laws' proofs share: the source of draws, what is kept, blocks. -/
namespace Gd
open PySem PySem.Spec PyProof.Rows L2
/-- the law's source of draws at h: its list at l, its number -/
structure Hv (H : Hp) (h l : Addr) (L : List Int) (st : Int) : Prop where
  top : H h = some (.lst [.ref l, .int st])
  bot : H l = some (.lst (L.map V.int))
  ne : l ≠ h
  lo : 0 ≤ st
  hi : st < 2147483647
  len : L.length ≤ 63
/-- all but the source stands as before -/
def But (h l : Addr) (H G : Hp) : Prop := ∀ b o, b ≠ h → b ≠ l → H b = some o → G b = some o
theorem Hv.new {H : Hp} {h l p : Addr} {L : List Int} {st : Int} {o : HO} (v : Hv H h l L st) (n : H p = none) : Hv (upd H p o) h l L st :=
  ⟨(upd_ne (ne_of_none v.top n)).trans v.top, (upd_ne (ne_of_none v.bot n)).trans v.bot, v.ne, v.lo, v.hi, v.len⟩
theorem Hv.same {H G : Hp} {h l : Addr} {L : List Int} {st : Int} (v : Hv H h l L st) (e : Same H G) : Hv G h l L st :=
  ⟨e _ _ v.top, e _ _ v.bot, v.ne, v.lo, v.hi, v.len⟩
theorem Hv.setL {H : Hp} {h l : Addr} {L M : List Int} {st : Int} (v : Hv H h l L st) (hl : M.length ≤ 63) : Hv (upd H l (.lst (M.map V.int))) h l M st :=
  ⟨(upd_ne v.ne.symm).trans v.top, upd_same, v.ne, v.lo, v.hi, hl⟩
theorem Hv.setN {H : Hp} {h l : Addr} {L : List Int} {st n : Int} (v : Hv H h l L st) (h0 : 0 ≤ n) (h1 : n < 2147483647) : Hv (upd H h (.lst [.ref l, .int n])) h l L n :=
  ⟨upd_same, (upd_ne v.ne).trans v.bot, v.ne, h0, h1, v.len⟩
theorem But.refl (h l : Addr) (H : Hp) : But h l H H := fun _ _ _ _ e => e
theorem But.trans {h l : Addr} {H G J : Hp} (a : But h l H G) (b : But h l G J) : But h l H J := fun c o h1 h2 e => b c o h1 h2 (a c o h1 h2 e)
theorem But.new {h l p : Addr} {H G : Hp} {o : HO} (a : But h l H G) (n : G p = none) : But h l H (upd G p o) := fun c x h1 h2 e =>
  (upd_ne (ne_of_none (a c x h1 h2 e) n)).trans (a c x h1 h2 e)
theorem But.same {h l : Addr} {H G J : Hp} (a : But h l H G) (e : Same G J) : But h l H J := fun c x h1 h2 z => e _ _ (a c x h1 h2 z)
theorem But.atL {h l : Addr} {H G : Hp} {o : HO} (a : But h l H G) : But h l H (upd G l o) := fun c x h1 h2 e => (upd_ne h2).trans (a c x h1 h2 e)
theorem But.atH {h l : Addr} {H G : Hp} {o : HO} (a : But h l H G) : But h l H (upd G h o) := fun c x h1 h2 e => (upd_ne h1).trans (a c x h1 h2 e)
theorem fresh_of {h l p : Addr} {H G : Hp} (a : But h l H G) {o : HO} (h1 : p ≠ h) (h2 : p ≠ l) (e : G p = none) : H p = none := by
  cases q : H p with
  | none => rfl
  | some o => exact nomatch (a p o h1 h2 q).symm.trans e
theorem eqv_nil (L : List Int) : PyData.eqv (.list (L.map .int)) (.list []) = decide (L = []) := by
  cases L with
  | nil => rfl
  | cons x r => simp [PyData.eqv, PyData.eqvAll]
theorem shaped_ints (L : List Int) : SeqAt.shaped (.list (L.map .int)) = true := PySem.W.ke_shaped_ints L
theorem dp_ints {K : PySem.W.Frag} {H : Hp} {l : Addr} {L : List Int} (h : H l = some (.lst (L.map V.int))) : Dp K H (.ref l) (.list (L.map .int)) := .lst (sqL h) (dpAll_ints L)
theorem last_map {L : List Int} (h : L ≠ []) : atI (L.map V.int) (-1) = some (.int (L.getLast h)) := by
  have e : L.map V.int = L.dropLast.map V.int ++ [.int (L.getLast h)] := by
    rw [← List.map_singleton, ← List.map_append, List.dropLast_concat_getLast]
  rw [e]
  exact atI_last _ _
theorem last_get {L : List Int} (h : L ≠ []) : (L.map V.int)[(L.map V.int).length - 1]? = some (.int (L.getLast h)) := by
  rw [List.length_map, List.getElem?_map, ← List.getLast?_eq_getElem?, List.getLast?_eq_getLast h]
  rfl
theorem drop_map (L : List Int) : (L.map V.int).dropLast = L.dropLast.map V.int := by rw [List.map_dropLast]
/-- all but lists stands as before -/
def KeepT (H G : Hp) : Prop := ∀ b o, H b = some o → (∀ xs, o ≠ .lst xs) → G b = some o
theorem KeepT.of {H G : Hp} (e : Same H G) : KeepT H G := fun b o h _ => e b o h
theorem KeepT.trans {H G J : Hp} (a : KeepT H G) (b : KeepT G J) : KeepT H J := fun c o h n => b c o (a c o h n) n
theorem KeepT.put {H : Hp} {p : Addr} {xs : List V} {o : HO} (h : H p = some (.lst xs)) : KeepT H (upd H p o) := fun b x e n => by
  have ne : b ≠ p := fun z => by
    subst z
    have z2 := Option.some.inj (h.symm.trans e)
    exact n _ z2.symm
  exact (upd_ne ne).trans e
theorem KeepT.but {h l : Addr} {H G : Hp} {L : List Int} {st : Int} (v : Hv H h l L st) (b : But h l H G) : KeepT H G := fun c o e n =>
  b c o (fun z => by subst z; exact n _ (Option.some.inj (v.top.symm.trans e)).symm) (fun z => by subst z; exact n _ (Option.some.inj (v.bot.symm.trans e)).symm) e
theorem KeepT.seqT {K : PySem.W.Frag} {H G : Hp} {a : Addr} {xs : List V} (e : KeepT H G) (h : SqT K H a xs) : SqT K G a xs := by
  rcases h with (z | ⟨o, z⟩) | z
  · exact .inl (.inl (e _ _ z (by intro _ q; cases q)))
  · exact .inl (.inr ⟨o, e _ _ z (by intro _ q; cases q)⟩)
  · exact .inr z
mutual
def noList : PyData → Bool
  | .none | .bool _ | .int _ | .str _ => true
  | .tuple xs => noListAll xs
  | .list _ | .dict _ => false
def noListAll : List PyData → Bool
  | [] => true
  | x :: xs => noList x && noListAll xs
end
mutual
theorem dp_keep {K : PySem.W.Frag} {H G : Hp} (e : KeepT H G) : ∀ (d : PyData) (v : V), noList d = true → Dp K H v d → Dp K G v d
  | .none, _, _, h => by cases h; exact .non
  | .bool b, _, _, h => by cases h; exact .bl b
  | .int i, _, _, h => by cases h; exact .int i
  | .str x, _, _, h => by cases h; exact .str x
  | .list ds, _, n, _ => by simp [noList] at n
  | .tuple ds, _, n, h => by
    cases h with
    | tup hs ha => exact .tup (e.seqT hs) (dpAll_keep e ds _ (by simpa [noList] using n) ha)
  | .dict _, _, _, h => by cases h
theorem dpAll_keep {K : PySem.W.Frag} {H G : Hp} (e : KeepT H G) : ∀ (ds : List PyData) (vs : List V), noListAll ds = true → DpAll K H vs ds → DpAll K G vs ds
  | [], _, _, h => by cases h; exact .nil
  | d :: ds, _, n, h => by
    have n' : noList d = true ∧ noListAll ds = true := by simpa [noListAll] using n
    cases h with
    | cons h1 h2 => exact .cons (dp_keep e d _ n'.1 h1) (dpAll_keep e ds _ n'.2 h2)
end
theorem noListAll_mem : ∀ {ds : List PyData}, (∀ d ∈ ds, noList d = true) → noListAll ds = true
  | [], _ => rfl
  | x :: xs, h => by rw [noListAll, h x List.mem_cons_self, noListAll_mem fun d hd => h d (List.mem_cons_of_mem _ hd)]; rfl
theorem lt_one (a b : Nat) : decide (([a] : List Nat) < [b]) = decide (a < b) := by
  by_cases h : a < b
  · rw [decide_eq_true h]
    exact decide_eq_true (List.Lex.rel h)
  · rw [decide_eq_false h]
    refine decide_eq_false fun z => ?_
    cases z with
    | rel z => exact h z
    | cons z => cases z
theorem if_out {c : TT} {t u : TS} {D : Ends} {σ : L2.St} {G : Hp} (R : Bool) (h1 : ∀ B : Bool → Hp → Prop, (∀ G', Same G G' → B R G') → c σ G B) (h2 : ∀ G', Same G G' → if R = true then t D σ G' else u D σ G') : tIfS c t u D σ G := h1 _ h2
theorem seq_out {t u : TS} {D : Ends} {σ : L2.St} {G : Hp} (R : L2.St → Hp → Prop) (h1 : ∀ N : L2.St → Hp → Prop, (∀ σ' G', R σ' G' → N σ' G') → t { D with nx := N } σ G) (h2 : ∀ σ' G', R σ' G' → u D σ' G') : tSeq t u D σ G := h1 (u D) h2
theorem But.seqL {K : PySem.W.Frag} {h l p : Addr} {H G : Hp} {xs : List V} (b : But h l H G) (h1 : p ≠ h) (h2 : p ≠ l) (e : SqL K H p xs) : SqL K G p xs := by
  rcases e with (z | ⟨o, z⟩) | z
  · exact .inl (.inl (b _ _ h1 h2 z))
  · exact .inl (.inr ⟨o, b _ _ h1 h2 z⟩)
  · exact .inr z
theorem for_str {x : Str} {g : TG} {tb : TS} {D : Ends} {σ : L2.St} {H : Hp} (Pv : Nat → L2.St → Hp → Prop) (h0 : Pv 0 σ H)
    (hs : ∀ i c σ H, x.cps.toList[i]? = some c → Pv i σ H → g (.str ⟨#[c]⟩) σ H fun σ2 H2 => tb { D with nx := Pv (i + 1), ct := Pv (i + 1), bk := D.nx } σ2 H2) (hd : ∀ σ H, Pv x.cps.toList.length σ H → D.nx σ H) :
    ∃ W : Nat → Nat → L2.St → Hp → Prop, (∃ m, W 0 m σ H) ∧ ∀ i m σ H, W i m σ H →
      ((Its x).stop i H ∧ D.nx σ H) ∨ ((Its x).go i H ∧ ∃ N : L2.St → Hp → Prop, (∀ σ' H', N σ' H' → ∃ m', m' < m ∧ W (i + 1) m' σ' H') ∧ ∀ v H', (Its x).yld i H v H' → g v σ H' fun σ2 H2 => tb { D with nx := N, ct := N, bk := D.nx } σ2 H2) := by
  refine ⟨fun i m σ H => m = x.cps.toList.length - i ∧ i ≤ x.cps.toList.length ∧ Pv i σ H, ⟨_, rfl, Nat.zero_le _, h0⟩, fun i m σ H hw => ?_⟩
  obtain ⟨rfl, hi, hp⟩ := hw
  by_cases hlt : i < x.cps.toList.length
  · refine .inr ⟨by show i < x.cps.size; simpa using hlt, Pv (i + 1), fun σ' H' hp' => ⟨_, by omega, rfl, hlt, hp'⟩, fun v H' hy => ?_⟩
    obtain ⟨rfl, c, hc, rfl⟩ := hy
    exact hs i c σ _ (by simpa using hc) hp
  · have e : i = x.cps.toList.length := by omega
    subst e
    exact .inl ⟨by show x.cps.size ≤ _; simp, hd σ H hp⟩
section
variable {X : Cx}
end
theorem dpAll_last {K : PySem.W.Frag} {H : Hp} : ∀ {ds : List PyData} {d : PyData} {vs : List V}, DpAll K H vs (ds ++ [d]) → ∃ us v, vs = us ++ [v] ∧ DpAll K H us ds ∧ Dp K H v d
  | [], d, vs, h => by
    cases h with
    | cons a r => cases r; exact ⟨[], _, rfl, .nil, a⟩
  | x :: r, d, vs, h => by
    cases h with
    | cons a t =>
      obtain ⟨us, v, e, h1, h2⟩ := dpAll_last t
      exact ⟨_ :: us, v, by rw [e]; rfl, .cons a h1, h2⟩
theorem ix_last {α : Type} (us : List α) (v : α) : ixN (us ++ [v]).length (-1) = some us.length := by
  unfold ixN
  rw [List.length_append, if_neg (by decide), if_pos (by show -((us.length + 1 : Nat) : Int) ≤ -1; omega)]
  show some (-1 + ((us.length + 1 : Nat) : Int)).toNat = _
  congr 1
  omega
theorem set_last {α : Type} (us : List α) (v u : α) : (us ++ [v]).set us.length u = us ++ [u] := by
  rw [List.set_append_right _ _ (Nat.le_refl _), Nat.sub_self]
  rfl
theorem eqv_nilD (ds : List PyData) : PyData.eqv (.list ds) (.list []) = ds.isEmpty := by
  cases ds with
  | nil => rfl
  | cons x r => simp [PyData.eqv, PyData.eqvAll]
theorem sg_ne {c n : Nat} {s : Str} (e : s = ⟨#[n]⟩) (h : c ≠ n) : ¬ V.str ⟨#[c]⟩ = V.str s := fun z => h (by
  rw [e] at z
  have e2 : (⟨#[c]⟩ : Str) = ⟨#[n]⟩ := V.str.inj z
  injection e2 with e2
  simpa using e2)
theorem fold_mem (c : Nat) (a : Array Nat) : ∀ (n : Nat) (b : Array Nat), c ∈ ((List.replicate n a).foldl (· ++ ·) b).toList → c ∈ b.toList ∨ c ∈ a.toList
  | 0, b, h => .inl h
  | n + 1, b, h => by
    rw [List.replicate_succ, List.foldl_cons] at h
    rcases fold_mem c a n (b ++ a) h with z | z
    · rw [Array.toList_append] at z
      exact List.mem_append.mp z
    · exact .inr z
theorem mul_mem {c : Nat} {x : Str} {i : Int} (h : c ∈ (Txt.mul x i).cps.toList) : c ∈ x.cps.toList := by
  unfold Txt.mul at h
  split at h
  · exact absurd h (by simp [Str.empty])
  · split at h
    · exact h
    · rcases fold_mem c x.cps _ _ h with z | z
      · simp at z
      · exact z
section
variable {X : Cx}
/-- z * i, z a short text -/
theorem op_mulT : OpR X (binaryOp .Mult) (fun x y H Q => ∃ z i, x = .str z ∧ y = .int i ∧ z.length ≤ 16 ∧ 0 ≤ i ∧ i ≤ 1048576 ∧ ∀ u : Str, (u.length : Int) = (z.length : Int) * i → (∀ c ∈ u.cps.toList, c ∈ z.cps.toList) → Q (.str u) H) := by
  intro pins s σ H x y v u Q I rx ry h
  obtain ⟨z, i, rfl, rfl, h1, h2, h3, q⟩ := h
  obtain ⟨t, rfl⟩ := rx
  obtain ⟨t2, rfl⟩ := ry
  exact PySem.W.KXi.mul rfl h1 (by omega) h3 fun t' k _ e => ⟨.str _, H, I.tok k, ⟨t', rfl⟩, q _ (e h2) fun c hc => mul_mem hc⟩
end
theorem app_list (a b : Str) : (a ++ b).cps.toList = a.cps.toList ++ b.cps.toList := by
  show (a.cps ++ b.cps).toList = _
  rw [Array.toList_append]
theorem sum_le {α : Type} {f : α → Nat} {b : Nat} : ∀ {l : List α}, (∀ x ∈ l, f x ≤ b) → (l.map f).sum ≤ l.length * b
  | [], _ => Nat.zero_le _
  | x :: r, h => by
    have h1 := h x List.mem_cons_self
    have h2 := sum_le (f := f) (b := b) (l := r) fun y hy => h y (List.mem_cons_of_mem _ hy)
    rw [List.map_cons, List.sum_cons, List.length_cons, Nat.succ_mul]
    omega
theorem blk_cons {X : Cx} {st : Stmt} {r : List Stmt} {t : TS} {G : TS → Prop} (h : PS X st t) (n : ∃ u, PSs X r u ∧ G (tSeq t u)) : ∃ u, PSs X (st :: r) u ∧ G u := n.elim fun u z => ⟨_, pss_cons h z.1, z.2⟩
theorem blk_nil {X : Cx} {G : TS → Prop} (h : G tNext) : ∃ u, PSs X [] u ∧ G u := ⟨_, pss_nil, h⟩
end Gd
/-! Further rules: what may raise at known slots, keywords, isinstance of a caught error with its own dict, places in tuples. -/
namespace Gd
open PySem PySem.Spec PyProof.Rows L2
/-- a call by positional values and keywords, no defaults -/
theorem kbn_of {K : PySem.W.Frag} {x qual : Str} {st : Stmt} {f : Addr} {fd : FuncData} {ps ks : List Str} {n : Nat} {g : List Value → List Value → List Value} {gV : List V → List V → List V} (F : Fun K x qual st f fd)
    (h : ∀ (kV doc pm : Value) (an : Option Addr) (cv ct : Value) (us ws : List Value), us.length = n → ws.length = ks.length → bindArgs (PySem.W.fnOf x qual (defArgs st) (defBody st) (defScope st) .none kV doc pm an cv ct) ⟨us, ks.zip ws⟩ = pure (ps.zip (g us ws)))
    (r : ∀ {vs : List V} {us : List Value} {zs : List V} {ws : List Value}, Vals vs us → Vals zs ws → Vals (gV vs zs) (g us ws)) : KBn K fd ps n ks g gV := by
  obtain ⟨oc, od, kV, doc, pm, an, cv, ct, osl, rfl, lk, hc⟩ := F.ex
  exact ⟨fun s us ws _ l1 l2 => .of_eq (h kV doc pm an cv ct us ws l1 l2), r⟩
section
variable {X : Cx} {CX : CXT} {k n : Nat} {f C : Addr} {fd : FuncData} {ps ks : List Str} {sp : Sp} {x m : Str} {p pos apos : Pos} {e o : Expr} {es : List Expr} {kws : List Keyword} {t tk ta : TA} {to : TE} {g : List Value → List Value → List Value} {gV : List V → List V → List V}
/-- f(k = v, ..), f raising nothing -/
def tKn (m : Nat) (sp : Sp) (gV : List V → List V → List V) (tk : TA) : TE := fun σ H Q => tk σ H fun zs H2 => zs.length = m ∧ sp (gV [] zs) H2 Q E0
theorem pe_kwN (F : FnG X.prog X.w X.K X.mg X.base k f fd ps sp) (hr : RmG k X.A) (hg : Gl X x) (hm : X.mg x = some (.ref f)) (hk : PySem.W.keepIn X.K (.ref f) = true) (hb : KBn X.K fd ps 0 ks g gV) (hkw : PK X kws tk)
    (h1 : (backToKw pos (keywordEach kws X.env)).all (·.1.isSome) = true := by rfl) (h2 : (backToKw pos (keywordEach kws X.env)).filterMap (·.1) = ks := by rfl) (h3 : (x == ("__debug__" : Str)) = false := by decide)
    (h4 : ((backTo pos (starEach [] X.env)).any (·.1) || (backToKw pos (keywordEach kws X.env)).any (·.1.isNone)) = false := by rfl) :
    PE X (.Call (.Name x p) [] kws pos) (tKn ks.length sp gV tk) := by
  refine ⟨fun pins s σ H Q I h => wpAny_Call_Name_kw (ld_glob I hg hm (PySem.W.callWith_KW0 (h₀ := X.base) I.ok.mod.kin hk h1 ?_ h4) h3)⟩
  refine thn (hkw.run pos pins s σ H _ I h) fun ws s2 ⟨zs, H2, I2, rz, l, q⟩ => ⟨I2.kIn, ?_⟩
  rw [h2]
  refine wpAny_call (codeAny_mono (run_G F hr I2 (hb.to s2 [] ws I2.kIn rfl (rz.length.symm.trans l)) (hb.rel .nil rz) q) fun r s' hq => ?_)
  obtain ⟨u, rfl, z⟩ := hq
  exact z
/-- o.m(k = v, ..), m raising nothing -/
def tMKn (C : Addr) (m : Str) (l : Nat) (sp : Sp) (gV : List V → List V → List V) (to : TE) (tk : TA) : TE := fun σ H Q => to σ H fun x H1 => ∃ a dx fs, x = .ref a ∧ H1 a = some (.ins C dx fs) ∧ fs.lookup m = none ∧ tk σ H1 fun zs H2 => zs.length = l ∧ sp (gV [x] zs) H2 Q E0
theorem pe_methK {pl : Sem Bool} (he : PE X o to) (c : Cls X.K C) (hm : Meth X.K C m f) (F : FnG X.prog X.w X.K X.mg X.base k f fd ps sp) (hr : RmG k X.A) (hb : KBn X.K fd ps 1 ks g gV) (hkw : PK X kws tk)
    (h1 : (backToKw pos (keywordEach kws X.env)).all (·.1.isSome) = true := by rfl) (h2 : (backToKw pos (keywordEach kws X.env)).filterMap (·.1) = ks := by rfl)
    (h4 : ((backTo pos (starEach [] X.env)).any (·.1) || (backToKw pos (keywordEach kws X.env)).any (·.1.isNone)) = false := by rfl)
    (ht : eval (.Call (.Attribute o m apos) [] kws pos) X.env = (do
      let ov ← eval o X.env
      standAt apos.atName
      let (f, first) ← holding [ov] (getMethod ov m pl)
      callWith pos f first (backTo pos (starEach [] X.env)) (backToKw pos (keywordEach kws X.env))) := by rfl) :
    PE X (.Call (.Attribute o m apos) [] kws pos) (tMKn C m ks.length sp gV to tk) := by
  refine ⟨fun pins s σ H Q I h => PySem.W.methodCall_KW (pl := pl) (thn (he.run pins s σ H _ I h) fun u s1 ⟨x, H1, I1, rx, a, dx, fs, ex, ea, l, q⟩ => ?_) ht⟩
  subst ex
  obtain rfl : u = Value.ref a := rx
  refine getmeth_ok I1 ea c hm l (PySem.W.callWith_KW0 (first := [.ref a]) (h₀ := X.base) I.ok.mod.kin hm.kp h1 ?_ h4)
  refine thn (hkw.run pos pins s1 σ H1 _ I1 q) fun ws s2 ⟨zs, H2, I2, rz, l, q⟩ => ⟨I2.kIn, ?_⟩
  rw [h2]
  refine wpAny_call (codeAny_mono (run_G F hr I2 (hb.to s2 [.ref a] ws I2.kIn rfl (rz.length.symm.trans l)) (hb.rel (.cons (show RelV (V.ref a) (Value.ref a) from rfl) .nil) rz) q) fun r s' hq => ?_)
  obtain ⟨u, rfl, z⟩ := hq
  exact z
/-- C(e, ..) whose __init__ may raise; E: what is wanted then, at these slots -/
def tMakeS (C : Addr) (sp : Sp) (E : L2.St → XK) (t : TA) : TE := fun σ H Q => t σ H fun vs H1 => ∀ x dx, H1 x = none → H1 dx = none → dx ≠ x →
  sp (.ref x :: vs) (upd (upd H1 dx (.own x)) x (.ins C dx [])) (fun v H2 => v = .non ∧ Q (.ref x) H2) (E σ)
theorem pe_makeS {E : L2.St → XK} (M : Mk X.K C f) (F : FnOk X.prog X.w X.K X.mg X.base CX k f fd ps sp) (hr : Room (k + 1) X.A) (hg : Gl X x) (hm : X.mg x = some (.ref C)) (hb : Binds X.K fd ps []) (hx : ∀ σ, PassesAt CX X σ (E σ))
    (ha : PA X (e :: es) t) (h1 : (x == ("__debug__" : Str)) = false := by decide) (h2 : starEach (e :: es) X.env = (false, eval e X.env) :: starEach es X.env := by rfl) (h3 : (backTo pos (starEach es X.env)).any (·.1) = false := by rfl) :
    PE X (.Call (.Name x p) (e :: es) [] pos) (tMakeS C sp E t) := by
  refine ⟨fun pins s σ H Q I h => wpAny_Call_Name_kw (ld_glob I hg hm (PySem.W.callWith_K (h₀ := X.base) I.ok.mod.kin M.kp (thn (ha.run pos pins s σ H _ I h) fun us s1 ⟨vs, H1, I1, r, q⟩ => ⟨I1.kIn, ?_⟩) h2 h3) h1)⟩
  have q2 := q (s1.heap.objs.size + 1) s1.heap.objs.size (I1.hok.fresh (Nat.le_succ _)) (I1.hok.fresh (Nat.le_refl _)) (Nat.ne_of_lt (Nat.lt_succ_self _))
  have I2 := Inv.made (C := C) I1
  have r2 : Vals (V.ref (s1.heap.objs.size + 1) :: vs) (Value.ref (s1.heap.objs.size + 1) :: us) := .cons rfl r
  have hl : (Value.ref (s1.heap.objs.size + 1) :: us).length = ps.length := r2.length.symm.trans (F.len _ _ _ _ q2)
  have b := hb _ (Value.ref (s1.heap.objs.size + 1) :: us) I2.kIn (by rw [List.append_nil]; exact hl)
  rw [List.append_nil] at b
  refine wpAny_call (make_map (f := f) I1.kIn M.makes M.init (beq_iff_eq.mp M.fn) (codeAny_mono (F.run _ X.stack _ _ ⟨Value.ref (s1.heap.objs.size + 1) :: us, []⟩ _ _ _ (E σ) (hr.make C us []) (I2.env0.make C us []) b r2 q2) fun r s' hq => ?_))
  rcases r with er | fl
  · exact hx σ pins _ _ er s' I2 hq
  · cases fl with
    | ret u =>
      obtain ⟨v, H', I3, rv, ev, q3⟩ := I2.after hq
      subst ev
      exact ⟨rv, ⟨V.ref (s1.heap.objs.size + 1), H', I3, rfl, q3⟩⟩
    | next => exact hq.elim
    | brk => exact hq.elim
    | cont => exact hq.elim
/-- isinstance(e, c), e the error that the suite holds, of the class at D -/
theorem call_isE2 {a D : Addr} {oe : Obj} {d : Option Addr} {pn : List (Addr × Obj)} (T : L2.ExcC X.K D) (hz : Zc (.ref D) d oe) (hf : ∃ vs, oe.data = .fields vs) :
    CallR (X.suite a ((a, oe) :: pn)) (.builtin "isinstance") (fun xs H Q => ∃ (c : V) (u : Value) (b : Bool), xs = [.ref a, c] ∧ ClsV c u ∧ PySem.W.kitOne X.K (.ref D) u = some b ∧ (d = none ∨ ∃ dd fs, d = some dd ∧ H dd = some (.xd fs) ∧ fs.lookup ("__class__" : Str) = none) ∧ Q (.bl b) H) := by
  intro pins s σ H xs us Q I r h
  obtain ⟨c, u, b, rfl, hc, e, hd, q⟩ := h
  obtain ⟨u1, u2, rfl, r1, r2⟩ := vals2 r
  obtain rfl : u1 = Value.ref a := r1
  have e2 := hc.eq r2
  subst e2
  obtain ⟨ha, _⟩ := I.pin (a, oe) (List.mem_append_left _ List.mem_cons_self)
  obtain ⟨vs, hv⟩ := hf
  have hcl : (PySem.W.clsIn X.K D).isSome = true := by
    obtain ⟨cd, z, _⟩ := PySem.W.any_some T.hd
    rw [z]
    rfl
  obtain ⟨od, J⟩ : ∃ od, PySem.W.InstAt s.heap a oe D od := by
    rcases hd with rfl | ⟨dd, fs, rfl, hx, _⟩
    · exact ⟨none, ha, hz.1, by unfold PySem.W.notCls; rw [hv] <;> rfl, by rw [hz.2]; trivial⟩
    · obtain ⟨mA, hns, _⟩ := (show ObjOk X.prog X.w H s.heap dd (.xd fs) from I.hok dd _ hx)
      obtain ⟨od, ho, _⟩ := lookIn_ns hns
      exact ⟨some od, ha, hz.1, by unfold PySem.W.notCls; rw [hv] <;> rfl, by rw [hz.2]; exact ho⟩
  exact PySem.W.kia_one (PySem.W.kitx_exc (x := a) (ox := oe) (od := od) hcl T.hg T.hk T.hs T.ha T.hn T.ht T.hm) I.kIn J e (fun z => nomatch z) fun tk => ⟨.bl b, H, I.tok tk, rfl, q⟩
end
end Gd
namespace Gd
open PySem PySem.Spec PyProof.Rows L2
section
variable {X : Cx}
/-- t.index(n), n in it -/
theorem mt_indexI : MtR X "tuple.index" (fun x xs H Q => ∃ (p : Addr) (ns : List Int) (z : Int), x = .ref p ∧ xs = [.int z] ∧ SqT X.K H p (ns.map V.int) ∧ z ∈ ns ∧ Q (.int (ns.idxOf z : Nat)) H) := by
  intro pins s σ H x xs v us Q I rx rs h
  obtain ⟨p, ns, z, rfl, rfl, hq, hz, q⟩ := h
  obtain rfl : v = Value.ref p := rx
  obtain ⟨u, rfl, t, rfl⟩ := vals1 rs
  obtain ⟨its, r, pl, _⟩ := I.tuple hq
  exact PySem.SeqAt.tuple_index_ints pl (intsAre_of r) hz ⟨.int (ns.idxOf z : Nat), H, I.tok _, ⟨_, rfl⟩, q⟩
/-- (x,) * k -/
theorem op_rep1 : OpR X (binaryOp .Mult) (fun x y H Q => ∃ (l : Addr) (k : Int) (z : V), x = .ref l ∧ y = .int k ∧ SqT X.K H l [z] ∧ 2 ≤ k ∧ k ≤ 100000 ∧ ∀ p, H p = none → Q (.ref p) (upd H p (.tup (List.replicate k.toNat z)))) := by
  intro pins s σ H x y v u Q I rx ry h
  obtain ⟨l, k, z, rfl, rfl, hT, h1, h2, q⟩ := h
  obtain rfl : v = Value.ref l := rx
  obtain ⟨t, rfl⟩ := ry
  obtain ⟨its, r, ⟨⟨cls, dd, data, sl⟩, ho, hc, n, hd⟩, hs⟩ := I.tuple hT
  simp only at hc hd
  subst hc hd
  obtain ⟨u0, rfl, r0⟩ := vals1 r
  have e1 : ([u0] : List Value).toArray.size = 1 := rfl
  have fl : (List.replicate k.toNat [u0]).flatten = List.replicate k.toNat u0 := by
    generalize k.toNat = m
    induction m with
    | zero => rfl
    | succ m ih => rw [List.replicate_succ, List.flatten_cons, ih, List.replicate_succ]; rfl
  have c0 : (decide (k < -(2 ^ 63)) || decide (k ≥ 2 ^ 63)) = false := by rw [decide_eq_false (by omega), decide_eq_false (by omega)]; rfl
  have c1 : (([u0] : List Value).toArray.isEmpty || k == 1) = false := by
    rw [show ([u0] : List Value).toArray.isEmpty = false from rfl, Bool.false_or]
    exact beq_eq_false_iff_ne.mpr (by omega)
  have c2 : (decide (k ≤ 0) || ([u0] : List Value).toArray.isEmpty) = false := by
    rw [show ([u0] : List Value).toArray.isEmpty = false from rfl, Bool.or_false]
    exact decide_eq_false (by omega)
  have c4 : Builtin.Tuple.tupleTooMany (((([u0] : List Value).toArray.size : Nat) : Int) * k) = false := by
    unfold Builtin.Tuple.tupleTooMany
    rw [e1, sizeLine_eq]
    exact decide_eq_false (by omega)
  have hz : (List.replicate k.toNat u0).length ≤ sizeLine := by
    rw [List.length_replicate, sizeLine_eq]
    omega
  refine wpAny_binaryOp_repeat_ref (T := "tuple") (U := "int") (by decide) ⟨_, ho, rfl⟩ (fun s' => typeIs_int s' k t) noFill_tuple_mul F.fills_int_mul F.slot_int_rmul repeat_tuple F.slot_int_index.lookup
    (call_meets F.slot_int_rmul (typeIs_int s k t) F.entry_int_rmul (F.args_int_rmul_2 _ _) (int_rmul_tuple k t l ([u0] : List Value).toArray n dd sl)
      ⟨ho, rfl, ⟨_, ho, rfl⟩, call_meets F.slot_tuple_mul ⟨_, ho, rfl⟩ F.entry_tuple_mul (F.args_tuple_mul_2 _ _) (tuple_mulW l ([u0] : List Value).toArray n dd sl k t c0 c1 c2 (by rw [e1]; omega) c4 (by rw [size_rep, List.size_toArray, fl]; exact hz)) ⟨ho, ?_⟩⟩)
  rw [size_rep, fl]
  refine ⟨.ref s.heap.objs.size, _, I.laid (t' := s.toks) (o := .tup (List.replicate k.toNat z)) (fun b ob q => Heap.get?_push_of_some _ q) (Nat.le_refl _) ?_, rfl, q _ (I.hok.fresh (Nat.le_refl _))⟩
  refine ⟨by rw [List.length_replicate, sizeLine_eq]; omega, List.replicate k.toNat u0, ?_, IsTup.new _ _⟩
  generalize k.toNat = m
  induction m with
  | zero => exact .nil
  | succ m ih => rw [List.replicate_succ, List.replicate_succ]; exact .cons r0 ih
end
end Gd
namespace Gd
open PySem PySem.Spec PyProof.Rows L2
/-- a tuple that is known to have no attributes of its own -/
def PlT (H : Hp) (p : Addr) (xs : List V) : Prop := ∃ o : Obj, o.cls = .type "tuple" ∧ o.dict = none ∧ H p = some (.frz o (.tup xs))
theorem PlT.sq {K : PySem.W.Frag} {H : Hp} {p : Addr} {xs : List V} (h : PlT H p xs) : SqT K H p xs := let ⟨o, _, _, e⟩ := h; .inl (.inr ⟨o, e⟩)
theorem PlT.same {H G : Hp} {p : Addr} {xs : List V} (h : PlT H p xs) (e : Same H G) : PlT G p xs := let ⟨o, a, b, z⟩ := h; ⟨o, a, b, e _ _ z⟩
theorem PlT.keep {H G : Hp} {p : Addr} {xs : List V} (h : PlT H p xs) (e : KeepT H G) : PlT G p xs := let ⟨o, a, b, z⟩ := h; ⟨o, a, b, e _ _ z (by intro _ q; cases q)⟩
section
variable {X : Cx} {o e : Expr} {es : List Expr} {to : TE} {t : TA} {name : Str} {apos cpos : Pos} {id : String} {r : V → List V → Hp → VK → Prop}
/-- tuple(xs), xs a list: no attributes -/
theorem call_tuple_pl : CallR X (.type "tuple") (fun xs H Q => ∃ p ys, xs = [.ref p] ∧ SqL X.K H p ys ∧ ∀ l G, H l = none → Same H G → PlT G l ys → Q (.ref l) G) := by
  intro pins s σ H xs us Q I r h
  obtain ⟨p, ys, rfl, hq, q⟩ := h
  obtain ⟨u, rfl, rx⟩ := vals1 r
  cases rx
  obtain ⟨its, r', pl, hz⟩ := I.list hq
  have hlen := r'.length
  refine call_tuple_list pl.isList (fun h' kp => ?_) (by simp only [List.size_toArray] <;> omega)
  have I1 : Inv X pins σ H { s with heap := h' } := I.kept (t' := s.toks) kp
  have hn := I1.hok.fresh (Nat.le_refl _)
  have I2 : Inv X pins σ (upd H h'.objs.size (.frz { cls := .type "tuple", data := .seq its.toArray } (.tup ys))) { s with heap := h'.push { cls := .type "tuple", data := .seq its.toArray } } :=
    I1.laid (t' := s.toks) (fun b o e => Heap.get?_push_of_some _ e) (Nat.le_refl _) (show ObjOk X.prog X.w _ _ _ (.frz _ (.tup ys)) from ⟨Heap.get?_push_size _ rfl, hz, its, r', IsTup.new _ _⟩)
  exact ⟨.ref h'.objs.size, _, I2, rfl, q _ _ hn (same_new hn) ⟨_, rfl, rfl, upd_same⟩⟩
/-- t.m(e, ..), t such a tuple -/
def tBMT (r : V → List V → Hp → VK → Prop) (to : TE) (t : TA) : TE := fun σ H Q => to σ H fun x H1 => (∃ p ys, x = .ref p ∧ PlT H1 p ys) ∧ t σ H1 fun xs H2 => r x xs H2 Q
theorem pe_bmT (pa : PlainAttrs "tuple") (slot : Slot "tuple" name id) (hty : typeOf (.builtin id) = pure (.type "method_descriptor")) (hm : MtR X id r) (ho : PE X o to) (ha : PA X (e :: es) t)
    (hbase : attributeBase o name X.env (eval o X.env) = eval o X.env := by rfl)
    (hfew : ((backTo cpos (starEach (e :: es) X.env)).all (fun x => !x.1) && (backToKw cpos (keywordEach [] X.env)).all (fun x => x.1.isSome)
      && decide ((e :: es).length + ([] : List Keyword).length + (if ([] : List Keyword).isEmpty then 0 else 1) < 30)) = true := by rfl)
    (hline : (apos.endLine == cpos.line) = true := by rfl) (hs : starEach (e :: es) X.env = (false, eval e X.env) :: starEach es X.env := by rfl) (hplain : (backTo cpos (starEach es X.env)).any (·.1) = false := by rfl) :
    PE X (.Call (.Attribute o name apos) (e :: es) [] cpos) (tBMT r to t) := by
  refine ⟨fun pins s σ H Q I h => ?_⟩
  refine wpAny_Call_method_late hbase hfew hline rfl (thn (ho.run pins s σ H _ I h) fun v s1 ⟨x, H1, I1, r1, ty, q1⟩ => ?_)
  obtain ⟨p, ys, rfl, ob, hc, hd, hq⟩ := ty
  obtain rfl : v = Value.ref p := r1
  have ho := (I1.hok p _ hq).1
  refine ⟨"tuple", id, pa, slot, hty, ⟨ob, ho, hc⟩, fun a e => ?_, ?_⟩
  · cases e
    exact ⟨ob, ho, hd⟩
  have hA := ha.run cpos pins s1 σ H1 _ I1 q1
  rw [hs] at hA ⊢
  refine Calls.callWith_builtin (by show (false || (backTo cpos (starEach es X.env)).any (·.1)) = false; rw [hplain] <;> rfl) (Calls.evalArgs_plain ?_)
  exact thn hA fun us s2 ⟨vs, H2, I2, r2, q2⟩ => hm pins s2 σ H2 (.ref p) vs _ us Q I2 rfl r2 q2
end
end Gd
/-! What further laws share: values told by their types, numbers, sorted lists, frames. -/
namespace Gd
open PySem PySem.Spec PyProof.Rows L2
/-- a value of a built-in type, by the name of the type -/
def TyN (K : PySem.W.Frag) (H : Hp) (x : V) (n : String) : Prop := TyX K H x (.type n)
theorem TyN.int {K : PySem.W.Frag} {H : Hp} (i : Int) : TyN K H (.int i) "int" := .base (.int i)
theorem TyN.bl {K : PySem.W.Frag} {H : Hp} (b : Bool) : TyN K H (.bl b) "bool" := .base (.bl b)
theorem TyN.non {K : PySem.W.Frag} {H : Hp} : TyN K H .non "NoneType" := .base .non
theorem TyN.str {K : PySem.W.Frag} {H : Hp} (x : Str) : TyN K H (.str x) "str" := .base (.str x)
theorem tyX_same {K : PySem.W.Frag} {H G : Hp} (e : Same H G) {x : V} {t : Value} (h : TyX K H x t) : TyX K G x t := by
  cases h with
  | base b =>
    cases b with
    | non => exact .base .non
    | bl y => exact .base (.bl y)
    | int i => exact .base (.int i)
    | str y => exact .base (.str y)
    | flt y => exact .base (.flt y)
    | lst q => exact .base (.lst (e _ _ q))
    | frz q => exact .base (.frz (e _ _ q))
    | tup q => exact .base (.tup (e _ _ q))
    | dK q => exact .base (.dK (e _ _ q))
    | dT q => exact .base (.dT (e _ _ q))
    | ins q a b c d m => exact .base (.ins (e _ _ q) a b c d m)
  | byt b => exact .byt b
  | set q => exact .set (e _ _ q)
  | kList q c => exact .kList q c
  | kTuple q c => exact .kTuple q c
  | kDict q c => exact .kDict q c
  | fTuple q => exact .fTuple (e _ _ q)
  | fDict q => exact .fDict (e _ _ q)
/-- whether any value is a number below a limit -/
def NumV (K : PySem.W.Frag) (H : Hp) (lim : Int) (x : V) (b : Bool) : Prop :=
  (∃ i, x = .int i ∧ b = decide (0 ≤ i ∧ i < lim)) ∨ (∃ y, x = .bl y ∧ b = false) ∨ (∃ n, TyN K H x n ∧ kitB n "int" = some false ∧ b = false)
theorem NumV.same {K : PySem.W.Frag} {H G : Hp} (e : Same H G) {lim : Int} {x : V} {b : Bool} (h : NumV K H lim x b) : NumV K G lim x b :=
  h.imp id fun h => h.imp id fun ⟨n, t, k, z⟩ => ⟨n, tyX_same e t, k, z⟩
def NumVs (K : PySem.W.Frag) (H : Hp) (lim : Int) : List V → List Bool → Prop := Paired (NumV K H lim)
theorem paired_at {α β : Type} {R : α → β → Prop} : ∀ {xs : List α} {ys : List β} {i : Nat} {x : α}, Paired R xs ys → xs[i]? = some x → ∃ y, ys[i]? = some y ∧ R x y
  | _, _, _, _, .nil, e => by simp at e
  | _, _, 0, _, .cons r _, e => by simp at e; subst e; exact ⟨_, rfl, r⟩
  | _, _, i + 1, x, .cons _ t, e => by
    obtain ⟨y, h1, h2⟩ := paired_at (i := i) (x := x) t (by simpa using e)
    exact ⟨y, by simpa using h1, h2⟩
theorem tyT {K : PySem.W.Frag} {H : Hp} {c : Addr} {xs : List V} (h : SqT K H c xs) : TyN K H (.ref c) "tuple" := by
  rcases h with (z | ⟨o, z⟩) | ⟨o, its, n, hk, hc, _⟩
  · exact .base (.tup z)
  · exact .fTuple z
  · exact .kTuple hk hc
theorem nd_ints {l : List Nat} (h : l.Nodup) : (l.map fun a : Nat => (a : Int)).Nodup := by
  induction l with
  | nil => exact List.nodup_nil
  | cons a r ih =>
    obtain ⟨h1, h2⟩ := List.nodup_cons.mp h
    rw [List.map_cons]
    refine List.nodup_cons.mpr ⟨fun z => ?_, ih h2⟩
    obtain ⟨b, hb, e⟩ := List.mem_map.mp z
    have : b = a := by omega
    exact h1 (this ▸ hb)
theorem inV_ints (a : Int) (l : List Int) : inV (.int a) (l.map V.int) = decide (a ∈ l) := by
  induction l with
  | nil => rfl
  | cons b r ih =>
    have e : inV (.int a) ((b :: r).map V.int) = (eqV (.int b) (.int a) || inV (.int a) (r.map V.int)) := rfl
    rw [e, ih]
    by_cases h : b = a
    · subst h
      have : eqV (.int b) (.int b) = true := by simp [eqV]
      rw [this, Bool.true_or]
      exact (decide_eq_true List.mem_cons_self).symm
    · have : eqV (.int b) (.int a) = false := by simp [eqV, h]
      rw [this, Bool.false_or]
      exact decide_eq_decide.mpr ⟨fun z => List.mem_cons_of_mem _ z, fun z => (List.mem_cons.mp z).resolve_left fun e => h e.symm⟩
theorem flat_ints (l : List Int) : (l.map V.int).all flatV = true := List.all_eq_true.mpr fun x hx => by
  obtain ⟨n, _, rfl⟩ := List.mem_map.mp hx
  rfl
/-- sorted lists with the same things, each once, are one -/
theorem sorted_same : ∀ {a b : List Int}, a.Pairwise (· ≤ ·) → b.Pairwise (· ≤ ·) → a.Nodup → b.Nodup → (∀ x, x ∈ a ↔ x ∈ b) → a = b
  | [], [], _, _, _, _, _ => rfl
  | [], y :: s, _, _, _, _, h => absurd ((h y).mpr List.mem_cons_self) List.not_mem_nil
  | x :: r, [], _, _, _, _, h => absurd ((h x).mp List.mem_cons_self) List.not_mem_nil
  | x :: r, y :: s, pa, pb, na, nb, h => by
    obtain ⟨a1, a2⟩ := List.pairwise_cons.mp pa
    obtain ⟨b1, b2⟩ := List.pairwise_cons.mp pb
    obtain ⟨n1, n2⟩ := List.nodup_cons.mp na
    obtain ⟨m1, m2⟩ := List.nodup_cons.mp nb
    have e : x = y := by
      rcases List.mem_cons.mp ((h x).mp List.mem_cons_self) with z | z
      · exact z
      · rcases List.mem_cons.mp ((h y).mpr List.mem_cons_self) with z2 | z2
        · exact z2.symm
        · exact Int.le_antisymm (a1 y z2) (b1 x z)
    subst e
    rw [sorted_same a2 b2 n2 m2 fun z => ?_]
    constructor
    · intro hz
      rcases List.mem_cons.mp ((h z).mp (List.mem_cons_of_mem _ hz)) with q | q
      · exact absurd (q ▸ hz) n1
      · exact q
    · intro hz
      rcases List.mem_cons.mp ((h z).mpr (List.mem_cons_of_mem _ hz)) with q | q
      · exact absurd (q ▸ hz) m1
      · exact q
theorem cost_ints : ∀ l : List Int, costAll (l.map .int) = 12 * l.length
  | [] => by rw [List.map_nil, costAll]; rfl
  | x :: r => by
    rw [List.map_cons, costAll, cost_ints r, costD, List.length_cons]
    omega
theorem ints_fine {l : List Int} (h : ∀ x ∈ l, x.natAbs < 10 ^ 9) (hl : l.length ≤ 1000) : fine (.tuple (l.map .int)) = true ∧ (PyData.tuple (l.map .int)).depth ≤ 60 ∧ costD (.tuple (l.map .int)) ≤ sizeLine := by
  refine ⟨?_, ?_, ?_⟩
  · rw [fine]
    refine fineAll_mem fun d hd => ?_
    obtain ⟨x, hx, rfl⟩ := List.mem_map.mp hd
    rw [fine]
    exact decide_eq_true (h x hx)
  · rw [PyData.depth]
    have : PyData.depthAll (l.map .int) ≤ 1 := depthAll_mem fun d hd => by
      obtain ⟨x, _, rfl⟩ := List.mem_map.mp hd
      simp [PyData.depth]
    omega
  · rw [costD, cost_ints, sizeLine_eq]
    omega
theorem dp_tup {K : PySem.W.Frag} {H : Hp} {q : Addr} {l : List Int} (h : SqT K H q (l.map V.int)) : Dp K H (.ref q) (.tuple (l.map .int)) := .tup h (dpAll_ints l)
theorem map_at {ns : List Int} {i : Nat} {x : V} (h : (ns.map V.int)[i]? = some x) : ∃ n, ns[i]? = some n ∧ x = .int n := by
  rw [List.getElem?_map] at h
  cases e : ns[i]? with
  | none => rw [e] at h; cases h
  | some n => rw [e] at h; exact ⟨n, rfl, (Option.some.inj h).symm⟩
theorem paired_snoc {α β : Type} {R : α → β → Prop} : ∀ {xs : List α} {ys : List β} {x : α} {y : β}, Paired R xs ys → R x y → Paired R (xs ++ [x]) (ys ++ [y])
  | _, _, _, _, .nil, r => .cons r .nil
  | _, _, _, _, .cons a t, r => .cons a (paired_snoc t r)
theorem paired_mono {α β : Type} {R S : α → β → Prop} (h : ∀ a b, R a b → S a b) : ∀ {xs : List α} {ys : List β}, Paired R xs ys → Paired S xs ys
  | _, _, .nil => .nil
  | _, _, .cons a t => .cons (h _ _ a) (paired_mono h t)
/-- a statement's reading, kept shut -/
def tWr (t : TS) : TS := t
theorem ps_wr {X : Cx} {st : Stmt} {t : TS} (h : PS X st t) : PS X st (tWr t) := h
/-- isinstance(e, c), e the error that the suite holds; its class is told by the reading -/
theorem call_isE3 {X : Cx} {a D : Addr} {cls : Value} {oe : Obj} {d : Option Addr} {pn : List (Addr × Obj)} (T : L2.ExcC X.K D) (hz : Zc cls d oe) (hf : ∃ vs, oe.data = .fields vs) :
    CallR (X.suite a ((a, oe) :: pn)) (.builtin "isinstance") (fun xs H Q => cls = .ref D ∧ ∃ (c : V) (u : Value) (b : Bool), xs = [.ref a, c] ∧ ClsV c u ∧ PySem.W.kitOne X.K (.ref D) u = some b ∧ (d = none ∨ ∃ dd fs, d = some dd ∧ H dd = some (.xd fs) ∧ fs.lookup ("__class__" : Str) = none) ∧ Q (.bl b) H) := by
  intro pins s σ H xs us Q I r h
  obtain ⟨e, h⟩ := h
  subst e
  exact call_isE2 T hz hf pins s σ H xs us Q I r h
abbrev rTup (K : PySem.W.Frag) : List V → Hp → VK → Prop := fun xs H Q => ∃ p ys, xs = [.ref p] ∧ ((SqL K H p ys ∧ ∀ l, H l = none → Q (.ref l) (upd H l (.tup ys))) ∨ (SqT K H p ys ∧ Q (.ref p) H))
theorem call_tupK {X : Cx} : CallR X (.type "tuple") (rTup X.K) := call_tuple_of
theorem kit_yes {K : PySem.W.Frag} {A B : Addr} (h1 : PySem.W.isClsIn K B = true) (h2 : PySem.W.typeIn K (.ref B) = some (.type "type")) (h3 : PySem.W.subIn K (.ref A) (.ref B) = some true) : PySem.W.kitOne K (.ref A) (.ref B) = some true := by
  unfold PySem.W.kitOne
  split
  · rfl
  · have e : ((PySem.W.clsIn K B).isSome && PySem.W.typeIn K (.ref B) == some (.type "type")) = true := by
      have h1' : (PySem.W.clsIn K B).isSome = true := h1
      rw [h1', h2] <;> rfl
    show (if ((PySem.W.clsIn K B).isSome && PySem.W.typeIn K (.ref B) == some (.type "type")) = true then PySem.W.subIn K (.ref A) (.ref B) else none) = some true
    rw [if_pos e]
    exact h3
theorem kit_no {K : PySem.W.Frag} {A B : Addr} (h1 : PySem.W.isClsIn K B = true) (h2 : PySem.W.typeIn K (.ref B) = some (.type "type")) (h0 : PySem.W.subIn K (.ref A) (.ref A) = some true) (h3 : PySem.W.subIn K (.ref A) (.ref B) = some false) : PySem.W.kitOne K (.ref A) (.ref B) = some false := by
  have ne : (Value.ref A == Value.ref B) = false := by
    cases e : (Value.ref A == Value.ref B) with
    | false => rfl
    | true =>
      have z := eq_of_beq e
      rw [← z, h0] at h3
      cases h3
  unfold PySem.W.kitOne
  rw [ne]
  have e : ((PySem.W.clsIn K B).isSome && PySem.W.typeIn K (.ref B) == some (.type "type")) = true := by
    have h1' : (PySem.W.clsIn K B).isSome = true := h1
    rw [h1', h2] <;> rfl
  show (if ((PySem.W.clsIn K B).isSome && PySem.W.typeIn K (.ref B) == some (.type "type")) = true then PySem.W.subIn K (.ref A) (.ref B) else none) = some false
  rw [if_pos e]
  exact h3
/-- all stands as before but what is in S; all but lists stands as before -/
structure Frm (S : List Addr) (H G : Hp) : Prop where
  kt : KeepT H G
  ks : ∀ b o, b ∉ S → H b = some o → G b = some o
theorem Frm.same {S : List Addr} {H G : Hp} (e : Same H G) : Frm S H G := ⟨.of e, fun b o _ h => e b o h⟩
theorem Frm.trans {S : List Addr} {H G J : Hp} (a : Frm S H G) (b : Frm S G J) : Frm S H J := ⟨a.kt.trans b.kt, fun c o n h => b.ks c o n (a.ks c o n h)⟩
theorem Frm.mono {S T : List Addr} {H G : Hp} (a : Frm S H G) (h : ∀ x ∈ S, x ∈ T) : Frm T H G := ⟨a.kt, fun b o n e => a.ks b o (fun z => n (h b z)) e⟩
theorem Frm.put {S : List Addr} {H : Hp} {p : Addr} {xs : List V} {o : HO} (h : H p = some (.lst xs)) (m : p ∈ S) : Frm S H (upd H p o) := ⟨.put h, fun b x n e => (upd_ne fun z => n (by rw [z]; exact m)).trans e⟩
theorem Frm.new {S : List Addr} {H : Hp} {p : Addr} {o : HO} (h : H p = none) : Frm S H (upd H p o) := .same (same_new h)
theorem Frm.but {h l : Addr} {S : List Addr} {H G : Hp} {L : List Int} {st : Int} (v : Hv H h l L st) (b : But h l H G) (m1 : h ∈ S) (m2 : l ∈ S) : Frm S H G :=
  ⟨.but v b, fun c o n e => b c o (fun z => n (by rw [z]; exact m1)) (fun z => n (by rw [z]; exact m2)) e⟩
theorem Frm.seqT {K : PySem.W.Frag} {S : List Addr} {H G : Hp} {a : Addr} {xs : List V} (f : Frm S H G) (h : SqT K H a xs) : SqT K G a xs := f.kt.seqT h
theorem Hv.frm {h l : Addr} {S : List Addr} {H G : Hp} {L : List Int} {st : Int} (v : Hv H h l L st) (f : Frm S H G) (n1 : h ∉ S) (n2 : l ∉ S) : Hv G h l L st :=
  ⟨f.ks _ _ n1 v.top, f.ks _ _ n2 v.bot, v.ne, v.lo, v.hi, v.len⟩
theorem ixN_nat {n a : Nat} (h : a < n) : ixN n (a : Int) = some a := by
  unfold ixN
  rw [if_pos (by omega), if_pos (by omega)]
  rfl
theorem lc_str {x : Str} {g : TG} {tt : TT} {te : TE} {vs : List Nat} {σ : L2.St} {H1 : Hp} {D : Addr} {Qd : Hp → Prop} (Pv : Nat → Hp → Prop) (h0 : Pv 0 (upd H1 D (.lst [])))
    (hs : ∀ i c H, x.cps.toList[i]? = some c → Pv i H → g (.str ⟨#[c]⟩) (wipe σ vs) H fun σ2 H2 => wipe σ2 vs = wipe σ vs ∧ tt σ2 H2 fun b H3 =>
      if b = true then te σ2 H3 fun y H4 => ∃ acc, H4 D = some (.lst acc) ∧ acc.length < sizeLine ∧ Pv (i + 1) (upd H4 D (.lst (acc ++ [y]))) else Pv (i + 1) H3) (hd : ∀ H, Pv x.cps.toList.length H → Qd H) :
    ∃ W : Nat → Nat → Hp → Prop, (∃ m, W 0 m (upd H1 D (.lst []))) ∧ ∀ i m H, W i m H →
      ((Its x).stop i H ∧ Qd H) ∨ ((Its x).go i H ∧ ∃ Nx : Hp → Prop, (∀ H', Nx H' → ∃ m', m' < m ∧ W (i + 1) m' H') ∧ ∀ v H', (Its x).yld i H v H' → g v (wipe σ vs) H' fun σ2 H2 => wipe σ2 vs = wipe σ vs ∧ tt σ2 H2 fun b H3 =>
        if b = true then te σ2 H3 fun y H4 => ∃ acc, H4 D = some (.lst acc) ∧ acc.length < sizeLine ∧ Nx (upd H4 D (.lst (acc ++ [y]))) else Nx H3) := by
  refine ⟨fun i m H => m = x.cps.toList.length - i ∧ i ≤ x.cps.toList.length ∧ Pv i H, ⟨_, rfl, Nat.zero_le _, h0⟩, fun i m H hw => ?_⟩
  obtain ⟨rfl, hi, hp⟩ := hw
  by_cases hlt : i < x.cps.toList.length
  · refine .inr ⟨by show i < x.cps.size; simpa using hlt, Pv (i + 1), fun H' hp' => ⟨_, by omega, rfl, hlt, hp'⟩, fun v H' hy => ?_⟩
    obtain ⟨rfl, c, hc, rfl⟩ := hy
    exact hs i c _ (by simpa using hc) hp
  · have e : i = x.cps.toList.length := by omega
    subst e
    exact .inl ⟨by show x.cps.size ≤ _; simp, hd H hp⟩
end Gd
/-! enumerate of a tuple. -/
namespace Gd
open PySem PySem.Spec PyProof.Rows L2
set_option maxHeartbeats 1000000 in
theorem en_new {u : Value} {ob : Obj} {N : Heap → Prop} (B : Begins u ob N) :
    Meets (Builtin.«enumerate.__new__» ⟨[.type "enumerate", u], []⟩) (fun _ R z => N z.heap ∧
      R (.ok (.ret (.ref (z.heap.push ob).objs.size))) { z with heap := (z.heap.push ob).push { cls := .type "enumerate", data := .fields #[.none, .bool false, .ref z.heap.objs.size, rawInt 0, .none, .none] } }) := by
  refine .of_wp fun prog w A R z hz => ?_
  obtain ⟨hp, ga, dr, tk, os⟩ := z
  obtain ⟨n1, fin⟩ := hz
  have sb := sub_enumerate
  have it1 : ∀ {A2 : Around} {E2 : Value → Shared → Prop} {Q2 : Value → Shared → Prop}, Q2 (.ref hp.objs.size) ⟨hp.push ob, ga, dr, tk, os⟩ → wpAny (model prog w) A2 (pyIter u) Q2 E2 ⟨hp, ga, dr, tk, os⟩ :=
    fun y => B.iter prog w _ _ ⟨hp, ga, dr, tk, os⟩ _ n1 y
  wp_walk using it1
  refine wpAny_stack_any fun st => wpAny_pure ?_
  split
  · rename_i c _ _ _ _ _
    cases (c == Value.type "enumerate")
    · wp_walk using it1
      exact ⟨_, rfl, fin⟩
    · wp_walk using it1
      exact ⟨_, rfl, fin⟩
  · wp_walk using it1
    exact ⟨_, rfl, fin⟩
theorem en_call {prog : Program} {w : World} {A : Around} {E : Value → Shared → Prop} {z : Shared} {u : Value} {ob : Obj} {N : Heap → Prop} {Q : Value → Shared → Prop} (B : Begins u ob N) (n1 : N z.heap)
    (fin : ∀ g, IsEnum g (z.heap.objs.size + 1) z.heap.objs.size 0 .none → g.get? z.heap.objs.size = some ob → (∀ b o, z.heap.get? b = some o → g.get? b = some o) → Q (.ref (z.heap.objs.size + 1)) { z with heap := g }) :
    wpAny (model prog w) A (call (.type "enumerate") [u]) Q E z := by
  refine callType_new F.called_enumerate (by decide) (F.typeCall_enumerate_1 _) (F.newCall_enumerate_1 _) (fun x => F.args_object_init_2 x _) F.entry_enumerate_new (en_new B) ⟨n1, ?_⟩
  have sz : (z.heap.push ob).objs.size = z.heap.objs.size + 1 := Heap.size_push ..
  have top := Heap.get?_push_size (z.heap.push ob) (o := { cls := .type "enumerate", data := .fields #[.none, .bool false, .ref z.heap.objs.size, rawInt 0, .none, .none] }) rfl
  show _ ∧ _
  rw [sz] at top ⊢
  exact ⟨⟨_, top, rfl⟩, fin _ top (Heap.get?_push_of_some _ (Heap.get?_push_size _ B.free)) fun b o e => Heap.get?_push_of_some _ (Heap.get?_push_of_some _ e)⟩
/-- the tuple at a, each item in a new pair with its number -/
def ItEn (K : PySem.W.Frag) (a : Addr) : It where
  go i H := ∃ (xs : List V) (x : V), SqT K H a xs ∧ xs[i]? = some x
  yld i H v G := ∃ T x, v = .ref T ∧ H T = none ∧ G = upd H T (.tup [.int (i : Nat), x]) ∧ ∀ xs, SqT K H a xs → xs[i]? = some x
  stop i H := ∃ xs : List V, SqT K H a xs ∧ xs.length ≤ i
theorem turn_en {P : Program} {w : World} {K : PySem.W.Frag} {ts : List Expr} {kk : Nat} {tp : Pos} (a e r : Addr) :
    Turn P w K (.Tuple ts kk tp) (ItEn K a) [e, r] e (fun i h => (∃ old, IsEnum h e r ((i : Nat) : Int) old) ∧ h.IsTupleIter r a i) where
  mem := List.mem_cons_self
  obj := fun i h st b hb => by
    obtain ⟨⟨old, he⟩, o, ho, hc, hd⟩ := st
    rcases List.mem_cons.mp hb with z | z
    · subst z
      exact ⟨_, he, fun v q => nomatch q⟩
    · refine ⟨o, List.mem_singleton.mp z ▸ ho, fun v q => ?_⟩
      rw [hd] at q
      cases q
  keep := fun i h g st k => by
    obtain ⟨⟨old, he⟩, hr⟩ := st
    exact ⟨⟨old, k e List.mem_cons_self _ he⟩, hr.at fun o z => k r (List.mem_cons_of_mem _ List.mem_cons_self) o z⟩
  item := by
    intro X h1 h2 h3 calm i pins z σ H E I fp st gg
    subst h1 h2 h3
    obtain ⟨⟨old, he⟩, hr⟩ := st
    obtain ⟨xs, x, hq, hx⟩ := gg
    obtain ⟨its, rv, pt, _⟩ := I.tuple hq
    obtain ⟨u, hu, ru⟩ := rv.get hx
    have tup : z.heap.IsTuple a its.toArray := pt
    have el : e < z.heap.objs.size := Heap.lt_size he
    obtain ⟨o1, g1, c1, d1⟩ := id hr
    have rl : r < z.heap.objs.size := Heap.lt_size g1
    obtain ⟨o2, g2, c2, _⟩ := id tup
    have er : e ≠ r := fun q => by
      have y := Option.some.inj (he.symm.trans (q ▸ g1))
      rw [← y] at c1
      exact absurd (Value.type.inj c1) (by decide)
    have ea : e ≠ a := fun q => by
      have y := Option.some.inj (he.symm.trans (q ▸ g2))
      rw [← y] at c2
      exact absurd (Value.type.inj c2) (by decide)
    have ra : a ≠ r := fun q => by
      have y := Option.some.inj (g1.symm.trans (q ▸ g2))
      rw [← y, c1] at c2
      exact absurd (Value.type.inj c2) (by decide)
    have hd : X.A.in1.handled = none := I.ok.hd calm
    have hlt : i < its.toArray.size := by
      have q := (List.getElem?_eq_some_iff.mp hu).1
      simpa using q
    have nin : e ∉ [r, a] := fun q => (List.mem_cons.mp q).elim er fun q => ea (List.mem_singleton.mp q)
    refine wpAny_pyNext_enum_itemD (Draws.tuple (prog := X.prog) (w := X.w) hd r a ra its.toArray) he ⟨hr, tup⟩ hlt er nin fun y g tk py ho st2 hT hsz hk => ?_
    have hy : y = u := by
      have q : its.toArray[i]? = some y := py
      have q2 : its.toArray[i]? = some u := by simpa using hu
      exact Option.some.inj (q.symm.trans q2)
    subst hy
    refine ⟨_, rfl, wpAny_letOwnedTupleGo_enum (s := { z with heap := g, toks := tk + 1 }) ho fun g2 he2 sb => ?_⟩
    have keep : ∀ b o, b ∉ [e, r] → z.heap.get? b = some o → g2.get? b = some o := fun b o nb q => by
      have nbe : b ≠ e := fun w => nb (by rw [w]; exact List.mem_cons_self)
      have nbr : b ≠ r := fun w => nb (by rw [w]; exact List.mem_cons_of_mem _ List.mem_cons_self)
      exact (sb.2 b nbe).trans (hk b o nbe nbr q)
    have T2 : g2.get? z.heap.objs.size = some { cls := .type "tuple", data := .seq #[.int i tk, y] } := (sb.2 _ (Nat.ne_of_gt el)).trans hT
    have fit : ObjOk X.prog X.w (upd H z.heap.objs.size (.tup [.int (i : Nat), x])) g2 z.heap.objs.size (.tup [.int (i : Nat), x]) :=
      ⟨by show 2 ≤ sizeLine; decide, [.int i tk, y], .cons ⟨_, rfl⟩ (.cons ru .nil), ⟨_, T2, rfl, _, rfl⟩⟩
    have J : Inv X pins σ (upd H z.heap.objs.size (.tup [.int (i : Nat), x])) { z with heap := g2, toks := tk + 1 } := I.turnedNew (ch := [e, r]) keep fp (Nat.le_refl _) fit
    refine ⟨.ref z.heap.objs.size, _, J, rfl, ⟨_, x, rfl, I.hok.fresh (Nat.le_refl _), rfl, fun ys hy => by rw [I.tuple_inj hy hq]; exact hx⟩, ⟨⟨y, ?_⟩, ?_⟩, fun b hb => ?_⟩
    · have e1 : ((i + 1 : Nat) : Int) = (i : Int) + 1 := by omega
      rw [e1]
      exact he2
    · exact st2.1.at fun o q => (sb.2 r (Ne.symm er)).trans q
    · have lt : b < z.heap.objs.size := by
        rcases List.mem_cons.mp hb with w | w
        · exact w ▸ el
        · exact List.mem_singleton.mp w ▸ rl
      rw [upd_ne (Nat.ne_of_lt lt)]
      exact (fp b hb).1
  done := by
    intro X h1 h2 h3 calm i pins z σ H E I fp st gg
    subst h1 h2 h3
    obtain ⟨⟨old, he⟩, hr⟩ := st
    obtain ⟨xs, hq, hx⟩ := gg
    obtain ⟨its, rv, pt, _⟩ := I.tuple hq
    have tup : z.heap.IsTuple a its.toArray := pt
    have hl := rv.length
    obtain ⟨f0, f1, f2, f3, f4, f5⟩ := fp r (List.mem_cons_of_mem _ List.mem_cons_self)
    obtain ⟨o1, g1, c1, d1⟩ := id hr
    obtain ⟨o2, g2, c2, _⟩ := id tup
    have ra : a ≠ r := fun q => by
      have y := Option.some.inj (g1.symm.trans (q ▸ g2))
      rw [← y, c1] at c2
      exact absurd (Value.type.inj c2) (by decide)
    have hT : z.TypeIs (.ref e) "enumerate" := ⟨_, he, rfl⟩
    have hd : X.A.in1.handled = none := I.ok.hd calm
    unfold pyNext
    refine wpAny_bind (wpAny_attempt (wpAny_callSpecial?_slot (name := Str.ofString "__next__") hT F.slot_enumerate_next
      (wpAny_call_entry F.slot_enumerate_next hT F.entry_enumerate_next ?_ (F.args_enumerate_next_1 _))))
    show wpAny _ _ (field (.ref e) 2 >>= _) _ _ _
    refine wpAny_bind (wpAny_field he rfl (x := .ref r) rfl ?_)
    refine wpAny_bind (wpAny_nextOf_tuple_end hd hr tup (by simp; omega) fun g x hext hstop => ?_)
    obtain ⟨o, ho, hc⟩ := hstop
    refine wpAny_bind (wpAny_isInstance (T := "StopIteration") (b := true) ⟨o, ho, hc⟩ isSubtype_stop ?_)
    exact wpAny_pure ⟨rfl, I.turned (t' := z.toks) (fun b o hb q => hext b o hb q) f0 f1 f3 f4 f5⟩
  self := fun A i z Q E st h => by
    obtain ⟨⟨_, he⟩, _⟩ := st
    exact wpAny_pyIter_enum he h
def iEn (K : PySem.W.Frag) (ta : TA) : TI := fun σ H R => ta σ H fun vs G => ∃ a xs, vs = [.ref a] ∧ SqT K G a xs ∧ R (ItEn K a) G
/-- for i, x in enumerate(t) -/
theorem pi_enT {X : Cx} {e : Expr} {ta : TA} {p pos tp : Pos} {ts : List Expr} {kk : Nat} (hg : Gl X "enumerate") (hm : X.mg "enumerate" = none) (ha : PA X [e] ta) (hs : starEach [e] X.env = [(false, eval e X.env)] := by rfl) :
    PI X (.Tuple ts kk tp) (.Call (.Name "enumerate" p) [e] [] pos) (iEn X.K ta) := by
  refine ⟨fun pins s σ H R I h => ?_⟩
  refine Call_ (ld_blt I hg hm boot_enumerate (PyProof.Rows.callWith_type1 (thn (ha.run pos pins s σ H _ I h) fun us s1 ⟨vs, H1, I1, r1, a, xs, ev, hq, q⟩ => ?_) hs rfl))
  subst ev
  obtain ⟨u, rfl, ru⟩ := vals1 r1
  obtain rfl : u = Value.ref a := ru
  obtain ⟨its, rv, pt, _⟩ := I1.tuple hq
  refine en_call (begins_tuple a its.toArray) (show s1.heap.IsTuple a its.toArray from pt) fun g he hr hk => wpAny_pyIter_enum he ?_
  have I2 : Inv X pins σ H1 { s1 with heap := g } := I1.kept (t' := s1.toks) hk
  refine ⟨s1.heap.objs.size + 1, [s1.heap.objs.size + 1, s1.heap.objs.size], _, _, H1, rfl, I2, turn_en a (s1.heap.objs.size + 1) s1.heap.objs.size, ⟨⟨.none, he⟩, _, hr, rfl, rfl⟩, fun b hb => ?_, q⟩
  have ge : s1.heap.objs.size ≤ b := by
    rcases List.mem_cons.mp hb with z | z
    · exact z ▸ Nat.le_succ _
    · exact List.mem_singleton.mp z ▸ Nat.le_refl _
  exact I1.fpOk ge (I1.hok.fresh ge)
theorem for_en {K : PySem.W.Frag} {a : Addr} {xs : List V} {g : TG} {tb : TS} {D : Ends} {σ : L2.St} {H : Hp} (Pv : Nat → L2.St → Hp → Prop) (h0 : Pv 0 σ H) (stay : ∀ i σ G, i ≤ xs.length → Pv i σ G → SqT K G a xs)
    (hs : ∀ i x T σ G, xs[i]? = some x → Pv i σ G → G T = none → g (.ref T) σ (upd G T (.tup [.int (i : Nat), x])) fun σ2 H2 => tb { D with nx := Pv (i + 1), ct := Pv (i + 1), bk := D.nx } σ2 H2) (hd : ∀ σ G, Pv xs.length σ G → D.nx σ G) :
    ∃ W : Nat → Nat → L2.St → Hp → Prop, (∃ m, W 0 m σ H) ∧ ∀ i m σ H, W i m σ H →
      ((ItEn K a).stop i H ∧ D.nx σ H) ∨ ((ItEn K a).go i H ∧ ∃ N : L2.St → Hp → Prop, (∀ σ' H', N σ' H' → ∃ m', m' < m ∧ W (i + 1) m' σ' H') ∧ ∀ v H', (ItEn K a).yld i H v H' → g v σ H' fun σ2 H2 => tb { D with nx := N, ct := N, bk := D.nx } σ2 H2) := by
  refine ⟨fun i m σ G => m = xs.length - i ∧ i ≤ xs.length ∧ Pv i σ G, ⟨_, rfl, Nat.zero_le _, h0⟩, fun i m σ G hw => ?_⟩
  obtain ⟨rfl, hi, hp⟩ := hw
  have hq := stay i σ G hi hp
  by_cases hlt : i < xs.length
  · refine .inr ⟨⟨xs, xs[i], hq, List.getElem?_eq_getElem hlt⟩, Pv (i + 1), fun σ' H' hp' => ⟨_, by omega, rfl, hlt, hp'⟩, fun v G' hy => ?_⟩
    obtain ⟨T, x, rfl, hT, rfl, hx⟩ := hy
    exact hs i x T σ G (hx xs hq) hp hT
  · have e : i = xs.length := by omega
    subst e
    exact .inl ⟨⟨xs, hq, Nat.le_refl _⟩, hd σ G hp⟩
theorem lc_en {K : PySem.W.Frag} {a : Addr} {xs : List V} {g : TG} {tt : TT} {te : TE} {vs : List Nat} {σ : L2.St} {H1 : Hp} {D : Addr} {Qd : Hp → Prop} (Pv : Nat → Hp → Prop) (h0 : Pv 0 (upd H1 D (.lst []))) (stay : ∀ i G, i ≤ xs.length → Pv i G → SqT K G a xs)
    (hs : ∀ i x T G, xs[i]? = some x → Pv i G → G T = none → g (.ref T) (wipe σ vs) (upd G T (.tup [.int (i : Nat), x])) fun σ2 H2 => wipe σ2 vs = wipe σ vs ∧ tt σ2 H2 fun b H3 =>
      if b = true then te σ2 H3 fun y H4 => ∃ acc, H4 D = some (.lst acc) ∧ acc.length < sizeLine ∧ Pv (i + 1) (upd H4 D (.lst (acc ++ [y]))) else Pv (i + 1) H3) (hd : ∀ H, Pv xs.length H → Qd H) :
    ∃ W : Nat → Nat → Hp → Prop, (∃ m, W 0 m (upd H1 D (.lst []))) ∧ ∀ i m H, W i m H →
      ((ItEn K a).stop i H ∧ Qd H) ∨ ((ItEn K a).go i H ∧ ∃ Nx : Hp → Prop, (∀ H', Nx H' → ∃ m', m' < m ∧ W (i + 1) m' H') ∧ ∀ v H', (ItEn K a).yld i H v H' → g v (wipe σ vs) H' fun σ2 H2 => wipe σ2 vs = wipe σ vs ∧ tt σ2 H2 fun b H3 =>
        if b = true then te σ2 H3 fun y H4 => ∃ acc, H4 D = some (.lst acc) ∧ acc.length < sizeLine ∧ Nx (upd H4 D (.lst (acc ++ [y]))) else Nx H3) := by
  refine ⟨fun i m G => m = xs.length - i ∧ i ≤ xs.length ∧ Pv i G, ⟨_, rfl, Nat.zero_le _, h0⟩, fun i m G hw => ?_⟩
  obtain ⟨rfl, hi, hp⟩ := hw
  have hq := stay i G hi hp
  by_cases hlt : i < xs.length
  · refine .inr ⟨⟨xs, xs[i], hq, List.getElem?_eq_getElem hlt⟩, Pv (i + 1), fun H' hp' => ⟨_, by omega, rfl, hlt, hp'⟩, fun v G' hy => ?_⟩
    obtain ⟨T, x, rfl, hT, rfl, hx⟩ := hy
    exact hs i x T G (hx xs hq) hp hT
  · have e : i = xs.length := by omega
    subst e
    exact .inl ⟨⟨xs, hq, Nat.le_refl _⟩, hd G hp⟩
end Gd
/-! Tables as data and as objects: what the laws share. -/
namespace Gd
open PySem PySem.Spec PyProof.Rows L2
theorem strs_inv {K : PySem.W.Frag} {H : Hp} : ∀ {ss : List Str} {vs : List V}, DpAll K H vs (ss.map .str) → vs = ss.map V.str
  | [], _, h => by cases h; rfl
  | s :: r, _, h => by
    cases h with
    | cons a t =>
      cases a
      rw [strs_inv t]
      rfl
theorem ints_inv {K : PySem.W.Frag} {H : Hp} : ∀ {ns : List Int} {vs : List V}, DpAll K H vs (ns.map .int) → vs = ns.map V.int
  | [], _, h => by cases h; rfl
  | s :: r, _, h => by
    cases h with
    | cons a t =>
      cases a
      rw [ints_inv t]
      rfl
theorem tup_inv {K : PySem.W.Frag} {H : Hp} {v : V} {ds : List PyData} (h : Dp K H v (.tuple ds)) : ∃ q vs, v = .ref q ∧ SqT K H q vs ∧ DpAll K H vs ds := by
  cases h with
  | tup hs ha => exact ⟨_, _, rfl, hs, ha⟩
theorem tints_inv {K : PySem.W.Frag} {H : Hp} {v : V} {ns : List Int} (h : Dp K H v (.tuple (ns.map .int))) : ∃ q, v = .ref q ∧ SqT K H q (ns.map V.int) := by
  obtain ⟨q, vs, rfl, hs, ha⟩ := tup_inv h
  rw [ints_inv ha] at hs
  exact ⟨q, rfl, hs⟩
theorem dp_tup_strs {K : PySem.W.Frag} {H : Hp} {q : Addr} {l : List Str} (h : SqT K H q (l.map V.str)) : Dp K H (.ref q) (.tuple (l.map .str)) := .tup h (dpAll_strs l)
/-- a name: one to eight small letters -/
def Nm (z : Str) : Prop := (1 ≤ z.length ∧ z.length ≤ 8) ∧ ∀ c ∈ z.cps.toList, 97 ≤ c ∧ c ≤ 122
/-- names, ascending -/
def AscS (ss : List Str) : Prop := ss.Pairwise fun x y => x.cps.toList < y.cps.toList
def AscI (ns : List Int) : Prop := ns.Pairwise (· < ·)
theorem pw_next {α : Type} {R : α → α → Prop} : ∀ {l : List α} {i : Nat} {x y : α}, l.Pairwise R → l[i]? = some x → l[i + 1]? = some y → R x y
  | [], _, _, _, _, h, _ => by simp at h
  | a :: r, 0, x, y, p, h1, h2 => by
    simp at h1 h2
    subst h1
    exact (List.pairwise_cons.mp p).1 y (List.mem_of_getElem? h2)
  | a :: r, i + 1, x, y, p, h1, h2 => pw_next (l := r) (i := i) (List.pairwise_cons.mp p).2 (by simpa using h1) (by simpa using h2)
/-- whether any value is a tuple of numbers below a limit -/
def NumsV (K : PySem.W.Frag) (H : Hp) (lim : Int) (x : V) (b : Bool) : Prop :=
  (∃ n, TyN K H x n ∧ kitB n "tuple" = some false ∧ b = false) ∨ (∃ (p : Addr) (xs : List V) (bs : List Bool), x = .ref p ∧ SqT K H p xs ∧ xs.length ≤ 1000 ∧ NumVs K H lim xs bs ∧ b = bs.all id)
/-- names and lots -/
structure TD where
  kinds : List Str
  types : List (Str × List Int)
structure TOk (t : TD) : Prop where
  k1 : 1 ≤ t.kinds.length
  k8 : t.kinds.length ≤ 8
  kn : ∀ z ∈ t.kinds, Nm z
  ka : AscS t.kinds
  t12 : t.types.length ≤ 12
  tn : ∀ p ∈ t.types, Nm p.1
  ta : AscS (t.types.map (·.1))
  la : ∀ p ∈ t.types, AscI p.2
  lb : ∀ p ∈ t.types, ∀ n ∈ p.2, 0 ≤ n ∧ n < (t.kinds.length : Int)
def kindsD (t : TD) : PyData := .tuple (t.kinds.map .str)
def typeD (p : Str × List Int) : PyData := .tuple [.str p.1, .tuple (p.2.map .int)]
def typesD (t : TD) : PyData := .tuple (t.types.map typeD)
theorem asc_len {ns : List Int} {k : Nat} (h : AscI ns) (b : ∀ n ∈ ns, 0 ≤ n ∧ n < (k : Int)) : ns.length ≤ k := by
  have key : ∀ (l : List Int) (lo : Int), AscI l → (∀ n ∈ l, lo ≤ n ∧ n < (k : Int)) → (l.length : Int) ≤ max 0 ((k : Int) - lo) := by
    intro l
    induction l with
    | nil => intro lo _ _; simp; omega
    | cons x r ih =>
      intro lo p q
      obtain ⟨p1, p2⟩ := List.pairwise_cons.mp p
      have hx := q x List.mem_cons_self
      have := ih (x + 1) p2 fun n hn => ⟨by have := p1 n hn; omega, (q n (List.mem_cons_of_mem _ hn)).2⟩
      rw [List.length_cons]
      omega
  have := key ns 0 h b
  omega
theorem TOk.lot8 {t : TD} (h : TOk t) {p : Str × List Int} (m : p ∈ t.types) : p.2.length ≤ 8 := Nat.le_trans (asc_len (h.la p m) (h.lb p m)) h.k8
theorem kinds_sq {K : PySem.W.Frag} {H : Hp} {pk : Addr} {t : TD} (h : Dp K H (.ref pk) (kindsD t)) : SqT K H pk (t.kinds.map V.str) := by
  obtain ⟨q, vs, e, hs, ha⟩ := tup_inv h
  cases e
  rw [strs_inv ha] at hs
  exact hs
theorem types_sq {K : PySem.W.Frag} {H : Hp} {pt : Addr} {t : TD} (h : Dp K H (.ref pt) (typesD t)) : ∃ us, SqT K H pt us ∧ DpAll K H us (t.types.map typeD) := by
  obtain ⟨q, vs, e, hs, ha⟩ := tup_inv h
  cases e
  exact ⟨vs, hs, ha⟩
theorem type_inv {K : PySem.W.Frag} {H : Hp} {v : V} {p : Str × List Int} (h : Dp K H v (typeD p)) : ∃ q l, v = .ref q ∧ SqT K H q [.str p.1, .ref l] ∧ SqT K H l (p.2.map V.int) := by
  obtain ⟨q, vs, rfl, hs, ha⟩ := tup_inv h
  cases ha with
  | cons a r =>
  cases r with
  | cons b r =>
  cases r
  cases a
  obtain ⟨l, rfl, hl⟩ := tints_inv b
  exact ⟨q, l, rfl, hs, hl⟩
theorem type_at {K : PySem.W.Frag} {H : Hp} {us : List V} {t : TD} {i : Nat} {x : V} (h : DpAll K H us (t.types.map typeD)) (e : us[i]? = some x) : ∃ p, t.types[i]? = some p ∧ Dp K H x (typeD p) := by
  have hl := dpAll_len h
  rw [List.length_map] at hl
  have hi : i < t.types.length := by rw [← hl]; exact (List.getElem?_eq_some_iff.mp e).1
  obtain ⟨v, hv, dv⟩ := dpAll_get h (i := i) (d := typeD t.types[i]) (by rw [List.getElem?_map, List.getElem?_eq_getElem hi]; rfl)
  obtain rfl : v = x := Option.some.inj (hv.symm.trans e)
  exact ⟨_, List.getElem?_eq_getElem hi, dv⟩
theorem types_at {K : PySem.W.Frag} {H : Hp} {us : List V} {t : TD} {i : Nat} {p : Str × List Int} (h : DpAll K H us (t.types.map typeD)) (e : t.types[i]? = some p) : ∃ x, us[i]? = some x ∧ Dp K H x (typeD p) :=
  dpAll_get h (i := i) (d := typeD p) (by rw [List.getElem?_map, e]; rfl)
theorem noList_strs (l : List Str) : noListAll (l.map .str) = true := noListAll_mem fun d hd => by
  obtain ⟨x, _, rfl⟩ := List.mem_map.mp hd
  rfl
theorem noList_intsD (l : List Int) : noListAll (l.map .int) = true := noListAll_mem fun d hd => by
  obtain ⟨x, _, rfl⟩ := List.mem_map.mp hd
  rfl
theorem noList_kinds (t : TD) : noList (kindsD t) = true := by
  rw [kindsD, noList]
  exact noList_strs _
theorem noList_type (p : Str × List Int) : noList (typeD p) = true := by
  simp [typeD, noList, noListAll, noList_intsD]
theorem noList_types (t : TD) : noList (typesD t) = true := by
  rw [typesD, noList]
  exact noListAll_mem fun d hd => by
    obtain ⟨p, _, rfl⟩ := List.mem_map.mp hd
    exact noList_type p
mutual
theorem dp_sq {K : PySem.W.Frag} {H G : Hp} (e : ∀ a xs, SqT K H a xs → SqT K G a xs) : ∀ (d : PyData) (v : V), noList d = true → Dp K H v d → Dp K G v d
  | .none, _, _, h => by cases h; exact .non
  | .bool b, _, _, h => by cases h; exact .bl b
  | .int i, _, _, h => by cases h; exact .int i
  | .str x, _, _, h => by cases h; exact .str x
  | .list ds, _, n, _ => by simp [noList] at n
  | .tuple ds, _, n, h => by
    cases h with
    | tup hs ha => exact .tup (e _ _ hs) (dpAll_sq e ds _ (by simpa [noList] using n) ha)
  | .dict _, _, _, h => by cases h
theorem dpAll_sq {K : PySem.W.Frag} {H G : Hp} (e : ∀ a xs, SqT K H a xs → SqT K G a xs) : ∀ (ds : List PyData) (vs : List V), noListAll ds = true → DpAll K H vs ds → DpAll K G vs ds
  | [], _, _, h => by cases h; exact .nil
  | d :: ds, _, n, h => by
    have n' : noList d = true ∧ noListAll ds = true := by simpa [noListAll] using n
    cases h with
    | cons h1 h2 => exact .cons (dp_sq e d _ n'.1 h1) (dpAll_sq e ds _ n'.2 h2)
end
/-- tuples stand, where all but an instance stands -/
theorem sqT_ins {K : PySem.W.Frag} {H G : Hp} {p C dx : Addr} {fs : List (Str × V)} (hp : H p = some (.ins C dx fs)) (k : ∀ b o, b ≠ p → H b = some o → G b = some o) (a : Addr) (xs : List V) (h : SqT K H a xs) : SqT K G a xs := by
  rcases h with (z | ⟨o, z⟩) | z
  · exact .inl (.inl (k _ _ (ne_of z hp (by intro q; cases q)) z))
  · exact .inl (.inr ⟨o, k _ _ (ne_of z hp (by intro q; cases q)) z⟩)
  · exact .inr z
/-! costs -/
theorem nm_fine {z : Str} (h : Nm z) : fine (.str z) = true := fine_str.mpr fun c hc => by have := h.2 c hc; omega
theorem type_fine {p : Str × List Int} {k : Nat} (h : Nm p.1) (b : ∀ n ∈ p.2, 0 ≤ n ∧ n < (k : Int)) (hk : k ≤ 8) : fine (typeD p) = true := by
  have e : fineAll (p.2.map .int) = true := fineAll_mem fun d hd => by
    obtain ⟨x, hx, rfl⟩ := List.mem_map.mp hd
    have := b x hx
    rw [fine]
    exact decide_eq_true (by omega)
  simp only [typeD, fine, fineAll, e, Bool.and_true]
  have := nm_fine h
  rw [fine] at this
  exact this
theorem lot_cost (l : List Int) : costAll (l.map .int) = 12 * l.length := cost_ints l
theorem table_fine {t : TD} (h : TOk t) : (fine (kindsD t) = true ∧ (kindsD t).depth ≤ 5 ∧ costD (kindsD t) ≤ 1000) ∧ (fine (typesD t) = true ∧ (typesD t).depth ≤ 5 ∧ costD (typesD t) ≤ 10000) := by
  have cs : ∀ l : List Str, (∀ z ∈ l, Nm z) → costAll (l.map .str) ≤ 84 * l.length := fun l hl => by
    induction l with
    | nil => rw [List.map_nil, costAll]; exact Nat.le_refl 0
    | cons z r ih =>
      have h1 := ih fun y hy => hl y (List.mem_cons_of_mem _ hy)
      have h2 := (hl z List.mem_cons_self).1.2
      rw [List.map_cons, costAll, costD, List.length_cons]
      omega
  have ct : ∀ l : List (Str × List Int), (∀ p ∈ l, Nm p.1 ∧ p.2.length ≤ 8) → costAll (l.map typeD) ≤ 300 * l.length := fun l hl => by
    induction l with
    | nil => rw [List.map_nil, costAll]; exact Nat.le_refl 0
    | cons p r ih =>
      have h1 := ih fun y hy => hl y (List.mem_cons_of_mem _ hy)
      have h2 := (hl p List.mem_cons_self).1.1.2
      have h3 := (hl p List.mem_cons_self).2
      rw [List.map_cons, costAll, List.length_cons]
      simp only [typeD, costD, costAll, lot_cost]
      omega
  refine ⟨⟨?_, ?_, ?_⟩, ?_, ?_, ?_⟩
  · rw [kindsD, fine]
    exact fineAll_mem fun d hd => by
      obtain ⟨z, hz, rfl⟩ := List.mem_map.mp hd
      exact nm_fine (h.kn z hz)
  · rw [kindsD, PyData.depth]
    have : PyData.depthAll (t.kinds.map .str) ≤ 1 := depthAll_mem fun d hd => by
      obtain ⟨z, _, rfl⟩ := List.mem_map.mp hd
      simp [PyData.depth]
    omega
  · rw [kindsD, costD]
    have h1 := cs t.kinds h.kn
    have h2 := h.k8
    omega
  · rw [typesD, fine]
    exact fineAll_mem fun d hd => by
      obtain ⟨p, hp, rfl⟩ := List.mem_map.mp hd
      exact type_fine (h.tn p hp) (h.lb p hp) h.k8
  · rw [typesD, PyData.depth]
    have : PyData.depthAll (t.types.map typeD) ≤ 3 := depthAll_mem fun d hd => by
      obtain ⟨p, _, rfl⟩ := List.mem_map.mp hd
      have e : PyData.depthAll (p.2.map .int) ≤ 1 := depthAll_mem fun d hd => by
        obtain ⟨x, _, rfl⟩ := List.mem_map.mp hd
        simp [PyData.depth]
      simp only [typeD, PyData.depth, PyData.depthAll]
      omega
    omega
  · rw [typesD, costD]
    have h1 := ct t.types fun p hp => ⟨h.tn p hp, h.lot8 hp⟩
    have h2 := h.t12
    omega
/-! the object -/
theorem tk_ : ¬ (("types" : Str) = "kinds") := by decide +kernel
theorem kt_ : ¬ (("kinds" : Str) = "types") := fun z => tk_ z.symm
def tf (pk pt : Addr) : List (Str × V) := putF "types" (.ref pt) (putF "kinds" (.ref pk) [])
theorem tf_k (pk pt : Addr) : (tf pk pt).lookup ("kinds" : Str) = some (.ref pk) := by unfold tf; rw [lookup_putF, if_neg kt_, lookup_putF, if_pos rfl]
theorem tf_t (pk pt : Addr) : (tf pk pt).lookup ("types" : Str) = some (.ref pt) := by unfold tf; rw [lookup_putF, if_pos rfl]
theorem tf_no (pk pt : Addr) {m : Str} (h1 : ¬ m = "kinds") (h2 : ¬ m = "types") : (tf pk pt).lookup m = none := by
  unfold tf
  rw [lookup_putF, if_neg h2, lookup_putF, if_neg h1]
  rfl
theorem len_putF2 (f : Str) (v : V) : ∀ fs : List (Str × V), (putF f v fs).length ≤ fs.length + 1
  | [] => Nat.le_refl _
  | (g, u) :: r => by
    have ih := len_putF2 f v r
    unfold putF
    split
    · exact Nat.le_succ _
    · exact Nat.succ_le_succ ih
structure TblAt (K : PySem.W.Frag) (C : Addr) (H : Hp) (p dx pk pt : Addr) (t : TD) : Prop where
  obj : H p = some (.ins C dx (tf pk pt))
  kd : Dp K H (.ref pk) (kindsD t)
  td : Dp K H (.ref pt) (typesD t)
theorem TblAt.keep {K : PySem.W.Frag} {C : Addr} {H G : Hp} {p dx pk pt : Addr} {t : TD} (d : TblAt K C H p dx pk pt t) (k : KeepT H G) : TblAt K C G p dx pk pt t :=
  ⟨k _ _ d.obj (by intro _ q; cases q), dp_keep k _ _ (noList_kinds t) d.kd, dp_keep k _ _ (noList_types t) d.td⟩
theorem TblAt.same {K : PySem.W.Frag} {C : Addr} {H G : Hp} {p dx pk pt : Addr} {t : TD} (d : TblAt K C H p dx pk pt t) (k : Same H G) : TblAt K C G p dx pk pt t := d.keep (.of k)
structure TTxt (K : PySem.W.Frag) (mg : Str → Option Value) (C : Addr) : Prop where
  cl : Cls K C
  nK : NoAttr K C "kinds"
  nT : NoAttr K C "types"
  mgC : mg "Table" = some (.ref C)
end Gd
/-! The names that the laws draw: letters, order. -/
namespace Gd
open PySem PySem.Spec PyProof.Rows L2
theorem lt_tri : ∀ a b : List Nat, a < b ∨ a = b ∨ b < a
  | [], [] => .inr (.inl rfl)
  | [], y :: s => .inl List.Lex.nil
  | x :: r, [] => .inr (.inr List.Lex.nil)
  | x :: r, y :: s => by
    rcases Nat.lt_trichotomy x y with h | h | h
    · exact .inl (List.Lex.rel h)
    · subst h
      rcases lt_tri r s with h | h | h
      · exact .inl (List.Lex.cons h)
      · exact .inr (.inl (by rw [h]))
      · exact .inr (.inr (List.Lex.cons h))
    · exact .inr (.inr (List.Lex.rel h))
theorem lt_tr : ∀ {a b c : List Nat}, a < b → b < c → a < c := fun {a b c} h1 h2 => List.lt_trans h1 h2
theorem str_ext {x y : Str} (h : x.cps.toList = y.cps.toList) : x = y := by
  obtain ⟨a⟩ := x
  obtain ⟨b⟩ := y
  have : a = b := Array.toList_inj.mp h
  rw [this]
theorem rising_asc : ∀ (l : List Str) (p : Str), risingS p l = true → (p :: l).Nodup → AscS (p :: l)
  | [], p, _, _ => List.pairwise_singleton _ _
  | x :: r, p, h, n => by
    have h' : (!ltCps x.cps.toList p.cps.toList && risingS x r) = true := h
    obtain ⟨h1, h2⟩ := Bool.and_eq_true_iff.mp h'
    obtain ⟨n1, n2⟩ := List.nodup_cons.mp n
    have ih := rising_asc r x h2 n2
    have hlt : p.cps.toList < x.cps.toList := by
      rcases lt_tri p.cps.toList x.cps.toList with z | z | z
      · exact z
      · exact absurd (str_ext z ▸ List.mem_cons_self) n1
      · rw [ltCps_eq, decide_eq_true z] at h1
        cases h1
    refine List.pairwise_cons.mpr ⟨fun y hy => ?_, ih⟩
    rcases List.mem_cons.mp hy with e | e
    · exact e ▸ hlt
    · exact lt_tr hlt ((List.pairwise_cons.mp ih).1 y e)
theorem sorted_asc {l : List Str} (h : sortedS l = true) (n : l.Nodup) : AscS l := by
  cases l with
  | nil => exact List.Pairwise.nil
  | cons p r => exact rising_asc r p h n
theorem nodup_of {α : Type} : ∀ {l : List α}, (∀ (i j : Nat) (x : α), l[i]? = some x → l[j]? = some x → i = j) → l.Nodup
  | [], _ => List.nodup_nil
  | a :: r, h => by
    refine List.nodup_cons.mpr ⟨fun m => ?_, nodup_of fun i j x h1 h2 => ?_⟩
    · obtain ⟨k, hk, e⟩ := List.getElem_of_mem m
      have := h 0 (k + 1) a rfl (by rw [List.getElem?_cons_succ, List.getElem?_eq_getElem hk, e])
      omega
    · have := h (i + 1) (j + 1) x (by rw [List.getElem?_cons_succ]; exact h1) (by rw [List.getElem?_cons_succ]; exact h2)
      omega
/-- the letter of a place -/
def letN (first : Nat) (i : Nat) : Nat := 97 + (first + 7 * i) % 26
def nameN (front : Str) (first i : Nat) : Str := front ++ ⟨#[letN first i]⟩
/-- what stands ahead of the letter -/
def Front (z : Str) : Prop := z.length ≤ 7 ∧ ∀ c ∈ z.cps.toList, 97 ≤ c ∧ c ≤ 122
theorem name_cps (front : Str) (first i : Nat) : (nameN front first i).cps.toList = front.cps.toList ++ [letN first i] := app_list _ _
theorem name_len (front : Str) (first i : Nat) : (nameN front first i).length = front.length + 1 := by
  show (nameN front first i).cps.size = front.cps.size + 1
  have := congrArg List.length (name_cps front first i)
  simpa using this
theorem name_nm {front : Str} (h : Front front) (first i : Nat) : Nm (nameN front first i) := by
  have h1 := h.1
  refine ⟨by rw [name_len]; omega, fun c hc => ?_⟩
  rw [name_cps] at hc
  rcases List.mem_append.mp hc with z | z
  · exact h.2 c z
  · have e := List.mem_singleton.mp z
    unfold letN at e
    omega
theorem name_inj {front : Str} {first i j : Nat} (hi : i < 12) (hj : j < 12) (h : nameN front first i = nameN front first j) : i = j := by
  have e := congrArg (fun z : Str => z.cps.toList) h
  simp only [name_cps] at e
  have e2 := List.append_cancel_left e
  have e3 : letN first i = letN first j := by simpa using e2
  unfold letN at e3
  omega
def namesN (front : Str) (first n : Nat) : List Str := (List.range n).map (nameN front first)
theorem namesN_succ (front : Str) (first n : Nat) : namesN front first (n + 1) = namesN front first n ++ [nameN front first n] := by
  unfold namesN
  rw [List.range_succ, List.map_append]
  rfl
theorem namesN_len (front : Str) (first n : Nat) : (namesN front first n).length = n := by
  unfold namesN
  rw [List.length_map, List.length_range]
theorem namesN_get {front : Str} {first n i : Nat} {x : Str} (h : (namesN front first n)[i]? = some x) : i < n ∧ x = nameN front first i := by
  have hi : i < n := by
    have := (List.getElem?_eq_some_iff.mp h).1
    rw [namesN_len] at this
    exact this
  unfold namesN at h
  rw [List.getElem?_map, List.getElem?_range hi] at h
  exact ⟨hi, (Option.some.inj h).symm⟩
theorem namesN_at {front : Str} {first n i : Nat} (hi : i < n) : (namesN front first n)[i]? = some (nameN front first i) := by
  unfold namesN
  rw [List.getElem?_map, List.getElem?_range hi]
  rfl
/-- good names, each once -/
def GoodN (n : Nat) (l : List Str) : Prop := l.length = n ∧ (∀ z ∈ l, Nm z) ∧ l.Nodup
theorem names_good {front : Str} (h : Front front) (first : Nat) {n : Nat} (hn : n ≤ 12) : GoodN n (namesN front first n) := by
  refine ⟨namesN_len _ _ _, fun z hz => ?_, nodup_of fun i j x h1 h2 => ?_⟩
  · obtain ⟨i, _, rfl⟩ := List.mem_map.mp hz
    exact name_nm h _ _
  · obtain ⟨i1, e1⟩ := namesN_get h1
    obtain ⟨j1, e2⟩ := namesN_get h2
    exact name_inj (by omega) (by omega) (e1.symm.trans e2)
theorem names_o {front : Str} (h : Front front) (first : Nat) {n a : Nat} (hn : n ≤ 12) (hl : (nameN front first a).length < 8) {o : Str} (ho : o.cps.toList = [111]) : GoodN n ((namesN front first n).set a (nameN front first a ++ o)) := by
  have lo : o.length = 1 := by
    have := congrArg List.length ho
    simpa [Str.length] using this
  have l2 : (nameN front first a ++ o).length = front.length + 2 := by rw [strLen_append, name_len, lo]
  have nm2 : Nm (nameN front first a ++ o) := by
    rw [name_len] at hl
    refine ⟨by rw [l2]; omega, fun c hc => ?_⟩
    rw [app_list] at hc
    rcases List.mem_append.mp hc with z | z
    · exact (name_nm h first a).2 c z
    · rw [ho] at z
      have := List.mem_singleton.mp z
      omega
  refine ⟨by rw [List.length_set, namesN_len], fun z hz => ?_, nodup_of fun i j x h1 h2 => ?_⟩
  · rcases List.mem_or_eq_of_mem_set hz with m | m
    · obtain ⟨i, _, rfl⟩ := List.mem_map.mp m
      exact name_nm h _ _
    · exact m ▸ nm2
  · have key : ∀ i x, ((namesN front first n).set a (nameN front first a ++ o))[i]? = some x → (i = a ∧ x = nameN front first a ++ o) ∨ (i ≠ a ∧ i < n ∧ x = nameN front first i) := by
      intro i x hx
      by_cases z : i = a
      · subst z
        have hi := (List.getElem?_eq_some_iff.mp hx).1
        rw [List.length_set] at hi
        rw [List.getElem?_set_self hi] at hx
        exact .inl ⟨rfl, (Option.some.inj hx).symm⟩
      · rw [List.getElem?_set_ne (Ne.symm z)] at hx
        obtain ⟨q1, q2⟩ := namesN_get hx
        exact .inr ⟨z, q1, q2⟩
    rcases key i x h1 with ⟨a1, e1⟩ | ⟨a1, b1, e1⟩
    · rcases key j x h2 with ⟨a2, e2⟩ | ⟨a2, b2, e2⟩
      · rw [a1, a2]
      · have := congrArg Str.length (e1.symm.trans e2)
        rw [l2, name_len] at this
        omega
    · rcases key j x h2 with ⟨a2, e2⟩ | ⟨a2, b2, e2⟩
      · have := congrArg Str.length (e1.symm.trans e2)
        rw [l2, name_len] at this
        omega
      · exact name_inj (by omega) (by omega) (e1.symm.trans e2)
theorem good_perm {n : Nat} {l m : List Str} (h : GoodN n l) (p : m.Perm l) : GoodN n m := ⟨p.length_eq.trans h.1, fun z hz => h.2.1 z (p.mem_iff.mp hz), p.nodup_iff.mpr h.2.2⟩
abbrev zAbc : Str := Str.ofString "abcdefghijklmnopqrstuvwxyz"
theorem abc_at {i : Nat} (h : i < 26) : zAbc.cps.toList[i]? = some (97 + i) := by
  have : ∀ i : Fin 26, zAbc.cps.toList[i.val]? = some (97 + i.val) := by decide +kernel
  exact this ⟨i, h⟩
theorem front_lit {z : Str} (h : (decide (z.length ≤ 7) && z.cps.toList.all fun c => decide (97 ≤ c ∧ c ≤ 122)) = true) : Front z := by
  obtain ⟨h1, h2⟩ := Bool.and_eq_true_iff.mp h
  exact ⟨of_decide_eq_true h1, fun c hc => of_decide_eq_true (p := 97 ≤ c ∧ c ≤ 122) (List.all_eq_true.mp h2 c hc)⟩
end Gd
/-! {e for a in xs for b in ys}, numbers; len(set(t)). -/
namespace Gd
open PySem PySem.Spec PyProof.Rows L2
/-- the set comprehension with two clauses, no tests -/
abbrev sx (elt t0 i0 t1 i1 : Expr) (sc : Scope) (pos : Pos) : Expr := .SetComp elt [⟨t0, i0, [], 0⟩, ⟨t1, i1, [], 0⟩] sc pos
theorem sx_turn0 (elt t0 i0 t1 i1 : Expr) (sc : Scope) (pos : Pos) (it acc : Value) (env : Env) : compTurn (sx elt t0 i0 t1 i1 sc pos) 0 it acc env = (standAt i0.pos >>= fun _ => pyNext it >>= fun r => match r with
    | none => pure (.done .next)
    | some v => letOwnedTupleGo t0 it v >>= fun _ => assign t0 env v >>= fun _ =>
      (eval i1 env >>= fun x => standAt i1.pos >>= fun _ => foldedSetIterable i1 env x >>= fun x => holding [x] (pyIter x) >>= fun j => runOwn (.compStart (sx elt t0 i0 t1 i1 sc pos) 1 j acc env) env >>= fun _ =>
        again (.compLoop (sx elt t0 i0 t1 i1 sc pos) 0 it acc env))) := by rfl
theorem sx_turn1 (elt t0 i0 t1 i1 : Expr) (sc : Scope) (pos : Pos) (it acc : Value) (env : Env) : compTurn (sx elt t0 i0 t1 i1 sc pos) 1 it acc env = (standAt i1.pos >>= fun _ => pyNext it >>= fun r => match r with
    | none => pure (.done .next)
    | some v => letOwnedTupleGo t1 it v >>= fun _ => assign t1 env v >>= fun _ =>
      (eval elt env >>= fun x => standAt elt.pos >>= fun _ => call (.builtin "set.add") [acc, x] >>= fun _ => pure ()) >>= fun _ =>
        again (.compLoop (sx elt t0 i0 t1 i1 sc pos) 1 it acc env)) := by rfl
section
variable {prog : Program} {w : World} {A : Around} {R : Result → Shared → Prop} {z : Shared} {elt t0 i0 t1 i1 : Expr} {sc : Scope} {pos : Pos} {it acc : Value} {env : Env}
abbrev nB (prog : Program) (w : World) (A : Around) (env : Env) (R : Result → Shared → Prop) : Value → Shared → Prop := notedBy (model prog w) A env fun e y => R (.error e) y
/-- the first clause's loop -/
theorem sx_loop0 (hs : ∀ x, foldedSetIterable i1 env x = pure x) (J : Nat → Shared → Prop)
    (turn : ∀ n y, J n y → wpAny (model prog w) A (pyNext it) (fun r y1 => match r with
      | none => R (.ok .next) y1
      | some v => wpAny (model prog w) A (letOwnedTupleGo t0 it v) (fun _ y2 => wpAny (model prog w) A (assign t0 env v) (fun _ y3 => wpAny (model prog w) A (eval i1 env) (fun x y4 => wpAny (model prog w) A (pyIter x) (fun j y5 =>
          codeAny (model prog w) A (.compStart (sx elt t0 i0 t1 i1 sc pos) 1 j acc env) (fun r y6 => match r with
            | .ok _ => ∃ m, m < n ∧ J m y6
            | .error _ => False) y5) (nB prog w A env R) y4) (nB prog w A env R) y3) (nB prog w A env R) y2) (nB prog w A env R) y1) (nB prog w A env R) y)
    (n : Nat) (h : J n z) : codeAny (model prog w) A (.compLoop (sx elt t0 i0 t1 i1 sc pos) 0 it acc env) R z := by
  refine codeAny_loop rfl J (fun n y hJ => ?_) n h
  show wpAny _ A ((compTurn (sx elt t0 i0 t1 i1 sc pos) 0 it acc env).onRaise (fun x => do noteFrame x env; theTreesLotGoes x)) _ _ y
  refine wpAny_noted ?_
  rw [sx_turn0]
  refine wpAny_bind (wpAny_standAt (wpAny_bind (wpAny_mono (turn n y hJ) (fun r y1 q1 => ?_) fun _ _ e => e)))
  cases r with
  | none => exact wpAny_pure q1
  | some v =>
    refine wpAny_bind (wpAny_mono q1 (fun _ y2 q2 => wpAny_bind (wpAny_mono q2 (fun _ y3 q3 => wpAny_bind (wpAny_mono q3 (fun x y4 q4 => ?_) fun _ _ e => e)) fun _ _ e => e)) fun _ _ e => e)
    refine wpAny_bind (wpAny_standAt (wpAny_bind (wpAny_of_eq (hs x) (wpAny_bind (wpAny_holding (wpAny_mono q4 (fun j y5 q5 => ?_) fun _ _ e => e))))))
    refine wpAny_bind (wpAny_runOwn ?_)
    rw [Around.mark_none]
    refine codeAny_mono q5 fun r y6 hr => ?_
    cases r with
    | error e => exact hr.elim
    | ok f =>
      first
        | exact wpAny_pure ⟨rfl, hr⟩
        | exact wpAny_bind (wpAny_pure (wpAny_pure ⟨rfl, hr⟩))
/-- the second's -/
theorem sx_loop1 (J : Nat → Shared → Prop)
    (turn : ∀ n y, J n y → wpAny (model prog w) A (pyNext it) (fun r y1 => match r with
      | none => R (.ok .next) y1
      | some v => wpAny (model prog w) A (letOwnedTupleGo t1 it v) (fun _ y2 => wpAny (model prog w) A (assign t1 env v) (fun _ y3 => wpAny (model prog w) A (eval elt env) (fun x y4 =>
          wpAny (model prog w) A (call (.builtin "set.add") [acc, x]) (fun _ y5 => ∃ m, m < n ∧ J m y5) (nB prog w A env R) y4) (nB prog w A env R) y3) (nB prog w A env R) y2) (nB prog w A env R) y1) (nB prog w A env R) y)
    (n : Nat) (h : J n z) : codeAny (model prog w) A (.compLoop (sx elt t0 i0 t1 i1 sc pos) 1 it acc env) R z := by
  refine codeAny_loop rfl J (fun n y hJ => ?_) n h
  show wpAny _ A ((compTurn (sx elt t0 i0 t1 i1 sc pos) 1 it acc env).onRaise (fun x => do noteFrame x env; theTreesLotGoes x)) _ _ y
  refine wpAny_noted ?_
  rw [sx_turn1]
  refine wpAny_bind (wpAny_standAt (wpAny_bind (wpAny_mono (turn n y hJ) (fun r y1 q1 => ?_) fun _ _ e => e)))
  cases r with
  | none => exact wpAny_pure q1
  | some v =>
    refine wpAny_bind (wpAny_mono q1 (fun _ y2 q2 => wpAny_bind (wpAny_mono q2 (fun _ y3 q3 => ?_) fun _ _ e => e)) fun _ _ e => e)
    exact wpAny_bind (wpAny_bind (wpAny_mono q3 (fun x y4 q4 => wpAny_bind (wpAny_standAt (wpAny_bind (wpAny_mono q4 (fun _ y5 q5 => wpAny_pure (wpAny_pure ⟨rfl, q5⟩)) fun _ _ e => e)))) fun _ _ e => e))
/-- a clause's start -/
theorem sx_start {d : Nat} {g : Comprehension} (hg : (clausesOf (sx elt t0 i0 t1 i1 sc pos))[d]? = some g) (ha : g.is_async = 0) (h0 : codeAny (model prog w) A (.compLoop (sx elt t0 i0 t1 i1 sc pos) d it acc env) R z)
    (h1 : wpAny (model prog w) A (pyIter it) (fun j y => codeAny (model prog w) A (.compLoop (sx elt t0 i0 t1 i1 sc pos) d j acc env) R y) (notedBy (model prog w) A env fun x y => R (.error x) y) z) :
    codeAny (model prog w) A (.compStart (sx elt t0 i0 t1 i1 sc pos) d it acc env) R z := by
  refine codeAny_of_tree ?_
  show wpAny _ _ ((compStart (sx elt t0 i0 t1 i1 sc pos) d it acc env).onRaise (fun x => do noteFrame x env; standAt theWindowsPlace)) _ _ z
  refine wpAny_notedAt ?_
  unfold compStart
  rw [hg]
  have e0 : (Option.some g).elim false (fun x => x.is_async != 0) = false := by
    show (g.is_async != 0) = false
    rw [ha]
    rfl
  rw [e0]
  show wpAny _ _ (ask >>= _) _ _ z
  refine wpAny_bind (wpAny_askSetting (wpAny_ite ?_))
  split
  · first
      | exact wpAny_bind (wpAny_pure (wpAny_pure (And.intro rfl h0)))
      | exact wpAny_pure (And.intro rfl h0)
  · first
      | exact wpAny_bind (wpAny_rule (wpAny_bind (wpAny_standAt (wpAny_bind (wpAny_mono h1 (fun j y q => wpAny_pure (And.intro rfl q)) fun _ _ e => e)))))
      | (refine wpAny_bind (wpAny_rule ?_); show wpAny _ _ (standAt g.iter.pos >>= _) _ _ z; exact wpAny_bind (wpAny_standAt (wpAny_bind (wpAny_mono h1 (fun j y q => wpAny_pure (And.intro rfl q)) fun _ _ e => e))))
end
theorem fresh_set {prog : Program} {w : World} {A : Around} {E : Value → Shared → Prop} {z : Shared} {Q : Value → Shared → Prop}
    (h : Q (.ref z.heap.objs.size) { z with heap := z.heap.push { cls := .type "set", dict := none, data := .set #[] 0 (.fresh 0 0 (!w.params.followText "set-order")) } }) : wpAny (model prog w) A (newSet (.type "set")) Q E z := by
  unfold newSet
  refine wpAny_bind (wpAny_byText ?_)
  exact wpAny_newObj_type h (by show 0 ≤ _; exact Nat.zero_le _)
/-- the reading: the set at D, kept by W, W1 -/
def tSx (w : World) (wi : TI) (g : TG) (wi1 : TI) (g1 : TG) (te : TE) (vs vs1 : List Nat) : TE := fun σ H Q => wi σ H fun J H1 => ∀ D, H1 D = none → ∃ W : Nat → Nat → Hp → Prop, (∃ m, W 0 m (upd H1 D (SetO w D (fun _ => false) 0))) ∧ ∀ i m G, W i m G →
  (J.stop i G ∧ Q (.ref D) G) ∨ (J.go i G ∧ ∃ N : Hp → Prop, (∀ G', N G' → ∃ n, n < m ∧ W (i + 1) n G') ∧ ∀ x G', J.yld i G x G' → g x (wipe σ vs) G' fun σ2 G2 => wipe σ2 vs = wipe σ vs ∧ wi1 σ2 G2 fun J1 G3 => ∃ W1 : Nat → Nat → Hp → Prop, (∃ m, W1 0 m G3) ∧
    ∀ j k G4, W1 j k G4 → (J1.stop j G4 ∧ N G4) ∨ (J1.go j G4 ∧ ∃ N1 : Hp → Prop, (∀ G', N1 G' → ∃ n, n < k ∧ W1 (j + 1) n G') ∧ ∀ y G', J1.yld j G4 y G' → g1 y (wipe σ2 vs1) G' fun σ3 G5 => wipe σ3 vs1 = wipe σ2 vs1 ∧
      te σ3 G5 fun u G6 => ∃ (k0 : Int) (S : Int → Bool) (c : Nat), u = .int k0 ∧ G6 D = some (SetO w D S c) ∧ c + 1 < scanBound ∧ N1 (upd G6 D (SetO w D (fun a => S a || decide (a = k0)) (if S k0 = true then c else c + 1)))))
section
variable {X : Cx}
theorem pe_sx {elt t0 i0 t1 i1 : Expr} {sc : Scope} {own : List (Str × Nat)} {vs1 : List Nat} {pos : Pos} {wi wi1 : TI} {g g1 : TG} {te : TE} (hc : X.calm = true) (hN : X.N.Nodup) (hi : PI X t0 i0 wi) (ok : BlkOk X.N X.env.scope sc own) (hv : ∀ i ∈ vs1, i ∈ own.map (·.2))
    (hg : ∀ (s : Shared) (H : Hp) (C : Addr) (cl : List (Str × Addr)) (fp : List Addr), PG (X.blk s H sc (compEnvC sc cl C X.env) fp) t0 g) (hi1 : ∀ (s : Shared) (H : Hp) (C : Addr) (cl : List (Str × Addr)) (fp : List Addr), PI (X.blk s H sc (compEnvC sc cl C X.env) fp) t1 i1 wi1)
    (hg1 : ∀ (s : Shared) (H : Hp) (C : Addr) (cl : List (Str × Addr)) (fp : List Addr), PG (X.blk s H sc (compEnvC sc cl C X.env) fp) t1 g1) (he : ∀ (s : Shared) (H : Hp) (C : Addr) (cl : List (Str × Addr)) (fp : List Addr), PE (X.blk s H sc (compEnvC sc cl C X.env) fp) elt te)
    (hs : ∀ x, foldedSetIterable i0 X.env x = pure x := by intro _; rfl) (hs1 : ∀ env x, foldedSetIterable i1 env x = pure x := by intro _ _; rfl) :
    PE X (sx elt t0 i0 t1 i1 sc pos) (tSx X.w wi g wi1 g1 te (own.map (·.2)) vs1) := by
  refine ⟨fun pins s σ H Q I h => ?_⟩
  rw [arm_eval_SetComp]
  have hfree : ∀ y ∈ sc.names, y.2 = .free → ∃ c, X.env.cells.lookup y.1 = some c := fun y hy e => by
    rcases ok.free y hy e with k | k
    · exact I.ok.has _ (.inl k)
    · exact I.ok.has _ (.inr k)
  show wpAny _ _ (comprehension (sx elt t0 i0 t1 i1 sc pos) sc X.env (firstIterPos [⟨t0, i0, [], 0⟩, ⟨t1, i1, [], 0⟩] pos) (newSet (.type "set")) false (eval i0 X.env)) _ _ s
  refine wpAny_comprehension_free (use := none) rfl hs (closure_ok hfree) ok.kind (fun y hy e => by rw [ok.uniq y hy, e])
    (thn (hi.run pins s σ H _ I h) fun xv s1 hx => thn hx fun itv s2 h2 => ?_)
  obtain ⟨it, fp, tn, J, H2, e, I2, T, st2, f2, q⟩ := h2
  subst e
  refine fresh_set (newEnv_comp ?_)
  generalize hD : s2.heap.objs.size = D
  have nD : H2 D = none := I2.hok.fresh (Nat.le_of_eq hD)
  obtain ⟨W, ⟨m0, w0⟩, turn⟩ := q D nD
  have fr := setR_fresh (h := s2.heap) X.w
  rw [hD] at fr
  have big : ∀ b o, s2.heap.get? b = some o → (s2.heap.push { cls := .type "set", dict := none, data := .set #[] 0 (.fresh 0 0 (!X.w.params.followText "set-order")) }).get? b = some o := fun b o e => Heap.get?_push_of_some _ e
  have grow : s2.heap.objs.size < (s2.heap.push { cls := .type "set", dict := none, data := .set #[] 0 (.fresh 0 0 (!X.w.params.followText "set-order")) }).objs.size := by
    rw [Heap.size_push]
    exact Nat.lt_succ_self _
  generalize hp3 : s2.heap.push { cls := .type "set", dict := none, data := .set #[] 0 (.fresh 0 0 (!X.w.params.followText "set-order")) } = p3 at fr big grow ⊢
  generalize hs3 : ({ s2 with heap := p3 } : Shared) = s3
  have h3 : s3.heap = p3 := by rw [← hs3]
  have I3 : Inv X pins σ (upd H2 D (SetO X.w D (fun _ => false) 0)) s3 := by
    rw [← hs3]
    exact I2.laid (t' := s2.toks) big (Nat.le_of_eq hD) (setO_new fr)
  have szf : ∀ b ∈ fp, b < s2.heap.objs.size := fun b hb => by
    obtain ⟨o, e, _⟩ := T.obj _ _ st2 b hb
    exact Heap.lt_size e
  have f3 : ∀ b ∈ fp, FpOk X pins (upd H2 D (SetO X.w D (fun _ => false) 0)) b ∧ b < s3.heap.objs.size := fun b hb => by
    have lt := szf b hb
    refine ⟨⟨?_, (f2 b hb).2⟩, by rw [h3]; exact Nat.lt_trans lt grow⟩
    rw [upd_ne (by rw [← hD]; exact Nat.ne_of_lt lt)]
    exact (f2 b hb).1
  have st3 : tn 0 s3.heap := T.keep _ _ _ st2 fun b _ o e => by rw [h3]; exact big b o e
  have I4 := block_start I3 ok hN f3
  have pg := hg s3 (upd H2 D (SetO X.w D (fun _ => false) 0)) s3.heap.objs.size (cellsFrom (s3.heap.objs.size + 1) sc.names (cloFrom X.env.cells sc.names [])) fp
  have pe := he s3 (upd H2 D (SetO X.w D (fun _ => false) 0)) s3.heap.objs.size (cellsFrom (s3.heap.objs.size + 1) sc.names (cloFrom X.env.cells sc.names [])) fp
  have pj := hi1 s3 (upd H2 D (SetO X.w D (fun _ => false) 0)) s3.heap.objs.size (cellsFrom (s3.heap.objs.size + 1) sc.names (cloFrom X.env.cells sc.names [])) fp
  have ph := hg1 s3 (upd H2 D (SetO X.w D (fun _ => false) 0)) s3.heap.objs.size (cellsFrom (s3.heap.objs.size + 1) sc.names (cloFrom X.env.cells sc.names [])) fp
  have nfp : ∀ b ∈ fp, (upd H2 D (SetO X.w D (fun _ => false) 0)) b = none := fun b hb => (f3 b hb).1.1
  show codeAny _ _ (.compStart (sx elt t0 i0 t1 i1 sc pos) 0 (.ref it) (.ref D) (compEnvC sc (cellsFrom (s3.heap.objs.size + 1) sc.names (cloFrom X.env.cells sc.names [])) s3.heap.objs.size X.env)) (compPost (model X.prog X.w) X.A X.xe none (EP X pins σ Q) (.ref D) s3.heap.objs.size) { s3 with heap := pushCells (s3.heap.push { cls := .type "dict", data := .dict #[] }) sc.names }
  generalize hce : compEnvC sc (cellsFrom (s3.heap.objs.size + 1) sc.names (cloFrom X.env.cells sc.names [])) s3.heap.objs.size X.env = ce at I4 pg pe pj ph ⊢
  have cL : ce.locals = s3.heap.objs.size := by subst hce; rfl
  generalize hH3 : upd H2 D (SetO X.w D (fun _ => false) 0) = H3 at I3 I4 pg pe pj ph w0 nfp f3
  generalize hs4 : ({ s3 with heap := pushCells (s3.heap.push { cls := .type "dict", data := .dict #[] }) sc.names } : Shared) = s4 at I4 ⊢
  have st4 : tn 0 s4.heap := T.keep _ _ _ st3 fun b _ o e => by rw [← hs4]; exact pushCells_keeps _ _ _ _ (Heap.get?_push_of_some _ e)
  have fpk : ∀ {τ : L2.St} {G : Hp} {y : Shared}, Inv (X.blk s3 H3 sc ce fp) [] τ G y → (∀ b ∈ fp, G b = none) → ∀ b ∈ fp, FpOk (X.blk s3 H3 sc ce fp) [] G b := fun {τ G y} K1 nn b hb =>
    ⟨nn b hb, (K1.ok.exf b hb).1, K1.ok.exfs b hb, .inl hb, fun x c e => (K1.ok.exf b hb).2 x c e, fun p hp => absurd (show p ∈ ([] : List (Addr × Obj)) ++ [] from hp) (by simp)⟩
  have loop : codeAny (model X.prog X.w) X.A (.compLoop (sx elt t0 i0 t1 i1 sc pos) 0 (.ref it) (.ref D) ce) (compPost (model X.prog X.w) X.A X.xe none (EP X pins σ Q) (.ref D) s3.heap.objs.size) s4 := by
    refine sx_loop0 (hs1 ce) (fun n y => ∃ i G, Inv (X.blk s3 H3 sc ce fp) [] (wipe σ (own.map (·.2))) G y ∧ tn i y.heap ∧ (∀ b ∈ fp, G b = none) ∧ W i n G) ?_ m0 ⟨0, H3, I4, st4, nfp, w0⟩
    rintro n s5 ⟨i, H5, I5, st5, n5, w5⟩
    rcases turn i n H5 w5 with ⟨stop, fin⟩ | ⟨go, N, hN2, step⟩
    · refine thnF (T.done (X.blk s3 H3 sc ce fp) rfl rfl rfl hc i [] s5 _ H5 (fun _ _ => False) I5 (fpk I5 n5) st5 stop) fun r s6 ⟨hr, I6⟩ => ?_
      subst hr
      have I7 : Inv X pins σ H5 s6 := I3.call' (ch := fp) I6.os I6.base I6.hok I6.bare fun b hb => ⟨(f3 b hb).1.2.2.2.1, (f3 b hb).1.2.1, (f3 b hb).1.2.2.2.2.1, (f3 b hb).1.2.2.2.2.2⟩
      have nC : H5 s3.heap.objs.size = none := by
        have z : H5 ce.locals = none := I6.free
        rw [cL] at z
        exact z
      obtain ⟨m, hm, _⟩ := I6.loc
      have hm : s6.heap.Ns ce.locals m := hm
      rw [cL] at hm
      obtain ⟨g0, g1', g2, g3, g4, g5⟩ := I3.fpOk (Nat.le_refl _) nC
      exact ⟨m, hm, fun h'' sb => ⟨.ref D, H5, I7.turned (t' := s6.toks) (fun b o hb e => (sb.2 b hb).trans e) g0 g1' g3 g4 g5, rfl, fin⟩⟩
    · refine thnF (T.item (X.blk s3 H3 sc ce fp) rfl rfl rfl hc i [] s5 _ H5 (fun _ _ => False) I5 (fpk I5 n5) st5 go) fun r s6 ⟨u, hr, h6⟩ => ?_
      subst hr
      refine thnF h6 fun _ s7 ⟨x, H7, I7, r7, y7, st7, n7⟩ => ?_
      have I7' := I7.pinned (fpk I7 n7) (T.obj _ _ st7)
      refine thnF (pg.run _ s7 _ H7 x u _ I7' r7 (step x H7 y7)) fun _ s8 ⟨σ8, H8, I8, hw8, q8⟩ => ?_
      have back : ∀ {τ : L2.St} {y : Shared} {G : Hp}, Inv (X.blk s3 H3 sc ce fp) ([] ++ pinsAt fp s7.heap) τ G y → (wipe σ (own.map (·.2))).length = τ.length → (∀ (j : Nat) v, (wipe σ (own.map (·.2)))[j]? = some (some v) → τ[j]? = some (some v)) → N G →
          ∃ m, m < n ∧ ∃ i G, Inv (X.blk s3 H3 sc ce fp) [] (wipe σ (own.map (·.2))) G y ∧ tn i y.heap ∧ (∀ b ∈ fp, G b = none) ∧ W i m G := fun {τ y G} K1 hl hk nx => by
        obtain ⟨m', hm, w'⟩ := hN2 G nx
        have pin : ∀ b ∈ fp, ∀ o, s7.heap.get? b = some o → y.heap.get? b = some o ∧ G b = none := fun b hb o e =>
          let z := K1.pin (b, o) (List.mem_append_right _ (List.mem_append_right _ (mem_pinsAt hb e)))
          ⟨z.1, z.2.1⟩
        refine ⟨m', hm, i + 1, G, (K1.unpinned (pins := [])).weak hl hk, T.keep _ _ _ st7 fun b hb o e => (pin b hb o e).1, fun b hb => ?_, w'⟩
        obtain ⟨o, e, _⟩ := T.obj _ _ st7 b hb
        exact (pin b hb o e).2
      have hl8 : (wipe σ (own.map (·.2))).length = σ8.length := by rw [← hw8, wipe_length]
      have hk9 : ∀ (j : Nat) v, (wipe σ (own.map (·.2)))[j]? = some (some v) → (wipe σ8 vs1)[j]? = some (some v) := fun j v e => by
        rw [← hw8] at e
        obtain ⟨e1, e2⟩ := wipe_some e
        rw [wipe_out fun z => e2 (hv j z)]
        exact e1
      refine thnF (pj.run _ s8 σ8 H8 _ I8 q8) fun xv s10 hx => thnF hx fun itv s11 h11 => ?_
      obtain ⟨it1, fp1, tn1, J1, H11, e1, I11, T1, st11, f11, W1, ⟨m1, w1⟩, turn1⟩ := h11
      subst e1
      have fpk1 : ∀ {G : Hp}, (∀ b ∈ fp1, G b = none) → ∀ b ∈ fp1, FpOk (X.blk s3 H3 sc ce fp) ([] ++ pinsAt fp s7.heap) G b := fun nn b hb => ⟨nn b hb, (f11 b hb).2⟩
      have loop1 : codeAny (model X.prog X.w) X.A (.compLoop (sx elt t0 i0 t1 i1 sc pos) 1 (.ref it1) (.ref D) ce)
          (fun r y => match r with
            | .ok _ => ∃ m, m < n ∧ ∃ i G, Inv (X.blk s3 H3 sc ce fp) [] (wipe σ (own.map (·.2))) G y ∧ tn i y.heap ∧ (∀ b ∈ fp, G b = none) ∧ W i m G
            | .error _ => False) s11 := by
        refine sx_loop1 (fun k y => ∃ j G, Inv (X.blk s3 H3 sc ce fp) ([] ++ pinsAt fp s7.heap) (wipe σ8 vs1) G y ∧ tn1 j y.heap ∧ (∀ b ∈ fp1, G b = none) ∧ W1 j k G) ?_ m1 ⟨0, H11, I11.weak (wipe_length _ _) (fun j v e => (wipe_some e).1), st11, fun b hb => (f11 b hb).1, w1⟩
        rintro k s12 ⟨j, H12, I12, st12, n12, w12⟩
        rcases turn1 j k H12 w12 with ⟨stop1, nx1⟩ | ⟨go1, N1, hN1, step1⟩
        · refine thnF (T1.done (X.blk s3 H3 sc ce fp) rfl rfl rfl hc j _ s12 (wipe σ8 vs1) H12 (fun _ _ => False) I12 (fpk1 n12) st12 stop1) fun r s13 ⟨hr, I13⟩ => ?_
          subst hr
          exact back I13 (hl8.trans (wipe_length σ8 vs1).symm) hk9 nx1
        · refine thnF (T1.item (X.blk s3 H3 sc ce fp) rfl rfl rfl hc j _ s12 (wipe σ8 vs1) H12 (fun _ _ => False) I12 (fpk1 n12) st12 go1) fun r s13 ⟨u1, hr, h13⟩ => ?_
          subst hr
          refine thnF h13 fun _ s14 ⟨x1, H14, I14, r14, y14, st14, n14⟩ => ?_
          have I14' := I14.pinned (fpk1 n14) (T1.obj _ _ st14)
          refine thnF (ph.run _ s14 (wipe σ8 vs1) H14 x1 u1 _ I14' r14 (step1 x1 H14 y14)) fun _ s15 ⟨σ15, H15, I15, hw15, q15⟩ => ?_
          refine thnF (pe.run _ s15 σ15 H15 _ I15 q15) fun uv s17 ⟨yv, H17, I17, r17, k0, S, c, ey, hD17, room, nx⟩ => ?_
          subst ey
          refine thnF (mt_sadd (X := X.blk s3 H3 sc ce fp) _ s17 σ15 H17 (.ref D) [.int k0] _ [uv] (fun _ G => N1 G) I17 rfl (.cons r17 .nil) ⟨D, k0, S, c, rfl, rfl, hD17, room, nx⟩) fun _ s18 ⟨_, H18, I18, _, nx18⟩ => ?_
          obtain ⟨m', hm, w'⟩ := hN1 H18 nx18
          have pin : ∀ b ∈ fp1, ∀ o, s14.heap.get? b = some o → s18.heap.get? b = some o ∧ H18 b = none := fun b hb o e =>
            let z := I18.pin (b, o) (List.mem_append_right _ (List.mem_append_right _ (mem_pinsAt hb e)))
            ⟨z.1, z.2.1⟩
          refine ⟨m', hm, j + 1, H18, I18.unpinned.weak (by rw [← hw15, wipe_length]) (fun j v e => by rw [← hw15] at e; exact (wipe_some e).1), T1.keep _ _ _ st14 fun b hb o e => (pin b hb o e).1, fun b hb => ?_, w'⟩
          obtain ⟨o, e, _⟩ := T1.obj _ _ st14 b hb
          exact (pin b hb o e).2
      exact sx_start (d := 1) rfl rfl loop1 (T1.self X.A 0 _ _ _ st11 loop1)
  exact sx_start (d := 0) rfl rfl loop (T.self X.A 0 _ _ _ st4 loop)
end
end Gd
namespace Gd
open PySem PySem.Spec PyProof.Rows L2
theorem perm_sub : ∀ {ks ns : List Int}, ks.Nodup → (∀ x ∈ ks, x ∈ ns) → ks.length ≤ ns.length ∧ (ks.length = ns.length → ns.Perm ks)
  | [], ns, _, _ => ⟨Nat.zero_le _, fun e => by
    rw [List.length_nil] at e
    rw [List.eq_nil_of_length_eq_zero e.symm]⟩
  | x :: r, ns, n, h => by
    obtain ⟨n1, n2⟩ := List.nodup_cons.mp n
    have hx := h x List.mem_cons_self
    have p := List.perm_cons_erase hx
    have hl := List.length_erase_of_mem hx
    have hp := List.length_pos_of_mem hx
    obtain ⟨i1, i2⟩ := perm_sub (ns := ns.erase x) n2 fun y hy => by
      have hy2 := h y (List.mem_cons_of_mem _ hy)
      have ne : y ≠ x := fun e => n1 (e ▸ hy)
      exact (List.mem_erase_of_ne ne).mpr hy2
    refine ⟨by rw [List.length_cons]; omega, fun e => ?_⟩
    rw [List.length_cons] at e
    exact p.trans ((i2 (by omega)).cons x)
theorem count_nd {ks ns : List Int} (n : ks.Nodup) (h : ∀ x, x ∈ ks ↔ x ∈ ns) : ks.length ≤ ns.length ∧ (ks.length = ns.length ↔ ns.Nodup) := by
  obtain ⟨h1, h2⟩ := perm_sub n fun x hx => (h x).mp hx
  refine ⟨h1, fun e => ?_, fun d => ?_⟩
  · exact ((h2 e).nodup_iff).mpr n
  · have := (perm_sub d fun x hx => (h x).mpr hx).1
    omega
def tLenSetT (K : PySem.W.Frag) (ta : TE) : TE := fun σ H Q => ta σ H fun x G => ∃ (l : Addr) (ns : List Int), x = .ref l ∧ SqT K G l (ns.map V.int) ∧ ns.length ≤ 1000 ∧ ∀ c : Nat, c ≤ ns.length → (c = ns.length ↔ ns.Nodup) → Q (.int (c : Nat)) G
/-- len(set(t)), t a tuple of ints -/
theorem pe_lenSetT {X : Cx} {a : Expr} {ta : TE} {p p2 q pos : Pos} (hg : Gl X "len") (hm : X.mg "len" = none) (hg2 : Gl X "set") (hm2 : X.mg "set" = none) (ha : PE X a ta) (hc : X.calm = true := by rfl)
    (na : starEach [a] X.env = (false, eval a X.env) :: starEach [] X.env := by rfl) : PE X (.Call (.Name "len" p) [.Call (.Name "set" p2) [a] [] q] [] pos) (tLenSetT X.K ta) := by
  refine ⟨fun pins s σ H Q I h => ?_⟩
  refine Call_ (ld_blt I hg hm boot_len (PyProof.Rows.callWith_builtin1 (PyProof.Rows.args_cons ?_ rfl) rfl rfl))
  refine Call_ (ld_blt I hg2 hm2 boot_set (PyProof.Rows.callWith_type1 (PyProof.Rows.args_cons (thn (ha.run pins s σ H _ I h) fun v y ⟨x, G, J, rx, l, ns, ex, hq, hl, fin⟩ => PyProof.Rows.args_nil ?_) na) na rfl))
  subst ex
  cases rx
  obtain ⟨its, r, pl, _⟩ := J.tuple hq
  refine call_set_tupI (P := X.prog) (w := X.w) ns (J.ok.hd hc) (show y.heap.IsTuple l its.toArray from pl) (by simpa using intsAre_of r) (by unfold scanBound; omega) fun g tk c hS _ hk => ?_
  refine PyProof.Rows.args_nil ?_
  obtain ⟨o, es, ep, t, ho, hex, hd, _, hn, hS2, _, hf, hz, _⟩ := hS
  have K2 : Inv X pins σ G { y with heap := g, toks := tk } := J.kept hk
  have cnt := count_nd (ks := es.toList.map keyOf) (ns := ns) hn fun x => by
    have := hS2 x
    rw [decide_eq_true_eq] at this
    exact this.symm
  rw [List.length_map, Array.length_toList, hz] at cnt
  exact call_len_set ho hex hd hf (by rw [hz] <;> omega) ⟨.int c, G, K2.tok _, ⟨_, by rw [hz]⟩, fin c cnt.1 cnt.2⟩
/-- a walk over a tuple, whatever its turn is -/
theorem w_tup {K : PySem.W.Frag} {a : Addr} {xs : List V} {Body : Nat → V → Hp → (Hp → Prop) → Prop} {Q : Hp → Prop} {H0 : Hp} (Pv : Nat → Hp → Prop) (h0 : Pv 0 H0) (stay : ∀ i G, i ≤ xs.length → Pv i G → SqT K G a xs)
    (hs : ∀ i x G, xs[i]? = some x → Pv i G → Body i x G (Pv (i + 1))) (hd : ∀ G, Pv xs.length G → Q G) :
    ∃ W : Nat → Nat → Hp → Prop, (∃ m, W 0 m H0) ∧ ∀ i m G, W i m G → ((Itt K a).stop i G ∧ Q G) ∨ ((Itt K a).go i G ∧ ∃ N : Hp → Prop, (∀ G', N G' → ∃ n, n < m ∧ W (i + 1) n G') ∧ ∀ x G', (Itt K a).yld i G x G' → Body i x G' N) := by
  refine ⟨fun i m G => m = xs.length - i ∧ i ≤ xs.length ∧ Pv i G, ⟨_, rfl, Nat.zero_le _, h0⟩, fun i m G hw => ?_⟩
  obtain ⟨rfl, hi, hp⟩ := hw
  have hq := stay i G hi hp
  by_cases hlt : i < xs.length
  · refine .inr ⟨⟨xs, xs[i], hq, List.getElem?_eq_getElem hlt⟩, Pv (i + 1), fun G' hp' => ⟨_, by omega, rfl, hlt, hp'⟩, fun x G' hy => ?_⟩
    obtain ⟨rfl, hx⟩ := hy
    exact hs i x _ (hx xs hq) hp
  · have e : i = xs.length := by omega
    subst e
    exact .inl ⟨⟨xs, hq, Nat.le_refl _⟩, hd G hp⟩
/-- the set at D holds just ks -/
def SetL (w : World) (G : Hp) (D : Addr) (ks : List Int) : Prop := ks.Nodup ∧ ∃ S : Int → Bool, (∀ k, S k = true ↔ k ∈ ks) ∧ G D = some (SetO w D S ks.length)
theorem SetL.add {w : World} {G : Hp} {D : Addr} {ks : List Int} {S : Int → Bool} (n : ks.Nodup) (h : ∀ k, S k = true ↔ k ∈ ks) (k0 : Int) :
    SetL w (upd G D (SetO w D (fun a => S a || decide (a = k0)) (if S k0 = true then ks.length else ks.length + 1))) D (if k0 ∈ ks then ks else ks ++ [k0]) := by
  by_cases m : k0 ∈ ks
  · rw [if_pos m, if_pos ((h k0).mpr m)]
    refine ⟨n, _, fun k => ?_, upd_same⟩
    rw [Bool.or_eq_true, h, decide_eq_true_iff]
    exact ⟨fun z => z.elim id fun e => e ▸ m, .inl⟩
  · rw [if_neg m, if_neg fun z => m ((h k0).mp z)]
    refine ⟨?_, _, fun k => ?_, by rw [upd_same, List.length_append]; rfl⟩
    · refine List.nodup_append.mpr ⟨n, by simp, fun x hx y hy => ?_⟩
      rw [List.mem_singleton] at hy
      rw [hy]
      exact fun e => m (e ▸ hx)
    · rw [Bool.or_eq_true, h, decide_eq_true_iff, List.mem_append, List.mem_singleton]
theorem nd_bound {ks : List Int} {n : Nat} (h : ks.Nodup) (b : ∀ k ∈ ks, 0 ≤ k ∧ k < (n : Int)) : ks.length ≤ n := by
  have := (perm_sub (ns := (List.range n).map fun i : Nat => (i : Int)) h fun x hx => ?_).1
  · rw [List.length_map, List.length_range] at this
    exact this
  · obtain ⟨h0, h1⟩ := b x hx
    obtain ⟨j, rfl⟩ := Int.eq_ofNat_of_zero_le h0
    exact List.mem_map.mpr ⟨j, List.mem_range.mpr (by omega), rfl⟩
theorem asc_same {a b : List Int} (ha : AscI a) (hb : AscI b) (h : ∀ x, x ∈ a ↔ x ∈ b) : a = b :=
  sorted_same (ha.imp fun h => Int.le_of_lt h) (hb.imp fun h => Int.le_of_lt h) (ha.imp fun h => Int.ne_of_lt h) (hb.imp fun h => Int.ne_of_lt h) h
end Gd
namespace K2
open PySem PySem.Spec PyProof.Rows L2 Gd
def topS (i : Nat) : Stmt := PySem.Challenge.pw_neverregret_k02_whole_takers_both_ways.main.body.getD i (.Pass ⟨0, 0, 0, 0⟩)
abbrev s_is_number : Stmt := topS 4
abbrev n_is_number : List Str := ["value"]
theorem sc_is_number : FnScope n_is_number ["value"] (defScope s_is_number) := ⟨rfl, rfl, rfl, by decide +kernel, rfl, by decide +kernel, by decide +kernel⟩
abbrev s_is_number_below : Stmt := topS 5
abbrev n_is_number_below : List Str := ["value", "limit"]
theorem sc_is_number_below : FnScope n_is_number_below ["value", "limit"] (defScope s_is_number_below) := ⟨rfl, rfl, rfl, by decide +kernel, rfl, by decide +kernel, by decide +kernel⟩
abbrev s_is_name : Stmt := topS 6
abbrev n_is_name : List Str := ["value", "sign"]
theorem sc_is_name : FnScope n_is_name ["value"] (defScope s_is_name) := ⟨rfl, rfl, rfl, by decide +kernel, rfl, by decide +kernel, by decide +kernel⟩
abbrev s_is_tuple_of : Stmt := topS 7
abbrev n_is_tuple_of : List Str := ["value", "length"]
theorem sc_is_tuple_of : FnScope n_is_tuple_of ["value", "length"] (defScope s_is_tuple_of) := ⟨rfl, rfl, rfl, by decide +kernel, rfl, by decide +kernel, by decide +kernel⟩
abbrev s_is_ascending : Stmt := topS 8
abbrev n_is_ascending : List Str := ["items", "at"]
theorem sc_is_ascending : FnScope n_is_ascending ["items"] (defScope s_is_ascending) := ⟨rfl, rfl, rfl, by decide +kernel, rfl, by decide +kernel, by decide +kernel⟩
abbrev s_are_numbers_below : Stmt := topS 9
abbrev n_are_numbers_below : List Str := ["value", "limit", "item"]
theorem sc_are_numbers_below : FnScope n_are_numbers_below ["value", "limit"] (defScope s_are_numbers_below) := ⟨rfl, rfl, rfl, by decide +kernel, rfl, by decide +kernel, by decide +kernel⟩
abbrev s_is_lot_below : Stmt := topS 10
abbrev n_is_lot_below : List Str := ["value", "limit"]
theorem sc_is_lot_below : FnScope n_is_lot_below ["value", "limit"] (defScope s_is_lot_below) := ⟨rfl, rfl, rfl, by decide +kernel, rfl, by decide +kernel, by decide +kernel⟩
abbrev s_is_lot_of_names : Stmt := topS 11
abbrev n_is_lot_of_names : List Str := ["value", "item"]
theorem sc_is_lot_of_names : FnScope n_is_lot_of_names ["value"] (defScope s_is_lot_of_names) := ⟨rfl, rfl, rfl, by decide +kernel, rfl, by decide +kernel, by decide +kernel⟩
abbrev s_InvalidTable_init : Stmt := inClass (topS 14) 0
abbrev n_InvalidTable_init : List Str := ["self", "at"]
theorem sc_InvalidTable_init : FnScope n_InvalidTable_init ["self", "at"] (defScope s_InvalidTable_init) := ⟨rfl, rfl, rfl, by decide +kernel, rfl, by decide +kernel, by decide +kernel⟩
abbrev s_Refused_init : Stmt := inClass (topS 15) 0
abbrev n_Refused_init : List Str := ["self", "word"]
theorem sc_Refused_init : FnScope n_Refused_init ["self", "word"] (defScope s_Refused_init) := ⟨rfl, rfl, rfl, by decide +kernel, rfl, by decide +kernel, by decide +kernel⟩
abbrev s_Table_init : Stmt := inClass (topS 17) 0
abbrev n_Table_init : List Str := ["self", "kinds", "types", "at", "item"]
theorem sc_Table_init : FnScope n_Table_init ["self", "kinds", "types"] (defScope s_Table_init) := ⟨rfl, rfl, rfl, by decide +kernel, rfl, by decide +kernel, by decide +kernel⟩
abbrev s_Table_eq : Stmt := inClass (topS 17) 1
abbrev n_Table_eq : List Str := ["self", "other"]
theorem sc_Table_eq : FnScope n_Table_eq ["self", "other"] (defScope s_Table_eq) := ⟨rfl, rfl, rfl, by decide +kernel, rfl, by decide +kernel, by decide +kernel⟩
abbrev s_is_type_pair : Stmt := topS 18
abbrev n_is_type_pair : List Str := ["value", "many_kinds"]
theorem sc_is_type_pair : FnScope n_is_type_pair ["value", "many_kinds"] (defScope s_is_type_pair) := ⟨rfl, rfl, rfl, by decide +kernel, rfl, by decide +kernel, by decide +kernel⟩
abbrev s_type_names : Stmt := topS 19
abbrev n_type_names : List Str := ["table", "name", "_"]
theorem sc_type_names : FnScope n_type_names ["table"] (defScope s_type_names) := ⟨rfl, rfl, rfl, by decide +kernel, rfl, by decide +kernel, by decide +kernel⟩
abbrev s_accepted : Stmt := topS 20
abbrev n_accepted : List Str := ["table", "request"]
theorem sc_accepted : FnScope n_accepted ["table", "request"] (defScope s_accepted) := ⟨rfl, rfl, rfl, by decide +kernel, rfl, by decide +kernel, by decide +kernel⟩
abbrev s_takers : Stmt := topS 21
abbrev n_takers : List Str := ["table", "kind"]
theorem sc_takers : FnScope n_takers ["table", "kind"] (defScope s_takers) := ⟨rfl, rfl, rfl, by decide +kernel, rfl, by decide +kernel, by decide +kernel⟩
abbrev s_all_takers : Stmt := topS 22
abbrev n_all_takers : List Str := ["table", "kind"]
theorem sc_all_takers : FnScope n_all_takers ["table"] (defScope s_all_takers) := ⟨rfl, rfl, rfl, by decide +kernel, rfl, by decide +kernel, by decide +kernel⟩
abbrev s_types_without : Stmt := topS 23
abbrev n_types_without : List Str := ["table", "kind", "request", "_", "lot"]
theorem sc_types_without : FnScope n_types_without ["table", "kind"] (defScope s_types_without) := ⟨rfl, rfl, rfl, by decide +kernel, rfl, by decide +kernel, by decide +kernel⟩
abbrev s_kinds_of_types : Stmt := topS 24
abbrev n_kinds_of_types : List Str := ["table", "types", "request", "kind"]
theorem sc_kinds_of_types : FnScope n_kinds_of_types ["table", "types"] (defScope s_kinds_of_types) := ⟨rfl, rfl, rfl, by decide +kernel, rfl, by decide +kernel, by decide +kernel⟩
abbrev s_types_of_kinds : Stmt := topS 25
abbrev n_types_of_kinds : List Str := ["table", "kinds", "found", "request", "_", "lot", "kind"]
theorem sc_types_of_kinds : FnScope n_types_of_kinds ["table", "kinds"] (defScope s_types_of_kinds) := ⟨rfl, rfl, rfl, by decide +kernel, rfl, by decide +kernel, by decide +kernel⟩
abbrev s_table_by_takers : Stmt := topS 27
abbrev n_table_by_takers : List Str := ["kinds", "types", "lots", "pairs", "request", "name", "lot", "kind"]
theorem sc_table_by_takers : FnScope n_table_by_takers ["kinds", "types", "lots"] (defScope s_table_by_takers) := ⟨rfl, rfl, rfl, by decide +kernel, rfl, by decide +kernel, by decide +kernel⟩
abbrev s_are_takers : Stmt := topS 28
abbrev n_are_takers : List Str := ["value", "many_types"]
theorem sc_are_takers : FnScope n_are_takers ["value", "many_types"] (defScope s_are_takers) := ⟨rfl, rfl, rfl, by decide +kernel, rfl, by decide +kernel, by decide +kernel⟩
abbrev s_are_alike : Stmt := topS 29
abbrev n_are_alike : List Str := ["table", "one", "other"]
theorem sc_are_alike : FnScope n_are_alike ["table", "one", "other"] (defScope s_are_alike) := ⟨rfl, rfl, rfl, by decide +kernel, rfl, by decide +kernel, by decide +kernel⟩
abbrev s__law_heap : Stmt := topS 31
abbrev n__law_heap : List Str := ["script", "cell", "cells", "stir"]
theorem sc__law_heap : FnScope n__law_heap ["script"] (defScope s__law_heap) := ⟨rfl, rfl, rfl, by decide +kernel, rfl, by decide +kernel, by decide +kernel⟩
abbrev s__law_draw : Stmt := topS 32
abbrev n__law_draw : List Str := ["heap", "many", "rest"]
theorem sc__law_draw : FnScope n__law_draw ["heap", "many"] (defScope s__law_draw) := ⟨rfl, rfl, rfl, by decide +kernel, rfl, by decide +kernel, by decide +kernel⟩
abbrev s__law_pick : Stmt := topS 33
abbrev n__law_pick : List Str := ["heap", "some"]
theorem sc__law_pick : FnScope n__law_pick ["heap", "some"] (defScope s__law_pick) := ⟨rfl, rfl, rfl, by decide +kernel, rfl, by decide +kernel, by decide +kernel⟩
abbrev s__law_names : Stmt := topS 34
abbrev n__law_names : List Str := ["heap", "many", "letters", "front", "first", "at", "found"]
theorem sc__law_names : FnScope n__law_names ["heap", "many"] (defScope s__law_names) := ⟨rfl, rfl, rfl, by decide +kernel, rfl, by decide +kernel, by decide +kernel⟩
abbrev s__law_lot : Stmt := topS 35
abbrev n__law_lot : List Str := ["heap", "many", "share", "at"]
theorem sc__law_lot : FnScope n__law_lot ["heap", "many", "share"] (defScope s__law_lot) := ⟨rfl, rfl, rfl, by decide +kernel, rfl, by decide +kernel, by decide +kernel⟩
abbrev s__law_parts : Stmt := topS 36
abbrev n__law_parts : List Str := ["heap", "kinds", "types", "names", "found", "name", "kind", "lot"]
theorem sc__law_parts : FnScope n__law_parts ["heap", "kinds", "types"] (defScope s__law_parts) := ⟨rfl, rfl, rfl, by decide +kernel, rfl, by decide +kernel, by decide +kernel⟩
abbrev s__law_one_right : Stmt := topS 37
abbrev n__law_one_right : List Str := ["table", "truths", "many", "count", "at", "kind", "due", "rows", "left", "one", "other"]
theorem sc__law_one_right : FnScope n__law_one_right ["table", "truths"] (defScope s__law_one_right) := ⟨rfl, rfl, rfl, by decide +kernel, rfl, by decide +kernel, by decide +kernel⟩
abbrev s__law_lots_right : Stmt := topS 38
abbrev n__law_lots_right : List Str := ["heap", "table", "truths", "many", "count", "share", "types", "kinds", "due", "at", "kind"]
theorem sc__law_lots_right : FnScope n__law_lots_right ["heap", "table", "truths"] (defScope s__law_lots_right) := ⟨rfl, rfl, rfl, by decide +kernel, rfl, by decide +kernel, by decide +kernel⟩
abbrev s__law_heard : Stmt := topS 39
abbrev n__law_heard : List Str := ["kinds", "types", "lots", "error"]
theorem sc__law_heard : FnScope n__law_heard ["kinds", "types", "lots"] (defScope s__law_heard) := ⟨rfl, rfl, rfl, by decide +kernel, rfl, by decide +kernel, by decide +kernel⟩
abbrev s__law_takers_right : Stmt := topS 40
abbrev n__law_takers_right : List Str := ["heap", "table", "truths", "many", "lots", "kind", "at", "left", "mixed", "turn", "names", "told", "odd", "wrong"]
theorem sc__law_takers_right : FnScope n__law_takers_right ["heap", "table", "truths"] (defScope s__law_takers_right) := ⟨rfl, rfl, rfl, by decide +kernel, rfl, by decide +kernel, by decide +kernel⟩
abbrev s_law : Stmt := topS 41
abbrev n_law : List Str := ["script", "heap", "turn", "kinds", "types", "table", "truths", "kind", "name", "lot"]
theorem sc_law : FnScope n_law ["script"] (defScope s_law) := ⟨rfl, rfl, rfl, by decide +kernel, rfl, by decide +kernel, by decide +kernel⟩
end K2
namespace K2
open PySem PySem.Spec PyProof.Rows L2 Gd
section
variable {P : Program} {w : World} {K : PySem.W.Frag} {mg : Str → Option Value} {base : Heap}
def spDraw : Sp := fun vs H Q _ => ∃ (h l : Addr) (L : List Int) (st m : Int), vs = [.ref h, .int m] ∧ Hv H h l L st ∧ 0 < m ∧ m < 1000000000 ∧
  ∀ G L' st' r, But h l H G → Hv G h l L' st' → 0 ≤ r → r < m → Q (.int r) G
theorem ok_draw {f : Addr} {fd : FuncData} {k : Nat} (F : Fun K "_law_draw" "_law_draw" s__law_draw f fd) (mi : mg "int" = none) : FnOk P w K mg base CX0 (k + 1) f fd ["heap", "many"] spDraw := by
  refine F.ok sc__law_draw (fun vs H Q E h => ?_) (fun cdv A outer s H vs Q E hr h => ?_)
  · obtain ⟨h, l, L, st, m, rfl, _⟩ := h
    rfl
  · obtain ⟨h, l, L, st, m, rfl, hv, h0, h1, q⟩ := h
    refine ⟨_, pss_cons (ps_while PassesOwn.never (PW.pt (pw_and (pt_cmpR (op_neD hr.units) (pe_ix ix_list (pv 0) pe_int (fun _ _ => rfl)) (pe_lst pa_nil) (nomark _))
        (pw_and1 (pt_cmpR op_eq (pe_ix ix_list (pe_ix ix_list (pv 0) pe_int (fun _ _ => rfl)) (pe_un un_neg pe_int) (fun _ _ => rfl)) pe_int (nomark _)))))
        (pss_one (ps_expr (pe_bm0 PySem.F.plainAttrs_list PySem.F.slot_list_pop PySem.F.type_list_pop mt_pop (pe_ix ix_list (pv 0) pe_int (fun _ _ => rfl))))))
      (pss_cons (ps_if (pt_cmpR (op_neD hr.units) (pe_ix ix_list (pv 0) pe_int (fun _ _ => rfl)) (pe_lst pa_nil) (nomark _))
        (pss_cons (ps_set (i := 2) sc__law_draw.nd rfl (.inl rfl) (pe_bm0 PySem.F.plainAttrs_list PySem.F.slot_list_pop PySem.F.type_list_pop mt_pop (pe_ix ix_list (pv 0) pe_int (fun _ _ => rfl))))
          (pss_cons (ps_expr (pe_bm PySem.F.plainAttrs_list PySem.F.slot_list_append PySem.F.type_list_append mt_append (pe_ix ix_list (pv 0) pe_int (fun _ _ => rfl)) (pa_cons (pe_op op_fdivN (pv 2) (pv 1)) pa_nil)))
            (pss_one (ps_ret (pe_op op_mod (pe_callTy call_int1 (by rfl) mi (by decide +kernel) (pa_cons (pv 2) pa_nil)) (pv 1)))))) pss_nil)
      (pss_cons (ps_asg (pe_op op_mod (pe_callTy call_int1 (by rfl) mi (by decide +kernel) (pa_cons (pe_op op_add (pe_op op_mul (pe_ix ix_list (pv 0) pe_int (fun _ _ => rfl)) pe_int) pe_int) pa_nil)) pe_int) (pg_sub (pv 0) pe_int set_list))
      (pss_one (ps_ret (pe_op op_mod (pe_callTy call_int1 (by rfl) mi (by decide +kernel) (pa_cons (pe_op op_fdivN (pe_ix ix_list (pv 0) pe_int (fun _ _ => rfl)) pe_int) pa_nil)) (pv 1)))))), ?_⟩
    refine ⟨fun n σ G => ∃ M, n = M.length ∧ σ = [some (.ref h), some (.int m), none] ∧ Hv G h l M st ∧ But h l H G, ⟨_, L, rfl, rfl, hv, But.refl _ _ _⟩, fun n σ G hw => ?_⟩
    obtain ⟨M, rfl, rfl, hg, bt⟩ := hw
    refine ⟨.ref h, rfl, h, _, 0, .ref l, rfl, rfl, sqL hg.top, atI_nat (j := 0) rfl, Nat.zero_le _, fun p np => ?_⟩
    refine ⟨.list (M.map .int), .list [], dp_ints (hg.new np).bot, .lst (sqL upd_same) .nil, shaped_ints M, rfl, _, rfl, ?_⟩
    have hg1 := hg.new (o := .lst []) np
    have bt1 := bt.new (o := .lst []) np
    rw [eqv_nil]
    by_cases hM : M = []
    · -- the list is empty: a new number
      subst hM
      refine iteF ?_
      refine iteF ?_
      -- if heap[0] != []
      refine ⟨.ref h, rfl, h, _, 0, .ref l, rfl, rfl, sqL hg1.top, atI_nat (j := 0) rfl, Nat.zero_le _, fun p2 np2 => ?_⟩
      refine ⟨.list (([] : List Int).map .int), .list [], dp_ints (hg1.new np2).bot, .lst (sqL upd_same) .nil, shaped_ints [], rfl, _, rfl, ?_⟩
      have hg2 := hg1.new (o := .lst []) np2
      have bt2 := bt1.new (o := .lst []) np2
      rw [eqv_nil]
      refine iteF ?_
      -- heap[1] = int(heap[1] * 48271 + 17) % 2147483647
      have hlo := hv.lo
      have hhi := hv.hi
      refine ⟨.ref h, rfl, h, _, 1, .int st, rfl, rfl, sqL hg2.top, atI_nat (j := 1) rfl, _, _, rfl, rfl, .inl ⟨by omega, by omega⟩, _, _, rfl, rfl, .inl ⟨_, rfl, _, _, rfl, rfl, (by show (0 : Int) < 2147483647; decide), ?_⟩⟩
      have n0 := Int.emod_nonneg (st * 48271 + 17) (show (2147483647 : Int) ≠ 0 by decide)
      have n1 := Int.emod_lt_of_pos (st * 48271 + 17) (show (0 : Int) < 2147483647 by decide)
      refine ⟨.ref h, rfl, h, _, 1, 1, rfl, rfl, hg2.top, rfl, ?_⟩
      have hg3 := hg2.setN n0 n1
      have bt3 : But h l H _ := bt2.atH (o := .lst [.ref l, .int ((st * 48271 + 17) % 2147483647)])
      -- return int(heap[1] // 32) % many
      refine ⟨.ref h, rfl, h, _, 1, _, rfl, rfl, sqL upd_same, atI_nat (j := 1) rfl, _, _, rfl, rfl, ⟨by decide, by decide⟩, .inl ⟨_, rfl, .int m, rfl, _, _, rfl, rfl, h0, ?_⟩⟩
      exact q _ _ _ _ bt3 hg3 (Int.emod_nonneg _ (by omega)) (Int.emod_lt_of_pos _ h0)
    · rw [decide_eq_false hM]
      refine iteT ?_
      -- heap[0][-1] == 0
      refine ⟨.ref h, rfl, h, _, 0, .ref l, rfl, rfl, sqL hg1.top, atI_nat (j := 0) rfl, 1, rfl, l, _, -1, _, rfl, rfl, sqL hg1.bot, last_map hM, rfl, _, rfl, ?_⟩
      have lt : M.dropLast.length < M.length := by
        have := List.length_pos_iff.mpr hM
        rw [List.length_dropLast]
        omega
      by_cases hz : M.getLast hM = 0
      · -- it ends in 0: pop
        rw [hz, decide_eq_true rfl]
        refine iteT ?_
        refine ⟨fun σ' G' => σ' = [some (.ref h), some (.int m), none] ∧ Hv G' h l M.dropLast st ∧ But h l H G', fun σ' G' z => ⟨_, lt, _, rfl, z.1, z.2.1, z.2.2⟩, ?_⟩
        refine ⟨.ref h, rfl, h, _, 0, .ref l, rfl, rfl, sqL hg1.top, atI_nat (j := 0) rfl, .inl ⟨rfl, _, sqL hg1.bot⟩, l, _, _, rfl, rfl, hg1.bot, last_get hM, rfl, ?_, ?_⟩
        · rw [drop_map]
          exact hg1.setL (Nat.le_trans (Nat.le_of_lt lt) hg1.len)
        · exact bt1.atL
      · -- the loop's end
        rw [decide_eq_false (show ¬ V.int (M.getLast hM) = V.int 0 from fun z => hz (V.int.inj z))]
        refine iteF ?_
        -- if heap[0] != []
        refine ⟨.ref h, rfl, h, _, 0, .ref l, rfl, rfl, sqL hg1.top, atI_nat (j := 0) rfl, Nat.zero_le _, fun p2 np2 => ?_⟩
        refine ⟨.list (M.map .int), .list [], dp_ints (hg1.new np2).bot, .lst (sqL upd_same) .nil, shaped_ints M, rfl, _, rfl, ?_⟩
        have hg2 := hg1.new (o := .lst []) np2
        have bt2 := bt1.new (o := .lst []) np2
        rw [eqv_nil, decide_eq_false hM]
        refine iteT ?_
        -- rest = heap[0].pop()
        refine ⟨.ref h, rfl, h, _, 0, .ref l, rfl, rfl, sqL hg2.top, atI_nat (j := 0) rfl, .inl ⟨rfl, _, sqL hg2.bot⟩, l, _, _, rfl, rfl, hg2.bot, last_get hM, ?_⟩
        rw [drop_map]
        have hg3 := hg2.setL (M := M.dropLast) (Nat.le_trans (Nat.le_of_lt lt) hg1.len)
        have bt3 : But h l H _ := bt2.atL (o := .lst (M.dropLast.map V.int))
        -- heap[0].append(rest // many)
        refine ⟨.ref h, rfl, h, _, 0, .ref l, rfl, rfl, sqL hg3.top, atI_nat (j := 0) rfl, .inl ⟨rfl, _, sqL hg3.bot⟩, .int (M.getLast hM), rfl, .int m, rfl, _, _, rfl, rfl, ⟨by omega, by omega⟩, l, _, _, rfl, rfl, hg3.bot, ?_, ?_⟩
        · have := hg1.len
          rw [List.length_map]
          exact small1000 (by omega)
        have e : M.dropLast.map V.int ++ [.int ((M.getLast hM).fdiv m)] = (M.dropLast ++ [(M.getLast hM).fdiv m]).map V.int := by
          rw [List.map_append]
          rfl
        rw [e]
        have hg4 := hg3.setL (M := M.dropLast ++ [(M.getLast hM).fdiv m]) (by
          have := hg1.len
          rw [List.length_append]
          show _ + 1 ≤ 63
          omega)
        have bt4 : But h l H _ := bt3.atL (o := .lst ((M.dropLast ++ [(M.getLast hM).fdiv m]).map V.int))
        -- return int(rest) % many
        refine ⟨.int (M.getLast hM), rfl, .inl ⟨_, rfl, .int m, rfl, _, _, rfl, rfl, h0, ?_⟩⟩
        exact q _ _ _ _ bt4 hg4 (Int.emod_nonneg _ (by omega)) (Int.emod_lt_of_pos _ h0)
def spPick (K : PySem.W.Frag) : Sp := fun vs H Q _ => ∃ (h l : Addr) (L : List Int) (st : Int) (p : Addr) (xs : List V), vs = [.ref h, .ref p] ∧ Hv H h l L st ∧ SqL K H p xs ∧ p ≠ h ∧ p ≠ l ∧ 0 < xs.length ∧ xs.length < 1000 ∧
  ∀ (G : Hp) (L' : List Int) (st' : Int) (i : Nat) (x : V), But h l H G → Hv G h l L' st' → xs[i]? = some x → Q x G
theorem ok_pick {f fD : Addr} {fd fdD : FuncData} {k : Nat} (F : Fun K "_law_pick" "_law_pick" s__law_pick f fd) (FD : Fun K "_law_draw" "_law_draw" s__law_draw fD fdD) (bD : Binds K fdD ["heap", "many"] []) (gD : mg "_law_draw" = some (.ref fD))
    (ml : mg "len" = none) (mi : mg "int" = none) : FnOk P w K mg base CX0 (k + 1 + 1) f fd ["heap", "some"] (spPick K) := by
  have GD : FnOk P w K mg base CX0 (k + 1) fD fdD ["heap", "many"] spDraw := ok_draw FD mi
  refine F.ok sc__law_pick (fun vs H Q E h => ?_) (fun cdv A outer s H vs Q E hr h => ?_)
  · obtain ⟨h, l, L, st, p, xs, rfl, _⟩ := h
    rfl
  · obtain ⟨h, l, L, st, p, xs, rfl, hv, hs, n1, n2, h0, h1, q⟩ := h
    refine ⟨_, pss_one (ps_ret (pe_ix ix_list (pv 1) (pe_call GD hr (by rfl) gD FD.kp bD .nil pass0 (pa_cons (pv 0) (pa_cons (pe_callB call_len_seq (by rfl) ml PySem.boot_len (pa_cons (pv 1) pa_nil)) pa_nil))) (fun _ _ => rfl))), ?_⟩
    refine ⟨.ref p, rfl, .ref h, rfl, .ref p, rfl, p, xs, rfl, .inl hs, h, l, L, st, xs.length, rfl, hv, by omega, by omega, fun G L' st' r bt hv' r0 r1 => ?_⟩
    obtain ⟨i, rfl⟩ := Int.eq_ofNat_of_zero_le r0
    have hi : i < xs.length := by omega
    exact ⟨p, xs, _, xs[i], rfl, rfl, bt.seqL n1 n2 hs, atI_nat (List.getElem?_eq_getElem hi), q G L' st' i _ bt hv' (List.getElem?_eq_getElem hi)⟩
def spHeap (K : PySem.W.Frag) : Sp := fun vs H Q _ => ∃ (a : Addr) (ns : List Int), vs = [.ref a] ∧ SqL K H a (ns.map V.int) ∧ ns.length ≤ 63 ∧
  ∀ (G : Hp) (h l : Addr) (L : List Int) (st : Int), Same H G → H h = none → H l = none → Hv G h l L st → Q (.ref h) G
theorem ok_heap {f : Addr} {fd : FuncData} {k : Nat} (F : Fun K "_law_heap" "_law_heap" s__law_heap f fd) (ma : mg "abs" = none) (mi : mg "int" = none) : FnOk P w K mg base CX0 (k + 1) f fd ["script"] (spHeap K) := by
  refine F.ok sc__law_heap (fun vs H Q E h => ?_) (fun cdv A outer s H vs Q E hr h => ?_)
  · obtain ⟨a, ns, rfl, _⟩ := h
    rfl
  · obtain ⟨a, ns, rfl, hs, hl, q⟩ := h
    refine ⟨_, pss_cons (ps_par (i := 2) (j := 3) rfl sc__law_heap.nd rfl rfl (by decide) rfl rfl (pa_cons (pe_lc (own := [("cell", 1)]) (g := gName 1) (tt := tYes) rfl sc__law_heap.nd (pi_list (pe_slice sl_list (pv 0) po_none (po_some pe_int)))
          (blkOk_by (own := [("cell", 1)]) (N := ["script", "cell", "cells", "stir"]) (sc := defScope s__law_heap) (by decide +kernel)) (fun _ _ _ _ _ => pg_name (i := 1) sc__law_heap.nd rfl (Or.inl rfl)) (fun _ _ _ _ _ => pts_nil)
          (fun _ _ _ _ _ => pe_op op_add (pe_op op_mul pe_int (pe_callB call_abs (by rfl) ma (by decide +kernel) (pa_cons (pv 1) pa_nil))) (pe_callTy call_int1 (by rfl) mi (by decide +kernel) (pa_cons (pe_cmpR op_lt (pv 1) pe_int (nomark _)) pa_nil)))) (pa_cons pe_int pa_nil)) (by rfl))
      (pss_cons (ps_for PassesOwn.never rfl (pi_list (pv 2)) (pg_name (i := 1) sc__law_heap.nd rfl (.inl rfl))
        (pss_one (ps_set (i := 3) sc__law_heap.nd rfl (.inl rfl) (pe_op op_mod (pe_callTy call_int1 (by rfl) mi (by decide +kernel) (pa_cons (pe_op op_add (pe_op op_add (pe_op op_mul (pv 3) pe_int) (pe_op op_mod (pe_callTy call_int1 (by rfl) mi (by decide +kernel) (pa_cons (pv 1) pa_nil)) pe_int)) pe_int) pa_nil)) pe_int))))
      (pss_one (ps_ret (pe_lst (pa_cons (pe_revL (pe_lc (own := [("cell", 1)]) (g := gName 1) rfl sc__law_heap.nd (pi_list (pv 2))
          (blkOk_by (own := [("cell", 1)]) (N := ["script", "cell", "cells", "stir"]) (sc := defScope s__law_heap) (by decide +kernel)) (fun _ _ _ _ _ => pg_name (i := 1) sc__law_heap.nd rfl (Or.inl rfl))
          (fun _ _ _ _ _ => pts_one (pt_cmpR op_ge (pv 1) (pe_op op_pow pe_int pe_int) (nomark _))) (fun _ _ _ _ _ => pv 1))) (pa_cons (pv 3) pa_nil)))))), ?_⟩
    -- script[:60]
    refine ⟨.ref a, rfl, 60, rfl, a, _, rfl, hs, fun p np => ⟨p, rfl, ⟨_, sqL upd_same⟩, fun D nD => ?_⟩⟩
    have s1 : Same H _ := same_new (o := .lst (cutV (ns.map V.int) none (some 60))) np
    have ecut : cutV (ns.map V.int) none (some 60) = (ns.take 60).map V.int := by
      unfold cutV
      rw [HT.sIx_none, show (some (60 : Int)) = some ((60 : Nat) : Int) from rfl, HT.sIx_nat, List.drop_zero, Nat.sub_zero, List.length_map, List.map_take]
      by_cases z : 60 ≤ ns.length
      · rw [Nat.min_eq_left z]
      · rw [Nat.min_eq_right (by omega), List.take_of_length_le (by rw [List.length_map]; exact Nat.le_refl _), List.take_of_length_le (by rw [List.length_map]; omega)]
    rw [ecut] at s1 nD ⊢
    refine lc_list (K := K) (a := p) (xs := (ns.take 60).map V.int) (fun i G => Same (upd H p (.lst ((ns.take 60).map V.int))) G ∧ ∃ cs : List Int, G D = some (.lst (cs.map V.int)) ∧ cs.length = i)
      ⟨same_new nD, [], upd_same, rfl⟩ (fun i G _ hP => sqL (hP.1 _ _ upd_same)) (fun i x G hx hP => ?_) (fun G hP => ?_)
    · obtain ⟨s2, cs, gD, cl⟩ := hP
      obtain ⟨n, hn, rfl⟩ : ∃ n, (ns.take 60)[i]? = some n ∧ V.int n = x := by
        rw [List.getElem?_map] at hx
        cases e : (ns.take 60)[i]? with
        | none => rw [e] at hx; cases hx
        | some n => rw [e] at hx; exact ⟨n, rfl, Option.some.inj hx⟩
      have hi := (List.getElem?_eq_some_iff.mp hn).1
      rw [List.length_take] at hi
      refine ⟨rfl, ?_⟩
      dsimp only [tYes]
      rw [if_pos rfl]
      refine ⟨_, rfl, n, rfl, 2, _, rfl, rfl, .inl ⟨by decide, by decide⟩, _, rfl, _, _, rfl, rfl, .inr ⟨_, rfl, _, _, rfl, rfl, cs.map V.int, gD, ?_, fun b o e => ?_, cs ++ [2 * (if n < 0 then -n else n) + (if decide (n < 0) = true then 1 else 0)], ?_, ?_⟩⟩
      · rw [List.length_map]
        exact small1000 (by omega)
      · rw [upd_ne (ne_of_none e nD)]
        exact s2 _ _ e
      · rw [upd_same, List.map_append]
        rfl
      · rw [List.length_append, cl]
        rfl
    · obtain ⟨s2, cs, gD, cl⟩ := hP
      have sG := s1.trans s2
      rw [List.length_map, List.length_take] at cl
      refine ⟨_, _, rfl, ?_⟩
      -- for cell in cells
      refine ⟨.ref D, rfl, D, rfl, ⟨_, sqL gD⟩, for_list (xs := cs.map V.int) (fun i σ G' => G' = G ∧ ∃ (st : Int) (y : Option V), σ = [some (.ref a), y, some (.ref D), some (.int st)] ∧ 0 ≤ st ∧ st < 2147483647)
        ⟨rfl, 20089, none, rfl, by decide, by decide⟩ (fun i σ G' _ hP => by rw [hP.1]; exact sqL gD) (fun i x σ G' hx hP => ?_) (fun σ G' hP => ?_)⟩
      · obtain ⟨rfl, st, y, rfl, h0, h1⟩ := hP
        obtain ⟨n, rfl⟩ : ∃ n, V.int n = x := by
          rw [List.getElem?_map] at hx
          cases e : cs[i]? with
          | none => rw [e] at hx; cases hx
          | some n => rw [e] at hx; exact ⟨n, Option.some.inj hx⟩
        refine ⟨_, rfl, _, _, rfl, rfl, .inl ⟨by omega, by omega⟩, _, rfl, .inl ⟨_, rfl, _, _, rfl, rfl, (by show (0 : Int) < 2147483563; decide), _, _, rfl, rfl, _, _, rfl, rfl, .inl ⟨_, rfl, _, _, rfl, rfl, (by show (0 : Int) < 2147483647; decide), rfl, _, _, rfl, ?_, ?_⟩⟩⟩
        · exact Int.emod_nonneg _ (by decide)
        · exact Int.emod_lt_of_pos _ (by decide)
      · obtain ⟨rfl, st, y, rfl, h0, h1⟩ := hP
        refine ⟨.ref D, rfl, D, rfl, ⟨_, sqL gD⟩, fun D2 nD2 => ?_⟩
        refine lc_list (K := K) (a := D) (xs := cs.map V.int) (fun i G2 => Same G' G2 ∧ ∃ es : List Int, G2 D2 = some (.lst (es.map V.int)) ∧ es.length ≤ i)
          ⟨same_new nD2, [], upd_same, Nat.le_refl _⟩ (fun i G2 _ hP => sqL (hP.1 _ _ gD)) (fun i x G2 hx hP => ?_) (fun G2 hP => ?_)
        · obtain ⟨s3, es, gE, el⟩ := hP
          obtain ⟨n, hn, rfl⟩ : ∃ n, cs[i]? = some n ∧ V.int n = x := by
            rw [List.getElem?_map] at hx
            cases e : cs[i]? with
            | none => rw [e] at hx; cases hx
            | some n => rw [e] at hx; exact ⟨n, rfl, Option.some.inj hx⟩
          have hi := (List.getElem?_eq_some_iff.mp hn).1
          refine ⟨rfl, _, rfl, 10, 18, rfl, rfl, ⟨by decide, by decide, by decide⟩, _, _, rfl, rfl, _, rfl, ite2 (fun _ => ?_) (fun _ => ⟨s3, es, gE, Nat.le_succ_of_le el⟩)⟩
          refine ⟨_, rfl, es.map V.int, gE, ?_, fun b o e => ?_, es ++ [n], ?_, ?_⟩
          · rw [List.length_map]
            exact small1000 (by omega)
          · rw [upd_ne (ne_of_none e nD2)]
            exact s3 _ _ e
          · rw [upd_same, List.map_append]
            rfl
          · rw [List.length_append]
            exact Nat.succ_le_succ el
        · obtain ⟨s3, es, gE, el⟩ := hP
          rw [List.length_map] at el
          refine ⟨D2, _, rfl, sqL gE, fun l nl => ?_⟩
          refine ⟨_, rfl, by show 2 ≤ sizeLine; decide, fun h nh => ?_⟩
          have s4 : Same G2 _ := same_new (o := .lst (es.map V.int).reverse) nl
          have s5 := s4.trans (same_new (o := .lst [.ref l, .int st]) nh)
          have up : ∀ b, G2 b = none → H b = none := fun b e => by
            cases z : H b with
            | none => rfl
            | some o => exact nomatch (s3 _ _ (sG _ _ z)).symm.trans e
          have nlh : l ≠ h := ne_of_none upd_same nh
          refine q _ h l es.reverse st ((sG.trans s3).trans s5) (up h ((by
            cases z : G2 h with
            | none => rfl
            | some o => exact nomatch (s4 _ _ z).symm.trans nh))) (up l nl) ⟨upd_same, ?_, nlh, h0, h1, ?_⟩
          · rw [upd_ne nlh, upd_same, List.map_reverse]
          · rw [List.length_reverse]
            omega
end
end K2
namespace K2
open PySem PySem.Spec PyProof.Rows L2 Gd
section
variable {P : Program} {w : World} {K : PySem.W.Frag} {mg : Str → Option Value} {base : Heap}
def spNumB (K : PySem.W.Frag) : Sp := fun vs H Q _ => ∃ (x : V) (lim : Int) (b : Bool), vs = [x, .int lim] ∧ NumV K H lim x b ∧ Q (.bl b) H
def spNum (K : PySem.W.Frag) : Sp := fun vs H Q _ => ∃ x : V, vs = [x] ∧ ((∃ i, x = .int i ∧ Q (.bl (decide (0 ≤ i))) H) ∨ (∃ y, x = .bl y ∧ Q (.bl false) H) ∨ (∃ n, TyN K H x n ∧ kitB n "int" = some false ∧ Q (.bl false) H))
theorem ok_num {f : Addr} {fd : FuncData} {k : Nat} (F : Fun K "is_number" "is_number" s_is_number f fd) (mI : mg "isinstance" = none) (mi : mg "int" = none) (mb : mg "bool" = none) : FnOk P w K mg base CX0 (k + 1) f fd ["value"] (spNum K) := by
  refine F.ok sc_is_number (fun vs H Q E h => ?_) (fun cdv A outer s H vs Q E hr h => ?_)
  · obtain ⟨x, rfl, _⟩ := h
    rfl
  · obtain ⟨x, rfl, q⟩ := h
    refine blk_cons (ps_ret (pe_and (pe_callB call_isi (by rfl) mI (by decide +kernel) (pa_cons (pv 0) (pa_cons (pe_bltn (v := .ty "int") (by rfl) mi (by decide +kernel) rfl) pa_nil)))
      (pe_and (pe_not (pe_callB call_isi (by rfl) mI (by decide +kernel) (pa_cons (pv 0) (pa_cons (pe_bltn (v := .ty "bool") (by rfl) mb (by decide +kernel) rfl) pa_nil)))) (pe_one (pe_cmpR op_ge (pv 0) pe_int (nomark _)))))) ?_
    refine blk_nil ?_
    rcases q with ⟨i, rfl, q⟩ | ⟨y, rfl, q⟩ | ⟨n, t, kk, q⟩
    · refine ⟨_, rfl, _, _, _, _, true, rfl, .ty "int", TyN.int i, kit_ty (by decide +kernel), _, rfl, iteT ?_⟩
      refine ⟨_, rfl, _, _, _, _, false, rfl, .ty "bool", TyN.int i, kit_ty (by decide +kernel), _, rfl, _, rfl, iteT ?_⟩
      exact ⟨_, rfl, _, _, rfl, rfl, q⟩
    · refine ⟨_, rfl, _, _, _, _, true, rfl, .ty "int", TyN.bl y, kit_ty (by decide +kernel), _, rfl, iteT ?_⟩
      exact ⟨_, rfl, _, _, _, _, true, rfl, .ty "bool", TyN.bl y, kit_ty (by decide +kernel), _, rfl, _, rfl, iteF q⟩
    · exact ⟨_, rfl, _, _, _, _, false, rfl, .ty "int", t, kit_ty kk, _, rfl, iteF q⟩
theorem ok_numB {f fN : Addr} {fd fdN : FuncData} {k : Nat} (F : Fun K "is_number_below" "is_number_below" s_is_number_below f fd) (FN : Fun K "is_number" "is_number" s_is_number fN fdN) (bN : Binds K fdN ["value"] []) (gN : mg "is_number" = some (.ref fN))
    (mI : mg "isinstance" = none) (mi : mg "int" = none) (mb : mg "bool" = none) : FnOk P w K mg base CX0 (k + 1 + 1) f fd ["value", "limit"] (spNumB K) := by
  have GN : FnOk P w K mg base CX0 (k + 1) fN fdN ["value"] (spNum K) := ok_num FN mI mi mb
  refine F.ok sc_is_number_below (fun vs H Q E h => ?_) (fun cdv A outer s H vs Q E hr h => ?_)
  · obtain ⟨x, lim, b, rfl, _⟩ := h
    rfl
  · obtain ⟨x, lim, b, rfl, hx, q⟩ := h
    refine blk_cons (ps_ret (pe_and (pe_call GN hr (by rfl) gN FN.kp bN .nil pass0 (pa_cons (pv 0) pa_nil)) (pe_one (pe_cmpR op_lt (pv 0) (pv 1) (nomark _))))) ?_
    refine blk_nil ?_
    rcases hx with ⟨i, rfl, rfl⟩ | ⟨y, rfl, rfl⟩ | ⟨n, t, kk, rfl⟩
    · refine ⟨_, rfl, _, rfl, .inl ⟨i, rfl, _, rfl, ?_⟩⟩
      by_cases h0 : 0 ≤ i
      · rw [decide_eq_true h0]
        refine iteT ⟨_, rfl, _, rfl, _, _, rfl, rfl, ?_⟩
        have e : decide (0 ≤ i ∧ i < lim) = decide (i < lim) := decide_eq_decide.mpr ⟨fun z => z.2, fun z => ⟨h0, z⟩⟩
        rw [e] at q
        exact q
      · rw [decide_eq_false h0]
        refine iteF ?_
        rw [decide_eq_false fun z => h0 z.1] at q
        exact q
    · exact ⟨_, rfl, _, rfl, .inr (.inl ⟨y, rfl, _, rfl, iteF q⟩)⟩
    · exact ⟨_, rfl, _, rfl, .inr (.inr ⟨n, t, kk, _, rfl, iteF q⟩)⟩
/-! ### is_name, of a name -/
def spName : Sp := fun vs H Q _ => ∃ z : Str, vs = [.str z] ∧ Nm z ∧ ∀ G, Same H G → Q (.bl true) G
theorem ok_name {f : Addr} {fd : FuncData} {k : Nat} {t : Tok} (F : Fun K "is_name" "is_name" s_is_name f fd) (gL : mg "MOST_LETTERS" = some (.int 8 t)) (mI : mg "isinstance" = none) (ms : mg "str" = none) (ml : mg "len" = none) (ma : mg "all" = none) : FnOk P w K mg base CX0 (k + 1) f fd ["value"] spName := by
  refine F.ok sc_is_name (fun vs H Q E h => ?_) (fun cdv A outer s H vs Q E hr h => ?_)
  · obtain ⟨z, rfl, _⟩ := h
    rfl
  · obtain ⟨z, rfl, hz, q⟩ := h
    refine blk_cons (ps_if (PW.pt (pw_or (pt_not (pt_val (pe_callB call_isi (by rfl) mI (by decide +kernel) (pa_cons (pv 0) (pa_cons (pe_bltn (v := .ty "str") (by rfl) ms (by decide +kernel) rfl) pa_nil)))))
      (pw_or1 (pt_not (pt_chain op_le op_le pe_int (pe_callB call_len_str (by rfl) ml PySem.boot_len (pa_cons (pv 0) pa_nil)) (pe_glob (v := .int 8) (by rfl) gL ⟨_, rfl⟩)))))) (pss_one (ps_ret pe_bl)) pss_nil) ?_
    refine blk_cons (ps_ret (pe_callB (cr_all rfl) (by rfl) ma (by decide +kernel) (pa_cons (pe_lc (own := [("sign", 1)]) (g := gName 1) (tt := tYes) rfl sc_is_name.nd (pi_str (pv 0)) (blkOk_by (own := [("sign", 1)]) (N := n_is_name) (sc := defScope s_is_name) (by decide +kernel))
      (fun _ _ _ _ _ => pg_name (i := 1) sc_is_name.nd rfl (Or.inl rfl)) (fun _ _ _ _ _ => pts_nil) (fun _ _ _ _ _ => pe_chain op_le_str op_le_str pe_str (pv 1) pe_str)) pa_nil))) ?_
    refine blk_nil ?_
    obtain ⟨⟨z1, z8⟩, zc⟩ := hz
    refine ⟨_, rfl, _, _, _, _, true, rfl, .ty "str", TyN.str z, kit_ty (by decide +kernel), _, rfl, iteF ?_⟩
    refine ⟨_, rfl, z, rfl, Nat.le_trans z8 (by decide), _, _, rfl, rfl, _, rfl, ?_⟩
    rw [decide_eq_true (show (1 : Int) ≤ (z.length : Int) by omega)]
    refine iteT ⟨_, _, rfl, rfl, _, rfl, ?_⟩
    rw [decide_eq_true (show (z.length : Int) ≤ 8 by omega)]
    refine iteF ?_
    refine ⟨_, rfl, z, rfl, fun D nD => lc_str (fun i G => Same H G ∧ G D = some (.lst ((List.replicate i true).map V.bl))) ⟨same_new nD, upd_same⟩ (fun i c G hc hP => ?_) (fun G hP => ?_)⟩
    · obtain ⟨s1, gD⟩ := hP
      have hm := zc c (List.mem_of_getElem? hc)
      have hi : i < z.cps.toList.length := (List.getElem?_eq_some_iff.mp hc).1
      have hi8 : i < 8 := Nat.lt_of_lt_of_le hi z8
      refine ⟨rfl, ?_⟩
      dsimp only [tYes]
      rw [if_pos rfl]
      refine ⟨_, rfl, _, _, rfl, rfl, _, rfl, ?_⟩
      have e1 : decide ((⟨#[c]⟩ : Str).cps.toList < (Str.ofString "a").cps.toList) = false := by
        show decide (([c] : List Nat) < [97]) = false
        rw [lt_one]
        exact decide_eq_false (by omega)
      have e2 : decide ((Str.ofString "z").cps.toList < (⟨#[c]⟩ : Str).cps.toList) = false := by
        show decide (([122] : List Nat) < [c]) = false
        rw [lt_one]
        exact decide_eq_false (by omega)
      rw [e1]
      refine iteT ⟨_, _, rfl, rfl, ?_⟩
      rw [e2]
      refine ⟨_, gD, ?_, fun b ob e => ?_, ?_⟩
      · rw [List.length_map, List.length_replicate]
        exact small1000 (by omega)
      · rw [upd_ne (ne_of_none e nD)]
        exact s1 _ _ e
      · rw [upd_same, List.replicate_succ', List.map_append]
        rfl
    · obtain ⟨s1, gD⟩ := hP
      refine ⟨D, _, rfl, sqL gD, ?_⟩
      rw [show (List.replicate z.cps.toList.length true).all id = true from List.all_eq_true.mpr fun x hx => by rw [List.eq_of_mem_replicate hx]; rfl]
      exact q _ s1
end
end K2
namespace Gd
open PySem PySem.Spec PyProof.Rows L2
/-- x < y, ints or texts -/
def rLt2 : V → V → Hp → VK → Prop := fun x y H Q => (∃ i j : Int, x = .int i ∧ y = .int j ∧ Q (.bl (decide (i < j))) H) ∨ (∃ i j : Str, x = .str i ∧ y = .str j ∧ Q (.bl (decide (i.cps.toList < j.cps.toList))) H)
theorem op_lt2 {X : Cx} : OpR X (compareOp .Lt) rLt2 := by
  intro pins s σ H x y v u Q I rx ry h
  rcases h with ⟨i, j, hx, hy, q⟩ | ⟨i, j, hx, hy, q⟩
  · exact op_lt pins s σ H x y v u Q I rx ry ⟨i, j, hx, hy, q⟩
  · exact op_lt_str pins s σ H x y v u Q I rx ry ⟨i, j, hx, hy, q⟩
theorem numV_of {K : PySem.W.Frag} {H : Hp} {lim n : Int} (h : 0 ≤ n ∧ n < lim) : NumV K H lim (.int n) true := .inl ⟨n, rfl, (decide_eq_true h).symm⟩
theorem numsV_ints {K : PySem.W.Frag} {H : Hp} {lim : Int} {p : Addr} {ns : List Int} (h : SqT K H p (ns.map V.int)) (b : ∀ n ∈ ns, 0 ≤ n ∧ n < lim) (l : ns.length ≤ 1000) : NumsV K H lim (.ref p) true := by
  have key : ∀ l : List Int, (∀ n ∈ l, 0 ≤ n ∧ n < lim) → NumVs K H lim (l.map V.int) (l.map fun _ => true) ∧ (l.map fun _ => true).all id = true := fun l hl => by
    induction l with
    | nil => exact ⟨.nil, rfl⟩
    | cons x r ih =>
      obtain ⟨i1, i2⟩ := ih fun n hn => hl n (List.mem_cons_of_mem _ hn)
      exact ⟨.cons (numV_of (hl x List.mem_cons_self)) i1, i2⟩
  obtain ⟨k1, k2⟩ := key ns b
  exact .inr ⟨p, _, _, rfl, h, by rw [List.length_map]; exact l, k1, k2.symm⟩
end Gd
namespace K2
open PySem PySem.Spec PyProof.Rows L2 Gd
section
variable {P : Program} {w : World} {K : PySem.W.Frag} {mg : Str → Option Value} {base : Heap}
def spTupOf (K : PySem.W.Frag) : Sp := fun vs H Q _ => ∃ (x : V) (n : Int), vs = [x, .int n] ∧ ((∃ m, TyN K H x m ∧ kitB m "tuple" = some false ∧ Q (.bl false) H) ∨ (∃ (p : Addr) (xs : List V), x = .ref p ∧ SqT K H p xs ∧ Q (.bl (decide ((xs.length : Int) = n))) H))
theorem ok_tupOf {f : Addr} {fd : FuncData} {k : Nat} (F : Fun K "is_tuple_of" "is_tuple_of" s_is_tuple_of f fd) (mI : mg "isinstance" = none) (mt : mg "tuple" = none) (ml : mg "len" = none) : FnOk P w K mg base CX0 (k + 1) f fd ["value", "length"] (spTupOf K) := by
  refine F.ok sc_is_tuple_of (fun vs H Q E h => ?_) (fun cdv A outer s H vs Q E hr h => ?_)
  · obtain ⟨x, n, rfl, _⟩ := h
    rfl
  · obtain ⟨x, n, rfl, q⟩ := h
    refine blk_cons (ps_ret (pe_and (pe_callB call_isi (by rfl) mI (by decide +kernel) (pa_cons (pv 0) (pa_cons (pe_bltn (v := .ty "tuple") (by rfl) mt (by decide +kernel) rfl) pa_nil)))
      (pe_one (pe_cmpR op_eq (pe_callB call_len_seq (by rfl) ml PySem.boot_len (pa_cons (pv 0) pa_nil)) (pv 1) (nomark _))))) ?_
    refine blk_nil ?_
    rcases q with ⟨m, t, kk, q⟩ | ⟨p, xs, rfl, ht, q⟩
    · exact ⟨_, rfl, _, _, _, _, false, rfl, .ty "tuple", t, kit_ty kk, _, rfl, iteF q⟩
    · refine ⟨_, rfl, _, _, _, _, true, rfl, .ty "tuple", tyT ht, kit_ty (by decide +kernel), _, rfl, iteT ⟨_, rfl, p, xs, rfl, .inr ht, _, rfl, rfl, ?_⟩⟩
      have e : decide (V.int (xs.length : Int) = V.int n) = decide ((xs.length : Int) = n) := decide_eq_decide.mpr ⟨fun z => V.int.inj z, fun z => congrArg V.int z⟩
      rw [e]
      exact q
/-! ### is_ascending, of what is -/
def spAsc (K : PySem.W.Frag) : Sp := fun vs H Q _ => ∃ (p : Addr) (xs : List V), vs = [.ref p] ∧ SqT K H p xs ∧ xs.length ≤ 1000 ∧ ((∃ ns : List Int, xs = ns.map V.int ∧ AscI ns) ∨ (∃ ss : List Str, xs = ss.map V.str ∧ AscS ss)) ∧ ∀ G, Same H G → Q (.bl true) G
theorem ok_asc {f : Addr} {fd : FuncData} {k : Nat} (F : Fun K "is_ascending" "is_ascending" s_is_ascending f fd) (mr : mg "range" = none) (ml : mg "len" = none) (ma : mg "all" = none) : FnOk P w K mg base CX0 (k + 1) f fd ["items"] (spAsc K) := by
  refine F.ok sc_is_ascending (fun vs H Q E h => ?_) (fun cdv A outer s H vs Q E hr h => ?_)
  · obtain ⟨p, xs, rfl, _⟩ := h
    rfl
  · obtain ⟨p, xs, rfl, ht, hl, hx, q⟩ := h
    refine blk_cons (ps_ret (pe_callB (cr_all rfl) (by rfl) ma (by decide +kernel) (pa_cons (pe_lc (own := [("at", 1)]) (g := gName 1) (tt := tYes) rfl sc_is_ascending.nd (pi_range1 (by rfl) mr (pa_cons (pe_op op_sub (pe_callB call_len_seq (by rfl) ml PySem.boot_len (pa_cons (pv 0) pa_nil)) pe_int) pa_nil))
      (blkOk_by (own := [("at", 1)]) (N := n_is_ascending) (sc := defScope s_is_ascending) (by decide +kernel)) (fun _ _ _ _ _ => pg_name (i := 1) sc_is_ascending.nd rfl (Or.inl rfl)) (fun _ _ _ _ _ => pts_nil)
      (fun _ _ _ _ _ => pe_cmpR op_lt2 (pe_ix (r := rIxT K) ix_tup (pv 0) (pv 1) (fun _ _ => rfl)) (pe_ix (r := rIxT K) ix_tup (pv 0) (pe_op op_add (pv 1) pe_int) (fun _ _ => rfl)) (nomark _))) pa_nil))) ?_
    refine blk_nil ?_
    refine ⟨_, rfl, p, xs, rfl, .inr ht, _, _, rfl, rfl, _, rfl, by omega, by omega, fun D nD => lc_range (lo := 0) (fun i G => Same H G ∧ G D = some (.lst ((List.replicate i true).map V.bl))) ⟨same_new nD, upd_same⟩ (fun i G hi hP => ?_) (fun G hP => ?_)⟩
    · obtain ⟨s1, gD⟩ := hP
      have h1 : i < xs.length := by omega
      have h2 : i + 1 < xs.length := by omega
      have ht1 := same_seqT s1 ht
      refine ⟨rfl, ?_⟩
      dsimp only [tYes]
      rw [if_pos rfl]
      refine ⟨_, rfl, _, rfl, p, xs, _, xs[i], rfl, rfl, ht1, at_of (j := i) (by omega) (List.getElem?_eq_getElem h1), _, rfl, _, rfl, _, _, rfl, rfl, p, xs, _, xs[i + 1], rfl, rfl, ht1, at_of (j := i + 1) (by omega) (List.getElem?_eq_getElem h2), ?_⟩
      have fin : ∃ acc, G D = some (.lst acc) ∧ acc.length < sizeLine ∧ Same H (upd G D (.lst (acc ++ [.bl true]))) ∧ (upd G D (.lst (acc ++ [.bl true]))) D = some (.lst ((List.replicate (i + 1) true).map V.bl)) := by
        refine ⟨_, gD, ?_, fun b ob e => ?_, ?_⟩
        · rw [List.length_map, List.length_replicate]
          exact small1000 (by omega)
        · rw [upd_ne (ne_of_none e nD)]
          exact s1 _ _ e
        · rw [upd_same, List.replicate_succ', List.map_append]
          rfl
      rcases hx with ⟨ns, rfl, ha⟩ | ⟨ss, rfl, ha⟩
      · rw [List.length_map] at h1 h2
        have e := pw_next ha (List.getElem?_eq_getElem h1) (List.getElem?_eq_getElem h2)
        refine .inl ⟨ns[i], ns[i + 1], by rw [List.getElem_map], by rw [List.getElem_map], ?_⟩
        rw [decide_eq_true e]
        exact fin
      · rw [List.length_map] at h1 h2
        have e := pw_next ha (List.getElem?_eq_getElem h1) (List.getElem?_eq_getElem h2)
        refine .inr ⟨ss[i], ss[i + 1], by rw [List.getElem_map], by rw [List.getElem_map], ?_⟩
        rw [decide_eq_true e]
        exact fin
    · obtain ⟨s1, gD⟩ := hP
      refine ⟨D, _, rfl, sqL gD, ?_⟩
      rw [show (List.replicate _ true).all id = true from List.all_eq_true.mpr fun x hx => by rw [List.eq_of_mem_replicate hx]; rfl]
      exact q _ s1
/-! ### are_numbers_below -/
def spNums (K : PySem.W.Frag) : Sp := fun vs H Q _ => ∃ (x : V) (lim : Int) (b : Bool), vs = [x, .int lim] ∧ NumsV K H lim x b ∧ ∀ G, Same H G → Q (.bl b) G
theorem ok_nums {f fB fN : Addr} {fd fdB fdN : FuncData} {k : Nat} (F : Fun K "are_numbers_below" "are_numbers_below" s_are_numbers_below f fd) (FB : Fun K "is_number_below" "is_number_below" s_is_number_below fB fdB) (FN : Fun K "is_number" "is_number" s_is_number fN fdN) (bN : Binds K fdN ["value"] []) (bB : Binds K fdB ["value", "limit"] []) (gN : mg "is_number" = some (.ref fN)) (gB : mg "is_number_below" = some (.ref fB))
    (mI : mg "isinstance" = none) (mi : mg "int" = none) (mb : mg "bool" = none) (mt : mg "tuple" = none) (ma : mg "all" = none) : FnOk P w K mg base CX0 (k + 1 + 1 + 1) f fd ["value", "limit"] (spNums K) := by
  have GB : FnOk P w K mg base CX0 (k + 1 + 1) fB fdB ["value", "limit"] (spNumB K) := ok_numB FB FN bN gN mI mi mb
  refine F.ok sc_are_numbers_below (fun vs H Q E h => ?_) (fun cdv A outer s H vs Q E hr h => ?_)
  · obtain ⟨x, lim, b, rfl, _⟩ := h
    rfl
  · obtain ⟨x, lim, b, rfl, hx, q⟩ := h
    refine blk_cons (ps_ret (pe_and (pe_callB call_isi (by rfl) mI (by decide +kernel) (pa_cons (pv 0) (pa_cons (pe_bltn (v := .ty "tuple") (by rfl) mt (by decide +kernel) rfl) pa_nil)))
      (pe_one (pe_callB (cr_all rfl) (by rfl) ma (by decide +kernel) (pa_cons (pe_lc (own := [("item", 2)]) (g := gName 2) (tt := tYes) rfl sc_are_numbers_below.nd (pi_tup (pv 0)) (blkOk_by (own := [("item", 2)]) (N := n_are_numbers_below) (sc := defScope s_are_numbers_below) (by decide +kernel))
        (fun _ _ _ _ _ => pg_name (i := 2) sc_are_numbers_below.nd rfl (Or.inl rfl)) (fun _ _ _ _ _ => pts_nil) (fun _ _ _ _ _ => pe_call GB hr (by rfl) gB FB.kp bB .nil pass0 (pa_cons (pv 2) (pa_cons (pv 1) pa_nil)))) pa_nil))))) ?_
    refine blk_nil ?_
    rcases hx with ⟨n, t, kk, rfl⟩ | ⟨p, xs, bs, rfl, ht, hl, hb, rfl⟩
    · exact ⟨_, rfl, _, _, _, _, false, rfl, .ty "tuple", t, kit_ty kk, _, rfl, iteF (q _ (Same.refl _))⟩
    · have hbl : bs.length = xs.length := (Paired.length hb).symm
      refine ⟨_, rfl, _, _, _, _, true, rfl, .ty "tuple", tyT ht, kit_ty (by decide +kernel), _, rfl, iteT ?_⟩
      refine ⟨.ref p, rfl, p, rfl, ⟨_, ht⟩, fun D nD => lc_tup (K := K) (a := p) (xs := xs) (fun i G => Same H G ∧ G D = some (.lst ((bs.take i).map V.bl))) ⟨same_new nD, upd_same⟩ (fun i G _ hP => same_seqT hP.1 ht) (fun i x G hxi hP => ?_) (fun G hP => ?_)⟩
      · obtain ⟨s1, gD⟩ := hP
        obtain ⟨b0, hb0, hn⟩ := paired_at hb hxi
        refine ⟨rfl, ?_⟩
        dsimp only [tYes]
        rw [if_pos rfl]
        refine ⟨x, rfl, _, rfl, x, lim, b0, rfl, hn.same s1, (bs.take i).map V.bl, gD, ?_, fun b o e => ?_, ?_⟩
        · rw [List.length_map, List.length_take]
          exact small1000 (by omega)
        · rw [upd_ne (ne_of_none e nD)]
          exact s1 _ _ e
        · rw [upd_same, List.take_add_one, hb0, List.map_append]
          rfl
      · obtain ⟨s1, gD⟩ := hP
        rw [← hbl, List.take_length] at gD
        exact ⟨D, bs, rfl, sqL gD, q G s1⟩
/-! ### is_lot_below, is_lot_of_names: of what is -/
def spLot (K : PySem.W.Frag) : Sp := fun vs H Q _ => ∃ (p : Addr) (ns : List Int) (lim : Int), vs = [.ref p, .int lim] ∧ SqT K H p (ns.map V.int) ∧ ns.length ≤ 1000 ∧ AscI ns ∧ (∀ n ∈ ns, 0 ≤ n ∧ n < lim) ∧ ∀ G, Same H G → Q (.bl true) G
theorem ok_lot {f fS fA fB fN : Addr} {fd fdS fdA fdB fdN : FuncData} {k : Nat} (F : Fun K "is_lot_below" "is_lot_below" s_is_lot_below f fd) (FS : Fun K "are_numbers_below" "are_numbers_below" s_are_numbers_below fS fdS) (FA : Fun K "is_ascending" "is_ascending" s_is_ascending fA fdA)
    (FB : Fun K "is_number_below" "is_number_below" s_is_number_below fB fdB) (FN : Fun K "is_number" "is_number" s_is_number fN fdN) (bS : Binds K fdS ["value", "limit"] []) (bA : Binds K fdA ["items"] []) (bN : Binds K fdN ["value"] []) (bB : Binds K fdB ["value", "limit"] []) (gS : mg "are_numbers_below" = some (.ref fS)) (gA : mg "is_ascending" = some (.ref fA)) (gN : mg "is_number" = some (.ref fN)) (gB : mg "is_number_below" = some (.ref fB))
    (mI : mg "isinstance" = none) (mi : mg "int" = none) (mb : mg "bool" = none) (mt : mg "tuple" = none) (ma : mg "all" = none) (mr : mg "range" = none) (ml : mg "len" = none) : FnOk P w K mg base CX0 (k + 1 + 1 + 1 + 1) f fd ["value", "limit"] (spLot K) := by
  have GS : FnOk P w K mg base CX0 (k + 1 + 1 + 1) fS fdS ["value", "limit"] (spNums K) := ok_nums FS FB FN bN bB gN gB mI mi mb mt ma
  have GA : FnOk P w K mg base CX0 (k + 1 + 1 + 1) fA fdA ["items"] (spAsc K) := ok_asc FA mr ml ma
  refine F.ok sc_is_lot_below (fun vs H Q E h => ?_) (fun cdv A outer s H vs Q E hr h => ?_)
  · obtain ⟨p, ns, lim, rfl, _⟩ := h
    rfl
  · obtain ⟨p, ns, lim, rfl, ht, hl, ha, hb, q⟩ := h
    refine blk_cons (ps_ret (pe_and (pe_call GS hr (by rfl) gS FS.kp bS .nil pass0 (pa_cons (pv 0) (pa_cons (pv 1) pa_nil))) (pe_one (pe_call GA hr (by rfl) gA FA.kp bA .nil pass0 (pa_cons (pv 0) pa_nil))))) ?_
    refine blk_nil ?_
    refine ⟨_, rfl, _, rfl, .ref p, lim, true, rfl, numsV_ints ht hb hl, fun G s1 => ⟨_, rfl, iteT ⟨_, rfl, p, _, rfl, same_seqT s1 ht, by rw [List.length_map]; exact hl, .inl ⟨ns, rfl, ha⟩, fun G2 s2 => q _ (s1.trans s2)⟩⟩⟩
def spLotN (K : PySem.W.Frag) : Sp := fun vs H Q _ => ∃ (p : Addr) (ss : List Str), vs = [.ref p] ∧ SqT K H p (ss.map V.str) ∧ ss.length ≤ 1000 ∧ AscS ss ∧ (∀ z ∈ ss, Nm z) ∧ ∀ G, Same H G → Q (.bl true) G
theorem ok_lotN {f fM fA : Addr} {fd fdM fdA : FuncData} {k : Nat} {t : Tok} (F : Fun K "is_lot_of_names" "is_lot_of_names" s_is_lot_of_names f fd) (FM : Fun K "is_name" "is_name" s_is_name fM fdM) (FA : Fun K "is_ascending" "is_ascending" s_is_ascending fA fdA)
    (bM : Binds K fdM ["value"] []) (bA : Binds K fdA ["items"] []) (gM : mg "is_name" = some (.ref fM)) (gA : mg "is_ascending" = some (.ref fA)) (gL : mg "MOST_LETTERS" = some (.int 8 t))
    (mI : mg "isinstance" = none) (ms : mg "str" = none) (mt : mg "tuple" = none) (ma : mg "all" = none) (mr : mg "range" = none) (ml : mg "len" = none) : FnOk P w K mg base CX0 (k + 1 + 1) f fd ["value"] (spLotN K) := by
  have GM : FnOk P w K mg base CX0 (k + 1) fM fdM ["value"] spName := ok_name FM gL mI ms ml ma
  have GA : FnOk P w K mg base CX0 (k + 1) fA fdA ["items"] (spAsc K) := ok_asc FA mr ml ma
  refine F.ok sc_is_lot_of_names (fun vs H Q E h => ?_) (fun cdv A outer s H vs Q E hr h => ?_)
  · obtain ⟨p, ss, rfl, _⟩ := h
    rfl
  · obtain ⟨p, ss, rfl, ht, hl, ha, hb, q⟩ := h
    refine blk_cons (ps_ret (pe_and (pe_callB call_isi (by rfl) mI (by decide +kernel) (pa_cons (pv 0) (pa_cons (pe_bltn (v := .ty "tuple") (by rfl) mt (by decide +kernel) rfl) pa_nil)))
      (pe_and (pe_callB (cr_all rfl) (by rfl) ma (by decide +kernel) (pa_cons (pe_lc (own := [("item", 1)]) (g := gName 1) (tt := tYes) rfl sc_is_lot_of_names.nd (pi_tup (pv 0)) (blkOk_by (own := [("item", 1)]) (N := n_is_lot_of_names) (sc := defScope s_is_lot_of_names) (by decide +kernel))
        (fun _ _ _ _ _ => pg_name (i := 1) sc_is_lot_of_names.nd rfl (Or.inl rfl)) (fun _ _ _ _ _ => pts_nil) (fun _ _ _ _ _ => pe_call GM hr (by rfl) gM FM.kp bM .nil pass0 (pa_cons (pv 1) pa_nil))) pa_nil))
      (pe_one (pe_call GA hr (by rfl) gA FA.kp bA .nil pass0 (pa_cons (pv 0) pa_nil)))))) ?_
    refine blk_nil ?_
    refine ⟨_, rfl, _, _, _, _, true, rfl, .ty "tuple", tyT ht, kit_ty (by decide +kernel), _, rfl, iteT ?_⟩
    refine ⟨.ref p, rfl, p, rfl, ⟨_, ht⟩, fun D nD => lc_tup (K := K) (a := p) (xs := ss.map V.str) (fun i G => Same H G ∧ G D = some (.lst ((List.replicate i true).map V.bl))) ⟨same_new nD, upd_same⟩ (fun i G _ hP => same_seqT hP.1 ht) (fun i x G hxi hP => ?_) (fun G hP => ?_)⟩
    · obtain ⟨s1, gD⟩ := hP
      rw [List.getElem?_map] at hxi
      obtain ⟨z, hz, rfl⟩ := Option.map_eq_some_iff.mp hxi
      have hi : i < ss.length := (List.getElem?_eq_some_iff.mp hz).1
      refine ⟨rfl, ?_⟩
      dsimp only [tYes]
      rw [if_pos rfl]
      refine ⟨_, rfl, z, rfl, hb z (List.mem_of_getElem? hz), fun G2 s2 => ⟨_, s2 _ _ gD, ?_, fun b o e => ?_, ?_⟩⟩
      · rw [List.length_map, List.length_replicate]
        exact small1000 (by omega)
      · rw [upd_ne (ne_of_none e nD)]
        exact s2 _ _ (s1 _ _ e)
      · rw [upd_same, List.replicate_succ', List.map_append]
        rfl
    · obtain ⟨s1, gD⟩ := hP
      refine ⟨D, _, rfl, sqL gD, ?_⟩
      rw [show (List.replicate _ true).all id = true from List.all_eq_true.mpr fun x hx => by rw [List.eq_of_mem_replicate hx]; rfl]
      refine ⟨_, rfl, iteT ⟨_, rfl, p, _, rfl, same_seqT s1 ht, by rw [List.length_map]; exact hl, .inr ⟨ss, rfl, ha⟩, fun G2 s2 => q _ (s1.trans s2)⟩⟩
end
end K2
namespace K2
open PySem PySem.Spec PyProof.Rows L2 Gd
section
variable {P : Program} {w : World} {K : PySem.W.Frag} {mg : Str → Option Value} {base : Heap}
/-! ### is_type_pair, of what is -/
def spPair (K : PySem.W.Frag) : Sp := fun vs H Q _ => ∃ (v : V) (p : Str × List Int) (lim : Int), vs = [v, .int lim] ∧ Dp K H v (typeD p) ∧ Nm p.1 ∧ AscI p.2 ∧ (∀ n ∈ p.2, 0 ≤ n ∧ n < lim) ∧ p.2.length ≤ 1000 ∧ ∀ G, Same H G → Q (.bl true) G
theorem ok_pair {f fT fM fL : Addr} {fd fdT fdM fdL : FuncData} {k : Nat} (F : Fun K "is_type_pair" "is_type_pair" s_is_type_pair f fd) (FT : Fun K "is_tuple_of" "is_tuple_of" s_is_tuple_of fT fdT) (FM : Fun K "is_name" "is_name" s_is_name fM fdM) (FL : Fun K "is_lot_below" "is_lot_below" s_is_lot_below fL fdL)
    (bT : Binds K fdT ["value", "length"] []) (bM : Binds K fdM ["value"] []) (bL : Binds K fdL ["value", "limit"] []) (gT : mg "is_tuple_of" = some (.ref fT)) (gM : mg "is_name" = some (.ref fM)) (gL : mg "is_lot_below" = some (.ref fL))
    (GT : FnOk P w K mg base CX0 k fT fdT ["value", "length"] (spTupOf K)) (GM : FnOk P w K mg base CX0 k fM fdM ["value"] spName) (GL : FnOk P w K mg base CX0 k fL fdL ["value", "limit"] (spLot K)) :
    FnOk P w K mg base CX0 (k + 1) f fd ["value", "many_kinds"] (spPair K) := by
  refine F.ok sc_is_type_pair (fun vs H Q E h => ?_) (fun cdv A outer s H vs Q E hr h => ?_)
  · obtain ⟨v, p, lim, rfl, _⟩ := h
    rfl
  · obtain ⟨v, p, lim, rfl, hd, hn, ha, hb, hl, q⟩ := h
    refine blk_cons (ps_ret (pe_and (pe_call GT hr (by rfl) gT FT.kp bT .nil pass0 (pa_cons (pv 0) (pa_cons pe_int pa_nil))) (pe_and (pe_call GM hr (by rfl) gM FM.kp bM .nil pass0 (pa_cons (pe_ix ix_tup (pv 0) pe_int (fun _ _ => rfl)) pa_nil))
      (pe_one (pe_call GL hr (by rfl) gL FL.kp bL .nil pass0 (pa_cons (pe_ix ix_tup (pv 0) pe_int (fun _ _ => rfl)) (pa_cons (pv 1) pa_nil))))))) ?_
    refine blk_nil ?_
    obtain ⟨a, l, rfl, hq, hlq⟩ := type_inv hd
    refine ⟨_, rfl, _, 2, rfl, .inr ⟨a, _, rfl, hq, _, rfl, iteT ?_⟩⟩
    refine ⟨_, rfl, a, _, 0, _, rfl, rfl, hq, atI_nat (j := 0) rfl, p.1, rfl, hn, fun G s1 => ⟨_, rfl, iteT ?_⟩⟩
    exact ⟨_, rfl, a, _, 1, _, rfl, rfl, same_seqT s1 hq, atI_nat (j := 1) rfl, _, rfl, l, p.2, lim, rfl, same_seqT s1 hlq, hl, ha, hb, fun G2 s2 => q _ (s1.trans s2)⟩
/-! ### Table(kinds, types), of what is -/
def spTInit (K : PySem.W.Frag) (C : Addr) : Sp := fun vs H Q _ => ∃ (p dx pk pt : Addr) (t : TD), vs = [.ref p, .ref pk, .ref pt] ∧ H p = some (.ins C dx []) ∧ Dp K H (.ref pk) (kindsD t) ∧ Dp K H (.ref pt) (typesD t) ∧ TOk t ∧
  ∀ G, (∀ b o, b ≠ p → H b = some o → G b = some o) → TblAt K C G p dx pk pt t → Q .non G
theorem ok_tinit {f C fN fP : Addr} {fd fdN fdP : FuncData} {k : Nat} {t1 t2 : Tok} (F : Fun K "__init__" "Table.__init__" s_Table_init f fd) (T : TTxt K mg C) (FN : Fun K "is_lot_of_names" "is_lot_of_names" s_is_lot_of_names fN fdN) (FP : Fun K "is_type_pair" "is_type_pair" s_is_type_pair fP fdP)
    (bN : Binds K fdN ["value"] []) (bP : Binds K fdP ["value", "many_kinds"] []) (gN : mg "is_lot_of_names" = some (.ref fN)) (gP : mg "is_type_pair" = some (.ref fP)) (gK : mg "MOST_KINDS" = some (.int 8 t1)) (gT : mg "MOST_TYPES" = some (.int 12 t2))
    (GN : FnOk P w K mg base CX0 k fN fdN ["value"] (spLotN K)) (GP : FnOk P w K mg base CX0 k fP fdP ["value", "many_kinds"] (spPair K)) (mI : mg "isinstance" = none) (mt : mg "tuple" = none) (ml : mg "len" = none) (mE : mg "enumerate" = none) :
    FnOk P w K mg base CX0 (k + 1) f fd ["self", "kinds", "types"] (spTInit K C) := by
  refine F.ok sc_Table_init (fun vs H Q E h => ?_) (fun cdv A outer s H vs Q E hr h => ?_)
  · obtain ⟨p, dx, pk, pt, t, rfl, _⟩ := h
    rfl
  · obtain ⟨p, dx, pk, pt, t, rfl, hp, hk, ht, ok, q⟩ := h
    refine blk_cons (ps_if (PW.pt (pw_or (pt_not (pt_val (pe_call GN hr (by rfl) gN FN.kp bN .nil pass0 (pa_cons (pv 1) pa_nil)))) (pw_or1 (pt_not (pt_chain op_le op_le pe_int (pe_callB call_len_seq (by rfl) ml PySem.boot_len (pa_cons (pv 1) pa_nil)) (pe_glob (v := .int 8) (by rfl) gK ⟨_, rfl⟩)))))) (pss_one ps_never) pss_nil) ?_
    refine blk_cons (ps_if (PW.pt (pw_or (pt_not (pt_val (pe_callB call_isi (by rfl) mI (by decide +kernel) (pa_cons (pv 2) (pa_cons (pe_bltn (v := .ty "tuple") (by rfl) mt (by decide +kernel) rfl) pa_nil)))))
      (pw_or1 (pt_cmpR op_gt (pe_callB call_len_seq (by rfl) ml PySem.boot_len (pa_cons (pv 2) pa_nil)) (pe_glob (v := .int 12) (by rfl) gT ⟨_, rfl⟩) (nomark _))))) (pss_one ps_never) pss_nil) ?_
    refine blk_cons (ps_for PassesOwn.never rfl (pi_enT (by rfl) mE (pa_cons (pv 2) pa_nil)) (pg_tup rfl (pgs_cons (pg_name (i := 3) sc_Table_init.nd rfl (.inl rfl)) (pgs_cons (pg_name (i := 4) sc_Table_init.nd rfl (.inl rfl)) pgs_nil)))
      (pss_one (ps_if (PW.pt (pw_or (pt_not (pt_val (pe_call GP hr (by rfl) gP FP.kp bP .nil pass0 (pa_cons (pv 4) (pa_cons (pe_callB call_len_seq (by rfl) ml PySem.boot_len (pa_cons (pv 1) pa_nil)) pa_nil)))))
        (pw_or1 (PW.pt (pw_and (pt_cmpR op_gt (pv 3) pe_int (nomark _)) (pw_and1 (pt_cmpR op_le_str (pe_ix ix_tup (pv 4) pe_int (fun _ _ => rfl)) (pe_ix ix_tup (pe_ix ix_tup (pv 2) (pe_op op_sub (pv 3) pe_int) (fun _ _ => rfl)) pe_int (fun _ _ => rfl)) (nomark _)))))))) (pss_one ps_never) pss_nil))) ?_
    refine blk_cons (ps_fld (pv 0) (pv 1) rfl) ?_
    refine blk_cons (ps_fld (pv 0) (pv 2) rfl) ?_
    refine blk_nil ?_
    have k1 := ok.k1
    have k8 := ok.k8
    have t12 := ok.t12
    have hks := kinds_sq hk
    obtain ⟨us, hts, hda⟩ := types_sq ht
    have hlu := dpAll_len hda
    rw [List.length_map] at hlu
    refine ⟨_, rfl, pk, t.kinds, rfl, hks, by omega, ok.ka, ok.kn, fun G1 s1 => ⟨_, rfl, iteF ?_⟩⟩
    refine ⟨_, rfl, pk, _, rfl, .inr (same_seqT s1 hks), _, _, rfl, rfl, _, rfl, ?_⟩
    rw [List.length_map, decide_eq_true (show (1 : Int) ≤ (t.kinds.length : Int) by omega)]
    refine iteT ⟨_, _, rfl, rfl, _, rfl, ?_⟩
    rw [decide_eq_true (show (t.kinds.length : Int) ≤ 8 by omega)]
    refine iteF ?_
    refine ⟨_, rfl, _, _, _, _, true, rfl, .ty "tuple", tyT (same_seqT s1 hts), kit_ty (by decide +kernel), _, rfl, iteF ?_⟩
    refine ⟨_, rfl, pt, _, rfl, .inr (same_seqT s1 hts), _, _, rfl, rfl, _, rfl, ?_⟩
    rw [decide_eq_false (show ¬ (us.length : Int) > 12 by omega)]
    refine iteF ?_
    dsimp only [tNext]
    refine seq_out (t := tFor _ _ _) (fun σ' G' => Same H G' ∧ ∃ y3 y4 : Option V, σ' = [some (.ref p), some (.ref pk), some (.ref pt), y3, y4]) (fun N hN => ?_) (fun σ' G2 hR => ?_)
    · refine ⟨_, rfl, pt, us, rfl, same_seqT s1 hts, for_en (xs := us) (fun i σ G => Same H G ∧ ∃ y3 y4 : Option V, σ = [some (.ref p), some (.ref pk), some (.ref pt), y3, y4]) ⟨s1, _, _, rfl⟩ (fun i σ G _ hP => same_seqT hP.1 hts) (fun i x Tp σ G hx hP nT => ?_) (fun σ G hP => hN _ _ hP)⟩
      obtain ⟨s2, y3, y4, rfl⟩ := hP
      have s3 := s2.trans (same_new (o := .tup [.int (i : Nat), x]) nT)
      have gT' := sqT (K := K) (upd_same (H := G) (a := Tp) (o := .tup [.int (i : Nat), x]))
      generalize upd G Tp (.tup [.int (i : Nat), x]) = G3 at s3 gT' ⊢
      obtain ⟨c, hc, dx1⟩ := type_at hda hx
      have hm := List.mem_of_getElem? hc
      refine ⟨Tp, _, rfl, gT', rfl, _, _, rfl, _, _, rfl, rfl, ?_⟩
      refine ⟨_, rfl, _, rfl, pk, _, rfl, .inr (same_seqT s3 hks), x, c, _, rfl, dp_same s3 _ _ dx1, ok.tn c hm, ok.la c hm, fun n hn => by rw [List.length_map]; exact ok.lb c hm n hn, Nat.le_trans (ok.lot8 hm) (by decide), fun G4 s4 => ⟨_, rfl, iteF ?_⟩⟩
      have s5 := s3.trans s4
      refine ⟨_, rfl, _, _, rfl, rfl, _, rfl, ite2 (fun h0 => ?_) (fun _ => iteF ⟨s5, _, _, rfl⟩)⟩
      have i0 : 0 < i := by
        have := of_decide_eq_true h0
        omega
      obtain ⟨j, rfl⟩ : ∃ j, i = j + 1 := ⟨i - 1, by omega⟩
      obtain ⟨a1, l1, rfl, hq1, _⟩ := type_inv (dp_same s5 _ _ dx1)
      have hj : j < t.types.length := by
        have := (List.getElem?_eq_some_iff.mp hc).1
        omega
      have hcj := List.getElem?_eq_getElem hj
      obtain ⟨v0, hv0, dv0⟩ := types_at hda hcj
      obtain ⟨a0, l0, rfl, hq0, _⟩ := type_inv (dp_same s5 _ _ dv0)
      refine ⟨_, rfl, a1, _, 0, _, rfl, rfl, hq1, atI_nat (j := 0) rfl, _, rfl, _, rfl, _, _, rfl, rfl, pt, us, _, _, rfl, rfl, same_seqT s5 hts, at_of (j := j) (by omega) hv0, a0, _, 0, _, rfl, rfl, hq0, atI_nat (j := 0) rfl, _, _, rfl, rfl, _, rfl, ?_⟩
      have lt := pw_next ok.ta (i := j) (by rw [List.getElem?_map, hcj]; rfl) (by rw [List.getElem?_map, hc]; rfl)
      rw [decide_eq_true lt]
      exact iteF ⟨s5, _, _, rfl⟩
    obtain ⟨s2, y3, y4, rfl⟩ := hR
    have hp2 := s2 _ _ hp
    refine ⟨_, rfl, _, rfl, p, C, dx, _, rfl, hp2, T.cl, T.nK, by show 0 < 1000; decide, ?_⟩
    refine ⟨_, rfl, _, rfl, p, C, dx, _, rfl, upd_same, T.cl, T.nT, Nat.lt_of_le_of_lt (len_putF2 _ _ _) (by show 1 < 1000; decide), ?_⟩
    have keep : ∀ b o, b ≠ p → H b = some o → (upd (upd G2 p (.ins C dx (putF "kinds" (.ref pk) []))) p (.ins C dx (tf pk pt))) b = some o := fun b o hb e => (upd_ne hb).trans ((upd_ne hb).trans (s2 _ _ e))
    have ks : ∀ a xs, SqT K H a xs → SqT K (upd (upd G2 p (.ins C dx (putF "kinds" (.ref pk) []))) p (.ins C dx (tf pk pt))) a xs := sqT_ins hp keep
    exact q _ keep ⟨upd_same, dp_sq ks _ _ (noList_kinds t) hk, dp_sq ks _ _ (noList_types t) ht⟩
end
end K2
namespace Gd
open PySem PySem.Spec PyProof.Rows L2
/-- the places below n where f holds -/
def idxF (f : Nat → Bool) (n : Nat) : List Int := ((List.range n).filter f).map fun i : Nat => (i : Int)
theorem idxF_zero (f : Nat → Bool) : idxF f 0 = [] := rfl
theorem idxF_succ (f : Nat → Bool) (n : Nat) : idxF f (n + 1) = idxF f n ++ (if f n = true then [(n : Int)] else []) := by
  unfold idxF
  rw [List.range_succ, List.filter_append, List.map_append]
  by_cases h : f n = true
  · rw [if_pos h, List.filter_cons_of_pos h]
    rfl
  · rw [if_neg h, List.filter_cons_of_neg h]
    rfl
theorem idxF_len (f : Nat → Bool) (n : Nat) : (idxF f n).length ≤ n := by
  unfold idxF
  rw [List.length_map]
  have := List.length_filter_le f (List.range n)
  rw [List.length_range] at this
  exact this
theorem idxF_mem {f : Nat → Bool} {n : Nat} {x : Int} : x ∈ idxF f n ↔ ∃ i : Nat, x = (i : Int) ∧ i < n ∧ f i = true := by
  unfold idxF
  constructor
  · intro h
    obtain ⟨i, hi, e⟩ := List.mem_map.mp h
    obtain ⟨h1, h2⟩ := List.mem_filter.mp hi
    exact ⟨i, e.symm, List.mem_range.mp h1, h2⟩
  · rintro ⟨i, rfl, h1, h2⟩
    exact List.mem_map.mpr ⟨i, List.mem_filter.mpr ⟨List.mem_range.mpr h1, h2⟩, rfl⟩
theorem idxF_congr {f g : Nat → Bool} {n : Nat} (h : ∀ i, i < n → f i = g i) : idxF f n = idxF g n := by
  unfold idxF
  rw [List.filter_congr fun x hx => h x (List.mem_range.mp hx)]
theorem idxF_asc (f : Nat → Bool) (n : Nat) : AscI (idxF f n) := by
  unfold idxF AscI
  rw [List.pairwise_map]
  exact (List.Pairwise.filter f List.pairwise_lt_range).imp fun h => by omega
/-- a type accepts a kind -/
def acc (t : TD) (a : Nat) (k : Int) : Bool := match t.types[a]? with
  | some c => decide (k ∈ c.2)
  | none => false
theorem acc_of {t : TD} {a : Nat} {c : Str × List Int} (h : t.types[a]? = some c) (k : Int) : acc t a k = decide (k ∈ c.2) := by
  unfold acc
  rw [h]
def typesOf (t : TD) (ks : List Int) : List Int := idxF (fun a => ks.any fun k => acc t a k) t.types.length
def takersL (t : TD) (k : Int) : List Int := typesOf t [k]
def withoutL (t : TD) (k : Int) : List Int := idxF (fun a => !acc t a k) t.types.length
theorem idx_small {f : Nat → Bool} {n : Nat} (h : n ≤ 12) : ∀ x ∈ idxF f n, x.natAbs < 10 ^ 9 := fun x hx => by
  obtain ⟨i, rfl, hi, _⟩ := idxF_mem.mp hx
  omega
end Gd
namespace K2
open PySem PySem.Spec PyProof.Rows L2 Gd
section
variable {P : Program} {w : World} {K : PySem.W.Frag} {mg : Str → Option Value} {base : Heap}
/-! ### type_names -/
def spTNames (K : PySem.W.Frag) (C : Addr) : Sp := fun vs H Q _ => ∃ (p dx pk pt : Addr) (t : TD), vs = [.ref p] ∧ TblAt K C H p dx pk pt t ∧ TOk t ∧ ∀ G q, Same H G → SqT K G q ((t.types.map (·.1)).map V.str) → Q (.ref q) G
theorem ok_tnames {f C : Addr} {fd : FuncData} {k : Nat} (F : Fun K "type_names" "type_names" s_type_names f fd) (T : TTxt K mg C) (mt : mg "tuple" = none) : FnOk P w K mg base CX0 (k + 1) f fd ["table"] (spTNames K C) := by
  refine F.ok sc_type_names (fun vs H Q E h => ?_) (fun cdv A outer s H vs Q E hr h => ?_)
  · obtain ⟨p, dx, pk, pt, t, rfl, _⟩ := h
    rfl
  · obtain ⟨p, dx, pk, pt, t, rfl, d, ok, q⟩ := h
    refine blk_cons (ps_ret (pe_callTy call_tuple_of (by rfl) mt (by decide +kernel) (pa_cons (pe_lc (own := [("name", 1), ("_", 2)]) (g := gTup K 2 (gCons (gName 1) (gCons (gName 2) gNil))) (tt := tYes) rfl sc_type_names.nd (pi_tup (pe_fld (pv 0) rfl)) (blkOk_by (own := [("name", 1), ("_", 2)]) (N := n_type_names) (sc := defScope s_type_names) (by decide +kernel))
      (fun _ _ _ _ _ => pg_tup rfl (pgs_cons (pg_name (i := 1) sc_type_names.nd rfl (Or.inl rfl)) (pgs_cons (pg_name (i := 2) sc_type_names.nd rfl (Or.inl rfl)) pgs_nil))) (fun _ _ _ _ _ => pts_nil) (fun _ _ _ _ _ => pv 1)) pa_nil))) ?_
    refine blk_nil ?_
    obtain ⟨us, hts, hda⟩ := types_sq d.td
    have hlu := dpAll_len hda
    rw [List.length_map] at hlu
    have t12 := ok.t12
    refine ⟨_, rfl, p, C, dx, _, _, rfl, d.obj, T.cl, T.nT, tf_t _ _, pt, rfl, ⟨_, hts⟩, fun D nD => lc_tup (K := K) (a := pt) (xs := us) (fun i G => Same H G ∧ G D = some (.lst (((t.types.map (·.1)).take i).map V.str))) ⟨same_new nD, upd_same⟩ (fun i G _ hP => same_seqT hP.1 hts) (fun i x G hx hP => ?_) (fun G hP => ?_)⟩
    · obtain ⟨s1, gD⟩ := hP
      obtain ⟨c, hc, dv⟩ := type_at hda hx
      obtain ⟨a1, l1, rfl, hq1, _⟩ := type_inv (dp_same s1 _ _ dv)
      have hi : i < t.types.length := (List.getElem?_eq_some_iff.mp hc).1
      refine ⟨a1, _, rfl, hq1, rfl, _, _, rfl, _, _, rfl, rfl, rfl, ?_⟩
      dsimp only [tYes]
      rw [if_pos rfl]
      refine ⟨_, rfl, _, gD, ?_, fun b o e => ?_, ?_⟩
      · rw [List.length_map, List.length_take]
        exact small1000 (by omega)
      · rw [upd_ne (ne_of_none e nD)]
        exact s1 _ _ e
      · rw [upd_same, List.take_add_one, List.getElem?_map, hc, List.map_append]
        rfl
    · obtain ⟨s1, gD⟩ := hP
      have e : ((t.types.map (·.1)).take us.length) = t.types.map (·.1) := List.take_of_length_le (by rw [List.length_map, hlu]; exact Nat.le_refl _)
      rw [e] at gD
      exact ⟨D, _, rfl, .inl ⟨sqL gD, fun q1 n1 => q _ q1 (s1.trans (same_new n1)) (sqT upd_same)⟩⟩
/-! ### accepted -/
def spAcc (K : PySem.W.Frag) (C : Addr) : Sp := fun vs H Q _ => ∃ (p dx pk pt : Addr) (t : TD) (a : Nat) (c : Str × List Int), vs = [.ref p, .int (a : Int)] ∧ TblAt K C H p dx pk pt t ∧ t.types[a]? = some c ∧ ∀ q, SqT K H q (c.2.map V.int) → Q (.ref q) H
theorem ok_acc {f C : Addr} {fd : FuncData} {k : Nat} (F : Fun K "accepted" "accepted" s_accepted f fd) (T : TTxt K mg C) : FnOk P w K mg base CX0 (k + 1) f fd ["table", "request"] (spAcc K C) := by
  refine F.ok sc_accepted (fun vs H Q E h => ?_) (fun cdv A outer s H vs Q E hr h => ?_)
  · obtain ⟨p, dx, pk, pt, t, a, c, rfl, _⟩ := h
    rfl
  · obtain ⟨p, dx, pk, pt, t, a, c, rfl, d, hc, q⟩ := h
    refine blk_cons (ps_ret (pe_ix ix_tup (pe_ix ix_tup (pe_fld (pv 0) rfl) (pv 1) (fun _ _ => rfl)) pe_int (fun _ _ => rfl))) ?_
    refine blk_nil ?_
    obtain ⟨us, hts, hda⟩ := types_sq d.td
    obtain ⟨v, hv, dv⟩ := types_at hda hc
    obtain ⟨a1, l1, rfl, hq1, hl1⟩ := type_inv dv
    exact ⟨_, rfl, p, C, dx, _, _, rfl, d.obj, T.cl, T.nT, tf_t _ _, _, rfl, pt, us, _, _, rfl, rfl, hts, atI_nat hv, a1, _, 1, _, rfl, rfl, hq1, atI_nat (j := 1) rfl, q _ hl1⟩
/-! ### types_of_kinds -/
def spTOf (K : PySem.W.Frag) (C : Addr) : Sp := fun vs H Q _ => ∃ (p dx pk pt kq : Addr) (t : TD) (ks : List Int), vs = [.ref p, .ref kq] ∧ TblAt K C H p dx pk pt t ∧ TOk t ∧ SqT K H kq (ks.map V.int) ∧ ks.length ≤ 1000 ∧ ∀ G q, Same H G → SqT K G q ((typesOf t ks).map V.int) → Q (.ref q) G
theorem ok_tof {f C : Addr} {fd : FuncData} {k : Nat} (F : Fun K "types_of_kinds" "types_of_kinds" s_types_of_kinds f fd) (T : TTxt K mg C) (mt : mg "tuple" = none) (mE : mg "enumerate" = none) (ma : mg "any" = none) : FnOk P w K mg base CX0 (k + 1) f fd ["table", "kinds"] (spTOf K C) := by
  refine F.ok sc_types_of_kinds (fun vs H Q E h => ?_) (fun cdv A outer s H vs Q E hr h => ?_)
  · obtain ⟨p, dx, pk, pt, kq, t, ks, rfl, _⟩ := h
    rfl
  · obtain ⟨p, dx, pk, pt, kq, t, ks, rfl, d, ok, hk, hkl, q⟩ := h
    refine blk_cons (ps_set (i := 2) sc_types_of_kinds.nd rfl (.inl rfl) (pe_lst pa_nil)) ?_
    refine blk_cons (ps_for PassesOwn.never rfl (pi_enT (by rfl) mE (pa_cons (pe_fld (pv 0) rfl) pa_nil)) (pg_tup rfl (pgs_cons (pg_name (i := 3) sc_types_of_kinds.nd rfl (.inl rfl)) (pgs_cons (pg_tup rfl (pgs_cons (pg_name (i := 4) sc_types_of_kinds.nd rfl (.inl rfl)) (pgs_cons (pg_name (i := 5) sc_types_of_kinds.nd rfl (.inr rfl)) pgs_nil))) pgs_nil)))
      (pss_one (ps_if (pt_val (pe_callB (cr_any rfl) (by rfl) ma (by decide +kernel) (pa_cons (pe_lc (own := [("kind", 6)]) (g := gName 6) (tt := tYes) rfl sc_types_of_kinds.nd (pi_tup (pv 1)) (blkOk_by (own := [("kind", 6)]) (N := n_types_of_kinds) (sc := defScope s_types_of_kinds) (by decide +kernel))
        (fun _ _ _ _ _ => pg_name (i := 6) sc_types_of_kinds.nd rfl (Or.inl rfl)) (fun _ _ _ _ _ => pts_nil) (fun _ _ _ _ _ => pe_cmpR (r := rIn K false) op_in_seq (pv 6) (pv 5) (by rfl))) pa_nil)))
        (pss_one (ps_expr (pe_bm PySem.F.plainAttrs_list PySem.F.slot_list_append PySem.F.type_list_append mt_append (pv 2) (pa_cons (pv 3) pa_nil)))) pss_nil))) ?_
    refine blk_cons (ps_ret (pe_callTy call_tuple_of (by rfl) mt (by decide +kernel) (pa_cons (pv 2) pa_nil))) ?_
    refine blk_nil ?_
    obtain ⟨us, hts, hda⟩ := types_sq d.td
    have hlu := dpAll_len hda
    rw [List.length_map] at hlu
    have t12 := ok.t12
    refine ⟨Nat.zero_le _, fun D nD => ?_⟩
    have s0 : Same H (upd H D (.lst [])) := same_new nD
    have hk0 := same_seqT s0 hk
    have d0 := d.same s0
    refine ⟨_, rfl, p, C, dx, _, _, rfl, d0.obj, T.cl, T.nT, tf_t _ _, pt, us, rfl, same_seqT s0 hts, for_en (xs := us) (fun i σ G => Same H G ∧ (∃ y3 y4 y5 : Option V, σ = [some (.ref p), some (.ref kq), some (.ref D), y3, y4, y5, none]) ∧ G D = some (.lst ((idxF (fun a => ks.any fun k => acc t a k) i).map V.int)))
      ⟨s0, ⟨_, _, _, rfl⟩, upd_same⟩ (fun i σ G _ hP => same_seqT hP.1 hts) (fun i x Tp σ G hx hP nT => ?_) (fun σ G hP => ?_)⟩
    · obtain ⟨s1, ⟨y3, y4, y5, rfl⟩, gD⟩ := hP
      obtain ⟨c, hc, dv⟩ := type_at hda hx
      have hi : i < t.types.length := (List.getElem?_eq_some_iff.mp hc).1
      have s2 := s1.trans (same_new (o := .tup [.int (i : Nat), x]) nT)
      have gT' := sqT (K := K) (upd_same (H := G) (a := Tp) (o := .tup [.int (i : Nat), x]))
      have gD2 := (same_new (o := .tup [.int (i : Nat), x]) nT) _ _ gD
      generalize upd G Tp (.tup [.int (i : Nat), x]) = G2 at s2 gT' gD2 ⊢
      obtain ⟨a1, l1, rfl, hq1, hl1⟩ := type_inv (dp_same s2 _ _ dv)
      refine ⟨Tp, _, rfl, gT', rfl, _, _, rfl, _, _, rfl, a1, _, rfl, hq1, rfl, _, _, rfl, _, _, rfl, rfl, rfl, ?_⟩
      have hk2 := same_seqT s2 hk
      refine ⟨_, rfl, kq, rfl, ⟨_, hk2⟩, fun E nE => lc_tup (K := K) (a := kq) (xs := ks.map V.int) (fun j J => Same G2 J ∧ J E = some (.lst (((ks.take j).map fun k => acc t i k).map V.bl))) ⟨same_new nE, upd_same⟩ (fun j J _ hQ => same_seqT hQ.1 hk2) (fun j y J hy hQ => ?_) (fun J hQ => ?_)⟩
      · obtain ⟨s3, gE⟩ := hQ
        obtain ⟨k0, hk0', rfl⟩ := map_at hy
        have hj : j < ks.length := (List.getElem?_eq_some_iff.mp hk0').1
        refine ⟨rfl, ?_⟩
        dsimp only [tYes]
        rw [if_pos rfl]
        refine ⟨_, rfl, _, rfl, l1, _, rfl, .inr (same_seqT s3 hl1), rfl, flat_ints _, ?_⟩
        rw [inV_ints, ← acc_of hc]
        refine ⟨_, gE, ?_, fun b o e => ?_, ?_⟩
        · rw [List.length_map, List.length_map, List.length_take]
          exact small1000 (by omega)
        · rw [upd_ne (ne_of_none e nE)]
          exact s3 _ _ e
        · rw [upd_same, List.take_add_one, hk0', List.map_append, List.map_append]
          rfl
      · obtain ⟨s3, gE⟩ := hQ
        rw [List.length_map, List.take_length] at gE
        refine ⟨E, _, rfl, sqL gE, _, rfl, ?_⟩
        have e1 : (ks.map fun k => acc t i k).any id = ks.any fun k => acc t i k := by rw [List.any_map]; rfl
        rw [e1]
        have gD3 := s3 _ _ gD2
        have s4 := s2.trans s3
        refine ite2 (fun h => ?_) (fun h => ⟨s4, ⟨_, _, _, rfl⟩, by rw [idxF_succ, if_neg h, List.append_nil]; exact gD3⟩)
        refine ⟨.ref D, rfl, .inl ⟨rfl, _, sqL gD3⟩, _, rfl, D, _, _, rfl, rfl, gD3, ?_, fun b o e => ?_, ⟨_, _, _, rfl⟩, ?_⟩
        · have := idxF_len (fun a => ks.any fun k => acc t a k) i
          rw [List.length_map]
          exact small1000 (by omega)
        · rw [upd_ne (ne_of_none e nD)]
          exact s4 _ _ e
        · rw [upd_same, idxF_succ, if_pos h, List.map_append]
          rfl
    · obtain ⟨s1, ⟨y3, y4, y5, rfl⟩, gD⟩ := hP
      rw [hlu] at gD
      exact ⟨_, rfl, D, _, rfl, .inl ⟨sqL gD, fun q1 n1 => q _ q1 (s1.trans (same_new n1)) (sqT upd_same)⟩⟩
/-! ### takers, all_takers, are_alike, types_without -/
def spTakers (K : PySem.W.Frag) (C : Addr) : Sp := fun vs H Q _ => ∃ (p dx pk pt : Addr) (t : TD) (k : Int), vs = [.ref p, .int k] ∧ TblAt K C H p dx pk pt t ∧ TOk t ∧ ∀ G q, Same H G → SqT K G q ((takersL t k).map V.int) → Q (.ref q) G
theorem ok_takers {f fO C : Addr} {fd fdO : FuncData} {k : Nat} (F : Fun K "takers" "takers" s_takers f fd) (FO : Fun K "types_of_kinds" "types_of_kinds" s_types_of_kinds fO fdO) (bO : Binds K fdO ["table", "kinds"] []) (gO : mg "types_of_kinds" = some (.ref fO)) (GO : FnOk P w K mg base CX0 k fO fdO ["table", "kinds"] (spTOf K C)) :
    FnOk P w K mg base CX0 (k + 1) f fd ["table", "kind"] (spTakers K C) := by
  refine F.ok sc_takers (fun vs H Q E h => ?_) (fun cdv A outer s H vs Q E hr h => ?_)
  · obtain ⟨p, dx, pk, pt, t, k, rfl, _⟩ := h
    rfl
  · obtain ⟨p, dx, pk, pt, t, k0, rfl, d, ok, q⟩ := h
    refine blk_cons (ps_ret (pe_call GO hr (by rfl) gO FO.kp bO .nil pass0 (pa_cons (pv 0) (pa_cons (pe_tup (pa_cons (pv 1) pa_nil)) pa_nil)))) ?_
    refine blk_nil ?_
    exact ⟨_, rfl, _, rfl, by show 1 ≤ sizeLine; decide, fun q0 n0 => ⟨p, dx, pk, pt, q0, t, [k0], rfl, d.same (same_new n0), ok, sqT upd_same, by show 1 ≤ 1000; decide, fun G q1 s1 h1 => q G q1 ((same_new n0).trans s1) h1⟩⟩
def spAlike (K : PySem.W.Frag) (C : Addr) : Sp := fun vs H Q _ => ∃ (p dx pk pt : Addr) (t : TD) (a b : Int), vs = [.ref p, .int a, .int b] ∧ TblAt K C H p dx pk pt t ∧ TOk t ∧ ∀ G, Same H G → Q (.bl (decide (takersL t a = takersL t b))) G
theorem eqv_tints (a b : List Int) : PyData.eqv (.tuple (a.map .int)) (.tuple (b.map .int)) = decide (a = b) := by
  rw [PyData.eqv]
  have key : ∀ a b : List Int, PyData.eqvAll (a.map .int) (b.map .int) = decide (a = b) := by
    intro a
    induction a with
    | nil => intro b; cases b <;> simp [PyData.eqvAll]
    | cons x r ih =>
      intro b
      cases b with
      | nil => simp [PyData.eqvAll]
      | cons y s =>
        simp [PyData.eqvAll, PyData.eqv, ih]
        rfl
  exact key a b
theorem ok_alike {f fO C : Addr} {fd fdO : FuncData} {k : Nat} (F : Fun K "are_alike" "are_alike" s_are_alike f fd) (FO : Fun K "takers" "takers" s_takers fO fdO) (bO : Binds K fdO ["table", "kind"] []) (gO : mg "takers" = some (.ref fO)) (GO : FnOk P w K mg base CX0 k fO fdO ["table", "kind"] (spTakers K C)) :
    FnOk P w K mg base CX0 (k + 1) f fd ["table", "one", "other"] (spAlike K C) := by
  refine F.ok sc_are_alike (fun vs H Q E h => ?_) (fun cdv A outer s H vs Q E hr h => ?_)
  · obtain ⟨p, dx, pk, pt, t, a, b, rfl, _⟩ := h
    rfl
  · obtain ⟨p, dx, pk, pt, t, a, b, rfl, d, ok, q⟩ := h
    refine blk_cons (ps_ret (pe_cmpR (op_eqD hr.units) (pe_call GO hr (by rfl) gO FO.kp bO .nil pass0 (pa_cons (pv 0) (pa_cons (pv 1) pa_nil))) (pe_call GO hr (by rfl) gO FO.kp bO .nil pass0 (pa_cons (pv 0) (pa_cons (pv 2) pa_nil))) (nomark _))) ?_
    refine blk_nil ?_
    refine ⟨_, rfl, _, rfl, p, dx, pk, pt, t, a, rfl, d, ok, fun G1 q1 s1 h1 => ⟨_, rfl, _, rfl, p, dx, pk, pt, t, b, rfl, d.same s1, ok, fun G2 q2 s2 h2 => ?_⟩⟩
    have sh : ∀ c, SeqAt.shaped (.tuple ((takersL t c).map .int)) = true := fun c => by
      obtain ⟨f1, f2, _⟩ := ints_fine (l := takersL t c) (idx_small ok.t12) (Nat.le_trans (idxF_len _ _) (Nat.le_trans ok.t12 (by decide)))
      exact fine_shaped f1 f2
    refine ⟨_, _, dp_tup (same_seqT s2 h1), dp_tup h2, sh a, sh b, ?_⟩
    rw [eqv_tints]
    exact q _ (s1.trans s2)
def spWithout (K : PySem.W.Frag) (C : Addr) : Sp := fun vs H Q _ => ∃ (p dx pk pt : Addr) (t : TD) (k : Int), vs = [.ref p, .int k] ∧ TblAt K C H p dx pk pt t ∧ TOk t ∧ ∀ G q, Same H G → SqT K G q ((withoutL t k).map V.int) → Q (.ref q) G
theorem ok_without {f C : Addr} {fd : FuncData} {k : Nat} (F : Fun K "types_without" "types_without" s_types_without f fd) (T : TTxt K mg C) (mt : mg "tuple" = none) (mE : mg "enumerate" = none) : FnOk P w K mg base CX0 (k + 1) f fd ["table", "kind"] (spWithout K C) := by
  refine F.ok sc_types_without (fun vs H Q E h => ?_) (fun cdv A outer s H vs Q E hr h => ?_)
  · obtain ⟨p, dx, pk, pt, t, k, rfl, _⟩ := h
    rfl
  · obtain ⟨p, dx, pk, pt, t, k0, rfl, d, ok, q⟩ := h
    refine blk_cons (ps_ret (pe_callTy call_tuple_of (by rfl) mt (by decide +kernel) (pa_cons (pe_lc (own := [("request", 2), ("_", 3), ("lot", 4)]) (g := gTup K 2 (gCons (gName 2) (gCons (gTup K 2 (gCons (gName 3) (gCons (gName 4) gNil))) gNil))) rfl sc_types_without.nd (pi_enT (by rfl) mE (pa_cons (pe_fld (pv 0) rfl) pa_nil))
      (blkOk_by (own := [("request", 2), ("_", 3), ("lot", 4)]) (N := n_types_without) (sc := defScope s_types_without) (by decide +kernel))
      (fun _ _ _ _ _ => pg_tup rfl (pgs_cons (pg_name (i := 2) sc_types_without.nd rfl (Or.inl rfl)) (pgs_cons (pg_tup rfl (pgs_cons (pg_name (i := 3) sc_types_without.nd rfl (Or.inl rfl)) (pgs_cons (pg_name (i := 4) sc_types_without.nd rfl (Or.inl rfl)) pgs_nil))) pgs_nil)))
      (fun _ _ _ _ _ => pts_one (pt_cmpR (r := rIn K true) op_notIn_seq (pv 1) (pv 4) (by rfl))) (fun _ _ _ _ _ => pv 2)) pa_nil))) ?_
    refine blk_nil ?_
    obtain ⟨us, hts, hda⟩ := types_sq d.td
    have hlu := dpAll_len hda
    rw [List.length_map] at hlu
    have t12 := ok.t12
    refine ⟨_, rfl, p, C, dx, _, _, rfl, d.obj, T.cl, T.nT, tf_t _ _, pt, us, rfl, hts, fun D nD => lc_en (xs := us) (fun i G => Same H G ∧ G D = some (.lst ((idxF (fun a => !acc t a k0) i).map V.int))) ⟨same_new nD, upd_same⟩ (fun i G _ hP => same_seqT hP.1 hts) (fun i x Tp G hx hP nT => ?_) (fun G hP => ?_)⟩
    · obtain ⟨s1, gD⟩ := hP
      obtain ⟨c, hc, dv⟩ := type_at hda hx
      have hi : i < t.types.length := (List.getElem?_eq_some_iff.mp hc).1
      have s2 := s1.trans (same_new (o := .tup [.int (i : Nat), x]) nT)
      have gT' := sqT (K := K) (upd_same (H := G) (a := Tp) (o := .tup [.int (i : Nat), x]))
      have gD2 := (same_new (o := .tup [.int (i : Nat), x]) nT) _ _ gD
      generalize upd G Tp (.tup [.int (i : Nat), x]) = G2 at s2 gT' gD2 ⊢
      obtain ⟨a1, l1, rfl, hq1, hl1⟩ := type_inv (dp_same s2 _ _ dv)
      refine ⟨Tp, _, rfl, gT', rfl, _, _, rfl, _, _, rfl, a1, _, rfl, hq1, rfl, _, _, rfl, _, _, rfl, rfl, rfl, rfl, ?_⟩
      refine ⟨_, rfl, _, rfl, l1, _, rfl, .inr hl1, rfl, flat_ints _, _, rfl, ?_⟩
      rw [inV_ints, ← acc_of hc]
      by_cases ha : acc t i k0 = true
      · rw [ha]
        refine iteF ⟨s2, ?_⟩
        rw [idxF_succ, if_neg (by rw [ha]; exact Bool.false_ne_true), List.append_nil]
        exact gD2
      · have ha' : acc t i k0 = false := by simpa using ha
        rw [ha']
        refine iteT ⟨_, rfl, _, gD2, ?_, fun b o e => ?_, ?_⟩
        · have := idxF_len (fun a => !acc t a k0) i
          rw [List.length_map]
          exact small1000 (by omega)
        · rw [upd_ne (ne_of_none e nD)]
          exact s2 _ _ e
        · rw [upd_same, idxF_succ, if_pos (by rw [ha']; rfl), List.map_append]
          rfl
    · obtain ⟨s1, gD⟩ := hP
      rw [hlu] at gD
      exact ⟨D, _, rfl, .inl ⟨sqL gD, fun q1 n1 => q _ q1 (s1.trans (same_new n1)) (sqT upd_same)⟩⟩
end
end K2
namespace K2
open PySem PySem.Spec PyProof.Rows L2 Gd
section
variable {P : Program} {w : World} {K : PySem.W.Frag} {mg : Str → Option Value} {base : Heap}
/-! ### _law_names -/
def spNames (K : PySem.W.Frag) : Sp := fun vs H Q _ => ∃ (h l : Addr) (L : List Int) (st : Int) (n : Nat), vs = [.ref h, .int (n : Int)] ∧ Hv H h l L st ∧ n ≤ 12 ∧
  ∀ (G : Hp) (L' : List Int) (st' : Int) (q : Addr) (ss : List Str), But h l H G → Hv G h l L' st' → SqT K G q (ss.map V.str) → GoodN n ss → AscS ss → Q (.ref q) G
theorem ok_names {f fD fP : Addr} {fd fdD fdP : FuncData} {k : Nat} (F : Fun K "_law_names" "_law_names" s__law_names f fd) (FD : Fun K "_law_draw" "_law_draw" s__law_draw fD fdD) (FP : Fun K "_law_pick" "_law_pick" s__law_pick fP fdP)
    (bD : Binds K fdD ["heap", "many"] []) (bP : Binds K fdP ["heap", "some"] []) (gD : mg "_law_draw" = some (.ref fD)) (gP : mg "_law_pick" = some (.ref fP))
    (ml : mg "len" = none) (mi : mg "int" = none) (mr : mg "range" = none) (mt : mg "tuple" = none) (ms : mg "sorted" = none) (mm : mg "max" = none) : FnOk P w K mg base CX0 (k + 1 + 1 + 1) f fd ["heap", "many"] (spNames K) := by
  have GD : FnOk P w K mg base CX0 (k + 1 + 1) fD fdD ["heap", "many"] spDraw := ok_draw FD mi
  have GP : FnOk P w K mg base CX0 (k + 1 + 1) fP fdP ["heap", "some"] (spPick K) := ok_pick FP FD bD gD ml mi
  refine F.ok sc__law_names (fun vs H Q E h => ?_) (fun cdv A outer s H vs Q E hr h => ?_)
  · obtain ⟨h, l, L, st, n, rfl, _⟩ := h
    rfl
  · obtain ⟨h, l, L, st, n, rfl, hv, hn, q⟩ := h
    refine blk_cons (ps_asg (pe_tup (pa_cons pe_str (pa_cons (pe_call GP hr (by rfl) gP FP.kp bP .nil pass0 (pa_cons (pv 0) (pa_cons (pe_lst (pa_cons pe_str (pa_cons pe_str (pa_cons pe_str (pa_cons pe_str (pa_cons pe_str pa_nil)))))) pa_nil))) (pa_cons (pe_call GD hr (by rfl) gD FD.kp bD .nil pass0 (pa_cons (pv 0) (pa_cons pe_int pa_nil))) pa_nil))))
      (pg_tup rfl (pgs_cons (pg_name (i := 2) sc__law_names.nd rfl (.inr rfl)) (pgs_cons (pg_name (i := 3) sc__law_names.nd rfl (.inr rfl)) (pgs_cons (pg_name (i := 4) sc__law_names.nd rfl (.inr rfl)) pgs_nil))))) ?_
    refine blk_cons (ps_setLc (i := 6) (own := [("at", 5)]) (g := gName 5) (tt := tYes) rfl sc__law_names.nd rfl rfl (sw_true rfl rfl rfl (by decide +kernel)) (pi_range1 (by rfl) mr (pa_cons (pv 1) pa_nil)) (blkOk_by (own := [("at", 5)]) (N := n__law_names) (sc := defScope s__law_names) (by decide +kernel))
      (fun _ _ _ _ _ => pg_name (i := 5) sc__law_names.nd rfl (Or.inl rfl)) (fun _ _ _ _ _ => pts_nil)
      (fun _ _ _ _ _ => pe_op op_add_str (pv 3) (pe_ix ix_str (pv 2) (pe_op op_mod (pe_callTy call_int1 (by rfl) mi (by decide +kernel) (pa_cons (pe_op op_add (pv 4) (pe_op op_mul pe_int (pv 5))) pa_nil)) pe_int) (fun _ _ => rfl)))) ?_
    refine blk_cons (ps_set (i := 5) sc__law_names.nd rfl (.inl rfl) (pe_call GD hr (by rfl) gD FD.kp bD .nil pass0 (pa_cons (pv 0) (pa_cons (pe_callB (call_max2 rfl) (by rfl) mm (by decide +kernel) (pa_cons pe_int (pa_cons (pv 1) pa_nil))) pa_nil)))) ?_
    refine blk_cons (ps_if (PW.pt (pw_and (pt_cmpR op_gt (pv 1) pe_int (nomark _)) (pw_and (pt_cmpR op_lt (pe_callB call_len_str (by rfl) ml PySem.boot_len (pa_cons (pe_ix ix_list (pv 6) (pv 5) (fun _ _ => rfl)) pa_nil)) pe_int (nomark _))
      (pw_and1 (pt_cmpR op_eq (pe_call GD hr (by rfl) gD FD.kp bD .nil pass0 (pa_cons (pv 0) (pa_cons pe_int pa_nil))) pe_int (nomark _)))))) (pss_one (ps_asg (pe_op op_add_str (pe_ix ix_list (pv 6) (pv 5) (fun _ _ => rfl)) pe_str) (pg_sub (pv 6) (pv 5) set_list))) pss_nil) ?_
    refine blk_cons (ps_ret (pe_callTy call_tuple_of (by rfl) mt (by decide +kernel) (pa_cons (pe_callB cr_sortedS (by rfl) ms (by decide +kernel) (pa_cons (pv 6) pa_nil)) pa_nil))) ?_
    refine blk_nil ?_
    -- letters, front, first
    refine ⟨_, rfl, by show 5 ≤ sizeLine; decide, fun p np => ?_⟩
    refine ⟨h, l, L, st, p, [.str (Str.ofString ""), .str (Str.ofString ""), .str (Str.ofString "b"), .str (Str.ofString "zz"), .str (Str.ofString "mnopqrs")], rfl, hv.new np, sqL upd_same, (ne_of_none hv.top np).symm, (ne_of_none hv.bot np).symm, by show 0 < 5; decide, by show 5 < 1000; decide, fun G1 L1 st1 i x b1 hv1 hx => ?_⟩
    obtain ⟨z, rfl, hz⟩ : ∃ z, x = .str z ∧ Front z := by
      match i, hx with
      | 0, hx => cases hx; exact ⟨_, rfl, front_lit (by decide +kernel)⟩
      | 1, hx => cases hx; exact ⟨_, rfl, front_lit (by decide +kernel)⟩
      | 2, hx => cases hx; exact ⟨_, rfl, front_lit (by decide +kernel)⟩
      | 3, hx => cases hx; exact ⟨_, rfl, front_lit (by decide +kernel)⟩
      | 4, hx => cases hx; exact ⟨_, rfl, front_lit (by decide +kernel)⟩
      | _ + 5, hx => simp at hx
    refine ⟨_, rfl, h, l, L1, st1, 26, rfl, hv1, by decide, by decide, fun G2 L2 st2 r b2 hv2 r0 r1 => ?_⟩
    obtain ⟨first, rfl⟩ := Int.eq_ofNat_of_zero_le r0
    refine ⟨by show 3 ≤ sizeLine; decide, fun tq ntq => ⟨tq, _, rfl, sqT upd_same, rfl, _, _, rfl, _, _, rfl, _, _, rfl, rfl, ?_⟩⟩
    have b3 := (((But.refl h l H).new np).trans (b1.trans b2)).new (o := .tup [.str zAbc, .str z, .int (first : Int)]) ntq
    have hv3 := hv2.new (o := .tup [.str zAbc, .str z, .int (first : Int)]) ntq
    generalize upd G2 tq (.tup [.str zAbc, .str z, .int (first : Int)]) = G3 at b3 hv3 ⊢
    -- found
    refine ⟨_, rfl, _, rfl, by omega, by omega, fun D nD => ?_⟩
    have neh : h ≠ D := ne_of_none hv3.top nD
    have nel : l ≠ D := ne_of_none hv3.bot nD
    refine lc_range (lo := 0) (n := ((n : Int)).toNat) (fun i G => Same G3 G ∧ G D = some (.lst ((namesN z first i).map V.str))) ⟨same_new nD, upd_same⟩ (fun i G hi hP => ?_) (fun G hP => ?_)
    · obtain ⟨s1, gD⟩ := hP
      refine ⟨rfl, ?_⟩
      dsimp only [tYes]
      rw [if_pos rfl]
      have e1 : (first : Int) + 7 * (0 + (i : Int)) = ((first + 7 * i : Nat) : Int) := by omega
      have hz7 := hz.1
      have hat : atI zAbc.cps.toList (((first : Int) + 7 * (0 + (i : Int))) % 26) = some (letN first i) := by
        have e : ((first : Int) + 7 * (0 + (i : Int))) % 26 = (((first + 7 * i) % 26 : Nat) : Int) := by omega
        rw [e]
        exact atI_nat (abc_at (Nat.mod_lt _ (by decide)))
      refine ⟨_, rfl, _, rfl, _, rfl, _, rfl, _, _, rfl, rfl, .inl ⟨by decide, by decide⟩, _, _, rfl, rfl, .inl ⟨_, rfl, _, _, rfl, rfl, by show (0 : Int) < 26; decide, zAbc, ((first : Int) + 7 * (0 + (i : Int))) % 26, letN first i, rfl, rfl, by decide +kernel, hat, ?_⟩⟩
      refine ⟨z, _, rfl, rfl, ?_, ?_⟩
      · show z.length + 1 ≤ _
        exact Nat.le_trans (Nat.succ_le_succ hz7) (by decide)
      refine ⟨_, gD, ?_, fun b ob e => ?_, ?_⟩
      · rw [List.length_map, namesN_len]
        exact small1000 (by omega)
      · rw [upd_ne (ne_of_none e nD)]
        exact s1 _ _ e
      · rw [upd_same, namesN_succ, List.map_append]
        rfl
    obtain ⟨s4, gD⟩ := hP
    have en : ((n : Int)).toNat = n := by omega
    rw [en] at gD
    have b4 : But h l H G := b3.same s4
    have hv4 := hv3.same s4
    -- at
    refine ⟨_, rfl, _, rfl, _, _, rfl, h, l, L2, st2, _, rfl, hv4, ?_, ?_, fun G5 L5 st5 r5 b5 hv5 r50 r51 => ?_⟩
    · split <;> omega
    · split <;> omega
    obtain ⟨a, rfl⟩ := Int.eq_ofNat_of_zero_le r50
    have gD5 := b5 _ _ neh.symm nel.symm gD
    have b5' := b4.trans b5
    -- if many > 0 and ..
    dsimp only [gName]
    refine seq_out (t := tIfS _ _ _) (fun σ' G' => ∃ (ss : List Str) (L' : List Int) (st' : Int) (y5 : Option V), σ' = [some (.ref h), some (.int (n : Int)), some (.str zAbc), some (.str z), some (.int (first : Int)), y5, some (.ref D)] ∧ G' D = some (.lst (ss.map V.str)) ∧ GoodN n ss ∧ But h l H G' ∧ Hv G' h l L' st') (fun N hN => ?_) (fun σ' G6 hR => ?_)
    · have plain : ∀ (G6 : Hp) (L6 : List Int) (st6 : Int), G6 D = some (.lst ((namesN z first n).map V.str)) → But h l H G6 → Hv G6 h l L6 st6 → N [some (.ref h), some (.int (n : Int)), some (.str zAbc), some (.str z), some (.int (first : Int)), some (.int (a : Int)), some (.ref D)] G6 := fun G6 L6 st6 g1 g2 g3 =>
        hN _ _ ⟨_, L6, st6, _, rfl, g1, names_good hz first hn, g2, g3⟩
      refine ⟨_, rfl, _, _, rfl, rfl, _, rfl, ite2 (fun h0 => ?_) (fun _ => plain G5 L5 st5 gD5 b5' hv5)⟩
      have n0 : 0 < n := by
        have := of_decide_eq_true h0
        omega
      have han : a < n := by
        revert r51
        split <;> intro r51 <;> omega
      have ga := namesN_at (front := z) (first := first) han
      refine ⟨_, rfl, _, rfl, D, _, _, _, rfl, rfl, sqL gD5, atI_nat (by rw [List.getElem?_map, ga]; rfl), nameN z first a, rfl, Nat.le_trans (name_nm hz first a).1.2 (by decide), _, _, rfl, rfl, _, rfl, ite2 (fun h8 => ?_) (fun _ => plain G5 L5 st5 gD5 b5' hv5)⟩
      have l8 : (nameN z first a).length < 8 := by
        have := of_decide_eq_true h8
        omega
      refine ⟨_, rfl, h, l, L5, st5, 2, rfl, hv5, by decide, by decide, fun G6 L6 st6 r6 b6 hv6 r60 r61 => ?_⟩
      have gD6 := b6 _ _ neh.symm nel.symm gD5
      refine ⟨rfl, _, rfl, ite2 (fun _ => ?_) (fun _ => plain G6 L6 st6 gD6 (b5'.trans b6) hv6)⟩
      refine ⟨_, rfl, _, rfl, D, _, _, _, rfl, rfl, sqL gD6, atI_nat (by rw [List.getElem?_map, ga]; rfl), _, _, rfl, rfl, ?_, ?_⟩
      · have := (name_nm hz first a).1.2
        exact Nat.le_trans (Nat.add_le_add this (show (Str.ofString "o").length ≤ 1 by decide +kernel)) (by decide)
      refine ⟨_, rfl, _, rfl, D, _, _, a, rfl, rfl, gD6, ixN_nat (by rw [List.length_map, namesN_len]; exact han), ?_⟩
      refine hN _ _ ⟨(namesN z first n).set a (nameN z first a ++ Str.ofString "o"), L6, st6, _, rfl, ?_, names_o hz first hn l8 (by decide +kernel), fun b ob e1 e2 e => ?_, ⟨(upd_ne neh).trans hv6.top, (upd_ne nel).trans hv6.bot, hv6.ne, hv6.lo, hv6.hi, hv6.len⟩⟩
      · rw [upd_same, List.map_set]
      · have e0 := b3 b ob e1 e2 e
        rw [upd_ne (ne_of_none e0 nD)]
        exact b6 _ _ e1 e2 (b5 _ _ e1 e2 (s4 _ _ e0))
    obtain ⟨ss, L6, st6, y5, rfl, gD6, gs, b6, hv6⟩ := hR
    refine ⟨_, rfl, D, ss, rfl, sqL gD6, by have := gs.1; omega, fun ys p7 hp hs np7 => ?_⟩
    have gy := good_perm gs hp
    refine ⟨p7, _, rfl, .inl ⟨sqL upd_same, fun q8 nq8 => ?_⟩⟩
    exact q _ L6 st6 q8 ys ((b6.new np7).new nq8) ((hv6.new np7).new nq8) (sqT upd_same) gy (sorted_asc hs gy.2.2)
end
end K2
namespace Gd
open PySem PySem.Spec PyProof.Rows L2
def LotOk (kk : Nat) (ls : List Int) : Prop := AscI ls ∧ ∀ n ∈ ls, 0 ≤ n ∧ n < (kk : Int)
theorem lot_idx (g : Nat → Bool) (n : Nat) : LotOk n (idxF g n) := ⟨idxF_asc g n, fun x hx => by
  obtain ⟨i, rfl, hi, _⟩ := idxF_mem.mp hx
  omega⟩
theorem rgV_idx (n : Nat) : rgV 0 (n : Int) = (idxF (fun _ => true) n).map V.int := by
  unfold rgV idxF
  rw [List.filter_eq_self.mpr fun _ _ => rfl, List.map_map, show ((n : Int) - 0).toNat = n by omega]
  refine List.map_congr_left fun i _ => ?_
  show V.int (0 + (i : Int)) = V.int (i : Int)
  rw [Int.zero_add]
theorem types_fineL {cs : List (Str × List Int)} {kk : Nat} (hk : kk ≤ 8) (h : ∀ c ∈ cs, Nm c.1 ∧ LotOk kk c.2) : SeqAt.shaped (.list (cs.map typeD)) = true := by
  refine fine_shaped ?_ ?_
  · rw [fine]
    exact fineAll_mem fun d hd => by
      obtain ⟨p, hp, rfl⟩ := List.mem_map.mp hd
      exact type_fine (h p hp).1 (h p hp).2.2 hk
  · rw [PyData.depth]
    have : PyData.depthAll (cs.map typeD) ≤ 3 := depthAll_mem fun d hd => by
      obtain ⟨p, _, rfl⟩ := List.mem_map.mp hd
      have e : PyData.depthAll (p.2.map .int) ≤ 1 := depthAll_mem fun d hd => by
        obtain ⟨x, _, rfl⟩ := List.mem_map.mp hd
        simp [PyData.depth]
      simp only [typeD, PyData.depth, PyData.depthAll]
      omega
    omega
theorem noListAll_types (cs : List (Str × List Int)) : noListAll (cs.map typeD) = true := noListAll_mem fun d hd => by
  obtain ⟨p, _, rfl⟩ := List.mem_map.mp hd
  exact noList_type p
end Gd
namespace K2
open PySem PySem.Spec PyProof.Rows L2 Gd
section
variable {P : Program} {w : World} {K : PySem.W.Frag} {mg : Str → Option Value} {base : Heap}
/-! ### _law_lot -/
def spLLot (K : PySem.W.Frag) : Sp := fun vs H Q _ => ∃ (h l : Addr) (L : List Int) (st : Int) (n : Nat) (sh : Int), vs = [.ref h, .int (n : Int), .int sh] ∧ Hv H h l L st ∧ n ≤ 12 ∧ 0 < sh ∧ sh < 1000 ∧
  ∀ (G : Hp) (L' : List Int) (st' : Int) (q : Addr) (g : Nat → Bool), But h l H G → Hv G h l L' st' → SqT K G q ((idxF g n).map V.int) → Q (.ref q) G
theorem ok_llot {f fD : Addr} {fd fdD : FuncData} {k : Nat} (F : Fun K "_law_lot" "_law_lot" s__law_lot f fd) (FD : Fun K "_law_draw" "_law_draw" s__law_draw fD fdD) (bD : Binds K fdD ["heap", "many"] []) (gD : mg "_law_draw" = some (.ref fD))
    (mi : mg "int" = none) (mr : mg "range" = none) (mt : mg "tuple" = none) : FnOk P w K mg base CX0 (k + 1 + 1) f fd ["heap", "many", "share"] (spLLot K) := by
  have GD : FnOk P w K mg base CX0 (k + 1) fD fdD ["heap", "many"] spDraw := ok_draw FD mi
  refine F.ok sc__law_lot (fun vs H Q E h => ?_) (fun cdv A outer s H vs Q E hr h => ?_)
  · obtain ⟨h, l, L, st, n, sh, rfl, _⟩ := h
    rfl
  · obtain ⟨h, l, L, st, n, sh, rfl, hv, hn, h0, h1, q⟩ := h
    refine blk_cons (ps_ret (pe_callTy call_tuple_of (by rfl) mt (by decide +kernel) (pa_cons (pe_lc (own := [("at", 3)]) (g := gName 3) rfl sc__law_lot.nd (pi_range1 (by rfl) mr (pa_cons (pv 1) pa_nil)) (blkOk_by (own := [("at", 3)]) (N := n__law_lot) (sc := defScope s__law_lot) (by decide +kernel))
      (fun _ _ _ _ _ => pg_name (i := 3) sc__law_lot.nd rfl (Or.inl rfl)) (fun _ _ _ _ _ => pts_one (pt_cmpR op_eq (pe_call GD hr (by rfl) gD FD.kp bD .nil pass0 (pa_cons (pv 0) (pa_cons (pv 2) pa_nil))) pe_int (nomark _))) (fun _ _ _ _ _ => pv 3)) pa_nil))) ?_
    refine blk_nil ?_
    refine ⟨_, rfl, _, rfl, by omega, by omega, fun D nD => ?_⟩
    have neh : h ≠ D := ne_of_none hv.top nD
    have nel : l ≠ D := ne_of_none hv.bot nD
    refine lc_range (lo := 0) (n := ((n : Int)).toNat) (fun i G => But h l H G ∧ (∃ L4 st4, Hv G h l L4 st4) ∧ ∃ g : Nat → Bool, G D = some (.lst ((idxF g i).map V.int))) ⟨(But.refl _ _ _).new nD, ⟨_, _, hv.new nD⟩, fun _ => false, upd_same⟩ (fun i G hi hP => ?_) (fun G hP => ?_)
    · obtain ⟨b1, ⟨L1, st1, hv1⟩, g, gD1⟩ := hP
      refine ⟨rfl, _, rfl, _, rfl, h, l, L1, st1, sh, rfl, hv1, h0, by omega, fun G2 L2 st2 r b2 hv2 r0 r1 => ?_⟩
      have gD2 := b2 _ _ neh.symm nel.symm gD1
      have ez : (0 + (i : Int)) = (i : Int) := by omega
      have same : ∀ b : Bool, idxF (fun a => if a = i then b else g a) i = idxF g i := fun b => idxF_congr fun a ha => if_neg (by omega)
      refine ⟨rfl, _, rfl, ite2 (fun _ => ?_) (fun _ => ⟨fun b o e1 e2 e => b2 _ _ e1 e2 (b1 _ _ e1 e2 e), ⟨L2, st2, hv2⟩, fun a => if a = i then false else g a, ?_⟩)⟩
      · refine ⟨_, rfl, _, gD2, ?_, fun b ob e1 e2 e => ?_, ⟨L2, st2, ⟨(upd_ne neh).trans hv2.top, (upd_ne nel).trans hv2.bot, hv2.ne, hv2.lo, hv2.hi, hv2.len⟩⟩, fun a => if a = i then true else g a, ?_⟩
        · have := idxF_len g i
          rw [List.length_map]
          exact small1000 (by omega)
        · rw [upd_ne (ne_of_none e nD)]
          exact b2 _ _ e1 e2 (b1 _ _ e1 e2 e)
        · rw [upd_same, idxF_succ, same, if_pos (if_pos rfl), List.map_append, ez]
          rfl
      · rw [idxF_succ, same, if_neg (by rw [if_pos rfl]; exact Bool.false_ne_true), List.append_nil]
        exact gD2
    · obtain ⟨b1, ⟨L1, st1, hv1⟩, g, gD1⟩ := hP
      rw [show ((n : Int)).toNat = n by omega] at gD1
      exact ⟨D, _, rfl, .inl ⟨sqL gD1, fun q1 n1 => q _ L1 st1 q1 g (b1.new n1) (hv1.new n1) (sqT upd_same)⟩⟩
/-! ### _law_parts -/
def spParts (K : PySem.W.Frag) : Sp := fun vs H Q _ => ∃ (h l : Addr) (L : List Int) (st : Int) (kk tt : Nat), vs = [.ref h, .int (kk : Int), .int (tt : Int)] ∧ Hv H h l L st ∧ 1 ≤ kk ∧ kk ≤ 8 ∧ tt ≤ 12 ∧
  ∀ (G : Hp) (L' : List Int) (st' : Int) (q pk pt : Addr) (t : TD), But h l H G → Hv G h l L' st' → SqT K G q [.ref pk, .ref pt] → Dp K G (.ref pk) (kindsD t) → Dp K G (.ref pt) (typesD t) → TOk t → t.kinds.length = kk → t.types.length = tt → Q (.ref q) G
theorem ok_parts {f fD fP fM fL : Addr} {fd fdD fdP fdM fdL : FuncData} {k : Nat} (F : Fun K "_law_parts" "_law_parts" s__law_parts f fd) (FD : Fun K "_law_draw" "_law_draw" s__law_draw fD fdD) (FP : Fun K "_law_pick" "_law_pick" s__law_pick fP fdP) (FM : Fun K "_law_names" "_law_names" s__law_names fM fdM) (FL : Fun K "_law_lot" "_law_lot" s__law_lot fL fdL)
    (bD : Binds K fdD ["heap", "many"] []) (bP : Binds K fdP ["heap", "some"] []) (bM : Binds K fdM ["heap", "many"] []) (bL : Binds K fdL ["heap", "many", "share"] []) (gD : mg "_law_draw" = some (.ref fD)) (gP : mg "_law_pick" = some (.ref fP)) (gM : mg "_law_names" = some (.ref fM)) (gL : mg "_law_lot" = some (.ref fL))
    (ml : mg "len" = none) (mi : mg "int" = none) (mr : mg "range" = none) (mt : mg "tuple" = none) (ms : mg "sorted" = none) (mm : mg "max" = none) : FnOk P w K mg base CX0 (k + 1 + 1 + 1 + 1) f fd ["heap", "kinds", "types"] (spParts K) := by
  have GD : FnOk P w K mg base CX0 (k + 1 + 1 + 1) fD fdD ["heap", "many"] spDraw := ok_draw FD mi
  have GP : FnOk P w K mg base CX0 (k + 1 + 1 + 1) fP fdP ["heap", "some"] (spPick K) := ok_pick FP FD bD gD ml mi
  have GM : FnOk P w K mg base CX0 (k + 1 + 1 + 1) fM fdM ["heap", "many"] (spNames K) := ok_names FM FD FP bD bP gD gP ml mi mr mt ms mm
  have GL : FnOk P w K mg base CX0 (k + 1 + 1 + 1) fL fdL ["heap", "many", "share"] (spLLot K) := ok_llot FL FD bD gD mi mr mt
  refine F.ok sc__law_parts (fun vs H Q E h => ?_) (fun cdv A outer s H vs Q E hr h => ?_)
  · obtain ⟨h, l, L, st, kk, tt, rfl, _⟩ := h
    rfl
  · obtain ⟨h, l, L, st, kk, tt, rfl, hv, k1, k8, t12, q⟩ := h
    refine blk_cons (ps_par (i := 3) (j := 4) rfl sc__law_parts.nd rfl rfl (by decide) rfl rfl (pa_cons (pe_call GM hr (by rfl) gM FM.kp bM .nil pass0 (pa_cons (pv 0) (pa_cons (pv 2) pa_nil))) (pa_cons (pe_lst pa_nil) pa_nil)) (by rfl)) ?_
    refine blk_cons (ps_for PassesOwn.never rfl (pi_tup (pv 3)) (pg_name (i := 5) sc__law_parts.nd rfl (.inl rfl))
      (pss_cons (ps_set (i := 6) sc__law_parts.nd rfl (.inl rfl) (pe_call GD hr (by rfl) gD FD.kp bD .nil pass0 (pa_cons (pv 0) (pa_cons pe_int pa_nil))))
      (pss_cons (ps_set (i := 7) sc__law_parts.nd rfl (.inl rfl) (pe_call GL hr (by rfl) gL FL.kp bL .nil pass0 (pa_cons (pv 0) (pa_cons (pv 1) (pa_cons (pe_call GP hr (by rfl) gP FP.kp bP .nil pass0 (pa_cons (pv 0) (pa_cons (pe_lst (pa_cons pe_int (pa_cons pe_int (pa_cons pe_int pa_nil)))) pa_nil))) pa_nil)))))
      (pss_cons (ps_if (PW.pt (pw_and (pt_cmpR op_eq (pv 6) pe_int (nomark _)) (pw_and1 (pt_cmpR (op_neD hr.units) (pv 4) (pe_lst pa_nil) (nomark _))))) (pss_one (ps_set (i := 7) sc__law_parts.nd rfl (.inl rfl) (pe_ix ix_tup (pe_ix ix_list (pv 4) (pe_un un_neg pe_int) (fun _ _ => rfl)) pe_int (fun _ _ => rfl)))) pss_nil)
      (pss_one (ps_expr (pe_bm PySem.F.plainAttrs_list PySem.F.slot_list_append PySem.F.type_list_append mt_append (pv 4) (pa_cons (pe_tup (pa_cons (pv 5) (pa_cons (pe_ifExp (PW.pt (pw_and (pt_cmpR op_eq (pv 6) pe_int (nomark _)) (pw_and1 (pt_cmpR op_eq (pe_call GD hr (by rfl) gD FD.kp bD .nil pass0 (pa_cons (pv 0) (pa_cons pe_int pa_nil))) pe_int (nomark _)))))
        (pe_tupRg rfl (by rfl) mt (prg_1 (by rfl) mr (pv 1))) (pv 7)) pa_nil))) pa_nil)))))))) ?_
    refine blk_cons (ps_ret (pe_tup (pa_cons (pe_call GM hr (by rfl) gM FM.kp bM .nil pass0 (pa_cons (pv 0) (pa_cons (pv 1) pa_nil))) (pa_cons (pe_callTy call_tuple_of (by rfl) mt (by decide +kernel) (pa_cons (pv 4) pa_nil)) pa_nil)))) ?_
    refine blk_nil ?_
    refine ⟨_, rfl, _, rfl, h, l, L, st, tt, rfl, hv, t12, fun G1 L1 st1 nq ss b1 hv1 hnq gs as => ⟨Nat.zero_le _, fun F nF => ⟨_, _, rfl, ?_⟩⟩⟩
    have nFh : h ≠ F := ne_of_none hv1.top nF
    have nFl : l ≠ F := ne_of_none hv1.bot nF
    have hv2 := hv1.new (o := .lst []) nF
    have b2 := b1.new (o := .lst []) nF
    have hnq2 := same_seqT (same_new (o := .lst []) nF) hnq
    have gF := upd_same (H := G1) (a := F) (o := .lst [])
    have hHF : H F = none ∨ True := .inr trivial
    generalize upd G1 F (.lst []) = G2 at hv2 b2 hnq2 gF ⊢
    have keepH : ∀ {G : Hp} {ob : HO}, But h l H G1 → But h l H G → But h l H (upd G F ob) := fun {G ob} ba bb b o e1 e2 e => (upd_ne (ne_of_none (ba _ _ e1 e2 e) nF)).trans (bb _ _ e1 e2 e)
    dsimp only [gName]
    refine seq_out (t := tFor _ _ _) (fun σ' G' => ∃ (cs : List (Str × List Int)) (vs : List V) (y5 y6 y7 : Option V) (L' : List Int) (st' : Int), σ' = [some (.ref h), some (.int (kk : Int)), some (.int (tt : Int)), some (.ref nq), some (.ref F), y5, y6, y7] ∧ But h l H G' ∧ Hv G' h l L' st' ∧ G' F = some (.lst vs) ∧ DpAll K G' vs (cs.map typeD) ∧
      cs.map (·.1) = ss ∧ ∀ c ∈ cs, LotOk kk c.2) (fun N hN => ?_) (fun σ' G3 hR => ?_)
    · refine ⟨_, rfl, nq, rfl, ⟨_, hnq2⟩, for_tup (xs := ss.map V.str) (fun i σ G => ∃ (cs : List (Str × List Int)) (vs : List V) (y5 y6 y7 : Option V) (L' : List Int) (st' : Int), σ = [some (.ref h), some (.int (kk : Int)), some (.int (tt : Int)), some (.ref nq), some (.ref F), y5, y6, y7] ∧ But h l H G ∧ Hv G h l L' st' ∧ G F = some (.lst vs) ∧ DpAll K G vs (cs.map typeD) ∧
          cs.map (·.1) = ss.take i ∧ (∀ c ∈ cs, LotOk kk c.2) ∧ SqT K G nq (ss.map V.str)) ⟨[], [], none, none, none, L1, st1, rfl, b2, hv2, gF, .nil, rfl, fun c hc => absurd hc List.not_mem_nil, hnq2⟩ (fun i σ G _ hP => ?_) (fun i x σ G hx hP => ?_) (fun σ G hP => ?_)⟩
      · obtain ⟨_, _, _, _, _, _, _, _, _, _, _, _, _, _, z⟩ := hP
        exact z
      · obtain ⟨cs, vs, y5, y6, y7, L3, st3, rfl, b3, hv3, gF3, hd3, hc3, hl3, hq3⟩ := hP
        rw [List.getElem?_map] at hx
        obtain ⟨z, hz, rfl⟩ := Option.map_eq_some_iff.mp hx
        have hi : i < ss.length := (List.getElem?_eq_some_iff.mp hz).1
        have hcl : cs.length = i := by
          have := congrArg List.length hc3
          rw [List.length_map, List.length_take] at this
          omega
        have gsl := gs.1
        have hnm : ∀ c ∈ cs, Nm c.1 ∧ LotOk kk c.2 := fun c hc => by
          have m : c.1 ∈ cs.map (·.1) := List.mem_map.mpr ⟨c, hc, rfl⟩
          rw [hc3] at m
          exact ⟨gs.2.1 _ ((List.take_sublist i ss).mem m), hl3 c hc⟩
        dsimp only [gName]
        -- kind
        refine ⟨_, rfl, h, l, L3, st3, 6, rfl, hv3, by decide, by decide, fun G4 L4 st4 kn b4 hv4 kn0 kn1 => ?_⟩
        have k4 := KeepT.but hv3 b4
        have gF4 := b4 _ _ nFh.symm nFl.symm gF3
        -- lot
        refine ⟨_, rfl, _, rfl, _, rfl, by show 3 ≤ sizeLine; decide, fun p5 n5 => ?_⟩
        refine ⟨h, l, L4, st4, p5, [.int 2, .int 2, .int 3], rfl, hv4.new n5, sqL upd_same, (ne_of_none hv4.top n5).symm, (ne_of_none hv4.bot n5).symm, by show 0 < 3; decide, by show 3 < 1000; decide, fun G6 L6 st6 j6 x6 b6 hv6 hx6 => ?_⟩
        obtain ⟨sh, rfl, sh0, sh1⟩ : ∃ sh : Int, x6 = .int sh ∧ 0 < sh ∧ sh < 1000 := by
          match j6, hx6 with
          | 0, hx6 => cases hx6; exact ⟨_, rfl, by decide, by decide⟩
          | 1, hx6 => cases hx6; exact ⟨_, rfl, by decide, by decide⟩
          | 2, hx6 => cases hx6; exact ⟨_, rfl, by decide, by decide⟩
          | _ + 3, hx6 => simp at hx6
        have s5 : Same G4 (upd G4 p5 (.lst [.int 2, .int 2, .int 3])) := same_new n5
        refine ⟨h, l, L6, st6, kk, sh, rfl, hv6, by omega, sh0, sh1, fun G7 L7 st7 lq gl b7 hv7 hlq => ?_⟩
        have kt7 : KeepT G G7 := (k4.trans (.of s5)).trans ((KeepT.but (hv4.same s5) b6).trans (KeepT.but hv6 b7))
        have b07 : But h l H G7 := b3.trans ((b4.trans ((But.refl h l G4).same s5)).trans (b6.trans b7))
        have gF7 := b7 _ _ nFh.symm nFl.symm (b6 _ _ nFh.symm nFl.symm (s5 _ _ gF4))
        have hd7 := dpAll_keep kt7 _ _ (noListAll_types cs) hd3
        have hq7 := kt7.seqT hq3
        -- if kind == 0 and found != []
        dsimp only [gName]
        refine seq_out (t := tIfS _ _ _) (fun σ' G' => ∃ (lq : Addr) (ls : List Int), σ' = [some (.ref h), some (.int (kk : Int)), some (.int (tt : Int)), some (.ref nq), some (.ref F), some (.str z), some (.int kn), some (.ref lq)] ∧ SqT K G' lq (ls.map V.int) ∧ LotOk kk ls ∧ Same G7 G') (fun N2 hN2 => ?_) (fun σ' G8 hR => ?_)
        · have plain : ∀ G8, Same G7 G8 → N2 [some (.ref h), some (.int (kk : Int)), some (.int (tt : Int)), some (.ref nq), some (.ref F), some (.str z), some (.int kn), some (.ref lq)] G8 := fun G8 s8 => hN2 _ _ ⟨lq, _, rfl, same_seqT s8 hlq, lot_idx gl kk, s8⟩
          refine ⟨_, rfl, rfl, _, rfl, ite2 (fun _ => ?_) (fun _ => plain G7 (Same.refl _))⟩
          refine ⟨_, rfl, Nat.zero_le _, fun p8 n8 => ?_⟩
          have s8 : Same G7 (upd G7 p8 (.lst [])) := same_new n8
          refine ⟨_, _, .lst (sqL (s8 _ _ gF7)) (dpAll_same s8 _ _ hd7), .lst (sqL upd_same) .nil, types_fineL k8 hnm, rfl, _, rfl, ?_⟩
          have gF8 := s8 _ _ gF7
          have hd8 := dpAll_same s8 _ _ hd7
          generalize upd G7 p8 (.lst []) = G8 at s8 gF8 hd8 ⊢
          rw [eqv_nilD]
          rcases List.eq_nil_or_concat cs with e | ⟨c0, c1, ec⟩
          · subst e
            exact iteF (plain G8 s8)
          · rw [List.concat_eq_append] at ec
            subst ec
            have hd8' := hd8
            rw [List.map_append] at hd8'
            obtain ⟨us0, v, rfl, _, dv⟩ := dpAll_last hd8'
            obtain ⟨a1, l1, rfl, hq1, hl1⟩ := type_inv dv
            have e0 : ((c0 ++ [c1]).map typeD).isEmpty = false := by
              rw [List.map_append]
              cases c0.map typeD <;> rfl
            rw [e0]
            refine iteT ⟨_, rfl, 1, rfl, F, _, -1, _, rfl, rfl, sqL gF8, atI_last _ _, a1, _, 1, _, rfl, rfl, hq1, atI_nat (j := 1) rfl, ?_⟩
            exact hN2 _ _ ⟨l1, _, rfl, hl1, hl3 c1 (by simp), s8⟩
        obtain ⟨lq2, ls, rfl, hls, lok, s8⟩ := hR
        have gF8 := s8 _ _ gF7
        have hv8 := hv7.same s8
        have b08 := b07.same s8
        have hd8 := dpAll_same s8 _ _ hd7
        have hq8 := same_seqT s8 hq7
        -- found.append((name, ..))
        refine ⟨_, rfl, .inl ⟨rfl, _, sqL gF8⟩, _, rfl, ?_⟩
        have fin : ∀ (G9 : Hp) (L9 : List Int) (st9 : Int) (lr : Addr) (lz : List Int), But h l H G9 → Hv G9 h l L9 st9 → G9 F = some (.lst vs) → DpAll K G9 vs (cs.map typeD) → SqT K G9 nq (ss.map V.str) → SqT K G9 lr (lz.map V.int) → LotOk kk lz →
            [V.str z, V.ref lr].length ≤ sizeLine ∧ ∀ tp, G9 tp = none → ∃ l0 vs0 v1, V.ref F = .ref l0 ∧ [V.ref tp] = [v1] ∧ (upd G9 tp (.tup [.str z, .ref lr])) l0 = some (.lst vs0) ∧ vs0.length < sizeLine ∧
              ∃ (cs : List (Str × List Int)) (vs : List V) (y5 y6 y7 : Option V) (L' : List Int) (st' : Int), [some (.ref h), some (.int (kk : Int)), some (.int (tt : Int)), some (.ref nq), some (.ref F), some (.str z), some (.int kn), some (.ref lq2)] = [some (.ref h), some (.int (kk : Int)), some (.int (tt : Int)), some (.ref nq), some (.ref F), y5, y6, y7] ∧
                But h l H (upd (upd G9 tp (.tup [.str z, .ref lr])) l0 (.lst (vs0 ++ [v1]))) ∧ Hv (upd (upd G9 tp (.tup [.str z, .ref lr])) l0 (.lst (vs0 ++ [v1]))) h l L' st' ∧ (upd (upd G9 tp (.tup [.str z, .ref lr])) l0 (.lst (vs0 ++ [v1]))) F = some (.lst vs) ∧
                DpAll K (upd (upd G9 tp (.tup [.str z, .ref lr])) l0 (.lst (vs0 ++ [v1]))) vs (cs.map typeD) ∧ cs.map (·.1) = ss.take (i + 1) ∧ (∀ c ∈ cs, LotOk kk c.2) ∧ SqT K (upd (upd G9 tp (.tup [.str z, .ref lr])) l0 (.lst (vs0 ++ [v1]))) nq (ss.map V.str) := by
          intro G9 L9 st9 lr lz b9 hv9 gF9 hd9 hq9 hlr lok9
          refine ⟨by show 2 ≤ sizeLine; decide, fun tp ntp => ⟨F, vs, .ref tp, rfl, rfl, (upd_ne (ne_of_none gF9 ntp)).trans gF9, ?_, cs ++ [(z, lz)], vs ++ [.ref tp], _, _, _, L9, st9, rfl, ?_, ?_, upd_same, ?_, ?_, ?_, ?_⟩⟩
          · rw [dpAll_len hd9, List.length_map]
            exact small1000 (by omega)
          · exact keepH b1 (b9.new ntp)
          · have hv10 := hv9.new (o := .tup [.str z, .ref lr]) ntp
            exact ⟨(upd_ne nFh).trans hv10.top, (upd_ne nFl).trans hv10.bot, hv10.ne, hv10.lo, hv10.hi, hv10.len⟩
          · have gF10 := (upd_ne (o := .tup [.str z, .ref lr]) (ne_of_none gF9 ntp)).trans gF9
            have k10 : KeepT G9 (upd (upd G9 tp (.tup [.str z, .ref lr])) F (.lst (vs ++ [.ref tp]))) := (KeepT.of (same_new ntp)).trans (.put gF10)
            rw [List.map_append]
            refine dpAll_snoc (dpAll_keep k10 _ _ (noListAll_types cs) hd9) ?_
            have ntF : tp ≠ F := (ne_of_none gF9 ntp).symm
            exact .tup (sqT ((upd_ne ntF).trans upd_same)) (.cons (.str _) (.cons (.tup (k10.seqT hlr) (dpAll_ints lz)) .nil))
          · rw [List.map_append, hc3, List.take_add_one, hz]
            rfl
          · intro c hc
            rcases List.mem_append.mp hc with m | m
            · exact hl3 c m
            · rw [List.mem_singleton.mp m]
              exact lok9
          · have gF10 := (upd_ne (o := .tup [.str z, .ref lr]) (ne_of_none gF9 ntp)).trans gF9
            exact ((KeepT.of (same_new ntp)).trans (.put gF10)).seqT hq9
        refine ⟨_, rfl, rfl, _, rfl, ite2 (fun _ => ?_) (fun _ => ⟨_, rfl, fin G8 L7 st7 lq2 ls b08 hv8 gF8 hd8 hq8 hls lok⟩)⟩
        refine ⟨_, rfl, h, l, L7, st7, 3, rfl, hv8, by decide, by decide, fun G9 L9 st9 r9 b9 hv9 r90 r91 => ?_⟩
        have kt9 := KeepT.but hv8 b9
        have gF9 := b9 _ _ nFh.symm nFl.symm gF8
        have hd9 := dpAll_keep kt9 _ _ (noListAll_types cs) hd8
        have b09 := b08.trans b9
        refine ⟨rfl, _, rfl, ite2 (fun _ => ?_) (fun _ => ⟨_, rfl, fin G9 L9 st9 lq2 ls b09 hv9 gF9 hd9 (kt9.seqT hq8) (kt9.seqT hls) lok⟩)⟩
        refine ⟨_, rfl, _, rfl, .of_le (by omega) (by omega) (by omega) (by omega), fun rq nrq => ?_⟩
        have s10 := same_new (o := .tup (rgV 0 (kk : Int))) nrq
        exact fin _ L9 st9 rq (idxF (fun _ => true) kk) (b09.same s10) (hv9.same s10) (s10 _ _ gF9) (dpAll_same s10 _ _ hd9) (same_seqT s10 (kt9.seqT hq8)) (by rw [← rgV_idx]; exact sqT upd_same) (lot_idx _ kk)
      · obtain ⟨cs, vs, y5, y6, y7, L3, st3, rfl, b3, hv3, gF3, hd3, hc3, hl3, hq3⟩ := hP
        rw [List.length_map, List.take_length] at hc3
        exact hN _ _ ⟨cs, vs, _, _, _, L3, st3, rfl, b3, hv3, gF3, hd3, hc3, hl3⟩
    obtain ⟨cs, vs, y5, y6, y7, L3, st3, rfl, b3, hv3, gF3, hd3, hc3, hl3⟩ := hR
    refine ⟨_, rfl, _, rfl, h, l, L3, st3, kk, rfl, hv3, by omega, fun G4 L4 st4 kq ks b4 hv4 hkq gk ak => ?_⟩
    have gF4 := b4 _ _ nFh.symm nFl.symm gF3
    have hd4 := dpAll_keep (KeepT.but hv3 b4) _ _ (noListAll_types cs) hd3
    refine ⟨_, rfl, F, vs, rfl, .inl ⟨sqL gF4, fun tq ntq => ⟨by show 2 ≤ sizeLine; decide, fun rq nrq => ?_⟩⟩⟩
    have s5 := (same_new (o := .tup vs) ntq).trans (same_new (o := .tup [.ref kq, .ref tq]) nrq)
    have csl : cs.length = tt := by
      have := congrArg List.length hc3
      rw [List.length_map, gs.1] at this
      exact this
    have nm : ∀ c ∈ cs, Nm c.1 := fun c hc => gs.2.1 _ (hc3 ▸ List.mem_map.mpr ⟨c, hc, rfl⟩)
    refine q _ L4 st4 rq kq tq ⟨ks, cs⟩ ((b3.trans b4).same s5) (hv4.same s5) (sqT upd_same) (dp_tup_strs (same_seqT s5 hkq)) ?_ ⟨?_, ?_, gk.2.1, ak, ?_, nm, ?_, fun p hp => (hl3 p hp).1, fun p hp n hn => ?_⟩ gk.1 csl
    · exact .tup (sqT ((upd_ne (ne_of_none upd_same nrq)).trans upd_same)) (dpAll_same s5 _ _ hd4)
    · show 1 ≤ ks.length
      rw [gk.1]
      exact k1
    · show ks.length ≤ 8
      rw [gk.1]
      exact k8
    · show cs.length ≤ 12
      omega
    · show AscS (cs.map (·.1))
      rw [hc3]
      exact as
    · show 0 ≤ n ∧ n < (ks.length : Int)
      rw [gk.1]
      exact (hl3 p hp).2 n hn
end
end K2
namespace Gd
open PySem PySem.Spec PyProof.Rows L2
def kindsOf (t : TD) (ts : List Int) : List Int := idxF (fun k => ts.any fun a => acc t a.toNat (k : Int)) t.kinds.length
def rowD (l : List Int) : PyData := .tuple (l.map .int)
def allD (t : TD) : PyData := .tuple ((List.range t.kinds.length).map fun k : Nat => rowD (takersL t (k : Int)))
end Gd
namespace K2
open PySem PySem.Spec PyProof.Rows L2 Gd
section
variable {P : Program} {w : World} {K : PySem.W.Frag} {mg : Str → Option Value} {base : Heap}
/-! ### all_takers -/
def spAll (K : PySem.W.Frag) (C : Addr) : Sp := fun vs H Q _ => ∃ (p dx pk pt : Addr) (t : TD), vs = [.ref p] ∧ TblAt K C H p dx pk pt t ∧ TOk t ∧ ∀ G q, Same H G → Dp K G (.ref q) (allD t) → Q (.ref q) G
theorem ok_all {f fO C : Addr} {fd fdO : FuncData} {k : Nat} (F : Fun K "all_takers" "all_takers" s_all_takers f fd) (T : TTxt K mg C) (FO : Fun K "takers" "takers" s_takers fO fdO) (bO : Binds K fdO ["table", "kind"] []) (gO : mg "takers" = some (.ref fO)) (GO : FnOk P w K mg base CX0 k fO fdO ["table", "kind"] (spTakers K C))
    (mt : mg "tuple" = none) (mr : mg "range" = none) (ml : mg "len" = none) : FnOk P w K mg base CX0 (k + 1) f fd ["table"] (spAll K C) := by
  refine F.ok sc_all_takers (fun vs H Q E h => ?_) (fun cdv A outer s H vs Q E hr h => ?_)
  · obtain ⟨p, dx, pk, pt, t, rfl, _⟩ := h
    rfl
  · obtain ⟨p, dx, pk, pt, t, rfl, d, ok, q⟩ := h
    refine blk_cons (ps_ret (pe_callTy call_tuple_of (by rfl) mt (by decide +kernel) (pa_cons (pe_lc (own := [("kind", 1)]) (g := gName 1) (tt := tYes) rfl sc_all_takers.nd (pi_range1 (by rfl) mr (pa_cons (pe_callB call_len_seq (by rfl) ml PySem.boot_len (pa_cons (pe_fld (pv 0) rfl) pa_nil)) pa_nil))
      (blkOk_by (own := [("kind", 1)]) (N := n_all_takers) (sc := defScope s_all_takers) (by decide +kernel)) (fun _ _ _ _ _ => pg_name (i := 1) sc_all_takers.nd rfl (Or.inl rfl)) (fun _ _ _ _ _ => pts_nil) (fun _ _ _ _ _ => pe_call GO hr (by rfl) gO FO.kp bO .nil pass0 (pa_cons (pv 0) (pa_cons (pv 1) pa_nil)))) pa_nil))) ?_
    refine blk_nil ?_
    have k8 := ok.k8
    refine ⟨_, rfl, p, C, dx, _, _, rfl, d.obj, T.cl, T.nK, tf_k _ _, pk, _, rfl, .inr (kinds_sq d.kd), _, rfl, by omega, by rw [List.length_map]; omega, fun D nD => ?_⟩
    refine lc_range (lo := 0) (fun i G => Same H G ∧ ∃ vs, G D = some (.lst vs) ∧ DpAll K G vs ((List.range i).map fun k : Nat => rowD (takersL t (k : Int)))) ⟨same_new nD, [], upd_same, .nil⟩ (fun i G hi hP => ?_) (fun G hP => ?_)
    · obtain ⟨s1, vs, gD, hd⟩ := hP
      rw [List.length_map] at hi
      refine ⟨rfl, ?_⟩
      dsimp only [tYes]
      rw [if_pos rfl]
      have ez : (0 + (i : Int)) = (i : Int) := by omega
      refine ⟨_, rfl, _, rfl, p, dx, pk, pt, t, _, rfl, d.same s1, ok, fun G2 q2 s2 h2 => ?_⟩
      rw [ez] at h2
      have gD2 := s2 _ _ gD
      refine ⟨_, gD2, ?_, fun b o e => ?_, vs ++ [.ref q2], upd_same, ?_⟩
      · rw [dpAll_len hd, List.length_map, List.length_range]
        exact small1000 (by omega)
      · rw [upd_ne (ne_of_none e nD)]
        exact s2 _ _ (s1 _ _ e)
      · have k3 : KeepT G (upd G2 D (.lst (vs ++ [.ref q2]))) := (KeepT.of s2).trans (.put gD2)
        have nl : ∀ j : Nat, noListAll ((List.range j).map fun k : Nat => rowD (takersL t (k : Int))) = true := fun j => noListAll_mem fun d hd => by
          obtain ⟨x, _, rfl⟩ := List.mem_map.mp hd
          rw [rowD, noList]
          exact noList_intsD _
        rw [List.range_succ, List.map_append]
        exact dpAll_snoc (dpAll_keep k3 _ _ (nl i) hd) (dp_tup ((KeepT.put gD2).seqT h2))
    · obtain ⟨s1, vs, gD, hd⟩ := hP
      rw [List.length_map, show ((t.kinds.length : Int)).toNat = t.kinds.length by omega] at hd
      exact ⟨D, _, rfl, .inl ⟨sqL gD, fun q1 n1 => q _ q1 (s1.trans (same_new n1)) (.tup (sqT upd_same) (dpAll_same (same_new n1) _ _ hd))⟩⟩
/-! ### kinds_of_types -/
def spKOf (K : PySem.W.Frag) (C : Addr) : Sp := fun vs H Q _ => ∃ (p dx pk pt tq : Addr) (t : TD) (ts : List Int), vs = [.ref p, .ref tq] ∧ TblAt K C H p dx pk pt t ∧ TOk t ∧ SqT K H tq (ts.map V.int) ∧ (∀ a ∈ ts, 0 ≤ a ∧ a < (t.types.length : Int)) ∧ ts.length ≤ 1000 ∧
  ∀ G q, Same H G → SqT K G q ((kindsOf t ts).map V.int) → Q (.ref q) G
theorem ok_kof {f C : Addr} {fd : FuncData} {k : Nat} (F : Fun K "kinds_of_types" "kinds_of_types" s_kinds_of_types f fd) (T : TTxt K mg C) (mt : mg "tuple" = none) (ms : mg "sorted" = none) : FnOk P w K mg base CX0 (k + 1) f fd ["table", "types"] (spKOf K C) := by
  refine F.ok sc_kinds_of_types (fun vs H Q E h => ?_) (fun cdv A outer s H vs Q E hr h => ?_)
  · obtain ⟨p, dx, pk, pt, tq, t, ts, rfl, _⟩ := h
    rfl
  · obtain ⟨p, dx, pk, pt, tq, t, ts, rfl, d, ok, ht, hb, hl, q⟩ := h
    refine blk_cons (ps_ret (pe_callTy call_tuple_of (by rfl) mt (by decide +kernel) (pa_cons (pe_callB (cr_sortedSet rfl) (by rfl) ms (by decide +kernel) (pa_cons (pe_sx (own := [("request", 2), ("kind", 3)]) (vs1 := [3]) (g := gName 2) (g1 := gName 3) (wi1 := iTup K (tOp (rIxT K) (tOp (rIxT K) (tFld K (tVar 0) "types") (tVar 2)) (tC (.int 1)))) rfl sc_kinds_of_types.nd (pi_tup (pv 1)) (blkOk_by (own := [("request", 2), ("kind", 3)]) (N := n_kinds_of_types) (sc := defScope s_kinds_of_types) (by decide +kernel)) (by decide)
      (fun _ _ _ _ _ => pg_name (i := 2) sc_kinds_of_types.nd rfl (Or.inl rfl)) (fun _ _ _ _ _ => pi_tup (pe_ix (r := rIxT K) ix_tup (pe_ix (r := rIxT K) ix_tup (pe_fld (pv 0) rfl) (pv 2) (fun _ _ => rfl)) pe_int (fun _ _ => rfl)))
      (fun _ _ _ _ _ => pg_name (i := 3) sc_kinds_of_types.nd rfl (Or.inl rfl)) (fun _ _ _ _ _ => pv 3)) pa_nil)) pa_nil))) ?_
    refine blk_nil ?_
    obtain ⟨us, hts, hda⟩ := types_sq d.td
    have k8 := ok.k8
    have inr : ∀ ks : List Int, (∀ x ∈ ks, ∃ a ∈ ts, acc t a.toNat x = true) → ks.Nodup → ks.length ≤ 8 := fun ks h n => Nat.le_trans (nd_bound (n := t.kinds.length) n fun x hx => by
      obtain ⟨a, _, e⟩ := h x hx
      unfold acc at e
      cases hc : t.types[a.toNat]? with
      | none => rw [hc] at e; cases e
      | some c =>
        rw [hc] at e
        exact ok.lb c (List.mem_of_getElem? hc) x (of_decide_eq_true e)) k8
    refine ⟨_, rfl, tq, rfl, ⟨_, ht⟩, fun D nD => w_tup (K := K) (a := tq) (xs := ts.map V.int) (fun i G => Same H G ∧ ∃ ks, SetL w G D ks ∧ ∀ x, x ∈ ks ↔ ∃ a ∈ ts.take i, acc t a.toNat x = true)
      ⟨same_new nD, [], ⟨List.nodup_nil, fun _ => false, fun k => by simp, upd_same⟩, fun x => by simp⟩ (fun i G _ hP => same_seqT hP.1 ht) (fun i x G hx hP => ?_) (fun G hP => ?_)⟩
    · obtain ⟨s1, ks, sl, hks⟩ := hP
      obtain ⟨a, ha, rfl⟩ := map_at hx
      obtain ⟨a0, a1⟩ := hb a (List.mem_of_getElem? ha)
      obtain ⟨n, rfl⟩ := Int.eq_ofNat_of_zero_le a0
      have hn : n < t.types.length := by omega
      have hc := List.getElem?_eq_getElem hn
      generalize t.types[n] = c at hc
      obtain ⟨v, hv, dv⟩ := types_at hda hc
      obtain ⟨a1', l1, rfl, hq1, hl1⟩ := type_inv (dp_same s1 _ _ dv)
      have d1 := d.same s1
      refine ⟨rfl, ?_⟩
      refine ⟨_, rfl, p, C, dx, _, _, rfl, d1.obj, T.cl, T.nT, tf_t _ _, _, rfl, pt, us, _, _, rfl, rfl, same_seqT s1 hts, atI_nat hv, a1', _, 1, _, rfl, rfl, hq1, atI_nat (j := 1) rfl, l1, rfl, ⟨_, hl1⟩, ?_⟩
      have tk : ts.take (i + 1) = ts.take i ++ [(n : Int)] := by
        rw [List.take_add_one, ha]
        rfl
      refine w_tup (K := K) (a := l1) (xs := c.2.map V.int) (fun j J => Same H J ∧ SqT K J l1 (c.2.map V.int) ∧ ∃ ks, SetL w J D ks ∧ ∀ x, x ∈ ks ↔ (∃ a ∈ ts.take i, acc t a.toNat x = true) ∨ x ∈ c.2.take j)
        ⟨s1, hl1, ks, sl, fun x => by rw [hks]; simp⟩ (fun j J _ hQ => hQ.2.1) (fun j y J hy hQ => ?_) (fun J hQ => ?_)
      · obtain ⟨s2, hl2, ks2, ⟨nd2, S, hS, gD⟩, hks2⟩ := hQ
        obtain ⟨k0, hk0, rfl⟩ := map_at hy
        have small : ks2.length ≤ 8 := inr ks2 (fun x hx => by
          rcases (hks2 x).mp hx with ⟨a, m, e⟩ | m
          · exact ⟨a, (List.take_sublist i ts).mem m, e⟩
          · exact ⟨(n : Int), List.mem_of_getElem? ha, by
              show acc t n x = true
              rw [acc_of hc]
              exact decide_eq_true ((List.take_sublist j c.2).mem m)⟩) nd2
        refine ⟨rfl, _, rfl, k0, S, ks2.length, rfl, gD, by unfold scanBound; omega, ?_⟩
        have up : Same H (upd J D (SetO w D (fun a => S a || decide (a = k0)) (if S k0 = true then ks2.length else ks2.length + 1))) := fun b o e => (upd_ne (ne_of_none e nD)).trans (s2 _ _ e)
        refine ⟨up, ?_, _, SetL.add nd2 hS k0, fun x => ?_⟩
        · rcases hl2 with (z | ⟨o, z⟩) | z
          · exact .inl (.inl ((upd_ne (ne_of z gD (by intro e; cases e))).trans z))
          · exact .inl (.inr ⟨o, (upd_ne (ne_of z gD (by intro e; cases e))).trans z⟩)
          · exact .inr z
        · have tk2 : c.2.take (j + 1) = c.2.take j ++ [k0] := by
            rw [List.take_add_one, hk0]
            rfl
          rw [tk2]
          by_cases m : k0 ∈ ks2
          · rw [if_pos m, hks2, List.mem_append, List.mem_singleton]
            constructor
            · rintro (z | z)
              · exact .inl z
              · exact .inr (.inl z)
            · rintro (z | z | z)
              · exact .inl z
              · exact .inr z
              · exact (hks2 x).mp (z ▸ m)
          · rw [if_neg m, List.mem_append, hks2, List.mem_append, List.mem_singleton, or_assoc]
      · obtain ⟨s2, hl2, ks2, sl2, hks2⟩ := hQ
        rw [List.length_map, List.take_length] at hks2
        refine ⟨s2, ks2, sl2, fun x => ?_⟩
        rw [hks2, tk]
        constructor
        · rintro (⟨a, m, e⟩ | m)
          · exact ⟨a, List.mem_append_left _ m, e⟩
          · exact ⟨(n : Int), List.mem_append_right _ (List.mem_singleton.mpr rfl), by
              show acc t n x = true
              rw [acc_of hc]
              exact decide_eq_true m⟩
        · rintro ⟨a, m, e⟩
          rcases List.mem_append.mp m with z | z
          · exact .inl ⟨a, z, e⟩
          · rw [List.mem_singleton.mp z] at e
            have e' : acc t n x = true := e
            rw [acc_of hc] at e'
            exact .inr (of_decide_eq_true e')
    · obtain ⟨s1, ks, ⟨nd, S, hS, gD⟩, hks⟩ := hP
      rw [List.length_map, List.take_length] at hks
      have small := inr ks (fun x hx => (hks x).mp hx) nd
      refine ⟨D, S, ks.length, rfl, gD, by omega, fun ns q1 ap hm hl2 n1 => ?_⟩
      have e : ns = kindsOf t ts := asc_same ap (idxF_asc _ _) fun x => by
        rw [hm, hS, hks]
        unfold kindsOf
        rw [idxF_mem]
        constructor
        · rintro ⟨a, m, e⟩
          have hx : 0 ≤ x ∧ x < (t.kinds.length : Int) := by
            unfold acc at e
            cases hc : t.types[a.toNat]? with
            | none => rw [hc] at e; cases e
            | some c =>
              rw [hc] at e
              exact ok.lb c (List.mem_of_getElem? hc) x (of_decide_eq_true e)
          obtain ⟨j, rfl⟩ := Int.eq_ofNat_of_zero_le hx.1
          exact ⟨j, rfl, by omega, List.any_eq_true.mpr ⟨a, m, e⟩⟩
        · rintro ⟨j, rfl, _, e⟩
          obtain ⟨a, m, e2⟩ := List.any_eq_true.mp e
          exact ⟨a, m, e2⟩
      subst e
      exact ⟨q1, _, rfl, .inl ⟨sqL upd_same, fun q2 n2 => q _ q2 ((s1.trans (same_new n1)).trans (same_new n2)) (sqT upd_same)⟩⟩
end
end K2
namespace Gd
open PySem PySem.Spec PyProof.Rows L2
/-- whether any value is a lot of takers -/
def TakV (K : PySem.W.Frag) (H : Hp) (lim : Int) (x : V) (b : Bool) : Prop :=
  (NumsV K H lim x false ∧ b = false) ∨ (∃ (p : Addr) (ns : List Int), x = .ref p ∧ SqT K H p (ns.map V.int) ∧ (∀ n ∈ ns, 0 ≤ n ∧ n < lim) ∧ ns.length ≤ 1000 ∧ b = decide ns.Nodup)
theorem NumsV.same {K : PySem.W.Frag} {H G : Hp} (e : Same H G) {lim : Int} {x : V} {b : Bool} (h : NumsV K H lim x b) : NumsV K G lim x b := by
  rcases h with ⟨n, t, k, z⟩ | ⟨p, xs, bs, rfl, hs, hl, hn, z⟩
  · exact .inl ⟨n, tyX_same e t, k, z⟩
  · exact .inr ⟨p, xs, bs, rfl, same_seqT e hs, hl, paired_mono (fun _ _ r => r.same e) hn, z⟩
theorem TakV.same {K : PySem.W.Frag} {H G : Hp} (e : Same H G) {lim : Int} {x : V} {b : Bool} (h : TakV K H lim x b) : TakV K G lim x b := by
  rcases h with ⟨h1, h2⟩ | ⟨p, ns, rfl, h1, h2⟩
  · exact .inl ⟨h1.same e, h2⟩
  · exact .inr ⟨p, ns, rfl, same_seqT e h1, h2⟩
/-- values that are no lots for kk kinds of m types -/
def BadLots (K : PySem.W.Frag) (H : Hp) (kk m : Nat) (x : V) : Prop :=
  (∃ n, TyN K H x n ∧ kitB n "tuple" = some false) ∨ (∃ (q : Addr) (xs : List V), x = .ref q ∧ SqT K H q xs ∧ xs.length ≤ 1000 ∧ xs.length ≠ kk) ∨
  (∃ (q : Addr) (xs : List V) (bs : List Bool), x = .ref q ∧ SqT K H q xs ∧ xs.length = kk ∧ Paired (TakV K H (m : Int)) xs bs ∧ bs.all id = false)
/-- the table that lots of takers make -/
def byTakers (ks ns : List Str) (lots : List (List Int)) : TD :=
  ⟨ks, (List.range ns.length).map fun r => (ns.getD r Str.empty, idxF (fun k => decide ((r : Int) ∈ lots.getD k [])) lots.length)⟩
theorem byTakers_succ (ns : List Str) (lots : List (List Int)) (r : Nat) : ((List.range (r + 1)).map fun r => (ns.getD r Str.empty, idxF (fun k => decide ((r : Int) ∈ lots.getD k [])) lots.length)) =
    ((List.range r).map fun r => (ns.getD r Str.empty, idxF (fun k => decide ((r : Int) ∈ lots.getD k [])) lots.length)) ++ [(ns.getD r Str.empty, idxF (fun k => decide ((r : Int) ∈ lots.getD k [])) lots.length)] := by
  rw [List.range_succ, List.map_append]
  rfl
theorem byTakers_names (ks ns : List Str) (lots : List (List Int)) : (byTakers ks ns lots).types.map (·.1) = ns := by
  unfold byTakers
  rw [List.map_map]
  refine List.ext_getElem? fun i => ?_
  rw [List.getElem?_map]
  by_cases h : i < ns.length
  · rw [List.getElem?_range h, List.getElem?_eq_getElem h]
    show some (ns.getD i Str.empty) = some ns[i]
    rw [List.getD_eq_getElem?_getD, List.getElem?_eq_getElem h]
    rfl
  · rw [List.getElem?_eq_none (by rw [List.length_range]; omega), List.getElem?_eq_none (by omega)]
    rfl
theorem byTakers_ok {ks ns : List Str} {lots : List (List Int)} (hk1 : 1 ≤ ks.length) (hk8 : ks.length ≤ 8) (hk : ∀ z ∈ ks, Nm z) (ha : AscS ks) (hn12 : ns.length ≤ 12) (hn : ∀ z ∈ ns, Nm z) (hna : AscS ns) (hl : lots.length = ks.length) : TOk (byTakers ks ns lots) := by
  have nm := byTakers_names ks ns lots
  have lot : ∀ p ∈ (byTakers ks ns lots).types, LotOk ks.length p.2 := fun p hp => by
    obtain ⟨r, _, rfl⟩ := List.mem_map.mp hp
    have := lot_idx (fun k => decide ((r : Int) ∈ lots.getD k [])) lots.length
    rw [hl] at this
    rw [← hl] at this ⊢
    exact this
  refine ⟨hk1, hk8, hk, ha, ?_, fun p hp => ?_, by rw [nm]; exact hna, fun p hp => (lot p hp).1, fun p hp n m => (lot p hp).2 n m⟩
  · have := congrArg List.length nm
    rw [List.length_map] at this
    omega
  · have m : p.1 ∈ (byTakers ks ns lots).types.map (·.1) := List.mem_map.mpr ⟨p, hp, rfl⟩
    rw [nm] at m
    exact hn _ m
theorem row_at {K : PySem.W.Frag} {H : Hp} {us : List V} {lots : List (List Int)} {i : Nat} {x : V} (h : DpAll K H us (lots.map rowD)) (e : us[i]? = some x) : ∃ l, lots[i]? = some l ∧ Dp K H x (rowD l) := by
  induction us generalizing lots i with
  | nil => simp at e
  | cons u us ih =>
    match lots, h with
    | l :: ls, .cons h1 h2 =>
      cases i with
      | zero =>
        cases e
        exact ⟨l, rfl, h1⟩
      | succ i =>
        have := ih (lots := ls) (i := i) h2 e
        exact this
theorem byTakers_len (ks ns : List Str) (lots : List (List Int)) : (byTakers ks ns lots).types.length = ns.length := by
  have := congrArg List.length (byTakers_names ks ns lots)
  rwa [List.length_map] at this
theorem byTakers_take {ks ns : List Str} {lots : List (List Int)} {i : Nat} {z : Str} (h : ns[i]? = some z) : (byTakers ks ns lots).types.take (i + 1) = (byTakers ks ns lots).types.take i ++ [(z, idxF (fun k => decide ((i : Int) ∈ lots.getD k [])) lots.length)] := by
  have hi : i < ns.length := (List.getElem?_eq_some_iff.mp h).1
  rw [List.take_add_one]
  congr 1
  unfold byTakers
  rw [List.getElem?_map, List.getElem?_range hi]
  show [(ns.getD i Str.empty, idxF (fun k => decide ((i : Int) ∈ lots.getD k [])) lots.length)] = _
  rw [List.getD_eq_getElem?_getD, h]
  rfl
theorem strs_at {ss : List Str} {i : Nat} {x : V} (h : (ss.map V.str)[i]? = some x) : ∃ n, ss[i]? = some n ∧ x = .str n := by
  rw [List.getElem?_map] at h
  cases e : ss[i]? with
  | none => rw [e] at h; cases h
  | some n => rw [e] at h; cases h; exact ⟨n, rfl, rfl⟩
theorem good_tak {K : PySem.W.Frag} {H : Hp} {m : Nat} : ∀ {us : List V} {lots : List (List Int)}, DpAll K H us (lots.map rowD) → (∀ l ∈ lots, l.Nodup ∧ l.length ≤ 1000 ∧ ∀ n ∈ l, 0 ≤ n ∧ n < (m : Int)) → Paired (TakV K H (m : Int)) us (lots.map fun _ => true)
  | [], [], _, _ => .nil
  | u :: us, l :: lots, h, hb => by
    cases h with
    | cons h1 h2 =>
      obtain ⟨q, rfl, hq⟩ := tints_inv h1
      obtain ⟨b1, b2, b3⟩ := hb l List.mem_cons_self
      exact .cons (.inr ⟨q, l, rfl, hq, b3, b2, (decide_eq_true b1).symm⟩) (good_tak h2 fun x hx => hb x (List.mem_cons_of_mem _ hx))
  | [], _ :: _, h, _ => by cases h
  | _ :: _, [], h, _ => by cases h
/-- what is told of the class Refused -/
structure RTxt (K : PySem.W.Frag) (mg : Str → Option Value) (CR fR : Addr) : Prop where
  ox : OexC K CR
  nW : PySem.W.findIn K (.ref CR) "word" = some none
  iC : PySem.W.findIn K (.ref CR) "__init__" = some (some (.ref fR))
  tI : PySem.W.typeIn K (.ref fR) = some (.type "function")
  gR : mg "Refused" = some (.ref CR)
theorem blk_nox {X : Cx} {r : List Stmt} {G : TS → Prop} (h : ∃ u, PSs X.nox r u ∧ G u) : ∃ u, PSs X r u ∧ G u := h.elim fun u z => ⟨u, z.1.nox, z.2⟩
def xdS (z : Str) : HO := .xd [(("word" : Str), .str z)]
end Gd
namespace K2
open PySem PySem.Spec PyProof.Rows L2 Gd
section
variable {P : Program} {w : World} {K : PySem.W.Frag} {mg : Str → Option Value} {base : Heap}
/-! ### Refused -/
def spIRef (K : PySem.W.Frag) (C : Addr) : Sp := fun vs H Q _ => ∃ (a : Addr) (z : Str), vs = [.ref a, .str z] ∧ H a = some (exo a C none) ∧ ∀ dx, H dx = none → dx ≠ a → Q .non (upd (upd H dx (exd dx [("word", .str z)])) a (exo a C (some dx)))
theorem ok_iref {f C : Addr} {fd : FuncData} {k : Nat} (F : Fun K "__init__" "Refused.__init__" s_Refused_init f fd) (T : RTxt K mg C f) : FnOk P w K mg base CX0 (k + 1) f fd ["self", "word"] (spIRef K C) := by
  refine F.ok sc_Refused_init (fun vs H Q E h => ?_) (fun cdv A outer s H vs Q E hr h => ?_)
  · obtain ⟨a, z, rfl, _⟩ := h
    rfl
  · obtain ⟨a, z, rfl, ha, q⟩ := h
    refine blk_cons (ps_ost (pv 0) (pv 1)) ?_
    refine blk_nil ?_
    exact ⟨_, rfl, _, rfl, a, C, rfl, T.ox, T.nW, .inl ⟨ha, fun dx h1 h2 => q dx h1 h2⟩⟩
/-! ### are_takers -/
def spTks (K : PySem.W.Frag) : Sp := fun vs H Q _ => ∃ (x : V) (lim : Int) (b : Bool), vs = [x, .int lim] ∧ TakV K H lim x b ∧ ∀ G, Same H G → Q (.bl b) G
theorem ok_tks {f fS : Addr} {fd fdS : FuncData} {k : Nat} (F : Fun K "are_takers" "are_takers" s_are_takers f fd) (FS : Fun K "are_numbers_below" "are_numbers_below" s_are_numbers_below fS fdS) (bS : Binds K fdS ["value", "limit"] []) (gS : mg "are_numbers_below" = some (.ref fS)) (GS : FnOk P w K mg base CX0 k fS fdS ["value", "limit"] (spNums K))
    (ml : mg "len" = none) (mset : mg "set" = none) : FnOk P w K mg base CX0 (k + 1) f fd ["value", "many_types"] (spTks K) := by
  refine F.ok sc_are_takers (fun vs H Q E h => ?_) (fun cdv A outer s H vs Q E hr h => ?_)
  · obtain ⟨x, lim, b, rfl, _⟩ := h
    rfl
  · obtain ⟨x, lim, b, rfl, hx, q⟩ := h
    refine blk_cons (ps_ret (pe_and (pe_call GS hr (by rfl) gS FS.kp bS .nil pass0 (pa_cons (pv 0) (pa_cons (pv 1) pa_nil))) (pe_one (pe_cmpR op_eq (pe_lenSetT (by rfl) ml (by rfl) mset (pv 0)) (pe_callB call_len_seq (by rfl) ml PySem.boot_len (pa_cons (pv 0) pa_nil)) (nomark _))))) ?_
    refine blk_nil ?_
    rcases hx with ⟨hn, rfl⟩ | ⟨p, ns, rfl, hs, hb, hl, rfl⟩
    · exact ⟨_, rfl, _, rfl, x, lim, false, rfl, hn, fun G s1 => ⟨_, rfl, iteF (q G s1)⟩⟩
    · refine ⟨_, rfl, _, rfl, .ref p, lim, true, rfl, numsV_ints hs hb hl, fun G s1 => ⟨_, rfl, iteT ?_⟩⟩
      have hs1 := same_seqT s1 hs
      refine ⟨_, rfl, p, ns, rfl, hs1, hl, fun c c1 c2 => ⟨_, rfl, p, _, rfl, .inr hs1, rfl, ?_⟩⟩
      have e : decide (V.int (c : Int) = V.int ((ns.map V.int).length : Int)) = decide ns.Nodup := decide_eq_decide.mpr ⟨fun z => c2.mp (by have := V.int.inj z; rw [List.length_map] at this; omega), fun z => by rw [c2.mpr z, List.length_map]⟩
      rw [e]
      exact q G s1
/-! ### table_by_takers -/
def spTBT (K : PySem.W.Frag) (C CR : Addr) : Sp := fun vs H Q E => ∃ (pk pt : Addr) (x : V) (ks ns : List Str), vs = [.ref pk, .ref pt, x] ∧ SqT K H pk (ks.map V.str) ∧ SqT K H pt (ns.map V.str) ∧ (1 ≤ ks.length ∧ ks.length ≤ 8 ∧ (∀ z ∈ ks, Nm z) ∧ AscS ks ∧ ns.length ≤ 12 ∧ (∀ z ∈ ns, Nm z) ∧ AscS ns) ∧
  ((BadLots K H ks.length ns.length x ∧ ∀ d G, H d = none → Same H G → G d = some (xdS "takers") → E (.ref CR) (some d) G) ∨
  (∃ (q : Addr) (us : List V) (lots : List (List Int)), x = .ref q ∧ SqT K H q us ∧ DpAll K H us (lots.map rowD) ∧ lots.length = ks.length ∧ (∀ l ∈ lots, l.Nodup ∧ l.length ≤ 1000 ∧ ∀ n ∈ l, 0 ≤ n ∧ n < (ns.length : Int)) ∧
    ∀ G p dx pt', Same H G → TblAt K C G p dx pk pt' (byTakers ks ns lots) → Q (.ref p) G))
theorem ok_tbt {f C CR fT fA fI fR : Addr} {fd fdT fdA fdI fdR : FuncData} {k : Nat} (F : Fun K "table_by_takers" "table_by_takers" s_table_by_takers f fd) (T : TTxt K mg C) (M : Mk K C fI) (FT : Fun K "is_tuple_of" "is_tuple_of" s_is_tuple_of fT fdT) (FA : Fun K "are_takers" "are_takers" s_are_takers fA fdA) (TR : RTxt K mg CR fR)
    (bT : Binds K fdT ["value", "length"] []) (bA : Binds K fdA ["value", "many_types"] []) (bI : Binds K fdI ["self", "kinds", "types"] []) (bR : Binds K fdR ["self", "word"] []) (gT : mg "is_tuple_of" = some (.ref fT)) (gA : mg "are_takers" = some (.ref fA))
    (GT : FnOk P w K mg base CX0 (k + 1) fT fdT ["value", "length"] (spTupOf K)) (GA : FnOk P w K mg base CX0 (k + 1) fA fdA ["value", "many_types"] (spTks K)) (GI : FnOk P w K mg base CX0 k fI fdI ["self", "kinds", "types"] (spTInit K C)) (GR : FnOk P w K mg base CX0 k fR fdR ["self", "word"] (spIRef K CR))
    (mt : mg "tuple" = none) (ml : mg "len" = none) (ma : mg "all" = none) (mE : mg "enumerate" = none) : FnOk P w K mg base (L2.CX P w) (k + 1 + 1) f fd ["kinds", "types", "lots"] (spTBT K C CR) := by
  refine F.okX sc_table_by_takers (fun vs H Q E h => ?_) (fun cdv A outer s H vs Q E hr h => ?_)
  · obtain ⟨pk, pt, x, ks, ns, rfl, _⟩ := h
    rfl
  · obtain ⟨pk, pt, x, ks, ns, rfl, hk, hn, good, hx⟩ := h
    refine blk_cons (ps_if (PW.pt (pw_or (pt_not (pt_val (pe_call GT hr (by rfl) gT FT.kp bT .nil pass0 (pa_cons (pv 2) (pa_cons (pe_callB call_len_seq (by rfl) ml PySem.boot_len (pa_cons (pv 0) pa_nil)) pa_nil)))))
      (pw_or1 (pt_not (pt_val (pe_callB (cr_all rfl) (by rfl) ma (by decide +kernel) (pa_cons (pe_lc (own := [("lot", 6)]) (g := gName 6) (tt := tYes) rfl sc_table_by_takers.nd (pi_tup (pv 2)) (blkOk_by (own := [("lot", 6)]) (N := n_table_by_takers) (sc := defScope s_table_by_takers) (by decide +kernel))
        (fun _ _ _ _ _ => pg_name (i := 6) sc_table_by_takers.nd rfl (Or.inl rfl)) (fun _ _ _ _ _ => pts_nil) (fun _ _ _ _ _ => pe_call GA hr (by rfl) gA FA.kp bA .nil pass0 (pa_cons (pv 6) (pa_cons (pe_callB (r := fun xs H Q => ∃ p ys, xs = [.ref p] ∧ (SqL K H p ys ∨ SqT K H p ys) ∧ Q (.int ys.length) H) call_len_seq (by rfl) ml PySem.boot_len (pa_cons (pv 1) pa_nil)) pa_nil)))) pa_nil)))))))
      (pss_one (ps_raise rfl (takes_of rfl rfl rfl rfl) (pmk_oex TR.ox TR.iC TR.tI GR hr bR .nil pass0 (by rfl) TR.gR (pa_cons pe_str pa_nil)))) pss_nil) ?_
    refine blk_nox ?_
    refine blk_cons (ps_set (i := 3) sc_table_by_takers.nd rfl (.inl rfl) (pe_lst pa_nil)) ?_
    refine blk_cons (ps_for PassesOwn.never rfl (pi_enT (by rfl) mE (pa_cons (pv 1) pa_nil)) (pg_tup rfl (pgs_cons (pg_name (i := 4) sc_table_by_takers.nd rfl (.inr rfl)) (pgs_cons (pg_name (i := 5) sc_table_by_takers.nd rfl (.inl rfl)) pgs_nil)))
      (pss_one (ps_expr (pe_bm PySem.F.plainAttrs_list PySem.F.slot_list_append PySem.F.type_list_append mt_append (pv 3) (pa_cons (pe_tup (pa_cons (pv 5) (pa_cons (pe_callTy call_tuple_of (by rfl) mt (by decide +kernel) (pa_cons (pe_lc (own := [("kind", 7), ("lot", 6)]) (g := gTup K 2 (gCons (gName 7) (gCons (gName 6) gNil))) rfl sc_table_by_takers.nd (pi_enT (by rfl) mE (pa_cons (pv 2) pa_nil))
        (blkOk_by (own := [("kind", 7), ("lot", 6)]) (N := n_table_by_takers) (sc := defScope s_table_by_takers) (by decide +kernel)) (fun _ _ _ _ _ => pg_tup rfl (pgs_cons (pg_name (i := 7) sc_table_by_takers.nd rfl (Or.inl rfl)) (pgs_cons (pg_name (i := 6) sc_table_by_takers.nd rfl (Or.inl rfl)) pgs_nil)))
        (fun _ _ _ _ _ => pts_one (pt_cmpR (r := rIn K false) op_in_seq (pv 4) (pv 6) (by rfl))) (fun _ _ _ _ _ => pv 7)) pa_nil)) pa_nil))) pa_nil))))) ?_
    refine blk_cons (ps_ret (pe_make M GI (hr.mono (by omega)) (by rfl) T.mgC bI .nil pass0 (pa_cons (pv 0) (pa_cons (pe_callTy call_tuple_of (by rfl) mt (by decide +kernel) (pa_cons (pv 3) pa_nil)) pa_nil)))) ?_
    refine blk_nil ?_
    obtain ⟨k1, k8, kn, ka, t12, tn, ta⟩ := good
    have hk1000 : (ks.map V.str).length ≤ 1000 := by rw [List.length_map]; omega
    have test : ∃ R : Bool, (((∃ n, TyN K H x n ∧ kitB n "tuple" = some false) ∧ R = true) ∨ ((∃ (q : Addr) (xs : List V), x = .ref q ∧ SqT K H q xs ∧ xs.length ≤ 1000 ∧ xs.length ≠ ks.length) ∧ R = true) ∨
        (∃ (q : Addr) (xs : List V) (bs : List Bool), x = .ref q ∧ SqT K H q xs ∧ xs.length = ks.length ∧ Paired (TakV K H (ns.length : Int)) xs bs ∧ R = !(bs.all id))) ∧
        (R = true → ∀ d G, H d = none → Same H G → G d = some (xdS "takers") → E (.ref CR) (some d) G) ∧
        (R = false → ∃ (q : Addr) (us : List V) (lots : List (List Int)), x = .ref q ∧ SqT K H q us ∧ DpAll K H us (lots.map rowD) ∧ lots.length = ks.length ∧ (∀ l ∈ lots, l.Nodup ∧ l.length ≤ 1000 ∧ ∀ n ∈ l, 0 ≤ n ∧ n < (ns.length : Int)) ∧
          ∀ G p dx pt', Same H G → TblAt K C G p dx pk pt' (byTakers ks ns lots) → Q (.ref p) G) := by
      rcases hx with ⟨hb, qE⟩ | ⟨q, us, lots, rfl, hq, hd, hll, hlb, qG⟩
      · refine ⟨true, ?_, fun _ => qE, fun h => by cases h⟩
        rcases hb with h | h | ⟨q, xs, bs, h1, h2, h3, h4, h5⟩
        · exact .inl ⟨h, rfl⟩
        · exact .inr (.inl ⟨h, rfl⟩)
        · exact .inr (.inr ⟨q, xs, bs, h1, h2, h3, h4, by rw [h5]; rfl⟩)
      · refine ⟨false, .inr (.inr ⟨q, us, lots.map fun _ => true, rfl, hq, ?_, good_tak hd hlb, ?_⟩), (fun h => by cases h), fun _ => ⟨q, us, lots, rfl, hq, hd, hll, hlb, qG⟩⟩
        · rw [dpAll_len hd, List.length_map, hll]
        · rw [show (lots.map fun _ => true).all id = true from List.all_eq_true.mpr fun b hb => by obtain ⟨_, _, rfl⟩ := List.mem_map.mp hb; rfl]
          rfl
    obtain ⟨R, hR, hE, hG⟩ := test
    refine if_out R (fun B hB => ?_) (fun G1 s1 => ?_)
    · rcases hR with ⟨⟨n, ht, kk⟩, rfl⟩ | ⟨⟨q, xs, rfl, hq, hl, hne⟩, rfl⟩ | ⟨q, xs, bs, rfl, hq, hl, hp, rfl⟩
      · exact ⟨_, rfl, _, rfl, pk, _, rfl, .inr hk, x, _, rfl, .inl ⟨n, ht, kk, _, rfl, iteT (hB _ (Same.refl _))⟩⟩
      · refine ⟨_, rfl, _, rfl, pk, _, rfl, .inr hk, _, _, rfl, .inr ⟨q, xs, rfl, hq, _, rfl, ?_⟩⟩
        rw [decide_eq_false (show ¬ ((xs.length : Int) = ((ks.map V.str).length : Int)) by rw [List.length_map]; omega)]
        exact iteT (hB _ (Same.refl _))
      · have hbl : bs.length = xs.length := (Paired.length hp).symm
        refine ⟨_, rfl, _, rfl, pk, _, rfl, .inr hk, _, _, rfl, .inr ⟨q, xs, rfl, hq, _, rfl, ?_⟩⟩
        rw [decide_eq_true (show ((xs.length : Int) = ((ks.map V.str).length : Int)) by rw [List.length_map]; omega)]
        refine iteF ⟨_, rfl, q, rfl, ⟨_, hq⟩, fun D nD => lc_tup (K := K) (a := q) (xs := xs) (fun i G => Same H G ∧ G D = some (.lst ((bs.take i).map V.bl))) ⟨same_new nD, upd_same⟩ (fun i G _ hP => same_seqT hP.1 hq) (fun i x G hxi hP => ?_) (fun G hP => ?_)⟩
        · obtain ⟨s1, gD⟩ := hP
          obtain ⟨b0, hb0, hn0⟩ := paired_at hp hxi
          refine ⟨rfl, ?_⟩
          dsimp only [tYes]
          rw [if_pos rfl]
          refine ⟨x, rfl, _, rfl, pt, _, rfl, .inr (same_seqT s1 hn), x, (ns.length : Int), b0, by rw [List.length_map]; rfl, hn0.same s1, fun G2 s2 => ⟨(bs.take i).map V.bl, s2 _ _ gD, ?_, fun b o e => ?_, ?_⟩⟩
          · rw [List.length_map, List.length_take]
            exact small1000 (by omega)
          · rw [upd_ne (ne_of_none e nD)]
            exact s2 _ _ (s1 _ _ e)
          · rw [upd_same, List.take_add_one, hb0, List.map_append]
            rfl
        · obtain ⟨s1, gD⟩ := hP
          rw [← hbl, List.take_length] at gD
          refine ⟨D, bs, rfl, sqL gD, _, rfl, ?_⟩
          exact hB _ s1
    · cases R with
      | true =>
        rw [if_pos rfl]
        refine ⟨by show 1 ≤ 1000; decide, fun a na => ⟨a, _, rfl, upd_same, fun dx2 n1 n2 => ⟨rfl, dx2, [("word", .str "takers")], upd_same, (upd_ne n2).trans upd_same, ?_, ?_⟩⟩⟩
        · exact (upd_ne n2).symm.trans n1
        · have n3 : G1 dx2 = none := (upd_ne n2).symm.trans n1
          refine hE rfl dx2 _ (s1.free n3) (fun b o e => ?_) upd_same
          have e1 := s1 _ _ e
          have ba : b ≠ a := ne_of_none e1 na
          have bd : b ≠ dx2 := ne_of_none e1 n3
          rw [upd_ne bd, del_ne ba, upd_ne ba, upd_ne bd, upd_ne ba]
          exact e1
      | false =>
        rw [if_neg (by decide)]
        obtain ⟨q, us, lots, rfl, hq, hd, hll, hlb, qG⟩ := hG rfl
        refine ⟨Nat.zero_le _, fun D nD => ?_⟩
        have s2 : Same H (upd G1 D (.lst [])) := s1.trans (same_new nD)
        have lu : us.length = lots.length := by rw [dpAll_len hd, List.length_map]
        dsimp only [gName, tNext]
        refine seq_out (t := tFor _ _ _) (fun σ' G' => Same H G' ∧ ∃ (vs : List V) (y4 y5 : Option V), σ' = [some (.ref pk), some (.ref pt), some (.ref q), some (.ref D), y4, y5, none, none] ∧ G' D = some (.lst vs) ∧ DpAll K G' vs ((byTakers ks ns lots).types.map typeD)) (fun N hN => ?_) (fun σ' G2 hR => ?_)
        · refine ⟨_, rfl, pt, _, rfl, same_seqT s2 hn, for_en (xs := ns.map V.str) (fun i σ G => Same H G ∧ ∃ (vs : List V) (y4 y5 : Option V), σ = [some (.ref pk), some (.ref pt), some (.ref q), some (.ref D), y4, y5, none, none] ∧ G D = some (.lst vs) ∧ DpAll K G vs (((byTakers ks ns lots).types.take i).map typeD))
            ⟨s2, [], _, _, rfl, upd_same, .nil⟩ (fun i σ G _ hP => same_seqT hP.1 hn) (fun i x Tp σ G hx hP nT => ?_) (fun σ G hP => ?_)⟩
          · obtain ⟨s3, vs, y4, y5, rfl, gD, hds⟩ := hP
            obtain ⟨z, hz, rfl⟩ := strs_at hx
            have hi : i < ns.length := (List.getElem?_eq_some_iff.mp hz).1
            have s4 := s3.trans (same_new (o := .tup [.int (i : Nat), .str z]) nT)
            have gT' := sqT (K := K) (upd_same (H := G) (a := Tp) (o := .tup [.int (i : Nat), .str z]))
            have gD4 := (same_new (o := .tup [.int (i : Nat), .str z]) nT) _ _ gD
            have hds4 := dpAll_same (same_new (o := .tup [.int (i : Nat), .str z]) nT) _ _ hds
            generalize upd G Tp (.tup [.int (i : Nat), .str z]) = G4 at s4 gT' gD4 hds4 ⊢
            refine ⟨Tp, _, rfl, gT', rfl, _, _, rfl, _, _, rfl, rfl, ?_⟩
            refine ⟨_, rfl, .inl ⟨rfl, _, sqL gD4⟩, _, rfl, ?_⟩
            have hq4 := same_seqT s4 hq
            refine ⟨_, rfl, q, us, rfl, hq4, fun E nE => lc_en (xs := us) (fun j J => Same G4 J ∧ J E = some (.lst ((idxF (fun k => decide ((i : Int) ∈ lots.getD k [])) j).map V.int))) ⟨same_new nE, upd_same⟩ (fun j J _ hQ => same_seqT hQ.1 hq4) (fun j y Tq J hy hQ nTq => ?_) (fun J hQ => ?_)⟩
            · obtain ⟨s5, gE⟩ := hQ
              obtain ⟨l, hl, dv⟩ := row_at hd hy
              have s6 := s5.trans (same_new (o := .tup [.int (j : Nat), y]) nTq)
              have gT6 := sqT (K := K) (upd_same (H := J) (a := Tq) (o := .tup [.int (j : Nat), y]))
              have gE6 := (same_new (o := .tup [.int (j : Nat), y]) nTq) _ _ gE
              generalize upd J Tq (.tup [.int (j : Nat), y]) = J6 at s6 gT6 gE6 ⊢
              obtain ⟨lq, rfl, hlq⟩ := tints_inv (dp_same (s4.trans s6) _ _ dv)
              have lm := hlb l (List.mem_of_getElem? hl)
              have hgl : lots.getD j [] = l := by rw [List.getD_eq_getElem?_getD, hl]; rfl
              refine ⟨Tq, _, rfl, gT6, rfl, _, _, rfl, _, _, rfl, rfl, rfl, ?_⟩
              refine ⟨_, rfl, _, rfl, lq, _, rfl, .inr hlq, rfl, flat_ints _, _, rfl, ?_⟩
              rw [inV_ints]
              by_cases hm : (i : Int) ∈ l
              · rw [decide_eq_true hm]
                refine iteT ⟨_, rfl, _, gE6, ?_, fun b o e => ?_, ?_⟩
                · have := idxF_len (fun k => decide ((i : Int) ∈ lots.getD k [])) j
                  have hj : j < lots.length := (List.getElem?_eq_some_iff.mp hl).1
                  rw [List.length_map]
                  exact small1000 (by omega)
                · rw [upd_ne (ne_of_none e nE)]
                  exact s6 _ _ e
                · rw [upd_same, idxF_succ, if_pos (by rw [hgl]; exact decide_eq_true hm), List.map_append]
                  rfl
              · rw [decide_eq_false hm]
                refine iteF ⟨s6, ?_⟩
                rw [idxF_succ, if_neg (by rw [hgl, decide_eq_false hm]; exact Bool.false_ne_true), List.append_nil]
                exact gE6
            · obtain ⟨s5, gE⟩ := hQ
              rw [lu] at gE
              refine ⟨E, _, rfl, .inl ⟨sqL gE, fun q1 n1 => ?_⟩⟩
              have s6 : Same G4 (upd J q1 (.tup ((idxF (fun k => decide ((i : Int) ∈ lots.getD k [])) lots.length).map V.int))) := s5.trans (same_new n1)
              have hq6 := sqT (K := K) (upd_same (H := J) (a := q1) (o := .tup ((idxF (fun k => decide ((i : Int) ∈ lots.getD k [])) lots.length).map V.int)))
              generalize upd J q1 (.tup ((idxF (fun k => decide ((i : Int) ∈ lots.getD k [])) lots.length).map V.int)) = G6 at s6 hq6 ⊢
              refine ⟨by show 2 ≤ sizeLine; decide, fun tp ntp => ?_⟩
              have gD6 := s6 _ _ gD4
              have hds6 := dpAll_same s6 _ _ hds4
              have hD : H D = none := s1.free nD
              refine ⟨D, vs, .ref tp, rfl, rfl, (upd_ne (ne_of_none gD6 ntp)).trans gD6, ?_, ?_, vs ++ [.ref tp], _, _, rfl, upd_same, ?_⟩
              · rw [dpAll_len hds6, List.length_map]
                have := List.length_take_le i (byTakers ks ns lots).types
                exact small1000 (by omega)
              · intro b o e
                rw [upd_ne (ne_of_none e hD)]
                exact ((s4.trans s6).trans (same_new ntp)) _ _ e
              · have gD7 := (upd_ne (o := .tup [.str z, .ref q1]) (ne_of_none gD6 ntp)).trans gD6
                have k7 : KeepT G6 (upd (upd G6 tp (.tup [.str z, .ref q1])) D (.lst (vs ++ [.ref tp]))) := (KeepT.of (same_new ntp)).trans (.put gD7)
                have ntD : tp ≠ D := (ne_of_none gD6 ntp).symm
                rw [byTakers_take hz, List.map_append]
                refine dpAll_snoc (dpAll_keep k7 _ _ (noListAll_types _) hds6) ?_
                exact .tup (sqT ((upd_ne ntD).trans upd_same)) (.cons (.str _) (.cons (.tup (k7.seqT hq6) (dpAll_ints _)) .nil))
          · obtain ⟨s3, vs, y4, y5, rfl, gD, hds⟩ := hP
            rw [List.take_of_length_le (by rw [byTakers_len, List.length_map]; exact Nat.le_refl _)] at hds
            exact hN _ _ ⟨s3, vs, _, _, rfl, gD, hds⟩
        · obtain ⟨s3, vs, y4, y5, rfl, gD, hds⟩ := hR
          refine ⟨_, rfl, _, rfl, D, vs, rfl, .inl ⟨sqL gD, fun q1 n1 => ?_⟩⟩
          have s4 := s3.trans (same_new (o := .tup vs) n1)
          have hq4 := sqT (K := K) (upd_same (H := G2) (a := q1) (o := .tup vs))
          have hd4 := dpAll_same (same_new (o := .tup vs) n1) _ _ hds
          generalize upd G2 q1 (.tup vs) = G4 at s4 hq4 hd4 ⊢
          intro x dx nx ndx nex
          have s5 : Same G4 (upd (upd G4 dx (.own x)) x (.ins C dx [])) := (same_new ndx).trans (same_new ((upd_ne (Ne.symm nex)).trans nx))
          have s6 := s4.trans s5
          refine ⟨x, dx, pk, q1, byTakers ks ns lots, rfl, upd_same, dp_tup_strs (same_seqT s6 hk), .tup (same_seqT s5 hq4) (dpAll_same s5 _ _ hd4), byTakers_ok k1 k8 kn ka t12 tn ta hll, fun G keep tb => ⟨rfl, ?_⟩⟩
          refine qG G x dx q1 (fun b o e => ?_) tb
          have bx : b ≠ x := ne_of_none (s4 _ _ e) nx
          exact keep b o bx (s6 _ _ e)
end
end K2
namespace Gd
open PySem PySem.Spec PyProof.Rows L2
/-- two tables that are equal -/
def REq (K : PySem.W.Frag) (C : Addr) : Addr → Addr → Hp → Prop := fun a b H => ∃ dx pk pt dx' pk' pt' t, TblAt K C H a dx pk pt t ∧ TblAt K C H b dx' pk' pt' t ∧ TOk t
/-- what isinstance asks of the class -/
structure TEq (K : PySem.W.Frag) (C : Addr) : Prop where
  ha : PySem.W.findIn K (.ref C) "__class__" = some (some (.builtin "object.__class__"))
  hn : PySem.W.specialIn K (.builtin "object.__class__") "__get__" = some (some (.builtin "getset_descriptor.__get__"))
  tk : PySem.W.takesIn K (.builtin "object.__class__") = some true
  hm : PySem.W.mroIn K C (.type "object") = some true
  kk : PySem.W.kitOne K (.ref C) (.ref C) = some true
end Gd
namespace K2
open PySem PySem.Spec PyProof.Rows L2 Gd
section
variable {P : Program} {w : World} {K : PySem.W.Frag} {mg : Str → Option Value} {base : Heap}
/-! ### Table.__eq__ -/
theorem ok_eq {f C : Addr} {fd : FuncData} {k : Nat} (F : Fun K "__eq__" "Table.__eq__" s_Table_eq f fd) (T : TTxt K mg C) (TE : TEq K C) (mI : mg "isinstance" = none) : FnOk P w K mg base CX0 (k + 1) f fd ["self", "other"] (spEq (REq K C)) := by
  refine F.ok sc_Table_eq (fun vs H Q E h => ?_) (fun cdv A outer s H vs Q E hr h => ?_)
  · obtain ⟨a, b, rfl, _⟩ := h
    rfl
  · obtain ⟨a, b, rfl, ⟨dx, pk, pt, dx', pk', pt', t, da, db, ok⟩, q⟩ := h
    refine blk_cons (ps_ret (pe_and (pe_callB call_isi (by rfl) mI (by decide +kernel) (pa_cons (pv 1) (pa_cons (pe_glob (v := .ref C) (by rfl) T.mgC rfl) pa_nil)))
      (pe_and (pe_cmpR (op_eqD hr.units) (pe_fld (pv 0) rfl) (pe_fld (pv 1) rfl) (nomark _)) (pe_one (pe_cmpR (op_eqD hr.units) (pe_fld (pv 0) rfl) (pe_fld (pv 1) rfl) (nomark _)))))) ?_
    refine blk_nil ?_
    obtain ⟨⟨f1, p1, _⟩, f2, p2, _⟩ := table_fine ok
    refine ⟨_, rfl, _, _, _, _, true, rfl, .own C, .base (.ins db.obj T.cl TE.ha TE.hn TE.tk TE.hm), TE.kk, _, rfl, iteT ?_⟩
    refine ⟨_, rfl, a, C, dx, _, _, rfl, da.obj, T.cl, T.nK, tf_k _ _, _, rfl, b, C, dx', _, _, rfl, db.obj, T.cl, T.nK, tf_k _ _, _, _, da.kd, db.kd, fine_shaped f1 (by omega), fine_shaped f1 (by omega), ?_⟩
    rw [fine_eqv f1]
    refine ⟨_, rfl, iteT ?_⟩
    refine ⟨_, rfl, a, C, dx, _, _, rfl, da.obj, T.cl, T.nT, tf_t _ _, _, rfl, b, C, dx', _, _, rfl, db.obj, T.cl, T.nT, tf_t _ _, _, _, da.td, db.td, fine_shaped f2 (by omega), fine_shaped f2 (by omega), ?_⟩
    rw [fine_eqv f2]
    exact q _ Ext.rfl'
end
end K2
/-! What gives data, and tests by repr that it is as is due. -/
namespace Gd
open PySem PySem.Spec PyProof.Rows L2
/-- t gives the data d, and all stands as before -/
def Gv (K : PySem.W.Frag) (σ : L2.St) (H : Hp) (t : TE) (d : PyData) : Prop := ∀ Q : VK, (∀ v G, Same H G → Dp K G v d → Q v G) → t σ H Q
/-- plain data that repr and == serve -/
structure Fd (d : PyData) : Prop where
  f : fine d = true
  dp : d.depth ≤ 60
  c : costD d ≤ sizeLine
theorem Fd.sh {d : PyData} (h : Fd d) : SeqAt.shaped d = true := fine_shaped h.f h.dp
abbrev rReprF (K : PySem.W.Frag) : List V → Hp → VK → Prop := fun xs H Q => ∃ a d, xs = [.ref a] ∧ Dp K H (.ref a) d ∧ fine d = true ∧ d.depth ≤ 60 ∧ costD d ≤ sizeLine ∧ Q (.str d.shown) H
abbrev tRe (K : PySem.W.Frag) (t : TE) : TE := tCB (rReprF K) (tCons t tNil)
theorem re_gv {K : PySem.W.Frag} {σ : L2.St} {H : Hp} {t : TE} {ds : List PyData} (hd : Fd (.tuple ds)) (h : Gv K σ H t (.tuple ds)) (Q : VK) (q : ∀ G, Same H G → Q (.str (PyData.tuple ds).shown) G) : tRe K t σ H Q := by
  refine h _ fun v G s dv => ?_
  cases dv with
  | tup hs ha => exact ⟨_, _, rfl, .tup hs ha, hd.f, hd.dp, hd.c, q G s⟩
/-- repr(a) != repr(b), both as is due -/
theorem re_no {K : PySem.W.Frag} {σ : L2.St} {H : Hp} {t1 t2 : TE} {ds : List PyData} (hd : Fd (.tuple ds)) (h1 : Gv K σ H t1 (.tuple ds)) (h2 : ∀ G, Same H G → Gv K σ G t2 (.tuple ds)) {B : Bool → Hp → Prop} (hB : ∀ G, Same H G → B false G) :
    tTest (tOp rNe (tRe K t1) (tRe K t2)) σ H B := by
  refine re_gv hd h1 _ fun G1 s1 => re_gv hd (h2 G1 s1) _ fun G2 s2 => ⟨rfl, _, rfl, ?_⟩
  rw [decide_eq_true rfl]
  exact hB _ (s1.trans s2)
/-- a != b, both as is due -/
theorem ne_no {K : PySem.W.Frag} {σ : L2.St} {H : Hp} {t1 t2 : TE} {d : PyData} (nl : noList d = true) (hd : Fd d) (h1 : Gv K σ H t1 d) (h2 : ∀ G, Same H G → Gv K σ G t2 d) {B : Bool → Hp → Prop} (hB : ∀ G, Same H G → B false G) :
    tTest (tOp (rNeD K) t1 t2) σ H B := by
  refine h1 _ fun v1 G1 s1 d1 => h2 G1 s1 _ fun v2 G2 s2 d2 => ⟨d, d, dp_same s2 _ _ d1, d2, hd.sh, hd.sh, _, rfl, ?_⟩
  rw [fine_eqv hd.f]
  exact hB _ (s1.trans s2)
/-- repr(a) != repr(b) or c != e, all as is due -/
theorem re_ne_no {K : PySem.W.Frag} {σ : L2.St} {H : Hp} {t1 t2 t3 t4 : TE} {ds : List PyData} (nl : noList (.tuple ds) = true) (hd : Fd (.tuple ds)) (h1 : Gv K σ H t1 (.tuple ds)) (h2 : ∀ G, Same H G → Gv K σ G t2 (.tuple ds)) (h3 : ∀ G, Same H G → Gv K σ G t3 (.tuple ds)) (h4 : ∀ G, Same H G → Gv K σ G t4 (.tuple ds))
    {B : Bool → Hp → Prop} (hB : ∀ G, Same H G → B false G) : tOr (tTest (tOp rNe (tRe K t1) (tRe K t2))) (tTest (tOp (rNeD K) t3 t4)) σ H B := by
  refine re_no hd h1 h2 fun G1 s1 => iteF ?_
  exact ne_no nl hd (h3 G1 s1) (fun G s => h4 G (s1.trans s)) fun G2 s2 => hB _ (s1.trans s2)
theorem gv_var {K : PySem.W.Frag} {σ : L2.St} {H : Hp} {i : Nat} {v : V} {d : PyData} (h : σ[i]? = some (some v)) (dv : Dp K H v d) : Gv K σ H (tVar i) d := fun Q q => ⟨v, h, q _ _ (Same.refl _) dv⟩
theorem ints_fd {l : List Int} (h : ∀ x ∈ l, x.natAbs < 10 ^ 9) (hl : l.length ≤ 1000) : Fd (.tuple (l.map .int)) := let ⟨a, b, c⟩ := ints_fine h hl; ⟨a, b, c⟩
/-- repr of a bool -/
theorem call_reprB {X : Cx} : CallR X (.builtin "repr") (fun xs H Q => ∃ b, xs = [.bl b] ∧ Q (.str (if b then "True" else "False")) H) := by
  intro pins s σ H xs us Q I r h
  obtain ⟨b, rfl, q⟩ := h
  obtain ⟨u, rfl, ru⟩ := vals1 r
  cases ru
  exact PySem.P.repr_of_bool ⟨.str _, H, I.tok _, ⟨_, rfl⟩, q⟩
/-- the law's rows of truths -/
structure TrsAt (H : Hp) (a : Addr) (rs : List Addr) (tl kl : Nat) (acc : Nat → Int → Bool) : Prop where
  top : H a = some (.lst (rs.map V.ref))
  len : rs.length = tl
  row : ∀ i r, rs[i]? = some r → H r = some (.lst ((List.range kl).map fun k : Nat => V.bl (acc i (k : Int))))
theorem TrsAt.same {H G : Hp} {a : Addr} {rs : List Addr} {tl kl : Nat} {acc : Nat → Int → Bool} (d : TrsAt H a rs tl kl acc) (s : Same H G) : TrsAt G a rs tl kl acc := ⟨s _ _ d.top, d.len, fun i r e => s _ _ (d.row i r e)⟩
theorem TrsAt.but {h l : Addr} {H G : Hp} {a : Addr} {rs : List Addr} {tl kl : Nat} {acc : Nat → Int → Bool} (d : TrsAt H a rs tl kl acc) (b : But h l H G) (n : ∀ x ∈ a :: rs, x ≠ h ∧ x ≠ l) : TrsAt G a rs tl kl acc :=
  ⟨b _ _ (n a List.mem_cons_self).1 (n a List.mem_cons_self).2 d.top, d.len, fun i r e => let m := n r (List.mem_cons_of_mem _ (List.mem_of_getElem? e)); b _ _ m.1 m.2 (d.row i r e)⟩
/-- truths[at][kind] -/
theorem trs_ix {K : PySem.W.Frag} {H : Hp} {a : Addr} {rs : List Addr} {tl kl : Nat} {acc : Nat → Int → Bool} (d : TrsAt H a rs tl kl acc) {i k : Nat} (hi : i < tl) (hk : k < kl) : ∃ r, SqL K H a (rs.map V.ref) ∧ (rs.map V.ref)[i]? = some (.ref r) ∧
    SqL K H r ((List.range kl).map fun k : Nat => V.bl (acc i (k : Int))) ∧ ((List.range kl).map fun k : Nat => V.bl (acc i (k : Int)))[k]? = some (.bl (acc i (k : Int))) := by
  have hl : i < rs.length := by rw [d.len]; exact hi
  refine ⟨rs[i], sqL d.top, ?_, sqL (d.row i _ (List.getElem?_eq_getElem hl)), ?_⟩
  · rw [List.getElem?_map, List.getElem?_eq_getElem hl]
    rfl
  · rw [List.getElem?_map, List.getElem?_range hk]
    rfl
end Gd
namespace Gd
open PySem PySem.Spec PyProof.Rows L2
def rot2 {α : Type} (l : List α) : List α := l.drop 2 ++ l.take 2
theorem vals_rot2 {vs : List V} {us : List Value} (h : Vals vs us) : Vals (rot2 vs) (rot2 us) := by
  have key : ∀ (n : Nat) {vs : List V} {us : List Value}, Vals vs us → Vals (vs.drop n) (us.drop n) ∧ Vals (vs.take n) (us.take n) := by
    intro n
    induction n with
    | zero => exact fun h => ⟨h, .nil⟩
    | succ n ih =>
      intro vs us h
      cases h with
      | nil => exact ⟨.nil, .nil⟩
      | cons a r => exact ⟨(ih r).1, .cons a (ih r).2⟩
  exact (key 2 h).1.append (key 2 h).2
theorem lot_eq {t : TD} (ok : TOk t) {i : Nat} {c : Str × List Int} (h : t.types[i]? = some c) : c.2 = idxF (fun k => acc t i (k : Int)) t.kinds.length := by
  have m := List.mem_of_getElem? h
  refine asc_same (ok.la c m) (idxF_asc _ _) fun x => ?_
  rw [idxF_mem]
  constructor
  · intro hx
    obtain ⟨h0, h1⟩ := ok.lb c m x hx
    obtain ⟨j, rfl⟩ := Int.eq_ofNat_of_zero_le h0
    exact ⟨j, rfl, by omega, by rw [acc_of h]; exact decide_eq_true hx⟩
  · rintro ⟨j, rfl, _, e⟩
    rw [acc_of h] at e
    exact of_decide_eq_true e
theorem takersL_eq (t : TD) (k : Int) : takersL t k = idxF (fun a => acc t a k) t.types.length := by
  unfold takersL typesOf
  exact idxF_congr fun i _ => by simp
theorem idx_fd {f : Nat → Bool} {n : Nat} (h : n ≤ 12) : Fd (.tuple ((idxF f n).map .int)) := ints_fd (idx_small h) (Nat.le_trans (idxF_len f n) (Nat.le_trans h (by decide)))
theorem noList_tints (l : List Int) : noList (.tuple (l.map .int)) = true := by
  rw [noList]
  exact noList_intsD l
theorem row_fd {t : TD} (ok : TOk t) (k : Int) : Fd (rowD (takersL t k)) := idx_fd ok.t12
theorem allD_fd {t : TD} (ok : TOk t) : Fd (allD t) := by
  have k8 := ok.k8
  have t12 := ok.t12
  refine ⟨?_, ?_, ?_⟩
  · rw [allD, fine]
    exact fineAll_mem fun d hd => by
      obtain ⟨k, _, rfl⟩ := List.mem_map.mp hd
      exact (row_fd ok _).f
  · rw [allD, PyData.depth]
    have : PyData.depthAll ((List.range t.kinds.length).map fun k : Nat => rowD (takersL t (k : Int))) ≤ 2 := depthAll_mem fun d hd => by
      obtain ⟨k, _, rfl⟩ := List.mem_map.mp hd
      have e : PyData.depthAll ((takersL t (k : Int)).map .int) ≤ 1 := depthAll_mem fun d hd => by
        obtain ⟨x, _, rfl⟩ := List.mem_map.mp hd
        simp [PyData.depth]
      rw [rowD, PyData.depth]
      omega
    omega
  · have key : ∀ l : List Nat, costAll (l.map fun k : Nat => rowD (takersL t (k : Int))) ≤ 200 * l.length := by
      intro l
      induction l with
      | nil => rw [List.map_nil, costAll]; exact Nat.le_refl 0
      | cons a r ih =>
        have h1 : (takersL t (a : Int)).length ≤ 12 := Nat.le_trans (idxF_len _ _) t12
        rw [List.map_cons, costAll, rowD, costD, cost_ints, List.length_cons]
        omega
    have h2 := key (List.range t.kinds.length)
    rw [List.length_range] at h2
    rw [allD, costD, sizeLine_eq]
    omega
theorem noList_rows (t : TD) (l : List Nat) : noListAll (l.map fun k : Nat => rowD (takersL t (k : Int))) = true := noListAll_mem fun d hd => by
  obtain ⟨k, _, rfl⟩ := List.mem_map.mp hd
  exact noList_tints _
end Gd
namespace K2
open PySem PySem.Spec PyProof.Rows L2 Gd
section
variable {P : Program} {w : World} {K : PySem.W.Frag} {mg : Str → Option Value} {base : Heap}
/-! ### _law_one_right -/
def spOne (K : PySem.W.Frag) (C : Addr) : Sp := fun vs H Q _ => ∃ (p dx pk pt a : Addr) (rs : List Addr) (t : TD), vs = [.ref p, .ref a] ∧ TblAt K C H p dx pk pt t ∧ TOk t ∧ TrsAt H a rs t.types.length t.kinds.length (acc t) ∧ ∀ G, Same H G → Q (.bl true) G
theorem ok_one {f C fA fT fW fL fK : Addr} {fd fdA fdT fdW fdL fdK : FuncData} {k : Nat} (F : Fun K "_law_one_right" "_law_one_right" s__law_one_right f fd) (T : TTxt K mg C)
    (FA : Fun K "accepted" "accepted" s_accepted fA fdA) (FT : Fun K "takers" "takers" s_takers fT fdT) (FW : Fun K "types_without" "types_without" s_types_without fW fdW) (FL : Fun K "all_takers" "all_takers" s_all_takers fL fdL) (FK : Fun K "are_alike" "are_alike" s_are_alike fK fdK)
    (bA : Binds K fdA ["table", "request"] []) (bT : Binds K fdT ["table", "kind"] []) (bW : Binds K fdW ["table", "kind"] []) (bL : Binds K fdL ["table"] []) (bK : Binds K fdK ["table", "one", "other"] [])
    (kA : KwB fdA ["table", "request"] ["request", "table"] List.reverse) (kT : KwB fdT ["table", "kind"] ["kind", "table"] List.reverse) (kW : KwB fdW ["table", "kind"] ["kind", "table"] List.reverse) (kL : KwB fdL ["table"] ["table"] id) (kK : KwB fdK ["table", "one", "other"] ["one", "other", "table"] rot2)
    (gA : mg "accepted" = some (.ref fA)) (gT : mg "takers" = some (.ref fT)) (gW : mg "types_without" = some (.ref fW)) (gL : mg "all_takers" = some (.ref fL)) (gK : mg "are_alike" = some (.ref fK))
    (GA : FnOk P w K mg base CX0 k fA fdA ["table", "request"] (spAcc K C)) (GT : FnOk P w K mg base CX0 k fT fdT ["table", "kind"] (spTakers K C)) (GW : FnOk P w K mg base CX0 k fW fdW ["table", "kind"] (spWithout K C)) (GL : FnOk P w K mg base CX0 k fL fdL ["table"] (spAll K C)) (GK : FnOk P w K mg base CX0 k fK fdK ["table", "one", "other"] (spAlike K C))
    (ml : mg "len" = none) (mr : mg "range" = none) (mt : mg "tuple" = none) (mp : mg "repr" = none) :
    FnG P w K mg base (k + 1) f fd ["table", "truths"] (spOne K C) := by
  refine okG F sc__law_one_right (fun vs H Q E h => ?_) (fun cdv A outer s H vs Q E hrg h => ?_)
  · obtain ⟨p, dx, pk, pt, a, rs, t, rfl, _⟩ := h
    rfl
  · obtain ⟨p, dx, pk, pt, a, rs, t, rfl, d, ok, tr, q⟩ := h
    have hr := hrg.rm
    have hgd := hrg.gd
    refine blk_cons (ps_par (i := 2) (j := 3) rfl sc__law_one_right.nd rfl rfl (by decide) rfl rfl (pa_cons (pe_callB call_len_seq (by rfl) ml PySem.boot_len (pa_cons (pv 1) pa_nil)) (pa_cons (pe_callB call_len_seq (by rfl) ml PySem.boot_len (pa_cons (pe_fld (pv 0) rfl) pa_nil)) pa_nil)) (by rfl)) ?_
    refine blk_cons (ps_for PassesOwn.never rfl (pi_range1 (by rfl) mr (pa_cons (pv 2) pa_nil)) (pg_name (i := 4) sc__law_one_right.nd rfl (.inr rfl))
      (pss_cons (ps_set (i := 6) sc__law_one_right.nd rfl (.inl rfl) (pe_callTy call_tuple_of (by rfl) mt (by decide +kernel) (pa_cons (pe_lc (own := [("kind", 5)]) (g := gName 5) rfl sc__law_one_right.nd (pi_range1 (by rfl) mr (pa_cons (pv 3) pa_nil)) (blkOk_by (own := [("kind", 5)]) (N := n__law_one_right) (sc := defScope s__law_one_right) (by decide +kernel))
        (fun _ _ _ _ _ => pg_name (i := 5) sc__law_one_right.nd rfl (Or.inl rfl)) (fun _ _ _ _ _ => pts_one (pt_val (pe_ix (r := rIxL K) ix_list (pe_ix (r := rIxL K) ix_list (pv 1) (pv 4) (fun _ _ => rfl)) (pv 5) (fun _ _ => rfl)))) (fun _ _ _ _ _ => pv 5)) pa_nil)))
      (pss_one (ps_if (PW.pt (pw_or (pt_cmpR op_ne (pe_callB (call_reprF hgd hr.units) (by rfl) mp (by decide +kernel) (pa_cons (pe_call GA hr (by rfl) gA FA.kp bA .nil pass0 (pa_cons (pv 0) (pa_cons (pv 4) pa_nil))) pa_nil)) (pe_callB (call_reprF hgd hr.units) (by rfl) mp (by decide +kernel) (pa_cons (pv 6) pa_nil)) (nomark _))
        (pw_or1 (pt_cmpR (op_neD hr.units) (pe_kwG (E := E0) (gV := List.reverse) (FnG.of GA) hrg (by rfl) gA FA.kp kA (fun _ r => r.reverse) (pk_cons (pv 4) (pk_cons (pv 0) pk_nil))) (pv 6) (nomark _))))) (pss_one (ps_ret pe_bl)) pss_nil)))) ?_
    refine blk_cons (ps_set (i := 7) sc__law_one_right.nd rfl (.inl rfl) (pe_lst pa_nil)) ?_
    refine blk_cons (ps_for PassesOwn.never rfl (pi_range1 (by rfl) mr (pa_cons (pv 3) pa_nil)) (pg_name (i := 5) sc__law_one_right.nd rfl (.inr rfl))
      (pss_cons (ps_set (i := 6) sc__law_one_right.nd rfl (.inl rfl) (pe_callTy call_tuple_of (by rfl) mt (by decide +kernel) (pa_cons (pe_lc (own := [("at", 4)]) (g := gName 4) rfl sc__law_one_right.nd (pi_range1 (by rfl) mr (pa_cons (pv 2) pa_nil)) (blkOk_by (own := [("at", 4)]) (N := n__law_one_right) (sc := defScope s__law_one_right) (by decide +kernel))
        (fun _ _ _ _ _ => pg_name (i := 4) sc__law_one_right.nd rfl (Or.inl rfl)) (fun _ _ _ _ _ => pts_one (pt_val (pe_ix (r := rIxL K) ix_list (pe_ix (r := rIxL K) ix_list (pv 1) (pv 4) (fun _ _ => rfl)) (pv 5) (fun _ _ => rfl)))) (fun _ _ _ _ _ => pv 4)) pa_nil)))
      (pss_cons (ps_if (PW.pt (pw_or (pt_cmpR op_ne (pe_callB (call_reprF hgd hr.units) (by rfl) mp (by decide +kernel) (pa_cons (pe_call GT hr (by rfl) gT FT.kp bT .nil pass0 (pa_cons (pv 0) (pa_cons (pv 5) pa_nil))) pa_nil)) (pe_callB (call_reprF hgd hr.units) (by rfl) mp (by decide +kernel) (pa_cons (pv 6) pa_nil)) (nomark _))
        (pw_or1 (pt_cmpR (op_neD hr.units) (pe_kwG (E := E0) (gV := List.reverse) (FnG.of GT) hrg (by rfl) gT FT.kp kT (fun _ r => r.reverse) (pk_cons (pv 5) (pk_cons (pv 0) pk_nil))) (pv 6) (nomark _))))) (pss_one (ps_ret pe_bl)) pss_nil)
      (pss_cons (ps_set (i := 8) sc__law_one_right.nd rfl (.inl rfl) (pe_callTy call_tuple_of (by rfl) mt (by decide +kernel) (pa_cons (pe_lc (own := [("at", 4)]) (g := gName 4) rfl sc__law_one_right.nd (pi_range1 (by rfl) mr (pa_cons (pv 2) pa_nil)) (blkOk_by (own := [("at", 4)]) (N := n__law_one_right) (sc := defScope s__law_one_right) (by decide +kernel))
        (fun _ _ _ _ _ => pg_name (i := 4) sc__law_one_right.nd rfl (Or.inl rfl)) (fun _ _ _ _ _ => pts_one (pt_not (pt_val (pe_ix (r := rIxL K) ix_list (pe_ix (r := rIxL K) ix_list (pv 1) (pv 4) (fun _ _ => rfl)) (pv 5) (fun _ _ => rfl))))) (fun _ _ _ _ _ => pv 4)) pa_nil)))
      (pss_cons (ps_if (PW.pt (pw_or (pt_cmpR op_ne (pe_callB (call_reprF hgd hr.units) (by rfl) mp (by decide +kernel) (pa_cons (pe_call GW hr (by rfl) gW FW.kp bW .nil pass0 (pa_cons (pv 0) (pa_cons (pv 5) pa_nil))) pa_nil)) (pe_callB (call_reprF hgd hr.units) (by rfl) mp (by decide +kernel) (pa_cons (pv 8) pa_nil)) (nomark _))
        (pw_or1 (pt_cmpR (op_neD hr.units) (pe_kwG (E := E0) (gV := List.reverse) (FnG.of GW) hrg (by rfl) gW FW.kp kW (fun _ r => r.reverse) (pk_cons (pv 5) (pk_cons (pv 0) pk_nil))) (pv 8) (nomark _))))) (pss_one (ps_ret pe_bl)) pss_nil)
      (pss_one (ps_expr (pe_bm PySem.F.plainAttrs_list PySem.F.slot_list_append PySem.F.type_list_append mt_append (pv 7) (pa_cons (pv 6) pa_nil))))))))) ?_
    refine blk_cons (ps_if (PW.pt (pw_or (pt_cmpR op_ne (pe_callB (call_reprF hgd hr.units) (by rfl) mp (by decide +kernel) (pa_cons (pe_call GL hr (by rfl) gL FL.kp bL .nil pass0 (pa_cons (pv 0) pa_nil)) pa_nil)) (pe_callB (call_reprF hgd hr.units) (by rfl) mp (by decide +kernel) (pa_cons (pe_callTy call_tuple_of (by rfl) mt (by decide +kernel) (pa_cons (pv 7) pa_nil)) pa_nil)) (nomark _))
        (pw_or1 (pt_cmpR (op_neD hr.units) (pe_kwG (E := E0) (gV := id) (FnG.of GL) hrg (by rfl) gL FL.kp kL (fun _ r => r) (pk_cons (pv 0) pk_nil)) (pe_callTy call_tuple_of (by rfl) mt (by decide +kernel) (pa_cons (pv 7) pa_nil)) (nomark _))))) (pss_one (ps_ret pe_bl)) pss_nil) ?_
    refine blk_cons (ps_for PassesOwn.never rfl (pi_range1 (by rfl) mr (pa_cons (pv 3) pa_nil)) (pg_name (i := 9) sc__law_one_right.nd rfl (.inl rfl))
      (pss_one (ps_for PassesOwn.never rfl (pi_range1 (by rfl) mr (pa_cons (pv 3) pa_nil)) (pg_name (i := 10) sc__law_one_right.nd rfl (.inl rfl))
        (pss_one (ps_if (pt_cmpR op_ne (pe_callB call_reprB (by rfl) mp (by decide +kernel) (pa_cons (pe_call GK hr (by rfl) gK FK.kp bK .nil pass0 (pa_cons (pv 0) (pa_cons (pv 9) (pa_cons (pv 10) pa_nil)))) pa_nil))
          (pe_callB call_reprB (by rfl) mp (by decide +kernel) (pa_cons (pe_cmpR (op_eqD hr.units) (pe_ix (r := rIxL K) ix_list (pv 7) (pv 9) (fun _ _ => rfl)) (pe_ix (r := rIxL K) ix_list (pv 7) (pv 10) (fun _ _ => rfl)) (nomark _)) pa_nil)) (nomark _)) (pss_one (ps_ret pe_bl)) pss_nil))))) ?_
    refine blk_cons (ps_ret (pe_cmpR op_eq (pe_kwG (E := E0) (gV := rot2) (FnG.of GK) hrg (by rfl) gK FK.kp kK (fun _ r => vals_rot2 r) (pk_cons pe_int (pk_cons (pe_op op_sub (pv 3) pe_int) (pk_cons (pv 0) pk_nil))))
      (pe_cmpR (op_eqD hr.units) (pe_ix (r := rIxL K) ix_list (pv 7) pe_int (fun _ _ => rfl)) (pe_ix (r := rIxL K) ix_list (pv 7) (pe_un un_neg pe_int) (fun _ _ => rfl)) (nomark _)) (nomark _))) ?_
    refine blk_nil ?_
    have k8 := ok.k8
    have k1 := ok.k1
    have t12 := ok.t12
    have ltl : (rs.map V.ref).length = t.types.length := by rw [List.length_map, tr.len]
    have lkl : (t.kinds.map V.str).length = t.kinds.length := List.length_map _
    -- many, count
    refine ⟨_, rfl, a, _, rfl, .inl (sqL tr.top), _, rfl, p, C, dx, _, _, rfl, d.obj, T.cl, T.nK, tf_k _ _, pk, _, rfl, .inr (kinds_sq d.kd), _, _, rfl, ?_⟩
    rw [ltl, lkl]
    -- for at in range(many)
    have comp : ∀ (G1 : Hp), Same H G1 → ∀ (g : Nat → Bool) (n : Nat) (D : Addr) (J : Hp) (i : Nat), n ≤ 12 → Same G1 J → G1 D = none → J D = some (.lst ((idxF g i).map V.int)) → i < n → g i = true →
        (∃ acc, J D = some (.lst acc) ∧ acc.length < sizeLine ∧ Same G1 (upd J D (.lst (acc ++ [.int (0 + (i : Int))]))) ∧ (upd J D (.lst (acc ++ [.int (0 + (i : Int))]))) D = some (.lst ((idxF g (i + 1)).map V.int))) := by
      intro G1 s1 g n D J i hn s2 nD gD hi hg
      refine ⟨_, gD, ?_, fun b o e => ?_, ?_⟩
      · have := idxF_len g i
        rw [List.length_map]
        exact small1000 (by omega)
      · rw [upd_ne (ne_of_none e nD)]
        exact s2 _ _ e
      · rw [upd_same, idxF_succ, if_pos hg, List.map_append, show (0 + (i : Int)) = (i : Int) by omega]
        rfl
    dsimp only [gName]
    refine seq_out (t := tFor _ _ _) (fun σ' G' => Same H G' ∧ ∃ y4 y6 : Option V, σ' = [some (.ref p), some (.ref a), some (.int (t.types.length : Int)), some (.int (t.kinds.length : Int)), y4, none, y6, none, none, none, none]) (fun N hN => ?_) (fun σ' G1 hR => ?_)
    · refine ⟨_, rfl, _, rfl, by omega, by omega, for_range (lo := 0) (fun i σ G => Same H G ∧ ∃ y4 y6 : Option V, σ = [some (.ref p), some (.ref a), some (.int (t.types.length : Int)), some (.int (t.kinds.length : Int)), y4, none, y6, none, none, none, none]) ⟨Same.refl _, _, _, rfl⟩ (fun i σ G hi hP => ?_) (fun σ G hP => hN _ _ hP)⟩
      obtain ⟨s1, y4, y6, rfl⟩ := hP
      have hi2 : i < t.types.length := by omega
      have hc := List.getElem?_eq_getElem hi2
      generalize t.types[i] = c at hc
      have ez : (0 + (i : Int)) = (i : Int) := by omega
      have tr1 := tr.same s1
      -- due
      refine ⟨_, rfl, _, rfl, by omega, by omega, fun D nD => lc_range (lo := 0) (fun j J => Same G J ∧ J D = some (.lst ((idxF (fun k => acc t i (k : Int)) j).map V.int))) ⟨same_new nD, upd_same⟩ (fun j J hj hQ => ?_) (fun J hQ => ?_)⟩
      · obtain ⟨s2, gD⟩ := hQ
        have hj2 : j < t.kinds.length := by omega
        obtain ⟨r, e1, e2, e3, e4⟩ := trs_ix (K := K) (tr1.same s2) hi2 hj2
        refine ⟨rfl, _, rfl, _, rfl, a, _, _, .ref r, rfl, rfl, e1, at_of (j := i) (by omega) e2, _, rfl, r, _, _, _, rfl, rfl, e3, at_of (j := j) (by omega) e4, _, rfl, ite2 (fun hb => ?_) (fun hb => ⟨s2, ?_⟩)⟩
        · exact ⟨_, rfl, comp G s1 (fun k => acc t i (k : Int)) t.kinds.length D J j (by omega) s2 nD gD hj2 hb⟩
        · rw [idxF_succ, if_neg hb, List.append_nil]
          exact gD
      · obtain ⟨s2, gD⟩ := hQ
        rw [show ((t.kinds.length : Int)).toNat = t.kinds.length by omega, ← lot_eq ok hc] at gD
        refine ⟨D, _, rfl, .inl ⟨sqL gD, fun q1 n1 => ?_⟩⟩
        have s3 : Same H (upd J q1 (.tup (c.2.map V.int))) := (s1.trans s2).trans (same_new n1)
        have hq1 := sqT (K := K) (upd_same (H := J) (a := q1) (o := .tup (c.2.map V.int)))
        generalize upd J q1 (.tup (c.2.map V.int)) = G3 at s3 hq1 ⊢
        have fd : Fd (.tuple (c.2.map .int)) := by
          rw [lot_eq ok hc]
          exact idx_fd (by omega)
        dsimp only [gName]
        refine if_out false (fun B hB => re_ne_no (noList_tints _) fd (fun Q qq => ?_) (fun G4 s4 Q qq => ⟨_, rfl, qq _ _ (Same.refl _) (dp_tup (same_seqT s4 hq1))⟩) (fun G4 s4 Q qq => ?_) (fun G4 s4 Q qq => ⟨_, rfl, qq _ _ (Same.refl _) (dp_tup (same_seqT s4 hq1))⟩) hB) (fun G4 s4 => ?_)
        · exact ⟨_, rfl, _, rfl, p, dx, pk, pt, t, i, c, by rw [ez]; rfl, d.same s3, hc, fun q5 h5 => qq _ _ (Same.refl _) (dp_tup h5)⟩
        · exact ⟨_, rfl, _, rfl, rfl, p, dx, pk, pt, t, i, c, by rw [ez]; rfl, d.same (s3.trans s4), hc, fun q5 h5 => qq _ _ (Same.refl _) (dp_tup h5)⟩
        · exact ⟨s3.trans s4, _, _, rfl⟩
    obtain ⟨s1, y4, y6, rfl⟩ := hR
    -- rows
    refine ⟨Nat.zero_le _, fun R nR => ?_⟩
    have s2 : Same H (upd G1 R (.lst [])) := s1.trans (same_new nR)
    have nRH : H R = none := s1.free nR
    have gR0 := upd_same (H := G1) (a := R) (o := .lst [])
    generalize upd G1 R (.lst []) = G2 at s2 gR0 ⊢
    dsimp only [gName]
    refine seq_out (t := tFor _ _ _) (fun σ' G' => Same H G' ∧ ∃ (vs : List V) (y4 y5 y6 y8 : Option V), σ' = [some (.ref p), some (.ref a), some (.int (t.types.length : Int)), some (.int (t.kinds.length : Int)), y4, y5, y6, some (.ref R), y8, none, none] ∧ G' R = some (.lst vs) ∧
      DpAll K G' vs ((List.range t.kinds.length).map fun k : Nat => rowD (takersL t (k : Int)))) (fun N hN => ?_) (fun σ' G3 hR => ?_)
    · refine ⟨_, rfl, _, rfl, by omega, by omega, for_range (lo := 0) (fun i σ G => Same H G ∧ ∃ (vs : List V) (y5 y6 y8 : Option V), σ = [some (.ref p), some (.ref a), some (.int (t.types.length : Int)), some (.int (t.kinds.length : Int)), y4, y5, y6, some (.ref R), y8, none, none] ∧ G R = some (.lst vs) ∧
        DpAll K G vs ((List.range i).map fun k : Nat => rowD (takersL t (k : Int)))) ⟨s2, [], _, _, _, rfl, gR0, .nil⟩ (fun i σ G hi hP => ?_) (fun σ G hP => ?_)⟩
      · obtain ⟨s3, vs, y5, y6, y8, rfl, gR, hds⟩ := hP
        have hi2 : i < t.kinds.length := by omega
        have ez : (0 + (i : Int)) = (i : Int) := by omega
        have tr1 := tr.same s3
        refine ⟨_, rfl, _, rfl, by omega, by omega, fun D nD => lc_range (lo := 0) (fun j J => Same G J ∧ J D = some (.lst ((idxF (fun b => acc t b (i : Int)) j).map V.int))) ⟨same_new nD, upd_same⟩ (fun j J hj hQ => ?_) (fun J hQ => ?_)⟩
        · obtain ⟨s4, gD⟩ := hQ
          have hj2 : j < t.types.length := by omega
          obtain ⟨r, e1, e2, e3, e4⟩ := trs_ix (K := K) (tr1.same s4) hj2 hi2
          refine ⟨rfl, _, rfl, _, rfl, a, _, _, .ref r, rfl, rfl, e1, at_of (j := j) (by omega) e2, _, rfl, r, _, _, _, rfl, rfl, e3, at_of (j := i) (by omega) e4, _, rfl, ite2 (fun hb => ?_) (fun hb => ⟨s4, ?_⟩)⟩
          · exact ⟨_, rfl, comp G s3 (fun b => acc t b (i : Int)) t.types.length D J j t12 s4 nD gD hj2 hb⟩
          · rw [idxF_succ, if_neg hb, List.append_nil]
            exact gD
        · obtain ⟨s4, gD⟩ := hQ
          rw [show ((t.types.length : Int)).toNat = t.types.length by omega, ← takersL_eq] at gD
          refine ⟨D, _, rfl, .inl ⟨sqL gD, fun q1 n1 => ?_⟩⟩
          have s5 : Same G (upd J q1 (.tup ((takersL t (i : Int)).map V.int))) := s4.trans (same_new n1)
          have hq1 := sqT (K := K) (upd_same (H := J) (a := q1) (o := .tup ((takersL t (i : Int)).map V.int)))
          generalize upd J q1 (.tup ((takersL t (i : Int)).map V.int)) = G5 at s5 hq1 ⊢
          dsimp only [gName]
          refine if_out false (fun B hB => re_ne_no (noList_tints _) (row_fd ok _) (fun Q qq => ?_) (fun G6 s6 Q qq => ⟨_, rfl, qq _ _ (Same.refl _) (dp_tup (same_seqT s6 hq1))⟩) (fun G6 s6 Q qq => ?_) (fun G6 s6 Q qq => ⟨_, rfl, qq _ _ (Same.refl _) (dp_tup (same_seqT s6 hq1))⟩) hB) (fun G6 s6 => ?_)
          · exact ⟨_, rfl, _, rfl, p, dx, pk, pt, t, (i : Int), by rw [ez]; rfl, d.same (s3.trans s5), ok, fun G7 q7 s7 h7 => qq _ _ s7 (dp_tup h7)⟩
          · exact ⟨_, rfl, _, rfl, rfl, p, dx, pk, pt, t, (i : Int), by rw [ez]; rfl, d.same ((s3.trans s5).trans s6), ok, fun G7 q7 s7 h7 => qq _ _ s7 (dp_tup h7)⟩
          rw [if_neg (by decide)]
          have s36 := (s3.trans s5).trans s6
          have s56 := s5.trans s6
          have hq6 := same_seqT s6 hq1
          dsimp only [tNext]
          have tr6 := tr.same s36
          -- left
          refine ⟨_, rfl, _, rfl, by omega, by omega, fun D2 nD2 => lc_range (lo := 0) (fun j J => Same G6 J ∧ J D2 = some (.lst ((idxF (fun b => !acc t b (i : Int)) j).map V.int))) ⟨same_new nD2, upd_same⟩ (fun j J hj hQ => ?_) (fun J hQ => ?_)⟩
          · obtain ⟨s7, gD⟩ := hQ
            have hj2 : j < t.types.length := by omega
            obtain ⟨r, e1, e2, e3, e4⟩ := trs_ix (K := K) (tr6.same s7) hj2 hi2
            refine ⟨rfl, _, rfl, _, rfl, a, _, _, .ref r, rfl, rfl, e1, at_of (j := j) (by omega) e2, _, rfl, r, _, _, _, rfl, rfl, e3, at_of (j := i) (by omega) e4, _, rfl, ite2 (fun hb => ?_) (fun hb => ⟨s7, ?_⟩)⟩
            · exact ⟨_, rfl, comp G6 s36 (fun b => !acc t b (i : Int)) t.types.length D2 J j t12 s7 nD2 gD hj2 hb⟩
            · rw [idxF_succ, if_neg hb, List.append_nil]
              exact gD
          · obtain ⟨s7, gD⟩ := hQ
            rw [show ((t.types.length : Int)).toNat = t.types.length by omega] at gD
            refine ⟨D2, _, rfl, .inl ⟨sqL gD, fun q2 n2 => ?_⟩⟩
            have s8 : Same G6 (upd J q2 (.tup ((idxF (fun b => !acc t b (i : Int)) t.types.length).map V.int))) := s7.trans (same_new n2)
            have hq2 := sqT (K := K) (upd_same (H := J) (a := q2) (o := .tup ((idxF (fun b => !acc t b (i : Int)) t.types.length).map V.int)))
            generalize upd J q2 (.tup ((idxF (fun b => !acc t b (i : Int)) t.types.length).map V.int)) = G8 at s8 hq2 ⊢
            dsimp only [gName]
            refine if_out false (fun B hB => re_ne_no (noList_tints _) (idx_fd (f := fun b => !acc t b (i : Int)) t12) (fun Q qq => ?_) (fun G9 s9 Q qq => ⟨_, rfl, qq _ _ (Same.refl _) (dp_tup (same_seqT s9 hq2))⟩) (fun G9 s9 Q qq => ?_) (fun G9 s9 Q qq => ⟨_, rfl, qq _ _ (Same.refl _) (dp_tup (same_seqT s9 hq2))⟩) hB) (fun G9 s9 => ?_)
            · exact ⟨_, rfl, _, rfl, p, dx, pk, pt, t, (i : Int), by rw [ez]; rfl, d.same (s36.trans s8), ok, fun G10 q10 s10 h10 => qq _ _ s10 (dp_tup h10)⟩
            · exact ⟨_, rfl, _, rfl, rfl, p, dx, pk, pt, t, (i : Int), by rw [ez]; rfl, d.same ((s36.trans s8).trans s9), ok, fun G10 q10 s10 h10 => qq _ _ s10 (dp_tup h10)⟩
            rw [if_neg (by decide)]
            have s69 := s8.trans s9
            have s59 := s56.trans s69
            have gR9 := s59 _ _ gR
            have k9 : KeepT G9 (upd G9 R (.lst (vs ++ [.ref q1]))) := .put gR9
            refine ⟨_, rfl, .inl ⟨rfl, _, sqL gR9⟩, _, rfl, R, _, _, rfl, rfl, gR9, ?_, fun b o e => ?_, _, _, _, _, rfl, upd_same, ?_⟩
            · rw [dpAll_len hds, List.length_map, List.length_range]
              exact small1000 (by omega)
            · rw [upd_ne (ne_of_none e nRH)]
              exact s59 _ _ (s3 _ _ e)
            · rw [List.range_succ, List.map_append]
              exact dpAll_snoc (dpAll_keep k9 _ _ (noList_rows _ _) (dpAll_same s59 _ _ hds)) (dp_tup (k9.seqT (same_seqT s69 hq6)))
      · obtain ⟨s3, vs, y5, y6, y8, rfl, gR, hds⟩ := hP
        rw [show ((t.kinds.length : Int)).toNat = t.kinds.length by omega] at hds
        exact hN _ _ ⟨s3, vs, _, _, _, _, rfl, gR, hds⟩
    obtain ⟨s3, vs, y4', y5, y6', y8, rfl, gR, hds⟩ := hR
    -- all_takers
    have lv : vs.length = t.kinds.length := by rw [dpAll_len hds, List.length_map, List.length_range]
    have gvR : ∀ G, Same G3 G → ∀ Q : VK, (∀ v G', Same G G' → Dp K G' v (allD t) → Q v G') → ∃ v, (some (some (V.ref R)) = some (some v)) ∧ ∃ p ys, [v] = [V.ref p] ∧ ((SqL K G p ys ∧ ∀ l, G l = none → Q (.ref l) (upd G l (.tup ys))) ∨ (SqT K G p ys ∧ Q (.ref p) G)) := fun G s Q qq =>
      ⟨_, rfl, R, vs, rfl, .inl ⟨sqL (s _ _ gR), fun l nl => qq _ _ (same_new nl) (.tup (sqT upd_same) (dpAll_same (same_new nl) _ _ (dpAll_same s _ _ hds)))⟩⟩
    refine if_out false (fun B hB => re_ne_no (by
        rw [noList]
        exact noList_rows _ _) (allD_fd ok) (fun Q qq => ?_) (fun G6 s6 Q qq => ?_) (fun G6 s6 Q qq => ?_) (fun G6 s6 Q qq => ?_) hB) (fun G4 s4 => ?_)
    · exact ⟨_, rfl, p, dx, pk, pt, t, rfl, d.same s3, ok, fun G7 q7 s7 h7 => qq _ _ s7 h7⟩
    · exact gvR G6 s6 Q qq
    · exact ⟨_, rfl, rfl, p, dx, pk, pt, t, rfl, d.same (s3.trans s6), ok, fun G7 q7 s7 h7 => qq _ _ s7 h7⟩
    · exact gvR G6 s6 Q qq
    rw [if_neg (by decide)]
    have gR4 := s4 _ _ gR
    have hds4 := dpAll_same s4 _ _ hds
    have s04 := s3.trans s4
    clear gvR hds gR
    have rowAt : ∀ {G : Hp}, Same G4 G → ∀ {j : Nat}, j < t.kinds.length → ∃ v, vs[j]? = some v ∧ Dp K G v (rowD (takersL t (j : Int))) := fun {G} s {j} hj =>
      dpAll_get (dpAll_same s _ _ hds4) (i := j) (d := rowD (takersL t (j : Int))) (by rw [List.getElem?_map, List.getElem?_range hj]; rfl)
    dsimp only [tNext]
    refine seq_out (t := tFor _ _ _) (fun σ' G' => Same G4 G' ∧ ∃ (y9 y10 : Option V), σ' = [some (.ref p), some (.ref a), some (.int (t.types.length : Int)), some (.int (t.kinds.length : Int)), y4', y5, y6', some (.ref R), y8, y9, y10]) (fun N hN => ?_) (fun σ' G5 hR => ?_)
    · refine ⟨_, rfl, _, rfl, by omega, by omega, for_range (lo := 0) (fun i σ G => Same G4 G ∧ ∃ (y9 y10 : Option V), σ = [some (.ref p), some (.ref a), some (.int (t.types.length : Int)), some (.int (t.kinds.length : Int)), y4', y5, y6', some (.ref R), y8, y9, y10]) ⟨Same.refl _, _, _, rfl⟩ (fun i σ G hi hP => ?_) (fun σ G hP => hN _ _ hP)⟩
      obtain ⟨s5, y9, y10, rfl⟩ := hP
      have hi2 : i < t.kinds.length := by omega
      refine ⟨_, rfl, _, rfl, by omega, by omega, for_range (lo := 0) (fun j σ G => Same G4 G ∧ ∃ (y10 : Option V), σ = [some (.ref p), some (.ref a), some (.int (t.types.length : Int)), some (.int (t.kinds.length : Int)), y4', y5, y6', some (.ref R), y8, some (.int (0 + (i : Int))), y10]) ⟨s5, _, rfl⟩ (fun j σ G hj hP => ?_) (fun σ G hP => ?_)⟩
      · obtain ⟨s6, y10, rfl⟩ := hP
        have hj2 : j < t.kinds.length := by omega
        refine ⟨_, rfl, _, rfl, _, rfl, p, dx, pk, pt, t, (0 + (i : Int)), (0 + (j : Int)), rfl, d.same (s04.trans s6), ok, fun G7 s7 => ?_⟩
        have s47 := s6.trans s7
        obtain ⟨v1, e1, d1⟩ := rowAt s47 hi2
        obtain ⟨v2, e2, d2⟩ := rowAt s47 hj2
        refine ⟨_, rfl, _, rfl, _, rfl, R, vs, _, v1, rfl, rfl, sqL (s47 _ _ gR4), at_of (j := i) (by omega) e1, _, rfl, _, rfl, R, vs, _, v2, rfl, rfl, sqL (s47 _ _ gR4), at_of (j := j) (by omega) e2, _, _, d1, d2, (row_fd ok _).sh, (row_fd ok _).sh, _, rfl, rfl, _, rfl, ?_⟩
        rw [rowD, rowD, eqv_tints, show (0 + (i : Int)) = (i : Int) by omega, show (0 + (j : Int)) = (j : Int) by omega, decide_eq_true rfl]
        exact iteF ⟨s47, _, rfl⟩
      · obtain ⟨s6, y10, rfl⟩ := hP
        exact ⟨s6, _, _, rfl⟩
    obtain ⟨s5, y9, y10, rfl⟩ := hR
    -- the last
    have e0 : ((t.kinds.length : Int) - 1) = ((t.kinds.length - 1 : Nat) : Int) := by omega
    refine ⟨_, rfl, _, _, rfl, rfl, _, rfl, rfl, p, dx, pk, pt, t, 0, (t.kinds.length : Int) - 1, rfl, d.same (s04.trans s5), ok, fun G6 s6 => ?_⟩
    have s46 := s5.trans s6
    obtain ⟨v1, e1, d1⟩ := rowAt s46 (j := 0) (by omega)
    obtain ⟨v2, e2, d2⟩ := rowAt s46 (j := t.kinds.length - 1) (by omega)
    have el : vs = vs.take (t.kinds.length - 1) ++ [v2] := by
      have := List.take_append_drop (t.kinds.length - 1) vs
      have dr : vs.drop (t.kinds.length - 1) = [v2] := by
        obtain ⟨hlt, e⟩ := List.getElem?_eq_some_iff.mp e2
        rw [List.drop_eq_getElem_cons hlt, e, List.drop_eq_nil_of_le (by omega)]
      rw [dr] at this
      exact this.symm
    refine ⟨_, rfl, R, vs, _, v1, rfl, rfl, sqL (s46 _ _ gR4), atI_nat (j := 0) e1, _, rfl, 1, rfl, R, vs, -1, v2, rfl, rfl, sqL (s46 _ _ gR4), by rw [el]; exact atI_last _ _, _, _, d1, d2, (row_fd ok _).sh, (row_fd ok _).sh, rfl, ?_⟩
    rw [rowD, rowD, eqv_tints, e0, show ((0 : Nat) : Int) = 0 from rfl, decide_eq_true rfl]
    exact q _ (s04.trans s46)
end
end K2
namespace Gd
open PySem PySem.Spec PyProof.Rows L2
theorem lc_app {G1 J : Hp} {D : Addr} {g : Nat → Bool} {n i : Nat} (hn : n ≤ 12) (s2 : Same G1 J) (nD : G1 D = none) (gD : J D = some (.lst ((idxF g i).map V.int))) (hi : i < n) (hg : g i = true) :
    ∃ acc, J D = some (.lst acc) ∧ acc.length < sizeLine ∧ Same G1 (upd J D (.lst (acc ++ [.int (0 + (i : Int))]))) ∧ (upd J D (.lst (acc ++ [.int (0 + (i : Int))]))) D = some (.lst ((idxF g (i + 1)).map V.int)) := by
  refine ⟨_, gD, ?_, fun b o e => ?_, ?_⟩
  · have := idxF_len g i
    rw [List.length_map]
    exact small1000 (by omega)
  · rw [upd_ne (ne_of_none e nD)]
    exact s2 _ _ e
  · rw [upd_same, idxF_succ, if_pos hg, List.map_append, show (0 + (i : Int)) = (i : Int) by omega]
    rfl
end Gd
namespace K2
open PySem PySem.Spec PyProof.Rows L2 Gd
section
variable {P : Program} {w : World} {K : PySem.W.Frag} {mg : Str → Option Value} {base : Heap}
/-! ### _law_lots_right -/
def spLots (K : PySem.W.Frag) (C : Addr) : Sp := fun vs H Q _ => ∃ (h l : Addr) (L : List Int) (st : Int) (p dx pk pt a : Addr) (rs : List Addr) (t : TD), vs = [.ref h, .ref p, .ref a] ∧ Hv H h l L st ∧ TblAt K C H p dx pk pt t ∧ TOk t ∧ TrsAt H a rs t.types.length t.kinds.length (acc t) ∧ (∀ x ∈ a :: rs, x ≠ h ∧ x ≠ l) ∧
  ∀ G L' st', But h l H G → Hv G h l L' st' → Q (.bl true) G
theorem ok_lots {f C fL fO fK : Addr} {fd fdL fdO fdK : FuncData} {k : Nat} (F : Fun K "_law_lots_right" "_law_lots_right" s__law_lots_right f fd) (T : TTxt K mg C)
    (FL : Fun K "_law_lot" "_law_lot" s__law_lot fL fdL) (FO : Fun K "types_of_kinds" "types_of_kinds" s_types_of_kinds fO fdO) (FK : Fun K "kinds_of_types" "kinds_of_types" s_kinds_of_types fK fdK)
    (bL : Binds K fdL ["heap", "many", "share"] []) (bO : Binds K fdO ["table", "kinds"] []) (bK : Binds K fdK ["table", "types"] [])
    (kO : KwB fdO ["table", "kinds"] ["kinds", "table"] List.reverse) (kK : KwB fdK ["table", "types"] ["types", "table"] List.reverse)
    (gL : mg "_law_lot" = some (.ref fL)) (gO : mg "types_of_kinds" = some (.ref fO)) (gK : mg "kinds_of_types" = some (.ref fK))
    (GL : FnOk P w K mg base CX0 k fL fdL ["heap", "many", "share"] (spLLot K)) (GO : FnOk P w K mg base CX0 k fO fdO ["table", "kinds"] (spTOf K C)) (GK : FnOk P w K mg base CX0 k fK fdK ["table", "types"] (spKOf K C))
    (ml : mg "len" = none) (mr : mg "range" = none) (mt : mg "tuple" = none) (ma : mg "any" = none) (mp : mg "repr" = none) :
    FnG P w K mg base (k + 1) f fd ["heap", "table", "truths"] (spLots K C) := by
  refine okG F sc__law_lots_right (fun vs H Q E h => ?_) (fun cdv A outer s H vs Q E hrg h => ?_)
  · obtain ⟨h, l, L, st, p, dx, pk, pt, a, rs, t, rfl, _⟩ := h
    rfl
  · obtain ⟨h, l, L, st, p, dx, pk, pt, a, rs, t, rfl, hv, d, ok, tr, na, q⟩ := h
    have hr := hrg.rm
    have hgd := hrg.gd
    refine blk_cons (ps_par (i := 3) (j := 4) rfl sc__law_lots_right.nd rfl rfl (by decide) rfl rfl (pa_cons (pe_callB call_len_seq (by rfl) ml PySem.boot_len (pa_cons (pv 2) pa_nil)) (pa_cons (pe_callB call_len_seq (by rfl) ml PySem.boot_len (pa_cons (pe_fld (pv 1) rfl) pa_nil)) pa_nil)) (by rfl)) ?_
    refine blk_cons (ps_for PassesOwn.never rfl (pi_list (pe_lst (pa_cons pe_int (pa_cons pe_int (pa_cons pe_int (pa_cons pe_int pa_nil)))))) (pg_name (i := 5) sc__law_lots_right.nd rfl (.inl rfl))
      (pss_cons (ps_asg (pe_tup (pa_cons (pe_call GL hr (by rfl) gL FL.kp bL .nil pass0 (pa_cons (pv 0) (pa_cons (pv 3) (pa_cons (pv 5) pa_nil)))) (pa_cons (pe_call GL hr (by rfl) gL FL.kp bL .nil pass0 (pa_cons (pv 0) (pa_cons (pv 4) (pa_cons (pv 5) pa_nil)))) pa_nil)))
        (pg_tup rfl (pgs_cons (pg_name (i := 6) sc__law_lots_right.nd rfl (.inr rfl)) (pgs_cons (pg_name (i := 7) sc__law_lots_right.nd rfl (.inr rfl)) pgs_nil))))
      (pss_cons (ps_set (i := 8) sc__law_lots_right.nd rfl (.inl rfl) (pe_callTy call_tuple_of (by rfl) mt (by decide +kernel) (pa_cons (pe_lc (own := [("kind", 10)]) (g := gName 10) rfl sc__law_lots_right.nd (pi_range1 (by rfl) mr (pa_cons (pv 4) pa_nil)) (blkOk_by (own := [("kind", 10)]) (N := n__law_lots_right) (sc := defScope s__law_lots_right) (by decide +kernel))
        (fun _ _ _ _ _ => pg_name (i := 10) sc__law_lots_right.nd rfl (Or.inr rfl)) (fun _ _ _ _ _ => pts_one (pt_val (pe_callB (r := rAny K) (cr_any rfl) (by rfl) ma (by decide +kernel) (pa_cons (pe_lc (own := [("at", 9)]) (wi := iTup K (tVar 6)) (g := gName 9) (tt := tYes) rfl sc__law_lots_right.nd (pi_tup (pv 6)) (blkOk_by (own := [("at", 9)]) (N := n__law_lots_right) (by rfl))
          (fun _ _ _ _ _ => pg_name (i := 9) sc__law_lots_right.nd rfl (Or.inl rfl)) (fun _ _ _ _ _ => pts_nil) (fun _ _ _ _ _ => pe_ix (r := rIxL K) ix_list (pe_ix (r := rIxL K) ix_list (pv 2) (pv 9) (fun _ _ => rfl)) (pv 10) (fun _ _ => rfl))) pa_nil)))) (fun _ _ _ _ _ => pv 10)) pa_nil)))
      (pss_cons (ps_if (PW.pt (pw_or (pt_cmpR op_ne (pe_callB (call_reprF hgd hr.units) (by rfl) mp (by decide +kernel) (pa_cons (pe_call GK hr (by rfl) gK FK.kp bK .nil pass0 (pa_cons (pv 1) (pa_cons (pv 6) pa_nil))) pa_nil)) (pe_callB (call_reprF hgd hr.units) (by rfl) mp (by decide +kernel) (pa_cons (pv 8) pa_nil)) (nomark _))
        (pw_or1 (pt_cmpR (op_neD hr.units) (pe_kwG (E := E0) (gV := List.reverse) (FnG.of GK) hrg (by rfl) gK FK.kp kK (fun _ r => r.reverse) (pk_cons (pv 6) (pk_cons (pv 1) pk_nil))) (pv 8) (nomark _))))) (pss_one (ps_ret pe_bl)) pss_nil)
      (pss_cons (ps_set (i := 8) sc__law_lots_right.nd rfl (.inl rfl) (pe_callTy call_tuple_of (by rfl) mt (by decide +kernel) (pa_cons (pe_lc (own := [("at", 9)]) (g := gName 9) rfl sc__law_lots_right.nd (pi_range1 (by rfl) mr (pa_cons (pv 3) pa_nil)) (blkOk_by (own := [("at", 9)]) (N := n__law_lots_right) (sc := defScope s__law_lots_right) (by decide +kernel))
        (fun _ _ _ _ _ => pg_name (i := 9) sc__law_lots_right.nd rfl (Or.inr rfl)) (fun _ _ _ _ _ => pts_one (pt_val (pe_callB (r := rAny K) (cr_any rfl) (by rfl) ma (by decide +kernel) (pa_cons (pe_lc (own := [("kind", 10)]) (wi := iTup K (tVar 7)) (g := gName 10) (tt := tYes) rfl sc__law_lots_right.nd (pi_tup (pv 7)) (blkOk_by (own := [("kind", 10)]) (N := n__law_lots_right) (by rfl))
          (fun _ _ _ _ _ => pg_name (i := 10) sc__law_lots_right.nd rfl (Or.inl rfl)) (fun _ _ _ _ _ => pts_nil) (fun _ _ _ _ _ => pe_ix (r := rIxL K) ix_list (pe_ix (r := rIxL K) ix_list (pv 2) (pv 9) (fun _ _ => rfl)) (pv 10) (fun _ _ => rfl))) pa_nil)))) (fun _ _ _ _ _ => pv 9)) pa_nil)))
      (pss_one (ps_if (PW.pt (pw_or (pt_cmpR op_ne (pe_callB (call_reprF hgd hr.units) (by rfl) mp (by decide +kernel) (pa_cons (pe_call GO hr (by rfl) gO FO.kp bO .nil pass0 (pa_cons (pv 1) (pa_cons (pv 7) pa_nil))) pa_nil)) (pe_callB (call_reprF hgd hr.units) (by rfl) mp (by decide +kernel) (pa_cons (pv 8) pa_nil)) (nomark _))
        (pw_or1 (pt_cmpR (op_neD hr.units) (pe_kwG (E := E0) (gV := List.reverse) (FnG.of GO) hrg (by rfl) gO FO.kp kO (fun _ r => r.reverse) (pk_cons (pv 7) (pk_cons (pv 1) pk_nil))) (pv 8) (nomark _))))) (pss_one (ps_ret pe_bl)) pss_nil))))))) ?_
    refine blk_cons (ps_ret pe_bl) ?_
    refine blk_nil ?_
    have k8 := ok.k8
    have k1 := ok.k1
    have t12 := ok.t12
    have ltl : (rs.map V.ref).length = t.types.length := by rw [List.length_map, tr.len]
    have lkl : (t.kinds.map V.str).length = t.kinds.length := List.length_map _
    -- many, count
    refine ⟨_, rfl, a, _, rfl, .inl (sqL tr.top), _, rfl, p, C, dx, _, _, rfl, d.obj, T.cl, T.nK, tf_k _ _, pk, _, rfl, .inr (kinds_sq d.kd), _, _, rfl, ?_⟩
    rw [ltl, lkl]
    refine ⟨by show 4 ≤ sizeLine; decide, fun pq npq => ?_⟩
    have nqh : h ≠ pq := ne_of_none hv.top npq
    have nql : l ≠ pq := ne_of_none hv.bot npq
    refine ⟨pq, rfl, ⟨_, sqL upd_same⟩, for_list (xs := [.int 2, .int 3, .int 1, .int 99]) (fun i σ G => But h l H G ∧ (∃ L4 st4, Hv G h l L4 st4) ∧ G pq = some (.lst [.int 2, .int 3, .int 1, .int 99]) ∧ ∃ y5 y6 y7 y8 : Option V, σ = [some (.ref h), some (.ref p), some (.ref a), some (.int (t.types.length : Int)), some (.int (t.kinds.length : Int)), y5, y6, y7, y8, none, none])
      ⟨(But.refl _ _ _).new npq, ⟨_, _, hv.new npq⟩, upd_same, _, _, _, _, rfl⟩ (fun i σ G _ hP => sqL hP.2.2.1) (fun i x σ G hx hP => ?_) (fun σ G hP => ?_)⟩
    · obtain ⟨b1, ⟨L1, st1, hv1⟩, gq1, y5, y6, y7, y8, rfl⟩ := hP
      obtain ⟨sh, rfl, sh0, sh1⟩ : ∃ sh : Int, x = .int sh ∧ 0 < sh ∧ sh < 1000 := by
        match i, hx with
        | 0, hx => cases hx; exact ⟨_, rfl, by decide, by decide⟩
        | 1, hx => cases hx; exact ⟨_, rfl, by decide, by decide⟩
        | 2, hx => cases hx; exact ⟨_, rfl, by decide, by decide⟩
        | 3, hx => cases hx; exact ⟨_, rfl, by decide, by decide⟩
        | _ + 4, hx => simp at hx
      refine ⟨_, rfl, _, rfl, _, rfl, h, l, L1, st1, t.types.length, sh, rfl, hv1, t12, sh0, sh1, fun G2 L2 st2 tq g1 b2 hv2 htq => ?_⟩
      refine ⟨_, rfl, _, rfl, _, rfl, h, l, L2, st2, t.kinds.length, sh, rfl, hv2, by omega, sh0, sh1, fun G3 L3 st3 kq g2 b3 hv3 hkq => ?_⟩
      have htq3 := (KeepT.but hv2 b3).seqT htq
      refine ⟨by show 2 ≤ sizeLine; decide, fun uq nuq => ⟨uq, _, rfl, sqT upd_same, rfl, _, _, rfl, _, _, rfl, rfl, ?_⟩⟩
      have b4 : But h l H (upd G3 uq (.tup [.ref tq, .ref kq])) := (b1.trans (b2.trans b3)).new nuq
      have hv4 := hv3.new (o := .tup [.ref tq, .ref kq]) nuq
      have htq4 := same_seqT (same_new (o := .tup [.ref tq, .ref kq]) nuq) htq3
      have hkq4 := same_seqT (same_new (o := .tup [.ref tq, .ref kq]) nuq) hkq
      have gq4 := (same_new (o := .tup [.ref tq, .ref kq]) nuq) _ _ (b3 _ _ nqh.symm nql.symm (b2 _ _ nqh.symm nql.symm gq1))
      have d4 := d.keep (.but hv b4)
      have tr4 := tr.but b4 na
      generalize upd G3 uq (.tup [.ref tq, .ref kq]) = G4 at b4 hv4 htq4 hkq4 gq4 d4 tr4 ⊢
      have tb : ∀ x ∈ idxF g1 t.types.length, ∃ n : Nat, x = (n : Int) ∧ n < t.types.length := fun x hx => let ⟨n, e, hn, _⟩ := idxF_mem.mp hx; ⟨n, e, hn⟩
      have kb : ∀ x ∈ idxF g2 t.kinds.length, ∃ n : Nat, x = (n : Int) ∧ n < t.kinds.length := fun x hx => let ⟨n, e, hn, _⟩ := idxF_mem.mp hx; ⟨n, e, hn⟩
      have tlen := idxF_len g1 t.types.length
      have klen := idxF_len g2 t.kinds.length
      generalize hts : idxF g1 t.types.length = ts at htq4 tb tlen
      generalize hks : idxF g2 t.kinds.length = ks at hkq4 kb klen
      -- due
      refine ⟨_, rfl, _, rfl, by omega, by omega, fun D nD => lc_range (lo := 0) (fun j J => Same G4 J ∧ J D = some (.lst ((idxF (fun k => ts.any fun a => acc t a.toNat (k : Int)) j).map V.int))) ⟨same_new nD, upd_same⟩ (fun j J hj hQ => ?_) (fun J hQ => ?_)⟩
      · obtain ⟨s2, gD⟩ := hQ
        have hj2 : j < t.kinds.length := by omega
        refine ⟨rfl, ?_⟩
        have ht5 := same_seqT s2 htq4
        refine ⟨_, rfl, tq, rfl, ⟨_, ht5⟩, fun E nE => lc_tup (K := K) (a := tq) (xs := ts.map V.int) (fun i5 J5 => Same J J5 ∧ J5 E = some (.lst (((ts.take i5).map fun a => acc t a.toNat (j : Int)).map V.bl))) ⟨same_new nE, upd_same⟩ (fun i5 J5 _ hQ => same_seqT hQ.1 ht5) (fun i5 y J5 hy hQ => ?_) (fun J5 hQ => ?_)⟩
        · obtain ⟨s3, gE⟩ := hQ
          obtain ⟨a0, ha0, rfl⟩ := map_at hy
          obtain ⟨n, rfl, hn⟩ := tb a0 (List.mem_of_getElem? ha0)
          have hi5 : i5 < ts.length := (List.getElem?_eq_some_iff.mp ha0).1
          obtain ⟨r, e1, e2, e3, e4⟩ := trs_ix (K := K) (tr4.same (s2.trans s3)) hn hj2
          refine ⟨rfl, ?_⟩
          dsimp only [tYes]
          rw [if_pos rfl]
          refine ⟨_, rfl, _, rfl, a, _, _, .ref r, rfl, rfl, e1, atI_nat e2, _, rfl, r, _, _, _, rfl, rfl, e3, at_of (j := j) (by omega) e4, ?_⟩
          refine ⟨_, gE, ?_, fun b o e => ?_, ?_⟩
          · rw [List.length_map, List.length_map, List.length_take]
            exact small1000 (by omega)
          · rw [upd_ne (ne_of_none e nE)]
            exact s3 _ _ e
          · rw [upd_same, List.take_add_one, ha0, List.map_append, List.map_append]
            rfl
        · obtain ⟨s3, gE⟩ := hQ
          rw [List.length_map, List.take_length] at gE
          refine ⟨E, _, rfl, sqL gE, _, rfl, ?_⟩
          have e1 : (ts.map fun a => acc t a.toNat (j : Int)).any id = ts.any fun a => acc t a.toNat (j : Int) := by rw [List.any_map]; rfl
          rw [e1]
          refine ite2 (fun hb => ⟨_, rfl, lc_app (n := t.kinds.length) (by omega) (s2.trans s3) nD (s3 _ _ gD) hj2 hb⟩) (fun hb => ⟨s2.trans s3, ?_⟩)
          rw [idxF_succ, if_neg hb, List.append_nil]
          exact s3 _ _ gD
      · obtain ⟨s2, gD⟩ := hQ
        rw [show ((t.kinds.length : Int)).toNat = t.kinds.length by omega] at gD
        refine ⟨D, _, rfl, .inl ⟨sqL gD, fun q1 n1 => ?_⟩⟩
        have s3 : Same G4 (upd J q1 (.tup ((idxF (fun k => ts.any fun a => acc t a.toNat (k : Int)) t.kinds.length).map V.int))) := s2.trans (same_new n1)
        have hq1 := sqT (K := K) (upd_same (H := J) (a := q1) (o := .tup ((idxF (fun k => ts.any fun a => acc t a.toNat (k : Int)) t.kinds.length).map V.int)))
        generalize upd J q1 (.tup ((idxF (fun k => ts.any fun a => acc t a.toNat (k : Int)) t.kinds.length).map V.int)) = G5 at s3 hq1 ⊢
        have hb5 : ∀ a ∈ ts, 0 ≤ a ∧ a < (t.types.length : Int) := fun a ha => by
          obtain ⟨n, rfl, hn⟩ := tb a ha
          omega
        dsimp only [gName]
        refine if_out false (fun B hB => re_ne_no (noList_tints _) (idx_fd (f := fun k => ts.any fun a => acc t a.toNat (k : Int)) (n := t.kinds.length) (by omega)) (fun Q qq => ?_) (fun G6 s6 Q qq => ⟨_, rfl, qq _ _ (Same.refl _) (dp_tup (same_seqT s6 hq1))⟩) (fun G6 s6 Q qq => ?_) (fun G6 s6 Q qq => ⟨_, rfl, qq _ _ (Same.refl _) (dp_tup (same_seqT s6 hq1))⟩) hB) (fun G6 s6 => ?_)
        · exact ⟨_, rfl, _, rfl, p, dx, pk, pt, tq, t, ts, rfl, d4.same s3, ok, same_seqT s3 htq4, hb5, by omega, fun G7 q7 s7 h7 => qq _ _ s7 (dp_tup h7)⟩
        · exact ⟨_, rfl, _, rfl, rfl, p, dx, pk, pt, tq, t, ts, rfl, d4.same (s3.trans s6), ok, same_seqT (s3.trans s6) htq4, hb5, by omega, fun G7 q7 s7 h7 => qq _ _ s7 (dp_tup h7)⟩
        rw [if_neg (by decide)]
        have s46 := s3.trans s6
        have tr6 := tr4.same s46
        have hkq6 := same_seqT s46 hkq4
        have d6 := d4.same s46
        dsimp only [tNext]
        -- the other due
        refine ⟨_, rfl, _, rfl, by omega, by omega, fun D2 nD2 => lc_range (lo := 0) (fun j J => Same G6 J ∧ J D2 = some (.lst ((idxF (fun a => ks.any fun k => acc t a k) j).map V.int))) ⟨same_new nD2, upd_same⟩ (fun j J hj hQ => ?_) (fun J hQ => ?_)⟩
        · obtain ⟨s7, gD2⟩ := hQ
          have hj2 : j < t.types.length := by omega
          refine ⟨rfl, ?_⟩
          have hk7 := same_seqT s7 hkq6
          refine ⟨_, rfl, kq, rfl, ⟨_, hk7⟩, fun E nE => lc_tup (K := K) (a := kq) (xs := ks.map V.int) (fun i5 J5 => Same J J5 ∧ J5 E = some (.lst (((ks.take i5).map fun k => acc t j k).map V.bl))) ⟨same_new nE, upd_same⟩ (fun i5 J5 _ hQ => same_seqT hQ.1 hk7) (fun i5 y J5 hy hQ => ?_) (fun J5 hQ => ?_)⟩
          · obtain ⟨s8, gE⟩ := hQ
            obtain ⟨a0, ha0, rfl⟩ := map_at hy
            obtain ⟨n, rfl, hn⟩ := kb a0 (List.mem_of_getElem? ha0)
            have hi5 : i5 < ks.length := (List.getElem?_eq_some_iff.mp ha0).1
            obtain ⟨r, e1, e2, e3, e4⟩ := trs_ix (K := K) (tr6.same (s7.trans s8)) hj2 hn
            refine ⟨rfl, ?_⟩
            dsimp only [tYes]
            rw [if_pos rfl]
            refine ⟨_, rfl, _, rfl, a, _, _, .ref r, rfl, rfl, e1, at_of (j := j) (by omega) e2, _, rfl, r, _, _, _, rfl, rfl, e3, atI_nat e4, ?_⟩
            refine ⟨_, gE, ?_, fun b o e => ?_, ?_⟩
            · rw [List.length_map, List.length_map, List.length_take]
              exact small1000 (by omega)
            · rw [upd_ne (ne_of_none e nE)]
              exact s8 _ _ e
            · rw [upd_same, List.take_add_one, ha0, List.map_append, List.map_append]
              rfl
          · obtain ⟨s8, gE⟩ := hQ
            rw [List.length_map, List.take_length] at gE
            refine ⟨E, _, rfl, sqL gE, _, rfl, ?_⟩
            have e1 : (ks.map fun k => acc t j k).any id = ks.any fun k => acc t j k := by rw [List.any_map]; rfl
            rw [e1]
            refine ite2 (fun hb => ⟨_, rfl, lc_app (n := t.types.length) t12 (s7.trans s8) nD2 (s8 _ _ gD2) hj2 hb⟩) (fun hb => ⟨s7.trans s8, ?_⟩)
            rw [idxF_succ, if_neg hb, List.append_nil]
            exact s8 _ _ gD2
        · obtain ⟨s7, gD2⟩ := hQ
          rw [show ((t.types.length : Int)).toNat = t.types.length by omega] at gD2
          refine ⟨D2, _, rfl, .inl ⟨sqL gD2, fun q2 n2 => ?_⟩⟩
          have s8 : Same G6 (upd J q2 (.tup ((idxF (fun a => ks.any fun k => acc t a k) t.types.length).map V.int))) := s7.trans (same_new n2)
          have hq2 := sqT (K := K) (upd_same (H := J) (a := q2) (o := .tup ((idxF (fun a => ks.any fun k => acc t a k) t.types.length).map V.int)))
          generalize upd J q2 (.tup ((idxF (fun a => ks.any fun k => acc t a k) t.types.length).map V.int)) = G8 at s8 hq2 ⊢
          dsimp only [gName]
          refine if_out false (fun B hB => re_ne_no (noList_tints _) (idx_fd (f := fun a => ks.any fun k => acc t a k) t12) (fun Q qq => ?_) (fun G9 s9 Q qq => ⟨_, rfl, qq _ _ (Same.refl _) (dp_tup (same_seqT s9 hq2))⟩) (fun G9 s9 Q qq => ?_) (fun G9 s9 Q qq => ⟨_, rfl, qq _ _ (Same.refl _) (dp_tup (same_seqT s9 hq2))⟩) hB) (fun G9 s9 => ?_)
          · exact ⟨_, rfl, _, rfl, p, dx, pk, pt, kq, t, ks, rfl, d6.same s8, ok, same_seqT s8 hkq6, by omega, fun G7 q7 s7 h7 => qq _ _ s7 (dp_tup h7)⟩
          · exact ⟨_, rfl, _, rfl, rfl, p, dx, pk, pt, kq, t, ks, rfl, d6.same (s8.trans s9), ok, same_seqT (s8.trans s9) hkq6, by omega, fun G7 q7 s7 h7 => qq _ _ s7 (dp_tup h7)⟩
          rw [if_neg (by decide)]
          have s49 := s46.trans (s8.trans s9)
          exact ⟨b4.same s49, ⟨_, _, hv4.same s49⟩, s49 _ _ gq4, _, _, _, _, rfl⟩
    · obtain ⟨b1, ⟨L1, st1, hv1⟩, gq1, y5, y6, y7, y8, rfl⟩ := hP
      exact q _ L1 st1 b1 hv1
end
end K2
namespace Gd
open PySem PySem.Spec PyProof.Rows L2
/-- what is told of the error Refused and its base -/
structure ETx (K : PySem.W.Frag) (mg : Str → Option Value) (CR CD : Addr) : Prop where
  gD : mg "DeskError" = some (.ref CD)
  exr : PySem.W.exmOne K (.ref CR) (.ref CR) = some true
  isD : PySem.W.kitOne K (.ref CR) (.ref CD) = some true
  exC : ExcC K CR
  xf : XfC K CR
end Gd
namespace K2
open PySem PySem.Spec PyProof.Rows L2 Gd
section
variable {P : Program} {w : World} {K : PySem.W.Frag} {mg : Str → Option Value} {base : Heap}
/-! ### _law_heard -/
def GoodT (ks ns : List Str) : Prop := 1 ≤ ks.length ∧ ks.length ≤ 8 ∧ (∀ z ∈ ks, Nm z) ∧ AscS ks ∧ ns.length ≤ 12 ∧ (∀ z ∈ ns, Nm z) ∧ AscS ns
def spHeard (K : PySem.W.Frag) : Sp := fun vs H Q _ => ∃ (pk pt : Addr) (x : V) (ks ns : List Str), vs = [.ref pk, .ref pt, x] ∧ SqT K H pk (ks.map V.str) ∧ SqT K H pt (ns.map V.str) ∧ GoodT ks ns ∧ BadLots K H ks.length ns.length x ∧ ∀ G, Same H G → Q (.str "takers") G
theorem ok_heard {f C CR CD fB fR : Addr} {fd fdB : FuncData} {k : Nat} (F : Fun K "_law_heard" "_law_heard" s__law_heard f fd) (TR : RTxt K mg CR fR) (TE : ETx K mg CR CD) (FB : Fun K "table_by_takers" "table_by_takers" s_table_by_takers fB fdB) (bB : Binds K fdB ["kinds", "types", "lots"] []) (gB : mg "table_by_takers" = some (.ref fB))
    (GB : FnOk P w K mg base (L2.CX P w) k fB fdB ["kinds", "types", "lots"] (spTBT K C CR)) (mI : mg "isinstance" = none) : FnOk P w K mg base CX0 (k + 1) f fd ["kinds", "types", "lots"] (spHeard K) := by
  refine F.ok sc__law_heard (fun vs H Q E h => ?_) (fun cdv A outer s H vs Q E hr h => ?_)
  · obtain ⟨pk, pt, x, ks, ns, rfl, _⟩ := h
    rfl
  · obtain ⟨pk, pt, x, ks, ns, rfl, hk, hn, good, hb, q⟩ := h
    refine blk_cons (ps_try_as (i := 3) rfl rfl sc__law_heard.nd rfl rfl ⟨rfl, by decide, .inl TR.gR⟩ takes0
      (fun W pn xe tk _ => pss_one (ps_expr (pe_callS (E := fun σ => WE W σ) GB hr (by rfl) gB FB.kp bB (fun σ => passAt tk σ) (pa_cons (pv 0) (pa_cons (pv 1) (pa_cons (pv 2) pa_nil))))))
      (fun a oe cls d pn hz hf => pss_one (ps_ret (pe_ifExp (pt_val (pe_callB (call_isE3 TE.exC hz hf) (by rfl) mI (by decide +kernel) (pa_cons (pv 3) (pa_cons (pe_glob (v := .ref CD) (by rfl) TE.gD rfl) pa_nil)))) (pe_xf TE.xf TR.nW hz hf (pv 3)) pe_str)))) ?_
    refine blk_cons (ps_ret pe_str) ?_
    refine blk_nil ?_
    refine ⟨_, rfl, _, rfl, _, rfl, pk, pt, x, ks, ns, rfl, hk, hn, good, .inl ⟨hb, fun d G nd s1 gd => ?_⟩⟩
    refine ⟨true, TE.exr, fun _ a na => ?_, fun z => nomatch z⟩
    refine ⟨_, rfl, rfl, _, _, true, rfl, .own CD, TE.isD, .inr ⟨d, _, rfl, gd, by decide +kernel⟩, _, rfl, iteT ?_⟩
    refine ⟨_, rfl, rfl, rfl, d, _, .str "takers", rfl, gd, by decide +kernel, ?_⟩
    exact q _ s1
end
end K2
namespace Gd
open PySem PySem.Spec PyProof.Rows L2
section
variable {X : Cx} {CX : CXT} {k : Nat} {f : Addr} {fd : FuncData} {ps ks : List Str} {sp : Sp} {E : XK} {x : Str} {p pos : Pos} {e : Expr} {es : List Expr} {kws : List Keyword} {t tk : TA}
/-- f(k = v, ..), f may raise, but not here -/
theorem pe_kwP {g : List Value → List Value} {gV : List V → List V} (F : FnOk X.prog X.w X.K X.mg X.base CX k f fd ps sp) (hr : Room k X.A) (hg : Gl X x) (hm : X.mg x = some (.ref f)) (hk : PySem.W.keepIn X.K (.ref f) = true)
    (hb : KwB fd ps ks g) (hx : Passes CX X E) (hv : ∀ {zs : List V} {ws : List Value}, zs.length = ks.length → Vals zs ws → Vals (gV zs) (g ws)) (hkw : PK X kws tk)
    (h1 : (backToKw pos (keywordEach kws X.env)).all (·.1.isSome) = true := by rfl) (h2 : (backToKw pos (keywordEach kws X.env)).filterMap (·.1) = ks := by rfl) (h3 : (x == ("__debug__" : Str)) = false := by decide)
    (h4 : ((backTo pos (starEach [] X.env)).any (·.1) || (backToKw pos (keywordEach kws X.env)).any (·.1.isNone)) = false := by rfl) :
    PE X (.Call (.Name x p) [] kws pos) (tKw ks.length sp gV E tk) := by
  refine ⟨fun pins s σ H Q I h => wpAny_Call_Name_kw (ld_glob I hg hm (PySem.W.callWith_KW0 (h₀ := X.base) I.ok.mod.kin hk h1 ?_ h4) h3)⟩
  refine thn (hkw.run pos pins s σ H _ I h) fun ws s2 ⟨zs, H2, I2, rz, l, q⟩ => ⟨I2.kIn, ?_⟩
  rw [h2]
  have r2 := hv l rz
  refine wpAny_call (codeAny_mono (F.run X.A X.stack s2 H2 ⟨[], ks.zip ws⟩ (g ws) (gV zs) Q E hr I2.env0 (hb s2 ws (rz.length.symm.trans l)) r2 q) fun r s' hq => ?_)
  cases r with
  | error e => exact hx pins σ H2 s2 e s' I2 hq
  | ok fl =>
    cases fl with
    | ret u => exact I2.after hq
    | next => exact False.elim hq
    | brk => exact False.elim hq
    | cont => exact False.elim hq
end
theorem cat_to {K : PySem.W.Frag} {H : Hp} {a b : Addr} {xs ys : List V} {Q : VK} (ha : SqT K H a xs) (hb : SqT K H b ys) (hl : xs.length + ys.length ≤ 5000) (q : ∀ G r, Same H G → SqT K G r (xs ++ ys) → Q (.ref r) G) : rCatA K (.ref a) (.ref b) H Q := by
  refine ⟨a, b, xs, ys, rfl, rfl, ha, hb, by rw [sizeLine_eq]; omega, fun e => ?_, fun _ e => ?_, fun _ _ p np => q _ p (same_new np) (sqT upd_same)⟩
  · subst e
    exact q H b (Same.refl _) hb
  · subst e
    exact q H a (Same.refl _) (by rw [List.append_nil]; exact ha)
theorem slA_to {K : PySem.W.Frag} {H : Hp} {a : Addr} {xs : List V} {lo hi : Option Int} {Q : VK} (ha : SqT K H a xs) (q : ∀ G r, Same H G → SqT K G r (cutV xs lo hi) → Q (.ref r) G) : rSlA K (.ref a) lo hi H Q := by
  refine ⟨a, xs, rfl, ha, fun ⟨e1, e2⟩ => ?_, fun _ p np => q _ p (same_new np) (sqT upd_same)⟩
  refine q H a (Same.refl _) ?_
  have e : cutV xs lo hi = xs := by
    unfold cutV
    rw [e1, e2, List.drop_zero, Nat.sub_zero, List.take_of_length_le (Nat.le_refl _)]
  rw [e]
  exact ha
theorem cut_to {xs : List V} {n : Nat} (h : n ≤ xs.length) : cutV xs none (some (n : Int)) = xs.take n := by
  unfold cutV
  rw [HT.sIx_none, HT.sIx_nat, List.drop_zero, Nat.sub_zero, Nat.min_eq_left h]
theorem cut_from {xs : List V} {n : Nat} (h : n ≤ xs.length) : cutV xs (some (n : Int)) none = xs.drop n := by
  unfold cutV
  rw [HT.sIx_none, HT.sIx_nat, Nat.min_eq_left h, List.take_of_length_le (by rw [List.length_drop]; exact Nat.le_refl _)]
/-- a value that is no lot of takers, whatever is drawn -/
def Ov (K : PySem.W.Frag) (h l : Addr) (H : Hp) (m : Int) (x : V) : Prop := ∀ G, But h l H G → TakV K G m x false
theorem Ov.mono {K : PySem.W.Frag} {h l : Addr} {H G : Hp} {m : Int} {x : V} (d : Ov K h l H m x) (b : But h l H G) : Ov K h l G m x := fun J c => d J (b.trans c)
theorem ov_non {K : PySem.W.Frag} {h l : Addr} {H : Hp} {m : Int} : Ov K h l H m .non := fun G b => .inl ⟨.inl ⟨"NoneType", TyN.non, by decide +kernel, rfl⟩, rfl⟩
theorem ov_int {K : PySem.W.Frag} {h l : Addr} {H : Hp} {m i : Int} : Ov K h l H m (.int i) := fun G b => .inl ⟨.inl ⟨"int", TyN.int i, by decide +kernel, rfl⟩, rfl⟩
theorem ov_lst {K : PySem.W.Frag} {h l : Addr} {H : Hp} {m : Int} {p : Addr} {xs : List V} (e : H p = some (.lst xs)) (n1 : p ≠ h) (n2 : p ≠ l) : Ov K h l H m (.ref p) := fun G b => .inl ⟨.inl ⟨"list", .base (.lst (b _ _ n1 n2 e)), by decide +kernel, rfl⟩, rfl⟩
theorem ov_lstN {K : PySem.W.Frag} {h l : Addr} {H : Hp} {L : List Int} {st : Int} {m : Int} {p : Addr} {xs : List V} (v : Hv H h l L st) (n : H p = none) : Ov K h l (upd H p (.lst xs)) m (.ref p) := ov_lst upd_same (ne_of_none v.top n).symm (ne_of_none v.bot n).symm
theorem ov_tup {K : PySem.W.Frag} {h l : Addr} {H : Hp} {L : List Int} {st : Int} {m : Int} {p : Addr} {xs : List V} {bs : List Bool} (v : Hv H h l L st) (e : SqT K H p xs) (hl : xs.length ≤ 1000) (hb : ∀ G, NumVs K G m xs bs) (z : bs.all id = false) : Ov K h l H m (.ref p) := fun G b =>
  .inl ⟨.inr ⟨p, xs, bs, rfl, (KeepT.but v b).seqT e, hl, hb G, z.symm⟩, rfl⟩
theorem ov_dup {K : PySem.W.Frag} {h l : Addr} {H : Hp} {L : List Int} {st : Int} {m : Int} {p : Addr} {ns : List Int} (v : Hv H h l L st) (e : SqT K H p (ns.map V.int)) (hl : ns.length ≤ 1000) (hb : ∀ n ∈ ns, 0 ≤ n ∧ n < m) (z : ¬ ns.Nodup) : Ov K h l H m (.ref p) := fun G b =>
  .inr ⟨p, ns, rfl, (KeepT.but v b).seqT e, hb, hl, (decide_eq_false z).symm⟩
/-- a value that is no lots -/
def Bw (K : PySem.W.Frag) (h l : Addr) (H : Hp) (kk m : Nat) (x : V) : Prop := ∀ G, But h l H G → BadLots K G kk m x
theorem Bw.mono {K : PySem.W.Frag} {h l : Addr} {H G : Hp} {kk m : Nat} {x : V} (d : Bw K h l H kk m x) (b : But h l H G) : Bw K h l G kk m x := fun J c => d J (b.trans c)
theorem bw_non {K : PySem.W.Frag} {h l : Addr} {H : Hp} {kk m : Nat} : Bw K h l H kk m .non := fun G b => .inl ⟨"NoneType", TyN.non, by decide +kernel⟩
theorem bw_int {K : PySem.W.Frag} {h l : Addr} {H : Hp} {kk m : Nat} {i : Int} : Bw K h l H kk m (.int i) := fun G b => .inl ⟨"int", TyN.int i, by decide +kernel⟩
theorem bw_lst {K : PySem.W.Frag} {h l : Addr} {H : Hp} {kk m : Nat} {p : Addr} {xs : List V} (e : H p = some (.lst xs)) (n1 : p ≠ h) (n2 : p ≠ l) : Bw K h l H kk m (.ref p) := fun G b => .inl ⟨"list", .base (.lst (b _ _ n1 n2 e)), by decide +kernel⟩
theorem bw_lstN {K : PySem.W.Frag} {h l : Addr} {H : Hp} {L : List Int} {st : Int} {kk m : Nat} {p : Addr} {xs : List V} (v : Hv H h l L st) (n : H p = none) : Bw K h l (upd H p (.lst xs)) kk m (.ref p) := bw_lst upd_same (ne_of_none v.top n).symm (ne_of_none v.bot n).symm
theorem bw_dict {K : PySem.W.Frag} {h l : Addr} {H : Hp} {kk m : Nat} {p : Addr} {xs : List (Key × V)} (e : H p = some (.dK xs)) (n1 : p ≠ h) (n2 : p ≠ l) : Bw K h l H kk m (.ref p) := fun G b => .inl ⟨"dict", .base (.dK (b _ _ n1 n2 e)), by decide +kernel⟩
theorem bw_dictN {K : PySem.W.Frag} {h l : Addr} {H : Hp} {L : List Int} {st : Int} {kk m : Nat} {p : Addr} {xs : List (Key × V)} (v : Hv H h l L st) (n : H p = none) : Bw K h l (upd H p (.dK xs)) kk m (.ref p) := bw_dict upd_same (ne_of_none v.top n).symm (ne_of_none v.bot n).symm
theorem bw_len {K : PySem.W.Frag} {h l : Addr} {H : Hp} {L : List Int} {st : Int} {kk m : Nat} {p : Addr} {xs : List V} (v : Hv H h l L st) (e : SqT K H p xs) (h1 : xs.length ≤ 1000) (h2 : xs.length ≠ kk) : Bw K h l H kk m (.ref p) := fun G b =>
  .inr (.inl ⟨p, xs, rfl, (KeepT.but v b).seqT e, h1, h2⟩)
theorem paired_take {α β : Type} {R : α → β → Prop} : ∀ {xs : List α} {ys : List β} (n : Nat), Paired R xs ys → Paired R (xs.take n) (ys.take n)
  | _, _, 0, _ => .nil
  | _, _, n + 1, .nil => .nil
  | _, _, n + 1, .cons a t => .cons a (paired_take n t)
theorem paired_drop {α β : Type} {R : α → β → Prop} : ∀ {xs : List α} {ys : List β} (n : Nat), Paired R xs ys → Paired R (xs.drop n) (ys.drop n)
  | _, _, 0, h => h
  | _, _, n + 1, .nil => .nil
  | _, _, n + 1, .cons a t => paired_drop n t
theorem paired_app {α β : Type} {R : α → β → Prop} : ∀ {xs : List α} {ys : List β} {us : List α} {ws : List β}, Paired R xs ys → Paired R us ws → Paired R (xs ++ us) (ys ++ ws)
  | _, _, _, _, .nil, h => h
  | _, _, _, _, .cons a t, h => .cons a (paired_app t h)
/-- lots with one that is none in the place of another one -/
theorem bw_odd {K : PySem.W.Frag} {h l : Addr} {H : Hp} {L : List Int} {st : Int} {m a : Nat} {p : Addr} {us : List V} {lots : List (List Int)} {x : V} (v : Hv H h l L st) (e : SqT K H p (us.take a ++ x :: us.drop (a + 1))) (hd : DpAll K H us (lots.map rowD)) (ha : a < us.length)
    (hl : ∀ l ∈ lots, l.Nodup ∧ l.length ≤ 1000 ∧ ∀ n ∈ l, 0 ≤ n ∧ n < (m : Int)) (o : Ov K h l H (m : Int) x) : Bw K h l H us.length m (.ref p) := fun G b => by
  have kt := KeepT.but v b
  have hd2 := dpAll_keep kt _ _ (noListAll_mem fun d hd => by
    obtain ⟨x, _, rfl⟩ := List.mem_map.mp hd
    rw [rowD, noList]
    exact noList_intsD x) hd
  have pr := good_tak hd2 hl
  refine .inr (.inr ⟨p, _, ((lots.map fun _ => true).take a) ++ false :: ((lots.map fun _ => true).drop (a + 1)), rfl, kt.seqT e, ?_, paired_app (paired_take a pr) (.cons (o G b) (paired_drop (a + 1) pr)), ?_⟩)
  · rw [List.length_append, List.length_cons, List.length_take, List.length_drop]
    omega
  · rw [List.all_append, List.all_cons]
    show (_ && (false && _)) = false
    rw [Bool.false_and, Bool.and_false]
theorem numVs_ints {K : PySem.W.Frag} {G : Hp} {m : Int} : ∀ {ns : List Int}, (∀ n ∈ ns, 0 ≤ n ∧ n < m) → NumVs K G m (ns.map V.int) (ns.map fun _ => true)
  | [], _ => .nil
  | n :: r, h => .cons (numV_of (h n List.mem_cons_self)) (numVs_ints fun x hx => h x (List.mem_cons_of_mem _ hx))
theorem numVs_snoc {K : PySem.W.Frag} {G : Hp} {m : Int} {ns : List Int} {x : V} (h : ∀ n ∈ ns, 0 ≤ n ∧ n < m) (hx : NumV K G m x false) : NumVs K G m (ns.map V.int ++ [x]) ((ns.map fun _ => true) ++ [false]) := paired_app (numVs_ints h) (.cons hx .nil)
theorem all_snoc_false (bs : List Bool) : (bs ++ [false]).all id = false := by
  rw [List.all_append]
  show (_ && (false && true)) = false
  rw [Bool.false_and, Bool.and_false]
theorem perm_pop {L M : List Int} {k : Nat} {y : Int} (h : L[k]? = some y) : (L.eraseIdx k ++ (M ++ [y])).Perm (L ++ M) := by
  obtain ⟨hk, e⟩ := List.getElem?_eq_some_iff.mp h
  have p1 : (y :: L.eraseIdx k).Perm L := by
    have e2 : L = L.take k ++ y :: L.drop (k + 1) := by
      rw [← e, ← List.drop_eq_getElem_cons hk, List.take_append_drop]
    rw [List.eraseIdx_eq_take_drop_succ]
    refine List.Perm.trans ?_ (List.Perm.of_eq e2.symm)
    exact List.perm_middle.symm
  have p2 : (L.eraseIdx k ++ (M ++ [y])).Perm (y :: (L.eraseIdx k ++ M)) := by
    rw [← List.append_assoc]
    exact List.perm_append_singleton _ _
  exact p2.trans (p1.append_right M)
theorem erase_map (l : List Int) (k : Nat) : (l.map V.int).eraseIdx k = (l.eraseIdx k).map V.int := by
  rw [List.eraseIdx_eq_take_drop_succ, List.eraseIdx_eq_take_drop_succ, List.map_append, List.map_take, List.map_drop]
/-- the table that mixed takers make is the table -/
theorem byTakers_same {t : TD} (ok : TOk t) {lots : List (List Int)} (hl : lots.length = t.kinds.length) (hp : ∀ (k : Nat) (lk : List Int), lots[k]? = some lk → lk.Perm (takersL t (k : Int))) : byTakers t.kinds (t.types.map (·.1)) lots = t := by
  obtain ⟨ks, ts⟩ := t
  have e : (byTakers ks (ts.map (·.1)) lots).types = ts := by
    unfold byTakers
    refine List.ext_getElem? fun r => ?_
    rw [List.getElem?_map]
    by_cases h : r < ts.length
    · rw [List.getElem?_range (by rw [List.length_map]; exact h)]
      have hc : (⟨ks, ts⟩ : TD).types[r]? = some ts[r] := List.getElem?_eq_getElem h
      have e1 := lot_eq ok hc
      show some ((ts.map (·.1)).getD r Str.empty, _) = ts[r]?
      rw [List.getElem?_eq_getElem h]
      have e2 : (ts.map (·.1)).getD r Str.empty = ts[r].1 := by
        rw [List.getD_eq_getElem?_getD, List.getElem?_map, List.getElem?_eq_getElem h]
        rfl
      rw [e2]
      have e3 : idxF (fun k => decide ((r : Int) ∈ lots.getD k [])) lots.length = ts[r].2 := by
        rw [e1, hl]
        refine idxF_congr fun k hk => ?_
        have hk2 : k < lots.length := by rw [hl]; exact hk
        have hg : lots.getD k [] = lots[k] := by rw [List.getD_eq_getElem?_getD, List.getElem?_eq_getElem hk2]; rfl
        have pm := hp k lots[k] (List.getElem?_eq_getElem hk2)
        rw [hg]
        have iff : (r : Int) ∈ lots[k] ↔ acc ⟨ks, ts⟩ r (k : Int) = true := by
          rw [pm.mem_iff, takersL_eq, idxF_mem]
          constructor
          · rintro ⟨i, ei, _, ha⟩
            have : i = r := by omega
            exact this ▸ ha
          · intro ha
            exact ⟨r, rfl, h, ha⟩
        cases ha : acc ⟨ks, ts⟩ r (k : Int) with
        | true => exact decide_eq_true (iff.mpr ha)
        | false => exact decide_eq_false fun z => by rw [iff.mp z] at ha; cases ha
      rw [e3]
    · rw [List.getElem?_eq_none (by rw [List.length_range, List.length_map]; omega), List.getElem?_eq_none (by omega)]
      rfl
  show TD.mk ks (byTakers ks (ts.map (·.1)) lots).types = TD.mk ks ts
  rw [e]
end Gd
namespace K2
open PySem PySem.Spec PyProof.Rows L2 Gd
section
variable {P : Program} {w : World} {K : PySem.W.Frag} {mg : Str → Option Value} {base : Heap}
/-! ### _law_takers_right -/
theorem ok_ltakers {f C CR fD fP fN fB fH fQ : Addr} {fd fdD fdP fdN fdB fdH fdQ : FuncData} {k : Nat} (F : Fun K "_law_takers_right" "_law_takers_right" s__law_takers_right f fd) (T : TTxt K mg C)
    (FD : Fun K "_law_draw" "_law_draw" s__law_draw fD fdD) (FP : Fun K "_law_pick" "_law_pick" s__law_pick fP fdP) (FN : Fun K "type_names" "type_names" s_type_names fN fdN) (FB : Fun K "table_by_takers" "table_by_takers" s_table_by_takers fB fdB) (FH : Fun K "_law_heard" "_law_heard" s__law_heard fH fdH)
    (bD : Binds K fdD ["heap", "many"] []) (bP : Binds K fdP ["heap", "some"] []) (bN : Binds K fdN ["table"] []) (bB : Binds K fdB ["kinds", "types", "lots"] []) (bH : Binds K fdH ["kinds", "types", "lots"] []) (bQ : Binds K fdQ ["self", "other"] [])
    (kB : KwB fdB ["kinds", "types", "lots"] ["lots", "types", "kinds"] List.reverse)
    (gD : mg "_law_draw" = some (.ref fD)) (gP : mg "_law_pick" = some (.ref fP)) (gN : mg "type_names" = some (.ref fN)) (gB : mg "table_by_takers" = some (.ref fB)) (gH : mg "_law_heard" = some (.ref fH))
    (hQ : PySem.W.findIn K (.ref C) "__eq__" = some (some (.ref fQ))) (iQ : PySem.W.isFn K (.ref fQ) = true)
    (GD : FnOk P w K mg base CX0 k fD fdD ["heap", "many"] spDraw) (GP : FnOk P w K mg base CX0 k fP fdP ["heap", "some"] (spPick K)) (GN : FnOk P w K mg base CX0 k fN fdN ["table"] (spTNames K C)) (GB : FnOk P w K mg base (L2.CX P w) k fB fdB ["kinds", "types", "lots"] (spTBT K C CR))
    (GH : FnOk P w K mg base CX0 k fH fdH ["kinds", "types", "lots"] (spHeard K)) (GQ : FnOk P w K mg base CX0 k fQ fdQ ["self", "other"] (spEq (REq K C)))
    (ml : mg "len" = none) (mr : mg "range" = none) (mt : mg "tuple" = none) (mL : mg "list" = none) :
    FnOk P w K mg base CX0 (k + 1) f fd ["heap", "table", "truths"] (spLots K C) := by
  refine F.ok sc__law_takers_right (fun vs H Q E h => ?_) (fun cdv A outer s H vs Q E hr h => ?_)
  · obtain ⟨h, l, L, st, p, dx, pk, pt, a, rs, t, rfl, _⟩ := h
    rfl
  · obtain ⟨h, l, L, st, p, dx, pk, pt, a, rs, t, rfl, hv, d, ok, tr, na, q⟩ := h
    refine blk_cons (ps_par (i := 3) (j := 4) rfl sc__law_takers_right.nd rfl rfl (by decide) rfl rfl (pa_cons (pe_callB call_len_seq (by rfl) ml PySem.boot_len (pa_cons (pv 2) pa_nil)) (pa_cons (pe_lst pa_nil) pa_nil)) (by rfl)) ?_
    refine blk_cons (ps_for PassesOwn.never rfl (pi_range1 (by rfl) mr (pa_cons (pe_callB call_len_seq (by rfl) ml PySem.boot_len (pa_cons (pe_fld (pv 1) rfl) pa_nil)) pa_nil)) (pg_name (i := 5) sc__law_takers_right.nd rfl (.inr rfl))
      (pss_cons (ps_par (i := 7) (j := 8) rfl sc__law_takers_right.nd rfl rfl (by decide) rfl rfl (pa_cons (pe_lc (own := [("at", 6)]) (g := gName 6) rfl sc__law_takers_right.nd (pi_range1 (by rfl) mr (pa_cons (pv 3) pa_nil)) (blkOk_by (own := [("at", 6)]) (N := n__law_takers_right) (sc := defScope s__law_takers_right) (by decide +kernel))
          (fun _ _ _ _ _ => pg_name (i := 6) sc__law_takers_right.nd rfl (Or.inl rfl)) (fun _ _ _ _ _ => pts_one (pt_val (pe_ix (r := rIxL K) ix_list (pe_ix (r := rIxL K) ix_list (pv 2) (pv 6) (fun _ _ => rfl)) (pv 5) (fun _ _ => rfl)))) (fun _ _ _ _ _ => pv 6)) (pa_cons (pe_lst pa_nil) pa_nil)) (by rfl))
      (pss_cons (ps_for PassesOwn.never rfl (pi_range1 (by rfl) mr (pa_cons (pe_callB call_len_seq (by rfl) ml PySem.boot_len (pa_cons (pv 7) pa_nil)) pa_nil)) (pg_name (i := 9) sc__law_takers_right.nd rfl (.inl rfl))
        (pss_one (ps_expr (pe_bm PySem.F.plainAttrs_list PySem.F.slot_list_append PySem.F.type_list_append mt_append (pv 8) (pa_cons (pe_bm PySem.F.plainAttrs_list PySem.F.slot_list_pop PySem.F.type_list_pop mt_popAt (pv 7) (pa_cons (pe_call GD hr (by rfl) gD FD.kp bD .nil pass0 (pa_cons (pv 0) (pa_cons (pe_callB call_len_seq (by rfl) ml PySem.boot_len (pa_cons (pv 7) pa_nil)) pa_nil))) pa_nil)) pa_nil)))))
      (pss_one (ps_expr (pe_bm PySem.F.plainAttrs_list PySem.F.slot_list_append PySem.F.type_list_append mt_append (pv 4) (pa_cons (pe_callTy call_tuple_of (by rfl) mt (by decide +kernel) (pa_cons (pv 8) pa_nil)) pa_nil))))))) ?_
    refine blk_cons (ps_par (i := 10) (j := 11) rfl sc__law_takers_right.nd rfl rfl (by decide) rfl rfl (pa_cons (pe_call GN hr (by rfl) gN FN.kp bN .nil pass0 (pa_cons (pv 1) pa_nil)) (pa_cons (pe_callTy call_tuple_of (by rfl) mt (by decide +kernel) (pa_cons (pv 4) pa_nil)) pa_nil)) (by rfl)) ?_
    refine blk_cons (ps_if (PW.pt (pw_or (pt_not (pt_cmpR (op_eqG (rcG_ins (E := E0) GQ hQ iQ bQ pass0) hr) (pe_call GB hr (by rfl) gB FB.kp bB .nil passL (pa_cons (pe_fld (pv 1) rfl) (pa_cons (pv 10) (pa_cons (pv 11) pa_nil)))) (pv 1) (nomark _)))
      (pw_or1 (pt_not (pt_cmpR (op_eqG (rcG_ins (E := E0) GQ hQ iQ bQ pass0) hr) (pe_kwP (E := E0) (gV := List.reverse) GB hr (by rfl) gB FB.kp kB passL (fun _ r => r.reverse) (pk_cons (pv 11) (pk_cons (pv 10) (pk_cons (pe_fld (pv 1) rfl) pk_nil)))) (pv 1) (nomark _)))))) (pss_one (ps_ret pe_bl)) pss_nil) ?_
    refine blk_cons (ps_set (i := 6) sc__law_takers_right.nd rfl (.inl rfl) (pe_call GD hr (by rfl) gD FD.kp bD .nil pass0 (pa_cons (pv 0) (pa_cons (pe_callB call_len_seq (by rfl) ml PySem.boot_len (pa_cons (pv 4) pa_nil)) pa_nil)))) ?_
    refine blk_cons (ps_set (i := 12) sc__law_takers_right.nd rfl (.inl rfl) (pe_call GP hr (by rfl) gP FP.kp bP .nil pass0 (pa_cons (pv 0) (pa_cons (pe_lst (pa_cons pe_non (pa_cons (pe_callTy call_list_of (by rfl) mL (by decide +kernel) (pa_cons (pe_ix (r := rIxT K) ix_tup (pv 11) (pv 6) (fun _ _ => rfl)) pa_nil))
      (pa_cons (pe_op (r := rCatA K) op_catA (pe_ix (r := rIxT K) ix_tup (pv 11) (pv 6) (fun _ _ => rfl)) (pe_tup (pa_cons (pv 3) pa_nil))) (pa_cons (pe_tup (pa_cons (pe_op op_sub pe_int pe_int) pa_nil)) (pa_cons (pe_tup (pa_cons pe_bl pa_nil)) (pa_cons (pe_tup (pa_cons pe_str pa_nil)) (pa_cons pe_int (pa_cons (pe_lst (pa_cons pe_int pa_nil))
      (pa_cons (pe_op (r := rCatA K) op_catA (pe_ix (r := rIxT K) ix_tup (pv 11) (pv 6) (fun _ _ => rfl)) (pe_tup (pa_cons pe_non pa_nil))) pa_nil)))))))))) pa_nil)))) ?_
    refine blk_cons (ps_set (i := 12) sc__law_takers_right.nd rfl (.inl rfl) (pe_ifExp (PW.pt (pw_and (pt_cmpR (op_neD hr.units) (pe_ix (r := rIxT K) ix_tup (pv 11) (pv 6) (fun _ _ => rfl)) (pe_tup pa_nil) (nomark _)) (pw_and1 (pt_cmpR op_eq (pe_call GD hr (by rfl) gD FD.kp bD .nil pass0 (pa_cons (pv 0) (pa_cons pe_int pa_nil))) pe_int (nomark _)))))
      (pe_op (r := rCatA K) op_catA (pe_ix (r := rIxT K) ix_tup (pv 11) (pv 6) (fun _ _ => rfl)) (pe_slice (r := rSlA K) sl_tupA (pe_ix (r := rIxT K) ix_tup (pv 11) (pv 6) (fun _ _ => rfl)) po_none (po_some pe_int))) (pv 12))) ?_
    refine blk_cons (ps_set (i := 13) sc__law_takers_right.nd rfl (.inl rfl) (pe_op op_cat (pe_op op_rep (pe_lst (pa_cons (pe_op (r := rCatA K) op_catA (pe_op (r := rCatA K) op_catA (pe_slice (r := rSlA K) sl_tupA (pv 11) po_none (po_some (pv 6))) (pe_tup (pa_cons (pv 12) pa_nil))) (pe_slice (r := rSlA K) sl_tupA (pv 11) (po_some (pe_op op_add (pv 6) pe_int)) po_none)) pa_nil)) pe_int)
      (pe_lst (pa_cons (pe_slice (r := rSlA K) sl_tupA (pv 11) po_none (po_some (pe_un un_neg pe_int))) (pa_cons (pe_op (r := rCatA K) op_catA (pv 11) (pe_tup (pa_cons (pe_tup pa_nil) pa_nil))) (pa_cons (pe_callTy call_list_of (by rfl) mL (by decide +kernel) (pa_cons (pv 11) pa_nil)) (pa_cons pe_non (pa_cons pe_int (pa_cons pe_dnewK pa_nil))))))))) ?_
    refine blk_cons (ps_ret (pe_cmpR op_eq (pe_call GH hr (by rfl) gH FH.kp bH .nil pass0 (pa_cons (pe_fld (pv 1) rfl) (pa_cons (pv 10) (pa_cons (pe_call GP hr (by rfl) gP FP.kp bP .nil pass0 (pa_cons (pv 0) (pa_cons (pv 13) pa_nil))) pa_nil)))) pe_str (nomark _))) ?_
    refine blk_nil ?_
    have k8 := ok.k8
    have k1 := ok.k1
    have t12 := ok.t12
    have ltl : (rs.map V.ref).length = t.types.length := by rw [List.length_map, tr.len]
    have lkl : (t.kinds.map V.str).length = t.kinds.length := List.length_map _
    -- many, lots
    refine ⟨_, rfl, a, _, rfl, .inl (sqL tr.top), Nat.zero_le _, fun R nR => ⟨_, _, rfl, ?_⟩⟩
    rw [ltl]
    have nRh : h ≠ R := ne_of_none hv.top nR
    have nRl : l ≠ R := ne_of_none hv.bot nR
    have hv0 := hv.new (o := .lst []) nR
    have b0 : But h l H _ := (But.refl h l H).new (o := .lst []) nR
    have gR0 := upd_same (H := H) (a := R) (o := .lst [])
    generalize upd H R (.lst []) = G0 at hv0 b0 gR0 ⊢
    have d0 := d.keep (.but hv b0)
    dsimp only [gName]
    refine seq_out (t := tFor _ _ _) (fun σ' G' => But h l H G' ∧ (∃ L' st', Hv G' h l L' st') ∧ ∃ (vs : List V) (ls : List (List Int)) (y5 y7 y8 y9 : Option V), σ' = [some (.ref h), some (.ref p), some (.ref a), some (.int (t.types.length : Int)), some (.ref R), y5, none, y7, y8, y9, none, none, none, none] ∧
      G' R = some (.lst vs) ∧ DpAll K G' vs (ls.map rowD) ∧ ls.length = t.kinds.length ∧ ∀ (k : Nat) (lk : List Int), ls[k]? = some lk → lk.Perm (takersL t (k : Int))) (fun N hN => ?_) (fun σ' G1 hR => ?_)
    · refine ⟨_, rfl, p, C, dx, _, _, rfl, d0.obj, T.cl, T.nK, tf_k _ _, pk, _, rfl, .inr (kinds_sq d0.kd), _, rfl, by omega, by rw [List.length_map]; omega, for_range (lo := 0) (fun i σ G => But h l H G ∧ (∃ L' st', Hv G h l L' st') ∧ ∃ (vs : List V) (ls : List (List Int)) (y5 y7 y8 y9 : Option V), σ = [some (.ref h), some (.ref p), some (.ref a), some (.int (t.types.length : Int)), some (.ref R), y5, none, y7, y8, y9, none, none, none, none] ∧
        G R = some (.lst vs) ∧ DpAll K G vs (ls.map rowD) ∧ ls.length = i ∧ ∀ (k : Nat) (lk : List Int), ls[k]? = some lk → lk.Perm (takersL t (k : Int)))
        ⟨b0, ⟨_, _, hv0⟩, [], [], none, none, none, none, rfl, gR0, .nil, rfl, fun k lk e => by simp at e⟩ (fun i σ G hi hP => ?_) (fun σ G hP => ?_)⟩
      · obtain ⟨b1, ⟨L1, st1, hv1⟩, vs, ls, y5, y7, y8, y9, rfl, gR, hds, hll, hlp⟩ := hP
        rw [List.length_map] at hi
        have hi2 : i < t.kinds.length := by omega
        have tr1 := tr.but b1 na
        have nlr : noListAll (ls.map rowD) = true := noListAll_mem fun d hd => by
          obtain ⟨x, _, rfl⟩ := List.mem_map.mp hd
          rw [rowD, noList]
          exact noList_intsD x
        have lvs : vs.length = ls.length := by rw [dpAll_len hds, List.length_map]
        -- left, mixed
        refine ⟨_, rfl, _, rfl, by omega, by omega, fun D nD => lc_range (lo := 0) (fun j J => Same G J ∧ J D = some (.lst ((idxF (fun b => acc t b (i : Int)) j).map V.int))) ⟨same_new nD, upd_same⟩ (fun j J hj hQ => ?_) (fun J hQ => ?_)⟩
        · obtain ⟨s2, gD⟩ := hQ
          have hj2 : j < t.types.length := by omega
          obtain ⟨r, e1, e2, e3, e4⟩ := trs_ix (K := K) (tr1.same s2) hj2 hi2
          refine ⟨rfl, _, rfl, _, rfl, a, _, _, .ref r, rfl, rfl, e1, at_of (j := j) (by omega) e2, _, rfl, r, _, _, _, rfl, rfl, e3, at_of (j := i) (by omega) e4, _, rfl, ite2 (fun hb => ?_) (fun hb => ⟨s2, ?_⟩)⟩
          · exact ⟨_, rfl, lc_app (g := fun b => acc t b (i : Int)) (n := t.types.length) t12 s2 nD gD hj2 hb⟩
          · rw [idxF_succ, if_neg hb, List.append_nil]
            exact gD
        · obtain ⟨s2, gD⟩ := hQ
          rw [show ((t.types.length : Int)).toNat = t.types.length by omega, ← takersL_eq] at gD
          refine ⟨Nat.zero_le _, fun M nM => ⟨_, _, rfl, ?_⟩⟩
          have olen : (takersL t (i : Int)).length ≤ 12 := Nat.le_trans (idxF_len _ _) t12
          generalize hor : takersL t (i : Int) = orig at gD olen
          have s3 : Same G (upd J M (.lst [])) := s2.trans (same_new nM)
          have gM3 := upd_same (H := J) (a := M) (o := .lst [])
          have gD3 := (same_new (o := .lst []) nM) _ _ gD
          have nDh : h ≠ D := ne_of_none hv1.top nD
          have nDl : l ≠ D := ne_of_none hv1.bot nD
          have nDR : R ≠ D := ne_of_none gR nD
          have nMh : h ≠ M := ne_of_none (s2 _ _ hv1.top) nM
          have nMl : l ≠ M := ne_of_none (s2 _ _ hv1.bot) nM
          have nMR : R ≠ M := ne_of_none (s2 _ _ gR) nM
          have nMD : D ≠ M := ne_of_none gD nM
          have fD : H D = none := fresh_of (o := .lst []) b1 nDh.symm nDl.symm nD
          have fM : H M = none := fresh_of (o := .lst []) (b1.same s2) nMh.symm nMl.symm nM
          generalize upd J M (.lst []) = G3 at s3 gM3 gD3 ⊢
          have b3 := b1.same s3
          have hv3 := hv1.same s3
          have gR3 := s3 _ _ gR
          have hds3 := dpAll_same s3 _ _ hds
          clear s2 gD nM
          dsimp only [gName]
          refine seq_out (t := tFor _ _ _) (fun σ' G' => But h l H G' ∧ (∃ L' st', Hv G' h l L' st') ∧ ∃ (Ms : List Int) (y9 : Option V), σ' = [some (.ref h), some (.ref p), some (.ref a), some (.int (t.types.length : Int)), some (.ref R), some (.int (0 + (i : Int))), none, some (.ref D), some (.ref M), y9, none, none, none, none] ∧
            G' R = some (.lst vs) ∧ DpAll K G' vs (ls.map rowD) ∧ G' M = some (.lst (Ms.map V.int)) ∧ Ms.Perm orig) (fun N2 hN2 => ?_) (fun σ' G4 hR4 => ?_)
          · refine ⟨_, rfl, D, _, rfl, .inl (sqL gD3), _, rfl, by rw [List.length_map]; omega, by rw [List.length_map]; omega, for_range (lo := 0) (fun i2 σ G => But h l H G ∧ (∃ L' st', Hv G h l L' st') ∧ ∃ (Ls Ms : List Int) (y9 : Option V), σ = [some (.ref h), some (.ref p), some (.ref a), some (.int (t.types.length : Int)), some (.ref R), some (.int (0 + (i : Int))), none, some (.ref D), some (.ref M), y9, none, none, none, none] ∧
              G R = some (.lst vs) ∧ DpAll K G vs (ls.map rowD) ∧ G D = some (.lst (Ls.map V.int)) ∧ G M = some (.lst (Ms.map V.int)) ∧ (Ls ++ Ms).Perm orig ∧ Ls.length + i2 = orig.length)
              ⟨b3, ⟨_, _, hv3⟩, orig, [], _, rfl, gR3, hds3, gD3, gM3, by rw [List.append_nil], rfl⟩ (fun i2 σ G5 hi5 hP => ?_) (fun σ G5 hP => ?_)⟩
            · obtain ⟨b5, ⟨L5, st5, hv5⟩, Ls, Ms, y9', rfl, gR5, hds5, gD5, gM5, hpm, hln⟩ := hP
              rw [List.length_map] at hi5
              have hL0 : 0 < Ls.length := by omega
              refine ⟨_, rfl, .inl ⟨rfl, _, sqL gM5⟩, _, rfl, .inl ⟨rfl, _, sqL gD5⟩, _, rfl, _, rfl, D, _, rfl, .inl (sqL gD5), h, l, L5, st5, (Ls.map V.int).length, rfl, hv5, by rw [List.length_map]; omega, by rw [List.length_map]; omega, fun G6 L6 st6 r b6 hv6 r0 r1 => ?_⟩
              obtain ⟨rn, rfl⟩ := Int.eq_ofNat_of_zero_le r0
              rw [List.length_map] at r1
              have hrn : rn < Ls.length := by omega
              have gD6 := b6 _ _ nDh.symm nDl.symm gD5
              have gM6 := b6 _ _ nMh.symm nMl.symm gM5
              have gR6 := b6 _ _ nRh.symm nRl.symm gR5
              have hds6 := dpAll_keep (KeepT.but hv5 b6) _ _ nlr hds5
              have hy := List.getElem?_eq_getElem hrn
              refine ⟨D, _, _, rn, .int Ls[rn], rfl, rfl, gD6, by omega, by omega, (ixN_seq (ixN_nat (by rw [List.length_map]; exact hrn))).1, by rw [List.getElem?_map, hy]; rfl, ?_⟩
              rw [erase_map]
              have gM7 := (upd_ne (o := .lst ((Ls.eraseIdx rn).map V.int)) (Ne.symm nMD)).trans gM6
              refine ⟨M, _, _, rfl, rfl, gM7, ?_, ?_, ⟨L6, st6, ?_⟩, Ls.eraseIdx rn, Ms ++ [Ls[rn]], _, rfl, ?_, ?_, ?_, ?_, ?_, ?_⟩
              · have := hpm.length_eq
                rw [List.length_append] at this
                rw [List.length_map]
                exact small1000 (by omega)
              · intro b ob e1 e2 e
                rw [upd_ne (ne_of_none e fM), upd_ne (ne_of_none e fD)]
                exact b6 _ _ e1 e2 (b5 _ _ e1 e2 e)
              · exact ⟨(upd_ne nMh).trans ((upd_ne nDh).trans hv6.top), (upd_ne nMl).trans ((upd_ne nDl).trans hv6.bot), hv6.ne, hv6.lo, hv6.hi, hv6.len⟩
              · exact (upd_ne nMR).trans ((upd_ne nDR).trans gR6)
              · exact dpAll_keep ((KeepT.put gD6).trans (.put gM7)) _ _ nlr hds6
              · exact (upd_ne nMD).trans upd_same
              · rw [upd_same, List.map_append]
                rfl
              · exact (perm_pop hy).trans hpm
              · rw [List.length_eraseIdx, if_pos hrn]
                omega
            · obtain ⟨b5, hv5, Ls, Ms, y9', rfl, gR5, hds5, gD5, gM5, hpm, hln⟩ := hP
              rw [List.length_map] at hln
              have e0 : Ls = [] := List.eq_nil_of_length_eq_zero (by omega)
              subst e0
              exact hN2 _ _ ⟨b5, hv5, Ms, _, rfl, gR5, hds5, gM5, hpm⟩
          obtain ⟨b4, ⟨L4, st4, hv4⟩, Ms, y9', rfl, gR4, hds4, gM4, hpm⟩ := hR4
          refine ⟨_, rfl, .inl ⟨rfl, _, sqL gR4⟩, _, rfl, M, _, rfl, .inl ⟨sqL gM4, fun q1 n1 => ?_⟩⟩
          have gR5 := (same_new (o := .tup (Ms.map V.int)) n1) _ _ gR4
          have hds5 := dpAll_same (same_new (o := .tup (Ms.map V.int)) n1) _ _ hds4
          have kt : KeepT (upd G4 q1 (.tup (Ms.map V.int))) (upd (upd G4 q1 (.tup (Ms.map V.int))) R (.lst (vs ++ [.ref q1]))) := .put gR5
          refine ⟨R, _, _, rfl, rfl, gR5, by rw [lvs]; exact small1000 (by omega), fun b ob e1 e2 e => ?_, ⟨L4, st4, ?_⟩, vs ++ [.ref q1], ls ++ [Ms], _, _, _, _, rfl, upd_same, ?_, ?_, fun k lk e => ?_⟩
          · rw [upd_ne (ne_of_none e nR), upd_ne (ne_of_none (b4 _ _ e1 e2 e) n1)]
            exact b4 _ _ e1 e2 e
          · have hv5 := hv4.new (o := .tup (Ms.map V.int)) n1
            exact ⟨(upd_ne nRh).trans hv5.top, (upd_ne nRl).trans hv5.bot, hv5.ne, hv5.lo, hv5.hi, hv5.len⟩
          · rw [List.map_append]
            exact dpAll_snoc (dpAll_keep kt _ _ nlr hds5) (dp_tup (kt.seqT (sqT upd_same)))
          · rw [List.length_append, hll]
            rfl
          · rw [List.getElem?_append] at e
            split at e
            · exact hlp k lk e
            · rename_i hk
              have hk2 : k - ls.length < [Ms].length := (List.getElem?_eq_some_iff.mp e).1
              have hk3 : k - ls.length < 1 := hk2
              have ek : k = i := by omega
              subst ek
              rw [hll, Nat.sub_self] at e
              obtain rfl : Ms = lk := Option.some.inj e
              rw [hor]
              exact hpm
      · obtain ⟨b1, hv1, vs, ls, y5, y7, y8, y9, rfl, gR, hds, hll, hlp⟩ := hP
        rw [List.length_map] at hll
        exact hN _ _ ⟨b1, hv1, vs, ls, _, _, _, _, rfl, gR, hds, by omega, hlp⟩
    obtain ⟨b1, ⟨L1, st1, hv1⟩, vs, ls, y5, y7, y8, y9, rfl, gR1, hds1, hll, hlp⟩ := hR
    have d1 := d.keep (.but hv b1)
    have lvs : vs.length = t.kinds.length := by rw [dpAll_len hds1, List.length_map, hll]
    have nlr : noListAll (ls.map rowD) = true := noListAll_mem fun d hd => by
      obtain ⟨x, _, rfl⟩ := List.mem_map.mp hd
      rw [rowD, noList]
      exact noList_intsD x
    have hlb : ∀ lk ∈ ls, lk.Nodup ∧ lk.length ≤ 1000 ∧ ∀ n ∈ lk, 0 ≤ n ∧ n < (t.types.length : Int) := fun lk m => by
      obtain ⟨k, hk, e⟩ := List.getElem_of_mem m
      have pm := hlp k lk (by rw [List.getElem?_eq_getElem hk, e])
      refine ⟨pm.nodup_iff.mpr ((idxF_asc _ _).imp fun h => Int.ne_of_lt h), ?_, fun n hn => ?_⟩
      · have := idxF_len (fun a => [(k : Int)].any fun k => acc t a k) t.types.length
        have e2 := pm.length_eq
        have e3 : (takersL t (k : Int)).length ≤ t.types.length := idxF_len _ _
        omega
      · obtain ⟨i, rfl, hi, _⟩ := idxF_mem.mp (pm.mem_iff.mp hn)
        omega
    have same := byTakers_same ok hll hlp
    have tnl : (t.types.map (·.1)).length = t.types.length := List.length_map _
    have hlb2 : ∀ lk ∈ ls, lk.Nodup ∧ lk.length ≤ 1000 ∧ ∀ n ∈ lk, 0 ≤ n ∧ n < ((t.types.map (·.1)).length : Int) := by rw [tnl]; exact hlb
    have good : GoodT t.kinds (t.types.map (·.1)) := ⟨k1, k8, ok.kn, ok.ka, by rw [tnl]; exact t12, fun z hz => by
      obtain ⟨c, hc, rfl⟩ := List.mem_map.mp hz
      exact ok.tn c hc, ok.ta⟩
    -- names, told
    refine ⟨_, rfl, p, dx, pk, pt, t, rfl, d1, ok, fun G2 nq s2 hnq => ⟨_, rfl, R, vs, rfl, .inl ⟨sqL (s2 _ _ gR1), fun tq ntq => ⟨_, _, rfl, ?_⟩⟩⟩⟩
    have s3 : Same G1 (upd G2 tq (.tup vs)) := s2.trans (same_new ntq)
    have hnq3 := same_seqT (same_new (o := .tup vs) ntq) hnq
    have htq3 := sqT (K := K) (upd_same (H := G2) (a := tq) (o := .tup vs))
    generalize upd G2 tq (.tup vs) = G3 at s3 hnq3 htq3 ⊢
    have hds3 := dpAll_same s3 _ _ hds1
    have d3 := d1.same s3
    have gR3 := s3 _ _ gR1
    dsimp only [gName]
    refine if_out false (fun B hB => ?_) (fun G4 s4 => ?_)
    · refine ⟨_, rfl, p, C, dx, _, _, rfl, d3.obj, T.cl, T.nK, tf_k _ _, _, rfl, _, rfl, pk, nq, .ref tq, t.kinds, t.types.map (fun c : Str × List Int => c.1), rfl, kinds_sq d3.kd, hnq3, good, .inr ⟨tq, vs, ls, rfl, htq3, hds3, hll, hlb2, fun G4 p4 dx4 pt4 s4 tb4 => ?_⟩⟩
      rw [same] at tb4
      have d4 := d3.same s4
      refine ⟨_, rfl, ⟨p4, p, dx4, dx, _, _, rfl, rfl, tb4.obj, d4.obj, dx4, pk, pt4, dx, pk, pt, t, tb4, d4, ok⟩, fun G5 s5 => ⟨_, rfl, ?_⟩⟩
      refine iteF ?_
      have s35 : Same G3 G5 := s4.trans s5
      have d5 := d3.same s35
      refine ⟨_, rfl, _, rfl, _, rfl, p, C, dx, _, _, rfl, d5.obj, T.cl, T.nK, tf_k _ _, rfl, pk, nq, .ref tq, t.kinds, t.types.map (fun c : Str × List Int => c.1), rfl, kinds_sq d5.kd, same_seqT s35 hnq3, good, .inr ⟨tq, vs, ls, rfl, same_seqT s35 htq3, dpAll_same s35 _ _ hds3, hll, hlb2, fun G6 p6 dx6 pt6 s6 tb6 => ?_⟩⟩
      rw [same] at tb6
      have d6 := d5.same s6
      refine ⟨_, rfl, ⟨p6, p, dx6, dx, _, _, rfl, rfl, tb6.obj, d6.obj, dx6, pk, pt6, dx, pk, pt, t, tb6, d6, ok⟩, fun G7 s7 => ⟨_, rfl, ?_⟩⟩
      exact hB _ (s35.trans (s6.trans s7))
    rw [if_neg (by decide)]
    have s14 := s3.trans s4
    have b4 := b1.same s14
    have hv4 := hv1.same s14
    have hnq4 := same_seqT s4 hnq3
    have htq4 := same_seqT s4 htq3
    have hds4 := dpAll_same s4 _ _ hds3
    have gR4 := s4 _ _ gR3
    clear s14 s3 s2 hnq hnq3 htq3 hds3 gR3 d3 hds1 gR1
    dsimp only [tNext]
    -- at
    refine ⟨_, rfl, _, rfl, R, _, rfl, .inl (sqL gR4), h, l, L1, st1, vs.length, rfl, hv4, by omega, by omega, fun G5 L5 st5 r b5 hv5 r0 r1 => ?_⟩
    obtain ⟨at_, rfl⟩ := Int.eq_ofNat_of_zero_le r0
    have ha : at_ < vs.length := by omega
    have kt45 := KeepT.but hv4 b5
    have b05 := b4.trans b5
    have hnq5 := kt45.seqT hnq4
    have htq5 := kt45.seqT htq4
    have hds5 := dpAll_keep kt45 _ _ nlr hds4
    obtain ⟨lk, hlk, dv⟩ := row_at hds5 (List.getElem?_eq_getElem ha)
    obtain ⟨ua, eua, hua⟩ := tints_inv dv
    have hva : vs[at_]? = some (.ref ua) := by rw [List.getElem?_eq_getElem ha, eua]
    obtain ⟨lnd, ll1000, lb⟩ := hlb lk (List.mem_of_getElem? hlk)
    have ll12 : lk.length ≤ 12 := by
      have e2 := (hlp at_ lk hlk).length_eq
      have e3 : (takersL t (at_ : Int)).length ≤ t.types.length := idxF_len _ _
      omega
    clear b4 hv4 hnq4 htq4 hds4 gR4 b5 kt45 dv
    -- odd
    have m0 : decide (0 ≤ (t.types.length : Int) ∧ (t.types.length : Int) < (t.types.length : Int)) = false := decide_eq_false (by omega)
    have numMany : ∀ G, NumV K G (t.types.length : Int) (.int (t.types.length : Int)) false := fun G => .inl ⟨_, rfl, m0.symm⟩
    have numNon : ∀ G, NumV K G (t.types.length : Int) .non false := fun G => .inr (.inr ⟨"NoneType", TyN.non, by decide +kernel, rfl⟩)
    dsimp only [gName]
    refine ⟨_, rfl, ?_⟩
    refine ⟨_, rfl, _, rfl, tq, vs, _, _, rfl, rfl, htq5, atI_nat hva, ua, _, rfl, .inr hua, fun q1 n1 => ?_⟩
    have s6 : Same G5 (upd G5 q1 (.lst (lk.map V.int))) := same_new n1
    have o6 : Ov K h l (upd G5 q1 (.lst (lk.map V.int))) (t.types.length : Int) (.ref q1) := ov_lst upd_same (ne_of_none hv5.top n1).symm (ne_of_none hv5.bot n1).symm
    generalize upd G5 q1 (.lst (lk.map V.int)) = G6 at s6 o6 ⊢
    refine ⟨_, rfl, _, rfl, tq, vs, _, _, rfl, rfl, same_seqT s6 htq5, atI_nat hva, _, rfl, by show 1 ≤ sizeLine; decide, fun p2 n2 => ?_⟩
    refine cat_to (same_seqT (s6.trans (same_new n2)) hua) (sqT upd_same) (by rw [List.length_map]; show _ + 1 ≤ _; omega) fun G7 q2 s7 h7 => ?_
    have s57 : Same G5 G7 := (s6.trans (same_new n2)).trans s7
    have b67 : But h l G6 G7 := (But.refl h l G6).same ((same_new n2).trans s7)
    have hv7 := hv5.same s57
    have o7 := o6.mono b67
    have o7b : Ov K h l G7 (t.types.length : Int) (.ref q2) := ov_tup hv7 h7 (by rw [List.length_append, List.length_map]; show _ + 1 ≤ _; omega) (fun G => numVs_snoc lb (numMany G)) (all_snoc_false _)
    refine ⟨_, _, rfl, rfl, by show 1 ≤ sizeLine; decide, fun p3 n3 => ?_⟩
    have hv8 := hv7.new (o := .tup [.int (0 - 1)]) n3
    have c8 := (But.refl h l G7).new (o := .tup [.int (0 - 1)]) n3
    have o8 : Ov K h l (upd G7 p3 (.tup [.int (0 - 1)])) (t.types.length : Int) (.ref p3) := ov_tup (bs := [false]) hv8 (sqT upd_same) (by show 1 ≤ 1000; decide) (fun G => .cons (.inl ⟨_, rfl, (decide_eq_false (by omega)).symm⟩) .nil) rfl
    refine ⟨by show 1 ≤ sizeLine; decide, fun p4 n4 => ?_⟩
    have hv9 := hv8.new (o := .tup [.bl true]) n4
    have c9 := (But.refl h l _).new (o := .tup [.bl true]) n4
    have o9 : Ov K h l (upd _ p4 (.tup [.bl true])) (t.types.length : Int) (.ref p4) := ov_tup (bs := [false]) hv9 (sqT upd_same) (by show 1 ≤ 1000; decide) (fun G => .cons (.inr (.inl ⟨_, rfl, rfl⟩)) .nil) rfl
    refine ⟨by show 1 ≤ sizeLine; decide, fun p5 n5 => ?_⟩
    have hv10 := hv9.new (o := .tup [.str (Str.ofString "0")]) n5
    have c10 := (But.refl h l _).new (o := .tup [.str (Str.ofString "0")]) n5
    have o10 : Ov K h l (upd _ p5 (.tup [.str (Str.ofString "0")])) (t.types.length : Int) (.ref p5) := ov_tup (bs := [false]) hv10 (sqT upd_same) (by show 1 ≤ 1000; decide) (fun G => .cons (.inr (.inr ⟨"str", TyN.str _, by decide +kernel, rfl⟩)) .nil) rfl
    refine ⟨by show 1 ≤ sizeLine; decide, fun p6 n6 => ?_⟩
    have hv11 := hv10.new (o := .lst [.int 0]) n6
    have c11 := (But.refl h l _).new (o := .lst [.int 0]) n6
    have o11 := ov_lstN (K := K) (m := (t.types.length : Int)) (xs := [.int 0]) hv10 n6
    have s7_11 : Same G7 _ := (((same_new (o := .tup [.int (0 - 1)]) n3).trans (same_new (o := .tup [.bl true]) n4)).trans (same_new (o := .tup [.str (Str.ofString "0")]) n5)).trans (same_new (o := .lst [.int 0]) n6)
    have o10' := o10.mono c11
    have o9' := (o9.mono c10).mono c11
    have o8' := ((o8.mono c9).mono c10).mono c11
    have o7' := o7.mono ((But.refl h l G7).same s7_11)
    have o7b' := o7b.mono ((But.refl h l G7).same s7_11)
    clear o8 o9 o10 c8 c9 c10 c11 hv8 hv9 hv10
    generalize upd (upd (upd (upd G7 p3 (.tup [.int (0 - 1)])) p4 (.tup [.bl true])) p5 (.tup [.str (Str.ofString "0")])) p6 (.lst [.int 0]) = G11 at hv11 o11 s7_11 o10' o9' o8' o7' o7b' ⊢
    have s5_11 := s57.trans s7_11
    refine ⟨_, rfl, _, rfl, tq, vs, _, _, rfl, rfl, same_seqT s5_11 htq5, atI_nat hva, by show 1 ≤ sizeLine; decide, fun p7 n7 => ?_⟩
    refine cat_to (same_seqT (s5_11.trans (same_new n7)) hua) (sqT upd_same) (by rw [List.length_map]; show _ + 1 ≤ _; omega) fun G12 q8 s12 h12 => ?_
    have s11_12 : Same G11 G12 := (same_new n7).trans s12
    have hv12 := hv11.same s11_12
    have o12 : Ov K h l G12 (t.types.length : Int) (.ref q8) := ov_tup hv12 h12 (by rw [List.length_append, List.length_map]; show _ + 1 ≤ _; omega) (fun G => numVs_snoc lb (numNon G)) (all_snoc_false _)
    have c12 := (But.refl h l G11).same s11_12
    have s5_12 := s5_11.trans s11_12
    refine ⟨by show 9 ≤ sizeLine; decide, fun p9 n9 => ?_⟩
    have allO : ∀ y ∈ [V.non, V.ref q1, V.ref q2, V.ref p3, V.ref p4, V.ref p5, V.int 3, V.ref p6, V.ref q8], Ov K h l G12 (t.types.length : Int) y := by
      intro y hy
      simp only [List.mem_cons, List.not_mem_nil, or_false] at hy
      rcases hy with rfl | rfl | rfl | rfl | rfl | rfl | rfl | rfl | rfl
      · exact ov_non
      · exact o7'.mono c12
      · exact o7b'.mono c12
      · exact o8'.mono c12
      · exact o9'.mono c12
      · exact o10'.mono c12
      · exact ov_int
      · exact o11.mono c12
      · exact o12
    clear o7' o7b' o8' o9' o10' o11 o12 o6 o7 o7b
    generalize hxs : [V.non, V.ref q1, V.ref q2, V.ref p3, V.ref p4, V.ref p5, V.int 3, V.ref p6, V.ref q8] = xs at allO n9 ⊢
    have lxs : xs.length = 9 := by rw [← hxs]; rfl
    refine ⟨h, l, L5, st5, p9, xs, rfl, hv12.new n9, sqL upd_same, (ne_of_none hv12.top n9).symm, (ne_of_none hv12.bot n9).symm, by omega, by omega, fun G13 L13 st13 j x b13 hv13 hx => ?_⟩
    have ox : Ov K h l G13 (t.types.length : Int) x := ((allO x (List.mem_of_getElem? hx)).mono ((But.refl h l G12).new n9)).mono b13
    have b5_13 : But h l G5 G13 := (((But.refl h l G5).same s5_12).new n9).trans b13
    clear allO b13 s5_12 s5_11 s11_12 hv12 hv11 c12 s7_11
    have kt13 := KeepT.but hv5 b5_13
    have htq13 := kt13.seqT htq5
    have hua13 := kt13.seqT hua
    dsimp only [gName]
    refine seq_out (t := tAsg _ _) (fun σ' G' => ∃ x' : V, σ' = [some (.ref h), some (.ref p), some (.ref a), some (.int (t.types.length : Int)), some (.ref R), y5, some (.int (at_ : Int)), y7, y8, y9, some (.ref nq), some (.ref tq), some x', none] ∧ But h l G5 G' ∧ (∃ L' st', Hv G' h l L' st') ∧ Ov K h l G' (t.types.length : Int) x') (fun N hN => ?_) (fun σ' G18 hR => ?_)
    · refine ⟨_, rfl, _, rfl, tq, vs, _, _, rfl, rfl, htq13, atI_nat hva, Nat.zero_le _, fun p0 n0 => ?_⟩
      have s14 : Same G13 (upd G13 p0 (.tup [])) := same_new n0
      have fdl : Fd (.tuple (lk.map .int)) := ints_fd (fun x hx => by have := lb x hx; omega) ll1000
      refine ⟨.tuple (lk.map .int), .tuple (([] : List Int).map .int), dp_tup (same_seqT s14 hua13), .tup (sqT upd_same) .nil, fdl.sh, (ints_fd (l := []) (fun x hx => absurd hx List.not_mem_nil) (Nat.zero_le _)).sh, _, rfl, ?_⟩
      rw [eqv_tints]
      have hv14 := hv13.same s14
      have b14 := b5_13.same s14
      have o14 := ox.mono ((But.refl h l G13).same s14)
      have htq14 := same_seqT s14 htq13
      have hua14 := same_seqT s14 hua13
      generalize upd G13 p0 (.tup []) = G14 at hv14 b14 o14 htq14 hua14 ⊢
      refine ite2 (fun hne => ?_) (fun _ => ⟨_, rfl, hN _ _ ⟨x, rfl, b14, ⟨_, _, hv14⟩, o14⟩⟩)
      have ne : lk ≠ [] := fun z => by
        rw [decide_eq_true z] at hne
        cases hne
      refine ⟨_, rfl, h, l, L13, st13, 4, rfl, hv14, by decide, by decide, fun G15 L15 st15 r b15 hv15 r0 r1 => ⟨rfl, _, rfl, ite2 (fun _ => ?_) (fun _ => ⟨_, rfl, hN _ _ ⟨x, rfl, b14.trans b15, ⟨_, _, hv15⟩, o14.mono b15⟩⟩)⟩⟩
      have kt15 := KeepT.but hv14 b15
      have htq15 := kt15.seqT htq14
      have hua15 := kt15.seqT hua14
      refine ⟨_, rfl, _, rfl, tq, vs, _, _, rfl, rfl, htq15, atI_nat hva, _, rfl, _, rfl, tq, vs, _, _, rfl, rfl, htq15, atI_nat hva, 1, rfl, slA_to hua15 fun G16 q16 s16 h16 => cat_to (same_seqT s16 hua15) h16 ?_ fun G17 q17 s17 h17 => ?_⟩
      · have := cut_to (xs := lk.map V.int) (n := 1) (by rw [List.length_map]; exact List.length_pos_iff.mpr ne)
        rw [show (some (1 : Int)) = some ((1 : Nat) : Int) from rfl, this, List.length_map, List.length_take]
        omega
      · rw [show (some (1 : Int)) = some ((1 : Nat) : Int) from rfl, cut_to (xs := lk.map V.int) (n := 1) (by rw [List.length_map]; exact List.length_pos_iff.mpr ne), ← List.map_take, ← List.map_append] at h17
        have s15_17 := s16.trans s17
        have hv17 := hv15.same s15_17
        refine hN _ _ ⟨.ref q17, rfl, (b14.trans b15).same s15_17, ⟨_, _, hv17⟩, ov_dup hv17 h17 ?_ (fun n hn => ?_) ?_⟩
        · rw [List.length_append, List.length_take]
          omega
        · rcases List.mem_append.mp hn with z | z
          · exact lb n z
          · exact lb n ((List.take_sublist 1 lk).mem z)
        · cases lk with
          | nil => exact absurd rfl ne
          | cons z r =>
            intro nd
            have := (List.nodup_append.mp nd).2.2 z List.mem_cons_self z (by simp)
            exact this rfl
    obtain ⟨x', rfl, b18, ⟨L18, st18, hv18⟩, ox'⟩ := hR
    have kt18 := KeepT.but hv5 b18
    have htq18 := kt18.seqT htq5
    have hds18 := dpAll_keep kt18 _ _ nlr hds5
    have hnq18 := kt18.seqT hnq5
    clear ox hua hua13 htq13 kt13 b5_13 hv13
    -- wrong
    refine ⟨_, rfl, _, rfl, _, rfl, slA_to htq18 fun G19 r1 s19 h19 => ?_⟩
    rw [cut_to (by omega)] at h19
    refine ⟨_, rfl, by show 1 ≤ sizeLine; decide, fun p20 n20 => cat_to (same_seqT (same_new n20) h19) (sqT upd_same) (by rw [List.length_take]; show _ + 1 ≤ _; omega) fun G20 r2 s20 h20 => ?_⟩
    have s18_20 : Same G18 G20 := (s19.trans (same_new n20)).trans s20
    refine ⟨_, rfl, _, rfl, _, _, rfl, rfl, _, rfl, ?_⟩
    dsimp only [tNoPart]
    refine slA_to (same_seqT s18_20 htq18) fun G21 r3 s21 h21 => ?_
    have e1 : ((at_ : Int) + 1) = ((at_ + 1 : Nat) : Int) := by omega
    rw [e1, cut_from (by omega)] at h21
    refine cat_to (same_seqT s21 h20) h21 (by rw [List.length_append, List.length_take, List.length_drop]; show _ + 1 + _ ≤ _; omega) fun G22 r4 s22 h22 => ?_
    have s18_22 : Same G18 G22 := s18_20.trans (s21.trans s22)
    have hv22 := hv18.same s18_22
    have h22' : SqT K G22 r4 (vs.take at_ ++ x' :: vs.drop (at_ + 1)) := by
      have e : vs.take at_ ++ [x'] ++ vs.drop (at_ + 1) = vs.take at_ ++ x' :: vs.drop (at_ + 1) := by simp
      rw [← e]
      exact h22
    have w1 : Bw K h l G22 vs.length t.types.length (.ref r4) := bw_odd hv22 h22' (dpAll_same s18_22 _ _ hds18) ha hlb (ox'.mono ((But.refl h l G18).same s18_22))
    refine ⟨by show 1 ≤ sizeLine; decide, fun p23 n23 => ⟨p23, 4, [.ref r4], rfl, rfl, upd_same, by decide, by decide, by show 1 * 4 ≤ sizeLine; decide, fun p24 n24 => ?_⟩⟩
    have s22_24 : Same G22 _ := (same_new (o := .lst [.ref r4]) n23).trans (same_new (o := .lst (List.replicate (4 : Int).toNat [V.ref r4]).flatten) n24)
    have g24 := upd_same (H := upd G22 p23 (.lst [.ref r4])) (a := p24) (o := .lst (List.replicate (4 : Int).toNat [V.ref r4]).flatten)
    generalize upd (upd G22 p23 (.lst [.ref r4])) p24 (.lst (List.replicate (4 : Int).toNat [V.ref r4]).flatten) = G24 at s22_24 g24 ⊢
    have s18_24 := s18_22.trans s22_24
    have w1b := w1.mono ((But.refl h l G22).same s22_24)
    refine ⟨_, rfl, 1, rfl, _, rfl, slA_to (same_seqT s18_24 htq18) fun G25 r5 s25 h25 => ?_⟩
    have s18_25 := s18_24.trans s25
    have hv25 := hv18.same s18_25
    have lcut : (cutV vs none (some (-1))).length = vs.length - 1 := by
      unfold cutV
      rw [HT.sIx_none, List.drop_zero, Nat.sub_zero, List.length_take]
      have : HT.sIx vs.length vs.length (some (-1)) = vs.length - 1 := by
        show (if (-1 : Int) < 0 then ((-1 : Int) + (vs.length : Int)).toNat else min (-1 : Int).toNat vs.length) = _
        rw [if_pos (by decide)]
        omega
      rw [this]
      omega
    have h25' : SqT K G25 r5 (cutV vs none (some (-1))) := h25
    have w2 : Bw K h l G25 vs.length t.types.length (.ref r5) := bw_len hv25 h25' (by rw [lcut]; omega) (by rw [lcut]; omega)
    have w1c := w1b.mono ((But.refl h l G24).same s25)
    have g25 := s25 _ _ g24
    refine ⟨_, rfl, Nat.zero_le _, fun p26 n26 => ⟨by show 1 ≤ sizeLine; decide, fun p27 n27 => ?_⟩⟩
    have s25_27 : Same G25 _ := (same_new (o := .tup []) n26).trans (same_new (o := .tup [.ref p26]) n27)
    refine cat_to (same_seqT (s18_25.trans s25_27) htq18) (sqT upd_same) (by show _ + 1 ≤ _; omega) fun G28 r6 s28 h28 => ?_
    have s25_28 := s25_27.trans s28
    have s18_28 := s18_25.trans s25_28
    have hv28 := hv18.same s18_28
    have w3 : Bw K h l G28 vs.length t.types.length (.ref r6) := bw_len hv28 h28 (by rw [List.length_append]; show _ + 1 ≤ _; omega) (by rw [List.length_append]; show _ + 1 ≠ _; omega)
    have w1d := w1c.mono ((But.refl h l G25).same s25_28)
    have w2d := w2.mono ((But.refl h l G25).same s25_28)
    have g28 := s25_28 _ _ g25
    clear w1 w1b w1c w2 g24 g25 s25_27
    refine ⟨_, rfl, tq, _, rfl, .inr (same_seqT s18_28 htq18), fun p29 n29 => fun p30 n30 => ?_⟩
    have w4 := bw_lstN (K := K) (kk := vs.length) (m := t.types.length) (xs := vs) hv28 n29
    have hv29 := hv28.new (o := .lst vs) n29
    have w7 := bw_dictN (K := K) (kk := vs.length) (m := t.types.length) (xs := []) hv29 n30
    have hv30 := hv29.new (o := .dK []) n30
    have c30 := (But.refl h l _).new (o := .dK []) n30
    have w4b := w4.mono c30
    have s28_30 : Same G28 _ := (same_new (o := .lst vs) n29).trans (same_new (o := .dK []) n30)
    have w1e := w1d.mono ((But.refl h l G28).same s28_30)
    have w2e := w2d.mono ((But.refl h l G28).same s28_30)
    have w3e := w3.mono ((But.refl h l G28).same s28_30)
    have g30 := s28_30 _ _ g28
    clear w4 c30 w1d w2d w3 g28
    generalize upd (upd G28 p29 (.lst vs)) p30 (.dK []) = G30 at w7 hv30 w4b s28_30 w1e w2e w3e g30 ⊢
    refine ⟨by show 6 ≤ sizeLine; decide, fun p31 n31 => ⟨p24, p31, _, _, rfl, rfl, (same_new n31) _ _ g30, upd_same, by show 4 + 6 ≤ sizeLine; decide, fun p32 n32 => ?_⟩⟩
    have s30_32 : Same G30 _ := (same_new (o := .lst [.ref r5, .ref r6, .ref p29, .non, .int 5, .ref p30]) n31).trans (same_new (o := .lst ((List.replicate (4 : Int).toNat [V.ref r4]).flatten ++ [V.ref r5, V.ref r6, V.ref p29, V.non, V.int 5, V.ref p30])) n32)
    have hv31 := hv30.new (o := .lst [.ref r5, .ref r6, .ref p29, .non, .int 5, .ref p30]) n31
    have allW : ∀ y ∈ (List.replicate (4 : Int).toNat [V.ref r4]).flatten ++ [V.ref r5, V.ref r6, V.ref p29, V.non, V.int 5, V.ref p30], Bw K h l G30 vs.length t.types.length y := by
      intro y hy
      rcases List.mem_append.mp hy with hy | hy
      · have e : y = V.ref r4 := by
          obtain ⟨u, hu, hyu⟩ := List.mem_flatten.mp hy
          rw [List.eq_of_mem_replicate hu] at hyu
          exact List.mem_singleton.mp hyu
        rw [e]
        exact w1e
      · simp only [List.mem_cons, List.not_mem_nil, or_false] at hy
        rcases hy with rfl | rfl | rfl | rfl | rfl | rfl
        · exact w2e
        · exact w3e
        · exact w4b
        · exact bw_non
        · exact bw_int
        · exact w7
    have lws : ((List.replicate (4 : Int).toNat [V.ref r4]).flatten ++ [V.ref r5, V.ref r6, V.ref p29, V.non, V.int 5, V.ref p30]).length = 10 := rfl
    have g32 := upd_same (H := upd G30 p31 (.lst [.ref r5, .ref r6, .ref p29, .non, .int 5, .ref p30])) (a := p32) (o := .lst ((List.replicate (4 : Int).toNat [V.ref r4]).flatten ++ [V.ref r5, V.ref r6, V.ref p29, V.non, V.int 5, V.ref p30]))
    generalize (List.replicate (4 : Int).toNat [V.ref r4]).flatten ++ [V.ref r5, V.ref r6, V.ref p29, V.non, V.int 5, V.ref p30] = ws at s30_32 allW lws g32 ⊢
    have np32h : p32 ≠ h := (ne_of_none hv31.top n32).symm
    have np32l : p32 ≠ l := (ne_of_none hv31.bot n32).symm
    generalize upd (upd G30 p31 (.lst [.ref r5, .ref r6, .ref p29, .non, .int 5, .ref p30])) p32 (.lst ws) = G32 at s30_32 g32 ⊢
    have s18_32 := (s18_28.trans s28_30).trans s30_32
    have hv32 := hv18.same s18_32
    have b32 : But h l H G32 := ((b05.trans b18)).same s18_32
    have d32 := d.keep (.but hv b32)
    -- the last
    refine ⟨_, rfl, p, C, dx, _, _, rfl, d32.obj, T.cl, T.nK, tf_k _ _, _, rfl, _, rfl, _, rfl, h, l, L18, st18, p32, ws, rfl, hv32, sqL g32, np32h, np32l, by omega, by omega, fun G33 L33 st33 j y b33 hv33 hy => ?_⟩
    have bw := allW y (List.mem_of_getElem? hy) G33 (((But.refl h l G30).same s30_32).trans b33)
    have kt33 := (KeepT.of s18_32).trans (KeepT.but hv32 b33)
    have d33 := d32.keep (KeepT.but hv32 b33)
    rw [lvs] at bw
    refine ⟨pk, nq, y, t.kinds, t.types.map (fun c : Str × List Int => c.1), rfl, kinds_sq d33.kd, kt33.seqT hnq18, good, by rw [List.length_map]; exact bw, fun G34 s34 => ⟨rfl, ?_⟩⟩
    rw [decide_eq_true rfl]
    exact q _ L33 st33 ((b32.trans b33).same s34) (hv33.same s34)
end
end K2
/-! Displays of data. -/
namespace Gd
open PySem PySem.Spec PyProof.Rows L2
/-- the arguments give the data ds, and all stands as before -/
def GvA (K : PySem.W.Frag) (σ : L2.St) (H : Hp) (t : TA) (ds : List PyData) : Prop := ∀ Q : List V → Hp → Prop, (∀ vs G, Same H G → DpAll K G vs ds → Q vs G) → t σ H Q
theorem gvA_nil {K : PySem.W.Frag} {σ : L2.St} {H : Hp} : GvA K σ H tNil [] := fun Q q => q _ _ (Same.refl _) .nil
theorem gvA_cons {K : PySem.W.Frag} {σ : L2.St} {H : Hp} {t : TE} {ta : TA} {d : PyData} {ds : List PyData} (h1 : Gv K σ H t d) (h2 : ∀ G, Same H G → GvA K σ G ta ds) : GvA K σ H (tCons t ta) (d :: ds) := fun Q q =>
  h1 _ fun v G s dv => h2 G s _ fun vs G2 s2 dvs => q _ _ (s.trans s2) (.cons (dp_same s2 _ _ dv) dvs)
theorem gv_tup {K : PySem.W.Frag} {σ : L2.St} {H : Hp} {ta : TA} {ds : List PyData} (h : GvA K σ H ta ds) (l : Nat.ble ds.length 1000 = true := by rfl) : Gv K σ H (tTup ta) (.tuple ds) := fun Q q =>
  h _ fun vs G s dvs => ⟨by have := Nat.le_of_ble_eq_true l; rw [dpAll_len dvs, sizeLine_eq]; omega, fun p np => q _ _ (s.trans (same_new np)) (.tup (sqT upd_same) (dpAll_same (same_new np) _ _ dvs))⟩
theorem gv_int {K : PySem.W.Frag} {σ : L2.St} {H : Hp} {i : Int} : Gv K σ H (tC (.int i)) (.int i) := fun Q q => q _ _ (Same.refl _) (.int i)
theorem gv_str {K : PySem.W.Frag} {σ : L2.St} {H : Hp} {z : Str} : Gv K σ H (tC (.str z)) (.str z) := fun Q q => q _ _ (Same.refl _) (.str z)
theorem gv_tup0 {K : PySem.W.Frag} {σ : L2.St} {H : Hp} : Gv K σ H (tTup tNil) (.tuple []) := gv_tup gvA_nil
/-- Table(kinds, types) of what is right: what the reading behind the arguments asks -/
theorem tbl_new {K : PySem.W.Frag} {C pk pt : Addr} {t : TD} {G0 : Hp} {Q : VK} {f : Sp} (hk : Dp K G0 (.ref pk) (kindsD t)) (ht : Dp K G0 (.ref pt) (typesD t)) (ok : TOk t)
    (hf : ∀ (p dx : Addr) (H : Hp) (R : VK), H p = some (.ins C dx []) → Dp K H (.ref pk) (kindsD t) → Dp K H (.ref pt) (typesD t) → (∀ G, (∀ b o, b ≠ p → H b = some o → G b = some o) → TblAt K C G p dx pk pt t → R .non G) → f [.ref p, .ref pk, .ref pt] H R E0)
    (q : ∀ G p dx, Same G0 G → TblAt K C G p dx pk pt t → Q (.ref p) G) : ∀ x dx, G0 x = none → G0 dx = none → dx ≠ x → f ([V.ref x, .ref pk, .ref pt]) (upd (upd G0 dx (.own x)) x (.ins C dx [])) (fun v H2 => v = .non ∧ Q (.ref x) H2) E0 := by
  intro x dx nx ndx nex
  have s5 : Same G0 (upd (upd G0 dx (.own x)) x (.ins C dx [])) := (same_new ndx).trans (same_new ((upd_ne (Ne.symm nex)).trans nx))
  refine hf x dx _ _ upd_same (dp_same s5 _ _ hk) (dp_same s5 _ _ ht) fun G keep tb => ⟨rfl, q G x dx (fun b o e => ?_) tb⟩
  exact keep b o (ne_of_none e nx) (s5 _ _ e)
end Gd
namespace Gd
open PySem PySem.Spec PyProof.Rows L2
instance : ∀ l, Decidable (AscS l) := fun l => by unfold AscS; infer_instance
instance : ∀ l, Decidable (AscI l) := fun l => by unfold AscI; infer_instance
abbrev rLenQ (K : PySem.W.Frag) : List V → Hp → VK → Prop := fun xs H Q => ∃ p ys, xs = [.ref p] ∧ (SqL K H p ys ∨ SqT K H p ys) ∧ Q (.int ys.length) H
/-- the table of the law's end -/
def tdL : TD := ⟨[Str.ofString "barn", Str.ofString "cabin", Str.ofString "yurt"], [(Str.ofString "dry", [0, 1]), (Str.ofString "tall", [0, 1]), (Str.ofString "warm", [2])]⟩
def nmB (z : Str) : Bool := decide (1 ≤ z.length) && decide (z.length ≤ 8) && z.cps.toList.all fun c => decide (97 ≤ c ∧ c ≤ 122)
theorem nmB_of {z : Str} (h : nmB z = true) : Nm z := by
  unfold nmB at h
  rw [Bool.and_eq_true, Bool.and_eq_true] at h
  obtain ⟨⟨h1, h2⟩, h3⟩ := h
  exact ⟨⟨of_decide_eq_true h1, of_decide_eq_true h2⟩, fun c hc => of_decide_eq_true (p := 97 ≤ c ∧ c ≤ 122) (List.all_eq_true.mp h3 c hc)⟩
def okB (t : TD) : Bool := decide (1 ≤ t.kinds.length) && decide (t.kinds.length ≤ 8) && t.kinds.all nmB && decide (AscS t.kinds) && decide (t.types.length ≤ 12) && (t.types.all fun p => nmB p.1) && decide (AscS (t.types.map (·.1))) &&
  (t.types.all fun p => decide (AscI p.2)) && t.types.all fun p => p.2.all fun n => decide (0 ≤ n ∧ n < (t.kinds.length : Int))
theorem okB_of {t : TD} (h : okB t = true) : TOk t := by
  unfold okB at h
  simp only [Bool.and_eq_true, List.all_eq_true, decide_eq_true_eq] at h
  obtain ⟨⟨⟨⟨⟨⟨⟨⟨h1, h2⟩, h3⟩, h4⟩, h5⟩, h6⟩, h7⟩, h8⟩, h9⟩ := h
  exact ⟨h1, h2, fun z hz => nmB_of (h3 z hz), h4, h5, fun p hp => nmB_of (h6 p hp), h7, h8, fun p hp n hn => h9 p hp n hn⟩
theorem tdL_ok : TOk tdL := okB_of (by decide +kernel)
def tdX : TD := ⟨[Str.ofString "a"], [(Str.ofString "x", [0]), (Str.ofString "y", [0])]⟩
theorem tdX_ok : TOk tdX := okB_of (by decide +kernel)
def tdY : TD := ⟨[Str.ofString "a"], []⟩
theorem tdY_ok : TOk tdY := okB_of (by decide +kernel)
end Gd
namespace K2
open PySem PySem.Spec PyProof.Rows L2 Gd
section
variable {P : Program} {w : World} {K : PySem.W.Frag} {mg : Str → Option Value} {base : Heap}
/-! ### the law -/
def spLaw (K : PySem.W.Frag) : Sp := fun vs H Q _ => ∃ (a : Addr) (ns : List Int), vs = [.ref a] ∧ SqL K H a (ns.map V.int) ∧ ns.length ≤ 63 ∧ ∀ G, Q (.bl true) G
theorem good_of {t : TD} (ok : TOk t) : GoodT t.kinds (t.types.map (·.1)) := ⟨ok.k1, ok.k8, ok.kn, ok.ka, by rw [List.length_map]; exact ok.t12, fun z hz => by
  obtain ⟨c, hc, rfl⟩ := List.mem_map.mp hz
  exact ok.tn c hc, ok.ta⟩
/-- Table(..) of what is right -/
theorem mk_gv {K : PySem.W.Frag} {C : Addr} {σ : L2.St} {H : Hp} {ta : TA} {t : TD} {Q : VK} (hg : GvA K σ H ta [kindsD t, typesD t]) (ok : TOk t) (q : ∀ G p dx pk pt, Same H G → TblAt K C G p dx pk pt t → Q (.ref p) G) : tMake C (spTInit K C) [] E0 ta σ H Q := by
  refine hg _ fun vs G s dvs => ?_
  cases dvs with
  | cons dk r =>
  cases r with
  | cons dt r =>
  cases r
  obtain ⟨pk, _, rfl, _, _⟩ := tup_inv dk
  obtain ⟨pt, _, rfl, _, _⟩ := tup_inv dt
  intro p dx np ndx nex
  have s5 : Same G (upd (upd G dx (.own p)) p (.ins C dx [])) := (same_new ndx).trans (same_new ((upd_ne (Ne.symm nex)).trans np))
  refine ⟨p, dx, pk, pt, t, rfl, upd_same, dp_same s5 _ _ dk, dp_same s5 _ _ dt, ok, fun G6 keep tb6 => ⟨rfl, q G6 p dx pk pt (fun b o e => ?_) tb6⟩⟩
  exact keep b o (ne_of_none (s _ _ e) np) (s5 _ _ (s _ _ e))
/-- table_by_takers(..) of what is right -/
theorem tbt_gv {K : PySem.W.Frag} {C CR : Addr} {σ : L2.St} {H : Hp} {ta : TA} {ks ns : List Str} {lots : List (List Int)} {Q : VK} (hg : GvA K σ H ta [.tuple (ks.map .str), .tuple (ns.map .str), .tuple (lots.map rowD)]) (good : GoodT ks ns) (hl : lots.length = ks.length) (hb : ∀ l ∈ lots, l.Nodup ∧ l.length ≤ 1000 ∧ ∀ n ∈ l, 0 ≤ n ∧ n < (ns.length : Int))
    (q : ∀ G p dx pk pt, Same H G → TblAt K C G p dx pk pt (byTakers ks ns lots) → Q (.ref p) G) : tCall (spTBT K C CR) [] E0 ta σ H Q := by
  refine hg _ fun vs G s dvs => ?_
  cases dvs with
  | cons dk r =>
  cases r with
  | cons dn r =>
  cases r with
  | cons dl r =>
  cases r
  obtain ⟨pk, vk, rfl, hk, ak⟩ := tup_inv dk
  obtain ⟨pn, vn, rfl, hn, an⟩ := tup_inv dn
  obtain ⟨pl, vl, rfl, hlq, al⟩ := tup_inv dl
  rw [strs_inv ak] at hk
  rw [strs_inv an] at hn
  exact ⟨pk, pn, .ref pl, ks, ns, rfl, hk, hn, good, .inr ⟨pl, vl, lots, rfl, hlq, al, hl, hb, fun G2 p dx pt' s2 tb => q G2 p dx pk pt' (s.trans s2) tb⟩⟩
theorem ok_law {f C CR fI fHe fP fPa fOn fLo fTk fT fK fW fB : Addr} {fd fdI fdHe fdP fdPa fdOn fdLo fdTk fdT fdK fdW fdB : FuncData} {k : Nat} (F : Fun K "law" "law" s_law f fd) (T : TTxt K mg C) (M : Mk K C fI)
    (FHe : Fun K "_law_heap" "_law_heap" s__law_heap fHe fdHe) (FP : Fun K "_law_pick" "_law_pick" s__law_pick fP fdP) (FPa : Fun K "_law_parts" "_law_parts" s__law_parts fPa fdPa) (FOn : Fun K "_law_one_right" "_law_one_right" s__law_one_right fOn fdOn) (FLo : Fun K "_law_lots_right" "_law_lots_right" s__law_lots_right fLo fdLo) (FTk : Fun K "_law_takers_right" "_law_takers_right" s__law_takers_right fTk fdTk)
    (FT : Fun K "takers" "takers" s_takers fT fdT) (FK : Fun K "kinds_of_types" "kinds_of_types" s_kinds_of_types fK fdK) (FW : Fun K "types_without" "types_without" s_types_without fW fdW) (FB : Fun K "table_by_takers" "table_by_takers" s_table_by_takers fB fdB)
    (bI : Binds K fdI ["self", "kinds", "types"] []) (bHe : Binds K fdHe ["script"] []) (bP : Binds K fdP ["heap", "some"] []) (bPa : Binds K fdPa ["heap", "kinds", "types"] []) (bOn : Binds K fdOn ["table", "truths"] []) (bLo : Binds K fdLo ["heap", "table", "truths"] []) (bTk : Binds K fdTk ["heap", "table", "truths"] [])
    (bT : Binds K fdT ["table", "kind"] []) (bK : Binds K fdK ["table", "types"] []) (bW : Binds K fdW ["table", "kind"] []) (bB : Binds K fdB ["kinds", "types", "lots"] [])
    (gHe : mg "_law_heap" = some (.ref fHe)) (gP : mg "_law_pick" = some (.ref fP)) (gPa : mg "_law_parts" = some (.ref fPa)) (gOn : mg "_law_one_right" = some (.ref fOn)) (gLo : mg "_law_lots_right" = some (.ref fLo)) (gTk : mg "_law_takers_right" = some (.ref fTk)) (gT : mg "takers" = some (.ref fT)) (gK : mg "kinds_of_types" = some (.ref fK)) (gW : mg "types_without" = some (.ref fW)) (gB : mg "table_by_takers" = some (.ref fB))
    (GI : FnOk P w K mg base CX0 k fI fdI ["self", "kinds", "types"] (spTInit K C)) (GHe : FnOk P w K mg base CX0 (k + 1) fHe fdHe ["script"] (spHeap K)) (GP : FnOk P w K mg base CX0 (k + 1) fP fdP ["heap", "some"] (spPick K)) (GPa : FnOk P w K mg base CX0 (k + 1) fPa fdPa ["heap", "kinds", "types"] (spParts K)) (GOn : FnG P w K mg base (k + 1) fOn fdOn ["table", "truths"] (spOne K C)) (GLo : FnG P w K mg base (k + 1) fLo fdLo ["heap", "table", "truths"] (spLots K C)) (GTk : FnOk P w K mg base CX0 (k + 1) fTk fdTk ["heap", "table", "truths"] (spLots K C))
    (GT : FnOk P w K mg base CX0 (k + 1) fT fdT ["table", "kind"] (spTakers K C)) (GK : FnOk P w K mg base CX0 (k + 1) fK fdK ["table", "types"] (spKOf K C)) (GW : FnOk P w K mg base CX0 (k + 1) fW fdW ["table", "kind"] (spWithout K C)) (GB : FnOk P w K mg base (L2.CX P w) (k + 1) fB fdB ["kinds", "types", "lots"] (spTBT K C CR))
    (ml : mg "len" = none) (mi : mg "int" = none) (mr : mg "range" = none) (mp : mg "repr" = none) :
    FnG P w K mg base (k + 1 + 1) f fd ["script"] (spLaw K) := by
  refine okG F sc_law (fun vs H Q E h => ?_) (fun cdv A outer s H vs Q E hrg h => ?_)
  · obtain ⟨a, ns, rfl, _⟩ := h
    rfl
  · obtain ⟨a, ns, rfl, hs, hl, q⟩ := h
    have hr := hrg.rm
    have hgd := hrg.gd
    refine blk_cons (ps_set (i := 1) sc_law.nd rfl (.inl rfl) (pe_call GHe hr (by rfl) gHe FHe.kp bHe .nil pass0 (pa_cons (pv 0) pa_nil))) ?_
    refine blk_cons (ps_for PassesOwn.never rfl (pi_range1 (by rfl) mr (pa_cons (pe_op op_add pe_int (pe_op op_mul pe_int (pe_callTy call_int1 (by rfl) mi (by decide +kernel) (pa_cons (pe_cmpR op_gt (pe_callB call_len_seq (by rfl) ml PySem.boot_len (pa_cons (pv 0) pa_nil)) pe_int (nomark _)) pa_nil)))) pa_nil)) (pg_name (i := 2) sc_law.nd rfl (.inl rfl))
      (pss_cons (ps_asg (pe_call GPa hr (by rfl) gPa FPa.kp bPa .nil pass0 (pa_cons (pv 1) (pa_cons (pe_call GP hr (by rfl) gP FP.kp bP .nil pass0 (pa_cons (pv 1) (pa_cons (pe_lst (pa_cons pe_int (pa_cons pe_int (pa_cons pe_int (pa_cons pe_int (pa_cons pe_int pa_nil)))))) pa_nil))) (pa_cons (pe_call GP hr (by rfl) gP FP.kp bP .nil pass0 (pa_cons (pv 1) (pa_cons (pe_lst (pa_cons pe_int (pa_cons pe_int (pa_cons pe_int (pa_cons pe_int (pa_cons pe_int pa_nil)))))) pa_nil))) pa_nil))))
        (pg_tup rfl (pgs_cons (pg_name (i := 3) sc_law.nd rfl (.inr rfl)) (pgs_cons (pg_name (i := 4) sc_law.nd rfl (.inl rfl)) pgs_nil))))
      (pss_cons (ps_par (i := 5) (j := 6) rfl sc_law.nd rfl rfl (by decide) rfl rfl (pa_cons (pe_make M GI hr (by rfl) T.mgC bI .nil pass0 (pa_cons (pv 3) (pa_cons (pv 4) pa_nil)))
        (pa_cons (pe_lc (own := [("name", 8), ("lot", 9)]) (g := gTup K 2 (gCons (gName 8) (gCons (gName 9) gNil))) (tt := tYes) rfl sc_law.nd (pi_tup (pv 4)) (blkOk_by (own := [("name", 8), ("lot", 9)]) (N := n_law) (sc := defScope s_law) (by decide +kernel))
          (fun _ _ _ _ _ => pg_tup rfl (pgs_cons (pg_name (i := 8) sc_law.nd rfl (Or.inl rfl)) (pgs_cons (pg_name (i := 9) sc_law.nd rfl (Or.inr rfl)) pgs_nil))) (fun _ _ _ _ _ => pts_nil)
          (fun _ _ _ _ _ => pe_lc (own := [("kind", 7)]) (g := gName 7) (tt := tYes) (wi := iRng1 (tCons (tCB (rLenQ K) (tCons (tVar 3) tNil)) tNil)) rfl sc_law.nd (pi_range1 (by rfl) mr (pa_cons (pe_callB (r := rLenQ K) call_len_seq (by rfl) ml PySem.boot_len (pa_cons (pv 3) pa_nil)) pa_nil)) (blkOk_by (own := [("kind", 7)]) (N := n_law) (by rfl))
            (fun _ _ _ _ _ => pg_name (i := 7) sc_law.nd rfl (Or.inl rfl)) (fun _ _ _ _ _ => pts_nil) (fun _ _ _ _ _ => pe_cmpR (r := rIn K false) op_in_seq (pv 7) (pv 9) (by rfl)))) pa_nil)) (by rfl))
      (pss_cons (ps_if (PW.pt (pw_or (pt_not (pt_val (pe_callG (E := E0) GOn hrg (by rfl) gOn FOn.kp bOn .nil (pa_cons (pv 5) (pa_cons (pv 6) pa_nil)))))
        (pw_or (pt_not (pt_val (pe_callG (E := E0) GLo hrg (by rfl) gLo FLo.kp bLo .nil (pa_cons (pv 1) (pa_cons (pv 5) (pa_cons (pv 6) pa_nil))))))
        (pw_or1 (pt_not (pt_val (pe_call GTk hr (by rfl) gTk FTk.kp bTk .nil pass0 (pa_cons (pv 1) (pa_cons (pv 5) (pa_cons (pv 6) pa_nil)))))))))) (pss_one (ps_ret pe_bl)) pss_nil)
      (pss_one (ps_if (pt_cmpR op_ne (pe_callB (call_reprF hgd hr.units) (by rfl) mp (by decide +kernel) (pa_cons (pe_tup (pa_cons (pe_fld (pv 5) rfl) (pa_cons (pe_fld (pv 5) rfl) pa_nil))) pa_nil)) (pe_callB (call_reprF hgd hr.units) (by rfl) mp (by decide +kernel) (pa_cons (pe_tup (pa_cons (pv 3) (pa_cons (pv 4) pa_nil))) pa_nil)) (nomark _)) (pss_one (ps_ret pe_bl)) pss_nil)))))) ?_
    refine blk_cons (ps_set (i := 5) sc_law.nd rfl (.inl rfl) (pe_make M GI hr (by rfl) T.mgC bI .nil pass0 (pa_cons (pe_tup (pa_cons pe_str (pa_cons pe_str (pa_cons pe_str pa_nil))))
      (pa_cons (pe_tup (pa_cons (pe_tup (pa_cons pe_str (pa_cons (pe_tup (pa_cons pe_int (pa_cons pe_int pa_nil))) pa_nil))) (pa_cons (pe_tup (pa_cons pe_str (pa_cons (pe_tup (pa_cons pe_int (pa_cons pe_int pa_nil))) pa_nil))) (pa_cons (pe_tup (pa_cons pe_str (pa_cons (pe_tup (pa_cons pe_int pa_nil)) pa_nil))) pa_nil)))) pa_nil)))) ?_
    refine blk_cons (ps_if (PW.pt (pw_or (pt_cmpR (op_neD hr.units) (pe_call GT hr (by rfl) gT FT.kp bT .nil pass0 (pa_cons (pv 5) (pa_cons pe_int pa_nil))) (pe_tup (pa_cons pe_int (pa_cons pe_int pa_nil))) (nomark _))
      (pw_or (pt_cmpR (op_neD hr.units) (pe_call GK hr (by rfl) gK FK.kp bK .nil pass0 (pa_cons (pv 5) (pa_cons (pe_tup (pa_cons pe_int (pa_cons pe_int pa_nil))) pa_nil))) (pe_tup (pa_cons pe_int (pa_cons pe_int (pa_cons pe_int pa_nil)))) (nomark _))
      (pw_or (pt_cmpR (op_neD hr.units) (pe_call GW hr (by rfl) gW FW.kp bW .nil pass0 (pa_cons (pv 5) (pa_cons pe_int pa_nil))) (pe_tup (pa_cons pe_int (pa_cons pe_int pa_nil))) (nomark _))
      (pw_or1 (pt_cmpR (op_neD hr.units) (pe_call GK hr (by rfl) gK FK.kp bK .nil pass0 (pa_cons (pv 5) (pa_cons (pe_tup pa_nil) pa_nil))) (pe_tup pa_nil) (nomark _))))))) (pss_one (ps_ret pe_bl)) pss_nil) ?_
    refine blk_cons (ps_ret (pe_and (pe_cmpR (op_eqD hr.units) (pe_fld (pe_call GB hr (by rfl) gB FB.kp bB .nil passL (pa_cons (pe_tup (pa_cons pe_str pa_nil)) (pa_cons (pe_tup (pa_cons pe_str (pa_cons pe_str pa_nil))) (pa_cons (pe_tup (pa_cons (pe_tup (pa_cons pe_int (pa_cons pe_int pa_nil))) pa_nil)) pa_nil)))) rfl)
        (pe_tup (pa_cons (pe_tup (pa_cons pe_str (pa_cons (pe_tup (pa_cons pe_int pa_nil)) pa_nil))) (pa_cons (pe_tup (pa_cons pe_str (pa_cons (pe_tup (pa_cons pe_int pa_nil)) pa_nil))) pa_nil))) (nomark _))
      (pe_one (pe_cmpR (op_eqD hr.units) (pe_fld (pe_call GB hr (by rfl) gB FB.kp bB .nil passL (pa_cons (pe_tup (pa_cons pe_str pa_nil)) (pa_cons (pe_tup pa_nil) (pa_cons (pe_tup (pa_cons (pe_tup pa_nil) pa_nil)) pa_nil)))) rfl) (pe_tup pa_nil) (nomark _))))) ?_
    refine blk_nil ?_
    -- heap
    refine ⟨_, rfl, a, ns, rfl, hs, hl, fun G0 h l L st s0 _ _ hv0 => ?_⟩
    have hs0 : SqL K G0 a (ns.map V.int) := s0.seq hs
    dsimp only [gName]
    refine seq_out (t := tFor _ _ _) (fun σ' G' => ∃ y2 y3 y4 y5 y6 : Option V, σ' = [some (.ref a), some (.ref h), y2, y3, y4, y5, y6, none, none, none]) (fun N hN => ?_) (fun σ' G1 hR => ?_)
    · refine ⟨_, rfl, a, _, rfl, .inl hs0, _, _, rfl, rfl, .inr ⟨_, rfl, _, _, rfl, rfl, .inl ⟨by decide, by decide⟩, _, _, rfl, rfl, _, rfl, ?_, ?_, for_range (lo := 0) (fun i σ G => (∃ L st, Hv G h l L st) ∧ ∃ y2 y3 y4 y5 y6 : Option V, σ = [some (.ref a), some (.ref h), y2, y3, y4, y5, y6, none, none, none]) ⟨⟨_, _, hv0⟩, _, _, _, _, _, rfl⟩ (fun i σ G hi hP => ?_) (fun σ G hP => ?_)⟩⟩
      · split <;> decide
      · split <;> decide
      · obtain ⟨⟨L1, st1, hv1⟩, y2, y3, y4, y5, y6, rfl⟩ := hP
        refine ⟨_, rfl, _, rfl, by show 5 ≤ sizeLine; decide, fun p1 n1 => ?_⟩
        refine ⟨h, l, L1, st1, p1, [.int 3, .int 2, .int 1, .int 8, .int 5], rfl, hv1.new n1, sqL upd_same, (ne_of_none hv1.top n1).symm, (ne_of_none hv1.bot n1).symm, by show 0 < 5; decide, by show 5 < 1000; decide, fun G2 L2 st2 j2 x2 b2 hv2 hx2 => ?_⟩
        obtain ⟨kk, rfl, kk1, kk8⟩ : ∃ kk : Nat, x2 = .int (kk : Int) ∧ 1 ≤ kk ∧ kk ≤ 8 := by
          match j2, hx2 with
          | 0, hx2 => cases hx2; exact ⟨3, rfl, by decide, by decide⟩
          | 1, hx2 => cases hx2; exact ⟨2, rfl, by decide, by decide⟩
          | 2, hx2 => cases hx2; exact ⟨1, rfl, by decide, by decide⟩
          | 3, hx2 => cases hx2; exact ⟨8, rfl, by decide, by decide⟩
          | 4, hx2 => cases hx2; exact ⟨5, rfl, by decide, by decide⟩
          | _ + 5, hx2 => simp at hx2
        refine ⟨_, rfl, by show 5 ≤ sizeLine; decide, fun p3 n3 => ?_⟩
        refine ⟨h, l, L2, st2, p3, [.int 3, .int 5, .int 0, .int 12, .int 1], rfl, hv2.new n3, sqL upd_same, (ne_of_none hv2.top n3).symm, (ne_of_none hv2.bot n3).symm, by show 0 < 5; decide, by show 5 < 1000; decide, fun G4 L4 st4 j4 x4 b4 hv4 hx4 => ?_⟩
        obtain ⟨tt, rfl, tt12⟩ : ∃ tt : Nat, x4 = .int (tt : Int) ∧ tt ≤ 12 := by
          match j4, hx4 with
          | 0, hx4 => cases hx4; exact ⟨3, rfl, by decide⟩
          | 1, hx4 => cases hx4; exact ⟨5, rfl, by decide⟩
          | 2, hx4 => cases hx4; exact ⟨0, rfl, by decide⟩
          | 3, hx4 => cases hx4; exact ⟨12, rfl, by decide⟩
          | 4, hx4 => cases hx4; exact ⟨1, rfl, by decide⟩
          | _ + 5, hx4 => simp at hx4
        refine ⟨h, l, L4, st4, kk, tt, rfl, hv4, kk1, kk8, tt12, fun G5 L5 st5 q5 pk pt t b5 hv5 hq5 dk dt ok lk lt => ?_⟩
        refine ⟨q5, _, rfl, hq5, rfl, _, _, rfl, _, _, rfl, rfl, ?_⟩
        dsimp only [gName]
        -- Table(kinds, types)
        refine ⟨_, rfl, _, rfl, ?_⟩
        intro p dx np ndx nex
        have s5 : Same G5 (upd (upd G5 dx (.own p)) p (.ins C dx [])) := (same_new ndx).trans (same_new ((upd_ne (Ne.symm nex)).trans np))
        refine ⟨p, dx, pk, pt, t, rfl, upd_same, dp_same s5 _ _ dk, dp_same s5 _ _ dt, ok, fun G6 keep tb6 => ⟨rfl, ?_⟩⟩
        have s6 : Same G5 G6 := fun b o e => keep b o (ne_of_none e np) (s5 _ _ e)
        have k8 := ok.k8
        have t12 := ok.t12
        have hv6 := hv5.same s6
        obtain ⟨us, hts, hda⟩ := types_sq (dp_same s6 _ _ dt)
        have hlu := dpAll_len hda
        rw [List.length_map] at hlu
        have hk6 := kinds_sq (dp_same s6 _ _ dk)
        -- truths
        refine ⟨_, rfl, pt, rfl, ⟨_, hts⟩, fun D nD => ?_⟩
        have nDh : h ≠ D := ne_of_none hv6.top nD
        have nDl : l ≠ D := ne_of_none hv6.bot nD
        refine lc_tup (K := K) (a := pt) (xs := us) (fun i G => Same G6 G ∧ ∃ rs : List Addr, G D = some (.lst (rs.map V.ref)) ∧ rs.length = i ∧ (∀ (i : Nat) (r : Addr), rs[i]? = some r → G r = some (.lst ((List.range t.kinds.length).map fun k : Nat => V.bl (acc t i (k : Int))))) ∧ ∀ r ∈ rs, r ≠ h ∧ r ≠ l ∧ r ≠ D)
          ⟨same_new nD, [], upd_same, rfl, fun i r e => by simp at e, fun r hr => absurd hr List.not_mem_nil⟩ (fun i G _ hP => same_seqT hP.1 hts) (fun i x G hx hP => ?_) (fun G hP => ?_)
        · obtain ⟨s7, rs, gD, rl, hrow, hne⟩ := hP
          obtain ⟨c, hc, dv⟩ := type_at hda hx
          have hi2 : i < t.types.length := (List.getElem?_eq_some_iff.mp hc).1
          obtain ⟨a1, l1, rfl, hq1, hl1⟩ := type_inv (dp_same s7 _ _ dv)
          refine ⟨a1, _, rfl, hq1, rfl, _, _, rfl, _, _, rfl, rfl, rfl, ?_⟩
          dsimp only [tYes]
          rw [if_pos rfl]
          refine ⟨_, rfl, pk, _, rfl, .inr (same_seqT s7 hk6), _, rfl, by omega, by rw [List.length_map]; omega, fun E nE => lc_range (lo := 0) (fun j J => Same G J ∧ J E = some (.lst ((List.range j).map fun k : Nat => V.bl (acc t i (k : Int))))) ⟨same_new nE, upd_same⟩ (fun j J hj hQ => ?_) (fun J hQ => ?_)⟩
          · obtain ⟨s8, gE⟩ := hQ
            rw [List.length_map] at hj
            refine ⟨rfl, ?_⟩
            dsimp only [tYes]
            rw [if_pos rfl]
            refine ⟨_, rfl, _, rfl, l1, _, rfl, .inr (same_seqT s8 hl1), rfl, flat_ints _, ?_⟩
            rw [inV_ints, show (0 + (j : Int)) = (j : Int) by omega, ← acc_of hc]
            refine ⟨_, gE, ?_, fun b o e => ?_, ?_⟩
            · rw [List.length_map, List.length_range]
              exact small1000 (by omega)
            · rw [upd_ne (ne_of_none e nE)]
              exact s8 _ _ e
            · rw [upd_same, List.range_succ, List.map_append]
              rfl
          · obtain ⟨s8, gE⟩ := hQ
            rw [List.length_map, show ((t.kinds.length : Int)).toNat = t.kinds.length by omega] at gE
            have gD8 := s8 _ _ gD
            have nED : E ≠ D := (ne_of_none gD nE).symm
            have nEh : E ≠ h := (ne_of_none (s7 _ _ hv6.top) nE).symm
            have nEl : E ≠ l := (ne_of_none (s7 _ _ hv6.bot) nE).symm
            refine ⟨_, gD8, ?_, fun b o e => ?_, rs ++ [E], ?_, ?_, fun i2 r e => ?_, fun r hr => ?_⟩
            · rw [List.length_map, rl]
              exact small1000 (by omega)
            · rw [upd_ne (ne_of_none e nD)]
              exact s8 _ _ (s7 _ _ e)
            · rw [upd_same, List.map_append]
              rfl
            · rw [List.length_append, rl]
              rfl
            · rw [List.getElem?_append] at e
              split at e
              · have rD := (hne r (List.mem_of_getElem? e)).2.2
                rw [upd_ne rD]
                exact s8 _ _ (hrow i2 r e)
              · rename_i hk
                have hk2 : i2 - rs.length < [E].length := (List.getElem?_eq_some_iff.mp e).1
                have hk3 : i2 - rs.length < 1 := hk2
                have ei : i2 = i := by omega
                subst ei
                rw [rl, Nat.sub_self] at e
                obtain rfl : E = r := Option.some.inj e
                rw [upd_ne nED]
                exact gE
            · rcases List.mem_append.mp hr with z | z
              · exact hne r z
              · rw [List.mem_singleton.mp z]
                exact ⟨nEh, nEl, nED⟩
        · obtain ⟨s7, rs, gD, rl, hrow, hne⟩ := hP
          rw [hlu] at rl
          refine ⟨_, _, rfl, ?_⟩
          have tr7 : TrsAt G D rs t.types.length t.kinds.length (acc t) := ⟨gD, rl, hrow⟩
          have tb7 := tb6.same s7
          have hv7 := hv6.same s7
          have na : ∀ x ∈ D :: rs, x ≠ h ∧ x ≠ l := fun x hx => by
            rcases List.mem_cons.mp hx with z | z
            · rw [z]
              exact ⟨nDh.symm, nDl.symm⟩
            · exact ⟨(hne x z).1, (hne x z).2.1⟩
          -- the three looks
          refine ⟨_, rfl, _, rfl, p, dx, pk, pt, D, rs, t, rfl, tb7, ok, tr7, fun G8 s8 => ⟨_, rfl, iteF ?_⟩⟩
          refine ⟨_, rfl, _, rfl, _, rfl, h, l, L5, st5, p, dx, pk, pt, D, rs, t, rfl, hv7.same s8, tb7.same s8, ok, tr7.same s8, na, fun G9 L9 st9 b9 hv9 => ⟨_, rfl, iteF ?_⟩⟩
          have tb9 := (tb7.same s8).keep (.but (hv7.same s8) b9)
          have tr9 := (tr7.same s8).but b9 na
          refine ⟨_, rfl, _, rfl, _, rfl, h, l, L9, st9, p, dx, pk, pt, D, rs, t, rfl, hv9, tb9, ok, tr9, na, fun G10 L10 st10 b10 hv10 => ⟨_, rfl, iteF ?_⟩⟩
          have tb10 := tb9.keep (.but hv9 b10)
          -- the table stands
          obtain ⟨⟨f1, p1', c1⟩, f2, p2', c2⟩ := table_fine ok
          have fd : Fd (.tuple [kindsD t, typesD t]) := by
            refine ⟨?_, ?_, ?_⟩
            · rw [fine]
              exact fineAll_mem fun d hd => by
                rcases List.mem_cons.mp hd with z | z
                · rw [z]; exact f1
                · rw [List.mem_singleton.mp z]; exact f2
            · simp only [PyData.depth, PyData.depthAll]
              omega
            · simp only [costD, costAll]
              rw [sizeLine_eq]
              omega
          dsimp only [tNext]
          refine if_out false (fun B hB => re_no fd (fun Q qq => ?_) (fun G11 s11 Q qq => ?_) hB) (fun G11 s11 => ?_)
          · exact ⟨_, rfl, p, C, dx, _, _, rfl, tb10.obj, T.cl, T.nK, tf_k _ _, _, rfl, p, C, dx, _, _, rfl, tb10.obj, T.cl, T.nT, tf_t _ _, by show 2 ≤ sizeLine; decide, fun r nr => qq _ _ (same_new nr) (.tup (sqT upd_same) (.cons (dp_same (same_new nr) _ _ tb10.kd) (.cons (dp_same (same_new nr) _ _ tb10.td) .nil)))⟩
          · have tb11 := tb10.same s11
            exact ⟨_, rfl, _, rfl, by show 2 ≤ sizeLine; decide, fun r nr => qq _ _ (same_new nr) (.tup (sqT upd_same) (.cons (dp_same (same_new nr) _ _ tb11.kd) (.cons (dp_same (same_new nr) _ _ tb11.td) .nil)))⟩
          exact ⟨⟨_, _, hv10.same s11⟩, _, _, _, _, _, rfl⟩
      · obtain ⟨_, y2, y3, y4, y5, y6, rfl⟩ := hP
        exact hN _ _ ⟨_, _, _, _, _, rfl⟩
    obtain ⟨y2, y3, y4, y5, y6, rfl⟩ := hR
    -- the table that is written
    have okL : TOk tdL := tdL_ok
    refine seq_out (t := tAsg _ _) (fun σ' G' => ∃ p dx pk pt : Addr, σ' = [some (.ref a), some (.ref h), y2, y3, y4, some (.ref p), y6, none, none, none] ∧ TblAt K C G' p dx pk pt tdL) (fun N hN => ?_) (fun σ' G2 hR => ?_)
    · dsimp only [tAsg]
      refine mk_gv (t := tdL) (gvA_cons (gv_tup (gvA_cons gv_str fun _ _ => gvA_cons gv_str fun _ _ => gvA_cons gv_str fun _ _ => gvA_nil)) fun _ _ => gvA_cons (gv_tup (gvA_cons (gv_tup (gvA_cons gv_str fun _ _ => gvA_cons (gv_tup (gvA_cons gv_int fun _ _ => gvA_cons gv_int fun _ _ => gvA_nil)) fun _ _ => gvA_nil)) fun _ _ =>
        gvA_cons (gv_tup (gvA_cons gv_str fun _ _ => gvA_cons (gv_tup (gvA_cons gv_int fun _ _ => gvA_cons gv_int fun _ _ => gvA_nil)) fun _ _ => gvA_nil)) fun _ _ => gvA_cons (gv_tup (gvA_cons gv_str fun _ _ => gvA_cons (gv_tup (gvA_cons gv_int fun _ _ => gvA_nil)) fun _ _ => gvA_nil)) fun _ _ => gvA_nil)) fun _ _ => gvA_nil) okL fun G p dx pk pt s tb => ?_
      exact hN _ _ ⟨p, dx, pk, pt, rfl, tb⟩
    obtain ⟨p, dx, pk, pt, rfl, tb⟩ := hR
    have fdi : ∀ l : List Int, (l.all fun x => decide (x.natAbs < 10 ^ 9)) = true → Nat.ble l.length 1000 = true → Fd (.tuple (l.map .int)) := fun l h1 h2 => ints_fd (fun x hx => of_decide_eq_true (List.all_eq_true.mp h1 x hx)) (Nat.le_of_ble_eq_true h2)
    refine if_out false (fun B hB => ?_) (fun G3 s3 => ?_)
    · refine ne_no (d := .tuple (([0, 1] : List Int).map .int)) (noList_tints _) (fdi _ rfl rfl) (fun Q qq => ?_) (fun _ _ => gv_tup (gvA_cons gv_int fun _ _ => gvA_cons gv_int fun _ _ => gvA_nil)) fun G4 s4 => iteF ?_
      · exact ⟨_, rfl, p, dx, pk, pt, tdL, 1, rfl, tb, okL, fun G q1 s h1 => qq _ _ s (dp_tup h1)⟩
      have tb4 := tb.same s4
      refine ne_no (d := .tuple (([0, 1, 2] : List Int).map .int)) (noList_tints _) (fdi _ rfl rfl) (fun Q qq => ?_) (fun _ _ => gv_tup (gvA_cons gv_int fun _ _ => gvA_cons gv_int fun _ _ => gvA_cons gv_int fun _ _ => gvA_nil)) fun G5 s5 => iteF ?_
      · refine ⟨_, rfl, by show 2 ≤ sizeLine; decide, fun r nr => ⟨p, dx, pk, pt, r, tdL, [0, 2], rfl, tb4.same (same_new nr), okL, sqT upd_same, by decide, by decide, fun G q1 s h1 => qq _ _ ((same_new nr).trans s) (dp_tup h1)⟩⟩
      have tb5 := tb4.same s5
      refine ne_no (d := .tuple (([0, 1] : List Int).map .int)) (noList_tints _) (fdi _ rfl rfl) (fun Q qq => ?_) (fun _ _ => gv_tup (gvA_cons gv_int fun _ _ => gvA_cons gv_int fun _ _ => gvA_nil)) fun G6 s6 => iteF ?_
      · exact ⟨_, rfl, p, dx, pk, pt, tdL, 2, rfl, tb5, okL, fun G q1 s h1 => qq _ _ s (dp_tup h1)⟩
      have tb6 := tb5.same s6
      refine ne_no (d := .tuple (([] : List Int).map .int)) (noList_tints _) (fdi _ rfl rfl) (fun Q qq => ?_) (fun _ _ => gv_tup0) fun G7 s7 => hB _ (((s4.trans s5).trans s6).trans s7)
      refine ⟨_, rfl, Nat.zero_le _, fun r nr => ⟨p, dx, pk, pt, r, tdL, [], rfl, tb6.same (same_new nr), okL, sqT upd_same, by decide, by decide, fun G q1 s h1 => qq _ _ ((same_new nr).trans s) (dp_tup h1)⟩⟩
    rw [if_neg (by decide)]
    -- the last
    dsimp only [tNext, tRet, tAndV, tOp, tFld]
    refine tbt_gv (ks := [Str.ofString "a"]) (ns := [Str.ofString "x", Str.ofString "y"]) (lots := [[1, 0]]) (gvA_cons (gv_tup (gvA_cons gv_str fun _ _ => gvA_nil)) fun _ _ => gvA_cons (gv_tup (gvA_cons gv_str fun _ _ => gvA_cons gv_str fun _ _ => gvA_nil)) fun _ _ => gvA_cons (gv_tup (gvA_cons (gv_tup (gvA_cons gv_int fun _ _ => gvA_cons gv_int fun _ _ => gvA_nil)) fun _ _ => gvA_nil)) fun _ _ => gvA_nil)
      (good_of tdX_ok) rfl (by decide) fun G4 p4 dx4 pk4 pt4 s4 tb4 => ?_
    refine ⟨p4, C, dx4, _, _, rfl, tb4.obj, T.cl, T.nT, tf_t _ _, ?_⟩
    have td4 : Dp K G4 (.ref pt4) (typesD tdX) := tb4.td
    refine (gv_tup (K := K) (gvA_cons (gv_tup (gvA_cons gv_str fun _ _ => gvA_cons (gv_tup (gvA_cons gv_int fun _ _ => gvA_nil)) fun _ _ => gvA_nil)) fun _ _ => gvA_cons (gv_tup (gvA_cons gv_str fun _ _ => gvA_cons (gv_tup (gvA_cons gv_int fun _ _ => gvA_nil)) fun _ _ => gvA_nil)) fun _ _ => gvA_nil)) _ fun v5 G5 s5 d5 => ?_
    have d5' : Dp K G5 v5 (typesD tdX) := d5
    obtain ⟨_, f2, p2, _⟩ := table_fine tdX_ok
    refine ⟨typesD tdX, typesD tdX, dp_same s5 _ _ td4, d5', fine_shaped f2 (by omega), fine_shaped f2 (by omega), true, by rw [fine_eqv f2], ?_⟩
    refine iteT ?_
    refine tbt_gv (ks := [Str.ofString "a"]) (ns := []) (lots := [[]]) (gvA_cons (gv_tup (gvA_cons gv_str fun _ _ => gvA_nil)) fun _ _ => gvA_cons gv_tup0 fun _ _ => gvA_cons (gv_tup (gvA_cons gv_tup0 fun _ _ => gvA_nil)) fun _ _ => gvA_nil) (good_of tdY_ok) rfl (by decide) fun G6 p6 dx6 pk6 pt6 s6 tb6 => ?_
    refine ⟨p6, C, dx6, _, _, rfl, tb6.obj, T.cl, T.nT, tf_t _ _, ?_⟩
    have td6 : Dp K G6 (.ref pt6) (typesD tdY) := tb6.td
    refine gv_tup0 (K := K) _ fun v7 G7 s7 d7 => ?_
    have d7' : Dp K G7 v7 (typesD tdY) := d7
    obtain ⟨_, f3, p3, _⟩ := table_fine tdY_ok
    refine ⟨typesD tdY, typesD tdY, dp_same s7 _ _ td6, d7', fine_shaped f3 (by omega), fine_shaped f3 (by omega), ?_⟩
    rw [fine_eqv f3]
    exact q _
end
end K2
namespace K2
open PySem PySem.Spec PyProof.Rows L2 Gd
set_option maxHeartbeats 0 in
theorem all_mk {l : PySem.W.OpenLaw} {w : World} {K : PySem.W.Frag} {h : Heap} {mg : Str → Option Value} {fa C CR CD f_is_number f_is_number_below f_is_name f_is_tuple_of f_is_ascending f_are_numbers_below f_is_lot_below f_is_lot_of_names f_Refused_init f_Table_init f_Table_eq f_is_type_pair f_type_names f_accepted f_takers f_all_takers f_types_without f_kinds_of_types f_types_of_kinds f_table_by_takers f_are_takers f_are_alike f__law_heap f__law_draw f__law_pick f__law_names f__law_lot f__law_parts f__law_one_right f__law_lots_right f__law_heard f__law_takers_right f_law : Addr} (X : K.In h) (G : h.Ns mainGlobals mg) (hfa : mg "law" = some (.ref fa))
    {nm qn : Str} {Nn : Addr} {bs : List Value} {sn : List Str} {sub : List Value} {ab : Bool} {col : Option Bool} {dd : Option Addr} {m0 m1 m2 m3 m5 : Option Value}
    {t_MOST_LETTERS t_MOST_KINDS t_MOST_TYPES : Tok}
    {od_is_number an_is_number od_is_number_below an_is_number_below od_is_name an_is_name od_is_tuple_of an_is_tuple_of od_is_ascending an_is_ascending od_are_numbers_below an_are_numbers_below od_is_lot_below an_is_lot_below od_is_lot_of_names an_is_lot_of_names od_Refused_init an_Refused_init od_Table_init an_Table_init od_Table_eq an_Table_eq od_is_type_pair an_is_type_pair od_type_names an_type_names od_accepted an_accepted od_takers an_takers od_all_takers an_all_takers od_types_without an_types_without od_kinds_of_types an_kinds_of_types od_types_of_kinds an_types_of_kinds od_table_by_takers an_table_by_takers od_are_takers an_are_takers od_are_alike an_are_alike od__law_heap an__law_heap od__law_draw an__law_draw od__law_pick an__law_pick od__law_names an__law_names od__law_lot an__law_lot od__law_parts an__law_parts od__law_one_right an__law_one_right od__law_lots_right an__law_lots_right od__law_heard an__law_heard od__law_takers_right an__law_takers_right od_law an_law : Option Addr} {sl_is_number sl_is_number_below sl_is_name sl_is_tuple_of sl_is_ascending sl_are_numbers_below sl_is_lot_below sl_is_lot_of_names sl_Refused_init sl_Table_init sl_Table_eq sl_is_type_pair sl_type_names sl_accepted sl_takers sl_all_takers sl_types_without sl_kinds_of_types sl_types_of_kinds sl_table_by_takers sl_are_takers sl_are_alike sl__law_heap sl__law_draw sl__law_pick sl__law_names sl__law_lot sl__law_parts sl__law_one_right sl__law_lots_right sl__law_heard sl__law_takers_right sl_law : Array (Option Value)} {oc_is_number kV_is_number dc_is_number pm_is_number cd_is_number ct_is_number oc_is_number_below kV_is_number_below dc_is_number_below pm_is_number_below cd_is_number_below ct_is_number_below oc_is_name kV_is_name dc_is_name pm_is_name cd_is_name ct_is_name oc_is_tuple_of kV_is_tuple_of dc_is_tuple_of pm_is_tuple_of cd_is_tuple_of ct_is_tuple_of oc_is_ascending kV_is_ascending dc_is_ascending pm_is_ascending cd_is_ascending ct_is_ascending oc_are_numbers_below kV_are_numbers_below dc_are_numbers_below pm_are_numbers_below cd_are_numbers_below ct_are_numbers_below oc_is_lot_below kV_is_lot_below dc_is_lot_below pm_is_lot_below cd_is_lot_below ct_is_lot_below oc_is_lot_of_names kV_is_lot_of_names dc_is_lot_of_names pm_is_lot_of_names cd_is_lot_of_names ct_is_lot_of_names oc_Refused_init kV_Refused_init dc_Refused_init pm_Refused_init cd_Refused_init ct_Refused_init oc_Table_init kV_Table_init dc_Table_init pm_Table_init cd_Table_init ct_Table_init oc_Table_eq kV_Table_eq dc_Table_eq pm_Table_eq cd_Table_eq ct_Table_eq oc_is_type_pair kV_is_type_pair dc_is_type_pair pm_is_type_pair cd_is_type_pair ct_is_type_pair oc_type_names kV_type_names dc_type_names pm_type_names cd_type_names ct_type_names oc_accepted kV_accepted dc_accepted pm_accepted cd_accepted ct_accepted oc_takers kV_takers dc_takers pm_takers cd_takers ct_takers oc_all_takers kV_all_takers dc_all_takers pm_all_takers cd_all_takers ct_all_takers oc_types_without kV_types_without dc_types_without pm_types_without cd_types_without ct_types_without oc_kinds_of_types kV_kinds_of_types dc_kinds_of_types pm_kinds_of_types cd_kinds_of_types ct_kinds_of_types oc_types_of_kinds kV_types_of_kinds dc_types_of_kinds pm_types_of_kinds cd_types_of_kinds ct_types_of_kinds oc_table_by_takers kV_table_by_takers dc_table_by_takers pm_table_by_takers cd_table_by_takers ct_table_by_takers oc_are_takers kV_are_takers dc_are_takers pm_are_takers cd_are_takers ct_are_takers oc_are_alike kV_are_alike dc_are_alike pm_are_alike cd_are_alike ct_are_alike oc__law_heap kV__law_heap dc__law_heap pm__law_heap cd__law_heap ct__law_heap oc__law_draw kV__law_draw dc__law_draw pm__law_draw cd__law_draw ct__law_draw oc__law_pick kV__law_pick dc__law_pick pm__law_pick cd__law_pick ct__law_pick oc__law_names kV__law_names dc__law_names pm__law_names cd__law_names ct__law_names oc__law_lot kV__law_lot dc__law_lot pm__law_lot cd__law_lot ct__law_lot oc__law_parts kV__law_parts dc__law_parts pm__law_parts cd__law_parts ct__law_parts oc__law_one_right kV__law_one_right dc__law_one_right pm__law_one_right cd__law_one_right ct__law_one_right oc__law_lots_right kV__law_lots_right dc__law_lots_right pm__law_lots_right cd__law_lots_right ct__law_lots_right oc__law_heard kV__law_heard dc__law_heard pm__law_heard cd__law_heard ct__law_heard oc__law_takers_right kV__law_takers_right dc__law_takers_right pm__law_takers_right cd__law_takers_right ct__law_takers_right oc_law kV_law dc_law pm_law cd_law ct_law : Value}
    (g_C : PySem.W.nsIn K mainGlobals "Table" = some (some (.ref C)))
    (g_CR : PySem.W.nsIn K mainGlobals "Refused" = some (some (.ref CR)))
    (g_CD : PySem.W.nsIn K mainGlobals "DeskError" = some (some (.ref CD)))
    (a_is_number : PySem.W.nsIn K mainGlobals "is_number" = some (some (.ref f_is_number)))
    (l_is_number : K.lookup f_is_number = some ⟨oc_is_number, od_is_number, .func (PySem.W.fnOf "is_number" "is_number" (defArgs s_is_number) (defBody s_is_number) (defScope s_is_number) .none kV_is_number dc_is_number pm_is_number an_is_number cd_is_number ct_is_number), sl_is_number⟩)
    (c_is_number : PySem.W.codeIn K cd_is_number "is_number" = true)
    (k_is_number : PySem.W.keepIn K (.ref f_is_number) = true)
    (a_is_number_below : PySem.W.nsIn K mainGlobals "is_number_below" = some (some (.ref f_is_number_below)))
    (l_is_number_below : K.lookup f_is_number_below = some ⟨oc_is_number_below, od_is_number_below, .func (PySem.W.fnOf "is_number_below" "is_number_below" (defArgs s_is_number_below) (defBody s_is_number_below) (defScope s_is_number_below) .none kV_is_number_below dc_is_number_below pm_is_number_below an_is_number_below cd_is_number_below ct_is_number_below), sl_is_number_below⟩)
    (c_is_number_below : PySem.W.codeIn K cd_is_number_below "is_number_below" = true)
    (k_is_number_below : PySem.W.keepIn K (.ref f_is_number_below) = true)
    (a_is_name : PySem.W.nsIn K mainGlobals "is_name" = some (some (.ref f_is_name)))
    (l_is_name : K.lookup f_is_name = some ⟨oc_is_name, od_is_name, .func (PySem.W.fnOf "is_name" "is_name" (defArgs s_is_name) (defBody s_is_name) (defScope s_is_name) .none kV_is_name dc_is_name pm_is_name an_is_name cd_is_name ct_is_name), sl_is_name⟩)
    (c_is_name : PySem.W.codeIn K cd_is_name "is_name" = true)
    (k_is_name : PySem.W.keepIn K (.ref f_is_name) = true)
    (a_is_tuple_of : PySem.W.nsIn K mainGlobals "is_tuple_of" = some (some (.ref f_is_tuple_of)))
    (l_is_tuple_of : K.lookup f_is_tuple_of = some ⟨oc_is_tuple_of, od_is_tuple_of, .func (PySem.W.fnOf "is_tuple_of" "is_tuple_of" (defArgs s_is_tuple_of) (defBody s_is_tuple_of) (defScope s_is_tuple_of) .none kV_is_tuple_of dc_is_tuple_of pm_is_tuple_of an_is_tuple_of cd_is_tuple_of ct_is_tuple_of), sl_is_tuple_of⟩)
    (c_is_tuple_of : PySem.W.codeIn K cd_is_tuple_of "is_tuple_of" = true)
    (k_is_tuple_of : PySem.W.keepIn K (.ref f_is_tuple_of) = true)
    (a_is_ascending : PySem.W.nsIn K mainGlobals "is_ascending" = some (some (.ref f_is_ascending)))
    (l_is_ascending : K.lookup f_is_ascending = some ⟨oc_is_ascending, od_is_ascending, .func (PySem.W.fnOf "is_ascending" "is_ascending" (defArgs s_is_ascending) (defBody s_is_ascending) (defScope s_is_ascending) .none kV_is_ascending dc_is_ascending pm_is_ascending an_is_ascending cd_is_ascending ct_is_ascending), sl_is_ascending⟩)
    (c_is_ascending : PySem.W.codeIn K cd_is_ascending "is_ascending" = true)
    (k_is_ascending : PySem.W.keepIn K (.ref f_is_ascending) = true)
    (a_are_numbers_below : PySem.W.nsIn K mainGlobals "are_numbers_below" = some (some (.ref f_are_numbers_below)))
    (l_are_numbers_below : K.lookup f_are_numbers_below = some ⟨oc_are_numbers_below, od_are_numbers_below, .func (PySem.W.fnOf "are_numbers_below" "are_numbers_below" (defArgs s_are_numbers_below) (defBody s_are_numbers_below) (defScope s_are_numbers_below) .none kV_are_numbers_below dc_are_numbers_below pm_are_numbers_below an_are_numbers_below cd_are_numbers_below ct_are_numbers_below), sl_are_numbers_below⟩)
    (c_are_numbers_below : PySem.W.codeIn K cd_are_numbers_below "are_numbers_below" = true)
    (k_are_numbers_below : PySem.W.keepIn K (.ref f_are_numbers_below) = true)
    (a_is_lot_below : PySem.W.nsIn K mainGlobals "is_lot_below" = some (some (.ref f_is_lot_below)))
    (l_is_lot_below : K.lookup f_is_lot_below = some ⟨oc_is_lot_below, od_is_lot_below, .func (PySem.W.fnOf "is_lot_below" "is_lot_below" (defArgs s_is_lot_below) (defBody s_is_lot_below) (defScope s_is_lot_below) .none kV_is_lot_below dc_is_lot_below pm_is_lot_below an_is_lot_below cd_is_lot_below ct_is_lot_below), sl_is_lot_below⟩)
    (c_is_lot_below : PySem.W.codeIn K cd_is_lot_below "is_lot_below" = true)
    (k_is_lot_below : PySem.W.keepIn K (.ref f_is_lot_below) = true)
    (a_is_lot_of_names : PySem.W.nsIn K mainGlobals "is_lot_of_names" = some (some (.ref f_is_lot_of_names)))
    (l_is_lot_of_names : K.lookup f_is_lot_of_names = some ⟨oc_is_lot_of_names, od_is_lot_of_names, .func (PySem.W.fnOf "is_lot_of_names" "is_lot_of_names" (defArgs s_is_lot_of_names) (defBody s_is_lot_of_names) (defScope s_is_lot_of_names) .none kV_is_lot_of_names dc_is_lot_of_names pm_is_lot_of_names an_is_lot_of_names cd_is_lot_of_names ct_is_lot_of_names), sl_is_lot_of_names⟩)
    (c_is_lot_of_names : PySem.W.codeIn K cd_is_lot_of_names "is_lot_of_names" = true)
    (k_is_lot_of_names : PySem.W.keepIn K (.ref f_is_lot_of_names) = true)
    (a_Refused_init : PySem.W.findIn K (.ref CR) "__init__" = some (some (.ref f_Refused_init)))
    (l_Refused_init : K.lookup f_Refused_init = some ⟨oc_Refused_init, od_Refused_init, .func (PySem.W.fnOf "__init__" "Refused.__init__" (defArgs s_Refused_init) (defBody s_Refused_init) (defScope s_Refused_init) .none kV_Refused_init dc_Refused_init pm_Refused_init an_Refused_init cd_Refused_init ct_Refused_init), sl_Refused_init⟩)
    (c_Refused_init : PySem.W.codeIn K cd_Refused_init "Refused.__init__" = true)
    (k_Refused_init : PySem.W.keepIn K (.ref f_Refused_init) = true)
    (i_Refused_init : PySem.W.isFn K (.ref f_Refused_init) = true)
    (a_Table_init : PySem.W.findIn K (.ref C) "__init__" = some (some (.ref f_Table_init)))
    (l_Table_init : K.lookup f_Table_init = some ⟨oc_Table_init, od_Table_init, .func (PySem.W.fnOf "__init__" "Table.__init__" (defArgs s_Table_init) (defBody s_Table_init) (defScope s_Table_init) .none kV_Table_init dc_Table_init pm_Table_init an_Table_init cd_Table_init ct_Table_init), sl_Table_init⟩)
    (c_Table_init : PySem.W.codeIn K cd_Table_init "Table.__init__" = true)
    (k_Table_init : PySem.W.keepIn K (.ref f_Table_init) = true)
    (i_Table_init : PySem.W.isFn K (.ref f_Table_init) = true)
    (a_Table_eq : PySem.W.findIn K (.ref C) "__eq__" = some (some (.ref f_Table_eq)))
    (l_Table_eq : K.lookup f_Table_eq = some ⟨oc_Table_eq, od_Table_eq, .func (PySem.W.fnOf "__eq__" "Table.__eq__" (defArgs s_Table_eq) (defBody s_Table_eq) (defScope s_Table_eq) .none kV_Table_eq dc_Table_eq pm_Table_eq an_Table_eq cd_Table_eq ct_Table_eq), sl_Table_eq⟩)
    (c_Table_eq : PySem.W.codeIn K cd_Table_eq "Table.__eq__" = true)
    (k_Table_eq : PySem.W.keepIn K (.ref f_Table_eq) = true)
    (i_Table_eq : PySem.W.isFn K (.ref f_Table_eq) = true)
    (a_is_type_pair : PySem.W.nsIn K mainGlobals "is_type_pair" = some (some (.ref f_is_type_pair)))
    (l_is_type_pair : K.lookup f_is_type_pair = some ⟨oc_is_type_pair, od_is_type_pair, .func (PySem.W.fnOf "is_type_pair" "is_type_pair" (defArgs s_is_type_pair) (defBody s_is_type_pair) (defScope s_is_type_pair) .none kV_is_type_pair dc_is_type_pair pm_is_type_pair an_is_type_pair cd_is_type_pair ct_is_type_pair), sl_is_type_pair⟩)
    (c_is_type_pair : PySem.W.codeIn K cd_is_type_pair "is_type_pair" = true)
    (k_is_type_pair : PySem.W.keepIn K (.ref f_is_type_pair) = true)
    (a_type_names : PySem.W.nsIn K mainGlobals "type_names" = some (some (.ref f_type_names)))
    (l_type_names : K.lookup f_type_names = some ⟨oc_type_names, od_type_names, .func (PySem.W.fnOf "type_names" "type_names" (defArgs s_type_names) (defBody s_type_names) (defScope s_type_names) .none kV_type_names dc_type_names pm_type_names an_type_names cd_type_names ct_type_names), sl_type_names⟩)
    (c_type_names : PySem.W.codeIn K cd_type_names "type_names" = true)
    (k_type_names : PySem.W.keepIn K (.ref f_type_names) = true)
    (a_accepted : PySem.W.nsIn K mainGlobals "accepted" = some (some (.ref f_accepted)))
    (l_accepted : K.lookup f_accepted = some ⟨oc_accepted, od_accepted, .func (PySem.W.fnOf "accepted" "accepted" (defArgs s_accepted) (defBody s_accepted) (defScope s_accepted) .none kV_accepted dc_accepted pm_accepted an_accepted cd_accepted ct_accepted), sl_accepted⟩)
    (c_accepted : PySem.W.codeIn K cd_accepted "accepted" = true)
    (k_accepted : PySem.W.keepIn K (.ref f_accepted) = true)
    (a_takers : PySem.W.nsIn K mainGlobals "takers" = some (some (.ref f_takers)))
    (l_takers : K.lookup f_takers = some ⟨oc_takers, od_takers, .func (PySem.W.fnOf "takers" "takers" (defArgs s_takers) (defBody s_takers) (defScope s_takers) .none kV_takers dc_takers pm_takers an_takers cd_takers ct_takers), sl_takers⟩)
    (c_takers : PySem.W.codeIn K cd_takers "takers" = true)
    (k_takers : PySem.W.keepIn K (.ref f_takers) = true)
    (a_all_takers : PySem.W.nsIn K mainGlobals "all_takers" = some (some (.ref f_all_takers)))
    (l_all_takers : K.lookup f_all_takers = some ⟨oc_all_takers, od_all_takers, .func (PySem.W.fnOf "all_takers" "all_takers" (defArgs s_all_takers) (defBody s_all_takers) (defScope s_all_takers) .none kV_all_takers dc_all_takers pm_all_takers an_all_takers cd_all_takers ct_all_takers), sl_all_takers⟩)
    (c_all_takers : PySem.W.codeIn K cd_all_takers "all_takers" = true)
    (k_all_takers : PySem.W.keepIn K (.ref f_all_takers) = true)
    (a_types_without : PySem.W.nsIn K mainGlobals "types_without" = some (some (.ref f_types_without)))
    (l_types_without : K.lookup f_types_without = some ⟨oc_types_without, od_types_without, .func (PySem.W.fnOf "types_without" "types_without" (defArgs s_types_without) (defBody s_types_without) (defScope s_types_without) .none kV_types_without dc_types_without pm_types_without an_types_without cd_types_without ct_types_without), sl_types_without⟩)
    (c_types_without : PySem.W.codeIn K cd_types_without "types_without" = true)
    (k_types_without : PySem.W.keepIn K (.ref f_types_without) = true)
    (a_kinds_of_types : PySem.W.nsIn K mainGlobals "kinds_of_types" = some (some (.ref f_kinds_of_types)))
    (l_kinds_of_types : K.lookup f_kinds_of_types = some ⟨oc_kinds_of_types, od_kinds_of_types, .func (PySem.W.fnOf "kinds_of_types" "kinds_of_types" (defArgs s_kinds_of_types) (defBody s_kinds_of_types) (defScope s_kinds_of_types) .none kV_kinds_of_types dc_kinds_of_types pm_kinds_of_types an_kinds_of_types cd_kinds_of_types ct_kinds_of_types), sl_kinds_of_types⟩)
    (c_kinds_of_types : PySem.W.codeIn K cd_kinds_of_types "kinds_of_types" = true)
    (k_kinds_of_types : PySem.W.keepIn K (.ref f_kinds_of_types) = true)
    (a_types_of_kinds : PySem.W.nsIn K mainGlobals "types_of_kinds" = some (some (.ref f_types_of_kinds)))
    (l_types_of_kinds : K.lookup f_types_of_kinds = some ⟨oc_types_of_kinds, od_types_of_kinds, .func (PySem.W.fnOf "types_of_kinds" "types_of_kinds" (defArgs s_types_of_kinds) (defBody s_types_of_kinds) (defScope s_types_of_kinds) .none kV_types_of_kinds dc_types_of_kinds pm_types_of_kinds an_types_of_kinds cd_types_of_kinds ct_types_of_kinds), sl_types_of_kinds⟩)
    (c_types_of_kinds : PySem.W.codeIn K cd_types_of_kinds "types_of_kinds" = true)
    (k_types_of_kinds : PySem.W.keepIn K (.ref f_types_of_kinds) = true)
    (a_table_by_takers : PySem.W.nsIn K mainGlobals "table_by_takers" = some (some (.ref f_table_by_takers)))
    (l_table_by_takers : K.lookup f_table_by_takers = some ⟨oc_table_by_takers, od_table_by_takers, .func (PySem.W.fnOf "table_by_takers" "table_by_takers" (defArgs s_table_by_takers) (defBody s_table_by_takers) (defScope s_table_by_takers) .none kV_table_by_takers dc_table_by_takers pm_table_by_takers an_table_by_takers cd_table_by_takers ct_table_by_takers), sl_table_by_takers⟩)
    (c_table_by_takers : PySem.W.codeIn K cd_table_by_takers "table_by_takers" = true)
    (k_table_by_takers : PySem.W.keepIn K (.ref f_table_by_takers) = true)
    (a_are_takers : PySem.W.nsIn K mainGlobals "are_takers" = some (some (.ref f_are_takers)))
    (l_are_takers : K.lookup f_are_takers = some ⟨oc_are_takers, od_are_takers, .func (PySem.W.fnOf "are_takers" "are_takers" (defArgs s_are_takers) (defBody s_are_takers) (defScope s_are_takers) .none kV_are_takers dc_are_takers pm_are_takers an_are_takers cd_are_takers ct_are_takers), sl_are_takers⟩)
    (c_are_takers : PySem.W.codeIn K cd_are_takers "are_takers" = true)
    (k_are_takers : PySem.W.keepIn K (.ref f_are_takers) = true)
    (a_are_alike : PySem.W.nsIn K mainGlobals "are_alike" = some (some (.ref f_are_alike)))
    (l_are_alike : K.lookup f_are_alike = some ⟨oc_are_alike, od_are_alike, .func (PySem.W.fnOf "are_alike" "are_alike" (defArgs s_are_alike) (defBody s_are_alike) (defScope s_are_alike) .none kV_are_alike dc_are_alike pm_are_alike an_are_alike cd_are_alike ct_are_alike), sl_are_alike⟩)
    (c_are_alike : PySem.W.codeIn K cd_are_alike "are_alike" = true)
    (k_are_alike : PySem.W.keepIn K (.ref f_are_alike) = true)
    (a__law_heap : PySem.W.nsIn K mainGlobals "_law_heap" = some (some (.ref f__law_heap)))
    (l__law_heap : K.lookup f__law_heap = some ⟨oc__law_heap, od__law_heap, .func (PySem.W.fnOf "_law_heap" "_law_heap" (defArgs s__law_heap) (defBody s__law_heap) (defScope s__law_heap) .none kV__law_heap dc__law_heap pm__law_heap an__law_heap cd__law_heap ct__law_heap), sl__law_heap⟩)
    (c__law_heap : PySem.W.codeIn K cd__law_heap "_law_heap" = true)
    (k__law_heap : PySem.W.keepIn K (.ref f__law_heap) = true)
    (a__law_draw : PySem.W.nsIn K mainGlobals "_law_draw" = some (some (.ref f__law_draw)))
    (l__law_draw : K.lookup f__law_draw = some ⟨oc__law_draw, od__law_draw, .func (PySem.W.fnOf "_law_draw" "_law_draw" (defArgs s__law_draw) (defBody s__law_draw) (defScope s__law_draw) .none kV__law_draw dc__law_draw pm__law_draw an__law_draw cd__law_draw ct__law_draw), sl__law_draw⟩)
    (c__law_draw : PySem.W.codeIn K cd__law_draw "_law_draw" = true)
    (k__law_draw : PySem.W.keepIn K (.ref f__law_draw) = true)
    (a__law_pick : PySem.W.nsIn K mainGlobals "_law_pick" = some (some (.ref f__law_pick)))
    (l__law_pick : K.lookup f__law_pick = some ⟨oc__law_pick, od__law_pick, .func (PySem.W.fnOf "_law_pick" "_law_pick" (defArgs s__law_pick) (defBody s__law_pick) (defScope s__law_pick) .none kV__law_pick dc__law_pick pm__law_pick an__law_pick cd__law_pick ct__law_pick), sl__law_pick⟩)
    (c__law_pick : PySem.W.codeIn K cd__law_pick "_law_pick" = true)
    (k__law_pick : PySem.W.keepIn K (.ref f__law_pick) = true)
    (a__law_names : PySem.W.nsIn K mainGlobals "_law_names" = some (some (.ref f__law_names)))
    (l__law_names : K.lookup f__law_names = some ⟨oc__law_names, od__law_names, .func (PySem.W.fnOf "_law_names" "_law_names" (defArgs s__law_names) (defBody s__law_names) (defScope s__law_names) .none kV__law_names dc__law_names pm__law_names an__law_names cd__law_names ct__law_names), sl__law_names⟩)
    (c__law_names : PySem.W.codeIn K cd__law_names "_law_names" = true)
    (k__law_names : PySem.W.keepIn K (.ref f__law_names) = true)
    (a__law_lot : PySem.W.nsIn K mainGlobals "_law_lot" = some (some (.ref f__law_lot)))
    (l__law_lot : K.lookup f__law_lot = some ⟨oc__law_lot, od__law_lot, .func (PySem.W.fnOf "_law_lot" "_law_lot" (defArgs s__law_lot) (defBody s__law_lot) (defScope s__law_lot) .none kV__law_lot dc__law_lot pm__law_lot an__law_lot cd__law_lot ct__law_lot), sl__law_lot⟩)
    (c__law_lot : PySem.W.codeIn K cd__law_lot "_law_lot" = true)
    (k__law_lot : PySem.W.keepIn K (.ref f__law_lot) = true)
    (a__law_parts : PySem.W.nsIn K mainGlobals "_law_parts" = some (some (.ref f__law_parts)))
    (l__law_parts : K.lookup f__law_parts = some ⟨oc__law_parts, od__law_parts, .func (PySem.W.fnOf "_law_parts" "_law_parts" (defArgs s__law_parts) (defBody s__law_parts) (defScope s__law_parts) .none kV__law_parts dc__law_parts pm__law_parts an__law_parts cd__law_parts ct__law_parts), sl__law_parts⟩)
    (c__law_parts : PySem.W.codeIn K cd__law_parts "_law_parts" = true)
    (k__law_parts : PySem.W.keepIn K (.ref f__law_parts) = true)
    (a__law_one_right : PySem.W.nsIn K mainGlobals "_law_one_right" = some (some (.ref f__law_one_right)))
    (l__law_one_right : K.lookup f__law_one_right = some ⟨oc__law_one_right, od__law_one_right, .func (PySem.W.fnOf "_law_one_right" "_law_one_right" (defArgs s__law_one_right) (defBody s__law_one_right) (defScope s__law_one_right) .none kV__law_one_right dc__law_one_right pm__law_one_right an__law_one_right cd__law_one_right ct__law_one_right), sl__law_one_right⟩)
    (c__law_one_right : PySem.W.codeIn K cd__law_one_right "_law_one_right" = true)
    (k__law_one_right : PySem.W.keepIn K (.ref f__law_one_right) = true)
    (a__law_lots_right : PySem.W.nsIn K mainGlobals "_law_lots_right" = some (some (.ref f__law_lots_right)))
    (l__law_lots_right : K.lookup f__law_lots_right = some ⟨oc__law_lots_right, od__law_lots_right, .func (PySem.W.fnOf "_law_lots_right" "_law_lots_right" (defArgs s__law_lots_right) (defBody s__law_lots_right) (defScope s__law_lots_right) .none kV__law_lots_right dc__law_lots_right pm__law_lots_right an__law_lots_right cd__law_lots_right ct__law_lots_right), sl__law_lots_right⟩)
    (c__law_lots_right : PySem.W.codeIn K cd__law_lots_right "_law_lots_right" = true)
    (k__law_lots_right : PySem.W.keepIn K (.ref f__law_lots_right) = true)
    (a__law_heard : PySem.W.nsIn K mainGlobals "_law_heard" = some (some (.ref f__law_heard)))
    (l__law_heard : K.lookup f__law_heard = some ⟨oc__law_heard, od__law_heard, .func (PySem.W.fnOf "_law_heard" "_law_heard" (defArgs s__law_heard) (defBody s__law_heard) (defScope s__law_heard) .none kV__law_heard dc__law_heard pm__law_heard an__law_heard cd__law_heard ct__law_heard), sl__law_heard⟩)
    (c__law_heard : PySem.W.codeIn K cd__law_heard "_law_heard" = true)
    (k__law_heard : PySem.W.keepIn K (.ref f__law_heard) = true)
    (a__law_takers_right : PySem.W.nsIn K mainGlobals "_law_takers_right" = some (some (.ref f__law_takers_right)))
    (l__law_takers_right : K.lookup f__law_takers_right = some ⟨oc__law_takers_right, od__law_takers_right, .func (PySem.W.fnOf "_law_takers_right" "_law_takers_right" (defArgs s__law_takers_right) (defBody s__law_takers_right) (defScope s__law_takers_right) .none kV__law_takers_right dc__law_takers_right pm__law_takers_right an__law_takers_right cd__law_takers_right ct__law_takers_right), sl__law_takers_right⟩)
    (c__law_takers_right : PySem.W.codeIn K cd__law_takers_right "_law_takers_right" = true)
    (k__law_takers_right : PySem.W.keepIn K (.ref f__law_takers_right) = true)
    (a_law : PySem.W.nsIn K mainGlobals "law" = some (some (.ref f_law)))
    (l_law : K.lookup f_law = some ⟨oc_law, od_law, .func (PySem.W.fnOf "law" "law" (defArgs s_law) (defBody s_law) (defScope s_law) .none kV_law dc_law pm_law an_law cd_law ct_law), sl_law⟩)
    (c_law : PySem.W.codeIn K cd_law "law" = true)
    (k_law : PySem.W.keepIn K (.ref f_law) = true)
    (pg : PySem.W.plainGet K C Str.empty = true)
    (hd : PySem.W.hasDictIn K C = true)
    (po : PySem.W.plainOver K C = true)
    (sa : PySem.W.findIn K (.ref C) "__setattr__" = some (some (.builtin "object.__setattr__")))
    (nK : PySem.W.findIn K (.ref C) "kinds" = some none)
    (nT : PySem.W.findIn K (.ref C) "types" = some none)
    (mk : PySem.W.makesIn K C = true)
    (kpC : PySem.W.keepIn K (.ref C) = true)
    (xR : K.lookup CR = some (excClassObj nm qn CR Nn bs [.ref CD, .type "ValueError", .type "Exception", .type "BaseException", .type "object"] true sn sub ab col dd m0 m1 m2 m3 m5 "ValueError.__new__"))
    (saR : PySem.W.findIn K (.ref CR) "__setattr__" = some (some (.builtin "object.__setattr__")))
    (exC : PySem.W.subIn K (.ref CR) (.type "BaseException") = some true)
    (tyC : PySem.W.typeIn K (.ref CR) = some (.type "type"))
    (kCR : PySem.W.keepIn K (.ref CR) = true)
    (nW : PySem.W.findIn K (.ref CR) "word" = some none)
    (tI : PySem.W.typeIn K (.ref f_Refused_init) = some (.type "function"))
    (sRR : PySem.W.subIn K (.ref CR) (.ref CR) = some true)
    (sRD : PySem.W.subIn K (.ref CR) (.ref CD) = some true)
    (hCD : PySem.W.isClsIn K CD = true)
    (tCD : PySem.W.typeIn K (.ref CD) = some (.type "type"))
    (hg : PySem.W.findIn K (.ref CR) "__getattribute__" = some (some (.builtin "BaseException.__getattribute__")))
    (hk : PySem.W.findIn K (.ref CR) "__getattr__" = some none)
    (hdR : PySem.W.hasDictIn K CR = true)
    (haR : PySem.W.findIn K (.ref CR) "__class__" = some (some (.builtin "object.__class__")))
    (hn : PySem.W.specialIn K (.builtin "object.__class__") "__get__" = some (some (.builtin "getset_descriptor.__get__")))
    (ht : PySem.W.takesIn K (.builtin "object.__class__") = some true)
    (hm : PySem.W.mroIn K CR (.type "object") = some true)
    (haC : PySem.W.findIn K (.ref C) "__class__" = some (some (.builtin "object.__class__")))
    (hmC : PySem.W.mroIn K C (.type "object") = some true)
    (iC : PySem.W.isClsIn K C = true)
    (tC : PySem.W.typeIn K (.ref C) = some (.type "type"))
    (sCC : PySem.W.subIn K (.ref C) (.ref C) = some true)
    (v_MOST_LETTERS : PySem.W.nsIn K mainGlobals "MOST_LETTERS" = some (some (.int 8 t_MOST_LETTERS)))
    (v_MOST_KINDS : PySem.W.nsIn K mainGlobals "MOST_KINDS" = some (some (.int 8 t_MOST_KINDS)))
    (v_MOST_TYPES : PySem.W.nsIn K mainGlobals "MOST_TYPES" = some (some (.int 12 t_MOST_TYPES)))
    (z_isinstance : PySem.W.nsIn K mainGlobals "isinstance" = some none)
    (z_tuple : PySem.W.nsIn K mainGlobals "tuple" = some none)
    (z_len : PySem.W.nsIn K mainGlobals "len" = some none)
    (z_str : PySem.W.nsIn K mainGlobals "str" = some none)
    (z_all : PySem.W.nsIn K mainGlobals "all" = some none)
    (z_int : PySem.W.nsIn K mainGlobals "int" = some none)
    (z_bool : PySem.W.nsIn K mainGlobals "bool" = some none)
    (z_set : PySem.W.nsIn K mainGlobals "set" = some none)
    (z_range : PySem.W.nsIn K mainGlobals "range" = some none)
    (z_enumerate : PySem.W.nsIn K mainGlobals "enumerate" = some none)
    (z_any : PySem.W.nsIn K mainGlobals "any" = some none)
    (z_sorted : PySem.W.nsIn K mainGlobals "sorted" = some none)
    (z_abs : PySem.W.nsIn K mainGlobals "abs" = some none)
    (z_max : PySem.W.nsIn K mainGlobals "max" = some none)
    (z_repr : PySem.W.nsIn K mainGlobals "repr" = some none)
    (z_list : PySem.W.nsIn K mainGlobals "list" = some none)
    : ∃ fd : FuncData, (∀ (s : Shared) (v : Value), BindsTo s fd ⟨[v], []⟩ [("script", v)]) ∧ ∀ base : Heap, K.In base → base.Ns mainGlobals mg → FnG l.prog w K mg base 11 fa fd ["script"] (spLaw K) := by
  have e := hfa.symm.trans (PySem.W.mg_of X G a_law)
  cases e
  have F_is_number := fun_mk (st := s_is_number) l_is_number c_is_number k_is_number
  have F_is_number_below := fun_mk (st := s_is_number_below) l_is_number_below c_is_number_below k_is_number_below
  have F_is_name := fun_mk (st := s_is_name) l_is_name c_is_name k_is_name
  have F_is_tuple_of := fun_mk (st := s_is_tuple_of) l_is_tuple_of c_is_tuple_of k_is_tuple_of
  have F_is_ascending := fun_mk (st := s_is_ascending) l_is_ascending c_is_ascending k_is_ascending
  have F_are_numbers_below := fun_mk (st := s_are_numbers_below) l_are_numbers_below c_are_numbers_below k_are_numbers_below
  have F_is_lot_below := fun_mk (st := s_is_lot_below) l_is_lot_below c_is_lot_below k_is_lot_below
  have F_is_lot_of_names := fun_mk (st := s_is_lot_of_names) l_is_lot_of_names c_is_lot_of_names k_is_lot_of_names
  have F_Refused_init := fun_mk (st := s_Refused_init) l_Refused_init c_Refused_init k_Refused_init
  have F_Table_init := fun_mk (st := s_Table_init) l_Table_init c_Table_init k_Table_init
  have F_Table_eq := fun_mk (st := s_Table_eq) l_Table_eq c_Table_eq k_Table_eq
  have F_is_type_pair := fun_mk (st := s_is_type_pair) l_is_type_pair c_is_type_pair k_is_type_pair
  have F_type_names := fun_mk (st := s_type_names) l_type_names c_type_names k_type_names
  have F_accepted := fun_mk (st := s_accepted) l_accepted c_accepted k_accepted
  have F_takers := fun_mk (st := s_takers) l_takers c_takers k_takers
  have F_all_takers := fun_mk (st := s_all_takers) l_all_takers c_all_takers k_all_takers
  have F_types_without := fun_mk (st := s_types_without) l_types_without c_types_without k_types_without
  have F_kinds_of_types := fun_mk (st := s_kinds_of_types) l_kinds_of_types c_kinds_of_types k_kinds_of_types
  have F_types_of_kinds := fun_mk (st := s_types_of_kinds) l_types_of_kinds c_types_of_kinds k_types_of_kinds
  have F_table_by_takers := fun_mk (st := s_table_by_takers) l_table_by_takers c_table_by_takers k_table_by_takers
  have F_are_takers := fun_mk (st := s_are_takers) l_are_takers c_are_takers k_are_takers
  have F_are_alike := fun_mk (st := s_are_alike) l_are_alike c_are_alike k_are_alike
  have F__law_heap := fun_mk (st := s__law_heap) l__law_heap c__law_heap k__law_heap
  have F__law_draw := fun_mk (st := s__law_draw) l__law_draw c__law_draw k__law_draw
  have F__law_pick := fun_mk (st := s__law_pick) l__law_pick c__law_pick k__law_pick
  have F__law_names := fun_mk (st := s__law_names) l__law_names c__law_names k__law_names
  have F__law_lot := fun_mk (st := s__law_lot) l__law_lot c__law_lot k__law_lot
  have F__law_parts := fun_mk (st := s__law_parts) l__law_parts c__law_parts k__law_parts
  have F__law_one_right := fun_mk (st := s__law_one_right) l__law_one_right c__law_one_right k__law_one_right
  have F__law_lots_right := fun_mk (st := s__law_lots_right) l__law_lots_right c__law_lots_right k__law_lots_right
  have F__law_heard := fun_mk (st := s__law_heard) l__law_heard c__law_heard k__law_heard
  have F__law_takers_right := fun_mk (st := s__law_takers_right) l__law_takers_right c__law_takers_right k__law_takers_right
  have F_law := fun_mk (st := s_law) l_law c_law k_law
  have b_is_number := F_is_number.binds (ps := ["value"]) fun _ _ _ _ _ _ us hl => match us, hl with | [_], _ => rfl
  have b_is_number_below := F_is_number_below.binds (ps := ["value", "limit"]) fun _ _ _ _ _ _ us hl => match us, hl with | [_, _], _ => rfl
  have b_is_name := F_is_name.binds (ps := ["value"]) fun _ _ _ _ _ _ us hl => match us, hl with | [_], _ => rfl
  have b_is_tuple_of := F_is_tuple_of.binds (ps := ["value", "length"]) fun _ _ _ _ _ _ us hl => match us, hl with | [_, _], _ => rfl
  have b_is_ascending := F_is_ascending.binds (ps := ["items"]) fun _ _ _ _ _ _ us hl => match us, hl with | [_], _ => rfl
  have b_are_numbers_below := F_are_numbers_below.binds (ps := ["value", "limit"]) fun _ _ _ _ _ _ us hl => match us, hl with | [_, _], _ => rfl
  have b_is_lot_below := F_is_lot_below.binds (ps := ["value", "limit"]) fun _ _ _ _ _ _ us hl => match us, hl with | [_, _], _ => rfl
  have b_is_lot_of_names := F_is_lot_of_names.binds (ps := ["value"]) fun _ _ _ _ _ _ us hl => match us, hl with | [_], _ => rfl
  have b_Refused_init := F_Refused_init.binds (ps := ["self", "word"]) fun _ _ _ _ _ _ us hl => match us, hl with | [_, _], _ => rfl
  have b_Table_init := F_Table_init.binds (ps := ["self", "kinds", "types"]) fun _ _ _ _ _ _ us hl => match us, hl with | [_, _, _], _ => rfl
  have b_Table_eq := F_Table_eq.binds (ps := ["self", "other"]) fun _ _ _ _ _ _ us hl => match us, hl with | [_, _], _ => rfl
  have b_is_type_pair := F_is_type_pair.binds (ps := ["value", "many_kinds"]) fun _ _ _ _ _ _ us hl => match us, hl with | [_, _], _ => rfl
  have b_type_names := F_type_names.binds (ps := ["table"]) fun _ _ _ _ _ _ us hl => match us, hl with | [_], _ => rfl
  have b_accepted := F_accepted.binds (ps := ["table", "request"]) fun _ _ _ _ _ _ us hl => match us, hl with | [_, _], _ => rfl
  have b_takers := F_takers.binds (ps := ["table", "kind"]) fun _ _ _ _ _ _ us hl => match us, hl with | [_, _], _ => rfl
  have b_all_takers := F_all_takers.binds (ps := ["table"]) fun _ _ _ _ _ _ us hl => match us, hl with | [_], _ => rfl
  have b_types_without := F_types_without.binds (ps := ["table", "kind"]) fun _ _ _ _ _ _ us hl => match us, hl with | [_, _], _ => rfl
  have b_kinds_of_types := F_kinds_of_types.binds (ps := ["table", "types"]) fun _ _ _ _ _ _ us hl => match us, hl with | [_, _], _ => rfl
  have b_types_of_kinds := F_types_of_kinds.binds (ps := ["table", "kinds"]) fun _ _ _ _ _ _ us hl => match us, hl with | [_, _], _ => rfl
  have b_table_by_takers := F_table_by_takers.binds (ps := ["kinds", "types", "lots"]) fun _ _ _ _ _ _ us hl => match us, hl with | [_, _, _], _ => rfl
  have b_are_takers := F_are_takers.binds (ps := ["value", "many_types"]) fun _ _ _ _ _ _ us hl => match us, hl with | [_, _], _ => rfl
  have b_are_alike := F_are_alike.binds (ps := ["table", "one", "other"]) fun _ _ _ _ _ _ us hl => match us, hl with | [_, _, _], _ => rfl
  have b__law_heap := F__law_heap.binds (ps := ["script"]) fun _ _ _ _ _ _ us hl => match us, hl with | [_], _ => rfl
  have b__law_draw := F__law_draw.binds (ps := ["heap", "many"]) fun _ _ _ _ _ _ us hl => match us, hl with | [_, _], _ => rfl
  have b__law_pick := F__law_pick.binds (ps := ["heap", "some"]) fun _ _ _ _ _ _ us hl => match us, hl with | [_, _], _ => rfl
  have b__law_names := F__law_names.binds (ps := ["heap", "many"]) fun _ _ _ _ _ _ us hl => match us, hl with | [_, _], _ => rfl
  have b__law_lot := F__law_lot.binds (ps := ["heap", "many", "share"]) fun _ _ _ _ _ _ us hl => match us, hl with | [_, _, _], _ => rfl
  have b__law_parts := F__law_parts.binds (ps := ["heap", "kinds", "types"]) fun _ _ _ _ _ _ us hl => match us, hl with | [_, _, _], _ => rfl
  have b__law_one_right := F__law_one_right.binds (ps := ["table", "truths"]) fun _ _ _ _ _ _ us hl => match us, hl with | [_, _], _ => rfl
  have b__law_lots_right := F__law_lots_right.binds (ps := ["heap", "table", "truths"]) fun _ _ _ _ _ _ us hl => match us, hl with | [_, _, _], _ => rfl
  have b__law_heard := F__law_heard.binds (ps := ["kinds", "types", "lots"]) fun _ _ _ _ _ _ us hl => match us, hl with | [_, _, _], _ => rfl
  have b__law_takers_right := F__law_takers_right.binds (ps := ["heap", "table", "truths"]) fun _ _ _ _ _ _ us hl => match us, hl with | [_, _, _], _ => rfl
  have kw_accepted := kwB_of (ps := ["table", "request"]) (ks := ["request", "table"]) (g := List.reverse) F_accepted fun _ _ _ _ _ _ ws hl => match ws, hl with | [_, _], _ => rfl
  have kw_takers := kwB_of (ps := ["table", "kind"]) (ks := ["kind", "table"]) (g := List.reverse) F_takers fun _ _ _ _ _ _ ws hl => match ws, hl with | [_, _], _ => rfl
  have kw_types_without := kwB_of (ps := ["table", "kind"]) (ks := ["kind", "table"]) (g := List.reverse) F_types_without fun _ _ _ _ _ _ ws hl => match ws, hl with | [_, _], _ => rfl
  have kw_all_takers := kwB_of (ps := ["table"]) (ks := ["table"]) (g := id) F_all_takers fun _ _ _ _ _ _ ws hl => match ws, hl with | [_], _ => rfl
  have kw_are_alike := kwB_of (ps := ["table", "one", "other"]) (ks := ["one", "other", "table"]) (g := rot2) F_are_alike fun _ _ _ _ _ _ ws hl => match ws, hl with | [_, _, _], _ => rfl
  have kw_types_of_kinds := kwB_of (ps := ["table", "kinds"]) (ks := ["kinds", "table"]) (g := List.reverse) F_types_of_kinds fun _ _ _ _ _ _ ws hl => match ws, hl with | [_, _], _ => rfl
  have kw_kinds_of_types := kwB_of (ps := ["table", "types"]) (ks := ["types", "table"]) (g := List.reverse) F_kinds_of_types fun _ _ _ _ _ _ ws hl => match ws, hl with | [_, _], _ => rfl
  have kw_table_by_takers := kwB_of (ps := ["kinds", "types", "lots"]) (ks := ["lots", "types", "kinds"]) (g := List.reverse) F_table_by_takers fun _ _ _ _ _ _ ws hl => match ws, hl with | [_, _, _], _ => rfl
  have cl : Cls K C := ⟨pg, hd, po, sa⟩
  have T : TTxt K mg C := ⟨cl, nK, nT, PySem.W.mg_of X G g_C⟩
  have M : Mk K C f_Table_init := ⟨mk, a_Table_init, i_Table_init, kpC⟩
  have ox : OexC K CR := ⟨⟨nm, qn, Nn, bs, _, sn, sub, ab, col, dd, m0, m1, m2, m3, m5, xR, rfl⟩, saR, exC, tyC, kCR⟩
  have TR : RTxt K mg CR f_Refused_init := ⟨ox, nW, a_Refused_init, tI, PySem.W.mg_of X G g_CR⟩
  have TE : ETx K mg CR CD := ⟨PySem.W.mg_of X G g_CD, PySem.W.exm_ref exC hdR tyC sRR, kit_yes hCD tCD sRD, ⟨hg, hk, exC, hdR, haR, hn, ht, hm⟩, ⟨hg, hk, exC, hdR⟩⟩
  have TQ : TEq K C := ⟨haC, hn, ht, hmC, kit_yes iC tC sCC⟩
  refine ⟨PySem.W.fnOf "law" "law" (defArgs s_law) (defBody s_law) (defScope s_law) .none kV_law dc_law pm_law an_law cd_law ct_law, fun s v => .of_eq rfl, fun base _ _ => ?_⟩
  have G_is_tuple_of := ok_tupOf (P := l.prog) (w := w) (base := base) (k := 0) F_is_tuple_of (PySem.W.mg_none_of X G z_isinstance) (PySem.W.mg_none_of X G z_tuple) (PySem.W.mg_none_of X G z_len)
  have G_is_name := ok_name (P := l.prog) (w := w) (base := base) (k := 0) F_is_name (PySem.W.mg_of X G v_MOST_LETTERS) (PySem.W.mg_none_of X G z_isinstance) (PySem.W.mg_none_of X G z_str) (PySem.W.mg_none_of X G z_len) (PySem.W.mg_none_of X G z_all)
  have G_are_numbers_below := ok_nums (P := l.prog) (w := w) (base := base) (k := 0) F_are_numbers_below F_is_number_below F_is_number b_is_number b_is_number_below (PySem.W.mg_of X G a_is_number) (PySem.W.mg_of X G a_is_number_below) (PySem.W.mg_none_of X G z_isinstance) (PySem.W.mg_none_of X G z_int) (PySem.W.mg_none_of X G z_bool) (PySem.W.mg_none_of X G z_tuple) (PySem.W.mg_none_of X G z_all)
  have G_are_takers := ok_tks (P := l.prog) (w := w) (base := base) (k := 3) F_are_takers F_are_numbers_below b_are_numbers_below (PySem.W.mg_of X G a_are_numbers_below) (G_are_numbers_below.mono (by decide)) (PySem.W.mg_none_of X G z_len) (PySem.W.mg_none_of X G z_set)
  have G_Refused_init := ok_iref (P := l.prog) (w := w) (base := base) (k := 0) F_Refused_init TR
  have G_is_lot_of_names := ok_lotN (P := l.prog) (w := w) (base := base) (k := 0) F_is_lot_of_names F_is_name F_is_ascending b_is_name b_is_ascending (PySem.W.mg_of X G a_is_name) (PySem.W.mg_of X G a_is_ascending) (PySem.W.mg_of X G v_MOST_LETTERS) (PySem.W.mg_none_of X G z_isinstance) (PySem.W.mg_none_of X G z_str) (PySem.W.mg_none_of X G z_tuple) (PySem.W.mg_none_of X G z_all) (PySem.W.mg_none_of X G z_range) (PySem.W.mg_none_of X G z_len)
  have G_is_lot_below := ok_lot (P := l.prog) (w := w) (base := base) (k := 0) F_is_lot_below F_are_numbers_below F_is_ascending F_is_number_below F_is_number b_are_numbers_below b_is_ascending b_is_number b_is_number_below (PySem.W.mg_of X G a_are_numbers_below) (PySem.W.mg_of X G a_is_ascending) (PySem.W.mg_of X G a_is_number) (PySem.W.mg_of X G a_is_number_below) (PySem.W.mg_none_of X G z_isinstance) (PySem.W.mg_none_of X G z_int) (PySem.W.mg_none_of X G z_bool) (PySem.W.mg_none_of X G z_tuple) (PySem.W.mg_none_of X G z_all) (PySem.W.mg_none_of X G z_range) (PySem.W.mg_none_of X G z_len)
  have G_is_type_pair := ok_pair (P := l.prog) (w := w) (base := base) (k := 4) F_is_type_pair F_is_tuple_of F_is_name F_is_lot_below b_is_tuple_of b_is_name b_is_lot_below (PySem.W.mg_of X G a_is_tuple_of) (PySem.W.mg_of X G a_is_name) (PySem.W.mg_of X G a_is_lot_below) (G_is_tuple_of.mono (by decide)) (G_is_name.mono (by decide)) (G_is_lot_below.mono (by decide))
  have G_Table_init := ok_tinit (P := l.prog) (w := w) (base := base) (k := 5) F_Table_init T F_is_lot_of_names F_is_type_pair b_is_lot_of_names b_is_type_pair (PySem.W.mg_of X G a_is_lot_of_names) (PySem.W.mg_of X G a_is_type_pair) (PySem.W.mg_of X G v_MOST_KINDS) (PySem.W.mg_of X G v_MOST_TYPES) (G_is_lot_of_names.mono (by decide)) (G_is_type_pair.mono (by decide)) (PySem.W.mg_none_of X G z_isinstance) (PySem.W.mg_none_of X G z_tuple) (PySem.W.mg_none_of X G z_len) (PySem.W.mg_none_of X G z_enumerate)
  have G_table_by_takers := ok_tbt (P := l.prog) (w := w) (base := base) (k := 6) F_table_by_takers T M F_is_tuple_of F_are_takers TR b_is_tuple_of b_are_takers b_Table_init b_Refused_init (PySem.W.mg_of X G a_is_tuple_of) (PySem.W.mg_of X G a_are_takers) (G_is_tuple_of.mono (by decide)) (G_are_takers.mono (by decide)) (G_Table_init.mono (by decide)) (G_Refused_init.mono (by decide)) (PySem.W.mg_none_of X G z_tuple) (PySem.W.mg_none_of X G z_len) (PySem.W.mg_none_of X G z_all) (PySem.W.mg_none_of X G z_enumerate)
  have G_type_names := ok_tnames (P := l.prog) (w := w) (base := base) (k := 0) F_type_names T (PySem.W.mg_none_of X G z_tuple)
  have G_accepted := ok_acc (P := l.prog) (w := w) (base := base) (k := 0) F_accepted T
  have G_types_of_kinds := ok_tof (P := l.prog) (w := w) (base := base) (k := 0) F_types_of_kinds T (PySem.W.mg_none_of X G z_tuple) (PySem.W.mg_none_of X G z_enumerate) (PySem.W.mg_none_of X G z_any)
  have G_takers := ok_takers (P := l.prog) (w := w) (base := base) (k := 1) F_takers F_types_of_kinds b_types_of_kinds (PySem.W.mg_of X G a_types_of_kinds) (G_types_of_kinds.mono (by decide))
  have G_are_alike := ok_alike (P := l.prog) (w := w) (base := base) (k := 2) F_are_alike F_takers b_takers (PySem.W.mg_of X G a_takers) (G_takers.mono (by decide))
  have G_types_without := ok_without (P := l.prog) (w := w) (base := base) (k := 0) F_types_without T (PySem.W.mg_none_of X G z_tuple) (PySem.W.mg_none_of X G z_enumerate)
  have G_all_takers := ok_all (P := l.prog) (w := w) (base := base) (k := 2) F_all_takers T F_takers b_takers (PySem.W.mg_of X G a_takers) (G_takers.mono (by decide)) (PySem.W.mg_none_of X G z_tuple) (PySem.W.mg_none_of X G z_range) (PySem.W.mg_none_of X G z_len)
  have G_kinds_of_types := ok_kof (P := l.prog) (w := w) (base := base) (k := 0) F_kinds_of_types T (PySem.W.mg_none_of X G z_tuple) (PySem.W.mg_none_of X G z_sorted)
  have G__law_draw := ok_draw (P := l.prog) (w := w) (base := base) (k := 0) F__law_draw (PySem.W.mg_none_of X G z_int)
  have G__law_pick := ok_pick (P := l.prog) (w := w) (base := base) (k := 0) F__law_pick F__law_draw b__law_draw (PySem.W.mg_of X G a__law_draw) (PySem.W.mg_none_of X G z_len) (PySem.W.mg_none_of X G z_int)
  have G__law_heap := ok_heap (P := l.prog) (w := w) (base := base) (k := 0) F__law_heap (PySem.W.mg_none_of X G z_abs) (PySem.W.mg_none_of X G z_int)
  have G__law_lot := ok_llot (P := l.prog) (w := w) (base := base) (k := 0) F__law_lot F__law_draw b__law_draw (PySem.W.mg_of X G a__law_draw) (PySem.W.mg_none_of X G z_int) (PySem.W.mg_none_of X G z_range) (PySem.W.mg_none_of X G z_tuple)
  have G__law_parts := ok_parts (P := l.prog) (w := w) (base := base) (k := 0) F__law_parts F__law_draw F__law_pick F__law_names F__law_lot b__law_draw b__law_pick b__law_names b__law_lot (PySem.W.mg_of X G a__law_draw) (PySem.W.mg_of X G a__law_pick) (PySem.W.mg_of X G a__law_names) (PySem.W.mg_of X G a__law_lot) (PySem.W.mg_none_of X G z_len) (PySem.W.mg_none_of X G z_int) (PySem.W.mg_none_of X G z_range) (PySem.W.mg_none_of X G z_tuple) (PySem.W.mg_none_of X G z_sorted) (PySem.W.mg_none_of X G z_max)
  have G_Table_eq := ok_eq (P := l.prog) (w := w) (base := base) (k := 0) F_Table_eq T TQ (PySem.W.mg_none_of X G z_isinstance)
  have G__law_one_right := ok_one (P := l.prog) (w := w) (base := base) (k := 3) F__law_one_right T F_accepted F_takers F_types_without F_all_takers F_are_alike b_accepted b_takers b_types_without b_all_takers b_are_alike kw_accepted kw_takers kw_types_without kw_all_takers kw_are_alike (PySem.W.mg_of X G a_accepted) (PySem.W.mg_of X G a_takers) (PySem.W.mg_of X G a_types_without) (PySem.W.mg_of X G a_all_takers) (PySem.W.mg_of X G a_are_alike) (G_accepted.mono (by decide)) (G_takers.mono (by decide)) (G_types_without.mono (by decide)) (G_all_takers.mono (by decide)) (G_are_alike.mono (by decide)) (PySem.W.mg_none_of X G z_len) (PySem.W.mg_none_of X G z_range) (PySem.W.mg_none_of X G z_tuple) (PySem.W.mg_none_of X G z_repr)
  have G__law_lots_right := ok_lots (P := l.prog) (w := w) (base := base) (k := 2) F__law_lots_right T F__law_lot F_types_of_kinds F_kinds_of_types b__law_lot b_types_of_kinds b_kinds_of_types kw_types_of_kinds kw_kinds_of_types (PySem.W.mg_of X G a__law_lot) (PySem.W.mg_of X G a_types_of_kinds) (PySem.W.mg_of X G a_kinds_of_types) (G__law_lot.mono (by decide)) (G_types_of_kinds.mono (by decide)) (G_kinds_of_types.mono (by decide)) (PySem.W.mg_none_of X G z_len) (PySem.W.mg_none_of X G z_range) (PySem.W.mg_none_of X G z_tuple) (PySem.W.mg_none_of X G z_any) (PySem.W.mg_none_of X G z_repr)
  have G__law_heard := ok_heard (P := l.prog) (w := w) (base := base) (k := 8) F__law_heard TR TE F_table_by_takers b_table_by_takers (PySem.W.mg_of X G a_table_by_takers) (G_table_by_takers.mono (by decide)) (PySem.W.mg_none_of X G z_isinstance)
  have G__law_takers_right := ok_ltakers (P := l.prog) (w := w) (base := base) (k := 9) F__law_takers_right T F__law_draw F__law_pick F_type_names F_table_by_takers F__law_heard b__law_draw b__law_pick b_type_names b_table_by_takers b__law_heard b_Table_eq kw_table_by_takers (PySem.W.mg_of X G a__law_draw) (PySem.W.mg_of X G a__law_pick) (PySem.W.mg_of X G a_type_names) (PySem.W.mg_of X G a_table_by_takers) (PySem.W.mg_of X G a__law_heard) a_Table_eq i_Table_eq (G__law_draw.mono (by decide)) (G__law_pick.mono (by decide)) (G_type_names.mono (by decide)) (G_table_by_takers.mono (by decide)) (G__law_heard.mono (by decide)) (G_Table_eq.mono (by decide)) (PySem.W.mg_none_of X G z_len) (PySem.W.mg_none_of X G z_range) (PySem.W.mg_none_of X G z_tuple) (PySem.W.mg_none_of X G z_list)
  have G_law := ok_law (P := l.prog) (w := w) (base := base) (k := 9) F_law T M F__law_heap F__law_pick F__law_parts F__law_one_right F__law_lots_right F__law_takers_right F_takers F_kinds_of_types F_types_without F_table_by_takers b_Table_init b__law_heap b__law_pick b__law_parts b__law_one_right b__law_lots_right b__law_takers_right b_takers b_kinds_of_types b_types_without b_table_by_takers (PySem.W.mg_of X G a__law_heap) (PySem.W.mg_of X G a__law_pick) (PySem.W.mg_of X G a__law_parts) (PySem.W.mg_of X G a__law_one_right) (PySem.W.mg_of X G a__law_lots_right) (PySem.W.mg_of X G a__law_takers_right) (PySem.W.mg_of X G a_takers) (PySem.W.mg_of X G a_kinds_of_types) (PySem.W.mg_of X G a_types_without) (PySem.W.mg_of X G a_table_by_takers) (G_Table_init.mono (by decide)) (G__law_heap.mono (by decide)) (G__law_pick.mono (by decide)) (G__law_parts.mono (by decide)) (G__law_one_right.mono (by decide)) (G__law_lots_right.mono (by decide)) (G__law_takers_right.mono (by decide)) (G_takers.mono (by decide)) (G_kinds_of_types.mono (by decide)) (G_types_without.mono (by decide)) (G_table_by_takers.mono (by decide)) (PySem.W.mg_none_of X G z_len) (PySem.W.mg_none_of X G z_int) (PySem.W.mg_none_of X G z_range) (PySem.W.mg_none_of X G z_repr)
  exact G_law
end K2
open PySem PySem.W PyProof.Rows
set_option maxHeartbeats 0 in
theorem PySem.Challenge.cw_neverregret_k02_whole_takers_both_ways_holds : PySem.Challenge.rw_neverregret_k02_whole_takers_both_ways.Holds := by
  w_on; o_law; k_head; (case hw => w_witness2)
  k_fill
  refine Gd.walk_G (l := PySem.Challenge.rw_neverregret_k02_whole_takers_both_ways) (n := 63) (k := 11) (x := "script") (sp := fun w => K2.spLaw _) rfl (by decide) rfl ⟨rfl, by decide, by decide⟩ (fun w h Y => PySem.W.kIn_of Y) ?F (fun _ _ a ns hl _ _ hS => ⟨a, ns, rfl, hS, hl, fun _ => rfl⟩)
  case F =>
    intro w mg fa h KX G hmg
    refine' K2.all_mk KX G hmg ?g_C ?g_CR ?g_CD ?a_is_number ?l_is_number ?c_is_number ?k_is_number ?a_is_number_below ?l_is_number_below ?c_is_number_below ?k_is_number_below ?a_is_name ?l_is_name ?c_is_name ?k_is_name ?a_is_tuple_of ?l_is_tuple_of ?c_is_tuple_of ?k_is_tuple_of ?a_is_ascending ?l_is_ascending ?c_is_ascending ?k_is_ascending ?a_are_numbers_below ?l_are_numbers_below ?c_are_numbers_below ?k_are_numbers_below ?a_is_lot_below ?l_is_lot_below ?c_is_lot_below ?k_is_lot_below ?a_is_lot_of_names ?l_is_lot_of_names ?c_is_lot_of_names ?k_is_lot_of_names ?a_Refused_init ?l_Refused_init ?c_Refused_init ?k_Refused_init ?i_Refused_init ?a_Table_init ?l_Table_init ?c_Table_init ?k_Table_init ?i_Table_init ?a_Table_eq ?l_Table_eq ?c_Table_eq ?k_Table_eq ?i_Table_eq ?a_is_type_pair ?l_is_type_pair ?c_is_type_pair ?k_is_type_pair ?a_type_names ?l_type_names ?c_type_names ?k_type_names ?a_accepted ?l_accepted ?c_accepted ?k_accepted ?a_takers ?l_takers ?c_takers ?k_takers ?a_all_takers ?l_all_takers ?c_all_takers ?k_all_takers ?a_types_without ?l_types_without ?c_types_without ?k_types_without ?a_kinds_of_types ?l_kinds_of_types ?c_kinds_of_types ?k_kinds_of_types ?a_types_of_kinds ?l_types_of_kinds ?c_types_of_kinds ?k_types_of_kinds ?a_table_by_takers ?l_table_by_takers ?c_table_by_takers ?k_table_by_takers ?a_are_takers ?l_are_takers ?c_are_takers ?k_are_takers ?a_are_alike ?l_are_alike ?c_are_alike ?k_are_alike ?a__law_heap ?l__law_heap ?c__law_heap ?k__law_heap ?a__law_draw ?l__law_draw ?c__law_draw ?k__law_draw ?a__law_pick ?l__law_pick ?c__law_pick ?k__law_pick ?a__law_names ?l__law_names ?c__law_names ?k__law_names ?a__law_lot ?l__law_lot ?c__law_lot ?k__law_lot ?a__law_parts ?l__law_parts ?c__law_parts ?k__law_parts ?a__law_one_right ?l__law_one_right ?c__law_one_right ?k__law_one_right ?a__law_lots_right ?l__law_lots_right ?c__law_lots_right ?k__law_lots_right ?a__law_heard ?l__law_heard ?c__law_heard ?k__law_heard ?a__law_takers_right ?l__law_takers_right ?c__law_takers_right ?k__law_takers_right ?a_law ?l_law ?c_law ?k_law ?pg ?hd ?po ?sa ?nK ?nT ?mk ?kpC ?xR ?saR ?exC ?tyC ?kCR ?nW ?tI ?sRR ?sRD ?hCD ?tCD ?hg ?hk ?hdR ?haR ?hn ?ht ?hm ?haC ?hmC ?iC ?tC ?sCC ?v_MOST_LETTERS ?v_MOST_KINDS ?v_MOST_TYPES ?z_isinstance ?z_tuple ?z_len ?z_str ?z_all ?z_int ?z_bool ?z_set ?z_range ?z_enumerate ?z_any ?z_sorted ?z_abs ?z_max ?z_repr ?z_list
    (case g_C => k_is); (case g_CR => k_is); (case g_CD => k_is); (case a_is_number => k_is); (case l_is_number => k_is); (case c_is_number => k_is); (case k_is_number => k_is); (case a_is_number_below => k_is); (case l_is_number_below => k_is); (case c_is_number_below => k_is); (case k_is_number_below => k_is); (case a_is_name => k_is); (case l_is_name => k_is); (case c_is_name => k_is); (case k_is_name => k_is); (case a_is_tuple_of => k_is); (case l_is_tuple_of => k_is); (case c_is_tuple_of => k_is); (case k_is_tuple_of => k_is); (case a_is_ascending => k_is); (case l_is_ascending => k_is); (case c_is_ascending => k_is); (case k_is_ascending => k_is); (case a_are_numbers_below => k_is); (case l_are_numbers_below => k_is); (case c_are_numbers_below => k_is); (case k_are_numbers_below => k_is); (case a_is_lot_below => k_is); (case l_is_lot_below => k_is); (case c_is_lot_below => k_is); (case k_is_lot_below => k_is); (case a_is_lot_of_names => k_is); (case l_is_lot_of_names => k_is); (case c_is_lot_of_names => k_is); (case k_is_lot_of_names => k_is); (case a_Refused_init => k_is); (case l_Refused_init => k_is); (case c_Refused_init => k_is); (case k_Refused_init => k_is); (case i_Refused_init => k_is); (case a_Table_init => k_is); (case l_Table_init => k_is); (case c_Table_init => k_is); (case k_Table_init => k_is); (case i_Table_init => k_is); (case a_Table_eq => k_is); (case l_Table_eq => k_is); (case c_Table_eq => k_is); (case k_Table_eq => k_is); (case i_Table_eq => k_is); (case a_is_type_pair => k_is); (case l_is_type_pair => k_is); (case c_is_type_pair => k_is); (case k_is_type_pair => k_is); (case a_type_names => k_is); (case l_type_names => k_is); (case c_type_names => k_is); (case k_type_names => k_is); (case a_accepted => k_is); (case l_accepted => k_is); (case c_accepted => k_is); (case k_accepted => k_is); (case a_takers => k_is); (case l_takers => k_is); (case c_takers => k_is); (case k_takers => k_is); (case a_all_takers => k_is); (case l_all_takers => k_is); (case c_all_takers => k_is); (case k_all_takers => k_is); (case a_types_without => k_is); (case l_types_without => k_is); (case c_types_without => k_is); (case k_types_without => k_is); (case a_kinds_of_types => k_is); (case l_kinds_of_types => k_is); (case c_kinds_of_types => k_is); (case k_kinds_of_types => k_is); (case a_types_of_kinds => k_is); (case l_types_of_kinds => k_is); (case c_types_of_kinds => k_is); (case k_types_of_kinds => k_is); (case a_table_by_takers => k_is); (case l_table_by_takers => k_is); (case c_table_by_takers => k_is); (case k_table_by_takers => k_is); (case a_are_takers => k_is); (case l_are_takers => k_is); (case c_are_takers => k_is); (case k_are_takers => k_is); (case a_are_alike => k_is); (case l_are_alike => k_is); (case c_are_alike => k_is); (case k_are_alike => k_is); (case a__law_heap => k_is); (case l__law_heap => k_is); (case c__law_heap => k_is); (case k__law_heap => k_is); (case a__law_draw => k_is); (case l__law_draw => k_is); (case c__law_draw => k_is); (case k__law_draw => k_is); (case a__law_pick => k_is); (case l__law_pick => k_is); (case c__law_pick => k_is); (case k__law_pick => k_is); (case a__law_names => k_is); (case l__law_names => k_is); (case c__law_names => k_is); (case k__law_names => k_is); (case a__law_lot => k_is); (case l__law_lot => k_is); (case c__law_lot => k_is); (case k__law_lot => k_is); (case a__law_parts => k_is); (case l__law_parts => k_is); (case c__law_parts => k_is); (case k__law_parts => k_is); (case a__law_one_right => k_is); (case l__law_one_right => k_is); (case c__law_one_right => k_is); (case k__law_one_right => k_is); (case a__law_lots_right => k_is); (case l__law_lots_right => k_is); (case c__law_lots_right => k_is); (case k__law_lots_right => k_is); (case a__law_heard => k_is); (case l__law_heard => k_is); (case c__law_heard => k_is); (case k__law_heard => k_is); (case a__law_takers_right => k_is); (case l__law_takers_right => k_is); (case c__law_takers_right => k_is); (case k__law_takers_right => k_is); (case a_law => k_is); (case l_law => k_is); (case c_law => k_is); (case k_law => k_is); (case pg => k_is); (case hd => k_is); (case po => k_is); (case sa => k_is); (case nK => k_is); (case nT => k_is); (case mk => k_is); (case kpC => k_is); (case xR => k_is); (case saR => k_is); (case exC => k_is); (case tyC => k_is); (case kCR => k_is); (case nW => k_is); (case tI => k_is); (case sRR => first | k_is | rfl); (case sRD => k_is); (case hCD => k_is); (case tCD => k_is); (case hg => k_is); (case hk => k_is); (case hdR => k_is); (case haR => k_is); (case hn => k_is); (case ht => k_is); (case hm => k_is); (case haC => k_is); (case hmC => k_is); (case iC => k_is); (case tC => k_is); (case sCC => first | k_is | rfl); (case v_MOST_LETTERS => k_is); (case v_MOST_KINDS => k_is); (case v_MOST_TYPES => k_is); (case z_isinstance => k_is); (case z_tuple => k_is); (case z_len => k_is); (case z_str => k_is); (case z_all => k_is); (case z_int => k_is); (case z_bool => k_is); (case z_set => k_is); (case z_range => k_is); (case z_enumerate => k_is); (case z_any => k_is); (case z_sorted => k_is); (case z_abs => k_is); (case z_max => k_is); (case z_repr => k_is); (case z_list => k_is)
