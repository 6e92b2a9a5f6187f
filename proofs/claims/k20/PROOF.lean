import PyProof.Rows.All
import Wide.All
import OpenK.AllK
import Wide.FinOn
import HandS.ForMost
import HandS.Style
import HandS.Wide
import HandS.EndBits
import HandS.FStrTup
import Flt.Len
import KE.KxIndex
import HandS.ForExc
import HandS.IsInst
import HandS.ExcInit
import HandS.ExcField
import HandS.MakeKwOnly
import HandS.TupMul
import HandS.Zip
import HandS.TupAny
import HandS.More
import HandS.ExcIs
import KE.KExcIs
import KE.KIndexOf
import KE.GoesEnum
import HandS.Iter
import HandS.Strs
import HandS.SetFor
import HandS.Lambda
import HandS.EndTab
import HandS.Conv
import HandS.Deep
import KE.KDictZip
import HandS.OwnIter
import PySem.Challenge.RW_neverregret_k20_whole_least_kinds_and_wr
set_option Elab.async false
set_option linter.all false
set_option maxRecDepth 100000
/-! Defs whose promise holds where no repr is under way: so that repr of data is the text of the data. -/
namespace Gd
open PySem PySem.Spec PyProof.Rows L2
/-- room, and nothing is being shown -/
structure RmG (k : Nat) (A : Around) : Prop where
  rm : Room k A
  gd : A.guards = some []
theorem RmG.mono {j k : Nat} {A : Around} (r : RmG k A) (h : j ≤ k) : RmG j A := ⟨r.rm.mono h, r.gd⟩
structure FnG (P : Program) (w : World) (K : PySem.W.Frag) (mg : Str → Option Value) (base : Heap) (k : Nat) (f : Addr) (fd : FuncData) (ps : List Str) (sp : Sp) : Prop where
  len : ∀ xs H Q E, sp xs H Q E → xs.length = ps.length
  go : ∀ (A : Around) (out : List Env) (s : Shared) (H : Hp) (ar : Args) (us : List Value) (xs : List V) (Q : VK) (E : XK),
    RmG k A → Env0 P w K mg base A out s H → BindsTo s fd ar (ps.zip us) → Vals xs us → sp xs H Q E →
    codeAny (model P w) A (.call (.ref f) ar) (CR CX0 out P w H s Q E) s
section
variable {P : Program} {w : World} {K : PySem.W.Frag} {mg : Str → Option Value} {base : Heap}
theorem FnG.of {k : Nat} {f : Addr} {fd : FuncData} {ps : List Str} {sp : Sp} (F : FnOk P w K mg base CX0 k f fd ps sp) : FnG P w K mg base k f fd ps sp :=
  ⟨F.len, fun A out s H ar us xs Q E hr => F.run A out s H ar us xs Q E hr.rm⟩
theorem FnG.mono {j k : Nat} {f : Addr} {fd : FuncData} {ps : List Str} {sp : Sp} (F : FnG P w K mg base j f fd ps sp) (h : j ≤ k) : FnG P w K mg base k f fd ps sp :=
  ⟨F.len, fun A out s H ar us xs Q E hr => F.go A out s H ar us xs Q E (hr.mono h)⟩
/-- a def of the text, by its body -/
theorem okG {x qual : Str} {st : Stmt} {f : Addr} {fd : FuncData} {N ps : List Str} {k : Nat} {sp : Sp} (F : Fun K x qual st f fd) (S : FnScope N ps (defScope st))
    (len : ∀ xs H Q E, sp xs H Q E → xs.length = ps.length)
    (body : ∀ (cdv : Value) (A : Around) (out : List Env) (s : Shared) (H : Hp) (xs : List V) (Q : VK) (E : XK),
      RmG k (A.deeper (envOfC qual (defScope st) s.heap.objs.size f cdv)) → sp xs H Q E →
      ∃ t, PSs (cxOf CX0 P w K mg base N qual (defScope st) f cdv A out s H E).nox (defBody st) t ∧ t { nx := fun _ G => Q .non G, rt := Q } (start N xs) H) :
    FnG P w K mg base (k + 1) f fd ps sp := by
  obtain ⟨oc, od, kV, doc, pm, an, cv, ct, osl, rfl, lk, hc⟩ := F.ex
  refine ⟨len, fun A out s H ar us xs Q E hr e0 hb rv hsp => ?_⟩
  have hl := len _ _ _ _ hsp
  have up : ∀ b o, base.get? b = some o → s.heap.get? b = some o := fun b o e => (e0.bs b o e).1
  have KX := e0.mod.kin.keeps up
  have lim := e0.mod.nolimit.keeps up
  refine codeAny_call_function hr.rm.depth (KX _ _ lk) rfl S.co S.gen rfl (PySem.W.codeRec_of KX hc) (hb _ _ _ _ ?_)
  refine wpAny_newFunctionEnv_cells S.kind (fun y hy => ?_) fun env he s1 I1 => ?_
  · rcases S.par y.1 (List.of_mem_zip hy).1 with q | q
    · exact .inl q
    · exact .inr ⟨q, PySem.W.cellsFrom_some _ _ _ (.inl q)⟩
  subst he
  refine ⟨lim.keeps I1.toInCall.keep, codeAny_func ?_⟩
  obtain ⟨t, ht, hq⟩ := body cv A out s H xs Q E ⟨hr.rm.deeper _, hr.gd⟩ hsp
  refine wpAny_mono (ht.nox.run [] s1 (start N xs) H _ (inv_start S hr.rm.hd e0 hl rv I1) hq) (fun fl s' hs => ?_) fun _ _ z => z
  cases fl with
  | ret u => obtain ⟨v, σ', G, J, r1, q⟩ := hs; exact ⟨v, G, J.os, J.bare, J.base, J.hok, r1, q⟩
  | next => obtain ⟨σ', G, J, q⟩ := hs; exact ⟨.non, G, J.os, J.bare, J.base, J.hok, rfl, q⟩
  | brk => exact (hs.choose_spec.choose_spec.2).elim
  | cont => exact (hs.choose_spec.choose_spec.2).elim
end
section
variable {X : Cx} {k : Nat} {f : Addr} {fd : FuncData} {ps ks : List Str} {sp : Sp} {dvs : List V} {ds : List Value} {E : XK} {x : Str} {p pos : Pos} {e : Expr} {es : List Expr} {kws : List Keyword} {t tk : TA}
theorem run_G {pins : List (Addr × Obj)} {σ : L2.St} {H : Hp} {s : Shared} {Q : VK} {ar : Args} {us : List Value} {xs : List V} (F : FnG X.prog X.w X.K X.mg X.base k f fd ps sp) (hr : RmG k X.A)
    (I : Inv X pins σ H s) (b : BindsTo s fd ar (ps.zip us)) (rv : Vals xs us) (h : sp xs H Q E) : codeAny (model X.prog X.w) X.A (.call (.ref f) ar) (fun r s' => ∃ u, r = .ok (.ret u) ∧ EP X pins σ Q u s') s := by
  refine codeAny_mono (F.go X.A X.stack s H ar us xs Q E hr I.env0 b rv h) fun r s' hq => ?_
  rcases r with e | fl
  · exact hq.elim
  · cases fl with
    | ret u => exact ⟨u, rfl, I.after hq⟩
    | next => exact hq.elim
    | brk => exact hq.elim
    | cont => exact hq.elim
theorem call_G {pins : List (Addr × Obj)} {σ : L2.St} {H : Hp} {s : Shared} {Q : VK} {us : List Value} {xs : List V} (F : FnG X.prog X.w X.K X.mg X.base k f fd ps sp) (hr : RmG k X.A) (hb : Binds X.K fd ps ds) (hd : Vals dvs ds)
    (I : Inv X pins σ H s) (rv : Vals xs us) (h : sp (xs ++ dvs) H Q E) : wpAny (model X.prog X.w) X.A (call (.ref f) us) (EP X pins σ Q) X.xe s := by
  have r2 : Vals (xs ++ dvs) (us ++ ds) := rv.append hd
  have hl : (us ++ ds).length = ps.length := r2.length.symm.trans (F.len _ _ _ _ h)
  refine wpAny_call (codeAny_mono (run_G F hr I (hb s us I.kIn hl) r2 h) fun r s' hq => ?_)
  obtain ⟨u, rfl, z⟩ := hq
  exact z
/-- f(e, ..) -/
theorem pe_callG (F : FnG X.prog X.w X.K X.mg X.base k f fd ps sp) (hr : RmG k X.A) (hg : Gl X x) (hm : X.mg x = some (.ref f)) (hk : PySem.W.keepIn X.K (.ref f) = true) (hb : Binds X.K fd ps ds) (hd : Vals dvs ds)
    (ha : PA X (e :: es) t) (h1 : (x == ("__debug__" : Str)) = false := by decide)
    (h2 : starEach (e :: es) X.env = (false, eval e X.env) :: starEach es X.env := by rfl) (h3 : (backTo pos (starEach es X.env)).any (·.1) = false := by rfl) :
    PE X (.Call (.Name x p) (e :: es) [] pos) (tCall sp dvs E t) :=
  ⟨fun pins s σ H Q I h => wpAny_Call_Name_kw (ld_glob I hg hm (PySem.W.callWith_K (h₀ := X.base) I.ok.mod.kin hk
    (thn (ha.run pos pins s σ H _ I h) fun us s1 ⟨vs, H1, I1, r, q⟩ => ⟨I1.kIn, call_G F hr hb hd I1 r q⟩) h2 h3) h1)⟩
/-- repr of data -/
theorem call_repr (hg : X.A.guards = some []) (hu : X.A.units + 64 < cLine) : CallR X (.builtin "repr") (fun xs H Q => ∃ a d, xs = [.ref a] ∧ Dp X.K H (.ref a) d ∧ d.showable = true ∧ d.hasDict = false ∧ d.depth ≤ 60 ∧ d.shown.length ≤ sizeLine ∧ Q (.str d.shown) H) := by
  intro pins s σ H xs us Q I r h
  obtain ⟨a, d, rfl, hp, hs, hn, hd, hz, q⟩ := h
  obtain ⟨u, rfl, ru⟩ := vals1 r
  obtain rfl : u = .ref a := ru
  obtain ⟨as, rd⟩ := Dp.reads I d _ _ hp rfl
  exact repr_of_reads' rd hs (PyData.noDict_hsm hn) hg (by omega) (fun _ _ z => z) (fun h' u tk hk => ⟨.str d.shown, H, I.kept hk, ⟨_, rfl⟩, q⟩) hz
/-- repr of an int -/
theorem call_reprI : CallR X (.builtin "repr") (fun xs H Q => ∃ i, xs = [.int i] ∧ i.natAbs.log2 < 1920 ∧ Q (.str (toString i)) H) := by
  intro pins s σ H xs us Q I r h
  obtain ⟨i, rfl, hz, q⟩ := h
  obtain ⟨u, rfl, tk, rfl⟩ := vals1 r
  exact PySem.P.repr_of_int hz ⟨.str _, H, I.tok _, ⟨_, rfl⟩, q⟩
end
end Gd
/-! The end of a law row, from a promise that holds where no repr is under way. -/
namespace Gd
open PySem PySem.Spec PyProof.Rows L2
section
variable {P : Program} {w : World} {K : PySem.W.Frag} {mg mb : Str → Option Value} {k : Nat} {fa a : Addr} {fd : FuncData} {x : Str} {sp : Sp} {s : Shared} {vs : List Value} {ns : List Int}
/-- the heap H tracks nothing but the script -/
structure Bare (K : PySem.W.Frag) (a : Addr) (H : Hp) : Prop where
  one : ∀ b, H b ≠ none → b = a
  out : H a ≠ none → K.lookup a = none
theorem hid_map {H : Hp} (ha : s.heap.get? a = some { cls := .type "list", data := .seq vs.toArray }) (B : Bare K a H) {b : Addr} {m : Str → Option Value} (h : s.heap.Ns b m) : (hidT s.heap H).Ns b m := by
  obtain ⟨o, es, ep, e, d, r⟩ := h
  refine ⟨o, es, ep, hidT_get e ?_, d, r⟩
  cases q : H b with
  | none => rfl
  | some u =>
    have z := B.one b (by simp [q])
    subst z
    have z2 := Option.some.inj (ha.symm.trans e)
    subst z2
    exact absurd d (by intro z; cases z)
theorem hid_in {H : Hp} (KX : K.In s.heap) (B : Bare K a H) : K.In (hidT s.heap H) := fun b o e => hidT_get (KX b o e) (by
  cases q : H b with
  | none => rfl
  | some u =>
    have z := B.one b (by simp [q])
    subst z
    have z2 := B.out (by simp [q])
    rw [z2] at e
    cases e)
theorem end_core (KX : K.In s.heap) (hns : s.heap.Ns mainGlobals mg) (hb : s.heap.Ns builtinsNs mb) (hbb : ∀ y : Str, y ≠ "__name__" → mb y = bootBuiltins y) (hlim : s.heap.NoLimit) (hg : s.gens = #[])
    (ha : s.heap.get? a = some { cls := .type "list", data := .seq vs.toArray }) (hr : Room k callerA)
    (F : ∀ base : Heap, K.In base → base.Ns mainGlobals mg → FnG P w K mg base k fa fd [x] sp) (hbind : ∀ (t : Shared) (u : Value), BindsTo t fd ⟨[u], []⟩ [(x, u)])
    {H : Hp} (hO : Only H) (hok : HOk P w H s.heap) (B : Bare K a H) (h : sp [.ref a] H (fun v _ => v = .bl true) fun _ _ _ => False) :
    codeAny (model P w) callerA (.call (.ref fa) ⟨[.ref a], []⟩) (fun r s' => r = .ok (.ret (.bool true)) ∧ OldK s.heap s'.heap ∧ s'.os = s.os ∧ AllBare s'.gens) s := by
  have KB := hid_in KX B
  have NB := hid_map ha B hns
  have MB : Mod K mg (hidT s.heap H) := ⟨KB, NB, ⟨mb, hid_map ha B hb, hbb⟩, hlim.elim fun mc z => ⟨mc, hid_map ha B z.1, z.2⟩⟩
  have e0 : Env0 P w K mg (hidT s.heap H) callerA [] s H :=
    ⟨rfl, MB, fun b o e => of_hidT e, Nat.le_of_eq (hidT_size _ _), trivial, fun b z => (nomatch (show b ∈ ([] : List Addr) from z)), hok, .of_eq hg⟩
  refine codeAny_mono ((F _ KB NB).go callerA [] s H ⟨[.ref a], []⟩ [.ref a] [.ref a] _ _ ⟨hr, rfl⟩ e0 (hbind s (.ref a)) (.cons rfl .nil) h) fun r s' z => ?_
  rcases r with e | fl
  · exact z.elim
  · cases fl with
    | next => exact z.elim
    | brk => exact z.elim
    | cont => exact z.elim
    | ret u =>
      obtain ⟨v, G, os, bare, un, okG, ru, rfl⟩ := z
      obtain rfl : u = Value.bool true := ru
      refine ⟨rfl, OldK.of_keep fun b o e => ?_, os, bare⟩
      cases q : H b with
      | none => exact un.keep b o e q (fun z => nomatch (show b ∈ ([] : List Addr) from z)) (fun z => nomatch z)
      | some u =>
        rcases hO b with z | ⟨ob, xs, z⟩
        · exact nomatch q.symm.trans z
        · have e1 := (hok b _ z).1
          have e2 := (okG b _ (un.frzs b ob _ z)).1
          exact e2.trans (e1.symm.trans e)
theorem end_call (KX : K.In s.heap) (hns : s.heap.Ns mainGlobals mg) (hb : s.heap.Ns builtinsNs mb) (hbb : ∀ y : Str, y ≠ "__name__" → mb y = bootBuiltins y) (hlim : s.heap.NoLimit) (hg : s.gens = #[])
    (ha : s.heap.get? a = some { cls := .type "list", data := .seq vs.toArray }) (hi : IntsAre vs ns) (hl : ns.length ≤ sizeLine) (hr : Room k callerA)
    (F : ∀ base : Heap, K.In base → base.Ns mainGlobals mg → FnG P w K mg base k fa fd [x] sp) (hbind : ∀ (t : Shared) (u : Value), BindsTo t fd ⟨[u], []⟩ [(x, u)])
    (hsp : ∀ H : Hp, Only H → SqL K H a (ns.map V.int) → sp [.ref a] H (fun v _ => v = .bl true) fun _ _ _ => False) :
    codeAny (model P w) callerA (.call (.ref fa) ⟨[.ref a], []⟩) (fun r s' => r = .ok (.ret (.bool true)) ∧ OldK s.heap s'.heap ∧ s'.os = s.os ∧ AllBare s'.gens) s := by
  have rv := vals_ints hi
  cases hk : K.lookup a with
  | some o =>
    have e := Option.some.inj (ha.symm.trans (KX a o hk))
    subst e
    have hO : Only fun _ => none := fun _ => .inl rfl
    exact end_core KX hns hb hbb hlim hg ha hr F hbind hO (fun b u z => nomatch (show (none : Option HO) = some u from z)) ⟨fun b z => absurd rfl z, fun z => absurd rfl z⟩
      (hsp _ hO (.inr ⟨_, vs.toArray, _, hk, rfl, rfl, rfl, by rw [List.size_toArray, hi.length]; exact hl, by simpa using rv⟩))
  | none =>
    let H : Hp := fun b => if b = a then some (.frz { cls := .type "list", data := .seq vs.toArray } (.lst (ns.map V.int))) else none
    have at_a : H a = some (.frz { cls := .type "list", data := .seq vs.toArray } (.lst (ns.map V.int))) := if_pos rfl
    have off : ∀ {b}, b ≠ a → H b = none := fun h => if_neg h
    have hO : Only H := fun b => by
      by_cases z : b = a
      · exact .inr ⟨_, _, if_pos z⟩
      · exact .inl (off z)
    refine end_core KX hns hb hbb hlim hg ha hr F hbind hO (fun b u z => ?_) ⟨fun b z => ?_, fun _ => hk⟩ (hsp H hO (.inl (.inr ⟨_, at_a⟩)))
    · by_cases y : b = a
      · subst y
        have z2 := Option.some.inj (at_a.symm.trans z)
        subst z2
        exact ⟨ha, by rw [List.length_map]; exact hl, vs, _, rv, ha⟩
      · exact nomatch (off y).symm.trans z
    · by_cases y : b = a
      · exact y
      · exact absurd (off y) z
end
theorem walk_G {l : PySem.W.OpenLaw} {n k : Nat} {q : Program} {loose : List Str} {XP : (Str → Option Value) → Heap → Prop} {YP : World → Heap → Prop} {d : DefRec} {K : Params → PySem.W.Frag} {sp : World → Sp} {x : Str}
    (hn : l.most = some n) (hn2 : n ≤ sizeLine) (hdf : d.params.defaults = []) (hr : Room k callerA) (hY : ∀ (w : World) (h : Heap), YP w h → (K w.params).In h)
    (F : ∀ (w : World) (mg : Str → Option Value) (fa : Addr) (h : Heap), (K w.params).In h → h.Ns mainGlobals mg → mg d.name = some (.ref fa) →
      ∃ fd : FuncData, (∀ (t : Shared) (u : Value), BindsTo t fd ⟨[u], []⟩ [(x, u)]) ∧ ∀ base : Heap, (K w.params).In base → base.Ns mainGlobals mg → FnG l.prog w (K w.params) mg base k fa fd [x] (sp w))
    (hsp : ∀ (w : World) (H : Hp) (a : Addr) (ns : List Int), ns.length ≤ n → (∀ z ∈ ns, Builtin.Int.intBits z ≤ 1048576) → Only H → SqL (K w.params) H a (ns.map V.int) → sp w [.ref a] H (fun v _ => v = .bl true) fun _ _ _ => False) :
    PySem.W.WalkO q loose XP YP l.row.toRowW d [] (fun f vs => PySem.call f vs) := by
  refine Att.attach_callB hn hdf fun w s₀ s mg mb fa o pm cd doc a vs ns G Y ho hd hcd hm hobj hi hl hbits hg => ?_
  obtain ⟨fd, hb, hF⟩ := F w mg fa _ (hY w _ Y) G.T.g hm
  exact end_call (hY w _ Y) G.T.g G.T.b G.T.builtins G.T.nolimit hg hobj hi (Nat.le_trans hl hn2) hr hF hb fun H hO hS => hsp w H a ns hl hbits hO hS
end Gd
/-! Data: what stays of it, and what its repr costs. -/
namespace Gd
open PySem PySem.Spec PyProof.Rows L2
mutual
theorem dp_same {K : PySem.W.Frag} {H G : Hp} (e : Same H G) : ∀ (d : PyData) (v : V), Dp K H v d → Dp K G v d
  | .none, _, h => by cases h; exact .non
  | .bool b, _, h => by cases h; exact .bl b
  | .int i, _, h => by cases h; exact .int i
  | .str x, _, h => by cases h; exact .str x
  | .list ds, _, h => by
    cases h with
    | lst hs ha => exact .lst (e.seq hs) (dpAll_same e ds _ ha)
  | .tuple ds, _, h => by
    cases h with
    | tup hs ha =>
      refine .tup ?_ (dpAll_same e ds _ ha)
      rcases hs with (z | ⟨o, z⟩) | z
      · exact .inl (.inl (e _ _ z))
      · exact .inl (.inr ⟨o, e _ _ z⟩)
      · exact .inr z
  | .dict _, _, h => by cases h
theorem dpAll_same {K : PySem.W.Frag} {H G : Hp} (e : Same H G) : ∀ (ds : List PyData) (vs : List V), DpAll K H vs ds → DpAll K G vs ds
  | [], _, h => by cases h; exact .nil
  | d :: ds, _, h => by
    cases h with
    | cons h1 h2 => exact .cons (dp_same e d _ h1) (dpAll_same e ds _ h2)
end
theorem same_seqT {K : PySem.W.Frag} {H H' : Hp} {a : Addr} {xs : List V} (e : Same H H') (h : SqT K H a xs) : SqT K H' a xs := by
  rcases h with (z | ⟨o, z⟩) | z
  · exact .inl (.inl (e _ _ z))
  · exact .inl (.inr ⟨o, e _ _ z⟩)
  · exact .inr z
theorem same_new {H : Hp} {p : Addr} {o : HO} (h : H p = none) : Same H (upd H p o) := fun b x e => (upd_ne (ne_of_none e h)).trans e
theorem sqT {K : PySem.W.Frag} {H : Hp} {a : Addr} {xs : List V} (h : H a = some (.tup xs)) : SqT K H a xs := .inl (.inl h)
theorem sqL {K : PySem.W.Frag} {H : Hp} {a : Addr} {xs : List V} (h : H a = some (.lst xs)) : SqL K H a xs := .inl (.inl h)
theorem dpAll_snoc {K : PySem.W.Frag} {H : Hp} {v : V} {d : PyData} : ∀ {vs : List V} {ds : List PyData}, DpAll K H vs ds → Dp K H v d → DpAll K H (vs ++ [v]) (ds ++ [d])
  | _, _, .nil, h => .cons h .nil
  | _, _, .cons a r, h => .cons a (dpAll_snoc r h)
theorem dpAll_len {K : PySem.W.Frag} {H : Hp} : ∀ {vs : List V} {ds : List PyData}, DpAll K H vs ds → vs.length = ds.length
  | _, _, .nil => rfl
  | _, _, .cons _ r => by rw [List.length_cons, List.length_cons, dpAll_len r]
theorem dpAll_get {K : PySem.W.Frag} {H : Hp} : ∀ {vs : List V} {ds : List PyData} {i : Nat} {d : PyData}, DpAll K H vs ds → ds[i]? = some d → ∃ v, vs[i]? = some v ∧ Dp K H v d
  | _, _, _, _, .nil, e => by simp at e
  | _, _, 0, _, .cons a _, e => by simp at e; subst e; exact ⟨_, rfl, a⟩
  | _, _, i + 1, d, .cons _ r, e => by
    obtain ⟨v, h1, h2⟩ := dpAll_get (i := i) (d := d) r (by simpa using e)
    exact ⟨v, by simpa using h1, h2⟩
theorem dpAll_ints {K : PySem.W.Frag} {H : Hp} : ∀ ns : List Int, DpAll K H (ns.map V.int) (ns.map .int)
  | [] => .nil
  | n :: ns => .cons (.int n) (dpAll_ints ns)
theorem dpAll_strs {K : PySem.W.Frag} {H : Hp} : ∀ ns : List Str, DpAll K H (ns.map V.str) (ns.map .str)
  | [] => .nil
  | n :: ns => .cons (.str n) (dpAll_strs ns)
/-! what repr and == ask of data -/
mutual
/-- plain data: no dicts, signs below 1000, ints below 10 ^ 9 in size -/
def fine : PyData → Bool
  | .none | .bool _ => true
  | .int i => decide (i.natAbs < 10 ^ 9)
  | .str x => x.cps.toList.all (· < 1000)
  | .list xs | .tuple xs => fineAll xs
  | .dict _ => false
def fineAll : List PyData → Bool
  | [] => true
  | x :: xs => fine x && fineAll xs
end
mutual
def costD : PyData → Nat
  | .none => 4
  | .bool _ => 5
  | .int _ => 10
  | .str x => 10 * x.length + 2
  | .list xs | .tuple xs => costAll xs + 2
  | .dict _ => 0
def costAll : List PyData → Nat
  | [] => 0
  | x :: xs => costD x + 2 + costAll xs
end
theorem fine_str {x : Str} : fine (.str x) = true ↔ ∀ c ∈ x.cps.toList, c < 1000 := by
  rw [fine, List.all_eq_true]
  exact ⟨fun h c hc => of_decide_eq_true (h c hc), fun h c hc => decide_eq_true (h c hc)⟩
mutual
theorem fine_lay : ∀ d : PyData, fine d = true → d.canLay0 = true
  | .none, _ => rfl
  | .bool _, _ => rfl
  | .int _, _ => rfl
  | .str x, h => by
    have h' := fine_str.mp h
    show x.cps.all _ = true
    rw [Array.all_eq_true']
    intro c hc
    have := h' c (by simpa using hc)
    exact decide_eq_true (by omega)
  | .list xs, h => by rw [PyData.canLay0]; exact fineAll_lay xs (by simpa [fine] using h)
  | .tuple xs, h => by rw [PyData.canLay0]; exact fineAll_lay xs (by simpa [fine] using h)
  | .dict _, h => by simp [fine] at h
theorem fineAll_lay : ∀ ds : List PyData, fineAll ds = true → PyData.canLayAll0 ds = true
  | [], _ => rfl
  | x :: xs, h => by
    have h' : fine x = true ∧ fineAll xs = true := by simpa [fineAll] using h
    rw [PyData.canLayAll0, fine_lay x h'.1, fineAll_lay xs h'.2]; rfl
end
mutual
theorem fine_show : ∀ d : PyData, fine d = true → d.showable = true
  | .none, _ => by simp [PyData.showable]
  | .bool _, _ => by simp [PyData.showable]
  | .int i, h => by
    have h' : i.natAbs < 10 ^ 9 := by simpa [fine] using h
    have : i.natAbs.log2 < 1920 := Flt.log2_lt_of (by decide) (Nat.lt_of_lt_of_le h' (by decide))
    simpa [PyData.showable] using this
  | .str x, h => by simp [PyData.showable]
  | .list xs, h => by rw [PyData.showable]; exact fineAll_show xs (by simpa [fine] using h)
  | .tuple xs, h => by rw [PyData.showable]; exact fineAll_show xs (by simpa [fine] using h)
  | .dict _, h => by simp [fine] at h
theorem fineAll_show : ∀ ds : List PyData, fineAll ds = true → PyData.showableAll ds = true
  | [], _ => by simp [PyData.showableAll]
  | x :: xs, h => by
    have h' : fine x = true ∧ fineAll xs = true := by simpa [fineAll] using h
    rw [PyData.showableAll, fine_show x h'.1, fineAll_show xs h'.2]; rfl
end
theorem list_text (ts : List Str) : (listText ts).length ≤ piled ts + 2 := by
  rw [listText_eq_join]
  have e1 : (("[" : Str)).length = 1 := rfl
  have e2 : (("]" : Str)).length = 1 := rfl
  rw [strLen_append, strLen_append, e1, e2]
  by_cases h : ts = []
  · subst h; decide +kernel
  · have := join_length_add ts h
    omega
mutual
theorem shown_cost : ∀ d : PyData, fine d = true → d.shown.length ≤ costD d
  | .none, _ => by rw [PyData.shown]; decide +kernel
  | .bool b, _ => by rw [PyData.shown]; cases b <;> decide +kernel
  | .int i, h => by
    have h' : i.natAbs < 10 ^ 9 := by simpa [fine] using h
    rw [PyData.shown, PySem.ofString_length]
    exact int_text_length_le10 (k := 9) (by decide) h'
  | .str x, h => by
    have h' := fine_str.mp h
    rw [PyData.shown, costD]
    exact StrLaws.reprText_len x fun c hc => Nat.lt_trans (h' c hc) (by decide)
  | .list xs, h => by
    rw [PyData.shown, costD]
    have := shownAll_cost xs (by simpa [fine] using h)
    have := list_text (PyData.shownAll xs)
    omega
  | .tuple xs, h => by
    rw [PyData.shown, costD]
    have := shownAll_cost xs (by simpa [fine] using h)
    have := PySem.fmt_text (PyData.shownAll xs)
    omega
  | .dict _, h => by simp [fine] at h
theorem shownAll_cost : ∀ ds : List PyData, fineAll ds = true → piled (PyData.shownAll ds) ≤ costAll ds
  | [], _ => by rw [PyData.shownAll, costAll, piled_nil]; exact Nat.le_refl 0
  | x :: xs, h => by
    have h' : fine x = true ∧ fineAll xs = true := by simpa [fineAll] using h
    have h1 := shown_cost x h'.1
    have h2 := shownAll_cost xs h'.2
    rw [PyData.shownAll, costAll, piled_cons]
    omega
end
theorem fine_shaped {d : PyData} (h : fine d = true) (hd : d.depth ≤ 60) : SeqAt.shaped d = true := by
  unfold SeqAt.shaped
  rw [fine_lay d h]
  exact decide_eq_true (by omega)
theorem fine_eqv {d : PyData} (h : fine d = true) : PyData.eqv d d = true := SeqAt.eqv_refl d (fine_lay d h)
theorem fineAll_mem : ∀ {ds : List PyData}, (∀ d ∈ ds, fine d = true) → fineAll ds = true
  | [], _ => by simp [fineAll]
  | x :: xs, h => by simp [fineAll, h x List.mem_cons_self, fineAll_mem fun d hd => h d (List.mem_cons_of_mem _ hd)]
theorem depthAll_mem {n : Nat} : ∀ {ds : List PyData}, (∀ d ∈ ds, d.depth ≤ n) → PyData.depthAll ds ≤ n
  | [], _ => by simp [PyData.depthAll]
  | x :: xs, h => by
    have h1 := h x List.mem_cons_self
    have h2 := depthAll_mem (n := n) (ds := xs) fun d hd => h d (List.mem_cons_of_mem _ hd)
    simp only [PyData.depthAll]
    omega
/-- repr(x), x plain data at an address: its text; what is asked is told by fine and costD -/
theorem call_reprF {X : Cx} (hg : X.A.guards = some []) (hu : X.A.units + 64 < cLine) : CallR X (.builtin "repr") (fun xs H Q => ∃ a d, xs = [.ref a] ∧ Dp X.K H (.ref a) d ∧ fine d = true ∧ d.depth ≤ 60 ∧ costD d ≤ sizeLine ∧ Q (.str d.shown) H) := by
  intro pins s σ H xs us Q I r h
  obtain ⟨a, d, e, hp, hf, hd, hz, q⟩ := h
  exact call_repr hg hu pins s σ H xs us Q I r ⟨a, d, e, hp, fine_show d hf, PyData.hasDict_of_canLay d (fine_lay d hf), hd, Nat.le_trans (shown_cost d hf) hz, q⟩
end Gd
/-! Calls that give all by keywords. -/
namespace Gd
open PySem PySem.Spec PyProof.Rows L2
/-- how a call by keywords alone binds: g puts their values in the parameters' order -/
def KwB (fd : FuncData) (ps ks : List Str) (g : List Value → List Value) : Prop := ∀ (s : Shared) (ws : List Value), ws.length = ks.length → BindsTo s fd ⟨[], ks.zip ws⟩ (ps.zip (g ws))
theorem kwB_of {K : PySem.W.Frag} {x qual : Str} {st : Stmt} {f : Addr} {fd : FuncData} {ps ks : List Str} {g : List Value → List Value} (F : Fun K x qual st f fd)
    (h : ∀ (kV doc pm : Value) (an : Option Addr) (cv ct : Value) (ws : List Value), ws.length = ks.length → bindArgs (PySem.W.fnOf x qual (defArgs st) (defBody st) (defScope st) .none kV doc pm an cv ct) ⟨[], ks.zip ws⟩ = pure (ps.zip (g ws))) : KwB fd ps ks g := by
  obtain ⟨oc, od, kV, doc, pm, an, cv, ct, osl, rfl, lk, hc⟩ := F.ex
  exact fun s ws hl => .of_eq (h kV doc pm an cv ct ws hl)
def tKw (m : Nat) (sp : Sp) (gV : List V → List V) (E : XK) (tk : TA) : TE := fun σ H Q => tk σ H fun zs H2 => zs.length = m ∧ sp (gV zs) H2 Q E
section
variable {X : Cx} {k : Nat} {f : Addr} {fd : FuncData} {ps ks : List Str} {sp : Sp} {E : XK} {x : Str} {p pos : Pos} {kws : List Keyword} {tk : TA}
/-- f(k = v, ..) -/
theorem pe_kwG {g : List Value → List Value} {gV : List V → List V} (F : FnG X.prog X.w X.K X.mg X.base k f fd ps sp) (hr : RmG k X.A) (hg : Gl X x) (hm : X.mg x = some (.ref f)) (hk : PySem.W.keepIn X.K (.ref f) = true)
    (hb : KwB fd ps ks g) (hv : ∀ {zs : List V} {ws : List Value}, zs.length = ks.length → Vals zs ws → Vals (gV zs) (g ws)) (hkw : PK X kws tk)
    (h1 : (backToKw pos (keywordEach kws X.env)).all (·.1.isSome) = true := by rfl) (h2 : (backToKw pos (keywordEach kws X.env)).filterMap (·.1) = ks := by rfl) (h3 : (x == ("__debug__" : Str)) = false := by decide)
    (h4 : ((backTo pos (starEach [] X.env)).any (·.1) || (backToKw pos (keywordEach kws X.env)).any (·.1.isNone)) = false := by rfl) :
    PE X (.Call (.Name x p) [] kws pos) (tKw ks.length sp gV E tk) := by
  refine ⟨fun pins s σ H Q I h => wpAny_Call_Name_kw (ld_glob I hg hm (PySem.W.callWith_KW0 (h₀ := X.base) I.ok.mod.kin hk h1 ?_ h4) h3)⟩
  refine thn (hkw.run pos pins s σ H _ I h) fun ws s2 ⟨zs, H2, I2, rz, l, q⟩ => ⟨I2.kIn, ?_⟩
  rw [h2]
  have r2 := hv l rz
  refine wpAny_call (codeAny_mono (run_G F hr I2 (hb s2 ws (rz.length.symm.trans l)) r2 q) fun r s' hq => ?_)
  obtain ⟨u, rfl, z⟩ := hq
  exact z
end
end Gd
/-! What the laws' proofs share: the source of draws, what is kept, blocks. -/
namespace Gd
open PySem PySem.Spec PyProof.Rows L2
/-- the law's source of draws at h: its list at l, its number -/
structure Hv (H : Hp) (h l : Addr) (L : List Int) (st : Int) : Prop where
  top : H h = some (.lst [.ref l, .int st])
  bot : H l = some (.lst (L.map V.int))
  ne : l ≠ h
  lo : 0 ≤ st
  hi : st < 2147483647
  len : L.length ≤ 63
/-- all but the source stands as before -/
def But (h l : Addr) (H G : Hp) : Prop := ∀ b o, b ≠ h → b ≠ l → H b = some o → G b = some o
theorem Hv.new {H : Hp} {h l p : Addr} {L : List Int} {st : Int} {o : HO} (v : Hv H h l L st) (n : H p = none) : Hv (upd H p o) h l L st :=
  ⟨(upd_ne (ne_of_none v.top n)).trans v.top, (upd_ne (ne_of_none v.bot n)).trans v.bot, v.ne, v.lo, v.hi, v.len⟩
theorem Hv.same {H G : Hp} {h l : Addr} {L : List Int} {st : Int} (v : Hv H h l L st) (e : Same H G) : Hv G h l L st :=
  ⟨e _ _ v.top, e _ _ v.bot, v.ne, v.lo, v.hi, v.len⟩
theorem Hv.setL {H : Hp} {h l : Addr} {L M : List Int} {st : Int} (v : Hv H h l L st) (hl : M.length ≤ 63) : Hv (upd H l (.lst (M.map V.int))) h l M st :=
  ⟨(upd_ne v.ne.symm).trans v.top, upd_same, v.ne, v.lo, v.hi, hl⟩
theorem Hv.setN {H : Hp} {h l : Addr} {L : List Int} {st n : Int} (v : Hv H h l L st) (h0 : 0 ≤ n) (h1 : n < 2147483647) : Hv (upd H h (.lst [.ref l, .int n])) h l L n :=
  ⟨upd_same, (upd_ne v.ne).trans v.bot, v.ne, h0, h1, v.len⟩
theorem But.refl (h l : Addr) (H : Hp) : But h l H H := fun _ _ _ _ e => e
theorem But.trans {h l : Addr} {H G J : Hp} (a : But h l H G) (b : But h l G J) : But h l H J := fun c o h1 h2 e => b c o h1 h2 (a c o h1 h2 e)
theorem But.new {h l p : Addr} {H G : Hp} {o : HO} (a : But h l H G) (n : G p = none) : But h l H (upd G p o) := fun c x h1 h2 e =>
  (upd_ne (ne_of_none (a c x h1 h2 e) n)).trans (a c x h1 h2 e)
theorem But.same {h l : Addr} {H G J : Hp} (a : But h l H G) (e : Same G J) : But h l H J := fun c x h1 h2 z => e _ _ (a c x h1 h2 z)
theorem But.atL {h l : Addr} {H G : Hp} {o : HO} (a : But h l H G) : But h l H (upd G l o) := fun c x h1 h2 e => (upd_ne h2).trans (a c x h1 h2 e)
theorem But.atH {h l : Addr} {H G : Hp} {o : HO} (a : But h l H G) : But h l H (upd G h o) := fun c x h1 h2 e => (upd_ne h1).trans (a c x h1 h2 e)
theorem fresh_of {h l p : Addr} {H G : Hp} (a : But h l H G) {o : HO} (h1 : p ≠ h) (h2 : p ≠ l) (e : G p = none) : H p = none := by
  cases q : H p with
  | none => rfl
  | some o => exact nomatch (a p o h1 h2 q).symm.trans e
theorem eqv_nil (L : List Int) : PyData.eqv (.list (L.map .int)) (.list []) = decide (L = []) := by
  cases L with
  | nil => rfl
  | cons x r => simp [PyData.eqv, PyData.eqvAll]
theorem shaped_ints (L : List Int) : SeqAt.shaped (.list (L.map .int)) = true := PySem.W.ke_shaped_ints L
theorem dp_ints {K : PySem.W.Frag} {H : Hp} {l : Addr} {L : List Int} (h : H l = some (.lst (L.map V.int))) : Dp K H (.ref l) (.list (L.map .int)) := .lst (sqL h) (dpAll_ints L)
theorem last_map {L : List Int} (h : L ≠ []) : atI (L.map V.int) (-1) = some (.int (L.getLast h)) := by
  have e : L.map V.int = L.dropLast.map V.int ++ [.int (L.getLast h)] := by
    rw [← List.map_singleton, ← List.map_append, List.dropLast_concat_getLast]
  rw [e]
  exact atI_last _ _
theorem last_get {L : List Int} (h : L ≠ []) : (L.map V.int)[(L.map V.int).length - 1]? = some (.int (L.getLast h)) := by
  rw [List.length_map, List.getElem?_map, ← List.getLast?_eq_getElem?, List.getLast?_eq_getLast h]
  rfl
theorem drop_map (L : List Int) : (L.map V.int).dropLast = L.dropLast.map V.int := by rw [List.map_dropLast]
/-- all but lists stands as before -/
def KeepT (H G : Hp) : Prop := ∀ b o, H b = some o → (∀ xs, o ≠ .lst xs) → G b = some o
theorem KeepT.of {H G : Hp} (e : Same H G) : KeepT H G := fun b o h _ => e b o h
theorem KeepT.trans {H G J : Hp} (a : KeepT H G) (b : KeepT G J) : KeepT H J := fun c o h n => b c o (a c o h n) n
theorem KeepT.put {H : Hp} {p : Addr} {xs : List V} {o : HO} (h : H p = some (.lst xs)) : KeepT H (upd H p o) := fun b x e n => by
  have ne : b ≠ p := fun z => by
    subst z
    have z2 := Option.some.inj (h.symm.trans e)
    exact n _ z2.symm
  exact (upd_ne ne).trans e
theorem KeepT.but {h l : Addr} {H G : Hp} {L : List Int} {st : Int} (v : Hv H h l L st) (b : But h l H G) : KeepT H G := fun c o e n =>
  b c o (fun z => by subst z; exact n _ (Option.some.inj (v.top.symm.trans e)).symm) (fun z => by subst z; exact n _ (Option.some.inj (v.bot.symm.trans e)).symm) e
theorem KeepT.seqT {K : PySem.W.Frag} {H G : Hp} {a : Addr} {xs : List V} (e : KeepT H G) (h : SqT K H a xs) : SqT K G a xs := by
  rcases h with (z | ⟨o, z⟩) | z
  · exact .inl (.inl (e _ _ z (by intro _ q; cases q)))
  · exact .inl (.inr ⟨o, e _ _ z (by intro _ q; cases q)⟩)
  · exact .inr z
mutual
def noList : PyData → Bool
  | .none | .bool _ | .int _ | .str _ => true
  | .tuple xs => noListAll xs
  | .list _ | .dict _ => false
def noListAll : List PyData → Bool
  | [] => true
  | x :: xs => noList x && noListAll xs
end
mutual
theorem dp_keep {K : PySem.W.Frag} {H G : Hp} (e : KeepT H G) : ∀ (d : PyData) (v : V), noList d = true → Dp K H v d → Dp K G v d
  | .none, _, _, h => by cases h; exact .non
  | .bool b, _, _, h => by cases h; exact .bl b
  | .int i, _, _, h => by cases h; exact .int i
  | .str x, _, _, h => by cases h; exact .str x
  | .list ds, _, n, _ => by simp [noList] at n
  | .tuple ds, _, n, h => by
    cases h with
    | tup hs ha => exact .tup (e.seqT hs) (dpAll_keep e ds _ (by simpa [noList] using n) ha)
  | .dict _, _, _, h => by cases h
theorem dpAll_keep {K : PySem.W.Frag} {H G : Hp} (e : KeepT H G) : ∀ (ds : List PyData) (vs : List V), noListAll ds = true → DpAll K H vs ds → DpAll K G vs ds
  | [], _, _, h => by cases h; exact .nil
  | d :: ds, _, n, h => by
    have n' : noList d = true ∧ noListAll ds = true := by simpa [noListAll] using n
    cases h with
    | cons h1 h2 => exact .cons (dp_keep e d _ n'.1 h1) (dpAll_keep e ds _ n'.2 h2)
end
theorem noListAll_mem : ∀ {ds : List PyData}, (∀ d ∈ ds, noList d = true) → noListAll ds = true
  | [], _ => rfl
  | x :: xs, h => by rw [noListAll, h x List.mem_cons_self, noListAll_mem fun d hd => h d (List.mem_cons_of_mem _ hd)]; rfl
theorem lt_one (a b : Nat) : decide (([a] : List Nat) < [b]) = decide (a < b) := by
  by_cases h : a < b
  · rw [decide_eq_true h]
    exact decide_eq_true (List.Lex.rel h)
  · rw [decide_eq_false h]
    refine decide_eq_false fun z => ?_
    cases z with
    | rel z => exact h z
    | cons z => cases z
theorem if_out {c : TT} {t u : TS} {D : Ends} {σ : L2.St} {G : Hp} (R : Bool) (h1 : ∀ B : Bool → Hp → Prop, (∀ G', Same G G' → B R G') → c σ G B) (h2 : ∀ G', Same G G' → if R = true then t D σ G' else u D σ G') : tIfS c t u D σ G := h1 _ h2
theorem seq_out {t u : TS} {D : Ends} {σ : L2.St} {G : Hp} (R : L2.St → Hp → Prop) (h1 : ∀ N : L2.St → Hp → Prop, (∀ σ' G', R σ' G' → N σ' G') → t { D with nx := N } σ G) (h2 : ∀ σ' G', R σ' G' → u D σ' G') : tSeq t u D σ G := h1 (u D) h2
theorem But.seqL {K : PySem.W.Frag} {h l p : Addr} {H G : Hp} {xs : List V} (b : But h l H G) (h1 : p ≠ h) (h2 : p ≠ l) (e : SqL K H p xs) : SqL K G p xs := by
  rcases e with (z | ⟨o, z⟩) | z
  · exact .inl (.inl (b _ _ h1 h2 z))
  · exact .inl (.inr ⟨o, b _ _ h1 h2 z⟩)
  · exact .inr z
theorem for_str {x : Str} {g : TG} {tb : TS} {D : Ends} {σ : L2.St} {H : Hp} (Pv : Nat → L2.St → Hp → Prop) (h0 : Pv 0 σ H)
    (hs : ∀ i c σ H, x.cps.toList[i]? = some c → Pv i σ H → g (.str ⟨#[c]⟩) σ H fun σ2 H2 => tb { D with nx := Pv (i + 1), ct := Pv (i + 1), bk := D.nx } σ2 H2) (hd : ∀ σ H, Pv x.cps.toList.length σ H → D.nx σ H) :
    ∃ W : Nat → Nat → L2.St → Hp → Prop, (∃ m, W 0 m σ H) ∧ ∀ i m σ H, W i m σ H →
      ((Its x).stop i H ∧ D.nx σ H) ∨ ((Its x).go i H ∧ ∃ N : L2.St → Hp → Prop, (∀ σ' H', N σ' H' → ∃ m', m' < m ∧ W (i + 1) m' σ' H') ∧ ∀ v H', (Its x).yld i H v H' → g v σ H' fun σ2 H2 => tb { D with nx := N, ct := N, bk := D.nx } σ2 H2) := by
  refine ⟨fun i m σ H => m = x.cps.toList.length - i ∧ i ≤ x.cps.toList.length ∧ Pv i σ H, ⟨_, rfl, Nat.zero_le _, h0⟩, fun i m σ H hw => ?_⟩
  obtain ⟨rfl, hi, hp⟩ := hw
  by_cases hlt : i < x.cps.toList.length
  · refine .inr ⟨by show i < x.cps.size; simpa using hlt, Pv (i + 1), fun σ' H' hp' => ⟨_, by omega, rfl, hlt, hp'⟩, fun v H' hy => ?_⟩
    obtain ⟨rfl, c, hc, rfl⟩ := hy
    exact hs i c σ _ (by simpa using hc) hp
  · have e : i = x.cps.toList.length := by omega
    subst e
    exact .inl ⟨by show x.cps.size ≤ _; simp, hd σ H hp⟩
section
variable {X : Cx}
end
theorem dpAll_last {K : PySem.W.Frag} {H : Hp} : ∀ {ds : List PyData} {d : PyData} {vs : List V}, DpAll K H vs (ds ++ [d]) → ∃ us v, vs = us ++ [v] ∧ DpAll K H us ds ∧ Dp K H v d
  | [], d, vs, h => by
    cases h with
    | cons a r => cases r; exact ⟨[], _, rfl, .nil, a⟩
  | x :: r, d, vs, h => by
    cases h with
    | cons a t =>
      obtain ⟨us, v, e, h1, h2⟩ := dpAll_last t
      exact ⟨_ :: us, v, by rw [e]; rfl, .cons a h1, h2⟩
theorem ix_last {α : Type} (us : List α) (v : α) : ixN (us ++ [v]).length (-1) = some us.length := by
  unfold ixN
  rw [List.length_append, if_neg (by decide), if_pos (by show -((us.length + 1 : Nat) : Int) ≤ -1; omega)]
  show some (-1 + ((us.length + 1 : Nat) : Int)).toNat = _
  congr 1
  omega
theorem set_last {α : Type} (us : List α) (v u : α) : (us ++ [v]).set us.length u = us ++ [u] := by
  rw [List.set_append_right _ _ (Nat.le_refl _), Nat.sub_self]
  rfl
theorem eqv_nilD (ds : List PyData) : PyData.eqv (.list ds) (.list []) = ds.isEmpty := by
  cases ds with
  | nil => rfl
  | cons x r => simp [PyData.eqv, PyData.eqvAll]
theorem sg_ne {c n : Nat} {s : Str} (e : s = ⟨#[n]⟩) (h : c ≠ n) : ¬ V.str ⟨#[c]⟩ = V.str s := fun z => h (by
  rw [e] at z
  have e2 : (⟨#[c]⟩ : Str) = ⟨#[n]⟩ := V.str.inj z
  injection e2 with e2
  simpa using e2)
theorem fold_mem (c : Nat) (a : Array Nat) : ∀ (n : Nat) (b : Array Nat), c ∈ ((List.replicate n a).foldl (· ++ ·) b).toList → c ∈ b.toList ∨ c ∈ a.toList
  | 0, b, h => .inl h
  | n + 1, b, h => by
    rw [List.replicate_succ, List.foldl_cons] at h
    rcases fold_mem c a n (b ++ a) h with z | z
    · rw [Array.toList_append] at z
      exact List.mem_append.mp z
    · exact .inr z
theorem mul_mem {c : Nat} {x : Str} {i : Int} (h : c ∈ (Txt.mul x i).cps.toList) : c ∈ x.cps.toList := by
  unfold Txt.mul at h
  split at h
  · exact absurd h (by simp [Str.empty])
  · split at h
    · exact h
    · rcases fold_mem c x.cps _ _ h with z | z
      · simp at z
      · exact z
section
variable {X : Cx}
/-- z * i, z a short text -/
theorem op_mulT : OpR X (binaryOp .Mult) (fun x y H Q => ∃ z i, x = .str z ∧ y = .int i ∧ z.length ≤ 16 ∧ 0 ≤ i ∧ i ≤ 1048576 ∧ ∀ u : Str, (u.length : Int) = (z.length : Int) * i → (∀ c ∈ u.cps.toList, c ∈ z.cps.toList) → Q (.str u) H) := by
  intro pins s σ H x y v u Q I rx ry h
  obtain ⟨z, i, rfl, rfl, h1, h2, h3, q⟩ := h
  obtain ⟨t, rfl⟩ := rx
  obtain ⟨t2, rfl⟩ := ry
  exact PySem.W.KXi.mul rfl h1 (by omega) h3 fun t' k _ e => ⟨.str _, H, I.tok k, ⟨t', rfl⟩, q _ (e h2) fun c hc => mul_mem hc⟩
end
theorem app_list (a b : Str) : (a ++ b).cps.toList = a.cps.toList ++ b.cps.toList := by
  show (a.cps ++ b.cps).toList = _
  rw [Array.toList_append]
theorem sum_le {α : Type} {f : α → Nat} {b : Nat} : ∀ {l : List α}, (∀ x ∈ l, f x ≤ b) → (l.map f).sum ≤ l.length * b
  | [], _ => Nat.zero_le _
  | x :: r, h => by
    have h1 := h x List.mem_cons_self
    have h2 := sum_le (f := f) (b := b) (l := r) fun y hy => h y (List.mem_cons_of_mem _ hy)
    rw [List.map_cons, List.sum_cons, List.length_cons, Nat.succ_mul]
    omega
theorem blk_cons {X : Cx} {st : Stmt} {r : List Stmt} {t : TS} {G : TS → Prop} (h : PS X st t) (n : ∃ u, PSs X r u ∧ G (tSeq t u)) : ∃ u, PSs X (st :: r) u ∧ G u := n.elim fun u z => ⟨_, pss_cons h z.1, z.2⟩
theorem blk_nil {X : Cx} {G : TS → Prop} (h : G tNext) : ∃ u, PSs X [] u ∧ G u := ⟨_, pss_nil, h⟩
end Gd
/-! Further rules: what may raise at known slots, keywords, isinstance of a caught error with its own dict, places in tuples. -/
namespace Gd
open PySem PySem.Spec PyProof.Rows L2
/-- a call by positional values and keywords, no defaults -/
theorem kbn_of {K : PySem.W.Frag} {x qual : Str} {st : Stmt} {f : Addr} {fd : FuncData} {ps ks : List Str} {n : Nat} {g : List Value → List Value → List Value} {gV : List V → List V → List V} (F : Fun K x qual st f fd)
    (h : ∀ (kV doc pm : Value) (an : Option Addr) (cv ct : Value) (us ws : List Value), us.length = n → ws.length = ks.length → bindArgs (PySem.W.fnOf x qual (defArgs st) (defBody st) (defScope st) .none kV doc pm an cv ct) ⟨us, ks.zip ws⟩ = pure (ps.zip (g us ws)))
    (r : ∀ {vs : List V} {us : List Value} {zs : List V} {ws : List Value}, Vals vs us → Vals zs ws → Vals (gV vs zs) (g us ws)) : KBn K fd ps n ks g gV := by
  obtain ⟨oc, od, kV, doc, pm, an, cv, ct, osl, rfl, lk, hc⟩ := F.ex
  exact ⟨fun s us ws _ l1 l2 => .of_eq (h kV doc pm an cv ct us ws l1 l2), r⟩
section
variable {X : Cx} {CX : CXT} {k n : Nat} {f C : Addr} {fd : FuncData} {ps ks : List Str} {sp : Sp} {x m : Str} {p pos apos : Pos} {e o : Expr} {es : List Expr} {kws : List Keyword} {t tk ta : TA} {to : TE} {g : List Value → List Value → List Value} {gV : List V → List V → List V}
/-- f(k = v, ..), f raising nothing -/
def tKn (m : Nat) (sp : Sp) (gV : List V → List V → List V) (tk : TA) : TE := fun σ H Q => tk σ H fun zs H2 => zs.length = m ∧ sp (gV [] zs) H2 Q E0
theorem pe_kwN (F : FnG X.prog X.w X.K X.mg X.base k f fd ps sp) (hr : RmG k X.A) (hg : Gl X x) (hm : X.mg x = some (.ref f)) (hk : PySem.W.keepIn X.K (.ref f) = true) (hb : KBn X.K fd ps 0 ks g gV) (hkw : PK X kws tk)
    (h1 : (backToKw pos (keywordEach kws X.env)).all (·.1.isSome) = true := by rfl) (h2 : (backToKw pos (keywordEach kws X.env)).filterMap (·.1) = ks := by rfl) (h3 : (x == ("__debug__" : Str)) = false := by decide)
    (h4 : ((backTo pos (starEach [] X.env)).any (·.1) || (backToKw pos (keywordEach kws X.env)).any (·.1.isNone)) = false := by rfl) :
    PE X (.Call (.Name x p) [] kws pos) (tKn ks.length sp gV tk) := by
  refine ⟨fun pins s σ H Q I h => wpAny_Call_Name_kw (ld_glob I hg hm (PySem.W.callWith_KW0 (h₀ := X.base) I.ok.mod.kin hk h1 ?_ h4) h3)⟩
  refine thn (hkw.run pos pins s σ H _ I h) fun ws s2 ⟨zs, H2, I2, rz, l, q⟩ => ⟨I2.kIn, ?_⟩
  rw [h2]
  refine wpAny_call (codeAny_mono (run_G F hr I2 (hb.to s2 [] ws I2.kIn rfl (rz.length.symm.trans l)) (hb.rel .nil rz) q) fun r s' hq => ?_)
  obtain ⟨u, rfl, z⟩ := hq
  exact z
/-- o.m(k = v, ..), m raising nothing -/
def tMKn (C : Addr) (m : Str) (l : Nat) (sp : Sp) (gV : List V → List V → List V) (to : TE) (tk : TA) : TE := fun σ H Q => to σ H fun x H1 => ∃ a dx fs, x = .ref a ∧ H1 a = some (.ins C dx fs) ∧ fs.lookup m = none ∧ tk σ H1 fun zs H2 => zs.length = l ∧ sp (gV [x] zs) H2 Q E0
theorem pe_methK {pl : Sem Bool} (he : PE X o to) (c : Cls X.K C) (hm : Meth X.K C m f) (F : FnG X.prog X.w X.K X.mg X.base k f fd ps sp) (hr : RmG k X.A) (hb : KBn X.K fd ps 1 ks g gV) (hkw : PK X kws tk)
    (h1 : (backToKw pos (keywordEach kws X.env)).all (·.1.isSome) = true := by rfl) (h2 : (backToKw pos (keywordEach kws X.env)).filterMap (·.1) = ks := by rfl)
    (h4 : ((backTo pos (starEach [] X.env)).any (·.1) || (backToKw pos (keywordEach kws X.env)).any (·.1.isNone)) = false := by rfl)
    (ht : eval (.Call (.Attribute o m apos) [] kws pos) X.env = (do
      let ov ← eval o X.env
      standAt apos.atName
      let (f, first) ← holding [ov] (getMethod ov m pl)
      callWith pos f first (backTo pos (starEach [] X.env)) (backToKw pos (keywordEach kws X.env))) := by rfl) :
    PE X (.Call (.Attribute o m apos) [] kws pos) (tMKn C m ks.length sp gV to tk) := by
  refine ⟨fun pins s σ H Q I h => PySem.W.methodCall_KW (pl := pl) (thn (he.run pins s σ H _ I h) fun u s1 ⟨x, H1, I1, rx, a, dx, fs, ex, ea, l, q⟩ => ?_) ht⟩
  subst ex
  obtain rfl : u = Value.ref a := rx
  refine getmeth_ok I1 ea c hm l (PySem.W.callWith_KW0 (first := [.ref a]) (h₀ := X.base) I.ok.mod.kin hm.kp h1 ?_ h4)
  refine thn (hkw.run pos pins s1 σ H1 _ I1 q) fun ws s2 ⟨zs, H2, I2, rz, l, q⟩ => ⟨I2.kIn, ?_⟩
  rw [h2]
  refine wpAny_call (codeAny_mono (run_G F hr I2 (hb.to s2 [.ref a] ws I2.kIn rfl (rz.length.symm.trans l)) (hb.rel (.cons (show RelV (V.ref a) (Value.ref a) from rfl) .nil) rz) q) fun r s' hq => ?_)
  obtain ⟨u, rfl, z⟩ := hq
  exact z
/-- C(e, ..) whose __init__ may raise; E: what is wanted then, at these slots -/
def tMakeS (C : Addr) (sp : Sp) (E : L2.St → XK) (t : TA) : TE := fun σ H Q => t σ H fun vs H1 => ∀ x dx, H1 x = none → H1 dx = none → dx ≠ x →
  sp (.ref x :: vs) (upd (upd H1 dx (.own x)) x (.ins C dx [])) (fun v H2 => v = .non ∧ Q (.ref x) H2) (E σ)
theorem pe_makeS {E : L2.St → XK} (M : Mk X.K C f) (F : FnOk X.prog X.w X.K X.mg X.base CX k f fd ps sp) (hr : Room (k + 1) X.A) (hg : Gl X x) (hm : X.mg x = some (.ref C)) (hb : Binds X.K fd ps []) (hx : ∀ σ, PassesAt CX X σ (E σ))
    (ha : PA X (e :: es) t) (h1 : (x == ("__debug__" : Str)) = false := by decide) (h2 : starEach (e :: es) X.env = (false, eval e X.env) :: starEach es X.env := by rfl) (h3 : (backTo pos (starEach es X.env)).any (·.1) = false := by rfl) :
    PE X (.Call (.Name x p) (e :: es) [] pos) (tMakeS C sp E t) := by
  refine ⟨fun pins s σ H Q I h => wpAny_Call_Name_kw (ld_glob I hg hm (PySem.W.callWith_K (h₀ := X.base) I.ok.mod.kin M.kp (thn (ha.run pos pins s σ H _ I h) fun us s1 ⟨vs, H1, I1, r, q⟩ => ⟨I1.kIn, ?_⟩) h2 h3) h1)⟩
  have q2 := q (s1.heap.objs.size + 1) s1.heap.objs.size (I1.hok.fresh (Nat.le_succ _)) (I1.hok.fresh (Nat.le_refl _)) (Nat.ne_of_lt (Nat.lt_succ_self _))
  have I2 := Inv.made (C := C) I1
  have r2 : Vals (V.ref (s1.heap.objs.size + 1) :: vs) (Value.ref (s1.heap.objs.size + 1) :: us) := .cons rfl r
  have hl : (Value.ref (s1.heap.objs.size + 1) :: us).length = ps.length := r2.length.symm.trans (F.len _ _ _ _ q2)
  have b := hb _ (Value.ref (s1.heap.objs.size + 1) :: us) I2.kIn (by rw [List.append_nil]; exact hl)
  rw [List.append_nil] at b
  refine wpAny_call (make_map (f := f) I1.kIn M.makes M.init (beq_iff_eq.mp M.fn) (codeAny_mono (F.run _ X.stack _ _ ⟨Value.ref (s1.heap.objs.size + 1) :: us, []⟩ _ _ _ (E σ) (hr.make C us []) (I2.env0.make C us []) b r2 q2) fun r s' hq => ?_))
  rcases r with er | fl
  · exact hx σ pins _ _ er s' I2 hq
  · cases fl with
    | ret u =>
      obtain ⟨v, H', I3, rv, ev, q3⟩ := I2.after hq
      subst ev
      exact ⟨rv, ⟨V.ref (s1.heap.objs.size + 1), H', I3, rfl, q3⟩⟩
    | next => exact hq.elim
    | brk => exact hq.elim
    | cont => exact hq.elim
/-- isinstance(e, c), e the error that the suite holds, of the class at D -/
theorem call_isE2 {a D : Addr} {oe : Obj} {d : Option Addr} {pn : List (Addr × Obj)} (T : L2.ExcC X.K D) (hz : Zc (.ref D) d oe) (hf : ∃ vs, oe.data = .fields vs) :
    CallR (X.suite a ((a, oe) :: pn)) (.builtin "isinstance") (fun xs H Q => ∃ (c : V) (u : Value) (b : Bool), xs = [.ref a, c] ∧ ClsV c u ∧ PySem.W.kitOne X.K (.ref D) u = some b ∧ (d = none ∨ ∃ dd fs, d = some dd ∧ H dd = some (.xd fs) ∧ fs.lookup ("__class__" : Str) = none) ∧ Q (.bl b) H) := by
  intro pins s σ H xs us Q I r h
  obtain ⟨c, u, b, rfl, hc, e, hd, q⟩ := h
  obtain ⟨u1, u2, rfl, r1, r2⟩ := vals2 r
  obtain rfl : u1 = Value.ref a := r1
  have e2 := hc.eq r2
  subst e2
  obtain ⟨ha, _⟩ := I.pin (a, oe) (List.mem_append_left _ List.mem_cons_self)
  obtain ⟨vs, hv⟩ := hf
  have hcl : (PySem.W.clsIn X.K D).isSome = true := by
    obtain ⟨cd, z, _⟩ := PySem.W.any_some T.hd
    rw [z]
    rfl
  obtain ⟨od, J⟩ : ∃ od, PySem.W.InstAt s.heap a oe D od := by
    rcases hd with rfl | ⟨dd, fs, rfl, hx, _⟩
    · exact ⟨none, ha, hz.1, by unfold PySem.W.notCls; rw [hv] <;> rfl, by rw [hz.2]; trivial⟩
    · obtain ⟨mA, hns, _⟩ := (show ObjOk X.prog X.w H s.heap dd (.xd fs) from I.hok dd _ hx)
      obtain ⟨od, ho, _⟩ := lookIn_ns hns
      exact ⟨some od, ha, hz.1, by unfold PySem.W.notCls; rw [hv] <;> rfl, by rw [hz.2]; exact ho⟩
  exact PySem.W.kia_one (PySem.W.kitx_exc (x := a) (ox := oe) (od := od) hcl T.hg T.hk T.hs T.ha T.hn T.ht T.hm) I.kIn J e (fun z => nomatch z) fun tk => ⟨.bl b, H, I.tok tk, rfl, q⟩
end
end Gd
namespace Gd
open PySem PySem.Spec PyProof.Rows L2
section
variable {X : Cx}
/-- t.index(n), n in it -/
theorem mt_indexI : MtR X "tuple.index" (fun x xs H Q => ∃ (p : Addr) (ns : List Int) (z : Int), x = .ref p ∧ xs = [.int z] ∧ SqT X.K H p (ns.map V.int) ∧ z ∈ ns ∧ Q (.int (ns.idxOf z : Nat)) H) := by
  intro pins s σ H x xs v us Q I rx rs h
  obtain ⟨p, ns, z, rfl, rfl, hq, hz, q⟩ := h
  obtain rfl : v = Value.ref p := rx
  obtain ⟨u, rfl, t, rfl⟩ := vals1 rs
  obtain ⟨its, r, pl, _⟩ := I.tuple hq
  exact PySem.SeqAt.tuple_index_ints pl (intsAre_of r) hz ⟨.int (ns.idxOf z : Nat), H, I.tok _, ⟨_, rfl⟩, q⟩
/-- (x,) * k -/
theorem op_rep1 : OpR X (binaryOp .Mult) (fun x y H Q => ∃ (l : Addr) (k : Int) (z : V), x = .ref l ∧ y = .int k ∧ SqT X.K H l [z] ∧ 2 ≤ k ∧ k ≤ 100000 ∧ ∀ p, H p = none → Q (.ref p) (upd H p (.tup (List.replicate k.toNat z)))) := by
  intro pins s σ H x y v u Q I rx ry h
  obtain ⟨l, k, z, rfl, rfl, hT, h1, h2, q⟩ := h
  obtain rfl : v = Value.ref l := rx
  obtain ⟨t, rfl⟩ := ry
  obtain ⟨its, r, ⟨⟨cls, dd, data, sl⟩, ho, hc, n, hd⟩, hs⟩ := I.tuple hT
  simp only at hc hd
  subst hc hd
  obtain ⟨u0, rfl, r0⟩ := vals1 r
  have e1 : ([u0] : List Value).toArray.size = 1 := rfl
  have fl : (List.replicate k.toNat [u0]).flatten = List.replicate k.toNat u0 := by
    generalize k.toNat = m
    induction m with
    | zero => rfl
    | succ m ih => rw [List.replicate_succ, List.flatten_cons, ih, List.replicate_succ]; rfl
  have c0 : (decide (k < -(2 ^ 63)) || decide (k ≥ 2 ^ 63)) = false := by rw [decide_eq_false (by omega), decide_eq_false (by omega)]; rfl
  have c1 : (([u0] : List Value).toArray.isEmpty || k == 1) = false := by
    rw [show ([u0] : List Value).toArray.isEmpty = false from rfl, Bool.false_or]
    exact beq_eq_false_iff_ne.mpr (by omega)
  have c2 : (decide (k ≤ 0) || ([u0] : List Value).toArray.isEmpty) = false := by
    rw [show ([u0] : List Value).toArray.isEmpty = false from rfl, Bool.or_false]
    exact decide_eq_false (by omega)
  have c4 : Builtin.Tuple.tupleTooMany (((([u0] : List Value).toArray.size : Nat) : Int) * k) = false := by
    unfold Builtin.Tuple.tupleTooMany
    rw [e1, sizeLine_eq]
    exact decide_eq_false (by omega)
  have hz : (List.replicate k.toNat u0).length ≤ sizeLine := by
    rw [List.length_replicate, sizeLine_eq]
    omega
  refine wpAny_binaryOp_repeat_ref (T := "tuple") (U := "int") (by decide) ⟨_, ho, rfl⟩ (fun s' => typeIs_int s' k t) noFill_tuple_mul F.fills_int_mul F.slot_int_rmul repeat_tuple F.slot_int_index.lookup
    (call_meets F.slot_int_rmul (typeIs_int s k t) F.entry_int_rmul (F.args_int_rmul_2 _ _) (int_rmul_tuple k t l ([u0] : List Value).toArray n dd sl)
      ⟨ho, rfl, ⟨_, ho, rfl⟩, call_meets F.slot_tuple_mul ⟨_, ho, rfl⟩ F.entry_tuple_mul (F.args_tuple_mul_2 _ _) (tuple_mulW l ([u0] : List Value).toArray n dd sl k t c0 c1 c2 (by rw [e1]; omega) c4 (by rw [size_rep, List.size_toArray, fl]; exact hz)) ⟨ho, ?_⟩⟩)
  rw [size_rep, fl]
  refine ⟨.ref s.heap.objs.size, _, I.laid (t' := s.toks) (o := .tup (List.replicate k.toNat z)) (fun b ob q => Heap.get?_push_of_some _ q) (Nat.le_refl _) ?_, rfl, q _ (I.hok.fresh (Nat.le_refl _))⟩
  refine ⟨by rw [List.length_replicate, sizeLine_eq]; omega, List.replicate k.toNat u0, ?_, IsTup.new _ _⟩
  generalize k.toNat = m
  induction m with
  | zero => exact .nil
  | succ m ih => rw [List.replicate_succ, List.replicate_succ]; exact .cons r0 ih
end
end Gd
namespace Gd
open PySem PySem.Spec PyProof.Rows L2
/-- a tuple that is known to have no attributes of its own -/
def PlT (H : Hp) (p : Addr) (xs : List V) : Prop := ∃ o : Obj, o.cls = .type "tuple" ∧ o.dict = none ∧ H p = some (.frz o (.tup xs))
theorem PlT.sq {K : PySem.W.Frag} {H : Hp} {p : Addr} {xs : List V} (h : PlT H p xs) : SqT K H p xs := let ⟨o, _, _, e⟩ := h; .inl (.inr ⟨o, e⟩)
theorem PlT.same {H G : Hp} {p : Addr} {xs : List V} (h : PlT H p xs) (e : Same H G) : PlT G p xs := let ⟨o, a, b, z⟩ := h; ⟨o, a, b, e _ _ z⟩
theorem PlT.keep {H G : Hp} {p : Addr} {xs : List V} (h : PlT H p xs) (e : KeepT H G) : PlT G p xs := let ⟨o, a, b, z⟩ := h; ⟨o, a, b, e _ _ z (by intro _ q; cases q)⟩
section
variable {X : Cx} {o e : Expr} {es : List Expr} {to : TE} {t : TA} {name : Str} {apos cpos : Pos} {id : String} {r : V → List V → Hp → VK → Prop}
/-- tuple(xs), xs a list: no attributes -/
theorem call_tuple_pl : CallR X (.type "tuple") (fun xs H Q => ∃ p ys, xs = [.ref p] ∧ SqL X.K H p ys ∧ ∀ l G, H l = none → Same H G → PlT G l ys → Q (.ref l) G) := by
  intro pins s σ H xs us Q I r h
  obtain ⟨p, ys, rfl, hq, q⟩ := h
  obtain ⟨u, rfl, rx⟩ := vals1 r
  cases rx
  obtain ⟨its, r', pl, hz⟩ := I.list hq
  have hlen := r'.length
  refine call_tuple_list pl.isList (fun h' kp => ?_) (by simp only [List.size_toArray] <;> omega)
  have I1 : Inv X pins σ H { s with heap := h' } := I.kept (t' := s.toks) kp
  have hn := I1.hok.fresh (Nat.le_refl _)
  have I2 : Inv X pins σ (upd H h'.objs.size (.frz { cls := .type "tuple", data := .seq its.toArray } (.tup ys))) { s with heap := h'.push { cls := .type "tuple", data := .seq its.toArray } } :=
    I1.laid (t' := s.toks) (fun b o e => Heap.get?_push_of_some _ e) (Nat.le_refl _) (show ObjOk X.prog X.w _ _ _ (.frz _ (.tup ys)) from ⟨Heap.get?_push_size _ rfl, hz, its, r', IsTup.new _ _⟩)
  exact ⟨.ref h'.objs.size, _, I2, rfl, q _ _ hn (same_new hn) ⟨_, rfl, rfl, upd_same⟩⟩
/-- t.m(e, ..), t such a tuple -/
def tBMT (r : V → List V → Hp → VK → Prop) (to : TE) (t : TA) : TE := fun σ H Q => to σ H fun x H1 => (∃ p ys, x = .ref p ∧ PlT H1 p ys) ∧ t σ H1 fun xs H2 => r x xs H2 Q
theorem pe_bmT (pa : PlainAttrs "tuple") (slot : Slot "tuple" name id) (hty : typeOf (.builtin id) = pure (.type "method_descriptor")) (hm : MtR X id r) (ho : PE X o to) (ha : PA X (e :: es) t)
    (hbase : attributeBase o name X.env (eval o X.env) = eval o X.env := by rfl)
    (hfew : ((backTo cpos (starEach (e :: es) X.env)).all (fun x => !x.1) && (backToKw cpos (keywordEach [] X.env)).all (fun x => x.1.isSome)
      && decide ((e :: es).length + ([] : List Keyword).length + (if ([] : List Keyword).isEmpty then 0 else 1) < 30)) = true := by rfl)
    (hline : (apos.endLine == cpos.line) = true := by rfl) (hs : starEach (e :: es) X.env = (false, eval e X.env) :: starEach es X.env := by rfl) (hplain : (backTo cpos (starEach es X.env)).any (·.1) = false := by rfl) :
    PE X (.Call (.Attribute o name apos) (e :: es) [] cpos) (tBMT r to t) := by
  refine ⟨fun pins s σ H Q I h => ?_⟩
  refine wpAny_Call_method_late hbase hfew hline rfl (thn (ho.run pins s σ H _ I h) fun v s1 ⟨x, H1, I1, r1, ty, q1⟩ => ?_)
  obtain ⟨p, ys, rfl, ob, hc, hd, hq⟩ := ty
  obtain rfl : v = Value.ref p := r1
  have ho := (I1.hok p _ hq).1
  refine ⟨"tuple", id, pa, slot, hty, ⟨ob, ho, hc⟩, fun a e => ?_, ?_⟩
  · cases e
    exact ⟨ob, ho, hd⟩
  have hA := ha.run cpos pins s1 σ H1 _ I1 q1
  rw [hs] at hA ⊢
  refine Calls.callWith_builtin (by show (false || (backTo cpos (starEach es X.env)).any (·.1)) = false; rw [hplain] <;> rfl) (Calls.evalArgs_plain ?_)
  exact thn hA fun us s2 ⟨vs, H2, I2, r2, q2⟩ => hm pins s2 σ H2 (.ref p) vs _ us Q I2 rfl r2 q2
end
end Gd
/-! What further laws share: values told by their types, numbers, sorted lists, frames. -/
namespace Gd
open PySem PySem.Spec PyProof.Rows L2
/-- a value of a built-in type, by the name of the type -/
def TyN (K : PySem.W.Frag) (H : Hp) (x : V) (n : String) : Prop := TyX K H x (.type n)
theorem TyN.int {K : PySem.W.Frag} {H : Hp} (i : Int) : TyN K H (.int i) "int" := .base (.int i)
theorem TyN.bl {K : PySem.W.Frag} {H : Hp} (b : Bool) : TyN K H (.bl b) "bool" := .base (.bl b)
theorem TyN.non {K : PySem.W.Frag} {H : Hp} : TyN K H .non "NoneType" := .base .non
theorem TyN.str {K : PySem.W.Frag} {H : Hp} (x : Str) : TyN K H (.str x) "str" := .base (.str x)
theorem tyX_same {K : PySem.W.Frag} {H G : Hp} (e : Same H G) {x : V} {t : Value} (h : TyX K H x t) : TyX K G x t := by
  cases h with
  | base b =>
    cases b with
    | non => exact .base .non
    | bl y => exact .base (.bl y)
    | int i => exact .base (.int i)
    | str y => exact .base (.str y)
    | flt y => exact .base (.flt y)
    | lst q => exact .base (.lst (e _ _ q))
    | frz q => exact .base (.frz (e _ _ q))
    | tup q => exact .base (.tup (e _ _ q))
    | dK q => exact .base (.dK (e _ _ q))
    | dT q => exact .base (.dT (e _ _ q))
    | ins q a b c d m => exact .base (.ins (e _ _ q) a b c d m)
  | byt b => exact .byt b
  | set q => exact .set (e _ _ q)
  | kList q c => exact .kList q c
  | kTuple q c => exact .kTuple q c
  | kDict q c => exact .kDict q c
  | fTuple q => exact .fTuple (e _ _ q)
  | fDict q => exact .fDict (e _ _ q)
/-- whether any value is a number below a limit -/
def NumV (K : PySem.W.Frag) (H : Hp) (lim : Int) (x : V) (b : Bool) : Prop :=
  (∃ i, x = .int i ∧ b = decide (0 ≤ i ∧ i < lim)) ∨ (∃ y, x = .bl y ∧ b = false) ∨ (∃ n, TyN K H x n ∧ kitB n "int" = some false ∧ b = false)
theorem NumV.same {K : PySem.W.Frag} {H G : Hp} (e : Same H G) {lim : Int} {x : V} {b : Bool} (h : NumV K H lim x b) : NumV K G lim x b :=
  h.imp id fun h => h.imp id fun ⟨n, t, k, z⟩ => ⟨n, tyX_same e t, k, z⟩
def NumVs (K : PySem.W.Frag) (H : Hp) (lim : Int) : List V → List Bool → Prop := Paired (NumV K H lim)
theorem paired_at {α β : Type} {R : α → β → Prop} : ∀ {xs : List α} {ys : List β} {i : Nat} {x : α}, Paired R xs ys → xs[i]? = some x → ∃ y, ys[i]? = some y ∧ R x y
  | _, _, _, _, .nil, e => by simp at e
  | _, _, 0, _, .cons r _, e => by simp at e; subst e; exact ⟨_, rfl, r⟩
  | _, _, i + 1, x, .cons _ t, e => by
    obtain ⟨y, h1, h2⟩ := paired_at (i := i) (x := x) t (by simpa using e)
    exact ⟨y, by simpa using h1, h2⟩
theorem tyT {K : PySem.W.Frag} {H : Hp} {c : Addr} {xs : List V} (h : SqT K H c xs) : TyN K H (.ref c) "tuple" := by
  rcases h with (z | ⟨o, z⟩) | ⟨o, its, n, hk, hc, _⟩
  · exact .base (.tup z)
  · exact .fTuple z
  · exact .kTuple hk hc
theorem nd_ints {l : List Nat} (h : l.Nodup) : (l.map fun a : Nat => (a : Int)).Nodup := by
  induction l with
  | nil => exact List.nodup_nil
  | cons a r ih =>
    obtain ⟨h1, h2⟩ := List.nodup_cons.mp h
    rw [List.map_cons]
    refine List.nodup_cons.mpr ⟨fun z => ?_, ih h2⟩
    obtain ⟨b, hb, e⟩ := List.mem_map.mp z
    have : b = a := by omega
    exact h1 (this ▸ hb)
theorem inV_ints (a : Int) (l : List Int) : inV (.int a) (l.map V.int) = decide (a ∈ l) := by
  induction l with
  | nil => rfl
  | cons b r ih =>
    have e : inV (.int a) ((b :: r).map V.int) = (eqV (.int b) (.int a) || inV (.int a) (r.map V.int)) := rfl
    rw [e, ih]
    by_cases h : b = a
    · subst h
      have : eqV (.int b) (.int b) = true := by simp [eqV]
      rw [this, Bool.true_or]
      exact (decide_eq_true List.mem_cons_self).symm
    · have : eqV (.int b) (.int a) = false := by simp [eqV, h]
      rw [this, Bool.false_or]
      exact decide_eq_decide.mpr ⟨fun z => List.mem_cons_of_mem _ z, fun z => (List.mem_cons.mp z).resolve_left fun e => h e.symm⟩
theorem flat_ints (l : List Int) : (l.map V.int).all flatV = true := List.all_eq_true.mpr fun x hx => by
  obtain ⟨n, _, rfl⟩ := List.mem_map.mp hx
  rfl
/-- sorted lists with the same things, each once, are one -/
theorem sorted_same : ∀ {a b : List Int}, a.Pairwise (· ≤ ·) → b.Pairwise (· ≤ ·) → a.Nodup → b.Nodup → (∀ x, x ∈ a ↔ x ∈ b) → a = b
  | [], [], _, _, _, _, _ => rfl
  | [], y :: s, _, _, _, _, h => absurd ((h y).mpr List.mem_cons_self) List.not_mem_nil
  | x :: r, [], _, _, _, _, h => absurd ((h x).mp List.mem_cons_self) List.not_mem_nil
  | x :: r, y :: s, pa, pb, na, nb, h => by
    obtain ⟨a1, a2⟩ := List.pairwise_cons.mp pa
    obtain ⟨b1, b2⟩ := List.pairwise_cons.mp pb
    obtain ⟨n1, n2⟩ := List.nodup_cons.mp na
    obtain ⟨m1, m2⟩ := List.nodup_cons.mp nb
    have e : x = y := by
      rcases List.mem_cons.mp ((h x).mp List.mem_cons_self) with z | z
      · exact z
      · rcases List.mem_cons.mp ((h y).mpr List.mem_cons_self) with z2 | z2
        · exact z2.symm
        · exact Int.le_antisymm (a1 y z2) (b1 x z)
    subst e
    rw [sorted_same a2 b2 n2 m2 fun z => ?_]
    constructor
    · intro hz
      rcases List.mem_cons.mp ((h z).mp (List.mem_cons_of_mem _ hz)) with q | q
      · exact absurd (q ▸ hz) n1
      · exact q
    · intro hz
      rcases List.mem_cons.mp ((h z).mpr (List.mem_cons_of_mem _ hz)) with q | q
      · exact absurd (q ▸ hz) m1
      · exact q
theorem cost_ints : ∀ l : List Int, costAll (l.map .int) = 12 * l.length
  | [] => by rw [List.map_nil, costAll]; rfl
  | x :: r => by
    rw [List.map_cons, costAll, cost_ints r, costD, List.length_cons]
    omega
theorem ints_fine {l : List Int} (h : ∀ x ∈ l, x.natAbs < 10 ^ 9) (hl : l.length ≤ 1000) : fine (.tuple (l.map .int)) = true ∧ (PyData.tuple (l.map .int)).depth ≤ 60 ∧ costD (.tuple (l.map .int)) ≤ sizeLine := by
  refine ⟨?_, ?_, ?_⟩
  · rw [fine]
    refine fineAll_mem fun d hd => ?_
    obtain ⟨x, hx, rfl⟩ := List.mem_map.mp hd
    rw [fine]
    exact decide_eq_true (h x hx)
  · rw [PyData.depth]
    have : PyData.depthAll (l.map .int) ≤ 1 := depthAll_mem fun d hd => by
      obtain ⟨x, _, rfl⟩ := List.mem_map.mp hd
      simp [PyData.depth]
    omega
  · rw [costD, cost_ints, sizeLine_eq]
    omega
theorem dp_tup {K : PySem.W.Frag} {H : Hp} {q : Addr} {l : List Int} (h : SqT K H q (l.map V.int)) : Dp K H (.ref q) (.tuple (l.map .int)) := .tup h (dpAll_ints l)
theorem map_at {ns : List Int} {i : Nat} {x : V} (h : (ns.map V.int)[i]? = some x) : ∃ n, ns[i]? = some n ∧ x = .int n := by
  rw [List.getElem?_map] at h
  cases e : ns[i]? with
  | none => rw [e] at h; cases h
  | some n => rw [e] at h; exact ⟨n, rfl, (Option.some.inj h).symm⟩
theorem paired_snoc {α β : Type} {R : α → β → Prop} : ∀ {xs : List α} {ys : List β} {x : α} {y : β}, Paired R xs ys → R x y → Paired R (xs ++ [x]) (ys ++ [y])
  | _, _, _, _, .nil, r => .cons r .nil
  | _, _, _, _, .cons a t, r => .cons a (paired_snoc t r)
theorem paired_mono {α β : Type} {R S : α → β → Prop} (h : ∀ a b, R a b → S a b) : ∀ {xs : List α} {ys : List β}, Paired R xs ys → Paired S xs ys
  | _, _, .nil => .nil
  | _, _, .cons a t => .cons (h _ _ a) (paired_mono h t)
/-- a statement's reading, kept shut -/
def tWr (t : TS) : TS := t
theorem ps_wr {X : Cx} {st : Stmt} {t : TS} (h : PS X st t) : PS X st (tWr t) := h
/-- isinstance(e, c), e the error that the suite holds; its class is told by the reading -/
theorem call_isE3 {X : Cx} {a D : Addr} {cls : Value} {oe : Obj} {d : Option Addr} {pn : List (Addr × Obj)} (T : L2.ExcC X.K D) (hz : Zc cls d oe) (hf : ∃ vs, oe.data = .fields vs) :
    CallR (X.suite a ((a, oe) :: pn)) (.builtin "isinstance") (fun xs H Q => cls = .ref D ∧ ∃ (c : V) (u : Value) (b : Bool), xs = [.ref a, c] ∧ ClsV c u ∧ PySem.W.kitOne X.K (.ref D) u = some b ∧ (d = none ∨ ∃ dd fs, d = some dd ∧ H dd = some (.xd fs) ∧ fs.lookup ("__class__" : Str) = none) ∧ Q (.bl b) H) := by
  intro pins s σ H xs us Q I r h
  obtain ⟨e, h⟩ := h
  subst e
  exact call_isE2 T hz hf pins s σ H xs us Q I r h
abbrev rTup (K : PySem.W.Frag) : List V → Hp → VK → Prop := fun xs H Q => ∃ p ys, xs = [.ref p] ∧ ((SqL K H p ys ∧ ∀ l, H l = none → Q (.ref l) (upd H l (.tup ys))) ∨ (SqT K H p ys ∧ Q (.ref p) H))
theorem call_tupK {X : Cx} : CallR X (.type "tuple") (rTup X.K) := call_tuple_of
theorem kit_yes {K : PySem.W.Frag} {A B : Addr} (h1 : PySem.W.isClsIn K B = true) (h2 : PySem.W.typeIn K (.ref B) = some (.type "type")) (h3 : PySem.W.subIn K (.ref A) (.ref B) = some true) : PySem.W.kitOne K (.ref A) (.ref B) = some true := by
  unfold PySem.W.kitOne
  split
  · rfl
  · have e : ((PySem.W.clsIn K B).isSome && PySem.W.typeIn K (.ref B) == some (.type "type")) = true := by
      have h1' : (PySem.W.clsIn K B).isSome = true := h1
      rw [h1', h2] <;> rfl
    show (if ((PySem.W.clsIn K B).isSome && PySem.W.typeIn K (.ref B) == some (.type "type")) = true then PySem.W.subIn K (.ref A) (.ref B) else none) = some true
    rw [if_pos e]
    exact h3
theorem kit_no {K : PySem.W.Frag} {A B : Addr} (h1 : PySem.W.isClsIn K B = true) (h2 : PySem.W.typeIn K (.ref B) = some (.type "type")) (h0 : PySem.W.subIn K (.ref A) (.ref A) = some true) (h3 : PySem.W.subIn K (.ref A) (.ref B) = some false) : PySem.W.kitOne K (.ref A) (.ref B) = some false := by
  have ne : (Value.ref A == Value.ref B) = false := by
    cases e : (Value.ref A == Value.ref B) with
    | false => rfl
    | true =>
      have z := eq_of_beq e
      rw [← z, h0] at h3
      cases h3
  unfold PySem.W.kitOne
  rw [ne]
  have e : ((PySem.W.clsIn K B).isSome && PySem.W.typeIn K (.ref B) == some (.type "type")) = true := by
    have h1' : (PySem.W.clsIn K B).isSome = true := h1
    rw [h1', h2] <;> rfl
  show (if ((PySem.W.clsIn K B).isSome && PySem.W.typeIn K (.ref B) == some (.type "type")) = true then PySem.W.subIn K (.ref A) (.ref B) else none) = some false
  rw [if_pos e]
  exact h3
/-- all stands as before but what is in S; all but lists stands as before -/
structure Frm (S : List Addr) (H G : Hp) : Prop where
  kt : KeepT H G
  ks : ∀ b o, b ∉ S → H b = some o → G b = some o
theorem Frm.same {S : List Addr} {H G : Hp} (e : Same H G) : Frm S H G := ⟨.of e, fun b o _ h => e b o h⟩
theorem Frm.trans {S : List Addr} {H G J : Hp} (a : Frm S H G) (b : Frm S G J) : Frm S H J := ⟨a.kt.trans b.kt, fun c o n h => b.ks c o n (a.ks c o n h)⟩
theorem Frm.mono {S T : List Addr} {H G : Hp} (a : Frm S H G) (h : ∀ x ∈ S, x ∈ T) : Frm T H G := ⟨a.kt, fun b o n e => a.ks b o (fun z => n (h b z)) e⟩
theorem Frm.put {S : List Addr} {H : Hp} {p : Addr} {xs : List V} {o : HO} (h : H p = some (.lst xs)) (m : p ∈ S) : Frm S H (upd H p o) := ⟨.put h, fun b x n e => (upd_ne fun z => n (by rw [z]; exact m)).trans e⟩
theorem Frm.new {S : List Addr} {H : Hp} {p : Addr} {o : HO} (h : H p = none) : Frm S H (upd H p o) := .same (same_new h)
theorem Frm.but {h l : Addr} {S : List Addr} {H G : Hp} {L : List Int} {st : Int} (v : Hv H h l L st) (b : But h l H G) (m1 : h ∈ S) (m2 : l ∈ S) : Frm S H G :=
  ⟨.but v b, fun c o n e => b c o (fun z => n (by rw [z]; exact m1)) (fun z => n (by rw [z]; exact m2)) e⟩
theorem Frm.seqT {K : PySem.W.Frag} {S : List Addr} {H G : Hp} {a : Addr} {xs : List V} (f : Frm S H G) (h : SqT K H a xs) : SqT K G a xs := f.kt.seqT h
theorem Hv.frm {h l : Addr} {S : List Addr} {H G : Hp} {L : List Int} {st : Int} (v : Hv H h l L st) (f : Frm S H G) (n1 : h ∉ S) (n2 : l ∉ S) : Hv G h l L st :=
  ⟨f.ks _ _ n1 v.top, f.ks _ _ n2 v.bot, v.ne, v.lo, v.hi, v.len⟩
theorem ixN_nat {n a : Nat} (h : a < n) : ixN n (a : Int) = some a := by
  unfold ixN
  rw [if_pos (by omega), if_pos (by omega)]
  rfl
theorem lc_str {x : Str} {g : TG} {tt : TT} {te : TE} {vs : List Nat} {σ : L2.St} {H1 : Hp} {D : Addr} {Qd : Hp → Prop} (Pv : Nat → Hp → Prop) (h0 : Pv 0 (upd H1 D (.lst [])))
    (hs : ∀ i c H, x.cps.toList[i]? = some c → Pv i H → g (.str ⟨#[c]⟩) (wipe σ vs) H fun σ2 H2 => wipe σ2 vs = wipe σ vs ∧ tt σ2 H2 fun b H3 =>
      if b = true then te σ2 H3 fun y H4 => ∃ acc, H4 D = some (.lst acc) ∧ acc.length < sizeLine ∧ Pv (i + 1) (upd H4 D (.lst (acc ++ [y]))) else Pv (i + 1) H3) (hd : ∀ H, Pv x.cps.toList.length H → Qd H) :
    ∃ W : Nat → Nat → Hp → Prop, (∃ m, W 0 m (upd H1 D (.lst []))) ∧ ∀ i m H, W i m H →
      ((Its x).stop i H ∧ Qd H) ∨ ((Its x).go i H ∧ ∃ Nx : Hp → Prop, (∀ H', Nx H' → ∃ m', m' < m ∧ W (i + 1) m' H') ∧ ∀ v H', (Its x).yld i H v H' → g v (wipe σ vs) H' fun σ2 H2 => wipe σ2 vs = wipe σ vs ∧ tt σ2 H2 fun b H3 =>
        if b = true then te σ2 H3 fun y H4 => ∃ acc, H4 D = some (.lst acc) ∧ acc.length < sizeLine ∧ Nx (upd H4 D (.lst (acc ++ [y]))) else Nx H3) := by
  refine ⟨fun i m H => m = x.cps.toList.length - i ∧ i ≤ x.cps.toList.length ∧ Pv i H, ⟨_, rfl, Nat.zero_le _, h0⟩, fun i m H hw => ?_⟩
  obtain ⟨rfl, hi, hp⟩ := hw
  by_cases hlt : i < x.cps.toList.length
  · refine .inr ⟨by show i < x.cps.size; simpa using hlt, Pv (i + 1), fun H' hp' => ⟨_, by omega, rfl, hlt, hp'⟩, fun v H' hy => ?_⟩
    obtain ⟨rfl, c, hc, rfl⟩ := hy
    exact hs i c _ (by simpa using hc) hp
  · have e : i = x.cps.toList.length := by omega
    subst e
    exact .inl ⟨by show x.cps.size ≤ _; simp, hd H hp⟩
end Gd
/-! enumerate of a tuple. -/
namespace Gd
open PySem PySem.Spec PyProof.Rows L2
set_option maxHeartbeats 1000000 in
theorem en_new {u : Value} {ob : Obj} {N : Heap → Prop} (B : Begins u ob N) :
    Meets (Builtin.«enumerate.__new__» ⟨[.type "enumerate", u], []⟩) (fun _ R z => N z.heap ∧
      R (.ok (.ret (.ref (z.heap.push ob).objs.size))) { z with heap := (z.heap.push ob).push { cls := .type "enumerate", data := .fields #[.none, .bool false, .ref z.heap.objs.size, rawInt 0, .none, .none] } }) := by
  refine .of_wp fun prog w A R z hz => ?_
  obtain ⟨hp, ga, dr, tk, os⟩ := z
  obtain ⟨n1, fin⟩ := hz
  have sb := sub_enumerate
  have it1 : ∀ {A2 : Around} {E2 : Value → Shared → Prop} {Q2 : Value → Shared → Prop}, Q2 (.ref hp.objs.size) ⟨hp.push ob, ga, dr, tk, os⟩ → wpAny (model prog w) A2 (pyIter u) Q2 E2 ⟨hp, ga, dr, tk, os⟩ :=
    fun y => B.iter prog w _ _ ⟨hp, ga, dr, tk, os⟩ _ n1 y
  wp_walk using it1
  refine wpAny_stack_any fun st => wpAny_pure ?_
  split
  · rename_i c _ _ _ _ _
    cases (c == Value.type "enumerate")
    · wp_walk using it1
      exact ⟨_, rfl, fin⟩
    · wp_walk using it1
      exact ⟨_, rfl, fin⟩
  · wp_walk using it1
    exact ⟨_, rfl, fin⟩
theorem en_call {prog : Program} {w : World} {A : Around} {E : Value → Shared → Prop} {z : Shared} {u : Value} {ob : Obj} {N : Heap → Prop} {Q : Value → Shared → Prop} (B : Begins u ob N) (n1 : N z.heap)
    (fin : ∀ g, IsEnum g (z.heap.objs.size + 1) z.heap.objs.size 0 .none → g.get? z.heap.objs.size = some ob → (∀ b o, z.heap.get? b = some o → g.get? b = some o) → Q (.ref (z.heap.objs.size + 1)) { z with heap := g }) :
    wpAny (model prog w) A (call (.type "enumerate") [u]) Q E z := by
  refine callType_new F.called_enumerate (by decide) (F.typeCall_enumerate_1 _) (F.newCall_enumerate_1 _) (fun x => F.args_object_init_2 x _) F.entry_enumerate_new (en_new B) ⟨n1, ?_⟩
  have sz : (z.heap.push ob).objs.size = z.heap.objs.size + 1 := Heap.size_push ..
  have top := Heap.get?_push_size (z.heap.push ob) (o := { cls := .type "enumerate", data := .fields #[.none, .bool false, .ref z.heap.objs.size, rawInt 0, .none, .none] }) rfl
  show _ ∧ _
  rw [sz] at top ⊢
  exact ⟨⟨_, top, rfl⟩, fin _ top (Heap.get?_push_of_some _ (Heap.get?_push_size _ B.free)) fun b o e => Heap.get?_push_of_some _ (Heap.get?_push_of_some _ e)⟩
/-- the tuple at a, each item in a new pair with its number -/
def ItEn (K : PySem.W.Frag) (a : Addr) : It where
  go i H := ∃ (xs : List V) (x : V), SqT K H a xs ∧ xs[i]? = some x
  yld i H v G := ∃ T x, v = .ref T ∧ H T = none ∧ G = upd H T (.tup [.int (i : Nat), x]) ∧ ∀ xs, SqT K H a xs → xs[i]? = some x
  stop i H := ∃ xs : List V, SqT K H a xs ∧ xs.length ≤ i
theorem turn_en {P : Program} {w : World} {K : PySem.W.Frag} {ts : List Expr} {kk : Nat} {tp : Pos} (a e r : Addr) :
    Turn P w K (.Tuple ts kk tp) (ItEn K a) [e, r] e (fun i h => (∃ old, IsEnum h e r ((i : Nat) : Int) old) ∧ h.IsTupleIter r a i) where
  mem := List.mem_cons_self
  obj := fun i h st b hb => by
    obtain ⟨⟨old, he⟩, o, ho, hc, hd⟩ := st
    rcases List.mem_cons.mp hb with z | z
    · subst z
      exact ⟨_, he, fun v q => nomatch q⟩
    · refine ⟨o, List.mem_singleton.mp z ▸ ho, fun v q => ?_⟩
      rw [hd] at q
      cases q
  keep := fun i h g st k => by
    obtain ⟨⟨old, he⟩, hr⟩ := st
    exact ⟨⟨old, k e List.mem_cons_self _ he⟩, hr.at fun o z => k r (List.mem_cons_of_mem _ List.mem_cons_self) o z⟩
  item := by
    intro X h1 h2 h3 calm i pins z σ H E I fp st gg
    subst h1 h2 h3
    obtain ⟨⟨old, he⟩, hr⟩ := st
    obtain ⟨xs, x, hq, hx⟩ := gg
    obtain ⟨its, rv, pt, _⟩ := I.tuple hq
    obtain ⟨u, hu, ru⟩ := rv.get hx
    have tup : z.heap.IsTuple a its.toArray := pt
    have el : e < z.heap.objs.size := Heap.lt_size he
    obtain ⟨o1, g1, c1, d1⟩ := id hr
    have rl : r < z.heap.objs.size := Heap.lt_size g1
    obtain ⟨o2, g2, c2, _⟩ := id tup
    have er : e ≠ r := fun q => by
      have y := Option.some.inj (he.symm.trans (q ▸ g1))
      rw [← y] at c1
      exact absurd (Value.type.inj c1) (by decide)
    have ea : e ≠ a := fun q => by
      have y := Option.some.inj (he.symm.trans (q ▸ g2))
      rw [← y] at c2
      exact absurd (Value.type.inj c2) (by decide)
    have ra : a ≠ r := fun q => by
      have y := Option.some.inj (g1.symm.trans (q ▸ g2))
      rw [← y, c1] at c2
      exact absurd (Value.type.inj c2) (by decide)
    have hd : X.A.in1.handled = none := I.ok.hd calm
    have hlt : i < its.toArray.size := by
      have q := (List.getElem?_eq_some_iff.mp hu).1
      simpa using q
    have nin : e ∉ [r, a] := fun q => (List.mem_cons.mp q).elim er fun q => ea (List.mem_singleton.mp q)
    refine wpAny_pyNext_enum_itemD (Draws.tuple (prog := X.prog) (w := X.w) hd r a ra its.toArray) he ⟨hr, tup⟩ hlt er nin fun y g tk py ho st2 hT hsz hk => ?_
    have hy : y = u := by
      have q : its.toArray[i]? = some y := py
      have q2 : its.toArray[i]? = some u := by simpa using hu
      exact Option.some.inj (q.symm.trans q2)
    subst hy
    refine ⟨_, rfl, wpAny_letOwnedTupleGo_enum (s := { z with heap := g, toks := tk + 1 }) ho fun g2 he2 sb => ?_⟩
    have keep : ∀ b o, b ∉ [e, r] → z.heap.get? b = some o → g2.get? b = some o := fun b o nb q => by
      have nbe : b ≠ e := fun w => nb (by rw [w]; exact List.mem_cons_self)
      have nbr : b ≠ r := fun w => nb (by rw [w]; exact List.mem_cons_of_mem _ List.mem_cons_self)
      exact (sb.2 b nbe).trans (hk b o nbe nbr q)
    have T2 : g2.get? z.heap.objs.size = some { cls := .type "tuple", data := .seq #[.int i tk, y] } := (sb.2 _ (Nat.ne_of_gt el)).trans hT
    have fit : ObjOk X.prog X.w (upd H z.heap.objs.size (.tup [.int (i : Nat), x])) g2 z.heap.objs.size (.tup [.int (i : Nat), x]) :=
      ⟨by show 2 ≤ sizeLine; decide, [.int i tk, y], .cons ⟨_, rfl⟩ (.cons ru .nil), ⟨_, T2, rfl, _, rfl⟩⟩
    have J : Inv X pins σ (upd H z.heap.objs.size (.tup [.int (i : Nat), x])) { z with heap := g2, toks := tk + 1 } := I.turnedNew (ch := [e, r]) keep fp (Nat.le_refl _) fit
    refine ⟨.ref z.heap.objs.size, _, J, rfl, ⟨_, x, rfl, I.hok.fresh (Nat.le_refl _), rfl, fun ys hy => by rw [I.tuple_inj hy hq]; exact hx⟩, ⟨⟨y, ?_⟩, ?_⟩, fun b hb => ?_⟩
    · have e1 : ((i + 1 : Nat) : Int) = (i : Int) + 1 := by omega
      rw [e1]
      exact he2
    · exact st2.1.at fun o q => (sb.2 r (Ne.symm er)).trans q
    · have lt : b < z.heap.objs.size := by
        rcases List.mem_cons.mp hb with w | w
        · exact w ▸ el
        · exact List.mem_singleton.mp w ▸ rl
      rw [upd_ne (Nat.ne_of_lt lt)]
      exact (fp b hb).1
  done := by
    intro X h1 h2 h3 calm i pins z σ H E I fp st gg
    subst h1 h2 h3
    obtain ⟨⟨old, he⟩, hr⟩ := st
    obtain ⟨xs, hq, hx⟩ := gg
    obtain ⟨its, rv, pt, _⟩ := I.tuple hq
    have tup : z.heap.IsTuple a its.toArray := pt
    have hl := rv.length
    obtain ⟨f0, f1, f2, f3, f4, f5⟩ := fp r (List.mem_cons_of_mem _ List.mem_cons_self)
    obtain ⟨o1, g1, c1, d1⟩ := id hr
    obtain ⟨o2, g2, c2, _⟩ := id tup
    have ra : a ≠ r := fun q => by
      have y := Option.some.inj (g1.symm.trans (q ▸ g2))
      rw [← y, c1] at c2
      exact absurd (Value.type.inj c2) (by decide)
    have hT : z.TypeIs (.ref e) "enumerate" := ⟨_, he, rfl⟩
    have hd : X.A.in1.handled = none := I.ok.hd calm
    unfold pyNext
    refine wpAny_bind (wpAny_attempt (wpAny_callSpecial?_slot (name := Str.ofString "__next__") hT F.slot_enumerate_next
      (wpAny_call_entry F.slot_enumerate_next hT F.entry_enumerate_next ?_ (F.args_enumerate_next_1 _))))
    show wpAny _ _ (field (.ref e) 2 >>= _) _ _ _
    refine wpAny_bind (wpAny_field he rfl (x := .ref r) rfl ?_)
    refine wpAny_bind (wpAny_nextOf_tuple_end hd hr tup (by simp; omega) fun g x hext hstop => ?_)
    obtain ⟨o, ho, hc⟩ := hstop
    refine wpAny_bind (wpAny_isInstance (T := "StopIteration") (b := true) ⟨o, ho, hc⟩ isSubtype_stop ?_)
    exact wpAny_pure ⟨rfl, I.turned (t' := z.toks) (fun b o hb q => hext b o hb q) f0 f1 f3 f4 f5⟩
  self := fun A i z Q E st h => by
    obtain ⟨⟨_, he⟩, _⟩ := st
    exact wpAny_pyIter_enum he h
def iEn (K : PySem.W.Frag) (ta : TA) : TI := fun σ H R => ta σ H fun vs G => ∃ a xs, vs = [.ref a] ∧ SqT K G a xs ∧ R (ItEn K a) G
/-- for i, x in enumerate(t) -/
theorem pi_enT {X : Cx} {e : Expr} {ta : TA} {p pos tp : Pos} {ts : List Expr} {kk : Nat} (hg : Gl X "enumerate") (hm : X.mg "enumerate" = none) (ha : PA X [e] ta) (hs : starEach [e] X.env = [(false, eval e X.env)] := by rfl) :
    PI X (.Tuple ts kk tp) (.Call (.Name "enumerate" p) [e] [] pos) (iEn X.K ta) := by
  refine ⟨fun pins s σ H R I h => ?_⟩
  refine Call_ (ld_blt I hg hm boot_enumerate (PyProof.Rows.callWith_type1 (thn (ha.run pos pins s σ H _ I h) fun us s1 ⟨vs, H1, I1, r1, a, xs, ev, hq, q⟩ => ?_) hs rfl))
  subst ev
  obtain ⟨u, rfl, ru⟩ := vals1 r1
  obtain rfl : u = Value.ref a := ru
  obtain ⟨its, rv, pt, _⟩ := I1.tuple hq
  refine en_call (begins_tuple a its.toArray) (show s1.heap.IsTuple a its.toArray from pt) fun g he hr hk => wpAny_pyIter_enum he ?_
  have I2 : Inv X pins σ H1 { s1 with heap := g } := I1.kept (t' := s1.toks) hk
  refine ⟨s1.heap.objs.size + 1, [s1.heap.objs.size + 1, s1.heap.objs.size], _, _, H1, rfl, I2, turn_en a (s1.heap.objs.size + 1) s1.heap.objs.size, ⟨⟨.none, he⟩, _, hr, rfl, rfl⟩, fun b hb => ?_, q⟩
  have ge : s1.heap.objs.size ≤ b := by
    rcases List.mem_cons.mp hb with z | z
    · exact z ▸ Nat.le_succ _
    · exact List.mem_singleton.mp z ▸ Nat.le_refl _
  exact I1.fpOk ge (I1.hok.fresh ge)
theorem for_en {K : PySem.W.Frag} {a : Addr} {xs : List V} {g : TG} {tb : TS} {D : Ends} {σ : L2.St} {H : Hp} (Pv : Nat → L2.St → Hp → Prop) (h0 : Pv 0 σ H) (stay : ∀ i σ G, i ≤ xs.length → Pv i σ G → SqT K G a xs)
    (hs : ∀ i x T σ G, xs[i]? = some x → Pv i σ G → G T = none → g (.ref T) σ (upd G T (.tup [.int (i : Nat), x])) fun σ2 H2 => tb { D with nx := Pv (i + 1), ct := Pv (i + 1), bk := D.nx } σ2 H2) (hd : ∀ σ G, Pv xs.length σ G → D.nx σ G) :
    ∃ W : Nat → Nat → L2.St → Hp → Prop, (∃ m, W 0 m σ H) ∧ ∀ i m σ H, W i m σ H →
      ((ItEn K a).stop i H ∧ D.nx σ H) ∨ ((ItEn K a).go i H ∧ ∃ N : L2.St → Hp → Prop, (∀ σ' H', N σ' H' → ∃ m', m' < m ∧ W (i + 1) m' σ' H') ∧ ∀ v H', (ItEn K a).yld i H v H' → g v σ H' fun σ2 H2 => tb { D with nx := N, ct := N, bk := D.nx } σ2 H2) := by
  refine ⟨fun i m σ G => m = xs.length - i ∧ i ≤ xs.length ∧ Pv i σ G, ⟨_, rfl, Nat.zero_le _, h0⟩, fun i m σ G hw => ?_⟩
  obtain ⟨rfl, hi, hp⟩ := hw
  have hq := stay i σ G hi hp
  by_cases hlt : i < xs.length
  · refine .inr ⟨⟨xs, xs[i], hq, List.getElem?_eq_getElem hlt⟩, Pv (i + 1), fun σ' H' hp' => ⟨_, by omega, rfl, hlt, hp'⟩, fun v G' hy => ?_⟩
    obtain ⟨T, x, rfl, hT, rfl, hx⟩ := hy
    exact hs i x T σ G (hx xs hq) hp hT
  · have e : i = xs.length := by omega
    subst e
    exact .inl ⟨⟨xs, hq, Nat.le_refl _⟩, hd σ G hp⟩
theorem lc_en {K : PySem.W.Frag} {a : Addr} {xs : List V} {g : TG} {tt : TT} {te : TE} {vs : List Nat} {σ : L2.St} {H1 : Hp} {D : Addr} {Qd : Hp → Prop} (Pv : Nat → Hp → Prop) (h0 : Pv 0 (upd H1 D (.lst []))) (stay : ∀ i G, i ≤ xs.length → Pv i G → SqT K G a xs)
    (hs : ∀ i x T G, xs[i]? = some x → Pv i G → G T = none → g (.ref T) (wipe σ vs) (upd G T (.tup [.int (i : Nat), x])) fun σ2 H2 => wipe σ2 vs = wipe σ vs ∧ tt σ2 H2 fun b H3 =>
      if b = true then te σ2 H3 fun y H4 => ∃ acc, H4 D = some (.lst acc) ∧ acc.length < sizeLine ∧ Pv (i + 1) (upd H4 D (.lst (acc ++ [y]))) else Pv (i + 1) H3) (hd : ∀ H, Pv xs.length H → Qd H) :
    ∃ W : Nat → Nat → Hp → Prop, (∃ m, W 0 m (upd H1 D (.lst []))) ∧ ∀ i m H, W i m H →
      ((ItEn K a).stop i H ∧ Qd H) ∨ ((ItEn K a).go i H ∧ ∃ Nx : Hp → Prop, (∀ H', Nx H' → ∃ m', m' < m ∧ W (i + 1) m' H') ∧ ∀ v H', (ItEn K a).yld i H v H' → g v (wipe σ vs) H' fun σ2 H2 => wipe σ2 vs = wipe σ vs ∧ tt σ2 H2 fun b H3 =>
        if b = true then te σ2 H3 fun y H4 => ∃ acc, H4 D = some (.lst acc) ∧ acc.length < sizeLine ∧ Nx (upd H4 D (.lst (acc ++ [y]))) else Nx H3) := by
  refine ⟨fun i m G => m = xs.length - i ∧ i ≤ xs.length ∧ Pv i G, ⟨_, rfl, Nat.zero_le _, h0⟩, fun i m G hw => ?_⟩
  obtain ⟨rfl, hi, hp⟩ := hw
  have hq := stay i G hi hp
  by_cases hlt : i < xs.length
  · refine .inr ⟨⟨xs, xs[i], hq, List.getElem?_eq_getElem hlt⟩, Pv (i + 1), fun H' hp' => ⟨_, by omega, rfl, hlt, hp'⟩, fun v G' hy => ?_⟩
    obtain ⟨T, x, rfl, hT, rfl, hx⟩ := hy
    exact hs i x T G (hx xs hq) hp hT
  · have e : i = xs.length := by omega
    subst e
    exact .inl ⟨⟨xs, hq, Nat.le_refl _⟩, hd G hp⟩
end Gd
/-! Tables as data and as objects: what the laws share. -/
namespace Gd
open PySem PySem.Spec PyProof.Rows L2
theorem strs_inv {K : PySem.W.Frag} {H : Hp} : ∀ {ss : List Str} {vs : List V}, DpAll K H vs (ss.map .str) → vs = ss.map V.str
  | [], _, h => by cases h; rfl
  | s :: r, _, h => by
    cases h with
    | cons a t =>
      cases a
      rw [strs_inv t]
      rfl
theorem ints_inv {K : PySem.W.Frag} {H : Hp} : ∀ {ns : List Int} {vs : List V}, DpAll K H vs (ns.map .int) → vs = ns.map V.int
  | [], _, h => by cases h; rfl
  | s :: r, _, h => by
    cases h with
    | cons a t =>
      cases a
      rw [ints_inv t]
      rfl
theorem tup_inv {K : PySem.W.Frag} {H : Hp} {v : V} {ds : List PyData} (h : Dp K H v (.tuple ds)) : ∃ q vs, v = .ref q ∧ SqT K H q vs ∧ DpAll K H vs ds := by
  cases h with
  | tup hs ha => exact ⟨_, _, rfl, hs, ha⟩
theorem tints_inv {K : PySem.W.Frag} {H : Hp} {v : V} {ns : List Int} (h : Dp K H v (.tuple (ns.map .int))) : ∃ q, v = .ref q ∧ SqT K H q (ns.map V.int) := by
  obtain ⟨q, vs, rfl, hs, ha⟩ := tup_inv h
  rw [ints_inv ha] at hs
  exact ⟨q, rfl, hs⟩
theorem dp_tup_strs {K : PySem.W.Frag} {H : Hp} {q : Addr} {l : List Str} (h : SqT K H q (l.map V.str)) : Dp K H (.ref q) (.tuple (l.map .str)) := .tup h (dpAll_strs l)
/-- a name: one to eight small letters -/
def Nm (z : Str) : Prop := (1 ≤ z.length ∧ z.length ≤ 8) ∧ ∀ c ∈ z.cps.toList, 97 ≤ c ∧ c ≤ 122
/-- names, ascending -/
def AscS (ss : List Str) : Prop := ss.Pairwise fun x y => x.cps.toList < y.cps.toList
def AscI (ns : List Int) : Prop := ns.Pairwise (· < ·)
theorem pw_next {α : Type} {R : α → α → Prop} : ∀ {l : List α} {i : Nat} {x y : α}, l.Pairwise R → l[i]? = some x → l[i + 1]? = some y → R x y
  | [], _, _, _, _, h, _ => by simp at h
  | a :: r, 0, x, y, p, h1, h2 => by
    simp at h1 h2
    subst h1
    exact (List.pairwise_cons.mp p).1 y (List.mem_of_getElem? h2)
  | a :: r, i + 1, x, y, p, h1, h2 => pw_next (l := r) (i := i) (List.pairwise_cons.mp p).2 (by simpa using h1) (by simpa using h2)
/-- whether any value is a tuple of numbers below a limit -/
def NumsV (K : PySem.W.Frag) (H : Hp) (lim : Int) (x : V) (b : Bool) : Prop :=
  (∃ n, TyN K H x n ∧ kitB n "tuple" = some false ∧ b = false) ∨ (∃ (p : Addr) (xs : List V) (bs : List Bool), x = .ref p ∧ SqT K H p xs ∧ xs.length ≤ 1000 ∧ NumVs K H lim xs bs ∧ b = bs.all id)
/-- names and lots -/
structure TD where
  kinds : List Str
  types : List (Str × List Int)
structure TOk (t : TD) : Prop where
  k1 : 1 ≤ t.kinds.length
  k8 : t.kinds.length ≤ 8
  kn : ∀ z ∈ t.kinds, Nm z
  ka : AscS t.kinds
  t12 : t.types.length ≤ 12
  tn : ∀ p ∈ t.types, Nm p.1
  ta : AscS (t.types.map (·.1))
  la : ∀ p ∈ t.types, AscI p.2
  lb : ∀ p ∈ t.types, ∀ n ∈ p.2, 0 ≤ n ∧ n < (t.kinds.length : Int)
def kindsD (t : TD) : PyData := .tuple (t.kinds.map .str)
def typeD (p : Str × List Int) : PyData := .tuple [.str p.1, .tuple (p.2.map .int)]
def typesD (t : TD) : PyData := .tuple (t.types.map typeD)
theorem asc_len {ns : List Int} {k : Nat} (h : AscI ns) (b : ∀ n ∈ ns, 0 ≤ n ∧ n < (k : Int)) : ns.length ≤ k := by
  have key : ∀ (l : List Int) (lo : Int), AscI l → (∀ n ∈ l, lo ≤ n ∧ n < (k : Int)) → (l.length : Int) ≤ max 0 ((k : Int) - lo) := by
    intro l
    induction l with
    | nil => intro lo _ _; simp; omega
    | cons x r ih =>
      intro lo p q
      obtain ⟨p1, p2⟩ := List.pairwise_cons.mp p
      have hx := q x List.mem_cons_self
      have := ih (x + 1) p2 fun n hn => ⟨by have := p1 n hn; omega, (q n (List.mem_cons_of_mem _ hn)).2⟩
      rw [List.length_cons]
      omega
  have := key ns 0 h b
  omega
theorem TOk.lot8 {t : TD} (h : TOk t) {p : Str × List Int} (m : p ∈ t.types) : p.2.length ≤ 8 := Nat.le_trans (asc_len (h.la p m) (h.lb p m)) h.k8
theorem kinds_sq {K : PySem.W.Frag} {H : Hp} {pk : Addr} {t : TD} (h : Dp K H (.ref pk) (kindsD t)) : SqT K H pk (t.kinds.map V.str) := by
  obtain ⟨q, vs, e, hs, ha⟩ := tup_inv h
  cases e
  rw [strs_inv ha] at hs
  exact hs
theorem types_sq {K : PySem.W.Frag} {H : Hp} {pt : Addr} {t : TD} (h : Dp K H (.ref pt) (typesD t)) : ∃ us, SqT K H pt us ∧ DpAll K H us (t.types.map typeD) := by
  obtain ⟨q, vs, e, hs, ha⟩ := tup_inv h
  cases e
  exact ⟨vs, hs, ha⟩
theorem type_inv {K : PySem.W.Frag} {H : Hp} {v : V} {p : Str × List Int} (h : Dp K H v (typeD p)) : ∃ q l, v = .ref q ∧ SqT K H q [.str p.1, .ref l] ∧ SqT K H l (p.2.map V.int) := by
  obtain ⟨q, vs, rfl, hs, ha⟩ := tup_inv h
  cases ha with
  | cons a r =>
  cases r with
  | cons b r =>
  cases r
  cases a
  obtain ⟨l, rfl, hl⟩ := tints_inv b
  exact ⟨q, l, rfl, hs, hl⟩
theorem type_at {K : PySem.W.Frag} {H : Hp} {us : List V} {t : TD} {i : Nat} {x : V} (h : DpAll K H us (t.types.map typeD)) (e : us[i]? = some x) : ∃ p, t.types[i]? = some p ∧ Dp K H x (typeD p) := by
  have hl := dpAll_len h
  rw [List.length_map] at hl
  have hi : i < t.types.length := by rw [← hl]; exact (List.getElem?_eq_some_iff.mp e).1
  obtain ⟨v, hv, dv⟩ := dpAll_get h (i := i) (d := typeD t.types[i]) (by rw [List.getElem?_map, List.getElem?_eq_getElem hi]; rfl)
  obtain rfl : v = x := Option.some.inj (hv.symm.trans e)
  exact ⟨_, List.getElem?_eq_getElem hi, dv⟩
theorem types_at {K : PySem.W.Frag} {H : Hp} {us : List V} {t : TD} {i : Nat} {p : Str × List Int} (h : DpAll K H us (t.types.map typeD)) (e : t.types[i]? = some p) : ∃ x, us[i]? = some x ∧ Dp K H x (typeD p) :=
  dpAll_get h (i := i) (d := typeD p) (by rw [List.getElem?_map, e]; rfl)
theorem noList_strs (l : List Str) : noListAll (l.map .str) = true := noListAll_mem fun d hd => by
  obtain ⟨x, _, rfl⟩ := List.mem_map.mp hd
  rfl
theorem noList_intsD (l : List Int) : noListAll (l.map .int) = true := noListAll_mem fun d hd => by
  obtain ⟨x, _, rfl⟩ := List.mem_map.mp hd
  rfl
theorem noList_kinds (t : TD) : noList (kindsD t) = true := by
  rw [kindsD, noList]
  exact noList_strs _
theorem noList_type (p : Str × List Int) : noList (typeD p) = true := by
  simp [typeD, noList, noListAll, noList_intsD]
theorem noList_types (t : TD) : noList (typesD t) = true := by
  rw [typesD, noList]
  exact noListAll_mem fun d hd => by
    obtain ⟨p, _, rfl⟩ := List.mem_map.mp hd
    exact noList_type p
mutual
theorem dp_sq {K : PySem.W.Frag} {H G : Hp} (e : ∀ a xs, SqT K H a xs → SqT K G a xs) : ∀ (d : PyData) (v : V), noList d = true → Dp K H v d → Dp K G v d
  | .none, _, _, h => by cases h; exact .non
  | .bool b, _, _, h => by cases h; exact .bl b
  | .int i, _, _, h => by cases h; exact .int i
  | .str x, _, _, h => by cases h; exact .str x
  | .list ds, _, n, _ => by simp [noList] at n
  | .tuple ds, _, n, h => by
    cases h with
    | tup hs ha => exact .tup (e _ _ hs) (dpAll_sq e ds _ (by simpa [noList] using n) ha)
  | .dict _, _, _, h => by cases h
theorem dpAll_sq {K : PySem.W.Frag} {H G : Hp} (e : ∀ a xs, SqT K H a xs → SqT K G a xs) : ∀ (ds : List PyData) (vs : List V), noListAll ds = true → DpAll K H vs ds → DpAll K G vs ds
  | [], _, _, h => by cases h; exact .nil
  | d :: ds, _, n, h => by
    have n' : noList d = true ∧ noListAll ds = true := by simpa [noListAll] using n
    cases h with
    | cons h1 h2 => exact .cons (dp_sq e d _ n'.1 h1) (dpAll_sq e ds _ n'.2 h2)
end
/-- tuples stand, where all but an instance stands -/
theorem sqT_ins {K : PySem.W.Frag} {H G : Hp} {p C dx : Addr} {fs : List (Str × V)} (hp : H p = some (.ins C dx fs)) (k : ∀ b o, b ≠ p → H b = some o → G b = some o) (a : Addr) (xs : List V) (h : SqT K H a xs) : SqT K G a xs := by
  rcases h with (z | ⟨o, z⟩) | z
  · exact .inl (.inl (k _ _ (ne_of z hp (by intro q; cases q)) z))
  · exact .inl (.inr ⟨o, k _ _ (ne_of z hp (by intro q; cases q)) z⟩)
  · exact .inr z
/-! costs -/
theorem nm_fine {z : Str} (h : Nm z) : fine (.str z) = true := fine_str.mpr fun c hc => by have := h.2 c hc; omega
theorem type_fine {p : Str × List Int} {k : Nat} (h : Nm p.1) (b : ∀ n ∈ p.2, 0 ≤ n ∧ n < (k : Int)) (hk : k ≤ 8) : fine (typeD p) = true := by
  have e : fineAll (p.2.map .int) = true := fineAll_mem fun d hd => by
    obtain ⟨x, hx, rfl⟩ := List.mem_map.mp hd
    have := b x hx
    rw [fine]
    exact decide_eq_true (by omega)
  simp only [typeD, fine, fineAll, e, Bool.and_true]
  have := nm_fine h
  rw [fine] at this
  exact this
theorem lot_cost (l : List Int) : costAll (l.map .int) = 12 * l.length := cost_ints l
theorem table_fine {t : TD} (h : TOk t) : (fine (kindsD t) = true ∧ (kindsD t).depth ≤ 5 ∧ costD (kindsD t) ≤ 1000) ∧ (fine (typesD t) = true ∧ (typesD t).depth ≤ 5 ∧ costD (typesD t) ≤ 10000) := by
  have cs : ∀ l : List Str, (∀ z ∈ l, Nm z) → costAll (l.map .str) ≤ 84 * l.length := fun l hl => by
    induction l with
    | nil => rw [List.map_nil, costAll]; exact Nat.le_refl 0
    | cons z r ih =>
      have h1 := ih fun y hy => hl y (List.mem_cons_of_mem _ hy)
      have h2 := (hl z List.mem_cons_self).1.2
      rw [List.map_cons, costAll, costD, List.length_cons]
      omega
  have ct : ∀ l : List (Str × List Int), (∀ p ∈ l, Nm p.1 ∧ p.2.length ≤ 8) → costAll (l.map typeD) ≤ 300 * l.length := fun l hl => by
    induction l with
    | nil => rw [List.map_nil, costAll]; exact Nat.le_refl 0
    | cons p r ih =>
      have h1 := ih fun y hy => hl y (List.mem_cons_of_mem _ hy)
      have h2 := (hl p List.mem_cons_self).1.1.2
      have h3 := (hl p List.mem_cons_self).2
      rw [List.map_cons, costAll, List.length_cons]
      simp only [typeD, costD, costAll, lot_cost]
      omega
  refine ⟨⟨?_, ?_, ?_⟩, ?_, ?_, ?_⟩
  · rw [kindsD, fine]
    exact fineAll_mem fun d hd => by
      obtain ⟨z, hz, rfl⟩ := List.mem_map.mp hd
      exact nm_fine (h.kn z hz)
  · rw [kindsD, PyData.depth]
    have : PyData.depthAll (t.kinds.map .str) ≤ 1 := depthAll_mem fun d hd => by
      obtain ⟨z, _, rfl⟩ := List.mem_map.mp hd
      simp [PyData.depth]
    omega
  · rw [kindsD, costD]
    have h1 := cs t.kinds h.kn
    have h2 := h.k8
    omega
  · rw [typesD, fine]
    exact fineAll_mem fun d hd => by
      obtain ⟨p, hp, rfl⟩ := List.mem_map.mp hd
      exact type_fine (h.tn p hp) (h.lb p hp) h.k8
  · rw [typesD, PyData.depth]
    have : PyData.depthAll (t.types.map typeD) ≤ 3 := depthAll_mem fun d hd => by
      obtain ⟨p, _, rfl⟩ := List.mem_map.mp hd
      have e : PyData.depthAll (p.2.map .int) ≤ 1 := depthAll_mem fun d hd => by
        obtain ⟨x, _, rfl⟩ := List.mem_map.mp hd
        simp [PyData.depth]
      simp only [typeD, PyData.depth, PyData.depthAll]
      omega
    omega
  · rw [typesD, costD]
    have h1 := ct t.types fun p hp => ⟨h.tn p hp, h.lot8 hp⟩
    have h2 := h.t12
    omega
/-! the object -/
theorem tk_ : ¬ (("types" : Str) = "kinds") := by decide +kernel
theorem kt_ : ¬ (("kinds" : Str) = "types") := fun z => tk_ z.symm
def tf (pk pt : Addr) : List (Str × V) := putF "types" (.ref pt) (putF "kinds" (.ref pk) [])
theorem tf_k (pk pt : Addr) : (tf pk pt).lookup ("kinds" : Str) = some (.ref pk) := by unfold tf; rw [lookup_putF, if_neg kt_, lookup_putF, if_pos rfl]
theorem tf_t (pk pt : Addr) : (tf pk pt).lookup ("types" : Str) = some (.ref pt) := by unfold tf; rw [lookup_putF, if_pos rfl]
theorem tf_no (pk pt : Addr) {m : Str} (h1 : ¬ m = "kinds") (h2 : ¬ m = "types") : (tf pk pt).lookup m = none := by
  unfold tf
  rw [lookup_putF, if_neg h2, lookup_putF, if_neg h1]
  rfl
theorem len_putF2 (f : Str) (v : V) : ∀ fs : List (Str × V), (putF f v fs).length ≤ fs.length + 1
  | [] => Nat.le_refl _
  | (g, u) :: r => by
    have ih := len_putF2 f v r
    unfold putF
    split
    · exact Nat.le_succ _
    · exact Nat.succ_le_succ ih
structure TblAt (K : PySem.W.Frag) (C : Addr) (H : Hp) (p dx pk pt : Addr) (t : TD) : Prop where
  obj : H p = some (.ins C dx (tf pk pt))
  kd : Dp K H (.ref pk) (kindsD t)
  td : Dp K H (.ref pt) (typesD t)
theorem TblAt.keep {K : PySem.W.Frag} {C : Addr} {H G : Hp} {p dx pk pt : Addr} {t : TD} (d : TblAt K C H p dx pk pt t) (k : KeepT H G) : TblAt K C G p dx pk pt t :=
  ⟨k _ _ d.obj (by intro _ q; cases q), dp_keep k _ _ (noList_kinds t) d.kd, dp_keep k _ _ (noList_types t) d.td⟩
theorem TblAt.same {K : PySem.W.Frag} {C : Addr} {H G : Hp} {p dx pk pt : Addr} {t : TD} (d : TblAt K C H p dx pk pt t) (k : Same H G) : TblAt K C G p dx pk pt t := d.keep (.of k)
structure TTxt (K : PySem.W.Frag) (mg : Str → Option Value) (C : Addr) : Prop where
  cl : Cls K C
  nK : NoAttr K C "kinds"
  nT : NoAttr K C "types"
  mgC : mg "Table" = some (.ref C)
end Gd
/-! The names that the laws draw: letters, order. -/
namespace Gd
open PySem PySem.Spec PyProof.Rows L2
theorem lt_tri : ∀ a b : List Nat, a < b ∨ a = b ∨ b < a
  | [], [] => .inr (.inl rfl)
  | [], y :: s => .inl List.Lex.nil
  | x :: r, [] => .inr (.inr List.Lex.nil)
  | x :: r, y :: s => by
    rcases Nat.lt_trichotomy x y with h | h | h
    · exact .inl (List.Lex.rel h)
    · subst h
      rcases lt_tri r s with h | h | h
      · exact .inl (List.Lex.cons h)
      · exact .inr (.inl (by rw [h]))
      · exact .inr (.inr (List.Lex.cons h))
    · exact .inr (.inr (List.Lex.rel h))
theorem lt_tr : ∀ {a b c : List Nat}, a < b → b < c → a < c := fun {a b c} h1 h2 => List.lt_trans h1 h2
theorem str_ext {x y : Str} (h : x.cps.toList = y.cps.toList) : x = y := by
  obtain ⟨a⟩ := x
  obtain ⟨b⟩ := y
  have : a = b := Array.toList_inj.mp h
  rw [this]
theorem rising_asc : ∀ (l : List Str) (p : Str), risingS p l = true → (p :: l).Nodup → AscS (p :: l)
  | [], p, _, _ => List.pairwise_singleton _ _
  | x :: r, p, h, n => by
    have h' : (!ltCps x.cps.toList p.cps.toList && risingS x r) = true := h
    obtain ⟨h1, h2⟩ := Bool.and_eq_true_iff.mp h'
    obtain ⟨n1, n2⟩ := List.nodup_cons.mp n
    have ih := rising_asc r x h2 n2
    have hlt : p.cps.toList < x.cps.toList := by
      rcases lt_tri p.cps.toList x.cps.toList with z | z | z
      · exact z
      · exact absurd (str_ext z ▸ List.mem_cons_self) n1
      · rw [ltCps_eq, decide_eq_true z] at h1
        cases h1
    refine List.pairwise_cons.mpr ⟨fun y hy => ?_, ih⟩
    rcases List.mem_cons.mp hy with e | e
    · exact e ▸ hlt
    · exact lt_tr hlt ((List.pairwise_cons.mp ih).1 y e)
theorem sorted_asc {l : List Str} (h : sortedS l = true) (n : l.Nodup) : AscS l := by
  cases l with
  | nil => exact List.Pairwise.nil
  | cons p r => exact rising_asc r p h n
theorem nodup_of {α : Type} : ∀ {l : List α}, (∀ (i j : Nat) (x : α), l[i]? = some x → l[j]? = some x → i = j) → l.Nodup
  | [], _ => List.nodup_nil
  | a :: r, h => by
    refine List.nodup_cons.mpr ⟨fun m => ?_, nodup_of fun i j x h1 h2 => ?_⟩
    · obtain ⟨k, hk, e⟩ := List.getElem_of_mem m
      have := h 0 (k + 1) a rfl (by rw [List.getElem?_cons_succ, List.getElem?_eq_getElem hk, e])
      omega
    · have := h (i + 1) (j + 1) x (by rw [List.getElem?_cons_succ]; exact h1) (by rw [List.getElem?_cons_succ]; exact h2)
      omega
/-- the letter of a place -/
def letN (first : Nat) (i : Nat) : Nat := 97 + (first + 7 * i) % 26
def nameN (front : Str) (first i : Nat) : Str := front ++ ⟨#[letN first i]⟩
/-- what stands ahead of the letter -/
def Front (z : Str) : Prop := z.length ≤ 7 ∧ ∀ c ∈ z.cps.toList, 97 ≤ c ∧ c ≤ 122
theorem name_cps (front : Str) (first i : Nat) : (nameN front first i).cps.toList = front.cps.toList ++ [letN first i] := app_list _ _
theorem name_len (front : Str) (first i : Nat) : (nameN front first i).length = front.length + 1 := by
  show (nameN front first i).cps.size = front.cps.size + 1
  have := congrArg List.length (name_cps front first i)
  simpa using this
theorem name_nm {front : Str} (h : Front front) (first i : Nat) : Nm (nameN front first i) := by
  have h1 := h.1
  refine ⟨by rw [name_len]; omega, fun c hc => ?_⟩
  rw [name_cps] at hc
  rcases List.mem_append.mp hc with z | z
  · exact h.2 c z
  · have e := List.mem_singleton.mp z
    unfold letN at e
    omega
theorem name_inj {front : Str} {first i j : Nat} (hi : i < 12) (hj : j < 12) (h : nameN front first i = nameN front first j) : i = j := by
  have e := congrArg (fun z : Str => z.cps.toList) h
  simp only [name_cps] at e
  have e2 := List.append_cancel_left e
  have e3 : letN first i = letN first j := by simpa using e2
  unfold letN at e3
  omega
def namesN (front : Str) (first n : Nat) : List Str := (List.range n).map (nameN front first)
theorem namesN_succ (front : Str) (first n : Nat) : namesN front first (n + 1) = namesN front first n ++ [nameN front first n] := by
  unfold namesN
  rw [List.range_succ, List.map_append]
  rfl
theorem namesN_len (front : Str) (first n : Nat) : (namesN front first n).length = n := by
  unfold namesN
  rw [List.length_map, List.length_range]
theorem namesN_get {front : Str} {first n i : Nat} {x : Str} (h : (namesN front first n)[i]? = some x) : i < n ∧ x = nameN front first i := by
  have hi : i < n := by
    have := (List.getElem?_eq_some_iff.mp h).1
    rw [namesN_len] at this
    exact this
  unfold namesN at h
  rw [List.getElem?_map, List.getElem?_range hi] at h
  exact ⟨hi, (Option.some.inj h).symm⟩
theorem namesN_at {front : Str} {first n i : Nat} (hi : i < n) : (namesN front first n)[i]? = some (nameN front first i) := by
  unfold namesN
  rw [List.getElem?_map, List.getElem?_range hi]
  rfl
/-- good names, each once -/
def GoodN (n : Nat) (l : List Str) : Prop := l.length = n ∧ (∀ z ∈ l, Nm z) ∧ l.Nodup
theorem names_good {front : Str} (h : Front front) (first : Nat) {n : Nat} (hn : n ≤ 12) : GoodN n (namesN front first n) := by
  refine ⟨namesN_len _ _ _, fun z hz => ?_, nodup_of fun i j x h1 h2 => ?_⟩
  · obtain ⟨i, _, rfl⟩ := List.mem_map.mp hz
    exact name_nm h _ _
  · obtain ⟨i1, e1⟩ := namesN_get h1
    obtain ⟨j1, e2⟩ := namesN_get h2
    exact name_inj (by omega) (by omega) (e1.symm.trans e2)
theorem names_o {front : Str} (h : Front front) (first : Nat) {n a : Nat} (hn : n ≤ 12) (hl : (nameN front first a).length < 8) {o : Str} (ho : o.cps.toList = [111]) : GoodN n ((namesN front first n).set a (nameN front first a ++ o)) := by
  have lo : o.length = 1 := by
    have := congrArg List.length ho
    simpa [Str.length] using this
  have l2 : (nameN front first a ++ o).length = front.length + 2 := by rw [strLen_append, name_len, lo]
  have nm2 : Nm (nameN front first a ++ o) := by
    rw [name_len] at hl
    refine ⟨by rw [l2]; omega, fun c hc => ?_⟩
    rw [app_list] at hc
    rcases List.mem_append.mp hc with z | z
    · exact (name_nm h first a).2 c z
    · rw [ho] at z
      have := List.mem_singleton.mp z
      omega
  refine ⟨by rw [List.length_set, namesN_len], fun z hz => ?_, nodup_of fun i j x h1 h2 => ?_⟩
  · rcases List.mem_or_eq_of_mem_set hz with m | m
    · obtain ⟨i, _, rfl⟩ := List.mem_map.mp m
      exact name_nm h _ _
    · exact m ▸ nm2
  · have key : ∀ i x, ((namesN front first n).set a (nameN front first a ++ o))[i]? = some x → (i = a ∧ x = nameN front first a ++ o) ∨ (i ≠ a ∧ i < n ∧ x = nameN front first i) := by
      intro i x hx
      by_cases z : i = a
      · subst z
        have hi := (List.getElem?_eq_some_iff.mp hx).1
        rw [List.length_set] at hi
        rw [List.getElem?_set_self hi] at hx
        exact .inl ⟨rfl, (Option.some.inj hx).symm⟩
      · rw [List.getElem?_set_ne (Ne.symm z)] at hx
        obtain ⟨q1, q2⟩ := namesN_get hx
        exact .inr ⟨z, q1, q2⟩
    rcases key i x h1 with ⟨a1, e1⟩ | ⟨a1, b1, e1⟩
    · rcases key j x h2 with ⟨a2, e2⟩ | ⟨a2, b2, e2⟩
      · rw [a1, a2]
      · have := congrArg Str.length (e1.symm.trans e2)
        rw [l2, name_len] at this
        omega
    · rcases key j x h2 with ⟨a2, e2⟩ | ⟨a2, b2, e2⟩
      · have := congrArg Str.length (e1.symm.trans e2)
        rw [l2, name_len] at this
        omega
      · exact name_inj (by omega) (by omega) (e1.symm.trans e2)
theorem good_perm {n : Nat} {l m : List Str} (h : GoodN n l) (p : m.Perm l) : GoodN n m := ⟨p.length_eq.trans h.1, fun z hz => h.2.1 z (p.mem_iff.mp hz), p.nodup_iff.mpr h.2.2⟩
abbrev zAbc : Str := Str.ofString "abcdefghijklmnopqrstuvwxyz"
theorem abc_at {i : Nat} (h : i < 26) : zAbc.cps.toList[i]? = some (97 + i) := by
  have : ∀ i : Fin 26, zAbc.cps.toList[i.val]? = some (97 + i.val) := by decide +kernel
  exact this ⟨i, h⟩
theorem front_lit {z : Str} (h : (decide (z.length ≤ 7) && z.cps.toList.all fun c => decide (97 ≤ c ∧ c ≤ 122)) = true) : Front z := by
  obtain ⟨h1, h2⟩ := Bool.and_eq_true_iff.mp h
  exact ⟨of_decide_eq_true h1, fun c hc => of_decide_eq_true (p := 97 ≤ c ∧ c ≤ 122) (List.all_eq_true.mp h2 c hc)⟩
end Gd
/-! {e for a in xs for b in ys}, numbers; len(set(t)). -/
namespace Gd
open PySem PySem.Spec PyProof.Rows L2
/-- the set comprehension with two clauses, no tests -/
abbrev sx (elt t0 i0 t1 i1 : Expr) (sc : Scope) (pos : Pos) : Expr := .SetComp elt [⟨t0, i0, [], 0⟩, ⟨t1, i1, [], 0⟩] sc pos
theorem sx_turn0 (elt t0 i0 t1 i1 : Expr) (sc : Scope) (pos : Pos) (it acc : Value) (env : Env) : compTurn (sx elt t0 i0 t1 i1 sc pos) 0 it acc env = (standAt i0.pos >>= fun _ => pyNext it >>= fun r => match r with
    | none => pure (.done .next)
    | some v => letOwnedTupleGo t0 it v >>= fun _ => assign t0 env v >>= fun _ =>
      (eval i1 env >>= fun x => standAt i1.pos >>= fun _ => foldedSetIterable i1 env x >>= fun x => holding [x] (pyIter x) >>= fun j => runOwn (.compStart (sx elt t0 i0 t1 i1 sc pos) 1 j acc env) env >>= fun _ =>
        again (.compLoop (sx elt t0 i0 t1 i1 sc pos) 0 it acc env))) := by rfl
theorem sx_turn1 (elt t0 i0 t1 i1 : Expr) (sc : Scope) (pos : Pos) (it acc : Value) (env : Env) : compTurn (sx elt t0 i0 t1 i1 sc pos) 1 it acc env = (standAt i1.pos >>= fun _ => pyNext it >>= fun r => match r with
    | none => pure (.done .next)
    | some v => letOwnedTupleGo t1 it v >>= fun _ => assign t1 env v >>= fun _ =>
      (eval elt env >>= fun x => standAt elt.pos >>= fun _ => call (.builtin "set.add") [acc, x] >>= fun _ => pure ()) >>= fun _ =>
        again (.compLoop (sx elt t0 i0 t1 i1 sc pos) 1 it acc env)) := by rfl
section
variable {prog : Program} {w : World} {A : Around} {R : Result → Shared → Prop} {z : Shared} {elt t0 i0 t1 i1 : Expr} {sc : Scope} {pos : Pos} {it acc : Value} {env : Env}
abbrev nB (prog : Program) (w : World) (A : Around) (env : Env) (R : Result → Shared → Prop) : Value → Shared → Prop := notedBy (model prog w) A env fun e y => R (.error e) y
/-- the first clause's loop -/
theorem sx_loop0 (hs : ∀ x, foldedSetIterable i1 env x = pure x) (J : Nat → Shared → Prop)
    (turn : ∀ n y, J n y → wpAny (model prog w) A (pyNext it) (fun r y1 => match r with
      | none => R (.ok .next) y1
      | some v => wpAny (model prog w) A (letOwnedTupleGo t0 it v) (fun _ y2 => wpAny (model prog w) A (assign t0 env v) (fun _ y3 => wpAny (model prog w) A (eval i1 env) (fun x y4 => wpAny (model prog w) A (pyIter x) (fun j y5 =>
          codeAny (model prog w) A (.compStart (sx elt t0 i0 t1 i1 sc pos) 1 j acc env) (fun r y6 => match r with
            | .ok _ => ∃ m, m < n ∧ J m y6
            | .error _ => False) y5) (nB prog w A env R) y4) (nB prog w A env R) y3) (nB prog w A env R) y2) (nB prog w A env R) y1) (nB prog w A env R) y)
    (n : Nat) (h : J n z) : codeAny (model prog w) A (.compLoop (sx elt t0 i0 t1 i1 sc pos) 0 it acc env) R z := by
  refine codeAny_loop rfl J (fun n y hJ => ?_) n h
  show wpAny _ A ((compTurn (sx elt t0 i0 t1 i1 sc pos) 0 it acc env).onRaise (fun x => do noteFrame x env; theTreesLotGoes x)) _ _ y
  refine wpAny_noted ?_
  rw [sx_turn0]
  refine wpAny_bind (wpAny_standAt (wpAny_bind (wpAny_mono (turn n y hJ) (fun r y1 q1 => ?_) fun _ _ e => e)))
  cases r with
  | none => exact wpAny_pure q1
  | some v =>
    refine wpAny_bind (wpAny_mono q1 (fun _ y2 q2 => wpAny_bind (wpAny_mono q2 (fun _ y3 q3 => wpAny_bind (wpAny_mono q3 (fun x y4 q4 => ?_) fun _ _ e => e)) fun _ _ e => e)) fun _ _ e => e)
    refine wpAny_bind (wpAny_standAt (wpAny_bind (wpAny_of_eq (hs x) (wpAny_bind (wpAny_holding (wpAny_mono q4 (fun j y5 q5 => ?_) fun _ _ e => e))))))
    refine wpAny_bind (wpAny_runOwn ?_)
    rw [Around.mark_none]
    refine codeAny_mono q5 fun r y6 hr => ?_
    cases r with
    | error e => exact hr.elim
    | ok f =>
      first
        | exact wpAny_pure ⟨rfl, hr⟩
        | exact wpAny_bind (wpAny_pure (wpAny_pure ⟨rfl, hr⟩))
/-- the second's -/
theorem sx_loop1 (J : Nat → Shared → Prop)
    (turn : ∀ n y, J n y → wpAny (model prog w) A (pyNext it) (fun r y1 => match r with
      | none => R (.ok .next) y1
      | some v => wpAny (model prog w) A (letOwnedTupleGo t1 it v) (fun _ y2 => wpAny (model prog w) A (assign t1 env v) (fun _ y3 => wpAny (model prog w) A (eval elt env) (fun x y4 =>
          wpAny (model prog w) A (call (.builtin "set.add") [acc, x]) (fun _ y5 => ∃ m, m < n ∧ J m y5) (nB prog w A env R) y4) (nB prog w A env R) y3) (nB prog w A env R) y2) (nB prog w A env R) y1) (nB prog w A env R) y)
    (n : Nat) (h : J n z) : codeAny (model prog w) A (.compLoop (sx elt t0 i0 t1 i1 sc pos) 1 it acc env) R z := by
  refine codeAny_loop rfl J (fun n y hJ => ?_) n h
  show wpAny _ A ((compTurn (sx elt t0 i0 t1 i1 sc pos) 1 it acc env).onRaise (fun x => do noteFrame x env; theTreesLotGoes x)) _ _ y
  refine wpAny_noted ?_
  rw [sx_turn1]
  refine wpAny_bind (wpAny_standAt (wpAny_bind (wpAny_mono (turn n y hJ) (fun r y1 q1 => ?_) fun _ _ e => e)))
  cases r with
  | none => exact wpAny_pure q1
  | some v =>
    refine wpAny_bind (wpAny_mono q1 (fun _ y2 q2 => wpAny_bind (wpAny_mono q2 (fun _ y3 q3 => ?_) fun _ _ e => e)) fun _ _ e => e)
    exact wpAny_bind (wpAny_bind (wpAny_mono q3 (fun x y4 q4 => wpAny_bind (wpAny_standAt (wpAny_bind (wpAny_mono q4 (fun _ y5 q5 => wpAny_pure (wpAny_pure ⟨rfl, q5⟩)) fun _ _ e => e)))) fun _ _ e => e))
/-- a clause's start -/
theorem sx_start {d : Nat} {g : Comprehension} (hg : (clausesOf (sx elt t0 i0 t1 i1 sc pos))[d]? = some g) (ha : g.is_async = 0) (h0 : codeAny (model prog w) A (.compLoop (sx elt t0 i0 t1 i1 sc pos) d it acc env) R z)
    (h1 : wpAny (model prog w) A (pyIter it) (fun j y => codeAny (model prog w) A (.compLoop (sx elt t0 i0 t1 i1 sc pos) d j acc env) R y) (notedBy (model prog w) A env fun x y => R (.error x) y) z) :
    codeAny (model prog w) A (.compStart (sx elt t0 i0 t1 i1 sc pos) d it acc env) R z := by
  refine codeAny_of_tree ?_
  show wpAny _ _ ((compStart (sx elt t0 i0 t1 i1 sc pos) d it acc env).onRaise (fun x => do noteFrame x env; standAt theWindowsPlace)) _ _ z
  refine wpAny_notedAt ?_
  unfold compStart
  rw [hg]
  have e0 : (Option.some g).elim false (fun x => x.is_async != 0) = false := by
    show (g.is_async != 0) = false
    rw [ha]
    rfl
  rw [e0]
  show wpAny _ _ (ask >>= _) _ _ z
  refine wpAny_bind (wpAny_askSetting (wpAny_ite ?_))
  split
  · first
      | exact wpAny_bind (wpAny_pure (wpAny_pure (And.intro rfl h0)))
      | exact wpAny_pure (And.intro rfl h0)
  · first
      | exact wpAny_bind (wpAny_rule (wpAny_bind (wpAny_standAt (wpAny_bind (wpAny_mono h1 (fun j y q => wpAny_pure (And.intro rfl q)) fun _ _ e => e)))))
      | (refine wpAny_bind (wpAny_rule ?_); show wpAny _ _ (standAt g.iter.pos >>= _) _ _ z; exact wpAny_bind (wpAny_standAt (wpAny_bind (wpAny_mono h1 (fun j y q => wpAny_pure (And.intro rfl q)) fun _ _ e => e))))
end
theorem fresh_set {prog : Program} {w : World} {A : Around} {E : Value → Shared → Prop} {z : Shared} {Q : Value → Shared → Prop}
    (h : Q (.ref z.heap.objs.size) { z with heap := z.heap.push { cls := .type "set", dict := none, data := .set #[] 0 (.fresh 0 0 (!w.params.followText "set-order")) } }) : wpAny (model prog w) A (newSet (.type "set")) Q E z := by
  unfold newSet
  refine wpAny_bind (wpAny_byText ?_)
  exact wpAny_newObj_type h (by show 0 ≤ _; exact Nat.zero_le _)
/-- the reading: the set at D, kept by W, W1 -/
def tSx (w : World) (wi : TI) (g : TG) (wi1 : TI) (g1 : TG) (te : TE) (vs vs1 : List Nat) : TE := fun σ H Q => wi σ H fun J H1 => ∀ D, H1 D = none → ∃ W : Nat → Nat → Hp → Prop, (∃ m, W 0 m (upd H1 D (SetO w D (fun _ => false) 0))) ∧ ∀ i m G, W i m G →
  (J.stop i G ∧ Q (.ref D) G) ∨ (J.go i G ∧ ∃ N : Hp → Prop, (∀ G', N G' → ∃ n, n < m ∧ W (i + 1) n G') ∧ ∀ x G', J.yld i G x G' → g x (wipe σ vs) G' fun σ2 G2 => wipe σ2 vs = wipe σ vs ∧ wi1 σ2 G2 fun J1 G3 => ∃ W1 : Nat → Nat → Hp → Prop, (∃ m, W1 0 m G3) ∧
    ∀ j k G4, W1 j k G4 → (J1.stop j G4 ∧ N G4) ∨ (J1.go j G4 ∧ ∃ N1 : Hp → Prop, (∀ G', N1 G' → ∃ n, n < k ∧ W1 (j + 1) n G') ∧ ∀ y G', J1.yld j G4 y G' → g1 y (wipe σ2 vs1) G' fun σ3 G5 => wipe σ3 vs1 = wipe σ2 vs1 ∧
      te σ3 G5 fun u G6 => ∃ (k0 : Int) (S : Int → Bool) (c : Nat), u = .int k0 ∧ G6 D = some (SetO w D S c) ∧ c + 1 < scanBound ∧ N1 (upd G6 D (SetO w D (fun a => S a || decide (a = k0)) (if S k0 = true then c else c + 1)))))
section
variable {X : Cx}
theorem pe_sx {elt t0 i0 t1 i1 : Expr} {sc : Scope} {own : List (Str × Nat)} {vs1 : List Nat} {pos : Pos} {wi wi1 : TI} {g g1 : TG} {te : TE} (hc : X.calm = true) (hN : X.N.Nodup) (hi : PI X t0 i0 wi) (ok : BlkOk X.N X.env.scope sc own) (hv : ∀ i ∈ vs1, i ∈ own.map (·.2))
    (hg : ∀ (s : Shared) (H : Hp) (C : Addr) (cl : List (Str × Addr)) (fp : List Addr), PG (X.blk s H sc (compEnvC sc cl C X.env) fp) t0 g) (hi1 : ∀ (s : Shared) (H : Hp) (C : Addr) (cl : List (Str × Addr)) (fp : List Addr), PI (X.blk s H sc (compEnvC sc cl C X.env) fp) t1 i1 wi1)
    (hg1 : ∀ (s : Shared) (H : Hp) (C : Addr) (cl : List (Str × Addr)) (fp : List Addr), PG (X.blk s H sc (compEnvC sc cl C X.env) fp) t1 g1) (he : ∀ (s : Shared) (H : Hp) (C : Addr) (cl : List (Str × Addr)) (fp : List Addr), PE (X.blk s H sc (compEnvC sc cl C X.env) fp) elt te)
    (hs : ∀ x, foldedSetIterable i0 X.env x = pure x := by intro _; rfl) (hs1 : ∀ env x, foldedSetIterable i1 env x = pure x := by intro _ _; rfl) :
    PE X (sx elt t0 i0 t1 i1 sc pos) (tSx X.w wi g wi1 g1 te (own.map (·.2)) vs1) := by
  refine ⟨fun pins s σ H Q I h => ?_⟩
  rw [arm_eval_SetComp]
  have hfree : ∀ y ∈ sc.names, y.2 = .free → ∃ c, X.env.cells.lookup y.1 = some c := fun y hy e => by
    rcases ok.free y hy e with k | k
    · exact I.ok.has _ (.inl k)
    · exact I.ok.has _ (.inr k)
  show wpAny _ _ (comprehension (sx elt t0 i0 t1 i1 sc pos) sc X.env (firstIterPos [⟨t0, i0, [], 0⟩, ⟨t1, i1, [], 0⟩] pos) (newSet (.type "set")) false (eval i0 X.env)) _ _ s
  refine wpAny_comprehension_free (use := none) rfl hs (closure_ok hfree) ok.kind (fun y hy e => by rw [ok.uniq y hy, e])
    (thn (hi.run pins s σ H _ I h) fun xv s1 hx => thn hx fun itv s2 h2 => ?_)
  obtain ⟨it, fp, tn, J, H2, e, I2, T, st2, f2, q⟩ := h2
  subst e
  refine fresh_set (newEnv_comp ?_)
  generalize hD : s2.heap.objs.size = D
  have nD : H2 D = none := I2.hok.fresh (Nat.le_of_eq hD)
  obtain ⟨W, ⟨m0, w0⟩, turn⟩ := q D nD
  have fr := setR_fresh (h := s2.heap) X.w
  rw [hD] at fr
  have big : ∀ b o, s2.heap.get? b = some o → (s2.heap.push { cls := .type "set", dict := none, data := .set #[] 0 (.fresh 0 0 (!X.w.params.followText "set-order")) }).get? b = some o := fun b o e => Heap.get?_push_of_some _ e
  have grow : s2.heap.objs.size < (s2.heap.push { cls := .type "set", dict := none, data := .set #[] 0 (.fresh 0 0 (!X.w.params.followText "set-order")) }).objs.size := by
    rw [Heap.size_push]
    exact Nat.lt_succ_self _
  generalize hp3 : s2.heap.push { cls := .type "set", dict := none, data := .set #[] 0 (.fresh 0 0 (!X.w.params.followText "set-order")) } = p3 at fr big grow ⊢
  generalize hs3 : ({ s2 with heap := p3 } : Shared) = s3
  have h3 : s3.heap = p3 := by rw [← hs3]
  have I3 : Inv X pins σ (upd H2 D (SetO X.w D (fun _ => false) 0)) s3 := by
    rw [← hs3]
    exact I2.laid (t' := s2.toks) big (Nat.le_of_eq hD) (setO_new fr)
  have szf : ∀ b ∈ fp, b < s2.heap.objs.size := fun b hb => by
    obtain ⟨o, e, _⟩ := T.obj _ _ st2 b hb
    exact Heap.lt_size e
  have f3 : ∀ b ∈ fp, FpOk X pins (upd H2 D (SetO X.w D (fun _ => false) 0)) b ∧ b < s3.heap.objs.size := fun b hb => by
    have lt := szf b hb
    refine ⟨⟨?_, (f2 b hb).2⟩, by rw [h3]; exact Nat.lt_trans lt grow⟩
    rw [upd_ne (by rw [← hD]; exact Nat.ne_of_lt lt)]
    exact (f2 b hb).1
  have st3 : tn 0 s3.heap := T.keep _ _ _ st2 fun b _ o e => by rw [h3]; exact big b o e
  have I4 := block_start I3 ok hN f3
  have pg := hg s3 (upd H2 D (SetO X.w D (fun _ => false) 0)) s3.heap.objs.size (cellsFrom (s3.heap.objs.size + 1) sc.names (cloFrom X.env.cells sc.names [])) fp
  have pe := he s3 (upd H2 D (SetO X.w D (fun _ => false) 0)) s3.heap.objs.size (cellsFrom (s3.heap.objs.size + 1) sc.names (cloFrom X.env.cells sc.names [])) fp
  have pj := hi1 s3 (upd H2 D (SetO X.w D (fun _ => false) 0)) s3.heap.objs.size (cellsFrom (s3.heap.objs.size + 1) sc.names (cloFrom X.env.cells sc.names [])) fp
  have ph := hg1 s3 (upd H2 D (SetO X.w D (fun _ => false) 0)) s3.heap.objs.size (cellsFrom (s3.heap.objs.size + 1) sc.names (cloFrom X.env.cells sc.names [])) fp
  have nfp : ∀ b ∈ fp, (upd H2 D (SetO X.w D (fun _ => false) 0)) b = none := fun b hb => (f3 b hb).1.1
  show codeAny _ _ (.compStart (sx elt t0 i0 t1 i1 sc pos) 0 (.ref it) (.ref D) (compEnvC sc (cellsFrom (s3.heap.objs.size + 1) sc.names (cloFrom X.env.cells sc.names [])) s3.heap.objs.size X.env)) (compPost (model X.prog X.w) X.A X.xe none (EP X pins σ Q) (.ref D) s3.heap.objs.size) { s3 with heap := pushCells (s3.heap.push { cls := .type "dict", data := .dict #[] }) sc.names }
  generalize hce : compEnvC sc (cellsFrom (s3.heap.objs.size + 1) sc.names (cloFrom X.env.cells sc.names [])) s3.heap.objs.size X.env = ce at I4 pg pe pj ph ⊢
  have cL : ce.locals = s3.heap.objs.size := by subst hce; rfl
  generalize hH3 : upd H2 D (SetO X.w D (fun _ => false) 0) = H3 at I3 I4 pg pe pj ph w0 nfp f3
  generalize hs4 : ({ s3 with heap := pushCells (s3.heap.push { cls := .type "dict", data := .dict #[] }) sc.names } : Shared) = s4 at I4 ⊢
  have st4 : tn 0 s4.heap := T.keep _ _ _ st3 fun b _ o e => by rw [← hs4]; exact pushCells_keeps _ _ _ _ (Heap.get?_push_of_some _ e)
  have fpk : ∀ {τ : L2.St} {G : Hp} {y : Shared}, Inv (X.blk s3 H3 sc ce fp) [] τ G y → (∀ b ∈ fp, G b = none) → ∀ b ∈ fp, FpOk (X.blk s3 H3 sc ce fp) [] G b := fun {τ G y} K1 nn b hb =>
    ⟨nn b hb, (K1.ok.exf b hb).1, K1.ok.exfs b hb, .inl hb, fun x c e => (K1.ok.exf b hb).2 x c e, fun p hp => absurd (show p ∈ ([] : List (Addr × Obj)) ++ [] from hp) (by simp)⟩
  have loop : codeAny (model X.prog X.w) X.A (.compLoop (sx elt t0 i0 t1 i1 sc pos) 0 (.ref it) (.ref D) ce) (compPost (model X.prog X.w) X.A X.xe none (EP X pins σ Q) (.ref D) s3.heap.objs.size) s4 := by
    refine sx_loop0 (hs1 ce) (fun n y => ∃ i G, Inv (X.blk s3 H3 sc ce fp) [] (wipe σ (own.map (·.2))) G y ∧ tn i y.heap ∧ (∀ b ∈ fp, G b = none) ∧ W i n G) ?_ m0 ⟨0, H3, I4, st4, nfp, w0⟩
    rintro n s5 ⟨i, H5, I5, st5, n5, w5⟩
    rcases turn i n H5 w5 with ⟨stop, fin⟩ | ⟨go, N, hN2, step⟩
    · refine thnF (T.done (X.blk s3 H3 sc ce fp) rfl rfl rfl hc i [] s5 _ H5 (fun _ _ => False) I5 (fpk I5 n5) st5 stop) fun r s6 ⟨hr, I6⟩ => ?_
      subst hr
      have I7 : Inv X pins σ H5 s6 := I3.call' (ch := fp) I6.os I6.base I6.hok I6.bare fun b hb => ⟨(f3 b hb).1.2.2.2.1, (f3 b hb).1.2.1, (f3 b hb).1.2.2.2.2.1, (f3 b hb).1.2.2.2.2.2⟩
      have nC : H5 s3.heap.objs.size = none := by
        have z : H5 ce.locals = none := I6.free
        rw [cL] at z
        exact z
      obtain ⟨m, hm, _⟩ := I6.loc
      have hm : s6.heap.Ns ce.locals m := hm
      rw [cL] at hm
      obtain ⟨g0, g1', g2, g3, g4, g5⟩ := I3.fpOk (Nat.le_refl _) nC
      exact ⟨m, hm, fun h'' sb => ⟨.ref D, H5, I7.turned (t' := s6.toks) (fun b o hb e => (sb.2 b hb).trans e) g0 g1' g3 g4 g5, rfl, fin⟩⟩
    · refine thnF (T.item (X.blk s3 H3 sc ce fp) rfl rfl rfl hc i [] s5 _ H5 (fun _ _ => False) I5 (fpk I5 n5) st5 go) fun r s6 ⟨u, hr, h6⟩ => ?_
      subst hr
      refine thnF h6 fun _ s7 ⟨x, H7, I7, r7, y7, st7, n7⟩ => ?_
      have I7' := I7.pinned (fpk I7 n7) (T.obj _ _ st7)
      refine thnF (pg.run _ s7 _ H7 x u _ I7' r7 (step x H7 y7)) fun _ s8 ⟨σ8, H8, I8, hw8, q8⟩ => ?_
      have back : ∀ {τ : L2.St} {y : Shared} {G : Hp}, Inv (X.blk s3 H3 sc ce fp) ([] ++ pinsAt fp s7.heap) τ G y → (wipe σ (own.map (·.2))).length = τ.length → (∀ (j : Nat) v, (wipe σ (own.map (·.2)))[j]? = some (some v) → τ[j]? = some (some v)) → N G →
          ∃ m, m < n ∧ ∃ i G, Inv (X.blk s3 H3 sc ce fp) [] (wipe σ (own.map (·.2))) G y ∧ tn i y.heap ∧ (∀ b ∈ fp, G b = none) ∧ W i m G := fun {τ y G} K1 hl hk nx => by
        obtain ⟨m', hm, w'⟩ := hN2 G nx
        have pin : ∀ b ∈ fp, ∀ o, s7.heap.get? b = some o → y.heap.get? b = some o ∧ G b = none := fun b hb o e =>
          let z := K1.pin (b, o) (List.mem_append_right _ (List.mem_append_right _ (mem_pinsAt hb e)))
          ⟨z.1, z.2.1⟩
        refine ⟨m', hm, i + 1, G, (K1.unpinned (pins := [])).weak hl hk, T.keep _ _ _ st7 fun b hb o e => (pin b hb o e).1, fun b hb => ?_, w'⟩
        obtain ⟨o, e, _⟩ := T.obj _ _ st7 b hb
        exact (pin b hb o e).2
      have hl8 : (wipe σ (own.map (·.2))).length = σ8.length := by rw [← hw8, wipe_length]
      have hk9 : ∀ (j : Nat) v, (wipe σ (own.map (·.2)))[j]? = some (some v) → (wipe σ8 vs1)[j]? = some (some v) := fun j v e => by
        rw [← hw8] at e
        obtain ⟨e1, e2⟩ := wipe_some e
        rw [wipe_out fun z => e2 (hv j z)]
        exact e1
      refine thnF (pj.run _ s8 σ8 H8 _ I8 q8) fun xv s10 hx => thnF hx fun itv s11 h11 => ?_
      obtain ⟨it1, fp1, tn1, J1, H11, e1, I11, T1, st11, f11, W1, ⟨m1, w1⟩, turn1⟩ := h11
      subst e1
      have fpk1 : ∀ {G : Hp}, (∀ b ∈ fp1, G b = none) → ∀ b ∈ fp1, FpOk (X.blk s3 H3 sc ce fp) ([] ++ pinsAt fp s7.heap) G b := fun nn b hb => ⟨nn b hb, (f11 b hb).2⟩
      have loop1 : codeAny (model X.prog X.w) X.A (.compLoop (sx elt t0 i0 t1 i1 sc pos) 1 (.ref it1) (.ref D) ce)
          (fun r y => match r with
            | .ok _ => ∃ m, m < n ∧ ∃ i G, Inv (X.blk s3 H3 sc ce fp) [] (wipe σ (own.map (·.2))) G y ∧ tn i y.heap ∧ (∀ b ∈ fp, G b = none) ∧ W i m G
            | .error _ => False) s11 := by
        refine sx_loop1 (fun k y => ∃ j G, Inv (X.blk s3 H3 sc ce fp) ([] ++ pinsAt fp s7.heap) (wipe σ8 vs1) G y ∧ tn1 j y.heap ∧ (∀ b ∈ fp1, G b = none) ∧ W1 j k G) ?_ m1 ⟨0, H11, I11.weak (wipe_length _ _) (fun j v e => (wipe_some e).1), st11, fun b hb => (f11 b hb).1, w1⟩
        rintro k s12 ⟨j, H12, I12, st12, n12, w12⟩
        rcases turn1 j k H12 w12 with ⟨stop1, nx1⟩ | ⟨go1, N1, hN1, step1⟩
        · refine thnF (T1.done (X.blk s3 H3 sc ce fp) rfl rfl rfl hc j _ s12 (wipe σ8 vs1) H12 (fun _ _ => False) I12 (fpk1 n12) st12 stop1) fun r s13 ⟨hr, I13⟩ => ?_
          subst hr
          exact back I13 (hl8.trans (wipe_length σ8 vs1).symm) hk9 nx1
        · refine thnF (T1.item (X.blk s3 H3 sc ce fp) rfl rfl rfl hc j _ s12 (wipe σ8 vs1) H12 (fun _ _ => False) I12 (fpk1 n12) st12 go1) fun r s13 ⟨u1, hr, h13⟩ => ?_
          subst hr
          refine thnF h13 fun _ s14 ⟨x1, H14, I14, r14, y14, st14, n14⟩ => ?_
          have I14' := I14.pinned (fpk1 n14) (T1.obj _ _ st14)
          refine thnF (ph.run _ s14 (wipe σ8 vs1) H14 x1 u1 _ I14' r14 (step1 x1 H14 y14)) fun _ s15 ⟨σ15, H15, I15, hw15, q15⟩ => ?_
          refine thnF (pe.run _ s15 σ15 H15 _ I15 q15) fun uv s17 ⟨yv, H17, I17, r17, k0, S, c, ey, hD17, room, nx⟩ => ?_
          subst ey
          refine thnF (mt_sadd (X := X.blk s3 H3 sc ce fp) _ s17 σ15 H17 (.ref D) [.int k0] _ [uv] (fun _ G => N1 G) I17 rfl (.cons r17 .nil) ⟨D, k0, S, c, rfl, rfl, hD17, room, nx⟩) fun _ s18 ⟨_, H18, I18, _, nx18⟩ => ?_
          obtain ⟨m', hm, w'⟩ := hN1 H18 nx18
          have pin : ∀ b ∈ fp1, ∀ o, s14.heap.get? b = some o → s18.heap.get? b = some o ∧ H18 b = none := fun b hb o e =>
            let z := I18.pin (b, o) (List.mem_append_right _ (List.mem_append_right _ (mem_pinsAt hb e)))
            ⟨z.1, z.2.1⟩
          refine ⟨m', hm, j + 1, H18, I18.unpinned.weak (by rw [← hw15, wipe_length]) (fun j v e => by rw [← hw15] at e; exact (wipe_some e).1), T1.keep _ _ _ st14 fun b hb o e => (pin b hb o e).1, fun b hb => ?_, w'⟩
          obtain ⟨o, e, _⟩ := T1.obj _ _ st14 b hb
          exact (pin b hb o e).2
      exact sx_start (d := 1) rfl rfl loop1 (T1.self X.A 0 _ _ _ st11 loop1)
  exact sx_start (d := 0) rfl rfl loop (T.self X.A 0 _ _ _ st4 loop)
end
end Gd
namespace Gd
open PySem PySem.Spec PyProof.Rows L2
theorem perm_sub : ∀ {ks ns : List Int}, ks.Nodup → (∀ x ∈ ks, x ∈ ns) → ks.length ≤ ns.length ∧ (ks.length = ns.length → ns.Perm ks)
  | [], ns, _, _ => ⟨Nat.zero_le _, fun e => by
    rw [List.length_nil] at e
    rw [List.eq_nil_of_length_eq_zero e.symm]⟩
  | x :: r, ns, n, h => by
    obtain ⟨n1, n2⟩ := List.nodup_cons.mp n
    have hx := h x List.mem_cons_self
    have p := List.perm_cons_erase hx
    have hl := List.length_erase_of_mem hx
    have hp := List.length_pos_of_mem hx
    obtain ⟨i1, i2⟩ := perm_sub (ns := ns.erase x) n2 fun y hy => by
      have hy2 := h y (List.mem_cons_of_mem _ hy)
      have ne : y ≠ x := fun e => n1 (e ▸ hy)
      exact (List.mem_erase_of_ne ne).mpr hy2
    refine ⟨by rw [List.length_cons]; omega, fun e => ?_⟩
    rw [List.length_cons] at e
    exact p.trans ((i2 (by omega)).cons x)
theorem count_nd {ks ns : List Int} (n : ks.Nodup) (h : ∀ x, x ∈ ks ↔ x ∈ ns) : ks.length ≤ ns.length ∧ (ks.length = ns.length ↔ ns.Nodup) := by
  obtain ⟨h1, h2⟩ := perm_sub n fun x hx => (h x).mp hx
  refine ⟨h1, fun e => ?_, fun d => ?_⟩
  · exact ((h2 e).nodup_iff).mpr n
  · have := (perm_sub d fun x hx => (h x).mpr hx).1
    omega
def tLenSetT (K : PySem.W.Frag) (ta : TE) : TE := fun σ H Q => ta σ H fun x G => ∃ (l : Addr) (ns : List Int), x = .ref l ∧ SqT K G l (ns.map V.int) ∧ ns.length ≤ 1000 ∧ ∀ c : Nat, c ≤ ns.length → (c = ns.length ↔ ns.Nodup) → Q (.int (c : Nat)) G
/-- len(set(t)), t a tuple of ints -/
theorem pe_lenSetT {X : Cx} {a : Expr} {ta : TE} {p p2 q pos : Pos} (hg : Gl X "len") (hm : X.mg "len" = none) (hg2 : Gl X "set") (hm2 : X.mg "set" = none) (ha : PE X a ta) (hc : X.calm = true := by rfl)
    (na : starEach [a] X.env = (false, eval a X.env) :: starEach [] X.env := by rfl) : PE X (.Call (.Name "len" p) [.Call (.Name "set" p2) [a] [] q] [] pos) (tLenSetT X.K ta) := by
  refine ⟨fun pins s σ H Q I h => ?_⟩
  refine Call_ (ld_blt I hg hm boot_len (PyProof.Rows.callWith_builtin1 (PyProof.Rows.args_cons ?_ rfl) rfl rfl))
  refine Call_ (ld_blt I hg2 hm2 boot_set (PyProof.Rows.callWith_type1 (PyProof.Rows.args_cons (thn (ha.run pins s σ H _ I h) fun v y ⟨x, G, J, rx, l, ns, ex, hq, hl, fin⟩ => PyProof.Rows.args_nil ?_) na) na rfl))
  subst ex
  cases rx
  obtain ⟨its, r, pl, _⟩ := J.tuple hq
  refine call_set_tupI (P := X.prog) (w := X.w) ns (J.ok.hd hc) (show y.heap.IsTuple l its.toArray from pl) (by simpa using intsAre_of r) (by unfold scanBound; omega) fun g tk c hS _ hk => ?_
  refine PyProof.Rows.args_nil ?_
  obtain ⟨o, es, ep, t, ho, hex, hd, _, hn, hS2, _, hf, hz, _⟩ := hS
  have K2 : Inv X pins σ G { y with heap := g, toks := tk } := J.kept hk
  have cnt := count_nd (ks := es.toList.map keyOf) (ns := ns) hn fun x => by
    have := hS2 x
    rw [decide_eq_true_eq] at this
    exact this.symm
  rw [List.length_map, Array.length_toList, hz] at cnt
  exact call_len_set ho hex hd hf (by rw [hz] <;> omega) ⟨.int c, G, K2.tok _, ⟨_, by rw [hz]⟩, fin c cnt.1 cnt.2⟩
/-- a walk over a tuple, whatever its turn is -/
theorem w_tup {K : PySem.W.Frag} {a : Addr} {xs : List V} {Body : Nat → V → Hp → (Hp → Prop) → Prop} {Q : Hp → Prop} {H0 : Hp} (Pv : Nat → Hp → Prop) (h0 : Pv 0 H0) (stay : ∀ i G, i ≤ xs.length → Pv i G → SqT K G a xs)
    (hs : ∀ i x G, xs[i]? = some x → Pv i G → Body i x G (Pv (i + 1))) (hd : ∀ G, Pv xs.length G → Q G) :
    ∃ W : Nat → Nat → Hp → Prop, (∃ m, W 0 m H0) ∧ ∀ i m G, W i m G → ((Itt K a).stop i G ∧ Q G) ∨ ((Itt K a).go i G ∧ ∃ N : Hp → Prop, (∀ G', N G' → ∃ n, n < m ∧ W (i + 1) n G') ∧ ∀ x G', (Itt K a).yld i G x G' → Body i x G' N) := by
  refine ⟨fun i m G => m = xs.length - i ∧ i ≤ xs.length ∧ Pv i G, ⟨_, rfl, Nat.zero_le _, h0⟩, fun i m G hw => ?_⟩
  obtain ⟨rfl, hi, hp⟩ := hw
  have hq := stay i G hi hp
  by_cases hlt : i < xs.length
  · refine .inr ⟨⟨xs, xs[i], hq, List.getElem?_eq_getElem hlt⟩, Pv (i + 1), fun G' hp' => ⟨_, by omega, rfl, hlt, hp'⟩, fun x G' hy => ?_⟩
    obtain ⟨rfl, hx⟩ := hy
    exact hs i x _ (hx xs hq) hp
  · have e : i = xs.length := by omega
    subst e
    exact .inl ⟨⟨xs, hq, Nat.le_refl _⟩, hd G hp⟩
/-- the set at D holds just ks -/
def SetL (w : World) (G : Hp) (D : Addr) (ks : List Int) : Prop := ks.Nodup ∧ ∃ S : Int → Bool, (∀ k, S k = true ↔ k ∈ ks) ∧ G D = some (SetO w D S ks.length)
theorem SetL.add {w : World} {G : Hp} {D : Addr} {ks : List Int} {S : Int → Bool} (n : ks.Nodup) (h : ∀ k, S k = true ↔ k ∈ ks) (k0 : Int) :
    SetL w (upd G D (SetO w D (fun a => S a || decide (a = k0)) (if S k0 = true then ks.length else ks.length + 1))) D (if k0 ∈ ks then ks else ks ++ [k0]) := by
  by_cases m : k0 ∈ ks
  · rw [if_pos m, if_pos ((h k0).mpr m)]
    refine ⟨n, _, fun k => ?_, upd_same⟩
    rw [Bool.or_eq_true, h, decide_eq_true_iff]
    exact ⟨fun z => z.elim id fun e => e ▸ m, .inl⟩
  · rw [if_neg m, if_neg fun z => m ((h k0).mp z)]
    refine ⟨?_, _, fun k => ?_, by rw [upd_same, List.length_append]; rfl⟩
    · refine List.nodup_append.mpr ⟨n, by simp, fun x hx y hy => ?_⟩
      rw [List.mem_singleton] at hy
      rw [hy]
      exact fun e => m (e ▸ hx)
    · rw [Bool.or_eq_true, h, decide_eq_true_iff, List.mem_append, List.mem_singleton]
theorem nd_bound {ks : List Int} {n : Nat} (h : ks.Nodup) (b : ∀ k ∈ ks, 0 ≤ k ∧ k < (n : Int)) : ks.length ≤ n := by
  have := (perm_sub (ns := (List.range n).map fun i : Nat => (i : Int)) h fun x hx => ?_).1
  · rw [List.length_map, List.length_range] at this
    exact this
  · obtain ⟨h0, h1⟩ := b x hx
    obtain ⟨j, rfl⟩ := Int.eq_ofNat_of_zero_le h0
    exact List.mem_map.mpr ⟨j, List.mem_range.mpr (by omega), rfl⟩
theorem asc_same {a b : List Int} (ha : AscI a) (hb : AscI b) (h : ∀ x, x ∈ a ↔ x ∈ b) : a = b :=
  sorted_same (ha.imp fun h => Int.le_of_lt h) (hb.imp fun h => Int.le_of_lt h) (ha.imp fun h => Int.ne_of_lt h) (hb.imp fun h => Int.ne_of_lt h) h
end Gd
/-! What gives data, and tests by repr that it is as is due. -/
namespace Gd
open PySem PySem.Spec PyProof.Rows L2
/-- t gives the data d, and all stands as before -/
def Gv (K : PySem.W.Frag) (σ : L2.St) (H : Hp) (t : TE) (d : PyData) : Prop := ∀ Q : VK, (∀ v G, Same H G → Dp K G v d → Q v G) → t σ H Q
/-- plain data that repr and == serve -/
structure Fd (d : PyData) : Prop where
  f : fine d = true
  dp : d.depth ≤ 60
  c : costD d ≤ sizeLine
theorem Fd.sh {d : PyData} (h : Fd d) : SeqAt.shaped d = true := fine_shaped h.f h.dp
abbrev rReprF (K : PySem.W.Frag) : List V → Hp → VK → Prop := fun xs H Q => ∃ a d, xs = [.ref a] ∧ Dp K H (.ref a) d ∧ fine d = true ∧ d.depth ≤ 60 ∧ costD d ≤ sizeLine ∧ Q (.str d.shown) H
abbrev tRe (K : PySem.W.Frag) (t : TE) : TE := tCB (rReprF K) (tCons t tNil)
theorem re_gv {K : PySem.W.Frag} {σ : L2.St} {H : Hp} {t : TE} {ds : List PyData} (hd : Fd (.tuple ds)) (h : Gv K σ H t (.tuple ds)) (Q : VK) (q : ∀ G, Same H G → Q (.str (PyData.tuple ds).shown) G) : tRe K t σ H Q := by
  refine h _ fun v G s dv => ?_
  cases dv with
  | tup hs ha => exact ⟨_, _, rfl, .tup hs ha, hd.f, hd.dp, hd.c, q G s⟩
/-- repr(a) != repr(b), both as is due -/
theorem re_no {K : PySem.W.Frag} {σ : L2.St} {H : Hp} {t1 t2 : TE} {ds : List PyData} (hd : Fd (.tuple ds)) (h1 : Gv K σ H t1 (.tuple ds)) (h2 : ∀ G, Same H G → Gv K σ G t2 (.tuple ds)) {B : Bool → Hp → Prop} (hB : ∀ G, Same H G → B false G) :
    tTest (tOp rNe (tRe K t1) (tRe K t2)) σ H B := by
  refine re_gv hd h1 _ fun G1 s1 => re_gv hd (h2 G1 s1) _ fun G2 s2 => ⟨rfl, _, rfl, ?_⟩
  rw [decide_eq_true rfl]
  exact hB _ (s1.trans s2)
/-- a != b, both as is due -/
theorem ne_no {K : PySem.W.Frag} {σ : L2.St} {H : Hp} {t1 t2 : TE} {d : PyData} (nl : noList d = true) (hd : Fd d) (h1 : Gv K σ H t1 d) (h2 : ∀ G, Same H G → Gv K σ G t2 d) {B : Bool → Hp → Prop} (hB : ∀ G, Same H G → B false G) :
    tTest (tOp (rNeD K) t1 t2) σ H B := by
  refine h1 _ fun v1 G1 s1 d1 => h2 G1 s1 _ fun v2 G2 s2 d2 => ⟨d, d, dp_same s2 _ _ d1, d2, hd.sh, hd.sh, _, rfl, ?_⟩
  rw [fine_eqv hd.f]
  exact hB _ (s1.trans s2)
/-- repr(a) != repr(b) or c != e, all as is due -/
theorem re_ne_no {K : PySem.W.Frag} {σ : L2.St} {H : Hp} {t1 t2 t3 t4 : TE} {ds : List PyData} (nl : noList (.tuple ds) = true) (hd : Fd (.tuple ds)) (h1 : Gv K σ H t1 (.tuple ds)) (h2 : ∀ G, Same H G → Gv K σ G t2 (.tuple ds)) (h3 : ∀ G, Same H G → Gv K σ G t3 (.tuple ds)) (h4 : ∀ G, Same H G → Gv K σ G t4 (.tuple ds))
    {B : Bool → Hp → Prop} (hB : ∀ G, Same H G → B false G) : tOr (tTest (tOp rNe (tRe K t1) (tRe K t2))) (tTest (tOp (rNeD K) t3 t4)) σ H B := by
  refine re_no hd h1 h2 fun G1 s1 => iteF ?_
  exact ne_no nl hd (h3 G1 s1) (fun G s => h4 G (s1.trans s)) fun G2 s2 => hB _ (s1.trans s2)
theorem gv_var {K : PySem.W.Frag} {σ : L2.St} {H : Hp} {i : Nat} {v : V} {d : PyData} (h : σ[i]? = some (some v)) (dv : Dp K H v d) : Gv K σ H (tVar i) d := fun Q q => ⟨v, h, q _ _ (Same.refl _) dv⟩
theorem ints_fd {l : List Int} (h : ∀ x ∈ l, x.natAbs < 10 ^ 9) (hl : l.length ≤ 1000) : Fd (.tuple (l.map .int)) := let ⟨a, b, c⟩ := ints_fine h hl; ⟨a, b, c⟩
/-- repr of a bool -/
theorem call_reprB {X : Cx} : CallR X (.builtin "repr") (fun xs H Q => ∃ b, xs = [.bl b] ∧ Q (.str (if b then "True" else "False")) H) := by
  intro pins s σ H xs us Q I r h
  obtain ⟨b, rfl, q⟩ := h
  obtain ⟨u, rfl, ru⟩ := vals1 r
  cases ru
  exact PySem.P.repr_of_bool ⟨.str _, H, I.tok _, ⟨_, rfl⟩, q⟩
/-- the law's rows of truths -/
structure TrsAt (H : Hp) (a : Addr) (rs : List Addr) (tl kl : Nat) (acc : Nat → Int → Bool) : Prop where
  top : H a = some (.lst (rs.map V.ref))
  len : rs.length = tl
  row : ∀ i r, rs[i]? = some r → H r = some (.lst ((List.range kl).map fun k : Nat => V.bl (acc i (k : Int))))
theorem TrsAt.same {H G : Hp} {a : Addr} {rs : List Addr} {tl kl : Nat} {acc : Nat → Int → Bool} (d : TrsAt H a rs tl kl acc) (s : Same H G) : TrsAt G a rs tl kl acc := ⟨s _ _ d.top, d.len, fun i r e => s _ _ (d.row i r e)⟩
theorem TrsAt.but {h l : Addr} {H G : Hp} {a : Addr} {rs : List Addr} {tl kl : Nat} {acc : Nat → Int → Bool} (d : TrsAt H a rs tl kl acc) (b : But h l H G) (n : ∀ x ∈ a :: rs, x ≠ h ∧ x ≠ l) : TrsAt G a rs tl kl acc :=
  ⟨b _ _ (n a List.mem_cons_self).1 (n a List.mem_cons_self).2 d.top, d.len, fun i r e => let m := n r (List.mem_cons_of_mem _ (List.mem_of_getElem? e)); b _ _ m.1 m.2 (d.row i r e)⟩
/-- truths[at][kind] -/
theorem trs_ix {K : PySem.W.Frag} {H : Hp} {a : Addr} {rs : List Addr} {tl kl : Nat} {acc : Nat → Int → Bool} (d : TrsAt H a rs tl kl acc) {i k : Nat} (hi : i < tl) (hk : k < kl) : ∃ r, SqL K H a (rs.map V.ref) ∧ (rs.map V.ref)[i]? = some (.ref r) ∧
    SqL K H r ((List.range kl).map fun k : Nat => V.bl (acc i (k : Int))) ∧ ((List.range kl).map fun k : Nat => V.bl (acc i (k : Int)))[k]? = some (.bl (acc i (k : Int))) := by
  have hl : i < rs.length := by rw [d.len]; exact hi
  refine ⟨rs[i], sqL d.top, ?_, sqL (d.row i _ (List.getElem?_eq_getElem hl)), ?_⟩
  · rw [List.getElem?_map, List.getElem?_eq_getElem hl]
    rfl
  · rw [List.getElem?_map, List.getElem?_range hk]
    rfl
end Gd
/-! What all laws share further: calls by keywords, tuples joined and cut, displays of data. -/
namespace Gd
open PySem PySem.Spec PyProof.Rows L2
section
variable {X : Cx} {CX : CXT} {k : Nat} {f : Addr} {fd : FuncData} {ps ks : List Str} {sp : Sp} {E : XK} {x : Str} {p pos : Pos} {e : Expr} {es : List Expr} {kws : List Keyword} {t tk : TA}
/-- f(k = v, ..), f may raise, but not here -/
theorem pe_kwP {g : List Value → List Value} {gV : List V → List V} (F : FnOk X.prog X.w X.K X.mg X.base CX k f fd ps sp) (hr : Room k X.A) (hg : Gl X x) (hm : X.mg x = some (.ref f)) (hk : PySem.W.keepIn X.K (.ref f) = true)
    (hb : KwB fd ps ks g) (hx : Passes CX X E) (hv : ∀ {zs : List V} {ws : List Value}, zs.length = ks.length → Vals zs ws → Vals (gV zs) (g ws)) (hkw : PK X kws tk)
    (h1 : (backToKw pos (keywordEach kws X.env)).all (·.1.isSome) = true := by rfl) (h2 : (backToKw pos (keywordEach kws X.env)).filterMap (·.1) = ks := by rfl) (h3 : (x == ("__debug__" : Str)) = false := by decide)
    (h4 : ((backTo pos (starEach [] X.env)).any (·.1) || (backToKw pos (keywordEach kws X.env)).any (·.1.isNone)) = false := by rfl) :
    PE X (.Call (.Name x p) [] kws pos) (tKw ks.length sp gV E tk) := by
  refine ⟨fun pins s σ H Q I h => wpAny_Call_Name_kw (ld_glob I hg hm (PySem.W.callWith_KW0 (h₀ := X.base) I.ok.mod.kin hk h1 ?_ h4) h3)⟩
  refine thn (hkw.run pos pins s σ H _ I h) fun ws s2 ⟨zs, H2, I2, rz, l, q⟩ => ⟨I2.kIn, ?_⟩
  rw [h2]
  have r2 := hv l rz
  refine wpAny_call (codeAny_mono (F.run X.A X.stack s2 H2 ⟨[], ks.zip ws⟩ (g ws) (gV zs) Q E hr I2.env0 (hb s2 ws (rz.length.symm.trans l)) r2 q) fun r s' hq => ?_)
  cases r with
  | error e => exact hx pins σ H2 s2 e s' I2 hq
  | ok fl =>
    cases fl with
    | ret u => exact I2.after hq
    | next => exact False.elim hq
    | brk => exact False.elim hq
    | cont => exact False.elim hq
end
theorem cat_to {K : PySem.W.Frag} {H : Hp} {a b : Addr} {xs ys : List V} {Q : VK} (ha : SqT K H a xs) (hb : SqT K H b ys) (hl : xs.length + ys.length ≤ 5000) (q : ∀ G r, Same H G → SqT K G r (xs ++ ys) → Q (.ref r) G) : rCatA K (.ref a) (.ref b) H Q := by
  refine ⟨a, b, xs, ys, rfl, rfl, ha, hb, by rw [sizeLine_eq]; omega, fun e => ?_, fun _ e => ?_, fun _ _ p np => q _ p (same_new np) (sqT upd_same)⟩
  · subst e
    exact q H b (Same.refl _) hb
  · subst e
    exact q H a (Same.refl _) (by rw [List.append_nil]; exact ha)
theorem slA_to {K : PySem.W.Frag} {H : Hp} {a : Addr} {xs : List V} {lo hi : Option Int} {Q : VK} (ha : SqT K H a xs) (q : ∀ G r, Same H G → SqT K G r (cutV xs lo hi) → Q (.ref r) G) : rSlA K (.ref a) lo hi H Q := by
  refine ⟨a, xs, rfl, ha, fun ⟨e1, e2⟩ => ?_, fun _ p np => q _ p (same_new np) (sqT upd_same)⟩
  refine q H a (Same.refl _) ?_
  have e : cutV xs lo hi = xs := by
    unfold cutV
    rw [e1, e2, List.drop_zero, Nat.sub_zero, List.take_of_length_le (Nat.le_refl _)]
  rw [e]
  exact ha
theorem cut_to {xs : List V} {n : Nat} (h : n ≤ xs.length) : cutV xs none (some (n : Int)) = xs.take n := by
  unfold cutV
  rw [HT.sIx_none, HT.sIx_nat, List.drop_zero, Nat.sub_zero, Nat.min_eq_left h]
theorem cut_from {xs : List V} {n : Nat} (h : n ≤ xs.length) : cutV xs (some (n : Int)) none = xs.drop n := by
  unfold cutV
  rw [HT.sIx_none, HT.sIx_nat, Nat.min_eq_left h, List.take_of_length_le (by rw [List.length_drop]; exact Nat.le_refl _)]
theorem paired_take {α β : Type} {R : α → β → Prop} : ∀ {xs : List α} {ys : List β} (n : Nat), Paired R xs ys → Paired R (xs.take n) (ys.take n)
  | _, _, 0, _ => .nil
  | _, _, n + 1, .nil => .nil
  | _, _, n + 1, .cons a t => .cons a (paired_take n t)
theorem paired_drop {α β : Type} {R : α → β → Prop} : ∀ {xs : List α} {ys : List β} (n : Nat), Paired R xs ys → Paired R (xs.drop n) (ys.drop n)
  | _, _, 0, h => h
  | _, _, n + 1, .nil => .nil
  | _, _, n + 1, .cons a t => paired_drop n t
theorem paired_app {α β : Type} {R : α → β → Prop} : ∀ {xs : List α} {ys : List β} {us : List α} {ws : List β}, Paired R xs ys → Paired R us ws → Paired R (xs ++ us) (ys ++ ws)
  | _, _, _, _, .nil, h => h
  | _, _, _, _, .cons a t, h => .cons a (paired_app t h)
theorem perm_pop {L M : List Int} {k : Nat} {y : Int} (h : L[k]? = some y) : (L.eraseIdx k ++ (M ++ [y])).Perm (L ++ M) := by
  obtain ⟨hk, e⟩ := List.getElem?_eq_some_iff.mp h
  have p1 : (y :: L.eraseIdx k).Perm L := by
    have e2 : L = L.take k ++ y :: L.drop (k + 1) := by
      rw [← e, ← List.drop_eq_getElem_cons hk, List.take_append_drop]
    rw [List.eraseIdx_eq_take_drop_succ]
    refine List.Perm.trans ?_ (List.Perm.of_eq e2.symm)
    exact List.perm_middle.symm
  have p2 : (L.eraseIdx k ++ (M ++ [y])).Perm (y :: (L.eraseIdx k ++ M)) := by
    rw [← List.append_assoc]
    exact List.perm_append_singleton _ _
  exact p2.trans (p1.append_right M)
theorem erase_map (l : List Int) (k : Nat) : (l.map V.int).eraseIdx k = (l.eraseIdx k).map V.int := by
  rw [List.eraseIdx_eq_take_drop_succ, List.eraseIdx_eq_take_drop_succ, List.map_append, List.map_take, List.map_drop]
/-- the arguments give the data ds, and all stands as before -/
def GvA (K : PySem.W.Frag) (σ : L2.St) (H : Hp) (t : TA) (ds : List PyData) : Prop := ∀ Q : List V → Hp → Prop, (∀ vs G, Same H G → DpAll K G vs ds → Q vs G) → t σ H Q
theorem gvA_nil {K : PySem.W.Frag} {σ : L2.St} {H : Hp} : GvA K σ H tNil [] := fun Q q => q _ _ (Same.refl _) .nil
theorem gvA_cons {K : PySem.W.Frag} {σ : L2.St} {H : Hp} {t : TE} {ta : TA} {d : PyData} {ds : List PyData} (h1 : Gv K σ H t d) (h2 : ∀ G, Same H G → GvA K σ G ta ds) : GvA K σ H (tCons t ta) (d :: ds) := fun Q q =>
  h1 _ fun v G s dv => h2 G s _ fun vs G2 s2 dvs => q _ _ (s.trans s2) (.cons (dp_same s2 _ _ dv) dvs)
theorem gv_tup {K : PySem.W.Frag} {σ : L2.St} {H : Hp} {ta : TA} {ds : List PyData} (h : GvA K σ H ta ds) (l : Nat.ble ds.length 1000 = true := by rfl) : Gv K σ H (tTup ta) (.tuple ds) := fun Q q =>
  h _ fun vs G s dvs => ⟨by have := Nat.le_of_ble_eq_true l; rw [dpAll_len dvs, sizeLine_eq]; omega, fun p np => q _ _ (s.trans (same_new np)) (.tup (sqT upd_same) (dpAll_same (same_new np) _ _ dvs))⟩
theorem gv_int {K : PySem.W.Frag} {σ : L2.St} {H : Hp} {i : Int} : Gv K σ H (tC (.int i)) (.int i) := fun Q q => q _ _ (Same.refl _) (.int i)
theorem gv_str {K : PySem.W.Frag} {σ : L2.St} {H : Hp} {z : Str} : Gv K σ H (tC (.str z)) (.str z) := fun Q q => q _ _ (Same.refl _) (.str z)
theorem gv_tup0 {K : PySem.W.Frag} {σ : L2.St} {H : Hp} : Gv K σ H (tTup tNil) (.tuple []) := gv_tup gvA_nil
end Gd
namespace Gd
open PySem PySem.Spec PyProof.Rows L2
theorem tuple_mul1 (l : Addr) (items : Array Value) (n : Nat) (dd : Option Addr) (sl : Array (Option Value)) (u : Tok) :
    Meets (Builtin.«tuple.__mul__» ⟨[.ref l, .int 1 u], []⟩) (fun _ R s => s.heap.get? l = some { cls := .type "tuple", dict := dd, data := .seq items n, slots := sl } ∧ R (.ok (.ret (Value.ref l))) s) :=
  .of_wp fun prog w A R s h => by
    obtain ⟨hp, g, d, tk, os⟩ := s
    obtain ⟨hl, h⟩ := h
    have f1 := AutoSeq1.idx_int
    have c0 : (decide ((1 : Int) < -(2 ^ 63)) || decide ((1 : Int) ≥ 2 ^ 63)) = false := by decide
    have c1 : (items.isEmpty || (1 : Int) == 1) = true := by simp
    wp_walk using wpAny_loadPart' hl
    repeat (first
      | (refine wpAny_ite_false (decide_eq_false (by rw [c0]; exact Bool.false_ne_true)) ?_; wp_walk using wpAny_loadPart' hl)
      | (refine wpAny_ite_true (decide_eq_true (by rw [c1])) ?_; wp_walk using wpAny_loadPart' hl))
    exact ⟨_, rfl, h⟩
section
variable {X : Cx}
abbrev rRepM (K : PySem.W.Frag) : V → V → Hp → VK → Prop := fun x y H Q => ∃ (l : Addr) (k : Int) (z : V), x = .ref l ∧ y = .int k ∧ SqT K H l [z] ∧ 1 ≤ k ∧ k ≤ 100000 ∧ ∀ G r, Same H G → SqT K G r (List.replicate k.toNat z) → Q (.ref r) G
/-- (x,) * k, k may be 1 -/
theorem op_repM : OpR X (binaryOp .Mult) (rRepM X.K) := by
  intro pins s σ H x y v u Q I rx ry h
  obtain ⟨l, k, z, rfl, rfl, hT, h1, h2, q⟩ := h
  by_cases hk : 2 ≤ k
  · exact op_rep1 pins s σ H _ _ v u Q I rx ry ⟨l, k, z, rfl, rfl, hT, hk, h2, fun p np => q _ p (same_new np) (sqT upd_same)⟩
  obtain rfl : k = 1 := by omega
  obtain rfl : v = Value.ref l := rx
  obtain ⟨t, rfl⟩ := ry
  have hq := q H l (Same.refl _) hT
  obtain ⟨its, r, ⟨⟨cls, dd, data, sl⟩, ho, hc, n, hd⟩, hs⟩ := I.tuple hT
  simp only at hc hd
  subst hc hd
  refine wpAny_binaryOp_repeat_ref (T := "tuple") (U := "int") (by decide) ⟨_, ho, rfl⟩ (fun s' => typeIs_int s' 1 t) noFill_tuple_mul F.fills_int_mul F.slot_int_rmul repeat_tuple F.slot_int_index.lookup
    (call_meets F.slot_int_rmul (typeIs_int s 1 t) F.entry_int_rmul (F.args_int_rmul_2 _ _) (int_rmul_tuple 1 t l its.toArray n dd sl)
      ⟨ho, rfl, ⟨_, ho, rfl⟩, call_meets F.slot_tuple_mul ⟨_, ho, rfl⟩ F.entry_tuple_mul (F.args_tuple_mul_2 _ _) (tuple_mul1 l its.toArray n dd sl t) ⟨ho, ?_⟩⟩)
  exact ⟨.ref l, H, I, rfl, hq⟩
end
end Gd
/-! The end of a law row as in Ge, for laws that hand lambdas over: code objects and their tables. -/
namespace Gd
open PySem PySem.Spec PyProof.Rows L2
abbrev tabO : Obj := { cls := .none, data := .fields #[] }
section
variable {P : Program} {w : World} {K : PySem.W.Frag} {mg mb : Str → Option Value} {k : Nat} {fa a : Addr} {cs : List (Addr × Addr)} {fd : FuncData} {x : Str} {sp : Sp} {s : Shared} {vs : List Value} {ns : List Int}
/-- what is there of code objects and tables at the start -/
structure TabsAt (K : PySem.W.Frag) (mg : Str → Option Value) (h : Heap) (cs : List (Addr × Addr)) : Prop where
  tb : ∀ p ∈ cs, h.get? p.2 = some tabO
  nk : ∀ p ∈ cs, K.lookup p.2 = none
  hd : ∀ p ∈ cs, PySem.W.CodeHd h p.1 p.2
/-- tracked are at most the script and the tables -/
structure BareT (K : PySem.W.Frag) (a : Addr) (cs : List (Addr × Addr)) (H : Hp) : Prop where
  one : ∀ b, H b ≠ none → b = a ∨ ∃ p ∈ cs, p.2 = b
  out : H a ≠ none → K.lookup a = none
  tab : ∀ p ∈ cs, H p.2 = some (.tbl #[])
  sort : ∀ b, H b = none ∨ (∃ p ∈ cs, p.2 = b) ∨ ∃ o xs, H b = some (.frz o (.lst xs))
section
variable {H : Hp} (ha : s.heap.get? a = some { cls := .type "list", data := .seq vs.toArray }) (T : TabsAt K mg s.heap cs) (B : BareT K a cs H)
include ha T B
theorem untracked {b : Addr} {o : Obj} (e : s.heap.get? b = some o) (h1 : ∀ us m, o.data ≠ .seq us m) (h2 : o.data ≠ .fields #[]) : H b = none := by
  refine Classical.byContradiction fun q => ?_
  rcases B.one b q with z | ⟨p, hp, z⟩
  · rw [z] at e
    have u := Option.some.inj (e.symm.trans ha)
    exact h1 _ _ (congrArg Obj.data u)
  · rw [← z] at e
    have u := Option.some.inj (e.symm.trans (T.tb p hp))
    exact h2 (congrArg Obj.data u)
theorem hidT_map {b : Addr} {m : Str → Option Value} (h : s.heap.Ns b m) : (hidT s.heap H).Ns b m := by
  obtain ⟨o, es, ep, e, d, r⟩ := h
  refine ⟨o, es, ep, hidT_get e (untracked ha T B e (fun us m z => ?_) fun z => ?_), d, r⟩ <;> exact nomatch d.symm.trans z
theorem hidT_in (KX : K.In s.heap) : K.In (hidT s.heap H) := fun b o e => hidT_get (KX b o e) (by
  refine Classical.byContradiction fun q => ?_
  rcases B.one b q with z | ⟨p, hp, z⟩
  · rw [z] at e q
    exact nomatch (B.out q).symm.trans e
  · rw [← z] at e
    exact nomatch (T.nk p hp).symm.trans e)
theorem hidT_code (p : Addr × Addr) (hp : p ∈ cs) : PySem.W.CodeHd (hidT s.heap H) p.1 p.2 := by
  obtain ⟨o, us, c1, c2, c3, c4, c5, c6, c7, e, q1, q2, q3, rest⟩ := T.hd p hp
  refine ⟨o, us, c1, c2, c3, c4, c5, c6, c7, hidT_get e (untracked ha T B e (fun _ _ z => nomatch q2.symm.trans z) fun z => ?_), q1, q2, q3, rest⟩
  have u : Data.fields us = Data.fields #[] := q2.symm.trans z
  injection u with u
  rw [u] at q3
  simp at q3
theorem hidT_tab (hns : s.heap.Ns mainGlobals mg)
    (hbm : ∃ (m : Addr) (ob : Obj), mg "__builtins__" = some (.ref m) ∧ m ≠ builtinsNs ∧ s.heap.get? m = some ob ∧ ob.cls = .type "module" ∧ ob.dict = some builtinsNs ∧ ob.data = .plain) : ∀ p ∈ cs, LamX.TabB (hidT s.heap H) mg p.1 p.2 := fun p hp => by
  obtain ⟨m, ob, d1, d2, d3, d4, d5, d6⟩ := hbm
  obtain ⟨og, es, ep, eg, dg, _⟩ := hns
  have n1 : m ≠ mainGlobals := fun z => by
    rw [z] at d3
    have u := congrArg Obj.data (Option.some.inj (d3.symm.trans eg))
    rw [d6, dg] at u
    cases u
  have n2 : m ≠ p.2 := fun z => by
    rw [z] at d3
    have u := congrArg Obj.data (Option.some.inj (d3.symm.trans (T.tb p hp)))
    rw [d6] at u
    cases u
  have n3 : mainGlobals ≠ p.2 := fun z => by
    rw [z] at eg
    have u := congrArg Obj.data (Option.some.inj (eg.symm.trans (T.tb p hp)))
    rw [dg] at u
    cases u
  exact ⟨hidT_code ha T B p hp, ⟨m, ob, d1, d2, n1, n2, hidT_get d3 (untracked ha T B d3 (fun _ _ z => nomatch d6.symm.trans z) fun z => nomatch d6.symm.trans z), d4, d5, d6⟩, n3⟩
end
theorem end_coreT (KX : K.In s.heap) (hns : s.heap.Ns mainGlobals mg) (hb : s.heap.Ns builtinsNs mb) (hbb : ∀ y : Str, y ≠ "__name__" → mb y = bootBuiltins y) (hlim : s.heap.NoLimit) (hg : s.gens = #[])
    (hbm : ∃ (m : Addr) (ob : Obj), mg "__builtins__" = some (.ref m) ∧ m ≠ builtinsNs ∧ s.heap.get? m = some ob ∧ ob.cls = .type "module" ∧ ob.dict = some builtinsNs ∧ ob.data = .plain)
    (ha : s.heap.get? a = some { cls := .type "list", data := .seq vs.toArray }) (T : TabsAt K mg s.heap cs) (hr : Room k callerA)
    (F : ∀ base : Heap, K.In base → base.Ns mainGlobals mg → (∀ p ∈ cs, LamX.TabB base mg p.1 p.2) → FnG P w K mg base k fa fd [x] sp) (hbind : ∀ (t : Shared) (u : Value), BindsTo t fd ⟨[u], []⟩ [(x, u)])
    {H : Hp} (hok : HOk P w H s.heap) (B : BareT K a cs H) (h : sp [.ref a] H (fun v _ => v = .bl true) fun _ _ _ => False) :
    codeAny (model P w) callerA (.call (.ref fa) ⟨[.ref a], []⟩) (fun r s' => r = .ok (.ret (.bool true)) ∧ OldK s.heap s'.heap ∧ s'.os = s.os ∧ AllBare s'.gens) s := by
  have KB := hidT_in ha T B KX
  have NB := hidT_map ha T B hns
  have MB : Mod K mg (hidT s.heap H) := ⟨KB, NB, ⟨mb, hidT_map ha T B hb, hbb⟩, hlim.elim fun mc z => ⟨mc, hidT_map ha T B z.1, z.2⟩⟩
  have e0 : Env0 P w K mg (hidT s.heap H) callerA [] s H :=
    ⟨rfl, MB, fun b o e => of_hidT e, Nat.le_of_eq (hidT_size _ _), trivial, fun b z => (nomatch (show b ∈ ([] : List Addr) from z)), hok, .of_eq hg⟩
  refine codeAny_mono ((F _ KB NB (hidT_tab ha T B hns hbm)).go callerA [] s H ⟨[.ref a], []⟩ [.ref a] [.ref a] _ _ ⟨hr, rfl⟩ e0 (hbind s (.ref a)) (.cons rfl .nil) h) fun r s' z => ?_
  rcases r with e | fl
  · exact z.elim
  cases fl with
  | next => exact z.elim
  | brk => exact z.elim
  | cont => exact z.elim
  | ret u =>
    obtain ⟨v, G, os, bare, un, okG, ru, rfl⟩ := z
    obtain rfl : u = Value.bool true := ru
    -- a table has grown, all else stands
    have big : ∀ p ∈ cs, ∃ more : Array Value, s'.heap.get? p.2 = some { cls := .none, data := .fields more } := fun p hp => by
      obtain ⟨more, g⟩ := un.tbls p.2 #[] (B.tab p hp)
      exact ⟨_, okG p.2 _ g⟩
    have old : ∀ b o, (¬ ∃ p ∈ cs, p.2 = b) → s.heap.get? b = some o → s'.heap.get? b = some o := fun b o n e => by
      rcases B.sort b with y | y | ⟨ob, xs, y⟩
      · exact un.keep b o e y (fun g => nomatch (show b ∈ ([] : List Addr) from g)) (fun g => nomatch g)
      · exact absurd y n
      · exact ((okG b _ (un.frzs b ob _ y)).1).trans ((hok b _ y).1.symm.trans e)
    refine ⟨rfl, ⟨fun b o e => ?_, fun b o e => ?_⟩, os, bare⟩
    · by_cases y : ∃ p ∈ cs, p.2 = b
      · obtain ⟨p, hp, rfl⟩ := y
        obtain ⟨more, g⟩ := big p hp
        obtain rfl : tabO = o := Option.some.inj ((T.tb p hp).symm.trans e)
        exact .inr (.inl ⟨((T.hd p hp).tab (T.tb p hp)).isCodeTable, rfl, #[], more, rfl, by rw [Array.empty_append]; exact g⟩)
      · exact .inl (old b o y e)
    · by_cases y : ∃ p ∈ cs, p.2 = b
      · obtain ⟨p, hp, rfl⟩ := y
        obtain ⟨more, g⟩ := big p hp
        exact ⟨_, g⟩
      · exact ⟨o, old b o y e⟩
open Classical in
/-- the tables alone, over what is below -/
noncomputable def tabsOn (cs : List (Addr × Addr)) (lo : Hp) : Hp := fun b => if ∃ p ∈ cs, p.2 = b then some (.tbl #[]) else lo b
theorem tabsOn_in {lo : Hp} {p : Addr × Addr} (hp : p ∈ cs) : tabsOn cs lo p.2 = some (.tbl #[]) := if_pos ⟨p, hp, rfl⟩
theorem tabsOn_off {lo : Hp} {b : Addr} (n : ¬ ∃ p ∈ cs, p.2 = b) : tabsOn cs lo b = lo b := if_neg n
theorem end_callT (KX : K.In s.heap) (hns : s.heap.Ns mainGlobals mg) (hb : s.heap.Ns builtinsNs mb) (hbb : ∀ y : Str, y ≠ "__name__" → mb y = bootBuiltins y) (hlim : s.heap.NoLimit) (hg : s.gens = #[])
    (hbm : ∃ (m : Addr) (ob : Obj), mg "__builtins__" = some (.ref m) ∧ m ≠ builtinsNs ∧ s.heap.get? m = some ob ∧ ob.cls = .type "module" ∧ ob.dict = some builtinsNs ∧ ob.data = .plain)
    (ha : s.heap.get? a = some { cls := .type "list", data := .seq vs.toArray }) (hi : IntsAre vs ns) (hl : ns.length ≤ sizeLine) (T : TabsAt K mg s.heap cs) (hr : Room k callerA)
    (F : ∀ base : Heap, K.In base → base.Ns mainGlobals mg → (∀ p ∈ cs, LamX.TabB base mg p.1 p.2) → FnG P w K mg base k fa fd [x] sp) (hbind : ∀ (t : Shared) (u : Value), BindsTo t fd ⟨[u], []⟩ [(x, u)])
    (hsp : ∀ H : Hp, (∀ p ∈ cs, H p.2 = some (.tbl #[])) → SqL K H a (ns.map V.int) → sp [.ref a] H (fun v _ => v = .bl true) fun _ _ _ => False) :
    codeAny (model P w) callerA (.call (.ref fa) ⟨[.ref a], []⟩) (fun r s' => r = .ok (.ret (.bool true)) ∧ OldK s.heap s'.heap ∧ s'.os = s.os ∧ AllBare s'.gens) s := by
  have rv := vals_ints hi
  have aT : ¬ ∃ p ∈ cs, p.2 = a := fun ⟨p, hp, z⟩ => by
    have e := T.tb p hp
    rw [z] at e
    have u := congrArg Obj.data (Option.some.inj (ha.symm.trans e))
    cases u
  -- whatever is below, if it tracks at most the script
  have go : ∀ lo : Hp, (∀ b, b ≠ a → lo b = none) → (lo a ≠ none → K.lookup a = none) → (lo a = none ∨ ∃ o xs, lo a = some (.frz o (.lst xs))) → (∀ u, lo a = some u → ObjOk P w (tabsOn cs lo) s.heap a u) → SqL K (tabsOn cs lo) a (ns.map V.int) →
      codeAny (model P w) callerA (.call (.ref fa) ⟨[.ref a], []⟩) (fun r s' => r = .ok (.ret (.bool true)) ∧ OldK s.heap s'.heap ∧ s'.os = s.os ∧ AllBare s'.gens) s := fun lo l1 l2 l3 l4 hS => by
    refine end_coreT KX hns hb hbb hlim hg hbm ha T hr F hbind (H := tabsOn cs lo) (fun b u e => ?_) ⟨fun b n => ?_, fun n => l2 fun z => n ((tabsOn_off aT).trans z), fun p hp => tabsOn_in hp, fun b => ?_⟩ (hsp _ (fun p hp => tabsOn_in hp) hS)
    · by_cases y : ∃ p ∈ cs, p.2 = b
      · obtain ⟨p, hp, rfl⟩ := y
        obtain rfl : HO.tbl #[] = u := Option.some.inj ((tabsOn_in hp).symm.trans e)
        exact T.tb p hp
      · have e2 := (tabsOn_off y).symm.trans e
        by_cases q : b = a
        · subst q
          exact l4 u e2
        · exact nomatch (l1 b q).symm.trans e2
    · by_cases y : ∃ p ∈ cs, p.2 = b
      · exact .inr y
      · refine .inl (Classical.byContradiction fun q => n ((tabsOn_off y).trans (l1 b q)))
    · by_cases y : ∃ p ∈ cs, p.2 = b
      · exact .inr (.inl y)
      · by_cases q : b = a
        · subst q
          rcases l3 with z | ⟨o, xs, z⟩
          · exact .inl ((tabsOn_off y).trans z)
          · exact .inr (.inr ⟨o, xs, (tabsOn_off y).trans z⟩)
        · exact .inl ((tabsOn_off y).trans (l1 b q))
  cases hk : K.lookup a with
  | some o =>
    obtain rfl : ({ cls := .type "list", data := .seq vs.toArray } : Obj) = o := Option.some.inj (ha.symm.trans (KX a o hk))
    exact go (fun _ => none) (fun _ _ => rfl) (fun z => absurd rfl z) (.inl rfl) (fun u z => nomatch (show (none : Option HO) = some u from z)) (.inr ⟨_, vs.toArray, _, hk, rfl, rfl, rfl, by rw [List.size_toArray, hi.length]; exact hl, by simpa using rv⟩)
  | none =>
    let lo : Hp := fun b => if b = a then some (.frz { cls := .type "list", data := .seq vs.toArray } (.lst (ns.map V.int))) else none
    have e1 : lo a = some (.frz { cls := .type "list", data := .seq vs.toArray } (.lst (ns.map V.int))) := if_pos rfl
    refine go lo (fun b q => if_neg q) (fun _ => hk) (.inr ⟨_, _, e1⟩) (fun u z => ?_) (.inl (.inr ⟨_, (tabsOn_off aT).trans e1⟩))
    obtain rfl := Option.some.inj (e1.symm.trans z)
    exact ⟨ha, by rw [List.length_map]; exact hl, vs, _, rv, ha⟩
end
/-- what the end asks of a law's promise at the head's heap -/
def LawG (l : PySem.W.OpenLaw) (w : World) (K : PySem.W.Frag) (k n : Nat) (x : Str) (mg : Str → Option Value) (fa : Addr) (h : Heap) : Prop :=
  ∃ (fd : FuncData) (cs : List (Addr × Addr)) (sp : Sp), TabsAt K mg h cs ∧ (∀ (t : Shared) (u : Value), BindsTo t fd ⟨[u], []⟩ [(x, u)]) ∧
    (∀ (H : Hp) (a : Addr) (ns : List Int), ns.length ≤ n → (∀ p ∈ cs, H p.2 = some (.tbl #[])) → SqL K H a (ns.map V.int) → sp [.ref a] H (fun v _ => v = .bl true) fun _ _ _ => False) ∧
    ∀ base : Heap, K.In base → base.Ns mainGlobals mg → (∀ p ∈ cs, LamX.TabB base mg p.1 p.2) → FnG l.prog w K mg base k fa fd [x] sp
theorem walk_GT {l : PySem.W.OpenLaw} {n k : Nat} {q : Program} {loose : List Str} {XP : (Str → Option Value) → Heap → Prop} {YP : World → Heap → Prop} {d : DefRec} {K : Params → PySem.W.Frag} {x : Str}
    (hn : l.most = some n) (hn2 : n ≤ sizeLine) (hdf : d.params.defaults = []) (hr : Room k callerA) (hY : ∀ (w : World) (h : Heap), YP w h → (K w.params).In h)
    (F : ∀ (w : World) (mg : Str → Option Value) (fa : Addr) (h : Heap), YP w h → (K w.params).In h → h.Ns mainGlobals mg → mg d.name = some (.ref fa) → LawG l w (K w.params) k n x mg fa h) :
    PySem.W.WalkO q loose XP YP l.row.toRowW d [] (fun f vs => PySem.call f vs) := by
  refine Att.attach_callB hn hdf fun w s₀ s mg mb fa o pm cd doc a vs ns G Y ho hd hcd hm hobj hi hl hbits hg => ?_
  obtain ⟨fd, cs, sp, T, hb, hsp, hF⟩ := F w mg fa _ Y (hY w _ Y) G.T.g hm
  exact end_callT (hY w _ Y) G.T.g G.T.b G.T.builtins G.T.nolimit hg G.T.bmain hobj hi (Nat.le_trans hl hn2) T hr hF hb fun H hH hS => hsp H a ns hl hH hS
end Gd
/-! A def that calls the lambda it got and tells of an error by its name: try: action() / except x as e: .. / return z. -/
namespace Gd
open PySem PySem.Spec PyProof.Rows L2
/-- what an error finds has as many slots as the def -/
theorem takes_len {X : Cx} {W : WX} (t : Takes X W) : Takes X (fun cls d σ H => σ.length = X.N.length → W cls d σ H) := fun u s' ⟨a, B, sI, pins, σ, H, cls, d, e, I, r1, r2, r3, r4, r5, r6, w⟩ =>
  t u s' ⟨a, B, sI, pins, σ, H, cls, d, e, I, r1, r2, r3, r4, r5, r6, w I.len⟩
/-- what the def makes of the lambda: R of an error, z0 without one -/
abbrev TTh (R : Value → Option Addr → Hp → VK → Prop) (z0 : Str) : (XK → Hp → VK → Prop) → Hp → VK → Prop := fun tl H Q => tl (fun cls d H' => R cls d H' Q) H fun _ H' => Q (.str z0) H'
theorem heard_gives {X : Cx} {Ng : List Str} {xg a e x2 q z0 : Str} {sg : Scope} {g : Addr} {cdg c : Value} {i j : Nat} {b0 : Stmt} {suite : List Stmt} {ts : Addr → Value → Option Addr → TS} {R : Value → Option Addr → Hp → VK → Prop} {p1 p2 p3 p4 p5 p6 p7 p8 : Pos}
    (hsu : ∀ (s : Shared) (H : Hp) (aE : Addr) (oe : Obj) (cls : Value) (d : Option Addr) (pn : List (Addr × Obj)), Zc cls d oe → (∃ vs, oe.data = .fields vs) → PSs ((cxOf C8.CX0 X.prog X.w X.K X.mg X.base Ng xg sg g cdg X.A X.stack s H C8.E0).nox.suite aE ((aE, oe) :: pn)) (b0 :: suite) (ts aE cls d))
    (nd : Ng.Nodup) (hi : Ng[i]? = some e) (hl : sg.names.lookup e = some .local) (nm : ∀ (s : Shared) (H : Hp), Names (cxOf C8.CX0 X.prog X.w X.K X.mg X.base Ng xg sg g cdg X.A X.stack s H C8.E0).nox x2 c)
    (h0 : ∀ f : Addr, (L2.start Ng [V.ref f])[0]? = some (some (V.ref f)))
    (hR : ∀ (D : Ends) (σ : L2.St) (cls : Value) (d : Option Addr) (H : Hp), σ.length = Ng.length → R cls d H D.rt → wAs X.K c i ts (fun _ _ _ _ => False) D cls d σ H) :
    LamX.GivesTo X Ng xg sg g cdg [.Try [.Expr (.Call (.Name a p1) [] [] p2) p3] [.ExceptHandler (some (.Name x2 p4)) (some e) (b0 :: suite) p5] [] [] p6, .Return (some (.Constant (.str z0) j p7)) p8] a q (TTh R z0) := by
  intro f c' s H Q tl act hc h
  refine ⟨_, pss_cons (ps_try_as (X := (cxOf C8.CX0 X.prog X.w X.K X.mg X.base Ng xg sg g cdg X.A X.stack s H C8.E0).nox) (i := i) (Wout := fun _ _ _ _ => False)
      (tb := fun W D σ H => ∃ Ech : XK, (∀ cls d σ' H', σ'.length = Ng.length → Ech cls d H' → W cls d σ' H') ∧ σ[0]? = some (some (.ref f)) ∧ H c' = some (LamX.CodeO c' q) ∧ tl Ech H fun _ H' => D.nx σ H')
      rfl rfl nd hi hl (nm s H) LamX.takes0 (fun W pn xe tk _ => ?_) (fun aE oe cls d pn hz hf => hsu s H aE oe cls d pn hz hf)) (pss_one (ps_ret pe_str)), ?_⟩
  · refine ⟨fun pins s' σ H' D I hh => ?_⟩
    obtain ⟨Ech, hW, h1, h2, h3⟩ := hh
    have hp := act _ pn xe Ech p1 p2 (takes_len tk) fun cls d σ' H' he hl => hW cls d σ' H' hl he
    exact (pss_one (ps_expr hp)).run pins s' σ H' D I ⟨h1, h2, h3⟩
  · exact ⟨fun cls d H' => R cls d H' Q, fun cls d σ' H' hl hr => hR _ σ' cls d H' hl hr, h0 f, hc, h⟩
end Gd
namespace Gd
open PySem PySem.Spec PyProof.Rows L2
/-- the places below n where f holds -/
def idxF (f : Nat → Bool) (n : Nat) : List Int := ((List.range n).filter f).map fun i : Nat => (i : Int)
theorem idxF_zero (f : Nat → Bool) : idxF f 0 = [] := rfl
theorem idxF_succ (f : Nat → Bool) (n : Nat) : idxF f (n + 1) = idxF f n ++ (if f n = true then [(n : Int)] else []) := by
  unfold idxF
  rw [List.range_succ, List.filter_append, List.map_append]
  by_cases h : f n = true
  · rw [if_pos h, List.filter_cons_of_pos h]
    rfl
  · rw [if_neg h, List.filter_cons_of_neg h]
    rfl
theorem idxF_len (f : Nat → Bool) (n : Nat) : (idxF f n).length ≤ n := by
  unfold idxF
  rw [List.length_map]
  have := List.length_filter_le f (List.range n)
  rw [List.length_range] at this
  exact this
theorem idxF_mem {f : Nat → Bool} {n : Nat} {x : Int} : x ∈ idxF f n ↔ ∃ i : Nat, x = (i : Int) ∧ i < n ∧ f i = true := by
  unfold idxF
  constructor
  · intro h
    obtain ⟨i, hi, e⟩ := List.mem_map.mp h
    obtain ⟨h1, h2⟩ := List.mem_filter.mp hi
    exact ⟨i, e.symm, List.mem_range.mp h1, h2⟩
  · rintro ⟨i, rfl, h1, h2⟩
    exact List.mem_map.mpr ⟨i, List.mem_filter.mpr ⟨List.mem_range.mpr h1, h2⟩, rfl⟩
theorem idxF_congr {f g : Nat → Bool} {n : Nat} (h : ∀ i, i < n → f i = g i) : idxF f n = idxF g n := by
  unfold idxF
  rw [List.filter_congr fun x hx => h x (List.mem_range.mp hx)]
theorem idxF_asc (f : Nat → Bool) (n : Nat) : AscI (idxF f n) := by
  unfold idxF AscI
  rw [List.pairwise_map]
  exact (List.Pairwise.filter f List.pairwise_lt_range).imp fun h => by omega
/-- a type accepts a kind -/
def acc (t : TD) (a : Nat) (k : Int) : Bool := match t.types[a]? with
  | some c => decide (k ∈ c.2)
  | none => false
theorem acc_of {t : TD} {a : Nat} {c : Str × List Int} (h : t.types[a]? = some c) (k : Int) : acc t a k = decide (k ∈ c.2) := by
  unfold acc
  rw [h]
def typesOf (t : TD) (ks : List Int) : List Int := idxF (fun a => ks.any fun k => acc t a k) t.types.length
def takersL (t : TD) (k : Int) : List Int := typesOf t [k]
def withoutL (t : TD) (k : Int) : List Int := idxF (fun a => !acc t a k) t.types.length
theorem idx_small {f : Nat → Bool} {n : Nat} (h : n ≤ 12) : ∀ x ∈ idxF f n, x.natAbs < 10 ^ 9 := fun x hx => by
  obtain ⟨i, rfl, hi, _⟩ := idxF_mem.mp hx
  omega
end Gd
namespace Gd
open PySem PySem.Spec PyProof.Rows L2
/-- what is told of an error with a word -/
structure WTxt (K : PySem.W.Frag) (mg : Str → Option Value) (nm : Str) (CX fX : Addr) : Prop where
  ox : OexC K CX
  nW : PySem.W.findIn K (.ref CX) "word" = some none
  iC : PySem.W.findIn K (.ref CX) "__init__" = some (some (.ref fX))
  tI : PySem.W.typeIn K (.ref fX) = some (.type "function")
  gR : mg nm = some (.ref CX)
theorem blk_nox {X : Cx} {r : List Stmt} {G : TS → Prop} (h : ∃ u, PSs X.nox r u ∧ G u) : ∃ u, PSs X r u ∧ G u := h.elim fun u z => ⟨u, z.1.nox, z.2⟩
def xdS (z : Str) : HO := .xd [(("word" : Str), .str z)]
def spIRef (K : PySem.W.Frag) (C : Addr) : Sp := fun vs H Q _ => ∃ (a : Addr) (z : Str), vs = [.ref a, .str z] ∧ H a = some (exo a C none) ∧ ∀ dx, H dx = none → dx ≠ a → Q .non (upd (upd H dx (exd dx [("word", .str z)])) a (exo a C (some dx)))
/-- all but lists and instances stands as before -/
def KeepU (H G : Hp) : Prop := ∀ b o, H b = some o → (∀ xs, o ≠ .lst xs) → (∀ C dx fs, o ≠ .ins C dx fs) → G b = some o
theorem KeepU.of {H G : Hp} (e : KeepT H G) : KeepU H G := fun b o h n _ => e b o h n
theorem KeepU.trans {H G J : Hp} (a : KeepU H G) (b : KeepU G J) : KeepU H J := fun c o h n m => b c o (a c o h n m) n m
theorem KeepU.ins {H : Hp} {p C dx : Addr} {fs : List (Str × V)} {o : HO} (h : H p = some (.ins C dx fs)) : KeepU H (upd H p o) := fun b x e _ m => by
  have ne : b ≠ p := fun z => by
    subst z
    exact m _ _ _ (Option.some.inj (h.symm.trans e)).symm
  exact (upd_ne ne).trans e
theorem KeepU.seqT {K : PySem.W.Frag} {H G : Hp} {a : Addr} {xs : List V} (e : KeepU H G) (h : SqT K H a xs) : SqT K G a xs := by
  rcases h with (z | ⟨o, z⟩) | z
  · exact .inl (.inl (e _ _ z (by intro _ q; cases q) (by intro _ _ _ q; cases q)))
  · exact .inl (.inr ⟨o, e _ _ z (by intro _ q; cases q) (by intro _ _ _ q; cases q)⟩)
  · exact .inr z
theorem KeepU.dp {K : PySem.W.Frag} {H G : Hp} (e : KeepU H G) (d : PyData) (v : V) (n : noList d = true) (h : Dp K H v d) : Dp K G v d := dp_sq (fun _ _ z => e.seqT z) d v n h
theorem KeepU.dpAll {K : PySem.W.Frag} {H G : Hp} (e : KeepU H G) (ds : List PyData) (vs : List V) (n : noListAll ds = true) (h : DpAll K H vs ds) : DpAll K G vs ds := dpAll_sq (fun _ _ z => e.seqT z) ds vs n h
/-- all stands but what is in S; all but lists and instances stands -/
structure FrmU (S : List Addr) (H G : Hp) : Prop where
  ku : KeepU H G
  ks : ∀ b o, b ∉ S → H b = some o → G b = some o
theorem FrmU.of {S : List Addr} {H G : Hp} (f : Frm S H G) : FrmU S H G := ⟨.of f.kt, f.ks⟩
theorem FrmU.same {S : List Addr} {H G : Hp} (e : Same H G) : FrmU S H G := .of (.same e)
theorem FrmU.trans {S : List Addr} {H G J : Hp} (a : FrmU S H G) (b : FrmU S G J) : FrmU S H J := ⟨a.ku.trans b.ku, fun c o n h => b.ks c o n (a.ks c o n h)⟩
theorem FrmU.mono {S T : List Addr} {H G : Hp} (a : FrmU S H G) (h : ∀ x ∈ S, x ∈ T) : FrmU T H G := ⟨a.ku, fun b o n e => a.ks b o (fun z => n (h b z)) e⟩
theorem FrmU.ins {S : List Addr} {H : Hp} {p C dx : Addr} {fs : List (Str × V)} {o : HO} (h : H p = some (.ins C dx fs)) (m : p ∈ S) : FrmU S H (upd H p o) := ⟨.ins h, fun b x n e => (upd_ne fun z => n (by rw [z]; exact m)).trans e⟩
theorem Hv.frmU {h l : Addr} {S : List Addr} {H G : Hp} {L : List Int} {st : Int} (v : Hv H h l L st) (f : FrmU S H G) (n1 : h ∉ S) (n2 : l ∉ S) : Hv G h l L st :=
  ⟨f.ks _ _ n1 v.top, f.ks _ _ n2 v.bot, v.ne, v.lo, v.hi, v.len⟩
/-- for i, x in enumerate(list) -/
theorem for_enL {K : PySem.W.Frag} {a : Addr} {xs : List V} {g : TG} {tb : TS} {D : Ends} {σ : L2.St} {H : Hp} (Pv : Nat → L2.St → Hp → Prop) (h0 : Pv 0 σ H) (stay : ∀ i σ G, i ≤ xs.length → Pv i σ G → SqL K G a xs)
    (hs : ∀ i x T σ G, xs[i]? = some x → Pv i σ G → G T = none → g (.ref T) σ (upd G T (.tup [.int (i : Nat), x])) fun σ2 H2 => tb { D with nx := Pv (i + 1), ct := Pv (i + 1), bk := D.nx } σ2 H2) (hd : ∀ σ G, Pv xs.length σ G → D.nx σ G) :
    ∃ W : Nat → Nat → L2.St → Hp → Prop, (∃ m, W 0 m σ H) ∧ ∀ i m σ H, W i m σ H →
      ((Ite K a).stop i H ∧ D.nx σ H) ∨ ((Ite K a).go i H ∧ ∃ N : L2.St → Hp → Prop, (∀ σ' H', N σ' H' → ∃ m', m' < m ∧ W (i + 1) m' σ' H') ∧ ∀ v H', (Ite K a).yld i H v H' → g v σ H' fun σ2 H2 => tb { D with nx := N, ct := N, bk := D.nx } σ2 H2) := by
  refine ⟨fun i m σ G => m = xs.length - i ∧ i ≤ xs.length ∧ Pv i σ G, ⟨_, rfl, Nat.zero_le _, h0⟩, fun i m σ G hw => ?_⟩
  obtain ⟨rfl, hi, hp⟩ := hw
  have hq := stay i σ G hi hp
  by_cases hlt : i < xs.length
  · refine .inr ⟨⟨xs, xs[i], hq, List.getElem?_eq_getElem hlt⟩, Pv (i + 1), fun σ' G' hp' => ⟨_, by omega, rfl, hlt, hp'⟩, fun v G' hy => ?_⟩
    obtain ⟨T, x, rfl, hT, rfl, hx⟩ := hy
    exact hs i x T σ G (hx xs hq) hp hT
  · have e : i = xs.length := by omega
    subst e
    exact .inl ⟨⟨xs, hq, Nat.le_refl _⟩, hd σ G hp⟩
abbrev rLenQ (K : PySem.W.Frag) : List V → Hp → VK → Prop := fun xs H Q => ∃ p ys, xs = [.ref p] ∧ (SqL K H p ys ∨ SqT K H p ys) ∧ Q (.int ys.length) H
end Gd
/-! A try with several except clauses, each with a name, which let no error pass. -/
namespace Gd
open PySem PySem.Spec PyProof.Rows L2
/-- a clause: its class, the slot of its name, what its suite makes of an error -/
abbrev Clause := Value × Nat × (Addr → Value → Option Addr → TS)
/-- what clauses wish of an error: the first that fits gets it, and one fits -/
def wAll (K : PySem.W.Frag) (D : Ends) : List Clause → WX
  | [] => fun _ _ _ _ => False
  | c :: r => wAs K c.1 c.2.1 c.2.2 (wAll K D r) D
inductive ClsOk (X : Cx) : List ExceptHandler → List Clause → Prop
  | nil : ClsOk X [] []
  | cons {x n : Str} {c : Value} {i : Nat} {ts : Addr → Value → Option Addr → TS} {b : Stmt} {bs : List Stmt} {p q : Pos} {hs : List ExceptHandler} {l : List Clause} (nm : Names X x c) (hi : X.N[i]? = some n) (hl : X.env.kindOf n = some .local)
      (su : ∀ (a : Addr) (o : Obj) (cls : Value) (d : Option Addr) (pn : List (Addr × Obj)), Zc cls d o → (∃ vs, o.data = .fields vs) → PSs (X.suite a ((a, o) :: pn)) (b :: bs) (ts a cls d)) (r : ClsOk X hs l) :
      ClsOk X (.ExceptHandler (some (.Name x p)) (some n) (b :: bs) q :: hs) ((c, i, ts) :: l)
/-- an error that has come down to the clauses: t, the state without it -/
structure Down (X : Cx) (pins : List (Addr × Obj)) (σ : L2.St) (H : Hp) (t s : Shared) (a : Addr) (B : Heap) (cls : Value) (d : Option Addr) : Prop where
  I : Inv X pins σ H t
  nb : ∀ b o, t.heap.get? b = some o → b ∉ frs X.stack → B.get? b = some o
  up : t.heap.UpToSlots s.heap
  fl : HandSPX.FlyingZ B (X.env :: X.outer) a (Zc cls d) s.heap
  na : H a = none
  os : s.os = t.os
  ag : AllBare s.gens
section
variable {X : Cx} {pins : List (Addr × Obj)} {σ : L2.St} {H : Hp} {t s : Shared} {a : Addr} {B : Heap} {cls : Value} {d : Option Addr}
theorem Down.on (x : Down X pins σ H t s a B cls d) {h' : Heap} (fl : HandSPX.FlyingZ B (X.env :: X.outer) a (Zc cls d) h') (up : s.heap.UpToSlots h') : Down X pins σ H t { s with heap := h' } a B cls d :=
  ⟨x.I, x.nb, x.up.trans up, fl, x.na, x.os, x.ag⟩
theorem Down.inv (x : Down X pins σ H t s a B cls d) : Inv X pins σ H s := x.I.landed x.nb x.fl.1 x.up x.os x.ag
/-- the state in which the clauses look at it -/
theorem Down.held (x : Down X pins σ H t s a B cls d) (hf : X.env.frame = some X.env.locals) : ∃ o : Obj, s.heap.get? a = some o ∧ Zc cls d o ∧ (∃ vs, o.data = .fields vs) ∧ Inv (X.suite a ((a, o) :: (X.pn ++ pins))) [] σ H s := by
  obtain ⟨o, vs, e, z, dt⟩ := x.fl.there
  have off : a ∉ frs (X.env :: X.outer) := fun m => by
    obtain ⟨_, o2, e2, n⟩ := x.fl.2.2.1.mem m
    obtain rfl : o = o2 := Option.some.inj (e.symm.trans e2)
    exact n _ dt
  have at_ : ∀ {v : Env}, v ∈ X.env :: X.outer → v.frame ≠ some a := fun {v} m q => off (List.mem_filterMap.mpr ⟨v, m, q⟩)
  refine ⟨o, e, z, ⟨vs, dt⟩, x.inv.suite e dt x.na (fun q => at_ List.mem_cons_self (by rw [hf, q])) fun m => ?_⟩
  obtain ⟨v, hv, q⟩ := List.mem_filterMap.mp m
  exact at_ (List.mem_cons_of_mem _ hv) q
theorem clauses_go {hds : List ExceptHandler} {l : List Clause} {D : Ends} (hf : X.env.frame = some X.env.locals) (hN : X.N.Nodup) (ok : X.Ok) (k : ClsOk X hds l) (x : Down X pins σ H t s a B cls d) (w : wAll X.K D l cls d σ H) :
    wpAny (model X.prog X.w) X.A (handleBy (.ref a) X.env hds) (SP X pins D) X.xe s := by
  induction k with
  | nil => exact w.elim
  | @cons cn n c i ts b bs p q hs l nm hi hl su r ih =>
    obtain ⟨y, fit, yes, no⟩ := w
    obtain ⟨o, e, z, dt, S⟩ := x.held hf
    have fits := PySem.W.exm_one (M := model X.prog X.w) x.inv.kIn (fun A Q E s' k q => wpAny_typeOf_ref (k _ _ e) (by rw [z.1]; exact q)) fit
    have name : ∀ {Q E : Value → Shared → Prop}, Q c s → wpAny (model X.prog X.w) (X.A.mark (some (.ref a))) (eval (.Name cn p) X.env) Q E s := fun q => by
      rcases nm with ⟨g, g2, m | ⟨m, v, n3⟩⟩
      · exact ld_glob (X := X.suite a ((a, o) :: (X.pn ++ pins))) S g m q g2
      · exact ld_blt (X := X.suite a ((a, o) :: (X.pn ++ pins))) S g m v q n3 g2
    refine wpAny_handleBy_cons (codeAny_handlers_test (name (fits.here ?_))) (by intro q; cases q)
    cases y
    · exact ih (no rfl)
    refine codeAny_handlers_suite_as (HandSPX.lands_againZ x.fl fun h' fl up => ?_)
    have x2 := x.on fl up
    obtain ⟨o2, e2, z2, dt2, S2⟩ := x2.held hf
    refine store_ok (X := X.suite a ((a, o2) :: (X.pn ++ pins))) (v := .ref a) S2 hN hi (.inl hl) rfl (fun s3 S3 => ?_) (.inr hl)
    refine wpAny_mono ((su a o2 cls d (X.pn ++ pins) z2 dt2).run [] s3 _ H _ S3 (yes rfl a x.na)) (fun f s4 h4 => ?_) fun _ _ z => z.elim
    have away : ∀ {σ4 : L2.St} {H4 : Hp} {R : Shared → Prop}, Inv (X.suite a ((a, o2) :: (X.pn ++ pins))) [] σ4 H4 s4 → (∀ s5, Inv X pins (σ4.set i none) H4 s5 → R s5) → wpAny (model X.prog X.w) X.A (do bindName X.env n .none; unbindBehindTheSuite X.env n q) (fun _ s5 => R s5) X.xe s4 := fun S4 g => gone_ok (S4.unsuite ok) hN hi hl g
    rcases f with _ | u | _ | _
    · obtain ⟨_, _, S4, q4⟩ := h4
      exact away S4 fun _ J => ⟨_, _, J, q4⟩
    all_goals first
      | (obtain ⟨_, _, _, S4, r4, q4⟩ := h4; exact away S4 fun _ J => ⟨_, _, _, J, r4, q4⟩)
      | (obtain ⟨_, _, S4, q4⟩ := h4; exact away S4 fun _ J => ⟨_, _, J, q4⟩)
end
section
variable {X : Cx} {body : List Stmt} {hd : ExceptHandler} {hds : List ExceptHandler} {l : List Clause} {pos : Pos} {tb : WX → TS}
theorem ps_try_all (hs : X.stack = X.env :: X.outer) (hf : X.env.frame = some X.env.locals) (hN : X.N.Nodup) (k : ClsOk X (hd :: hds) l)
    (hb : ∀ (W : WX) (pn : List (Addr × Obj)) (xe : Value → Shared → Prop), Takes (X.tr pn xe) W → PassesOwn (model X.prog X.w) X.A X.env xe → PSs (X.tr pn xe) body (tb W)) :
    PS X (.Try body (hd :: hds) [] [] pos) fun D σ H => tb (wAll X.K D l) D σ H := by
  refine ⟨fun pins s σ H D I h => ?_⟩
  have ok := I.ok
  refine wpAny_Try_except (wpAny_mono ((hb (wAll X.K D l) (X.pn ++ pins) (fun e s1 => wpAny (model X.prog X.w) X.A (noteFrame e X.env) (fun _ s2 => wpAny (model X.prog X.w) X.A (setFlight e none) (fun _ s3 => wpAny (model X.prog X.w) X.A (handleBy e X.env (hd :: hds)) (SP X pins D) X.xe s3) X.xe s2) X.xe s1) ?_ PassesOwn.looking).run [] s σ H D (I.toTry _) h) ?_ fun _ _ z => z)
  · rintro u s' ⟨a, B, t, pins', σ', H', cls, d, rfl, J, nb, up, sky, na, os, ag, w⟩
    have sky' : Sky B (X.env :: X.outer) a (Zc cls d) X.env.locals s'.heap := hs ▸ sky
    have fr : X.A.frames = some (X.env :: X.outer) := ok.frames.trans (congrArg some hs)
    exact Sky.land Zc.steady fr hf sky' fun h3 fl up3 => clauses_go (t := t) hf hN ok k ⟨J.ofTry ok, nb, up.trans up3, fl, na, os, ag⟩ w
  · intro f s1 h1
    rcases f with _ | u | _ | _
    · obtain ⟨_, _, J, q⟩ := h1
      exact wpAny_execs_nil ⟨_, _, J.ofTry ok, q⟩
    all_goals first
      | (obtain ⟨_, _, _, J, r, q⟩ := h1; exact ⟨_, _, _, J.ofTry ok, r, q⟩)
      | (obtain ⟨_, _, J, q⟩ := h1; exact ⟨_, _, J.ofTry ok, q⟩)
end
end Gd
/-! A def that calls the lambda it got and tells of errors by several clauses with names: try: action() / except x as e: .. / except .. / return z. -/
namespace Gd
open PySem PySem.Spec PyProof.Rows L2
abbrev asEnds (D : Ends) (i : Nat) : Ends := { nx := fun σ' H' => D.nx (σ'.set i none) H', rt := D.rt, bk := fun σ' H' => D.bk (σ'.set i none) H', ct := fun σ' H' => D.ct (σ'.set i none) H' }
section
variable {K : PySem.W.Frag} {D : Ends} {c : Value} {i : Nat} {ts : Addr → Value → Option Addr → TS} {r : List Clause} {cls : Value} {d : Option Addr} {σ : L2.St} {H : Hp}
theorem wAll_hit (e : PySem.W.exmOne K cls c = some true) (h : ∀ a, H a = none → ts a cls d (asEnds D i) (σ.set i (some (.ref a))) H) : wAll K D ((c, i, ts) :: r) cls d σ H := ⟨true, e, fun _ => h, fun z => nomatch z⟩
theorem wAll_miss (e : PySem.W.exmOne K cls c = some false) (h : wAll K D r cls d σ H) : wAll K D ((c, i, ts) :: r) cls d σ H := ⟨false, e, fun z => (nomatch z), fun _ => h⟩
end
/-- what the def makes of the lambda: R of an error, zv without one -/
abbrev TTs (R : Value → Option Addr → Hp → VK → Prop) (zv : V) : (XK → Hp → VK → Prop) → Hp → VK → Prop := fun tl H Q => tl (fun cls d H' => R cls d H' Q) H fun _ H' => Q zv H'
theorem heards_gives {X : Cx} {Ng : List Str} {xg a q : Str} {sg : Scope} {g : Addr} {cdg : Value} {hd : ExceptHandler} {hds : List ExceptHandler} {l : List Clause} {z : Expr} {zv : V} {R : Value → Option Addr → Hp → VK → Prop} {p1 p2 p3 p6 p8 : Pos}
    (nd : Ng.Nodup) (hk : ∀ (s : Shared) (H : Hp), ClsOk (cxOf C8.CX0 X.prog X.w X.K X.mg X.base Ng xg sg g cdg X.A X.stack s H C8.E0).nox (hd :: hds) l) (hz : ∀ Y : Cx, PE Y z (tC zv))
    (h0 : ∀ f : Addr, (L2.start Ng [V.ref f])[0]? = some (some (V.ref f)))
    (hR : ∀ (D : Ends) (σ : L2.St) (cls : Value) (d : Option Addr) (H : Hp), σ.length = Ng.length → R cls d H D.rt → wAll X.K D l cls d σ H) :
    LamX.GivesTo X Ng xg sg g cdg [.Try [.Expr (.Call (.Name a p1) [] [] p2) p3] (hd :: hds) [] [] p6, .Return (some z) p8] a q (TTs R zv) := by
  intro f c' s H Q tl act hc h
  refine ⟨_, pss_cons (ps_try_all (X := (cxOf C8.CX0 X.prog X.w X.K X.mg X.base Ng xg sg g cdg X.A X.stack s H C8.E0).nox)
      (tb := fun W D σ H => ∃ En : XK, (∀ cls d σ' H', σ'.length = Ng.length → En cls d H' → W cls d σ' H') ∧ σ[0]? = some (some (.ref f)) ∧ H c' = some (LamX.CodeO c' q) ∧ tl En H fun _ H' => D.nx σ H')
      rfl rfl nd (hk s H) fun W pn xe tk _ => ⟨fun pins s' σ H' D I hh => ?_⟩) (pss_one (ps_ret (hz _))), ?_⟩
  · obtain ⟨En, hW, a1, a2, a3⟩ := hh
    exact (pss_one (ps_expr (act _ pn xe En p1 p2 (takes_len tk) fun cls d σ' H' he hl => hW cls d σ' H' hl he))).run pins s' σ H' D I ⟨a1, a2, a3⟩
  · exact ⟨fun cls d H' => R cls d H' Q, fun cls d σ' H' hl hr => hR _ σ' cls d H' hl hr, h0 f, hc, h⟩
end Gd
/-! Defs that hand lambdas over: their code object is told; what stands while tables grow. -/
namespace Gd
open PySem PySem.Spec PyProof.Rows L2
/-- a table of lambdas among those that are followed: of the code object c, its lambdas bear the name z -/
structure LamT (T : List (Addr × Str)) (base : Heap) (mg : Str → Option Value) (c P : Addr) (z : Str) : Prop where
  tb : LamX.TabB base mg c P
  mem : (P, z) ∈ T
  un : ∀ p ∈ T, p.1 = P → p.2 = z
theorem un_of {z : Str} {P : Addr} : ∀ {T : List (Addr × Str)}, (T.map (·.1)).Nodup → (P, z) ∈ T → ∀ p ∈ T, p.1 = P → p.2 = z
  | q :: r, n, m, p, hp, e => by
    rw [List.map_cons] at n
    obtain ⟨n1, n2⟩ := List.nodup_cons.mp n
    rcases List.mem_cons.mp m with m | m
    · rcases List.mem_cons.mp hp with hp | hp
      · rw [hp, ← m]
      · exact absurd (List.mem_map.mpr ⟨p, hp, by rw [e, ← m]⟩) n1
    · rcases List.mem_cons.mp hp with hp | hp
      · exact absurd (List.mem_map.mpr ⟨(P, z), m, by rw [← e, hp]⟩) n1
      · exact un_of n2 m p hp e
section
variable {P : Program} {w : World} {K : PySem.W.Frag} {mg : Str → Option Value} {base : Heap}
/-- a def of the text, by its body, its code object known -/
theorem okGC {x qual : Str} {st : Stmt} {f c : Addr} {fd : FuncData} {N ps : List Str} {k : Nat} {sp : Sp} (F : Fun K x qual st f fd) (hc : fd.code = .ref c) (S : FnScope N ps (defScope st))
    (len : ∀ xs H Q E, sp xs H Q E → xs.length = ps.length)
    (body : ∀ (A : Around) (out : List Env) (s : Shared) (H : Hp) (xs : List V) (Q : VK) (E : XK), RmG k (A.deeper (envOfC qual (defScope st) s.heap.objs.size f (.ref c))) → sp xs H Q E →
      ∃ t, PSs (cxOf CX0 P w K mg base N qual (defScope st) f (.ref c) A out s H E).nox (defBody st) t ∧ t { nx := fun _ G => Q .non G, rt := Q } (start N xs) H) : FnG P w K mg base (k + 1) f fd ps sp := by
  obtain ⟨oc, od, kV, doc, pm, an, cv, ct, osl, rfl, lk, hcd⟩ := F.ex
  obtain rfl : cv = .ref c := hc
  refine ⟨len, fun A out s H ar us xs Q E hr e0 hb rv hsp => ?_⟩
  have up : ∀ b o, base.get? b = some o → s.heap.get? b = some o := fun b o e => (e0.bs b o e).1
  have KX := e0.mod.kin.keeps up
  refine codeAny_call_function hr.rm.depth (KX _ _ lk) rfl S.co S.gen rfl (PySem.W.codeRec_of KX hcd) (hb _ _ _ _ (wpAny_newFunctionEnv_cells S.kind (fun y hy => ?_) fun env he s1 I1 => ?_))
  · exact (S.par y.1 (List.of_mem_zip hy).1).imp id fun q => ⟨q, PySem.W.cellsFrom_some _ _ _ (.inl q)⟩
  subst he
  refine ⟨(e0.mod.nolimit.keeps up).keeps I1.toInCall.keep, codeAny_func ?_⟩
  obtain ⟨t, ht, hq⟩ := body A out s H xs Q E ⟨hr.rm.deeper _, hr.gd⟩ hsp
  refine wpAny_mono (ht.nox.run [] s1 (start N xs) H _ (inv_start S hr.rm.hd e0 (len _ _ _ _ hsp) rv I1) hq) (fun fl s' hs => ?_) fun _ _ z => z
  rcases fl with _ | u | _ | _
  · obtain ⟨σ', G, J, q⟩ := hs; exact ⟨.non, G, J.os, J.bare, J.base, J.hok, rfl, q⟩
  all_goals first
    | (obtain ⟨v, σ', G, J, r1, q⟩ := hs; exact ⟨v, G, J.os, J.bare, J.base, J.hok, r1, q⟩)
    | exact (hs.choose_spec.choose_spec.2).elim
end
/-- what a lambda's body may raise is heard -/
theorem passX {X : Cx} {A : Around} {out : List Env} {s : Shared} {H : Hp} {E : XK} {sc : Scope} {f c' : Addr} : Passes (L2.CX X.prog X.w) (LamX.lamCx X A out s H E sc f c') E := passes_call (takes_of rfl rfl rfl rfl) fun _ _ _ _ h => h
/-- f(lambda: ..), f one that hears errors -/
theorem pe_lamT {X : Cx} {T : List (Addr × Str)} {TT : (XK → Hp → VK → Prop) → Hp → VK → Prop} {x a : Str} {g c P : Addr} {k : Nat} {st : Stmt} {fd : FuncData} {Ng : List Str} {params : Arguments} {body : Expr} {scope : Scope} {t : XK → TE} {p lpos pos : Pos}
    (F : Fun X.K x x st g fd) (b : Binds X.K fd [a] []) (hg : Gl X x) (hm : X.mg x = some (.ref g)) (S : FnScope Ng [a] (defScope st)) (h0 : Ng[0]? = some a) (hv : Vis (defScope st) a)
    (hG : ∀ cdv, LamX.GivesTo X Ng x (defScope st) g cdv (defBody st) a (X.env.qual ++ "<lambda>") TT) (L : LamT T X.base X.mg c P (X.env.qual ++ "<lambda>")) (hcode : X.env.code = .ref c) (hr : Room (k + 2) X.A) (hl : LamX.LamS X.env.scope scope)
    (hbody : ∀ (A : Around) (outer : List Env) (s : Shared) (H : Hp) (E : XK) (f c' : Addr), Room k (A.deeper (LamX.lamEnv X scope s.heap.objs.size f c')) → PE (LamX.lamCx X A outer s H E scope f c') body (t E))
    (hdef : defaultsOf params X.env = ([], []) := by rfl) (hbind : ∀ (q : Str) (cl : List (Str × Addr)) (pm cv ctv : Value), bindArgs (PySem.W.kla_fn "<lambda>" q params body scope cl pm cv ctv) ⟨[], []⟩ = pure [] := by intros; rfl)
    (hdb : (x == ("__debug__" : Str)) = false := by decide) (hd : (a == ("__debug__" : Str)) = false := by decide) (hcd : (a == ("__classdict__" : Str)) = false := by decide) :
    PE X (.Call (.Name x p) [.Lambda params body scope lpos] [] pos) (LamX.tLam T TT t) := by
  obtain ⟨oc, od, kV, doc, pm, an, cdv, ct, osl, rfl, lk, hc⟩ := F.ex
  exact LamX.pe_lamcall hg hm F.kp lk hc b S h0 hv (hG cdv) L.tb hcode L.mem L.un hr hl hdef hbind hbody hdb hd hcd
end Gd
/-! Values told by a property that new objects leave as it is; n copies of a text. -/
namespace Gd
open PySem PySem.Spec PyProof.Rows L2
/-- an expression's value has R, and nothing but new objects came -/
def Gp (σ : L2.St) (H : Hp) (t : TE) (R : Hp → V → Prop) : Prop := ∀ Q : VK, (∀ v G, Same H G → R G v → Q v G) → t σ H Q
def GpA (σ : L2.St) (H : Hp) (t : TA) (R : Hp → V → Prop) (n : Nat) : Prop := ∀ Q : List V → Hp → Prop, (∀ vs G, Same H G → vs.length = n → (∀ v ∈ vs, R G v) → Q vs G) → t σ H Q
theorem asg_go {te : TE} {g : TG} {u : TS} {D : Ends} {σ : L2.St} {H : Hp} (h : te σ H fun x H1 => g x σ H1 fun σ' G' => u D σ' G') : tSeq (tAsg te g) u D σ H := h
theorem ifS_go {c : TT} {t u : TS} {D : Ends} {σ : L2.St} {H : Hp} (h : c σ H fun b H1 => if b = true then t D σ H1 else u D σ H1) : tIfS c t u D σ H := h
theorem seq_go {t u : TS} {D : Ends} {σ : L2.St} {H : Hp} (h : t { D with nx := fun σ' G' => u D σ' G' } σ H) : tSeq t u D σ H := h
theorem ret_go {te : TE} {u : TS} {D : Ends} {σ : L2.St} {H : Hp} (h : te σ H D.rt) : tSeq (tRet te) u D σ H := h
/-- repr(a) == repr(b) and c == d, all as is due -/
theorem re_eq_and {K : PySem.W.Frag} {σ : L2.St} {H : Hp} {t1 t2 t3 t4 : TE} {ds : List PyData} (nl : noList (.tuple ds) = true) (hd : Fd (.tuple ds)) (h1 : Gv K σ H t1 (.tuple ds)) (h2 : ∀ G, Same H G → Gv K σ G t2 (.tuple ds)) (h3 : ∀ G, Same H G → Gv K σ G t3 (.tuple ds)) (h4 : ∀ G, Same H G → Gv K σ G t4 (.tuple ds))
    {Q : VK} (hQ : ∀ G, Same H G → Q (.bl true) G) : tAndV (tOp rEq (tRe K t1) (tRe K t2)) (tOp (rEqD K) t3 t4) σ H Q := by
  refine re_gv hd h1 _ fun G1 s1 => re_gv hd (h2 G1 s1) _ fun G2 s2 => ⟨rfl, _, rfl, ?_⟩
  rw [decide_eq_true rfl]
  have s12 := s1.trans s2
  refine iteT (h3 G2 s12 _ fun v3 G3 s3 d3 => h4 G3 (s12.trans s3) _ fun v4 G4 s4 d4 => ⟨_, _, dp_same s4 _ _ d3, d4, hd.sh, hd.sh, ?_⟩)
  rw [fine_eqv hd.f]
  exact hQ _ ((s12.trans s3).trans s4)
theorem cons_go {te : TE} {ta : TA} {σ : L2.St} {H : Hp} {Q : List V → Hp → Prop} (h : te σ H fun x H1 => ta σ H1 fun xs H2 => Q (x :: xs) H2) : tCons te ta σ H Q := h
theorem lst_go {ta : TA} {σ : L2.St} {H : Hp} {Q : VK} (h : ta σ H fun xs H1 => xs.length ≤ sizeLine ∧ ∀ p, H1 p = none → Q (.ref p) (upd H1 p (.lst xs))) : tLst ta σ H Q := h
theorem cb_go {r : List V → Hp → VK → Prop} {ta : TA} {σ : L2.St} {H : Hp} {Q : VK} (h : ta σ H fun xs H1 => r xs H1 Q) : tCB r ta σ H Q := h
theorem op_go {r : R2} {ta tb : TE} {σ : L2.St} {H : Hp} {Q : VK} (h : ta σ H fun x H1 => tb σ H1 fun y H2 => r x y H2 Q) : tOp r ta tb σ H Q := h
theorem test_go {te : TE} {σ : L2.St} {H : Hp} {Q : Bool → Hp → Prop} (h : te σ H fun x H1 => ∃ k, x = .bl k ∧ Q k H1) : tTest te σ H Q := h
theorem gv_lst {K : PySem.W.Frag} {σ : L2.St} {H : Hp} {ta : TA} {ds : List PyData} (h : GvA K σ H ta ds) (l : Nat.ble ds.length 1000 = true := by rfl) : Gv K σ H (tLst ta) (.list ds) := fun Q q => h _ fun vs G s d => ⟨by
  have e := dpAll_len d
  have := Nat.le_of_ble_eq_true l
  have : (1000 : Nat) ≤ sizeLine := by decide
  omega, fun p n => q _ _ (s.trans (same_new n)) (.lst (sqL upd_same) (dpAll_same (same_new n) _ _ d))⟩
theorem neD_no {K : PySem.W.Frag} {σ : L2.St} {H : Hp} {t1 t2 : TE} {d : PyData} (sh : SeqAt.shaped d = true) (f : fine d = true) (h1 : Gv K σ H t1 d) (h2 : ∀ G, Same H G → Gv K σ G t2 d) {B : Bool → Hp → Prop} (hB : ∀ G, Same H G → B false G) : tTest (tOp (rNeD K) t1 t2) σ H B := by
  refine h1 _ fun v1 G1 s1 d1 => h2 G1 s1 _ fun v2 G2 s2 d2 => ⟨d, d, dp_same s2 _ _ d1, d2, sh, sh, _, rfl, ?_⟩
  rw [fine_eqv f]
  exact hB _ (s1.trans s2)
theorem eqD_yes {K : PySem.W.Frag} {σ : L2.St} {H : Hp} {t1 t2 : TE} {d : PyData} (sh : SeqAt.shaped d = true) (f : fine d = true) (h1 : Gv K σ H t1 d) (h2 : ∀ G, Same H G → Gv K σ G t2 d) {Q : VK} (hQ : ∀ G, Same H G → Q (.bl true) G) : tOp (rEqD K) t1 t2 σ H Q := by
  refine h1 _ fun v1 G1 s1 d1 => h2 G1 s1 _ fun v2 G2 s2 d2 => ⟨d, d, dp_same s2 _ _ d1, d2, sh, sh, ?_⟩
  rw [fine_eqv f]
  exact hQ _ (s1.trans s2)
theorem and_go {ta tb : TE} {σ : L2.St} {H : Hp} {Q : VK} (h : ta σ H fun x H1 => ∃ c, x = .bl c ∧ if c = true then tb σ H1 Q else Q (.bl false) H1) : tAndV ta tb σ H Q := h
theorem or_go {t u : TT} {σ : L2.St} {H : Hp} {Q : Bool → Hp → Prop} (h : t σ H fun b H1 => if b = true then Q true H1 else u σ H1 Q) : tOr t u σ H Q := h
def Stb (R : Hp → V → Prop) : Prop := ∀ G G' v, Same G G' → R G v → R G' v
theorem gpA_nil {σ : L2.St} {H : Hp} {R : Hp → V → Prop} : GpA σ H tNil R 0 := fun Q q => q _ _ (Same.refl _) rfl fun v m => nomatch m
theorem gpA_cons {σ : L2.St} {H : Hp} {R : Hp → V → Prop} {t : TE} {ta : TA} {n : Nat} (S : Stb R) (h1 : Gp σ H t R) (h2 : ∀ G, Same H G → GpA σ G ta R n) : GpA σ H (tCons t ta) R (n + 1) := fun Q q => by
  refine h1 _ fun v G s r => ?_
  refine h2 G s _ fun vs G2 s2 l r2 => q _ _ (s.trans s2) (by rw [List.length_cons, l]) fun x m => ?_
  rcases List.mem_cons.mp m with e | m
  · rw [e]
    exact S _ _ _ s2 r
  · exact r2 x m
theorem gp_c {σ : L2.St} {H : Hp} {R : Hp → V → Prop} {v : V} (r : R H v) : Gp σ H (tC v) R := fun Q q => q _ _ (Same.refl _) r
theorem gp_v {σ : L2.St} {H : Hp} {R : Hp → V → Prop} {i : Nat} {v : V} (e : σ[i]? = some (some v)) (r : R H v) : Gp σ H (tVar i) R := fun Q q => ⟨v, e, q _ _ (Same.refl _) r⟩
/-- a display of n such values -/
theorem gp_lst {σ : L2.St} {H : Hp} {R : Hp → V → Prop} {ta : TA} {n : Nat} (hn : n ≤ 1000) (h : GpA σ H ta R n) (S : Stb R) {Q : VK} (q : ∀ p vs G, Same H G → G p = some (.lst vs) → H p = none → vs.length = n → (∀ v ∈ vs, R G v) → Q (.ref p) G) : tLst ta σ H Q := by
  refine h _ fun vs G s l r => ⟨?_, fun p np => ?_⟩
  · have : (1000 : Nat) ≤ sizeLine := by decide
    omega
  · exact q p vs _ (s.trans (same_new np)) upd_same (s.free np) l fun v m => S _ _ _ (same_new np) (r v m)
section
variable {X : Cx}
/-- a text of one sign, n times -/
theorem op_mulS : OpR X (binaryOp .Mult) (fun x y H Q => ∃ (z : Str) (n : Nat), x = .str z ∧ y = .int (n : Int) ∧ z.length = 1 ∧ n ≤ 1000 ∧ ∀ z', Q (.str z') H) := by
  intro pins s σ H x y v u Q I rx ry h
  obtain ⟨z, n, rfl, rfl, l, hn, q⟩ := h
  obtain ⟨t, rfl⟩ := rx
  obtain ⟨t2, rfl⟩ := ry
  refine SB.mul ⟨?_, fun _ _ => ?_, fun _ _ => ?_⟩ fun t' k => ⟨.str _, H, I.tok _, ⟨_, rfl⟩, q _⟩
  · rw [decide_eq_false (by omega), decide_eq_false (by omega)]
    rfl
  · rw [l]
    rename_i h1 _
    have : (1 : Int) ≤ (2 ^ 63 - 1) / (n : Int) := (Int.le_ediv_iff_mul_le (by omega)).mpr (by omega)
    show ¬ ((1 : Nat) : Int) > _
    omega
  · rw [l]
    have : (1000 : Nat) ≤ sizeLine := by decide
    exact decide_eq_false (by omega)
end
end Gd
/-! set(t), t a tuple of ints -/
namespace Gd
open PySem PySem.Spec PyProof.Rows L2
def rSetTI (w : World) (K : PySem.W.Frag) : List V → Hp → VK → Prop := fun xs H Q => ∃ (l : Addr) (ns : List Int), xs = [.ref l] ∧ SqT K H l (ns.map V.int) ∧ ns.length ≤ 1000 ∧
  ∀ (p : Addr) (c : Nat), H p = none → c ≤ ns.length → Q (.ref p) (upd H p (SetO w p (fun j => decide (j ∈ ns)) c))
theorem cr_setTI {X : Cx} (hc : X.calm = true) : CallR X (.type "set") (rSetTI X.w X.K) := by
  intro pins s σ H xs us Q I r h
  obtain ⟨l, ns, rfl, hq, hl, fin⟩ := h
  obtain ⟨its, rv, pl, _⟩ := I.tuple hq
  rw [Vals.ref1 r]
  refine call_set_tupI (P := X.prog) (w := X.w) ns (I.ok.hd hc) (show s.heap.IsTuple l its.toArray from pl) (by simpa using intsAre_of rv) (by unfold scanBound; omega) fun g tk c hS cn hk => ?_
  exact ⟨.ref s.heap.objs.size, _, I.laid hk (Nat.le_refl _) (setO_new hS), rfl, fin _ c (I.hok.fresh (Nat.le_refl _)) cn⟩
end Gd
/-! Written tables that stand. -/
namespace Gd
open PySem PySem.Spec PyProof.Rows L2
instance : ∀ l, Decidable (AscS l) := fun l => by unfold AscS; infer_instance
instance : ∀ l, Decidable (AscI l) := fun l => by unfold AscI; infer_instance
def nmB (z : Str) : Bool := decide (1 ≤ z.length) && decide (z.length ≤ 8) && z.cps.toList.all fun c => decide (97 ≤ c ∧ c ≤ 122)
theorem nmB_of {z : Str} (h : nmB z = true) : Nm z := by
  unfold nmB at h
  rw [Bool.and_eq_true, Bool.and_eq_true] at h
  obtain ⟨⟨h1, h2⟩, h3⟩ := h
  exact ⟨⟨of_decide_eq_true h1, of_decide_eq_true h2⟩, fun c hc => of_decide_eq_true (p := 97 ≤ c ∧ c ≤ 122) (List.all_eq_true.mp h3 c hc)⟩
def okB (t : TD) : Bool := decide (1 ≤ t.kinds.length) && decide (t.kinds.length ≤ 8) && t.kinds.all nmB && decide (AscS t.kinds) && decide (t.types.length ≤ 12) && (t.types.all fun p => nmB p.1) && decide (AscS (t.types.map (·.1))) &&
  (t.types.all fun p => decide (AscI p.2)) && t.types.all fun p => p.2.all fun n => decide (0 ≤ n ∧ n < (t.kinds.length : Int))
theorem okB_of {t : TD} (h : okB t = true) : TOk t := by
  unfold okB at h
  simp only [Bool.and_eq_true, List.all_eq_true, decide_eq_true_eq] at h
  obtain ⟨⟨⟨⟨⟨⟨⟨⟨h1, h2⟩, h3⟩, h4⟩, h5⟩, h6⟩, h7⟩, h8⟩, h9⟩ := h
  exact ⟨h1, h2, fun z hz => nmB_of (h3 z hz), h4, h5, fun p hp => nmB_of (h6 p hp), h7, h8, fun p hp n hn => h9 p hp n hn⟩
end Gd
namespace K20
open PySem PySem.Spec PyProof.Rows L2 Gd
def topS (i : Nat) : Stmt := PySem.Challenge.pw_neverregret_k20_whole_least_kinds_and_wr.main.body.getD i (.Pass ⟨0, 0, 0, 0⟩)
abbrev s_is_number : Stmt := topS 4
abbrev n_is_number : List Str := ["value"]
theorem sc_is_number : FnScope n_is_number ["value"] (defScope s_is_number) := ⟨rfl, rfl, rfl, by decide +kernel, rfl, by decide +kernel, by decide +kernel⟩
abbrev s_is_number_below : Stmt := topS 5
abbrev n_is_number_below : List Str := ["value", "limit"]
theorem sc_is_number_below : FnScope n_is_number_below ["value", "limit"] (defScope s_is_number_below) := ⟨rfl, rfl, rfl, by decide +kernel, rfl, by decide +kernel, by decide +kernel⟩
abbrev s_is_name : Stmt := topS 6
abbrev n_is_name : List Str := ["value", "sign"]
theorem sc_is_name : FnScope n_is_name ["value"] (defScope s_is_name) := ⟨rfl, rfl, rfl, by decide +kernel, rfl, by decide +kernel, by decide +kernel⟩
abbrev s_is_tuple_of : Stmt := topS 7
abbrev n_is_tuple_of : List Str := ["value", "length"]
theorem sc_is_tuple_of : FnScope n_is_tuple_of ["value", "length"] (defScope s_is_tuple_of) := ⟨rfl, rfl, rfl, by decide +kernel, rfl, by decide +kernel, by decide +kernel⟩
abbrev s_is_ascending : Stmt := topS 8
abbrev n_is_ascending : List Str := ["items", "at"]
theorem sc_is_ascending : FnScope n_is_ascending ["items"] (defScope s_is_ascending) := ⟨rfl, rfl, rfl, by decide +kernel, rfl, by decide +kernel, by decide +kernel⟩
abbrev s_are_numbers_below : Stmt := topS 9
abbrev n_are_numbers_below : List Str := ["value", "limit", "item"]
theorem sc_are_numbers_below : FnScope n_are_numbers_below ["value", "limit"] (defScope s_are_numbers_below) := ⟨rfl, rfl, rfl, by decide +kernel, rfl, by decide +kernel, by decide +kernel⟩
abbrev s_is_lot_below : Stmt := topS 10
abbrev n_is_lot_below : List Str := ["value", "limit"]
theorem sc_is_lot_below : FnScope n_is_lot_below ["value", "limit"] (defScope s_is_lot_below) := ⟨rfl, rfl, rfl, by decide +kernel, rfl, by decide +kernel, by decide +kernel⟩
abbrev s_is_lot_of_names : Stmt := topS 11
abbrev n_is_lot_of_names : List Str := ["value", "item"]
theorem sc_is_lot_of_names : FnScope n_is_lot_of_names ["value"] (defScope s_is_lot_of_names) := ⟨rfl, rfl, rfl, by decide +kernel, rfl, by decide +kernel, by decide +kernel⟩
abbrev s_InvalidTable_init : Stmt := inClass (topS 14) 0
abbrev n_InvalidTable_init : List Str := ["self", "at"]
theorem sc_InvalidTable_init : FnScope n_InvalidTable_init ["self", "at"] (defScope s_InvalidTable_init) := ⟨rfl, rfl, rfl, by decide +kernel, rfl, by decide +kernel, by decide +kernel⟩
abbrev s_InvalidRow_init : Stmt := inClass (topS 15) 0
abbrev n_InvalidRow_init : List Str := ["self", "at"]
theorem sc_InvalidRow_init : FnScope n_InvalidRow_init ["self", "at"] (defScope s_InvalidRow_init) := ⟨rfl, rfl, rfl, by decide +kernel, rfl, by decide +kernel, by decide +kernel⟩
abbrev s_Refused_init : Stmt := inClass (topS 16) 0
abbrev n_Refused_init : List Str := ["self", "word"]
theorem sc_Refused_init : FnScope n_Refused_init ["self", "word"] (defScope s_Refused_init) := ⟨rfl, rfl, rfl, by decide +kernel, rfl, by decide +kernel, by decide +kernel⟩
abbrev s_units_in : Stmt := topS 18
abbrev n_units_in : List Str := ["stock", "kinds", "kind"]
theorem sc_units_in : FnScope n_units_in ["stock", "kinds"] (defScope s_units_in) := ⟨rfl, rfl, rfl, by decide +kernel, rfl, by decide +kernel, by decide +kernel⟩
abbrev s_Table_init : Stmt := inClass (topS 20) 0
abbrev n_Table_init : List Str := ["self", "kinds", "types", "at", "item"]
theorem sc_Table_init : FnScope n_Table_init ["self", "kinds", "types"] (defScope s_Table_init) := ⟨rfl, rfl, rfl, by decide +kernel, rfl, by decide +kernel, by decide +kernel⟩
abbrev s_Table_eq : Stmt := inClass (topS 20) 1
abbrev n_Table_eq : List Str := ["self", "other"]
theorem sc_Table_eq : FnScope n_Table_eq ["self", "other"] (defScope s_Table_eq) := ⟨rfl, rfl, rfl, by decide +kernel, rfl, by decide +kernel, by decide +kernel⟩
abbrev s_is_type_pair : Stmt := topS 21
abbrev n_is_type_pair : List Str := ["value", "many_kinds"]
theorem sc_is_type_pair : FnScope n_is_type_pair ["value", "many_kinds"] (defScope s_is_type_pair) := ⟨rfl, rfl, rfl, by decide +kernel, rfl, by decide +kernel, by decide +kernel⟩
abbrev s_accepted : Stmt := topS 22
abbrev n_accepted : List Str := ["table", "request"]
theorem sc_accepted : FnScope n_accepted ["table", "request"] (defScope s_accepted) := ⟨rfl, rfl, rfl, by decide +kernel, rfl, by decide +kernel, by decide +kernel⟩
abbrev s_takers : Stmt := topS 23
abbrev n_takers : List Str := ["table", "kind"]
theorem sc_takers : FnScope n_takers ["table", "kind"] (defScope s_takers) := ⟨rfl, rfl, rfl, by decide +kernel, rfl, by decide +kernel, by decide +kernel⟩
abbrev s_types_of_kinds : Stmt := topS 24
abbrev n_types_of_kinds : List Str := ["table", "kinds", "found", "request", "_", "lot", "kind"]
theorem sc_types_of_kinds : FnScope n_types_of_kinds ["table", "kinds"] (defScope s_types_of_kinds) := ⟨rfl, rfl, rfl, by decide +kernel, rfl, by decide +kernel, by decide +kernel⟩
abbrev s_offered_kinds : Stmt := topS 26
abbrev n_offered_kinds : List Str := ["table", "stock", "request", "kind"]
theorem sc_offered_kinds : FnScope n_offered_kinds ["table", "stock", "request"] (defScope s_offered_kinds) := ⟨rfl, rfl, rfl, by decide +kernel, rfl, by decide +kernel, by decide +kernel⟩
abbrev s_least_kinds : Stmt := topS 27
abbrev n_least_kinds : List Str := ["table", "stock", "request", "offered", "kind"]
theorem sc_least_kinds : FnScope n_least_kinds ["table", "stock", "request"] (defScope s_least_kinds) := ⟨rfl, rfl, rfl, by decide +kernel, rfl, by decide +kernel, by decide +kernel⟩
abbrev s_lacking_taker : Stmt := topS 28
abbrev n_lacking_taker : List Str := ["table", "kind", "others", "request", "other"]
theorem sc_lacking_taker : FnScope n_lacking_taker ["table", "kind", "others"] (defScope s_lacking_taker) := ⟨rfl, rfl, rfl, by decide +kernel, rfl, by decide +kernel, by decide +kernel⟩
abbrev s_wrong_row : Stmt := topS 29
abbrev n_wrong_row : List Str := ["table", "stock", "request", "kind", "offered", "taker"]
theorem sc_wrong_row : FnScope n_wrong_row ["table", "stock", "request", "kind"] (defScope s_wrong_row) := ⟨rfl, rfl, rfl, by decide +kernel, rfl, by decide +kernel, by decide +kernel⟩
abbrev s__law_heap : Stmt := topS 31
abbrev n__law_heap : List Str := ["script", "cell", "cells", "stir"]
theorem sc__law_heap : FnScope n__law_heap ["script"] (defScope s__law_heap) := ⟨rfl, rfl, rfl, by decide +kernel, rfl, by decide +kernel, by decide +kernel⟩
abbrev s__law_draw : Stmt := topS 32
abbrev n__law_draw : List Str := ["heap", "many", "rest"]
theorem sc__law_draw : FnScope n__law_draw ["heap", "many"] (defScope s__law_draw) := ⟨rfl, rfl, rfl, by decide +kernel, rfl, by decide +kernel, by decide +kernel⟩
abbrev s__law_pick : Stmt := topS 33
abbrev n__law_pick : List Str := ["heap", "some"]
theorem sc__law_pick : FnScope n__law_pick ["heap", "some"] (defScope s__law_pick) := ⟨rfl, rfl, rfl, by decide +kernel, rfl, by decide +kernel, by decide +kernel⟩
abbrev s__law_shuffled : Stmt := topS 34
abbrev n__law_shuffled : List Str := ["heap", "some", "left", "found", "turn"]
theorem sc__law_shuffled : FnScope n__law_shuffled ["heap", "some"] (defScope s__law_shuffled) := ⟨rfl, rfl, rfl, by decide +kernel, rfl, by decide +kernel, by decide +kernel⟩
abbrev s__law_names : Stmt := topS 35
abbrev n__law_names : List Str := ["heap", "many", "letters", "front", "first", "found", "at"]
theorem sc__law_names : FnScope n__law_names ["heap", "many"] (defScope s__law_names) := ⟨rfl, rfl, rfl, by decide +kernel, rfl, by decide +kernel, by decide +kernel⟩
abbrev s__law_lots : Stmt := topS 36
abbrev n__law_lots : List Str := ["heap", "kinds", "types", "found", "turn", "share", "lot", "kind"]
theorem sc__law_lots : FnScope n__law_lots ["heap", "kinds", "types"] (defScope s__law_lots) := ⟨rfl, rfl, rfl, by decide +kernel, rfl, by decide +kernel, by decide +kernel⟩
abbrev s__law_table : Stmt := topS 37
abbrev n__law_table : List Str := ["heap", "kinds", "lots"]
theorem sc__law_table : FnScope n__law_table ["heap", "kinds", "lots"] (defScope s__law_table) := ⟨rfl, rfl, rfl, by decide +kernel, rfl, by decide +kernel, by decide +kernel⟩
abbrev s__law_subsets : Stmt := topS 38
abbrev n__law_subsets : List Str := ["items", "found", "item", "part"]
theorem sc__law_subsets : FnScope n__law_subsets ["items"] (defScope s__law_subsets) := ⟨rfl, rfl, rfl, by decide +kernel, rfl, by decide +kernel, by decide +kernel⟩
abbrev s__law_most : Stmt := topS 39
abbrev n__law_most : List Str := ["lots", "stock", "row", "best", "part", "units", "number", "kind", "request"]
theorem sc__law_most : FnScope n__law_most ["lots", "stock", "row"] (defScope s__law_most) := ⟨rfl, rfl, rfl, by decide +kernel, rfl, by decide +kernel, by decide +kernel⟩
abbrev s__law_forest_lots : Stmt := topS 40
abbrev n__law_forest_lots : List Str := ["heap", "kinds", "types", "above", "homes", "found", "at", "turn", "place", "way", "step", "kind"]
theorem sc__law_forest_lots : FnScope n__law_forest_lots ["heap", "kinds", "types"] (defScope s__law_forest_lots) := ⟨rfl, rfl, rfl, by decide +kernel, rfl, by decide +kernel, by decide +kernel⟩
abbrev s__law_takers : Stmt := topS 41
abbrev n__law_takers : List Str := ["lots", "kind", "number"]
theorem sc__law_takers : FnScope n__law_takers ["lots", "kind"] (defScope s__law_takers) := ⟨rfl, rfl, rfl, by decide +kernel, rfl, by decide +kernel, by decide +kernel⟩
abbrev s__law_inside : Stmt := topS 42
abbrev n__law_inside : List Str := ["one", "other", "item"]
theorem sc__law_inside : FnScope n__law_inside ["one", "other"] (defScope s__law_inside) := ⟨rfl, rfl, rfl, by decide +kernel, rfl, by decide +kernel, by decide +kernel⟩
abbrev s__law_least : Stmt := topS 43
abbrev n__law_least : List Str := ["lots", "left", "request", "kind", "some", "found", "mine", "other"]
theorem sc__law_least : FnScope n__law_least ["lots", "left", "request"] (defScope s__law_least) := ⟨rfl, rfl, rfl, by decide +kernel, rfl, by decide +kernel, by decide +kernel⟩
abbrev s__law_heard : Stmt := topS 44
abbrev n__law_heard : List Str := ["action", "error"]
theorem sc__law_heard : FnScope n__law_heard ["action"] (defScope s__law_heard) := ⟨rfl, rfl, rfl, by decide +kernel, rfl, by decide +kernel, by decide +kernel⟩
abbrev s__law_less : Stmt := topS 45
abbrev n__law_less : List Str := ["left", "kind"]
theorem sc__law_less : FnScope n__law_less ["left", "kind"] (defScope s__law_less) := ⟨rfl, rfl, rfl, by decide +kernel, rfl, by decide +kernel, by decide +kernel⟩
abbrev s__law_all_regret : Stmt := topS 46
abbrev n__law_all_regret : List Str := ["lots", "stock", "request", "kind", "row", "lefts", "served", "other", "longer", "left", "some"]
theorem sc__law_all_regret : FnScope n__law_all_regret ["lots", "stock", "request", "kind", "row"] (defScope s__law_all_regret) := ⟨rfl, rfl, rfl, by decide +kernel, rfl, by decide +kernel, by decide +kernel⟩
abbrev s__law_is_row : Stmt := topS 47
abbrev n__law_is_row : List Str := ["lots", "value", "item"]
theorem sc__law_is_row : FnScope n__law_is_row ["lots", "value"] (defScope s__law_is_row) := ⟨rfl, rfl, rfl, by decide +kernel, rfl, by decide +kernel, by decide +kernel⟩
abbrev s__law_later_right : Stmt := topS 48
abbrev n__law_later_right : List Str := ["heap", "lots", "stock", "some", "kind", "row", "mine", "turn", "other"]
theorem sc__law_later_right : FnScope n__law_later_right ["heap", "lots", "stock", "some", "kind"] (defScope s__law_later_right) := ⟨rfl, rfl, rfl, by decide +kernel, rfl, by decide +kernel, by decide +kernel⟩
abbrev s__law_request_right : Stmt := topS 49
abbrev n__law_request_right : List Str := ["heap", "table", "lots", "stock", "request", "forest", "kind", "some", "due", "row", "odd", "value"]
theorem sc__law_request_right : FnScope n__law_request_right ["heap", "table", "lots", "stock", "request", "forest"] (defScope s__law_request_right) := ⟨rfl, rfl, rfl, by decide +kernel, rfl, by decide +kernel, by decide +kernel⟩
abbrev s_law : Stmt := topS 50
abbrev n_law : List Str := ["script", "heap", "turn", "kinds", "types", "forest", "lots", "stock", "table", "request", "cross", "row", "at"]
theorem sc_law : FnScope n_law ["script"] (defScope s_law) := ⟨rfl, rfl, rfl, by decide +kernel, rfl, by decide +kernel, by decide +kernel⟩
end K20
namespace K20
open PySem PySem.Spec PyProof.Rows L2 Gd
section
variable {P : Program} {w : World} {K : PySem.W.Frag} {mg : Str → Option Value} {base : Heap}
def spDraw : Sp := fun vs H Q _ => ∃ (h l : Addr) (L : List Int) (st m : Int), vs = [.ref h, .int m] ∧ Hv H h l L st ∧ 0 < m ∧ m < 1000000000 ∧
  ∀ G L' st' r, But h l H G → Hv G h l L' st' → 0 ≤ r → r < m → Q (.int r) G
theorem ok_draw {f : Addr} {fd : FuncData} {k : Nat} (F : Fun K "_law_draw" "_law_draw" s__law_draw f fd) (mi : mg "int" = none) : FnOk P w K mg base CX0 (k + 1) f fd ["heap", "many"] spDraw := by
  refine F.ok sc__law_draw (fun vs H Q E h => ?_) (fun cdv A outer s H vs Q E hr h => ?_)
  · obtain ⟨h, l, L, st, m, rfl, _⟩ := h
    rfl
  · obtain ⟨h, l, L, st, m, rfl, hv, h0, h1, q⟩ := h
    refine ⟨_, pss_cons (ps_while PassesOwn.never (PW.pt (pw_and (pt_cmpR (op_neD hr.units) (pe_ix ix_list (pv 0) pe_int (fun _ _ => rfl)) (pe_lst pa_nil) (nomark _))
        (pw_and1 (pt_cmpR op_eq (pe_ix ix_list (pe_ix ix_list (pv 0) pe_int (fun _ _ => rfl)) (pe_un un_neg pe_int) (fun _ _ => rfl)) pe_int (nomark _)))))
        (pss_one (ps_expr (pe_bm0 PySem.F.plainAttrs_list PySem.F.slot_list_pop PySem.F.type_list_pop mt_pop (pe_ix ix_list (pv 0) pe_int (fun _ _ => rfl))))))
      (pss_cons (ps_if (pt_cmpR (op_neD hr.units) (pe_ix ix_list (pv 0) pe_int (fun _ _ => rfl)) (pe_lst pa_nil) (nomark _))
        (pss_cons (ps_set (i := 2) sc__law_draw.nd rfl (.inl rfl) (pe_bm0 PySem.F.plainAttrs_list PySem.F.slot_list_pop PySem.F.type_list_pop mt_pop (pe_ix ix_list (pv 0) pe_int (fun _ _ => rfl))))
          (pss_cons (ps_expr (pe_bm PySem.F.plainAttrs_list PySem.F.slot_list_append PySem.F.type_list_append mt_append (pe_ix ix_list (pv 0) pe_int (fun _ _ => rfl)) (pa_cons (pe_op op_fdivN (pv 2) (pv 1)) pa_nil)))
            (pss_one (ps_ret (pe_op op_mod (pe_callTy call_int1 (by rfl) mi (by decide +kernel) (pa_cons (pv 2) pa_nil)) (pv 1)))))) pss_nil)
      (pss_cons (ps_asg (pe_op op_mod (pe_callTy call_int1 (by rfl) mi (by decide +kernel) (pa_cons (pe_op op_add (pe_op op_mul (pe_ix ix_list (pv 0) pe_int (fun _ _ => rfl)) pe_int) pe_int) pa_nil)) pe_int) (pg_sub (pv 0) pe_int set_list))
      (pss_one (ps_ret (pe_op op_mod (pe_callTy call_int1 (by rfl) mi (by decide +kernel) (pa_cons (pe_op op_fdivN (pe_ix ix_list (pv 0) pe_int (fun _ _ => rfl)) pe_int) pa_nil)) (pv 1)))))), ?_⟩
    refine ⟨fun n σ G => ∃ M, n = M.length ∧ σ = [some (.ref h), some (.int m), none] ∧ Hv G h l M st ∧ But h l H G, ⟨_, L, rfl, rfl, hv, But.refl _ _ _⟩, fun n σ G hw => ?_⟩
    obtain ⟨M, rfl, rfl, hg, bt⟩ := hw
    refine ⟨.ref h, rfl, h, _, 0, .ref l, rfl, rfl, sqL hg.top, atI_nat (j := 0) rfl, Nat.zero_le _, fun p np => ?_⟩
    refine ⟨.list (M.map .int), .list [], dp_ints (hg.new np).bot, .lst (sqL upd_same) .nil, shaped_ints M, rfl, _, rfl, ?_⟩
    have hg1 := hg.new (o := .lst []) np
    have bt1 := bt.new (o := .lst []) np
    rw [eqv_nil]
    by_cases hM : M = []
    · -- the list is empty: a new number
      subst hM
      refine iteF ?_
      refine iteF ?_
      -- if heap[0] != []
      refine ⟨.ref h, rfl, h, _, 0, .ref l, rfl, rfl, sqL hg1.top, atI_nat (j := 0) rfl, Nat.zero_le _, fun p2 np2 => ?_⟩
      refine ⟨.list (([] : List Int).map .int), .list [], dp_ints (hg1.new np2).bot, .lst (sqL upd_same) .nil, shaped_ints [], rfl, _, rfl, ?_⟩
      have hg2 := hg1.new (o := .lst []) np2
      have bt2 := bt1.new (o := .lst []) np2
      rw [eqv_nil]
      refine iteF ?_
      -- heap[1] = int(heap[1] * 48271 + 17) % 2147483647
      have hlo := hv.lo
      have hhi := hv.hi
      refine ⟨.ref h, rfl, h, _, 1, .int st, rfl, rfl, sqL hg2.top, atI_nat (j := 1) rfl, _, _, rfl, rfl, .inl ⟨by omega, by omega⟩, _, _, rfl, rfl, .inl ⟨_, rfl, _, _, rfl, rfl, (by show (0 : Int) < 2147483647; decide), ?_⟩⟩
      have n0 := Int.emod_nonneg (st * 48271 + 17) (show (2147483647 : Int) ≠ 0 by decide)
      have n1 := Int.emod_lt_of_pos (st * 48271 + 17) (show (0 : Int) < 2147483647 by decide)
      refine ⟨.ref h, rfl, h, _, 1, 1, rfl, rfl, hg2.top, rfl, ?_⟩
      have hg3 := hg2.setN n0 n1
      have bt3 : But h l H _ := bt2.atH (o := .lst [.ref l, .int ((st * 48271 + 17) % 2147483647)])
      -- return int(heap[1] // 32) % many
      refine ⟨.ref h, rfl, h, _, 1, _, rfl, rfl, sqL upd_same, atI_nat (j := 1) rfl, _, _, rfl, rfl, ⟨by decide, by decide⟩, .inl ⟨_, rfl, .int m, rfl, _, _, rfl, rfl, h0, ?_⟩⟩
      exact q _ _ _ _ bt3 hg3 (Int.emod_nonneg _ (by omega)) (Int.emod_lt_of_pos _ h0)
    · rw [decide_eq_false hM]
      refine iteT ?_
      -- heap[0][-1] == 0
      refine ⟨.ref h, rfl, h, _, 0, .ref l, rfl, rfl, sqL hg1.top, atI_nat (j := 0) rfl, 1, rfl, l, _, -1, _, rfl, rfl, sqL hg1.bot, last_map hM, rfl, _, rfl, ?_⟩
      have lt : M.dropLast.length < M.length := by
        have := List.length_pos_iff.mpr hM
        rw [List.length_dropLast]
        omega
      by_cases hz : M.getLast hM = 0
      · -- it ends in 0: pop
        rw [hz, decide_eq_true rfl]
        refine iteT ?_
        refine ⟨fun σ' G' => σ' = [some (.ref h), some (.int m), none] ∧ Hv G' h l M.dropLast st ∧ But h l H G', fun σ' G' z => ⟨_, lt, _, rfl, z.1, z.2.1, z.2.2⟩, ?_⟩
        refine ⟨.ref h, rfl, h, _, 0, .ref l, rfl, rfl, sqL hg1.top, atI_nat (j := 0) rfl, .inl ⟨rfl, _, sqL hg1.bot⟩, l, _, _, rfl, rfl, hg1.bot, last_get hM, rfl, ?_, ?_⟩
        · rw [drop_map]
          exact hg1.setL (Nat.le_trans (Nat.le_of_lt lt) hg1.len)
        · exact bt1.atL
      · -- the loop's end
        rw [decide_eq_false (show ¬ V.int (M.getLast hM) = V.int 0 from fun z => hz (V.int.inj z))]
        refine iteF ?_
        -- if heap[0] != []
        refine ⟨.ref h, rfl, h, _, 0, .ref l, rfl, rfl, sqL hg1.top, atI_nat (j := 0) rfl, Nat.zero_le _, fun p2 np2 => ?_⟩
        refine ⟨.list (M.map .int), .list [], dp_ints (hg1.new np2).bot, .lst (sqL upd_same) .nil, shaped_ints M, rfl, _, rfl, ?_⟩
        have hg2 := hg1.new (o := .lst []) np2
        have bt2 := bt1.new (o := .lst []) np2
        rw [eqv_nil, decide_eq_false hM]
        refine iteT ?_
        -- rest = heap[0].pop()
        refine ⟨.ref h, rfl, h, _, 0, .ref l, rfl, rfl, sqL hg2.top, atI_nat (j := 0) rfl, .inl ⟨rfl, _, sqL hg2.bot⟩, l, _, _, rfl, rfl, hg2.bot, last_get hM, ?_⟩
        rw [drop_map]
        have hg3 := hg2.setL (M := M.dropLast) (Nat.le_trans (Nat.le_of_lt lt) hg1.len)
        have bt3 : But h l H _ := bt2.atL (o := .lst (M.dropLast.map V.int))
        -- heap[0].append(rest // many)
        refine ⟨.ref h, rfl, h, _, 0, .ref l, rfl, rfl, sqL hg3.top, atI_nat (j := 0) rfl, .inl ⟨rfl, _, sqL hg3.bot⟩, .int (M.getLast hM), rfl, .int m, rfl, _, _, rfl, rfl, ⟨by omega, by omega⟩, l, _, _, rfl, rfl, hg3.bot, ?_, ?_⟩
        · have := hg1.len
          rw [List.length_map]
          exact small1000 (by omega)
        have e : M.dropLast.map V.int ++ [.int ((M.getLast hM).fdiv m)] = (M.dropLast ++ [(M.getLast hM).fdiv m]).map V.int := by
          rw [List.map_append]
          rfl
        rw [e]
        have hg4 := hg3.setL (M := M.dropLast ++ [(M.getLast hM).fdiv m]) (by
          have := hg1.len
          rw [List.length_append]
          show _ + 1 ≤ 63
          omega)
        have bt4 : But h l H _ := bt3.atL (o := .lst ((M.dropLast ++ [(M.getLast hM).fdiv m]).map V.int))
        -- return int(rest) % many
        refine ⟨.int (M.getLast hM), rfl, .inl ⟨_, rfl, .int m, rfl, _, _, rfl, rfl, h0, ?_⟩⟩
        exact q _ _ _ _ bt4 hg4 (Int.emod_nonneg _ (by omega)) (Int.emod_lt_of_pos _ h0)
def spPick (K : PySem.W.Frag) : Sp := fun vs H Q _ => ∃ (h l : Addr) (L : List Int) (st : Int) (p : Addr) (xs : List V), vs = [.ref h, .ref p] ∧ Hv H h l L st ∧ SqL K H p xs ∧ p ≠ h ∧ p ≠ l ∧ 0 < xs.length ∧ xs.length < 1000 ∧
  ∀ (G : Hp) (L' : List Int) (st' : Int) (i : Nat) (x : V), But h l H G → Hv G h l L' st' → xs[i]? = some x → Q x G
theorem ok_pick {f fD : Addr} {fd fdD : FuncData} {k : Nat} (F : Fun K "_law_pick" "_law_pick" s__law_pick f fd) (FD : Fun K "_law_draw" "_law_draw" s__law_draw fD fdD) (bD : Binds K fdD ["heap", "many"] []) (gD : mg "_law_draw" = some (.ref fD))
    (ml : mg "len" = none) (mi : mg "int" = none) : FnOk P w K mg base CX0 (k + 1 + 1) f fd ["heap", "some"] (spPick K) := by
  have GD : FnOk P w K mg base CX0 (k + 1) fD fdD ["heap", "many"] spDraw := ok_draw FD mi
  refine F.ok sc__law_pick (fun vs H Q E h => ?_) (fun cdv A outer s H vs Q E hr h => ?_)
  · obtain ⟨h, l, L, st, p, xs, rfl, _⟩ := h
    rfl
  · obtain ⟨h, l, L, st, p, xs, rfl, hv, hs, n1, n2, h0, h1, q⟩ := h
    refine ⟨_, pss_one (ps_ret (pe_ix ix_list (pv 1) (pe_call GD hr (by rfl) gD FD.kp bD .nil pass0 (pa_cons (pv 0) (pa_cons (pe_callB call_len_seq (by rfl) ml PySem.boot_len (pa_cons (pv 1) pa_nil)) pa_nil))) (fun _ _ => rfl))), ?_⟩
    refine ⟨.ref p, rfl, .ref h, rfl, .ref p, rfl, p, xs, rfl, .inl hs, h, l, L, st, xs.length, rfl, hv, by omega, by omega, fun G L' st' r bt hv' r0 r1 => ?_⟩
    obtain ⟨i, rfl⟩ := Int.eq_ofNat_of_zero_le r0
    have hi : i < xs.length := by omega
    exact ⟨p, xs, _, xs[i], rfl, rfl, bt.seqL n1 n2 hs, atI_nat (List.getElem?_eq_getElem hi), q G L' st' i _ bt hv' (List.getElem?_eq_getElem hi)⟩
def spHeap (K : PySem.W.Frag) : Sp := fun vs H Q _ => ∃ (a : Addr) (ns : List Int), vs = [.ref a] ∧ SqL K H a (ns.map V.int) ∧ ns.length ≤ 63 ∧
  ∀ (G : Hp) (h l : Addr) (L : List Int) (st : Int), Same H G → H h = none → H l = none → Hv G h l L st → Q (.ref h) G
theorem ok_heap {f : Addr} {fd : FuncData} {k : Nat} (F : Fun K "_law_heap" "_law_heap" s__law_heap f fd) (ma : mg "abs" = none) (mi : mg "int" = none) : FnOk P w K mg base CX0 (k + 1) f fd ["script"] (spHeap K) := by
  refine F.ok sc__law_heap (fun vs H Q E h => ?_) (fun cdv A outer s H vs Q E hr h => ?_)
  · obtain ⟨a, ns, rfl, _⟩ := h
    rfl
  · obtain ⟨a, ns, rfl, hs, hl, q⟩ := h
    refine ⟨_, pss_cons (ps_par (i := 2) (j := 3) rfl sc__law_heap.nd rfl rfl (by decide) rfl rfl (pa_cons (pe_lc (own := [("cell", 1)]) (g := gName 1) (tt := tYes) rfl sc__law_heap.nd (pi_list (pe_slice sl_list (pv 0) po_none (po_some pe_int)))
          (blkOk_by (own := [("cell", 1)]) (N := ["script", "cell", "cells", "stir"]) (sc := defScope s__law_heap) (by decide +kernel)) (fun _ _ _ _ _ => pg_name (i := 1) sc__law_heap.nd rfl (Or.inl rfl)) (fun _ _ _ _ _ => pts_nil)
          (fun _ _ _ _ _ => pe_op op_add (pe_op op_mul pe_int (pe_callB call_abs (by rfl) ma (by decide +kernel) (pa_cons (pv 1) pa_nil))) (pe_callTy call_int1 (by rfl) mi (by decide +kernel) (pa_cons (pe_cmpR op_lt (pv 1) pe_int (nomark _)) pa_nil)))) (pa_cons pe_int pa_nil)) (by rfl))
      (pss_cons (ps_for PassesOwn.never rfl (pi_list (pv 2)) (pg_name (i := 1) sc__law_heap.nd rfl (.inl rfl))
        (pss_one (ps_set (i := 3) sc__law_heap.nd rfl (.inl rfl) (pe_op op_mod (pe_callTy call_int1 (by rfl) mi (by decide +kernel) (pa_cons (pe_op op_add (pe_op op_add (pe_op op_mul (pv 3) pe_int) (pe_op op_mod (pe_callTy call_int1 (by rfl) mi (by decide +kernel) (pa_cons (pv 1) pa_nil)) pe_int)) pe_int) pa_nil)) pe_int))))
      (pss_one (ps_ret (pe_lst (pa_cons (pe_revL (pe_lc (own := [("cell", 1)]) (g := gName 1) rfl sc__law_heap.nd (pi_list (pv 2))
          (blkOk_by (own := [("cell", 1)]) (N := ["script", "cell", "cells", "stir"]) (sc := defScope s__law_heap) (by decide +kernel)) (fun _ _ _ _ _ => pg_name (i := 1) sc__law_heap.nd rfl (Or.inl rfl))
          (fun _ _ _ _ _ => pts_one (pt_cmpR op_ge (pv 1) (pe_op op_pow pe_int pe_int) (nomark _))) (fun _ _ _ _ _ => pv 1))) (pa_cons (pv 3) pa_nil)))))), ?_⟩
    -- script[:60]
    refine ⟨.ref a, rfl, 60, rfl, a, _, rfl, hs, fun p np => ⟨p, rfl, ⟨_, sqL upd_same⟩, fun D nD => ?_⟩⟩
    have s1 : Same H _ := same_new (o := .lst (cutV (ns.map V.int) none (some 60))) np
    have ecut : cutV (ns.map V.int) none (some 60) = (ns.take 60).map V.int := by
      unfold cutV
      rw [HT.sIx_none, show (some (60 : Int)) = some ((60 : Nat) : Int) from rfl, HT.sIx_nat, List.drop_zero, Nat.sub_zero, List.length_map, List.map_take]
      by_cases z : 60 ≤ ns.length
      · rw [Nat.min_eq_left z]
      · rw [Nat.min_eq_right (by omega), List.take_of_length_le (by rw [List.length_map]; exact Nat.le_refl _), List.take_of_length_le (by rw [List.length_map]; omega)]
    rw [ecut] at s1 nD ⊢
    refine lc_list (K := K) (a := p) (xs := (ns.take 60).map V.int) (fun i G => Same (upd H p (.lst ((ns.take 60).map V.int))) G ∧ ∃ cs : List Int, G D = some (.lst (cs.map V.int)) ∧ cs.length = i)
      ⟨same_new nD, [], upd_same, rfl⟩ (fun i G _ hP => sqL (hP.1 _ _ upd_same)) (fun i x G hx hP => ?_) (fun G hP => ?_)
    · obtain ⟨s2, cs, gD, cl⟩ := hP
      obtain ⟨n, hn, rfl⟩ : ∃ n, (ns.take 60)[i]? = some n ∧ V.int n = x := by
        rw [List.getElem?_map] at hx
        cases e : (ns.take 60)[i]? with
        | none => rw [e] at hx; cases hx
        | some n => rw [e] at hx; exact ⟨n, rfl, Option.some.inj hx⟩
      have hi := (List.getElem?_eq_some_iff.mp hn).1
      rw [List.length_take] at hi
      refine ⟨rfl, ?_⟩
      dsimp only [tYes]
      rw [if_pos rfl]
      refine ⟨_, rfl, n, rfl, 2, _, rfl, rfl, .inl ⟨by decide, by decide⟩, _, rfl, _, _, rfl, rfl, .inr ⟨_, rfl, _, _, rfl, rfl, cs.map V.int, gD, ?_, fun b o e => ?_, cs ++ [2 * (if n < 0 then -n else n) + (if decide (n < 0) = true then 1 else 0)], ?_, ?_⟩⟩
      · rw [List.length_map]
        exact small1000 (by omega)
      · rw [upd_ne (ne_of_none e nD)]
        exact s2 _ _ e
      · rw [upd_same, List.map_append]
        rfl
      · rw [List.length_append, cl]
        rfl
    · obtain ⟨s2, cs, gD, cl⟩ := hP
      have sG := s1.trans s2
      rw [List.length_map, List.length_take] at cl
      refine ⟨_, _, rfl, ?_⟩
      -- for cell in cells
      refine ⟨.ref D, rfl, D, rfl, ⟨_, sqL gD⟩, for_list (xs := cs.map V.int) (fun i σ G' => G' = G ∧ ∃ (st : Int) (y : Option V), σ = [some (.ref a), y, some (.ref D), some (.int st)] ∧ 0 ≤ st ∧ st < 2147483647)
        ⟨rfl, 52009, none, rfl, by decide, by decide⟩ (fun i σ G' _ hP => by rw [hP.1]; exact sqL gD) (fun i x σ G' hx hP => ?_) (fun σ G' hP => ?_)⟩
      · obtain ⟨rfl, st, y, rfl, h0, h1⟩ := hP
        obtain ⟨n, rfl⟩ : ∃ n, V.int n = x := by
          rw [List.getElem?_map] at hx
          cases e : cs[i]? with
          | none => rw [e] at hx; cases hx
          | some n => rw [e] at hx; exact ⟨n, Option.some.inj hx⟩
        refine ⟨_, rfl, _, _, rfl, rfl, .inl ⟨by omega, by omega⟩, _, rfl, .inl ⟨_, rfl, _, _, rfl, rfl, (by show (0 : Int) < 2147483563; decide), _, _, rfl, rfl, _, _, rfl, rfl, .inl ⟨_, rfl, _, _, rfl, rfl, (by show (0 : Int) < 2147483647; decide), rfl, _, _, rfl, ?_, ?_⟩⟩⟩
        · exact Int.emod_nonneg _ (by decide)
        · exact Int.emod_lt_of_pos _ (by decide)
      · obtain ⟨rfl, st, y, rfl, h0, h1⟩ := hP
        refine ⟨.ref D, rfl, D, rfl, ⟨_, sqL gD⟩, fun D2 nD2 => ?_⟩
        refine lc_list (K := K) (a := D) (xs := cs.map V.int) (fun i G2 => Same G' G2 ∧ ∃ es : List Int, G2 D2 = some (.lst (es.map V.int)) ∧ es.length ≤ i)
          ⟨same_new nD2, [], upd_same, Nat.le_refl _⟩ (fun i G2 _ hP => sqL (hP.1 _ _ gD)) (fun i x G2 hx hP => ?_) (fun G2 hP => ?_)
        · obtain ⟨s3, es, gE, el⟩ := hP
          obtain ⟨n, hn, rfl⟩ : ∃ n, cs[i]? = some n ∧ V.int n = x := by
            rw [List.getElem?_map] at hx
            cases e : cs[i]? with
            | none => rw [e] at hx; cases hx
            | some n => rw [e] at hx; exact ⟨n, rfl, Option.some.inj hx⟩
          have hi := (List.getElem?_eq_some_iff.mp hn).1
          refine ⟨rfl, _, rfl, 10, 18, rfl, rfl, ⟨by decide, by decide, by decide⟩, _, _, rfl, rfl, _, rfl, ite2 (fun _ => ?_) (fun _ => ⟨s3, es, gE, Nat.le_succ_of_le el⟩)⟩
          refine ⟨_, rfl, es.map V.int, gE, ?_, fun b o e => ?_, es ++ [n], ?_, ?_⟩
          · rw [List.length_map]
            exact small1000 (by omega)
          · rw [upd_ne (ne_of_none e nD2)]
            exact s3 _ _ e
          · rw [upd_same, List.map_append]
            rfl
          · rw [List.length_append]
            exact Nat.succ_le_succ el
        · obtain ⟨s3, es, gE, el⟩ := hP
          rw [List.length_map] at el
          refine ⟨D2, _, rfl, sqL gE, fun l nl => ?_⟩
          refine ⟨_, rfl, by show 2 ≤ sizeLine; decide, fun h nh => ?_⟩
          have s4 : Same G2 _ := same_new (o := .lst (es.map V.int).reverse) nl
          have s5 := s4.trans (same_new (o := .lst [.ref l, .int st]) nh)
          have up : ∀ b, G2 b = none → H b = none := fun b e => by
            cases z : H b with
            | none => rfl
            | some o => exact nomatch (s3 _ _ (sG _ _ z)).symm.trans e
          have nlh : l ≠ h := ne_of_none upd_same nh
          refine q _ h l es.reverse st ((sG.trans s3).trans s5) (up h ((by
            cases z : G2 h with
            | none => rfl
            | some o => exact nomatch (s4 _ _ z).symm.trans nh))) (up l nl) ⟨upd_same, ?_, nlh, h0, h1, ?_⟩
          · rw [upd_ne nlh, upd_same, List.map_reverse]
          · rw [List.length_reverse]
            omega
end
end K20
namespace K20
open PySem PySem.Spec PyProof.Rows L2 Gd
section
variable {P : Program} {w : World} {K : PySem.W.Frag} {mg : Str → Option Value} {base : Heap}
def spNumB (K : PySem.W.Frag) : Sp := fun vs H Q _ => ∃ (x : V) (lim : Int) (b : Bool), vs = [x, .int lim] ∧ NumV K H lim x b ∧ Q (.bl b) H
def spNum (K : PySem.W.Frag) : Sp := fun vs H Q _ => ∃ x : V, vs = [x] ∧ ((∃ i, x = .int i ∧ Q (.bl (decide (0 ≤ i))) H) ∨ (∃ y, x = .bl y ∧ Q (.bl false) H) ∨ (∃ n, TyN K H x n ∧ kitB n "int" = some false ∧ Q (.bl false) H))
theorem ok_num {f : Addr} {fd : FuncData} {k : Nat} (F : Fun K "is_number" "is_number" s_is_number f fd) (mI : mg "isinstance" = none) (mi : mg "int" = none) (mb : mg "bool" = none) : FnOk P w K mg base CX0 (k + 1) f fd ["value"] (spNum K) := by
  refine F.ok sc_is_number (fun vs H Q E h => ?_) (fun cdv A outer s H vs Q E hr h => ?_)
  · obtain ⟨x, rfl, _⟩ := h
    rfl
  · obtain ⟨x, rfl, q⟩ := h
    refine blk_cons (ps_ret (pe_and (pe_callB call_isi (by rfl) mI (by decide +kernel) (pa_cons (pv 0) (pa_cons (pe_bltn (v := .ty "int") (by rfl) mi (by decide +kernel) rfl) pa_nil)))
      (pe_and (pe_not (pe_callB call_isi (by rfl) mI (by decide +kernel) (pa_cons (pv 0) (pa_cons (pe_bltn (v := .ty "bool") (by rfl) mb (by decide +kernel) rfl) pa_nil)))) (pe_one (pe_cmpR op_ge (pv 0) pe_int (nomark _)))))) ?_
    refine blk_nil ?_
    rcases q with ⟨i, rfl, q⟩ | ⟨y, rfl, q⟩ | ⟨n, t, kk, q⟩
    · refine ⟨_, rfl, _, _, _, _, true, rfl, .ty "int", TyN.int i, kit_ty (by decide +kernel), _, rfl, iteT ?_⟩
      refine ⟨_, rfl, _, _, _, _, false, rfl, .ty "bool", TyN.int i, kit_ty (by decide +kernel), _, rfl, _, rfl, iteT ?_⟩
      exact ⟨_, rfl, _, _, rfl, rfl, q⟩
    · refine ⟨_, rfl, _, _, _, _, true, rfl, .ty "int", TyN.bl y, kit_ty (by decide +kernel), _, rfl, iteT ?_⟩
      exact ⟨_, rfl, _, _, _, _, true, rfl, .ty "bool", TyN.bl y, kit_ty (by decide +kernel), _, rfl, _, rfl, iteF q⟩
    · exact ⟨_, rfl, _, _, _, _, false, rfl, .ty "int", t, kit_ty kk, _, rfl, iteF q⟩
theorem ok_numB {f fN : Addr} {fd fdN : FuncData} {k : Nat} (F : Fun K "is_number_below" "is_number_below" s_is_number_below f fd) (FN : Fun K "is_number" "is_number" s_is_number fN fdN) (bN : Binds K fdN ["value"] []) (gN : mg "is_number" = some (.ref fN))
    (mI : mg "isinstance" = none) (mi : mg "int" = none) (mb : mg "bool" = none) : FnOk P w K mg base CX0 (k + 1 + 1) f fd ["value", "limit"] (spNumB K) := by
  have GN : FnOk P w K mg base CX0 (k + 1) fN fdN ["value"] (spNum K) := ok_num FN mI mi mb
  refine F.ok sc_is_number_below (fun vs H Q E h => ?_) (fun cdv A outer s H vs Q E hr h => ?_)
  · obtain ⟨x, lim, b, rfl, _⟩ := h
    rfl
  · obtain ⟨x, lim, b, rfl, hx, q⟩ := h
    refine blk_cons (ps_ret (pe_and (pe_call GN hr (by rfl) gN FN.kp bN .nil pass0 (pa_cons (pv 0) pa_nil)) (pe_one (pe_cmpR op_lt (pv 0) (pv 1) (nomark _))))) ?_
    refine blk_nil ?_
    rcases hx with ⟨i, rfl, rfl⟩ | ⟨y, rfl, rfl⟩ | ⟨n, t, kk, rfl⟩
    · refine ⟨_, rfl, _, rfl, .inl ⟨i, rfl, _, rfl, ?_⟩⟩
      by_cases h0 : 0 ≤ i
      · rw [decide_eq_true h0]
        refine iteT ⟨_, rfl, _, rfl, _, _, rfl, rfl, ?_⟩
        have e : decide (0 ≤ i ∧ i < lim) = decide (i < lim) := decide_eq_decide.mpr ⟨fun z => z.2, fun z => ⟨h0, z⟩⟩
        rw [e] at q
        exact q
      · rw [decide_eq_false h0]
        refine iteF ?_
        rw [decide_eq_false fun z => h0 z.1] at q
        exact q
    · exact ⟨_, rfl, _, rfl, .inr (.inl ⟨y, rfl, _, rfl, iteF q⟩)⟩
    · exact ⟨_, rfl, _, rfl, .inr (.inr ⟨n, t, kk, _, rfl, iteF q⟩)⟩
/-! ### is_name, of a name -/
def spName : Sp := fun vs H Q _ => ∃ z : Str, vs = [.str z] ∧ Nm z ∧ ∀ G, Same H G → Q (.bl true) G
theorem ok_name {f : Addr} {fd : FuncData} {k : Nat} {t : Tok} (F : Fun K "is_name" "is_name" s_is_name f fd) (gL : mg "MOST_LETTERS" = some (.int 8 t)) (mI : mg "isinstance" = none) (ms : mg "str" = none) (ml : mg "len" = none) (ma : mg "all" = none) : FnOk P w K mg base CX0 (k + 1) f fd ["value"] spName := by
  refine F.ok sc_is_name (fun vs H Q E h => ?_) (fun cdv A outer s H vs Q E hr h => ?_)
  · obtain ⟨z, rfl, _⟩ := h
    rfl
  · obtain ⟨z, rfl, hz, q⟩ := h
    refine blk_cons (ps_if (PW.pt (pw_or (pt_not (pt_val (pe_callB call_isi (by rfl) mI (by decide +kernel) (pa_cons (pv 0) (pa_cons (pe_bltn (v := .ty "str") (by rfl) ms (by decide +kernel) rfl) pa_nil)))))
      (pw_or1 (pt_not (pt_chain op_le op_le pe_int (pe_callB call_len_str (by rfl) ml PySem.boot_len (pa_cons (pv 0) pa_nil)) (pe_glob (v := .int 8) (by rfl) gL ⟨_, rfl⟩)))))) (pss_one (ps_ret pe_bl)) pss_nil) ?_
    refine blk_cons (ps_ret (pe_callB (cr_all rfl) (by rfl) ma (by decide +kernel) (pa_cons (pe_lc (own := [("sign", 1)]) (g := gName 1) (tt := tYes) rfl sc_is_name.nd (pi_str (pv 0)) (blkOk_by (own := [("sign", 1)]) (N := n_is_name) (sc := defScope s_is_name) (by decide +kernel))
      (fun _ _ _ _ _ => pg_name (i := 1) sc_is_name.nd rfl (Or.inl rfl)) (fun _ _ _ _ _ => pts_nil) (fun _ _ _ _ _ => pe_chain op_le_str op_le_str pe_str (pv 1) pe_str)) pa_nil))) ?_
    refine blk_nil ?_
    obtain ⟨⟨z1, z8⟩, zc⟩ := hz
    refine ⟨_, rfl, _, _, _, _, true, rfl, .ty "str", TyN.str z, kit_ty (by decide +kernel), _, rfl, iteF ?_⟩
    refine ⟨_, rfl, z, rfl, Nat.le_trans z8 (by decide), _, _, rfl, rfl, _, rfl, ?_⟩
    rw [decide_eq_true (show (1 : Int) ≤ (z.length : Int) by omega)]
    refine iteT ⟨_, _, rfl, rfl, _, rfl, ?_⟩
    rw [decide_eq_true (show (z.length : Int) ≤ 8 by omega)]
    refine iteF ?_
    refine ⟨_, rfl, z, rfl, fun D nD => lc_str (fun i G => Same H G ∧ G D = some (.lst ((List.replicate i true).map V.bl))) ⟨same_new nD, upd_same⟩ (fun i c G hc hP => ?_) (fun G hP => ?_)⟩
    · obtain ⟨s1, gD⟩ := hP
      have hm := zc c (List.mem_of_getElem? hc)
      have hi : i < z.cps.toList.length := (List.getElem?_eq_some_iff.mp hc).1
      have hi8 : i < 8 := Nat.lt_of_lt_of_le hi z8
      refine ⟨rfl, ?_⟩
      dsimp only [tYes]
      rw [if_pos rfl]
      refine ⟨_, rfl, _, _, rfl, rfl, _, rfl, ?_⟩
      have e1 : decide ((⟨#[c]⟩ : Str).cps.toList < (Str.ofString "a").cps.toList) = false := by
        show decide (([c] : List Nat) < [97]) = false
        rw [lt_one]
        exact decide_eq_false (by omega)
      have e2 : decide ((Str.ofString "z").cps.toList < (⟨#[c]⟩ : Str).cps.toList) = false := by
        show decide (([122] : List Nat) < [c]) = false
        rw [lt_one]
        exact decide_eq_false (by omega)
      rw [e1]
      refine iteT ⟨_, _, rfl, rfl, ?_⟩
      rw [e2]
      refine ⟨_, gD, ?_, fun b ob e => ?_, ?_⟩
      · rw [List.length_map, List.length_replicate]
        exact small1000 (by omega)
      · rw [upd_ne (ne_of_none e nD)]
        exact s1 _ _ e
      · rw [upd_same, List.replicate_succ', List.map_append]
        rfl
    · obtain ⟨s1, gD⟩ := hP
      refine ⟨D, _, rfl, sqL gD, ?_⟩
      rw [show (List.replicate z.cps.toList.length true).all id = true from List.all_eq_true.mpr fun x hx => by rw [List.eq_of_mem_replicate hx]; rfl]
      exact q _ s1
end
end K20
namespace Gd
open PySem PySem.Spec PyProof.Rows L2
/-- x < y, ints or texts -/
def rLt2 : V → V → Hp → VK → Prop := fun x y H Q => (∃ i j : Int, x = .int i ∧ y = .int j ∧ Q (.bl (decide (i < j))) H) ∨ (∃ i j : Str, x = .str i ∧ y = .str j ∧ Q (.bl (decide (i.cps.toList < j.cps.toList))) H)
theorem op_lt2 {X : Cx} : OpR X (compareOp .Lt) rLt2 := by
  intro pins s σ H x y v u Q I rx ry h
  rcases h with ⟨i, j, hx, hy, q⟩ | ⟨i, j, hx, hy, q⟩
  · exact op_lt pins s σ H x y v u Q I rx ry ⟨i, j, hx, hy, q⟩
  · exact op_lt_str pins s σ H x y v u Q I rx ry ⟨i, j, hx, hy, q⟩
theorem numV_of {K : PySem.W.Frag} {H : Hp} {lim n : Int} (h : 0 ≤ n ∧ n < lim) : NumV K H lim (.int n) true := .inl ⟨n, rfl, (decide_eq_true h).symm⟩
theorem numsV_ints {K : PySem.W.Frag} {H : Hp} {lim : Int} {p : Addr} {ns : List Int} (h : SqT K H p (ns.map V.int)) (b : ∀ n ∈ ns, 0 ≤ n ∧ n < lim) (l : ns.length ≤ 1000) : NumsV K H lim (.ref p) true := by
  have key : ∀ l : List Int, (∀ n ∈ l, 0 ≤ n ∧ n < lim) → NumVs K H lim (l.map V.int) (l.map fun _ => true) ∧ (l.map fun _ => true).all id = true := fun l hl => by
    induction l with
    | nil => exact ⟨.nil, rfl⟩
    | cons x r ih =>
      obtain ⟨i1, i2⟩ := ih fun n hn => hl n (List.mem_cons_of_mem _ hn)
      exact ⟨.cons (numV_of (hl x List.mem_cons_self)) i1, i2⟩
  obtain ⟨k1, k2⟩ := key ns b
  exact .inr ⟨p, _, _, rfl, h, by rw [List.length_map]; exact l, k1, k2.symm⟩
end Gd
namespace K20
open PySem PySem.Spec PyProof.Rows L2 Gd
section
variable {P : Program} {w : World} {K : PySem.W.Frag} {mg : Str → Option Value} {base : Heap}
def spTupOf (K : PySem.W.Frag) : Sp := fun vs H Q _ => ∃ (x : V) (n : Int), vs = [x, .int n] ∧ ((∃ m, TyN K H x m ∧ kitB m "tuple" = some false ∧ Q (.bl false) H) ∨ (∃ (p : Addr) (xs : List V), x = .ref p ∧ SqT K H p xs ∧ Q (.bl (decide ((xs.length : Int) = n))) H))
theorem ok_tupOf {f : Addr} {fd : FuncData} {k : Nat} (F : Fun K "is_tuple_of" "is_tuple_of" s_is_tuple_of f fd) (mI : mg "isinstance" = none) (mt : mg "tuple" = none) (ml : mg "len" = none) : FnOk P w K mg base CX0 (k + 1) f fd ["value", "length"] (spTupOf K) := by
  refine F.ok sc_is_tuple_of (fun vs H Q E h => ?_) (fun cdv A outer s H vs Q E hr h => ?_)
  · obtain ⟨x, n, rfl, _⟩ := h
    rfl
  · obtain ⟨x, n, rfl, q⟩ := h
    refine blk_cons (ps_ret (pe_and (pe_callB call_isi (by rfl) mI (by decide +kernel) (pa_cons (pv 0) (pa_cons (pe_bltn (v := .ty "tuple") (by rfl) mt (by decide +kernel) rfl) pa_nil)))
      (pe_one (pe_cmpR op_eq (pe_callB call_len_seq (by rfl) ml PySem.boot_len (pa_cons (pv 0) pa_nil)) (pv 1) (nomark _))))) ?_
    refine blk_nil ?_
    rcases q with ⟨m, t, kk, q⟩ | ⟨p, xs, rfl, ht, q⟩
    · exact ⟨_, rfl, _, _, _, _, false, rfl, .ty "tuple", t, kit_ty kk, _, rfl, iteF q⟩
    · refine ⟨_, rfl, _, _, _, _, true, rfl, .ty "tuple", tyT ht, kit_ty (by decide +kernel), _, rfl, iteT ⟨_, rfl, p, xs, rfl, .inr ht, _, rfl, rfl, ?_⟩⟩
      have e : decide (V.int (xs.length : Int) = V.int n) = decide ((xs.length : Int) = n) := decide_eq_decide.mpr ⟨fun z => V.int.inj z, fun z => congrArg V.int z⟩
      rw [e]
      exact q
/-! ### is_ascending, of what is -/
def spAsc (K : PySem.W.Frag) : Sp := fun vs H Q _ => ∃ (p : Addr) (xs : List V), vs = [.ref p] ∧ SqT K H p xs ∧ xs.length ≤ 1000 ∧ ((∃ ns : List Int, xs = ns.map V.int ∧ AscI ns) ∨ (∃ ss : List Str, xs = ss.map V.str ∧ AscS ss)) ∧ ∀ G, Same H G → Q (.bl true) G
theorem ok_asc {f : Addr} {fd : FuncData} {k : Nat} (F : Fun K "is_ascending" "is_ascending" s_is_ascending f fd) (mr : mg "range" = none) (ml : mg "len" = none) (ma : mg "all" = none) : FnOk P w K mg base CX0 (k + 1) f fd ["items"] (spAsc K) := by
  refine F.ok sc_is_ascending (fun vs H Q E h => ?_) (fun cdv A outer s H vs Q E hr h => ?_)
  · obtain ⟨p, xs, rfl, _⟩ := h
    rfl
  · obtain ⟨p, xs, rfl, ht, hl, hx, q⟩ := h
    refine blk_cons (ps_ret (pe_callB (cr_all rfl) (by rfl) ma (by decide +kernel) (pa_cons (pe_lc (own := [("at", 1)]) (g := gName 1) (tt := tYes) rfl sc_is_ascending.nd (pi_range1 (by rfl) mr (pa_cons (pe_op op_sub (pe_callB call_len_seq (by rfl) ml PySem.boot_len (pa_cons (pv 0) pa_nil)) pe_int) pa_nil))
      (blkOk_by (own := [("at", 1)]) (N := n_is_ascending) (sc := defScope s_is_ascending) (by decide +kernel)) (fun _ _ _ _ _ => pg_name (i := 1) sc_is_ascending.nd rfl (Or.inl rfl)) (fun _ _ _ _ _ => pts_nil)
      (fun _ _ _ _ _ => pe_cmpR op_lt2 (pe_ix (r := rIxT K) ix_tup (pv 0) (pv 1) (fun _ _ => rfl)) (pe_ix (r := rIxT K) ix_tup (pv 0) (pe_op op_add (pv 1) pe_int) (fun _ _ => rfl)) (nomark _))) pa_nil))) ?_
    refine blk_nil ?_
    refine ⟨_, rfl, p, xs, rfl, .inr ht, _, _, rfl, rfl, _, rfl, by omega, by omega, fun D nD => lc_range (lo := 0) (fun i G => Same H G ∧ G D = some (.lst ((List.replicate i true).map V.bl))) ⟨same_new nD, upd_same⟩ (fun i G hi hP => ?_) (fun G hP => ?_)⟩
    · obtain ⟨s1, gD⟩ := hP
      have h1 : i < xs.length := by omega
      have h2 : i + 1 < xs.length := by omega
      have ht1 := same_seqT s1 ht
      refine ⟨rfl, ?_⟩
      dsimp only [tYes]
      rw [if_pos rfl]
      refine ⟨_, rfl, _, rfl, p, xs, _, xs[i], rfl, rfl, ht1, at_of (j := i) (by omega) (List.getElem?_eq_getElem h1), _, rfl, _, rfl, _, _, rfl, rfl, p, xs, _, xs[i + 1], rfl, rfl, ht1, at_of (j := i + 1) (by omega) (List.getElem?_eq_getElem h2), ?_⟩
      have fin : ∃ acc, G D = some (.lst acc) ∧ acc.length < sizeLine ∧ Same H (upd G D (.lst (acc ++ [.bl true]))) ∧ (upd G D (.lst (acc ++ [.bl true]))) D = some (.lst ((List.replicate (i + 1) true).map V.bl)) := by
        refine ⟨_, gD, ?_, fun b ob e => ?_, ?_⟩
        · rw [List.length_map, List.length_replicate]
          exact small1000 (by omega)
        · rw [upd_ne (ne_of_none e nD)]
          exact s1 _ _ e
        · rw [upd_same, List.replicate_succ', List.map_append]
          rfl
      rcases hx with ⟨ns, rfl, ha⟩ | ⟨ss, rfl, ha⟩
      · rw [List.length_map] at h1 h2
        have e := pw_next ha (List.getElem?_eq_getElem h1) (List.getElem?_eq_getElem h2)
        refine .inl ⟨ns[i], ns[i + 1], by rw [List.getElem_map], by rw [List.getElem_map], ?_⟩
        rw [decide_eq_true e]
        exact fin
      · rw [List.length_map] at h1 h2
        have e := pw_next ha (List.getElem?_eq_getElem h1) (List.getElem?_eq_getElem h2)
        refine .inr ⟨ss[i], ss[i + 1], by rw [List.getElem_map], by rw [List.getElem_map], ?_⟩
        rw [decide_eq_true e]
        exact fin
    · obtain ⟨s1, gD⟩ := hP
      refine ⟨D, _, rfl, sqL gD, ?_⟩
      rw [show (List.replicate _ true).all id = true from List.all_eq_true.mpr fun x hx => by rw [List.eq_of_mem_replicate hx]; rfl]
      exact q _ s1
/-! ### are_numbers_below -/
def spNums (K : PySem.W.Frag) : Sp := fun vs H Q _ => ∃ (x : V) (lim : Int) (b : Bool), vs = [x, .int lim] ∧ NumsV K H lim x b ∧ ∀ G, Same H G → Q (.bl b) G
theorem ok_nums {f fB fN : Addr} {fd fdB fdN : FuncData} {k : Nat} (F : Fun K "are_numbers_below" "are_numbers_below" s_are_numbers_below f fd) (FB : Fun K "is_number_below" "is_number_below" s_is_number_below fB fdB) (FN : Fun K "is_number" "is_number" s_is_number fN fdN) (bN : Binds K fdN ["value"] []) (bB : Binds K fdB ["value", "limit"] []) (gN : mg "is_number" = some (.ref fN)) (gB : mg "is_number_below" = some (.ref fB))
    (mI : mg "isinstance" = none) (mi : mg "int" = none) (mb : mg "bool" = none) (mt : mg "tuple" = none) (ma : mg "all" = none) : FnOk P w K mg base CX0 (k + 1 + 1 + 1) f fd ["value", "limit"] (spNums K) := by
  have GB : FnOk P w K mg base CX0 (k + 1 + 1) fB fdB ["value", "limit"] (spNumB K) := ok_numB FB FN bN gN mI mi mb
  refine F.ok sc_are_numbers_below (fun vs H Q E h => ?_) (fun cdv A outer s H vs Q E hr h => ?_)
  · obtain ⟨x, lim, b, rfl, _⟩ := h
    rfl
  · obtain ⟨x, lim, b, rfl, hx, q⟩ := h
    refine blk_cons (ps_ret (pe_and (pe_callB call_isi (by rfl) mI (by decide +kernel) (pa_cons (pv 0) (pa_cons (pe_bltn (v := .ty "tuple") (by rfl) mt (by decide +kernel) rfl) pa_nil)))
      (pe_one (pe_callB (cr_all rfl) (by rfl) ma (by decide +kernel) (pa_cons (pe_lc (own := [("item", 2)]) (g := gName 2) (tt := tYes) rfl sc_are_numbers_below.nd (pi_tup (pv 0)) (blkOk_by (own := [("item", 2)]) (N := n_are_numbers_below) (sc := defScope s_are_numbers_below) (by decide +kernel))
        (fun _ _ _ _ _ => pg_name (i := 2) sc_are_numbers_below.nd rfl (Or.inl rfl)) (fun _ _ _ _ _ => pts_nil) (fun _ _ _ _ _ => pe_call GB hr (by rfl) gB FB.kp bB .nil pass0 (pa_cons (pv 2) (pa_cons (pv 1) pa_nil)))) pa_nil))))) ?_
    refine blk_nil ?_
    rcases hx with ⟨n, t, kk, rfl⟩ | ⟨p, xs, bs, rfl, ht, hl, hb, rfl⟩
    · exact ⟨_, rfl, _, _, _, _, false, rfl, .ty "tuple", t, kit_ty kk, _, rfl, iteF (q _ (Same.refl _))⟩
    · have hbl : bs.length = xs.length := (Paired.length hb).symm
      refine ⟨_, rfl, _, _, _, _, true, rfl, .ty "tuple", tyT ht, kit_ty (by decide +kernel), _, rfl, iteT ?_⟩
      refine ⟨.ref p, rfl, p, rfl, ⟨_, ht⟩, fun D nD => lc_tup (K := K) (a := p) (xs := xs) (fun i G => Same H G ∧ G D = some (.lst ((bs.take i).map V.bl))) ⟨same_new nD, upd_same⟩ (fun i G _ hP => same_seqT hP.1 ht) (fun i x G hxi hP => ?_) (fun G hP => ?_)⟩
      · obtain ⟨s1, gD⟩ := hP
        obtain ⟨b0, hb0, hn⟩ := paired_at hb hxi
        refine ⟨rfl, ?_⟩
        dsimp only [tYes]
        rw [if_pos rfl]
        refine ⟨x, rfl, _, rfl, x, lim, b0, rfl, hn.same s1, (bs.take i).map V.bl, gD, ?_, fun b o e => ?_, ?_⟩
        · rw [List.length_map, List.length_take]
          exact small1000 (by omega)
        · rw [upd_ne (ne_of_none e nD)]
          exact s1 _ _ e
        · rw [upd_same, List.take_add_one, hb0, List.map_append]
          rfl
      · obtain ⟨s1, gD⟩ := hP
        rw [← hbl, List.take_length] at gD
        exact ⟨D, bs, rfl, sqL gD, q G s1⟩
/-! ### is_lot_below, is_lot_of_names: of what is -/
def spLot (K : PySem.W.Frag) : Sp := fun vs H Q _ => ∃ (p : Addr) (ns : List Int) (lim : Int), vs = [.ref p, .int lim] ∧ SqT K H p (ns.map V.int) ∧ ns.length ≤ 1000 ∧ AscI ns ∧ (∀ n ∈ ns, 0 ≤ n ∧ n < lim) ∧ ∀ G, Same H G → Q (.bl true) G
theorem ok_lot {f fS fA fB fN : Addr} {fd fdS fdA fdB fdN : FuncData} {k : Nat} (F : Fun K "is_lot_below" "is_lot_below" s_is_lot_below f fd) (FS : Fun K "are_numbers_below" "are_numbers_below" s_are_numbers_below fS fdS) (FA : Fun K "is_ascending" "is_ascending" s_is_ascending fA fdA)
    (FB : Fun K "is_number_below" "is_number_below" s_is_number_below fB fdB) (FN : Fun K "is_number" "is_number" s_is_number fN fdN) (bS : Binds K fdS ["value", "limit"] []) (bA : Binds K fdA ["items"] []) (bN : Binds K fdN ["value"] []) (bB : Binds K fdB ["value", "limit"] []) (gS : mg "are_numbers_below" = some (.ref fS)) (gA : mg "is_ascending" = some (.ref fA)) (gN : mg "is_number" = some (.ref fN)) (gB : mg "is_number_below" = some (.ref fB))
    (mI : mg "isinstance" = none) (mi : mg "int" = none) (mb : mg "bool" = none) (mt : mg "tuple" = none) (ma : mg "all" = none) (mr : mg "range" = none) (ml : mg "len" = none) : FnOk P w K mg base CX0 (k + 1 + 1 + 1 + 1) f fd ["value", "limit"] (spLot K) := by
  have GS : FnOk P w K mg base CX0 (k + 1 + 1 + 1) fS fdS ["value", "limit"] (spNums K) := ok_nums FS FB FN bN bB gN gB mI mi mb mt ma
  have GA : FnOk P w K mg base CX0 (k + 1 + 1 + 1) fA fdA ["items"] (spAsc K) := ok_asc FA mr ml ma
  refine F.ok sc_is_lot_below (fun vs H Q E h => ?_) (fun cdv A outer s H vs Q E hr h => ?_)
  · obtain ⟨p, ns, lim, rfl, _⟩ := h
    rfl
  · obtain ⟨p, ns, lim, rfl, ht, hl, ha, hb, q⟩ := h
    refine blk_cons (ps_ret (pe_and (pe_call GS hr (by rfl) gS FS.kp bS .nil pass0 (pa_cons (pv 0) (pa_cons (pv 1) pa_nil))) (pe_one (pe_call GA hr (by rfl) gA FA.kp bA .nil pass0 (pa_cons (pv 0) pa_nil))))) ?_
    refine blk_nil ?_
    refine ⟨_, rfl, _, rfl, .ref p, lim, true, rfl, numsV_ints ht hb hl, fun G s1 => ⟨_, rfl, iteT ⟨_, rfl, p, _, rfl, same_seqT s1 ht, by rw [List.length_map]; exact hl, .inl ⟨ns, rfl, ha⟩, fun G2 s2 => q _ (s1.trans s2)⟩⟩⟩
def spLotN (K : PySem.W.Frag) : Sp := fun vs H Q _ => ∃ (p : Addr) (ss : List Str), vs = [.ref p] ∧ SqT K H p (ss.map V.str) ∧ ss.length ≤ 1000 ∧ AscS ss ∧ (∀ z ∈ ss, Nm z) ∧ ∀ G, Same H G → Q (.bl true) G
theorem ok_lotN {f fM fA : Addr} {fd fdM fdA : FuncData} {k : Nat} {t : Tok} (F : Fun K "is_lot_of_names" "is_lot_of_names" s_is_lot_of_names f fd) (FM : Fun K "is_name" "is_name" s_is_name fM fdM) (FA : Fun K "is_ascending" "is_ascending" s_is_ascending fA fdA)
    (bM : Binds K fdM ["value"] []) (bA : Binds K fdA ["items"] []) (gM : mg "is_name" = some (.ref fM)) (gA : mg "is_ascending" = some (.ref fA)) (gL : mg "MOST_LETTERS" = some (.int 8 t))
    (mI : mg "isinstance" = none) (ms : mg "str" = none) (mt : mg "tuple" = none) (ma : mg "all" = none) (mr : mg "range" = none) (ml : mg "len" = none) : FnOk P w K mg base CX0 (k + 1 + 1) f fd ["value"] (spLotN K) := by
  have GM : FnOk P w K mg base CX0 (k + 1) fM fdM ["value"] spName := ok_name FM gL mI ms ml ma
  have GA : FnOk P w K mg base CX0 (k + 1) fA fdA ["items"] (spAsc K) := ok_asc FA mr ml ma
  refine F.ok sc_is_lot_of_names (fun vs H Q E h => ?_) (fun cdv A outer s H vs Q E hr h => ?_)
  · obtain ⟨p, ss, rfl, _⟩ := h
    rfl
  · obtain ⟨p, ss, rfl, ht, hl, ha, hb, q⟩ := h
    refine blk_cons (ps_ret (pe_and (pe_callB call_isi (by rfl) mI (by decide +kernel) (pa_cons (pv 0) (pa_cons (pe_bltn (v := .ty "tuple") (by rfl) mt (by decide +kernel) rfl) pa_nil)))
      (pe_and (pe_callB (cr_all rfl) (by rfl) ma (by decide +kernel) (pa_cons (pe_lc (own := [("item", 1)]) (g := gName 1) (tt := tYes) rfl sc_is_lot_of_names.nd (pi_tup (pv 0)) (blkOk_by (own := [("item", 1)]) (N := n_is_lot_of_names) (sc := defScope s_is_lot_of_names) (by decide +kernel))
        (fun _ _ _ _ _ => pg_name (i := 1) sc_is_lot_of_names.nd rfl (Or.inl rfl)) (fun _ _ _ _ _ => pts_nil) (fun _ _ _ _ _ => pe_call GM hr (by rfl) gM FM.kp bM .nil pass0 (pa_cons (pv 1) pa_nil))) pa_nil))
      (pe_one (pe_call GA hr (by rfl) gA FA.kp bA .nil pass0 (pa_cons (pv 0) pa_nil)))))) ?_
    refine blk_nil ?_
    refine ⟨_, rfl, _, _, _, _, true, rfl, .ty "tuple", tyT ht, kit_ty (by decide +kernel), _, rfl, iteT ?_⟩
    refine ⟨.ref p, rfl, p, rfl, ⟨_, ht⟩, fun D nD => lc_tup (K := K) (a := p) (xs := ss.map V.str) (fun i G => Same H G ∧ G D = some (.lst ((List.replicate i true).map V.bl))) ⟨same_new nD, upd_same⟩ (fun i G _ hP => same_seqT hP.1 ht) (fun i x G hxi hP => ?_) (fun G hP => ?_)⟩
    · obtain ⟨s1, gD⟩ := hP
      rw [List.getElem?_map] at hxi
      obtain ⟨z, hz, rfl⟩ := Option.map_eq_some_iff.mp hxi
      have hi : i < ss.length := (List.getElem?_eq_some_iff.mp hz).1
      refine ⟨rfl, ?_⟩
      dsimp only [tYes]
      rw [if_pos rfl]
      refine ⟨_, rfl, z, rfl, hb z (List.mem_of_getElem? hz), fun G2 s2 => ⟨_, s2 _ _ gD, ?_, fun b o e => ?_, ?_⟩⟩
      · rw [List.length_map, List.length_replicate]
        exact small1000 (by omega)
      · rw [upd_ne (ne_of_none e nD)]
        exact s2 _ _ (s1 _ _ e)
      · rw [upd_same, List.replicate_succ', List.map_append]
        rfl
    · obtain ⟨s1, gD⟩ := hP
      refine ⟨D, _, rfl, sqL gD, ?_⟩
      rw [show (List.replicate _ true).all id = true from List.all_eq_true.mpr fun x hx => by rw [List.eq_of_mem_replicate hx]; rfl]
      refine ⟨_, rfl, iteT ⟨_, rfl, p, _, rfl, same_seqT s1 ht, by rw [List.length_map]; exact hl, .inr ⟨ss, rfl, ha⟩, fun G2 s2 => q _ (s1.trans s2)⟩⟩
end
end K20
namespace K20
open PySem PySem.Spec PyProof.Rows L2 Gd
section
variable {P : Program} {w : World} {K : PySem.W.Frag} {mg : Str → Option Value} {base : Heap}
/-! ### is_type_pair, of what is -/
def spPair (K : PySem.W.Frag) : Sp := fun vs H Q _ => ∃ (v : V) (p : Str × List Int) (lim : Int), vs = [v, .int lim] ∧ Dp K H v (typeD p) ∧ Nm p.1 ∧ AscI p.2 ∧ (∀ n ∈ p.2, 0 ≤ n ∧ n < lim) ∧ p.2.length ≤ 1000 ∧ ∀ G, Same H G → Q (.bl true) G
theorem ok_pair {f fT fM fL : Addr} {fd fdT fdM fdL : FuncData} {k : Nat} (F : Fun K "is_type_pair" "is_type_pair" s_is_type_pair f fd) (FT : Fun K "is_tuple_of" "is_tuple_of" s_is_tuple_of fT fdT) (FM : Fun K "is_name" "is_name" s_is_name fM fdM) (FL : Fun K "is_lot_below" "is_lot_below" s_is_lot_below fL fdL)
    (bT : Binds K fdT ["value", "length"] []) (bM : Binds K fdM ["value"] []) (bL : Binds K fdL ["value", "limit"] []) (gT : mg "is_tuple_of" = some (.ref fT)) (gM : mg "is_name" = some (.ref fM)) (gL : mg "is_lot_below" = some (.ref fL))
    (GT : FnOk P w K mg base CX0 k fT fdT ["value", "length"] (spTupOf K)) (GM : FnOk P w K mg base CX0 k fM fdM ["value"] spName) (GL : FnOk P w K mg base CX0 k fL fdL ["value", "limit"] (spLot K)) :
    FnOk P w K mg base CX0 (k + 1) f fd ["value", "many_kinds"] (spPair K) := by
  refine F.ok sc_is_type_pair (fun vs H Q E h => ?_) (fun cdv A outer s H vs Q E hr h => ?_)
  · obtain ⟨v, p, lim, rfl, _⟩ := h
    rfl
  · obtain ⟨v, p, lim, rfl, hd, hn, ha, hb, hl, q⟩ := h
    refine blk_cons (ps_ret (pe_and (pe_call GT hr (by rfl) gT FT.kp bT .nil pass0 (pa_cons (pv 0) (pa_cons pe_int pa_nil))) (pe_and (pe_call GM hr (by rfl) gM FM.kp bM .nil pass0 (pa_cons (pe_ix ix_tup (pv 0) pe_int (fun _ _ => rfl)) pa_nil))
      (pe_one (pe_call GL hr (by rfl) gL FL.kp bL .nil pass0 (pa_cons (pe_ix ix_tup (pv 0) pe_int (fun _ _ => rfl)) (pa_cons (pv 1) pa_nil))))))) ?_
    refine blk_nil ?_
    obtain ⟨a, l, rfl, hq, hlq⟩ := type_inv hd
    refine ⟨_, rfl, _, 2, rfl, .inr ⟨a, _, rfl, hq, _, rfl, iteT ?_⟩⟩
    refine ⟨_, rfl, a, _, 0, _, rfl, rfl, hq, atI_nat (j := 0) rfl, p.1, rfl, hn, fun G s1 => ⟨_, rfl, iteT ?_⟩⟩
    exact ⟨_, rfl, a, _, 1, _, rfl, rfl, same_seqT s1 hq, atI_nat (j := 1) rfl, _, rfl, l, p.2, lim, rfl, same_seqT s1 hlq, hl, ha, hb, fun G2 s2 => q _ (s1.trans s2)⟩
/-! ### Table(kinds, types), of what is -/
def spTInit (K : PySem.W.Frag) (C : Addr) : Sp := fun vs H Q _ => ∃ (p dx pk pt : Addr) (t : TD), vs = [.ref p, .ref pk, .ref pt] ∧ H p = some (.ins C dx []) ∧ Dp K H (.ref pk) (kindsD t) ∧ Dp K H (.ref pt) (typesD t) ∧ TOk t ∧
  ∀ G, (∀ b o, b ≠ p → H b = some o → G b = some o) → TblAt K C G p dx pk pt t → Q .non G
theorem ok_tinit {f C fN fP : Addr} {fd fdN fdP : FuncData} {k : Nat} {t1 t2 : Tok} (F : Fun K "__init__" "Table.__init__" s_Table_init f fd) (T : TTxt K mg C) (FN : Fun K "is_lot_of_names" "is_lot_of_names" s_is_lot_of_names fN fdN) (FP : Fun K "is_type_pair" "is_type_pair" s_is_type_pair fP fdP)
    (bN : Binds K fdN ["value"] []) (bP : Binds K fdP ["value", "many_kinds"] []) (gN : mg "is_lot_of_names" = some (.ref fN)) (gP : mg "is_type_pair" = some (.ref fP)) (gK : mg "MOST_KINDS" = some (.int 8 t1)) (gT : mg "MOST_TYPES" = some (.int 12 t2))
    (GN : FnOk P w K mg base CX0 k fN fdN ["value"] (spLotN K)) (GP : FnOk P w K mg base CX0 k fP fdP ["value", "many_kinds"] (spPair K)) (mI : mg "isinstance" = none) (mt : mg "tuple" = none) (ml : mg "len" = none) (mE : mg "enumerate" = none) :
    FnOk P w K mg base CX0 (k + 1) f fd ["self", "kinds", "types"] (spTInit K C) := by
  refine F.ok sc_Table_init (fun vs H Q E h => ?_) (fun cdv A outer s H vs Q E hr h => ?_)
  · obtain ⟨p, dx, pk, pt, t, rfl, _⟩ := h
    rfl
  · obtain ⟨p, dx, pk, pt, t, rfl, hp, hk, ht, ok, q⟩ := h
    refine blk_cons (ps_if (PW.pt (pw_or (pt_not (pt_val (pe_call GN hr (by rfl) gN FN.kp bN .nil pass0 (pa_cons (pv 1) pa_nil)))) (pw_or1 (pt_not (pt_chain op_le op_le pe_int (pe_callB call_len_seq (by rfl) ml PySem.boot_len (pa_cons (pv 1) pa_nil)) (pe_glob (v := .int 8) (by rfl) gK ⟨_, rfl⟩)))))) (pss_one ps_never) pss_nil) ?_
    refine blk_cons (ps_if (PW.pt (pw_or (pt_not (pt_val (pe_callB call_isi (by rfl) mI (by decide +kernel) (pa_cons (pv 2) (pa_cons (pe_bltn (v := .ty "tuple") (by rfl) mt (by decide +kernel) rfl) pa_nil)))))
      (pw_or1 (pt_cmpR op_gt (pe_callB call_len_seq (by rfl) ml PySem.boot_len (pa_cons (pv 2) pa_nil)) (pe_glob (v := .int 12) (by rfl) gT ⟨_, rfl⟩) (nomark _))))) (pss_one ps_never) pss_nil) ?_
    refine blk_cons (ps_for PassesOwn.never rfl (pi_enT (by rfl) mE (pa_cons (pv 2) pa_nil)) (pg_tup rfl (pgs_cons (pg_name (i := 3) sc_Table_init.nd rfl (.inl rfl)) (pgs_cons (pg_name (i := 4) sc_Table_init.nd rfl (.inl rfl)) pgs_nil)))
      (pss_one (ps_if (PW.pt (pw_or (pt_not (pt_val (pe_call GP hr (by rfl) gP FP.kp bP .nil pass0 (pa_cons (pv 4) (pa_cons (pe_callB call_len_seq (by rfl) ml PySem.boot_len (pa_cons (pv 1) pa_nil)) pa_nil)))))
        (pw_or1 (PW.pt (pw_and (pt_cmpR op_gt (pv 3) pe_int (nomark _)) (pw_and1 (pt_cmpR op_le_str (pe_ix ix_tup (pv 4) pe_int (fun _ _ => rfl)) (pe_ix ix_tup (pe_ix ix_tup (pv 2) (pe_op op_sub (pv 3) pe_int) (fun _ _ => rfl)) pe_int (fun _ _ => rfl)) (nomark _)))))))) (pss_one ps_never) pss_nil))) ?_
    refine blk_cons (ps_fld (pv 0) (pv 1) rfl) ?_
    refine blk_cons (ps_fld (pv 0) (pv 2) rfl) ?_
    refine blk_nil ?_
    have k1 := ok.k1
    have k8 := ok.k8
    have t12 := ok.t12
    have hks := kinds_sq hk
    obtain ⟨us, hts, hda⟩ := types_sq ht
    have hlu := dpAll_len hda
    rw [List.length_map] at hlu
    refine ⟨_, rfl, pk, t.kinds, rfl, hks, by omega, ok.ka, ok.kn, fun G1 s1 => ⟨_, rfl, iteF ?_⟩⟩
    refine ⟨_, rfl, pk, _, rfl, .inr (same_seqT s1 hks), _, _, rfl, rfl, _, rfl, ?_⟩
    rw [List.length_map, decide_eq_true (show (1 : Int) ≤ (t.kinds.length : Int) by omega)]
    refine iteT ⟨_, _, rfl, rfl, _, rfl, ?_⟩
    rw [decide_eq_true (show (t.kinds.length : Int) ≤ 8 by omega)]
    refine iteF ?_
    refine ⟨_, rfl, _, _, _, _, true, rfl, .ty "tuple", tyT (same_seqT s1 hts), kit_ty (by decide +kernel), _, rfl, iteF ?_⟩
    refine ⟨_, rfl, pt, _, rfl, .inr (same_seqT s1 hts), _, _, rfl, rfl, _, rfl, ?_⟩
    rw [decide_eq_false (show ¬ (us.length : Int) > 12 by omega)]
    refine iteF ?_
    dsimp only [tNext]
    refine seq_out (t := tFor _ _ _) (fun σ' G' => Same H G' ∧ ∃ y3 y4 : Option V, σ' = [some (.ref p), some (.ref pk), some (.ref pt), y3, y4]) (fun N hN => ?_) (fun σ' G2 hR => ?_)
    · refine ⟨_, rfl, pt, us, rfl, same_seqT s1 hts, for_en (xs := us) (fun i σ G => Same H G ∧ ∃ y3 y4 : Option V, σ = [some (.ref p), some (.ref pk), some (.ref pt), y3, y4]) ⟨s1, _, _, rfl⟩ (fun i σ G _ hP => same_seqT hP.1 hts) (fun i x Tp σ G hx hP nT => ?_) (fun σ G hP => hN _ _ hP)⟩
      obtain ⟨s2, y3, y4, rfl⟩ := hP
      have s3 := s2.trans (same_new (o := .tup [.int (i : Nat), x]) nT)
      have gT' := sqT (K := K) (upd_same (H := G) (a := Tp) (o := .tup [.int (i : Nat), x]))
      generalize upd G Tp (.tup [.int (i : Nat), x]) = G3 at s3 gT' ⊢
      obtain ⟨c, hc, dx1⟩ := type_at hda hx
      have hm := List.mem_of_getElem? hc
      refine ⟨Tp, _, rfl, gT', rfl, _, _, rfl, _, _, rfl, rfl, ?_⟩
      refine ⟨_, rfl, _, rfl, pk, _, rfl, .inr (same_seqT s3 hks), x, c, _, rfl, dp_same s3 _ _ dx1, ok.tn c hm, ok.la c hm, fun n hn => by rw [List.length_map]; exact ok.lb c hm n hn, Nat.le_trans (ok.lot8 hm) (by decide), fun G4 s4 => ⟨_, rfl, iteF ?_⟩⟩
      have s5 := s3.trans s4
      refine ⟨_, rfl, _, _, rfl, rfl, _, rfl, ite2 (fun h0 => ?_) (fun _ => iteF ⟨s5, _, _, rfl⟩)⟩
      have i0 : 0 < i := by
        have := of_decide_eq_true h0
        omega
      obtain ⟨j, rfl⟩ : ∃ j, i = j + 1 := ⟨i - 1, by omega⟩
      obtain ⟨a1, l1, rfl, hq1, _⟩ := type_inv (dp_same s5 _ _ dx1)
      have hj : j < t.types.length := by
        have := (List.getElem?_eq_some_iff.mp hc).1
        omega
      have hcj := List.getElem?_eq_getElem hj
      obtain ⟨v0, hv0, dv0⟩ := types_at hda hcj
      obtain ⟨a0, l0, rfl, hq0, _⟩ := type_inv (dp_same s5 _ _ dv0)
      refine ⟨_, rfl, a1, _, 0, _, rfl, rfl, hq1, atI_nat (j := 0) rfl, _, rfl, _, rfl, _, _, rfl, rfl, pt, us, _, _, rfl, rfl, same_seqT s5 hts, at_of (j := j) (by omega) hv0, a0, _, 0, _, rfl, rfl, hq0, atI_nat (j := 0) rfl, _, _, rfl, rfl, _, rfl, ?_⟩
      have lt := pw_next ok.ta (i := j) (by rw [List.getElem?_map, hcj]; rfl) (by rw [List.getElem?_map, hc]; rfl)
      rw [decide_eq_true lt]
      exact iteF ⟨s5, _, _, rfl⟩
    obtain ⟨s2, y3, y4, rfl⟩ := hR
    have hp2 := s2 _ _ hp
    refine ⟨_, rfl, _, rfl, p, C, dx, _, rfl, hp2, T.cl, T.nK, by show 0 < 1000; decide, ?_⟩
    refine ⟨_, rfl, _, rfl, p, C, dx, _, rfl, upd_same, T.cl, T.nT, Nat.lt_of_le_of_lt (len_putF2 _ _ _) (by show 1 < 1000; decide), ?_⟩
    have keep : ∀ b o, b ≠ p → H b = some o → (upd (upd G2 p (.ins C dx (putF "kinds" (.ref pk) []))) p (.ins C dx (tf pk pt))) b = some o := fun b o hb e => (upd_ne hb).trans ((upd_ne hb).trans (s2 _ _ e))
    have ks : ∀ a xs, SqT K H a xs → SqT K (upd (upd G2 p (.ins C dx (putF "kinds" (.ref pk) []))) p (.ins C dx (tf pk pt))) a xs := sqT_ins hp keep
    exact q _ keep ⟨upd_same, dp_sq ks _ _ (noList_kinds t) hk, dp_sq ks _ _ (noList_types t) ht⟩
end
end K20
namespace K20
open PySem PySem.Spec PyProof.Rows L2 Gd
section
variable {X : Cx}
/-- l[i] where it is added to, i from 0 on -/
theorem get_list : PGet X (fun o i H Q => ∃ (p : Addr) (xs : List V) (j : Nat) (z : V), o = .ref p ∧ i = .int (j : Int) ∧ SqL X.K H p xs ∧ xs[j]? = some z ∧ Q z H) := by
  intro pins s σ H o i ov iv Q I ro ri h
  obtain ⟨p, xs, j, z, rfl, rfl, hq, hz, q⟩ := h
  cases ro
  obtain ⟨t, rfl⟩ := ri
  obtain ⟨its, r, pl, hz2⟩ := I.list hq
  obtain ⟨u, eu, ru⟩ := r.get hz
  have lj : j < xs.length := (List.getElem?_eq_some_iff.mp hz).1
  have l63 := line63
  exact getItem_listL pl.isList (by omega) (by omega) (by rw [Int.toNat_natCast]; exact eu) ⟨z, H, I, ru, q⟩
end
def unitsIn (xs : List Int) (ks : List Nat) : Int := (ks.map fun k => xs.getD k 0).sum
abbrev natsV (ks : List Nat) : List V := ks.map fun k : Nat => V.int (k : Int)
section
variable {P : Program} {w : World} {K : PySem.W.Frag} {mg : Str → Option Value} {base : Heap}
/-! ### units_in -/
def spUnits (K : PySem.W.Frag) : Sp := fun vs H Q _ => ∃ (q kq : Addr) (xs : List Int) (ks : List Nat), vs = [.ref q, .ref kq] ∧ SqT K H q (xs.map V.int) ∧ SqT K H kq (natsV ks) ∧ (∀ k ∈ ks, k < xs.length) ∧ ks.length ≤ 1000 ∧ ∀ G, Same H G → Q (.int (unitsIn xs ks)) G
theorem ok_units {f : Addr} {fd : FuncData} {k : Nat} (F : Fun K "units_in" "units_in" s_units_in f fd) (ms : mg "sum" = none) : FnOk P w K mg base CX0 (k + 1) f fd ["stock", "kinds"] (spUnits K) := by
  refine F.ok sc_units_in (fun vs H Q E h => ?_) (fun cdv A outer s H vs Q E hr h => ?_)
  · obtain ⟨q, kq, xs, ks, rfl, _⟩ := h
    rfl
  · obtain ⟨q0, kq, xs, ks, rfl, hq, hk, hb, hl, q⟩ := h
    refine blk_cons (ps_ret (pe_callB (cr_sum rfl) (by rfl) ms (by decide +kernel) (pa_cons (pe_lc (own := [("kind", 2)]) (g := gName 2) (tt := tYes) rfl sc_units_in.nd (pi_tup (pv 1)) (blkOk_by (own := [("kind", 2)]) (N := n_units_in) (sc := defScope s_units_in) (by decide +kernel))
      (fun _ _ _ _ _ => pg_name (i := 2) sc_units_in.nd rfl (Or.inl rfl)) (fun _ _ _ _ _ => pts_nil) (fun _ _ _ _ _ => pe_ix (r := rIxT K) ix_tup (pv 0) (pv 2) (fun _ _ => rfl))) pa_nil))) ?_
    refine blk_nil ?_
    refine ⟨_, rfl, kq, rfl, ⟨_, hk⟩, fun D nD => lc_tup (xs := natsV ks) (fun i G => Same H G ∧ G D = some (.lst (((ks.take i).map fun k => xs.getD k 0).map V.int))) ⟨same_new nD, upd_same⟩ (fun i G _ hP => same_seqT hP.1 hk) (fun i x G hx hP => ?_) (fun G hP => ?_)⟩
    · obtain ⟨s1, gD⟩ := hP
      rw [List.getElem?_map] at hx
      obtain ⟨kk, hkk, rfl⟩ := Option.map_eq_some_iff.mp hx
      have hlt := hb kk (List.mem_of_getElem? hkk)
      have hi := (List.getElem?_eq_some_iff.mp hkk).1
      refine ⟨rfl, ?_⟩
      dsimp only [tYes]
      rw [if_pos rfl]
      refine ⟨_, rfl, _, rfl, q0, _, _, .int (xs.getD kk 0), rfl, rfl, same_seqT s1 hq, atI_nat (by rw [List.getElem?_map, List.getElem?_eq_getElem hlt, List.getD_eq_getElem?_getD, List.getElem?_eq_getElem hlt]; rfl), _, gD, by rw [List.length_map, List.length_map, List.length_take, sizeLine_eq]; omega, fun bb ob eb => (upd_ne (ne_of_none eb nD)).trans (s1 _ _ eb), ?_⟩
      rw [upd_same, List.take_add_one, hkk, List.map_append, List.map_append]
      rfl
    · obtain ⟨s1, gD⟩ := hP
      rw [show (natsV ks).length = ks.length from List.length_map _, List.take_length] at gD
      exact ⟨D, _, rfl, sqL gD, q _ s1⟩
end
end K20
namespace K20
open PySem PySem.Spec PyProof.Rows L2 Gd
section
variable {P : Program} {w : World} {K : PySem.W.Frag} {mg : Str → Option Value} {base : Heap}
/-! ### accepted -/
def spAcc (K : PySem.W.Frag) (C : Addr) : Sp := fun vs H Q _ => ∃ (p dx pk pt : Addr) (t : TD) (a : Nat) (c : Str × List Int), vs = [.ref p, .int (a : Int)] ∧ TblAt K C H p dx pk pt t ∧ t.types[a]? = some c ∧ ∀ q, SqT K H q (c.2.map V.int) → Q (.ref q) H
theorem ok_acc {f C : Addr} {fd : FuncData} {k : Nat} (F : Fun K "accepted" "accepted" s_accepted f fd) (T : TTxt K mg C) : FnOk P w K mg base CX0 (k + 1) f fd ["table", "request"] (spAcc K C) := by
  refine F.ok sc_accepted (fun vs H Q E h => ?_) (fun cdv A outer s H vs Q E hr h => ?_)
  · obtain ⟨p, dx, pk, pt, t, a, c, rfl, _⟩ := h
    rfl
  · obtain ⟨p, dx, pk, pt, t, a, c, rfl, d, hc, q⟩ := h
    refine blk_cons (ps_ret (pe_ix ix_tup (pe_ix ix_tup (pe_fld (pv 0) rfl) (pv 1) (fun _ _ => rfl)) pe_int (fun _ _ => rfl))) ?_
    refine blk_nil ?_
    obtain ⟨us, hts, hda⟩ := types_sq d.td
    obtain ⟨v, hv, dv⟩ := types_at hda hc
    obtain ⟨a1, l1, rfl, hq1, hl1⟩ := type_inv dv
    exact ⟨_, rfl, p, C, dx, _, _, rfl, d.obj, T.cl, T.nT, tf_t _ _, _, rfl, pt, us, _, _, rfl, rfl, hts, atI_nat hv, a1, _, 1, _, rfl, rfl, hq1, atI_nat (j := 1) rfl, q _ hl1⟩
/-! ### types_of_kinds -/
def spTOf (K : PySem.W.Frag) (C : Addr) : Sp := fun vs H Q _ => ∃ (p dx pk pt kq : Addr) (t : TD) (ks : List Int), vs = [.ref p, .ref kq] ∧ TblAt K C H p dx pk pt t ∧ TOk t ∧ SqT K H kq (ks.map V.int) ∧ ks.length ≤ 1000 ∧ ∀ G q, Same H G → SqT K G q ((typesOf t ks).map V.int) → Q (.ref q) G
theorem ok_tof {f C : Addr} {fd : FuncData} {k : Nat} (F : Fun K "types_of_kinds" "types_of_kinds" s_types_of_kinds f fd) (T : TTxt K mg C) (mt : mg "tuple" = none) (mE : mg "enumerate" = none) (ma : mg "any" = none) : FnOk P w K mg base CX0 (k + 1) f fd ["table", "kinds"] (spTOf K C) := by
  refine F.ok sc_types_of_kinds (fun vs H Q E h => ?_) (fun cdv A outer s H vs Q E hr h => ?_)
  · obtain ⟨p, dx, pk, pt, kq, t, ks, rfl, _⟩ := h
    rfl
  · obtain ⟨p, dx, pk, pt, kq, t, ks, rfl, d, ok, hk, hkl, q⟩ := h
    refine blk_cons (ps_set (i := 2) sc_types_of_kinds.nd rfl (.inl rfl) (pe_lst pa_nil)) ?_
    refine blk_cons (ps_for PassesOwn.never rfl (pi_enT (by rfl) mE (pa_cons (pe_fld (pv 0) rfl) pa_nil)) (pg_tup rfl (pgs_cons (pg_name (i := 3) sc_types_of_kinds.nd rfl (.inl rfl)) (pgs_cons (pg_tup rfl (pgs_cons (pg_name (i := 4) sc_types_of_kinds.nd rfl (.inl rfl)) (pgs_cons (pg_name (i := 5) sc_types_of_kinds.nd rfl (.inr rfl)) pgs_nil))) pgs_nil)))
      (pss_one (ps_if (pt_val (pe_callB (cr_any rfl) (by rfl) ma (by decide +kernel) (pa_cons (pe_lc (own := [("kind", 6)]) (g := gName 6) (tt := tYes) rfl sc_types_of_kinds.nd (pi_tup (pv 1)) (blkOk_by (own := [("kind", 6)]) (N := n_types_of_kinds) (sc := defScope s_types_of_kinds) (by decide +kernel))
        (fun _ _ _ _ _ => pg_name (i := 6) sc_types_of_kinds.nd rfl (Or.inl rfl)) (fun _ _ _ _ _ => pts_nil) (fun _ _ _ _ _ => pe_cmpR (r := rIn K false) op_in_seq (pv 6) (pv 5) (by rfl))) pa_nil)))
        (pss_one (ps_expr (pe_bm PySem.F.plainAttrs_list PySem.F.slot_list_append PySem.F.type_list_append mt_append (pv 2) (pa_cons (pv 3) pa_nil)))) pss_nil))) ?_
    refine blk_cons (ps_ret (pe_callTy call_tuple_of (by rfl) mt (by decide +kernel) (pa_cons (pv 2) pa_nil))) ?_
    refine blk_nil ?_
    obtain ⟨us, hts, hda⟩ := types_sq d.td
    have hlu := dpAll_len hda
    rw [List.length_map] at hlu
    have t12 := ok.t12
    refine ⟨Nat.zero_le _, fun D nD => ?_⟩
    have s0 : Same H (upd H D (.lst [])) := same_new nD
    have hk0 := same_seqT s0 hk
    have d0 := d.same s0
    refine ⟨_, rfl, p, C, dx, _, _, rfl, d0.obj, T.cl, T.nT, tf_t _ _, pt, us, rfl, same_seqT s0 hts, for_en (xs := us) (fun i σ G => Same H G ∧ (∃ y3 y4 y5 : Option V, σ = [some (.ref p), some (.ref kq), some (.ref D), y3, y4, y5, none]) ∧ G D = some (.lst ((idxF (fun a => ks.any fun k => acc t a k) i).map V.int)))
      ⟨s0, ⟨_, _, _, rfl⟩, upd_same⟩ (fun i σ G _ hP => same_seqT hP.1 hts) (fun i x Tp σ G hx hP nT => ?_) (fun σ G hP => ?_)⟩
    · obtain ⟨s1, ⟨y3, y4, y5, rfl⟩, gD⟩ := hP
      obtain ⟨c, hc, dv⟩ := type_at hda hx
      have hi : i < t.types.length := (List.getElem?_eq_some_iff.mp hc).1
      have s2 := s1.trans (same_new (o := .tup [.int (i : Nat), x]) nT)
      have gT' := sqT (K := K) (upd_same (H := G) (a := Tp) (o := .tup [.int (i : Nat), x]))
      have gD2 := (same_new (o := .tup [.int (i : Nat), x]) nT) _ _ gD
      generalize upd G Tp (.tup [.int (i : Nat), x]) = G2 at s2 gT' gD2 ⊢
      obtain ⟨a1, l1, rfl, hq1, hl1⟩ := type_inv (dp_same s2 _ _ dv)
      refine ⟨Tp, _, rfl, gT', rfl, _, _, rfl, _, _, rfl, a1, _, rfl, hq1, rfl, _, _, rfl, _, _, rfl, rfl, rfl, ?_⟩
      have hk2 := same_seqT s2 hk
      refine ⟨_, rfl, kq, rfl, ⟨_, hk2⟩, fun E nE => lc_tup (K := K) (a := kq) (xs := ks.map V.int) (fun j J => Same G2 J ∧ J E = some (.lst (((ks.take j).map fun k => acc t i k).map V.bl))) ⟨same_new nE, upd_same⟩ (fun j J _ hQ => same_seqT hQ.1 hk2) (fun j y J hy hQ => ?_) (fun J hQ => ?_)⟩
      · obtain ⟨s3, gE⟩ := hQ
        obtain ⟨k0, hk0', rfl⟩ := map_at hy
        have hj : j < ks.length := (List.getElem?_eq_some_iff.mp hk0').1
        refine ⟨rfl, ?_⟩
        dsimp only [tYes]
        rw [if_pos rfl]
        refine ⟨_, rfl, _, rfl, l1, _, rfl, .inr (same_seqT s3 hl1), rfl, flat_ints _, ?_⟩
        rw [inV_ints, ← acc_of hc]
        refine ⟨_, gE, ?_, fun b o e => ?_, ?_⟩
        · rw [List.length_map, List.length_map, List.length_take]
          exact small1000 (by omega)
        · rw [upd_ne (ne_of_none e nE)]
          exact s3 _ _ e
        · rw [upd_same, List.take_add_one, hk0', List.map_append, List.map_append]
          rfl
      · obtain ⟨s3, gE⟩ := hQ
        rw [List.length_map, List.take_length] at gE
        refine ⟨E, _, rfl, sqL gE, _, rfl, ?_⟩
        have e1 : (ks.map fun k => acc t i k).any id = ks.any fun k => acc t i k := by rw [List.any_map]; rfl
        rw [e1]
        have gD3 := s3 _ _ gD2
        have s4 := s2.trans s3
        refine ite2 (fun h => ?_) (fun h => ⟨s4, ⟨_, _, _, rfl⟩, by rw [idxF_succ, if_neg h, List.append_nil]; exact gD3⟩)
        refine ⟨.ref D, rfl, .inl ⟨rfl, _, sqL gD3⟩, _, rfl, D, _, _, rfl, rfl, gD3, ?_, fun b o e => ?_, ⟨_, _, _, rfl⟩, ?_⟩
        · have := idxF_len (fun a => ks.any fun k => acc t a k) i
          rw [List.length_map]
          exact small1000 (by omega)
        · rw [upd_ne (ne_of_none e nD)]
          exact s4 _ _ e
        · rw [upd_same, idxF_succ, if_pos h, List.map_append]
          rfl
    · obtain ⟨s1, ⟨y3, y4, y5, rfl⟩, gD⟩ := hP
      rw [hlu] at gD
      exact ⟨_, rfl, D, _, rfl, .inl ⟨sqL gD, fun q1 n1 => q _ q1 (s1.trans (same_new n1)) (sqT upd_same)⟩⟩
/-! ### takers, all_takers, are_alike, types_without -/
def spTakers (K : PySem.W.Frag) (C : Addr) : Sp := fun vs H Q _ => ∃ (p dx pk pt : Addr) (t : TD) (k : Int), vs = [.ref p, .int k] ∧ TblAt K C H p dx pk pt t ∧ TOk t ∧ ∀ G q, Same H G → SqT K G q ((takersL t k).map V.int) → Q (.ref q) G
theorem ok_takers {f fO C : Addr} {fd fdO : FuncData} {k : Nat} (F : Fun K "takers" "takers" s_takers f fd) (FO : Fun K "types_of_kinds" "types_of_kinds" s_types_of_kinds fO fdO) (bO : Binds K fdO ["table", "kinds"] []) (gO : mg "types_of_kinds" = some (.ref fO)) (GO : FnOk P w K mg base CX0 k fO fdO ["table", "kinds"] (spTOf K C)) :
    FnOk P w K mg base CX0 (k + 1) f fd ["table", "kind"] (spTakers K C) := by
  refine F.ok sc_takers (fun vs H Q E h => ?_) (fun cdv A outer s H vs Q E hr h => ?_)
  · obtain ⟨p, dx, pk, pt, t, k, rfl, _⟩ := h
    rfl
  · obtain ⟨p, dx, pk, pt, t, k0, rfl, d, ok, q⟩ := h
    refine blk_cons (ps_ret (pe_call GO hr (by rfl) gO FO.kp bO .nil pass0 (pa_cons (pv 0) (pa_cons (pe_tup (pa_cons (pv 1) pa_nil)) pa_nil)))) ?_
    refine blk_nil ?_
    exact ⟨_, rfl, _, rfl, by show 1 ≤ sizeLine; decide, fun q0 n0 => ⟨p, dx, pk, pt, q0, t, [k0], rfl, d.same (same_new n0), ok, sqT upd_same, by show 1 ≤ 1000; decide, fun G q1 s1 h1 => q G q1 ((same_new n0).trans s1) h1⟩⟩
end
end K20
namespace K20
open PySem PySem.Spec PyProof.Rows L2 Gd
theorem filt_take {α : Type} {p : α → Bool} {l : List α} {i : Nat} {x : α} (h : l[i]? = some x) : (l.take (i + 1)).filter p = (l.take i).filter p ++ (if p x = true then [x] else []) := by
  rw [List.take_add_one, h, List.filter_append]
  congr 1
  by_cases e : p x = true
  · rw [if_pos e]
    exact List.filter_cons_of_pos e
  · rw [if_neg e]
    exact List.filter_cons_of_neg e
theorem filt_len {α : Type} (p : α → Bool) (l : List α) : (l.filter p).length ≤ l.length := List.length_filter_le p l
/-- units of a kind are left -/
def offB (xs : List Int) (k : Int) : Bool := decide (0 < xs.getD k.toNat 0)
def offL (l xs : List Int) : List Int := l.filter (offB xs)
/-- this taker of a kind does not accept each of the others -/
def lacksB (t : TD) (others : List Int) (a : Int) : Bool := others.any fun o => !acc t a.toNat o
def lackO (t : TD) (k : Int) (others : List Int) : Option Int := (takersL t k).find? (lacksB t others)
def leastL (t : TD) (off : List Int) : List Int := off.filter fun k => (lackO t k off).isNone
theorem takers_in {t : TD} {k x : Int} (h : x ∈ takersL t k) : ∃ (a : Nat) (c : Str × List Int), x = (a : Int) ∧ t.types[a]? = some c ∧ k ∈ c.2 := by
  obtain ⟨a, rfl, ha, hb⟩ := idxF_mem.mp h
  refine ⟨a, t.types[a], rfl, List.getElem?_eq_getElem ha, ?_⟩
  have e := acc_of (List.getElem?_eq_getElem ha) k
  have : acc t a k = true := by
    have hb : ([k].any fun k => acc t a k) = true := hb
    simpa using hb
  rw [this] at e
  exact of_decide_eq_true e.symm
section
variable {P : Program} {w : World} {K : PySem.W.Frag} {mg : Str → Option Value} {base : Heap}
/-! ### offered_kinds -/
def spOff (K : PySem.W.Frag) (C : Addr) : Sp := fun vs H Q _ => ∃ (p dx pk pt sq : Addr) (t : TD) (xs : List Int) (a : Nat) (c : Str × List Int), vs = [.ref p, .ref sq, .int (a : Int)] ∧ TblAt K C H p dx pk pt t ∧ TOk t ∧ t.types[a]? = some c ∧ SqT K H sq (xs.map V.int) ∧ xs.length = t.kinds.length ∧ ∀ G q, Same H G → SqT K G q ((offL c.2 xs).map V.int) → Q (.ref q) G
theorem ok_off {f fA C : Addr} {fd fdA : FuncData} {k : Nat} (F : Fun K "offered_kinds" "offered_kinds" s_offered_kinds f fd) (FA : Fun K "accepted" "accepted" s_accepted fA fdA) (bA : Binds K fdA ["table", "request"] []) (gA : mg "accepted" = some (.ref fA)) (GA : FnOk P w K mg base CX0 k fA fdA ["table", "request"] (spAcc K C)) (mt : mg "tuple" = none) :
    FnOk P w K mg base CX0 (k + 1) f fd ["table", "stock", "request"] (spOff K C) := by
  refine F.ok sc_offered_kinds (fun vs H Q E h => ?_) (fun cdv A outer s H vs Q E hr h => ?_)
  · obtain ⟨p, dx, pk, pt, sq, t, xs, a, c, rfl, _⟩ := h
    rfl
  · obtain ⟨p, dx, pk, pt, sq, t, xs, a, c, rfl, d, ok, hc, hs, hl, q⟩ := h
    refine blk_cons (ps_ret (pe_callTy call_tuple_of (by rfl) mt (by decide +kernel) (pa_cons (pe_lc (own := [("kind", 3)]) (g := gName 3) rfl sc_offered_kinds.nd (pi_tup (pe_call GA hr (by rfl) gA FA.kp bA .nil pass0 (pa_cons (pv 0) (pa_cons (pv 2) pa_nil)))) (blkOk_by (own := [("kind", 3)]) (N := n_offered_kinds) (sc := defScope s_offered_kinds) (by decide +kernel))
      (fun _ _ _ _ _ => pg_name (i := 3) sc_offered_kinds.nd rfl (Or.inl rfl)) (fun _ _ _ _ _ => pts_one (pt_cmpR op_gt (pe_ix (r := rIxT K) ix_tup (pv 1) (pv 3) (fun _ _ => rfl)) pe_int (nomark _))) (fun _ _ _ _ _ => pv 3)) pa_nil))) ?_
    refine blk_nil ?_
    have hm : c ∈ t.types := List.mem_of_getElem? hc
    have lb := ok.lb c hm
    have ll := asc_len (ok.la c hm) lb
    have k8 := ok.k8
    refine ⟨_, rfl, _, rfl, p, dx, pk, pt, t, a, c, rfl, d, hc, fun ac hac => ⟨ac, rfl, ⟨_, hac⟩, fun D nD => lc_tup (K := K) (a := ac) (xs := c.2.map V.int) (fun i G => Same H G ∧ G D = some (.lst (((c.2.take i).filter (offB xs)).map V.int))) ⟨same_new nD, upd_same⟩ (fun i G _ hP => same_seqT hP.1 hac) (fun i x G hx hP => ?_) (fun G hP => ?_)⟩⟩
    · obtain ⟨s1, gD⟩ := hP
      obtain ⟨kk, hkk, rfl⟩ := map_at hx
      have hi : i < c.2.length := (List.getElem?_eq_some_iff.mp hkk).1
      have hb := lb kk (List.mem_of_getElem? hkk)
      have hlt : kk.toNat < xs.length := by omega
      refine ⟨rfl, _, rfl, _, rfl, sq, _, (kk.toNat : Int), .int (xs.getD kk.toNat 0), rfl, by rw [Int.toNat_of_nonneg hb.1], same_seqT s1 hs, atI_nat (by rw [List.getElem?_map, List.getElem?_eq_getElem hlt, List.getD_eq_getElem?_getD, List.getElem?_eq_getElem hlt]; rfl), _, _, rfl, rfl, _, rfl, ?_⟩
      refine ite2 (fun h => ⟨_, rfl, _, gD, ?_, fun b o e => ?_, ?_⟩) (fun h => ⟨s1, ?_⟩)
      · rw [List.length_map]
        have := filt_len (offB xs) (c.2.take i)
        rw [List.length_take] at this
        exact small1000 (by omega)
      · rw [upd_ne (ne_of_none e nD)]
        exact s1 _ _ e
      · rw [upd_same, filt_take hkk, if_pos (show offB xs kk = true from h), List.map_append]
        rfl
      · rw [filt_take hkk, if_neg (show ¬ offB xs kk = true from h), List.append_nil]
        exact gD
    · obtain ⟨s1, gD⟩ := hP
      rw [List.length_map, List.take_length] at gD
      exact ⟨D, _, rfl, .inl ⟨sqL gD, fun q1 n1 => q _ q1 (s1.trans (same_new n1)) (sqT upd_same)⟩⟩
/-! ### lacking_taker -/
abbrev onI : Option Int → V := fun o => match o with
  | none => .non
  | some i => .int i
def spLack (K : PySem.W.Frag) (C : Addr) : Sp := fun vs H Q _ => ∃ (p dx pk pt oq : Addr) (t : TD) (k : Int) (os : List Int), vs = [.ref p, .int k, .ref oq] ∧ TblAt K C H p dx pk pt t ∧ TOk t ∧ SqT K H oq (os.map V.int) ∧ os.length ≤ 1000 ∧ ∀ G, Same H G → Q (onI (lackO t k os)) G
theorem ok_lack {f fA fT C : Addr} {fd fdA fdT : FuncData} {k : Nat} (F : Fun K "lacking_taker" "lacking_taker" s_lacking_taker f fd) (FA : Fun K "accepted" "accepted" s_accepted fA fdA) (bA : Binds K fdA ["table", "request"] []) (gA : mg "accepted" = some (.ref fA)) (GA : FnOk P w K mg base CX0 k fA fdA ["table", "request"] (spAcc K C))
    (FT : Fun K "takers" "takers" s_takers fT fdT) (bT : Binds K fdT ["table", "kind"] []) (gT : mg "takers" = some (.ref fT)) (GT : FnOk P w K mg base CX0 k fT fdT ["table", "kind"] (spTakers K C)) (ma : mg "any" = none) :
    FnOk P w K mg base CX0 (k + 1) f fd ["table", "kind", "others"] (spLack K C) := by
  refine F.ok sc_lacking_taker (fun vs H Q E h => ?_) (fun cdv A outer s H vs Q E hr h => ?_)
  · obtain ⟨p, dx, pk, pt, oq, t, k, os, rfl, _⟩ := h
    rfl
  · obtain ⟨p, dx, pk, pt, oq, t, k0, os, rfl, d, ok, ho, hol, q⟩ := h
    refine blk_cons (ps_for PassesOwn.never rfl (pi_tup (pe_call GT hr (by rfl) gT FT.kp bT .nil pass0 (pa_cons (pv 0) (pa_cons (pv 1) pa_nil)))) (pg_name (i := 3) sc_lacking_taker.nd rfl (.inr rfl))
      (pss_one (ps_if (pt_val (pe_callB (cr_any rfl) (by rfl) ma (by decide +kernel) (pa_cons (pe_lc (own := [("other", 4)]) (g := gName 4) (tt := tYes) rfl sc_lacking_taker.nd (pi_tup (pv 2)) (blkOk_by (own := [("other", 4)]) (N := n_lacking_taker) (sc := defScope s_lacking_taker) (by decide +kernel))
        (fun _ _ _ _ _ => pg_name (i := 4) sc_lacking_taker.nd rfl (Or.inl rfl)) (fun _ _ _ _ _ => pts_nil) (fun _ _ _ _ _ => pe_cmpR (r := rIn K true) op_notIn_seq (pv 4) (pe_call GA hr (by rfl) gA FA.kp bA .nil pass0 (pa_cons (pv 0) (pa_cons (pv 3) pa_nil))) (by rfl))) pa_nil)))
        (pss_one (ps_ret (pv 3))) pss_nil))) ?_
    refine blk_cons (ps_ret pe_non) ?_
    refine blk_nil ?_
    refine ⟨_, rfl, _, rfl, p, dx, pk, pt, t, k0, rfl, d, ok, fun G0 tq s0 h0 => ?_⟩
    have t12 := ok.t12
    have tl : (takersL t k0).length ≤ t.types.length := idxF_len _ _
    refine ⟨tq, rfl, ⟨_, h0⟩, for_tup (xs := (takersL t k0).map V.int) (fun i σ G => Same G0 G ∧ (∃ y3, σ = [some (.ref p), some (.int k0), some (.ref oq), y3, none]) ∧ ((takersL t k0).take i).find? (lacksB t os) = none) ⟨Same.refl _, ⟨_, rfl⟩, rfl⟩ (fun i σ G _ hP => same_seqT hP.1 h0) (fun i x σ G hx hP => ?_) (fun σ G hP => ?_)⟩
    · obtain ⟨s1, ⟨y3, rfl⟩, hf⟩ := hP
      obtain ⟨x0, hx0, rfl⟩ := map_at hx
      obtain ⟨a, c, rfl, hc, hkc⟩ := takers_in (List.mem_of_getElem? hx0)
      have ho1 := same_seqT (s0.trans s1) ho
      have d1 := d.same (s0.trans s1)
      refine ⟨_, rfl, ?_⟩
      refine ⟨oq, rfl, ⟨_, ho1⟩, fun D nD => lc_tup (K := K) (a := oq) (xs := os.map V.int) (fun j J => Same G J ∧ J D = some (.lst (((os.take j).map fun o => !acc t a o).map V.bl))) ⟨same_new nD, upd_same⟩ (fun j J _ hQ => same_seqT hQ.1 ho1) (fun j y J hy hQ => ?_) (fun J hQ => ?_)⟩
      · obtain ⟨s2, gD⟩ := hQ
        obtain ⟨o, ho', rfl⟩ := map_at hy
        have hj : j < os.length := (List.getElem?_eq_some_iff.mp ho').1
        refine ⟨rfl, ?_⟩
        dsimp only [tYes]
        rw [if_pos rfl]
        refine ⟨_, rfl, _, rfl, _, rfl, p, dx, pk, pt, t, a, c, rfl, d1.same s2, hc, fun l1 hl1 => ⟨l1, _, rfl, .inr hl1, rfl, flat_ints _, ?_⟩⟩
        rw [inV_ints, ← acc_of hc]
        refine ⟨_, gD, ?_, fun b o e => ?_, ?_⟩
        · rw [List.length_map, List.length_map, List.length_take]
          exact small1000 (by omega)
        · rw [upd_ne (ne_of_none e nD)]
          exact s2 _ _ e
        · rw [upd_same, List.take_add_one, ho', List.map_append, List.map_append]
          rfl
      · obtain ⟨s2, gD⟩ := hQ
        rw [List.length_map, List.take_length] at gD
        refine ⟨D, _, rfl, sqL gD, _, rfl, ?_⟩
        have e1 : (os.map fun o => !acc t a o).any id = lacksB t os (a : Int) := by rw [List.any_map]; rfl
        rw [e1]
        refine ite2 (fun h => ⟨_, rfl, ?_⟩) (fun h => ⟨s1.trans s2, ⟨_, rfl⟩, ?_⟩)
        · have : lackO t k0 os = some (a : Int) := by
            unfold lackO
            rw [← List.take_append_drop i (takersL t k0), List.find?_append, hf]
            have ed : (takersL t k0).drop i = (a : Int) :: (takersL t k0).drop (i + 1) := by
              obtain ⟨h1, h2⟩ := List.getElem?_eq_some_iff.mp hx0
              rw [List.drop_eq_getElem_cons h1, h2]
            rw [ed, List.find?_cons_of_pos h]
            rfl
          rw [this] at q
          exact q _ ((s0.trans s1).trans s2)
        · rw [List.take_add_one, hx0, List.find?_append, hf]
          show ([(a : Int)].find? (lacksB t os)) = none
          rw [List.find?_cons_of_neg h]
          rfl
    · obtain ⟨s1, ⟨y3, rfl⟩, hf⟩ := hP
      rw [List.length_map, List.take_length] at hf
      have : lackO t k0 os = none := hf
      rw [this] at q
      exact q _ (s0.trans s1)
/-! ### least_kinds -/
def spLeast (K : PySem.W.Frag) (C : Addr) : Sp := fun vs H Q _ => ∃ (p dx pk pt sq : Addr) (t : TD) (xs : List Int) (a : Nat) (c : Str × List Int), vs = [.ref p, .ref sq, .int (a : Int)] ∧ TblAt K C H p dx pk pt t ∧ TOk t ∧ t.types[a]? = some c ∧ SqT K H sq (xs.map V.int) ∧ xs.length = t.kinds.length ∧ ∀ G q, Same H G → SqT K G q ((leastL t (offL c.2 xs)).map V.int) → Q (.ref q) G
theorem ok_least {f fO fL C : Addr} {fd fdO fdL : FuncData} {k : Nat} (F : Fun K "least_kinds" "least_kinds" s_least_kinds f fd) (FO : Fun K "offered_kinds" "offered_kinds" s_offered_kinds fO fdO) (bO : Binds K fdO ["table", "stock", "request"] []) (gO : mg "offered_kinds" = some (.ref fO)) (GO : FnOk P w K mg base CX0 k fO fdO ["table", "stock", "request"] (spOff K C))
    (FL : Fun K "lacking_taker" "lacking_taker" s_lacking_taker fL fdL) (bL : Binds K fdL ["table", "kind", "others"] []) (gL : mg "lacking_taker" = some (.ref fL)) (GL : FnOk P w K mg base CX0 k fL fdL ["table", "kind", "others"] (spLack K C)) (mt : mg "tuple" = none) :
    FnOk P w K mg base CX0 (k + 1) f fd ["table", "stock", "request"] (spLeast K C) := by
  refine F.ok sc_least_kinds (fun vs H Q E h => ?_) (fun cdv A outer s H vs Q E hr h => ?_)
  · obtain ⟨p, dx, pk, pt, sq, t, xs, a, c, rfl, _⟩ := h
    rfl
  · obtain ⟨p, dx, pk, pt, sq, t, xs, a, c, rfl, d, ok, hc, hs, hl, q⟩ := h
    refine blk_cons (ps_set (i := 3) sc_least_kinds.nd rfl (.inr rfl) (pe_call GO hr (by rfl) gO FO.kp bO .nil pass0 (pa_cons (pv 0) (pa_cons (pv 1) (pa_cons (pv 2) pa_nil))))) ?_
    refine blk_cons (ps_ret (pe_callTy call_tuple_of (by rfl) mt (by decide +kernel) (pa_cons (pe_lc (own := [("kind", 4)]) (g := gName 4) rfl sc_least_kinds.nd (pi_tup (pv 3)) (blkOk_by (own := [("kind", 4)]) (N := n_least_kinds) (sc := defScope s_least_kinds) (by decide +kernel))
      (fun _ _ _ _ _ => pg_name (i := 4) sc_least_kinds.nd rfl (Or.inl rfl)) (fun _ _ _ _ _ => pts_one (pt_cmpR op_isN (pe_call GL hr (by rfl) gL FL.kp bL .nil pass0 (pa_cons (pv 0) (pa_cons (pv 4) (pa_cons (pv 3) pa_nil)))) pe_non (nomark _))) (fun _ _ _ _ _ => pv 4)) pa_nil))) ?_
    refine blk_nil ?_
    have hm : c ∈ t.types := List.mem_of_getElem? hc
    have ll := asc_len (ok.la c hm) (ok.lb c hm)
    have k8 := ok.k8
    have lo : (offL c.2 xs).length ≤ c.2.length := filt_len _ _
    refine ⟨_, rfl, _, rfl, _, rfl, p, dx, pk, pt, sq, t, xs, a, c, rfl, d, ok, hc, hs, hl, fun G0 oq s0 h0 => ⟨_, rfl, oq, rfl, ⟨_, h0⟩, fun D nD => lc_tup (K := K) (a := oq) (xs := (offL c.2 xs).map V.int) (fun i G => Same G0 G ∧ G D = some (.lst ((((offL c.2 xs).take i).filter fun k => (lackO t k (offL c.2 xs)).isNone).map V.int))) ⟨same_new nD, upd_same⟩ (fun i G _ hP => same_seqT hP.1 h0) (fun i x G hx hP => ?_) (fun G hP => ?_)⟩⟩
    · obtain ⟨s1, gD⟩ := hP
      obtain ⟨kk, hkk, rfl⟩ := map_at hx
      have hi : i < (offL c.2 xs).length := (List.getElem?_eq_some_iff.mp hkk).1
      refine ⟨rfl, _, rfl, _, rfl, _, rfl, p, dx, pk, pt, oq, t, kk, _, rfl, d.same (s0.trans s1), ok, same_seqT s1 h0, by omega, fun G2 s2 => ?_⟩
      have s12 := s1.trans s2
      have gD2 := s2 _ _ gD
      have isn : ∀ o : Option Int, o.isNone = true → onI o = .non := fun o h => by
        cases o with
        | none => rfl
        | some i => cases h
      have lt : (((offL c.2 xs).take i).filter fun k => (lackO t k (offL c.2 xs)).isNone).length ≤ i := by
        have := filt_len (fun k => (lackO t k (offL c.2 xs)).isNone) ((offL c.2 xs).take i)
        rw [List.length_take] at this
        omega
      cases e : lackO t kk (offL c.2 xs) with
      | none =>
        refine ⟨rfl, _, rfl, iteT ⟨_, rfl, _, gD2, ?_, fun b o e => ?_, ?_⟩⟩
        · rw [List.length_map]
          exact small1000 (by omega)
        · rw [upd_ne (ne_of_none e nD)]
          exact s12 _ _ e
        · rw [upd_same, filt_take hkk, if_pos (by rw [e]; rfl), List.map_append]
          rfl
      | some z =>
        refine ⟨rfl, _, rfl, iteF ⟨s12, ?_⟩⟩
        rw [filt_take hkk, if_neg (by rw [e]; exact Bool.false_ne_true), List.append_nil]
        exact gD2
    · obtain ⟨s1, gD⟩ := hP
      rw [List.length_map, List.take_length] at gD
      exact ⟨D, _, rfl, .inl ⟨sqL gD, fun q1 n1 => q _ q1 ((s0.trans s1).trans (same_new n1)) (sqT upd_same)⟩⟩
end
end K20
namespace K20
open PySem PySem.Spec PyProof.Rows L2 Gd
/-- what is asked where an error with a word is raised -/
theorem boom_to {K : PySem.W.Frag} {C : Addr} {σ : L2.St} {H : Hp} {z : Str} {E : XK} (q : ∀ d G, H d = none → Same H G → G d = some (xdS z) → E (.ref C) (some d) G) : tMkO C (spIRef K C) [] (tCons (tC (.str z)) tNil) σ H fun cls d H' => (fun cls d _ H => E cls d H) cls d σ H' := by
  refine ⟨by show 1 ≤ 1000; decide, fun a na => ⟨a, _, rfl, upd_same, fun dx2 n1 n2 => ⟨rfl, dx2, [("word", .str z)], upd_same, (upd_ne n2).trans upd_same, ?_, ?_⟩⟩⟩
  · exact (upd_ne n2).symm.trans n1
  · have n3 : H dx2 = none := (upd_ne n2).symm.trans n1
    refine q dx2 _ n3 (fun b o e => ?_) upd_same
    have ba : b ≠ a := ne_of_none e na
    have bd : b ≠ dx2 := ne_of_none e n3
    rw [upd_ne bd, del_ne ba, upd_ne ba, upd_ne bd, upd_ne ba]
    exact e
def unitsI (xs l : List Int) : Int := unitsIn xs (l.map Int.toNat)
theorem natsV_ints : ∀ {l : List Int}, (∀ n ∈ l, 0 ≤ n) → natsV (l.map Int.toNat) = l.map V.int
  | [], _ => rfl
  | x :: r, h => by
    have hx := h x (List.mem_cons_self ..)
    have ih := natsV_ints (l := r) fun n m => h n (List.mem_cons_of_mem _ m)
    unfold natsV at ih ⊢
    rw [List.map_cons, List.map_cons, List.map_cons, ih, Int.toNat_of_nonneg hx]
theorem getD_bd {xs : List Int} {B : Int} (h : ∀ v ∈ xs, 0 ≤ v ∧ v ≤ B) (hB : 0 ≤ B) (n : Nat) : 0 ≤ xs.getD n 0 ∧ xs.getD n 0 ≤ B := by
  rw [List.getD_eq_getElem?_getD]
  cases q : xs[n]? with
  | none => exact ⟨Int.le_refl _, hB⟩
  | some z => exact h z (List.mem_of_getElem? q)
theorem unitsI_cons (xs : List Int) (x : Int) (l : List Int) : unitsI xs (x :: l) = xs.getD x.toNat 0 + unitsI xs l := by
  unfold unitsI unitsIn
  rw [List.map_cons, List.map_cons, List.sum_cons]
theorem unitsI_bd {xs : List Int} {B : Int} (h : ∀ v ∈ xs, 0 ≤ v ∧ v ≤ B) (hB : 0 ≤ B) : ∀ l : List Int, 0 ≤ unitsI xs l ∧ unitsI xs l ≤ B * l.length
  | [] => ⟨Int.le_refl _, by rw [List.length_nil]; show (0 : Int) ≤ _; omega⟩
  | x :: r => by
    have := getD_bd h hB x.toNat
    have ih := unitsI_bd h hB r
    rw [unitsI_cons, List.length_cons]
    have e : B * ((r.length + 1 : Nat) : Int) = B * (r.length : Int) + B := by
      rw [Int.natCast_add, Int.mul_add]
      omega
    rw [e]
    omega
theorem unitsI_mem {xs : List Int} {B : Int} (h : ∀ v ∈ xs, 0 ≤ v ∧ v ≤ B) (hB : 0 ≤ B) : ∀ {l : List Int} {k : Int}, k ∈ l → xs.getD k.toNat 0 ≤ unitsI xs l
  | x :: r, k, m => by
    rw [unitsI_cons]
    have b1 := getD_bd h hB x.toNat
    have b2 := (unitsI_bd h hB r).1
    rcases List.mem_cons.mp m with rfl | m
    · omega
    · have := unitsI_mem h hB m
      omega
theorem lackO_some {t : TD} {k b : Int} {os : List Int} (h : lackO t k os = some b) : ∃ (a : Nat) (c : Str × List Int), b = (a : Int) ∧ t.types[a]? = some c ∧ k ∈ c.2 ∧ ∃ o ∈ os, o ∉ c.2 := by
  obtain ⟨a, c, rfl, hc, hk⟩ := takers_in (List.mem_of_find?_eq_some h)
  have hb := List.find?_some h
  obtain ⟨o, ho, hn⟩ := List.any_eq_true.mp hb
  refine ⟨a, c, rfl, hc, hk, o, ho, fun hin => ?_⟩
  have e := acc_of hc o
  rw [Int.toNat_natCast, e, decide_eq_true hin] at hn
  cases hn
section
variable {P : Program} {w : World} {K : PySem.W.Frag} {mg : Str → Option Value} {base : Heap}
theorem ok_iref {f C : Addr} {fd : FuncData} {k : Nat} (F : Fun K "__init__" "Refused.__init__" s_Refused_init f fd) (T : WTxt K mg "Refused" C f) : FnOk P w K mg base CX0 (k + 1) f fd ["self", "word"] (spIRef K C) := by
  refine F.ok sc_Refused_init (fun vs H Q E h => ?_) (fun cdv A outer s H vs Q E hr h => ?_)
  · obtain ⟨a, z, rfl, _⟩ := h
    rfl
  · obtain ⟨a, z, rfl, ha, q⟩ := h
    refine blk_cons (ps_ost (pv 0) (pv 1)) ?_
    refine blk_nil ?_
    exact ⟨_, rfl, _, rfl, a, C, rfl, T.ox, T.nW, .inl ⟨ha, fun dx h1 h2 => q dx h1 h2⟩⟩
/-! ### wrong_row -/
def spWR (K : PySem.W.Frag) (C CF : Addr) : Sp := fun vs H Q E => ∃ (p dx pk pt sq : Addr) (t : TD) (xs : List Int) (a : Nat) (c : Str × List Int) (x : V), vs = [.ref p, .ref sq, .int (a : Int), x] ∧ TblAt K C H p dx pk pt t ∧ TOk t ∧ t.types[a]? = some c ∧ SqT K H sq (xs.map V.int) ∧ xs.length = t.kinds.length ∧ (∀ v ∈ xs, 0 ≤ v ∧ v ≤ 400) ∧
  ((∃ k : Int, x = .int k ∧ (k ∉ offL c.2 xs → ∀ d G, H d = none → Same H G → G d = some (xdS "kind") → E (.ref CF) (some d) G) ∧
    (k ∈ offL c.2 xs → lackO t k (offL c.2 xs) = none → ∀ G, Same H G → Q .non G) ∧
    (k ∈ offL c.2 xs → ∀ (b : Nat) (cb : Str × List Int), lackO t k (offL c.2 xs) = some (b : Int) → t.types[b]? = some cb → ∀ G r, Same H G → SqT K G r (List.replicate (unitsI xs cb.2).toNat (.int (b : Int))) → Q (.ref r) G)) ∨
   (NumV K H (xs.length : Int) x false ∧ (∀ i, x ≠ .int i) ∧ ∀ d G, H d = none → Same H G → G d = some (xdS "kind") → E (.ref CF) (some d) G))
theorem ok_wr {f fO fL fA fU fB fR C CF : Addr} {fd fdO fdL fdA fdU fdB fdR : FuncData} {k : Nat} (F : Fun K "wrong_row" "wrong_row" s_wrong_row f fd) (FO : Fun K "offered_kinds" "offered_kinds" s_offered_kinds fO fdO) (bO : Binds K fdO ["table", "stock", "request"] []) (gO : mg "offered_kinds" = some (.ref fO)) (GO : FnOk P w K mg base CX0 (k + 1) fO fdO ["table", "stock", "request"] (spOff K C))
    (FL : Fun K "lacking_taker" "lacking_taker" s_lacking_taker fL fdL) (bL : Binds K fdL ["table", "kind", "others"] []) (gL : mg "lacking_taker" = some (.ref fL)) (GL : FnOk P w K mg base CX0 (k + 1) fL fdL ["table", "kind", "others"] (spLack K C))
    (FA : Fun K "accepted" "accepted" s_accepted fA fdA) (bA : Binds K fdA ["table", "request"] []) (gA : mg "accepted" = some (.ref fA)) (GA : FnOk P w K mg base CX0 (k + 1) fA fdA ["table", "request"] (spAcc K C))
    (FU : Fun K "units_in" "units_in" s_units_in fU fdU) (bU : Binds K fdU ["stock", "kinds"] []) (gU : mg "units_in" = some (.ref fU)) (GU : FnOk P w K mg base CX0 (k + 1) fU fdU ["stock", "kinds"] (spUnits K))
    (FB : Fun K "is_number_below" "is_number_below" s_is_number_below fB fdB) (bB : Binds K fdB ["value", "limit"] []) (gB : mg "is_number_below" = some (.ref fB)) (GB : FnOk P w K mg base CX0 (k + 1) fB fdB ["value", "limit"] (spNumB K))
    (FR : Fun K "__init__" "Refused.__init__" s_Refused_init fR fdR) (TR : WTxt K mg "Refused" CF fR) (bR : Binds K fdR ["self", "word"] []) (GR : FnOk P w K mg base CX0 k fR fdR ["self", "word"] (spIRef K CF)) (ml : mg "len" = none) :
    FnOk P w K mg base (L2.CX P w) (k + 1 + 1) f fd ["table", "stock", "request", "kind"] (spWR K C CF) := by
  refine F.okX sc_wrong_row (fun vs H Q E h => ?_) (fun cdv A outer s H vs Q E hr h => ?_)
  · obtain ⟨p, dx, pk, pt, sq, t, xs, a, c, x, rfl, _⟩ := h
    rfl
  · obtain ⟨p, dx, pk, pt, sq, t, xs, a, c, x, rfl, d, ok, hc, hs, hl, hx4, hx⟩ := h
    refine blk_cons (ps_set (i := 4) sc_wrong_row.nd rfl (.inl rfl) (pe_call GO hr (by rfl) gO FO.kp bO .nil pass0 (pa_cons (pv 0) (pa_cons (pv 1) (pa_cons (pv 2) pa_nil))))) ?_
    refine blk_cons (ps_if (PW.pt (pw_or (pt_not (pt_val (pe_call GB hr (by rfl) gB FB.kp bB .nil pass0 (pa_cons (pv 3) (pa_cons (pe_callB call_len_seq (by rfl) ml PySem.boot_len (pa_cons (pv 1) pa_nil)) pa_nil))))) (pw_or1 (pt_cmpR (r := rIn K true) op_notIn_seq (pv 3) (pv 4) (by rfl)))))
      (pss_one (ps_raise rfl (takes_of rfl rfl rfl rfl) (pmk_oex TR.ox TR.iC TR.tI GR hr bR .nil pass0 (by rfl) TR.gR (pa_cons pe_str pa_nil)))) pss_nil) ?_
    refine blk_cons (ps_set (i := 5) sc_wrong_row.nd rfl (.inl rfl) (pe_call GL hr (by rfl) gL FL.kp bL .nil pass0 (pa_cons (pv 0) (pa_cons (pv 3) (pa_cons (pv 4) pa_nil))))) ?_
    refine blk_cons (ps_if (pt_cmpR op_isN (pv 5) pe_non (nomark _)) (pss_one (ps_ret pe_non)) pss_nil) ?_
    refine blk_cons (ps_ret (pe_op (r := rRepM K) op_repM (pe_tup (pa_cons (pv 5) pa_nil)) (pe_call GU hr (by rfl) gU FU.kp bU .nil pass0 (pa_cons (pv 1) (pa_cons (pe_call GA hr (by rfl) gA FA.kp bA .nil pass0 (pa_cons (pv 0) (pa_cons (pv 5) pa_nil))) pa_nil))))) ?_
    refine blk_nil ?_
    have hm : c ∈ t.types := List.mem_of_getElem? hc
    have lb := ok.lb c hm
    have ll := asc_len (ok.la c hm) lb
    have k8 := ok.k8
    have lo : (offL c.2 xs).length ≤ c.2.length := filt_len _ _
    refine ⟨_, rfl, _, rfl, _, rfl, p, dx, pk, pt, sq, t, xs, a, c, rfl, d, ok, hc, hs, hl, fun G0 oq s0 h0 => ?_⟩
    rcases hx with ⟨k0, rfl, qE, qN, qR⟩ | ⟨hN, hni, qE⟩
    · refine ⟨_, rfl, _, rfl, sq, xs.map V.int, rfl, .inr (same_seqT s0 hs), .int k0, _, decide (0 ≤ k0 ∧ k0 < (xs.map V.int).length), rfl, .inl ⟨k0, rfl, rfl⟩, _, rfl, ?_⟩
      by_cases hin : k0 ∈ offL c.2 xs
      · have hb := lb k0 (List.mem_filter.mp hin).1
        rw [decide_eq_true (by rw [List.length_map]; omega)]
        refine iteF ⟨_, rfl, _, rfl, oq, _, rfl, .inr h0, rfl, flat_ints _, _, rfl, ?_⟩
        rw [inV_ints, decide_eq_true hin]
        refine iteF ⟨_, rfl, _, rfl, _, rfl, p, dx, pk, pt, oq, t, k0, _, rfl, d.same s0, ok, h0, by omega, fun G1 s1 => ?_⟩
        cases e : lackO t k0 (offL c.2 xs) with
        | none => exact ⟨_, rfl, rfl, _, rfl, iteT (qN hin e _ (s0.trans s1))⟩
        | some b0 =>
          obtain ⟨b, cb, rfl, hcb, hkb, _⟩ := lackO_some e
          have hmb : cb ∈ t.types := List.mem_of_getElem? hcb
          have lbb := ok.lb cb hmb
          have llb := asc_len (ok.la cb hmb) lbb
          have s01 := s0.trans s1
          have u1 := unitsI_mem hx4 (by decide) hkb
          have u2 := (unitsI_bd hx4 (by decide) cb.2).2
          have u3 : 0 < xs.getD k0.toNat 0 := of_decide_eq_true (List.mem_filter.mp hin).2
          refine ⟨_, rfl, rfl, _, rfl, iteF ⟨_, rfl, by show 1 ≤ sizeLine; decide, fun tq nt => ?_⟩⟩
          have s2 := s01.trans (same_new (o := .tup [V.int (b : Int)]) nt)
          refine ⟨_, rfl, _, rfl, _, rfl, p, dx, pk, pt, t, b, cb, rfl, d.same s2, hcb, fun lq hlq => ?_⟩
          refine ⟨sq, lq, xs, cb.2.map Int.toNat, rfl, same_seqT s2 hs, by rw [natsV_ints fun n m => (lbb n m).1]; exact hlq, fun n m => ?_, by rw [List.length_map]; omega, fun G3 s3 => ?_⟩
          · obtain ⟨z, hz, rfl⟩ := List.mem_map.mp m
            have := lbb z hz
            omega
          · have e3 : (xs.getD k0.toNat 0) ≤ unitsIn xs (cb.2.map Int.toNat) := u1
            have e4 : unitsIn xs (cb.2.map Int.toNat) ≤ 400 * (cb.2.length : Int) := u2
            exact ⟨tq, _, _, rfl, rfl, same_seqT s3 (sqT upd_same), by omega, by omega, fun G4 r s4 h4 => qR hin b cb e hcb G4 r ((s2.trans s3).trans s4) h4⟩
      · have bm := fun dd G n sm g => qE hin dd G (s0.free n) (s0.trans sm) g
        by_cases hr2 : 0 ≤ k0 ∧ k0 < ((xs.map V.int).length : Int)
        · rw [decide_eq_true hr2]
          refine iteF ⟨_, rfl, _, rfl, oq, _, rfl, .inr h0, rfl, flat_ints _, _, rfl, ?_⟩
          rw [inV_ints, decide_eq_false hin]
          exact iteT (boom_to bm)
        · rw [decide_eq_false hr2]
          exact iteT (boom_to bm)
    · refine ⟨_, rfl, _, rfl, sq, xs.map V.int, rfl, .inr (same_seqT s0 hs), x, _, false, rfl, by rw [List.length_map]; exact hN.same s0, _, rfl, ?_⟩
      exact iteT (boom_to fun dd G n sm g => qE dd G (s0.free n) (s0.trans sm) g)
end
end K20
namespace K20
open PySem PySem.Spec PyProof.Rows L2 Gd
section
variable {P : Program} {w : World} {K : PySem.W.Frag} {mg : Str → Option Value} {base : Heap}
/-! ### _law_names -/
def spNames (K : PySem.W.Frag) : Sp := fun vs H Q _ => ∃ (h l : Addr) (L : List Int) (st : Int) (n : Nat), vs = [.ref h, .int (n : Int)] ∧ Hv H h l L st ∧ n ≤ 12 ∧
  ∀ (G : Hp) (L' : List Int) (st' : Int) (q : Addr) (ss : List Str), But h l H G → Hv G h l L' st' → SqT K G q (ss.map V.str) → GoodN n ss → AscS ss → Q (.ref q) G
theorem ok_names {f fD fP : Addr} {fd fdD fdP : FuncData} {k : Nat} (F : Fun K "_law_names" "_law_names" s__law_names f fd) (FD : Fun K "_law_draw" "_law_draw" s__law_draw fD fdD) (FP : Fun K "_law_pick" "_law_pick" s__law_pick fP fdP)
    (bD : Binds K fdD ["heap", "many"] []) (bP : Binds K fdP ["heap", "some"] []) (gD : mg "_law_draw" = some (.ref fD)) (gP : mg "_law_pick" = some (.ref fP))
    (ml : mg "len" = none) (mi : mg "int" = none) (mr : mg "range" = none) (mt : mg "tuple" = none) (ms : mg "sorted" = none) : FnOk P w K mg base CX0 (k + 1 + 1 + 1) f fd ["heap", "many"] (spNames K) := by
  have GD : FnOk P w K mg base CX0 (k + 1 + 1) fD fdD ["heap", "many"] spDraw := ok_draw FD mi
  have GP : FnOk P w K mg base CX0 (k + 1 + 1) fP fdP ["heap", "some"] (spPick K) := ok_pick FP FD bD gD ml mi
  refine F.ok sc__law_names (fun vs H Q E h => ?_) (fun cdv A outer s H vs Q E hr h => ?_)
  · obtain ⟨h, l, L, st, n, rfl, _⟩ := h
    rfl
  · obtain ⟨h, l, L, st, n, rfl, hv, hn, q⟩ := h
    refine blk_cons (ps_asg (pe_tup (pa_cons pe_str (pa_cons (pe_call GP hr (by rfl) gP FP.kp bP .nil pass0 (pa_cons (pv 0) (pa_cons (pe_lst (pa_cons pe_str (pa_cons pe_str (pa_cons pe_str (pa_cons pe_str (pa_cons pe_str pa_nil)))))) pa_nil))) (pa_cons (pe_call GD hr (by rfl) gD FD.kp bD .nil pass0 (pa_cons (pv 0) (pa_cons pe_int pa_nil))) pa_nil))))
      (pg_tup rfl (pgs_cons (pg_name (i := 2) sc__law_names.nd rfl (.inr rfl)) (pgs_cons (pg_name (i := 3) sc__law_names.nd rfl (.inr rfl)) (pgs_cons (pg_name (i := 4) sc__law_names.nd rfl (.inr rfl)) pgs_nil))))) ?_
    refine blk_cons (ps_setLc (i := 5) (own := [("at", 6)]) (g := gName 6) (tt := tYes) rfl sc__law_names.nd rfl rfl (sw_true rfl rfl rfl (by decide +kernel)) (pi_range1 (by rfl) mr (pa_cons (pv 1) pa_nil)) (blkOk_by (own := [("at", 6)]) (N := n__law_names) (sc := defScope s__law_names) (by decide +kernel))
      (fun _ _ _ _ _ => pg_name (i := 6) sc__law_names.nd rfl (Or.inl rfl)) (fun _ _ _ _ _ => pts_nil)
      (fun _ _ _ _ _ => pe_op op_add_str (pv 3) (pe_ix ix_str (pv 2) (pe_op op_mod (pe_callTy call_int1 (by rfl) mi (by decide +kernel) (pa_cons (pe_op op_add (pv 4) (pe_op op_mul pe_int (pv 6))) pa_nil)) pe_int) (fun _ _ => rfl)))) ?_
    refine blk_cons (ps_if (PW.pt (pw_and (pt_cmpR op_gt (pv 1) pe_int (nomark _)) (pw_and (pt_cmpR op_lt (pe_callB call_len_str (by rfl) ml PySem.boot_len (pa_cons (pv 3) pa_nil)) pe_int (nomark _))
      (pw_and1 (pt_cmpR op_eq (pe_call GD hr (by rfl) gD FD.kp bD .nil pass0 (pa_cons (pv 0) (pa_cons pe_int pa_nil))) pe_int (nomark _)))))) (pss_one (ps_asg (pe_op op_add_str (pe_ix ix_list (pv 5) pe_int (fun _ _ => rfl)) pe_str) (pg_sub (pv 5) pe_int set_list))) pss_nil) ?_
    refine blk_cons (ps_ret (pe_callTy call_tuple_of (by rfl) mt (by decide +kernel) (pa_cons (pe_callB cr_sortedS (by rfl) ms (by decide +kernel) (pa_cons (pv 5) pa_nil)) pa_nil))) ?_
    refine blk_nil ?_
    -- letters, front, first
    refine ⟨_, rfl, by show 5 ≤ sizeLine; decide, fun p np => ?_⟩
    refine ⟨h, l, L, st, p, [.str (Str.ofString ""), .str (Str.ofString ""), .str (Str.ofString "b"), .str (Str.ofString "zz"), .str (Str.ofString "mnopqrs")], rfl, hv.new np, sqL upd_same, (ne_of_none hv.top np).symm, (ne_of_none hv.bot np).symm, by show 0 < 5; decide, by show 5 < 1000; decide, fun G1 L1 st1 i x b1 hv1 hx => ?_⟩
    obtain ⟨z, rfl, hz⟩ : ∃ z, x = .str z ∧ Front z := by
      match i, hx with
      | 0, hx => cases hx; exact ⟨_, rfl, front_lit (by decide +kernel)⟩
      | 1, hx => cases hx; exact ⟨_, rfl, front_lit (by decide +kernel)⟩
      | 2, hx => cases hx; exact ⟨_, rfl, front_lit (by decide +kernel)⟩
      | 3, hx => cases hx; exact ⟨_, rfl, front_lit (by decide +kernel)⟩
      | 4, hx => cases hx; exact ⟨_, rfl, front_lit (by decide +kernel)⟩
      | _ + 5, hx => simp at hx
    refine ⟨_, rfl, h, l, L1, st1, 26, rfl, hv1, by decide, by decide, fun G2 L2 st2 r b2 hv2 r0 r1 => ?_⟩
    obtain ⟨first, rfl⟩ := Int.eq_ofNat_of_zero_le r0
    refine ⟨by show 3 ≤ sizeLine; decide, fun tq ntq => ⟨tq, _, rfl, sqT upd_same, rfl, _, _, rfl, _, _, rfl, _, _, rfl, rfl, ?_⟩⟩
    have b3 := (((But.refl h l H).new np).trans (b1.trans b2)).new (o := .tup [.str zAbc, .str z, .int (first : Int)]) ntq
    have hv3 := hv2.new (o := .tup [.str zAbc, .str z, .int (first : Int)]) ntq
    generalize upd G2 tq (.tup [.str zAbc, .str z, .int (first : Int)]) = G3 at b3 hv3 ⊢
    -- found
    refine ⟨_, rfl, _, rfl, by omega, by omega, fun D nD => ?_⟩
    have neh : h ≠ D := ne_of_none hv3.top nD
    have nel : l ≠ D := ne_of_none hv3.bot nD
    refine lc_range (lo := 0) (n := ((n : Int)).toNat) (fun i G => Same G3 G ∧ G D = some (.lst ((namesN z first i).map V.str))) ⟨same_new nD, upd_same⟩ (fun i G hi hP => ?_) (fun G hP => ?_)
    · obtain ⟨s1, gD⟩ := hP
      refine ⟨rfl, ?_⟩
      dsimp only [tYes]
      rw [if_pos rfl]
      have e1 : (first : Int) + 7 * (0 + (i : Int)) = ((first + 7 * i : Nat) : Int) := by omega
      have hz7 := hz.1
      have hat : atI zAbc.cps.toList (((first : Int) + 7 * (0 + (i : Int))) % 26) = some (letN first i) := by
        have e : ((first : Int) + 7 * (0 + (i : Int))) % 26 = (((first + 7 * i) % 26 : Nat) : Int) := by omega
        rw [e]
        exact atI_nat (abc_at (Nat.mod_lt _ (by decide)))
      refine ⟨_, rfl, _, rfl, _, rfl, _, rfl, _, _, rfl, rfl, .inl ⟨by decide, by decide⟩, _, _, rfl, rfl, .inl ⟨_, rfl, _, _, rfl, rfl, by show (0 : Int) < 26; decide, zAbc, ((first : Int) + 7 * (0 + (i : Int))) % 26, letN first i, rfl, rfl, by decide +kernel, hat, ?_⟩⟩
      refine ⟨z, _, rfl, rfl, ?_, ?_⟩
      · show z.length + 1 ≤ _
        exact Nat.le_trans (Nat.succ_le_succ hz7) (by decide)
      refine ⟨_, gD, ?_, fun b ob e => ?_, ?_⟩
      · rw [List.length_map, namesN_len]
        exact small1000 (by omega)
      · rw [upd_ne (ne_of_none e nD)]
        exact s1 _ _ e
      · rw [upd_same, namesN_succ, List.map_append]
        rfl
    obtain ⟨s4, gD⟩ := hP
    have en : ((n : Int)).toNat = n := by omega
    rw [en] at gD
    have b4 : But h l H G := b3.same s4
    have hv4 := hv3.same s4
    -- if many > 0 and ..
    dsimp only [gName]
    refine seq_out (t := tIfS _ _ _) (fun σ' G' => ∃ (ss : List Str) (L' : List Int) (st' : Int), σ' = [some (.ref h), some (.int (n : Int)), some (.str zAbc), some (.str z), some (.int (first : Int)), some (.ref D), none] ∧ G' D = some (.lst (ss.map V.str)) ∧ GoodN n ss ∧ But h l H G' ∧ Hv G' h l L' st') (fun N hN => ?_) (fun σ' G6 hR => ?_)
    · have plain : ∀ (G6 : Hp) (L6 : List Int) (st6 : Int), G6 D = some (.lst ((namesN z first n).map V.str)) → But h l H G6 → Hv G6 h l L6 st6 → N [some (.ref h), some (.int (n : Int)), some (.str zAbc), some (.str z), some (.int (first : Int)), some (.ref D), none] G6 := fun G6 L6 st6 g1 g2 g3 =>
        hN _ _ ⟨_, L6, st6, rfl, g1, names_good hz first hn, g2, g3⟩
      refine ⟨_, rfl, _, _, rfl, rfl, _, rfl, ite2 (fun h0 => ?_) (fun _ => plain G L2 st2 gD b4 hv4)⟩
      have n0 : 0 < n := by
        have := of_decide_eq_true h0
        omega
      have ga := namesN_at (front := z) (first := first) n0
      refine ⟨_, rfl, z, rfl, Nat.le_trans hz.1 (by decide), _, _, rfl, rfl, _, rfl, ite2 (fun h8 => ?_) (fun _ => plain G L2 st2 gD b4 hv4)⟩
      have l8 : (nameN z first 0).length < 8 := by
        have := of_decide_eq_true h8
        have e : (nameN z first 0).length = z.length + 1 := by
          exact name_len z first 0
        omega
      refine ⟨_, rfl, h, l, L2, st2, 2, rfl, hv4, by decide, by decide, fun G6 L6 st6 r6 b6 hv6 r60 r61 => ?_⟩
      have gD6 := b6 _ _ neh.symm nel.symm gD
      refine ⟨rfl, _, rfl, ite2 (fun _ => ?_) (fun _ => plain G6 L6 st6 gD6 (b4.trans b6) hv6)⟩
      refine ⟨_, rfl, D, _, 0, _, rfl, rfl, sqL gD6, atI_nat (j := 0) (by rw [List.getElem?_map, ga]; rfl), _, _, rfl, rfl, ?_, ?_⟩
      · have := (name_nm hz first 0).1.2
        exact Nat.le_trans (Nat.add_le_add this (show (Str.ofString "o").length ≤ 1 by decide +kernel)) (by decide)
      refine ⟨_, rfl, D, _, _, 0, rfl, rfl, gD6, ixN_nat (a := 0) (by rw [List.length_map, namesN_len]; exact n0), ?_⟩
      refine hN _ _ ⟨(namesN z first n).set 0 (nameN z first 0 ++ Str.ofString "o"), L6, st6, rfl, ?_, names_o hz first hn l8 (by decide +kernel), fun b ob e1 e2 e => ?_, ⟨(upd_ne neh).trans hv6.top, (upd_ne nel).trans hv6.bot, hv6.ne, hv6.lo, hv6.hi, hv6.len⟩⟩
      · rw [upd_same, List.map_set]
      · have e0 := b3 b ob e1 e2 e
        rw [upd_ne (ne_of_none e0 nD)]
        exact b6 _ _ e1 e2 (s4 _ _ e0)
    obtain ⟨ss, L6, st6, rfl, gD6, gs, b6, hv6⟩ := hR
    refine ⟨_, rfl, D, ss, rfl, sqL gD6, by have := gs.1; omega, fun ys p7 hp hs np7 => ?_⟩
    have gy := good_perm gs hp
    refine ⟨p7, _, rfl, .inl ⟨sqL upd_same, fun q8 nq8 => ?_⟩⟩
    exact q _ L6 st6 q8 ys ((b6.new np7).new nq8) ((hv6.new np7).new nq8) (sqT upd_same) gy (sorted_asc hs gy.2.2)
end
end K20
namespace Gd
open PySem PySem.Spec PyProof.Rows L2
def LotOk (kk : Nat) (ls : List Int) : Prop := AscI ls ∧ ∀ n ∈ ls, 0 ≤ n ∧ n < (kk : Int)
theorem lot_idx (g : Nat → Bool) (n : Nat) : LotOk n (idxF g n) := ⟨idxF_asc g n, fun x hx => by
  obtain ⟨i, rfl, hi, _⟩ := idxF_mem.mp hx
  omega⟩
theorem lot_nil (n : Nat) : LotOk n [] := ⟨.nil, fun _ h => absurd h List.not_mem_nil⟩
def rowD (l : List Int) : PyData := .tuple (l.map .int)
def lotsD (ls : List (List Int)) : List PyData := ls.map rowD
def LotsAt (K : PySem.W.Frag) (H : Hp) (F : Addr) (ls : List (List Int)) : Prop := ∃ vs, H F = some (.lst vs) ∧ DpAll K H vs (lotsD ls)
theorem noList_row (l : List Int) : noList (rowD l) = true := by
  rw [rowD, noList]
  exact noListAll_mem fun d hd => by
    obtain ⟨x, _, rfl⟩ := List.mem_map.mp hd
    rfl
theorem noList_lots (ls : List (List Int)) : noListAll (lotsD ls) = true := noListAll_mem fun d hd => by
  obtain ⟨l, _, rfl⟩ := List.mem_map.mp hd
  exact noList_row l
theorem row_at {K : PySem.W.Frag} {H : Hp} {us : List V} {lots : List (List Int)} {i : Nat} {x : V} (h : DpAll K H us (lotsD lots)) (e : us[i]? = some x) : ∃ l, lots[i]? = some l ∧ Dp K H x (rowD l) := by
  induction us generalizing lots i with
  | nil => simp at e
  | cons u us ih =>
    match lots, h with
    | l :: ls, .cons h1 h2 =>
      cases i with
      | zero =>
        cases e
        exact ⟨l, rfl, h1⟩
      | succ i =>
        have := ih (lots := ls) (i := i) h2 e
        exact this
theorem row_inv {K : PySem.W.Frag} {H : Hp} {v : V} {l : List Int} (h : Dp K H v (rowD l)) : ∃ q, v = .ref q ∧ SqT K H q (l.map V.int) := by
  exact tints_inv h
theorem rows_fine {lots : List (List Int)} {kk : Nat} (hk : kk ≤ 12) (hl : lots.length ≤ 1000) (h : ∀ l ∈ lots, LotOk kk l) : SeqAt.shaped (.list (lotsD lots)) = true := by
  refine fine_shaped ?_ ?_
  · rw [fine]
    exact fineAll_mem fun d hd => by
      obtain ⟨l, hl, rfl⟩ := List.mem_map.mp hd
      rw [rowD, fine]
      exact fineAll_mem fun d hd => by
        obtain ⟨x, hx, rfl⟩ := List.mem_map.mp hd
        have := (h l hl).2 x hx
        exact decide_eq_true (by omega)
  · rw [PyData.depth]
    have : PyData.depthAll (lotsD lots) ≤ 2 := depthAll_mem fun d hd => by
      obtain ⟨p, _, rfl⟩ := List.mem_map.mp hd
      have e : PyData.depthAll (p.map .int) ≤ 1 := depthAll_mem fun d hd => by
        obtain ⟨x, _, rfl⟩ := List.mem_map.mp hd
        simp [PyData.depth]
      simp only [rowD, PyData.depth]
      omega
    omega
end Gd
namespace K20
open PySem PySem.Spec PyProof.Rows L2 Gd
section
variable {P : Program} {w : World} {K : PySem.W.Frag} {mg : Str → Option Value} {base : Heap}
/-! ### _law_lots -/
def spLots (K : PySem.W.Frag) : Sp := fun vs H Q _ => ∃ (h l : Addr) (L : List Int) (st : Int) (kk tt : Nat), vs = [.ref h, .int (kk : Int), .int (tt : Int)] ∧ Hv H h l L st ∧ kk ≤ 8 ∧ tt ≤ 12 ∧
  ∀ (G : Hp) (L' : List Int) (st' : Int) (F : Addr) (lots : List (List Int)), But h l H G → Hv G h l L' st' → F ≠ h → F ≠ l → LotsAt K G F lots → lots.length = tt → (∀ l ∈ lots, LotOk kk l) → Q (.ref F) G
theorem ok_lots {f fD fP : Addr} {fd fdD fdP : FuncData} {k : Nat} (F : Fun K "_law_lots" "_law_lots" s__law_lots f fd) (FD : Fun K "_law_draw" "_law_draw" s__law_draw fD fdD) (FP : Fun K "_law_pick" "_law_pick" s__law_pick fP fdP)
    (bD : Binds K fdD ["heap", "many"] []) (bP : Binds K fdP ["heap", "some"] []) (gD : mg "_law_draw" = some (.ref fD)) (gP : mg "_law_pick" = some (.ref fP))
    (GD : FnOk P w K mg base CX0 k fD fdD ["heap", "many"] spDraw) (GP : FnOk P w K mg base CX0 k fP fdP ["heap", "some"] (spPick K)) (mr : mg "range" = none) (mt : mg "tuple" = none) : FnOk P w K mg base CX0 (k + 1) f fd ["heap", "kinds", "types"] (spLots K) := by
  refine F.ok sc__law_lots (fun vs H Q E h => ?_) (fun cdv A outer s H vs Q E hr h => ?_)
  · obtain ⟨h, l, L, st, kk, tt, rfl, _⟩ := h
    rfl
  · obtain ⟨h, l, L, st, kk, tt, rfl, hv, k8, t12, q⟩ := h
    refine blk_cons (ps_set (i := 3) sc__law_lots.nd rfl (.inl rfl) (pe_lst pa_nil)) ?_
    refine blk_cons (ps_for PassesOwn.never rfl (pi_range1 (by rfl) mr (pa_cons (pv 2) pa_nil)) (pg_name (i := 4) sc__law_lots.nd rfl (.inl rfl))
      (pss_cons (ps_set (i := 5) sc__law_lots.nd rfl (.inr rfl) (pe_call GP hr (by rfl) gP FP.kp bP .nil pass0 (pa_cons (pv 0) (pa_cons (pe_lst (pa_cons pe_int (pa_cons pe_int (pa_cons pe_int (pa_cons pe_int pa_nil))))) pa_nil))))
      (pss_cons (ps_set (i := 6) sc__law_lots.nd rfl (.inl rfl) (pe_callTy call_tuple_of (by rfl) mt (by decide +kernel) (pa_cons (pe_lc (own := [("kind", 7)]) (g := gName 7) rfl sc__law_lots.nd (pi_range1 (by rfl) mr (pa_cons (pv 1) pa_nil)) (blkOk_by (own := [("kind", 7)]) (N := n__law_lots) (sc := defScope s__law_lots) (by decide +kernel))
        (fun _ _ _ _ _ => pg_name (i := 7) sc__law_lots.nd rfl (Or.inl rfl)) (fun _ _ _ _ _ => pts_one (pt_cmpR op_eq (pe_call GD hr (by rfl) gD FD.kp bD .nil pass0 (pa_cons (pv 0) (pa_cons (pv 5) pa_nil))) pe_int (nomark _))) (fun _ _ _ _ _ => pv 7)) pa_nil)))
      (pss_cons (ps_if (PW.pt (pw_and (pt_cmpR (op_neD hr.units) (pv 3) (pe_lst pa_nil) (nomark _)) (pw_and1 (pt_cmpR op_eq (pe_call GD hr (by rfl) gD FD.kp bD .nil pass0 (pa_cons (pv 0) (pa_cons pe_int pa_nil))) pe_int (nomark _))))) (pss_one (ps_set (i := 6) sc__law_lots.nd rfl (.inl rfl) (pe_call GP hr (by rfl) gP FP.kp bP .nil pass0 (pa_cons (pv 0) (pa_cons (pv 3) pa_nil))))) pss_nil)
      (pss_one (ps_expr (pe_bm PySem.F.plainAttrs_list PySem.F.slot_list_append PySem.F.type_list_append mt_append (pv 3) (pa_cons (pe_ifExp (pt_cmpR op_gt (pe_call GD hr (by rfl) gD FD.kp bD .nil pass0 (pa_cons (pv 0) (pa_cons pe_int pa_nil))) pe_int (nomark _)) (pv 6) (pe_tup pa_nil)) pa_nil)))))))) ?_
    refine blk_cons (ps_ret (pv 3)) ?_
    refine blk_nil ?_
    refine ⟨Nat.zero_le _, fun F nF => ?_⟩
    have nFh : h ≠ F := ne_of_none hv.top nF
    have nFl : l ≠ F := ne_of_none hv.bot nF
    have hv1 := hv.new (o := .lst []) nF
    have b1 := (But.refl h l H).new (o := .lst []) nF
    have gF := upd_same (H := H) (a := F) (o := .lst [])
    generalize upd H F (.lst []) = G1 at hv1 b1 gF ⊢
    have nF0 := nF
    dsimp only [gName]
    refine ⟨_, rfl, _, rfl, by omega, by omega, for_range (lo := 0) (n := ((tt : Int)).toNat) (fun i σ G => ∃ (lots : List (List Int)) (y4 y5 y6 y7 : Option V) (L' : List Int) (st' : Int), σ = [some (.ref h), some (.int (kk : Int)), some (.int (tt : Int)), some (.ref F), y4, y5, y6, y7] ∧ But h l H G ∧ Hv G h l L' st' ∧ LotsAt K G F lots ∧ lots.length = i ∧ ∀ l ∈ lots, LotOk kk l)
      ⟨[], _, _, _, _, L, st, rfl, b1, hv1, ⟨[], gF, .nil⟩, rfl, fun _ h => absurd h List.not_mem_nil⟩ (fun i σ G hi hP => ?_) (fun σ G hP => ?_)⟩
    · obtain ⟨lots, y4, y5, y6, y7, L3, st3, rfl, b3, hv3, ⟨vs, gF3, hd3⟩, hl3, hk3⟩ := hP
      have hi' : i < tt := by omega
      dsimp only [gName]
      -- share
      refine ⟨_, rfl, by show 4 ≤ sizeLine; decide, fun p5 n5 => ?_⟩
      refine ⟨h, l, L3, st3, p5, [.int 2, .int 2, .int 3, .int 1], rfl, hv3.new n5, sqL upd_same, (ne_of_none hv3.top n5).symm, (ne_of_none hv3.bot n5).symm, by show 0 < 4; decide, by show 4 < 1000; decide, fun G6 L6 st6 j6 x6 b6 hv6 hx6 => ?_⟩
      obtain ⟨sh, rfl, sh0, sh1⟩ : ∃ sh : Int, x6 = .int sh ∧ 0 < sh ∧ sh < 1000 := by
        match j6, hx6 with
        | 0, hx6 => cases hx6; exact ⟨_, rfl, by decide, by decide⟩
        | 1, hx6 => cases hx6; exact ⟨_, rfl, by decide, by decide⟩
        | 2, hx6 => cases hx6; exact ⟨_, rfl, by decide, by decide⟩
        | 3, hx6 => cases hx6; exact ⟨_, rfl, by decide, by decide⟩
        | _ + 4, hx6 => simp at hx6
      have s5 : Same G (upd G p5 (.lst [.int 2, .int 2, .int 3, .int 1])) := same_new n5
      have k6 : KeepT G G6 := (KeepT.of s5).trans (KeepT.but (hv3.same s5) b6)
      have b06 : But h l H G6 := b3.trans (((But.refl h l G).same s5).trans b6)
      have gF6 := b6 _ _ nFh.symm nFl.symm (s5 _ _ gF3)
      have hd6 := dpAll_keep k6 _ _ (noList_lots lots) hd3
      -- lot
      refine ⟨_, rfl, _, rfl, by omega, by omega, fun D nD => ?_⟩
      have neh : h ≠ D := ne_of_none hv6.top nD
      have nel : l ≠ D := ne_of_none hv6.bot nD
      refine lc_range (lo := 0) (n := ((kk : Int)).toNat) (fun j J => But h l G6 J ∧ (∃ L4 st4, Hv J h l L4 st4) ∧ ∃ g : Nat → Bool, J D = some (.lst ((idxF g j).map V.int))) ⟨(But.refl _ _ _).new nD, ⟨_, _, hv6.new nD⟩, fun _ => false, upd_same⟩ (fun j J hj hQ => ?_) (fun J hQ => ?_)
      · obtain ⟨bj, ⟨L1, st1, hv1⟩, g, gD1⟩ := hQ
        refine ⟨rfl, _, rfl, _, rfl, h, l, L1, st1, sh, rfl, hv1, sh0, by omega, fun G2 L2 st2 r b2 hv2 r0 r1 => ?_⟩
        have gD2 := b2 _ _ neh.symm nel.symm gD1
        have ez : (0 + (j : Int)) = (j : Int) := by omega
        have same : ∀ b : Bool, idxF (fun a => if a = j then b else g a) j = idxF g j := fun b => idxF_congr fun a ha => if_neg (by omega)
        refine ⟨rfl, _, rfl, ite2 (fun _ => ?_) (fun _ => ⟨fun b o e1 e2 e => b2 _ _ e1 e2 (bj _ _ e1 e2 e), ⟨L2, st2, hv2⟩, fun a => if a = j then false else g a, ?_⟩)⟩
        · refine ⟨_, rfl, _, gD2, ?_, fun b ob e1 e2 e => ?_, ⟨L2, st2, ⟨(upd_ne neh).trans hv2.top, (upd_ne nel).trans hv2.bot, hv2.ne, hv2.lo, hv2.hi, hv2.len⟩⟩, fun a => if a = j then true else g a, ?_⟩
          · have := idxF_len g j
            rw [List.length_map]
            exact small1000 (by omega)
          · rw [upd_ne (ne_of_none e nD)]
            exact b2 _ _ e1 e2 (bj _ _ e1 e2 e)
          · rw [upd_same, idxF_succ, same, if_pos (if_pos rfl), List.map_append, ez]
            rfl
        · rw [idxF_succ, same, if_neg (by rw [if_pos rfl]; exact Bool.false_ne_true), List.append_nil]
          exact gD2
      obtain ⟨bj, ⟨L7, st7, hv7⟩, g, gD1⟩ := hQ
      rw [show ((kk : Int)).toNat = kk by omega] at gD1
      refine ⟨D, _, rfl, .inl ⟨sqL gD1, fun lq nlq => ?_⟩⟩
      have sl : Same J (upd J lq (.tup ((idxF g kk).map V.int))) := same_new nlq
      have hlq := sqT (K := K) (upd_same (H := J) (a := lq) (o := .tup ((idxF g kk).map V.int)))
      have k7 : KeepT G6 J := KeepT.but hv6 bj
      have b07 : But h l H (upd J lq (.tup ((idxF g kk).map V.int))) := (b06.trans bj).same sl
      have gF7 := sl _ _ (bj _ _ nFh.symm nFl.symm gF6)
      have hd7 := dpAll_same sl _ _ (dpAll_keep k7 _ _ (noList_lots lots) hd6)
      have hv7' := hv7.same sl
      generalize upd J lq (.tup ((idxF g kk).map V.int)) = G7 at sl hlq b07 gF7 hd7 hv7' ⊢
      -- if found != [] and ..
      dsimp only [gName]
      refine seq_out (t := tIfS _ _ _) (fun σ' G' => ∃ (lq : Addr) (ls : List Int) (L' : List Int) (st' : Int), σ' = [some (.ref h), some (.int (kk : Int)), some (.int (tt : Int)), some (.ref F), some (.int (0 + (i : Int))), some (.int sh), some (.ref lq), y7] ∧ SqT K G' lq (ls.map V.int) ∧ LotOk kk ls ∧ But h l H G' ∧ Hv G' h l L' st' ∧ G' F = some (.lst vs) ∧ DpAll K G' vs (lotsD lots)) (fun N2 hN2 => ?_) (fun σ' G8 hR => ?_)
      · refine ⟨_, rfl, Nat.zero_le _, fun p8 n8 => ?_⟩
        have s8 : Same G7 (upd G7 p8 (.lst [])) := same_new n8
        refine ⟨_, _, .lst (sqL (s8 _ _ gF7)) (dpAll_same s8 _ _ hd7), .lst (sqL upd_same) .nil, rows_fine (kk := kk) (by omega) (by omega) hk3, rfl, _, rfl, ?_⟩
        have gF8 := s8 _ _ gF7
        have hd8 := dpAll_same s8 _ _ hd7
        have b08 := b07.same s8
        have hv8 := hv7'.same s8
        have hq8 := same_seqT s8 hlq
        generalize upd G7 p8 (.lst []) = G8 at s8 gF8 hd8 b08 hv8 hq8 ⊢
        rw [eqv_nilD]
        refine ite2 (fun e => ?_) (fun _ => hN2 _ _ ⟨lq, _, L7, st7, rfl, hq8, lot_idx g kk, b08, hv8, gF8, hd8⟩)
        have hpos : 0 < vs.length := by
          rw [dpAll_len hd8]
          cases e0 : lotsD lots with
          | nil => rw [e0] at e; cases e
          | cons _ _ => exact Nat.zero_lt_succ _
        refine ⟨_, rfl, h, l, L7, st7, 6, rfl, hv8, by decide, by decide, fun G9 L9 st9 r9 b9 hv9 r90 r91 => ?_⟩
        have k9 := KeepT.but hv8 b9
        have gF9 := b9 _ _ nFh.symm nFl.symm gF8
        have hd9 := dpAll_keep k9 _ _ (noList_lots lots) hd8
        have b09 := b08.trans b9
        refine ⟨rfl, _, rfl, ite2 (fun _ => ?_) (fun _ => hN2 _ _ ⟨lq, _, L9, st9, rfl, k9.seqT hq8, lot_idx g kk, b09, hv9, gF9, hd9⟩)⟩
        have hvl := dpAll_len hd9
        refine ⟨_, rfl, _, rfl, h, l, L9, st9, F, vs, rfl, hv9, sqL gF9, nFh.symm, nFl.symm, hpos, by rw [hvl]; unfold lotsD; rw [List.length_map]; omega, fun G10 L10 st10 j10 x10 b10 hv10 hx10 => ?_⟩
        have k10 := KeepT.but hv9 b10
        obtain ⟨l10, hl10, d10⟩ := row_at hd9 hx10
        obtain ⟨q10, rfl, hq10⟩ := row_inv d10
        exact hN2 _ _ ⟨q10, l10, L10, st10, rfl, k10.seqT hq10, hk3 _ (List.mem_of_getElem? hl10), b09.trans b10, hv10, b10 _ _ nFh.symm nFl.symm gF9, dpAll_keep k10 _ _ (noList_lots lots) hd9⟩
      obtain ⟨lq2, ls, L8, st8, rfl, hq8, hk8, b08, hv8, gF8, hd8⟩ := hR
      -- found.append(..)
      refine ⟨_, rfl, .inl ⟨rfl, _, sqL gF8⟩, _, rfl, h, l, L8, st8, 12, rfl, hv8, by decide, by decide, fun G9 L9 st9 r9 b9 hv9 r90 r91 => ?_⟩
      have k9 := KeepT.but hv8 b9
      have gF9 := b9 _ _ nFh.symm nFl.symm gF8
      have hd9 := dpAll_keep k9 _ _ (noList_lots lots) hd8
      have b09 := b08.trans b9
      have hq9 := k9.seqT hq8
      have fin : ∀ (G9 : Hp) (lr : Addr) (lz : List Int), But h l H G9 → Hv G9 h l L9 st9 → G9 F = some (.lst vs) → DpAll K G9 vs (lotsD lots) → SqT K G9 lr (lz.map V.int) → LotOk kk lz →
          ∃ l0 vs0 v1, V.ref F = .ref l0 ∧ [V.ref lr] = [v1] ∧ G9 l0 = some (.lst vs0) ∧ vs0.length < sizeLine ∧
            ∃ (lots : List (List Int)) (y4' y5' y6' y7' : Option V) (L' : List Int) (st' : Int), [some (.ref h), some (.int (kk : Int)), some (.int (tt : Int)), some (.ref F), some (.int (0 + (i : Int))), some (.int sh), some (.ref lq2), y7] = [some (.ref h), some (.int (kk : Int)), some (.int (tt : Int)), some (.ref F), y4', y5', y6', y7'] ∧
              But h l H (upd G9 l0 (.lst (vs0 ++ [v1]))) ∧ Hv (upd G9 l0 (.lst (vs0 ++ [v1]))) h l L' st' ∧ LotsAt K (upd G9 l0 (.lst (vs0 ++ [v1]))) F lots ∧ lots.length = i + 1 ∧ ∀ l ∈ lots, LotOk kk l := by
        intro G9 lr lz b9 hv9 gF9 hd9 hlr lok9
        refine ⟨F, vs, .ref lr, rfl, rfl, gF9, ?_, lots ++ [lz], _, _, _, _, L9, st9, rfl, fun b o e1 e2 e => (upd_ne (ne_of_none e nF0)).trans (b9 b o e1 e2 e), ?_, ⟨_, upd_same, ?_⟩, ?_, ?_⟩
        · rw [dpAll_len hd9]
          unfold lotsD
          rw [List.length_map]
          exact small1000 (by omega)
        · exact ⟨(upd_ne nFh).trans hv9.top, (upd_ne nFl).trans hv9.bot, hv9.ne, hv9.lo, hv9.hi, hv9.len⟩
        · have k10 : KeepT G9 (upd G9 F (.lst (vs ++ [.ref lr]))) := .put gF9
          unfold lotsD
          rw [List.map_append]
          exact dpAll_snoc (dpAll_keep k10 _ _ (noList_lots lots) hd9) (dp_tup (k10.seqT hlr))
        · rw [List.length_append, hl3]
          rfl
        · intro c hc
          rcases List.mem_append.mp hc with m | m
          · exact hk3 c m
          · rw [List.mem_singleton.mp m]
            exact lok9
      refine ⟨_, _, rfl, rfl, _, rfl, ite2 (fun _ => ⟨_, rfl, fin G9 lq2 ls b09 hv9 gF9 hd9 hq9 hk8⟩) (fun _ => ?_)⟩
      refine ⟨Nat.zero_le _, fun p10 n10 => ?_⟩
      have s10 : Same G9 (upd G9 p10 (.tup [])) := same_new n10
      exact fin _ p10 [] (b09.same s10) (hv9.same s10) (s10 _ _ gF9) (dpAll_same s10 _ _ hd9) (sqT upd_same) (lot_nil kk)
    · obtain ⟨lots, y4, y5, y6, y7, L', st', rfl, b2, hv2, ha, hl, hk⟩ := hP
      exact ⟨_, rfl, q G L' st' F lots b2 hv2 nFh.symm nFl.symm ha (by omega) hk⟩
end
end K20
namespace Gd
open PySem PySem.Spec PyProof.Rows L2
/-! ways in a forest -/
def itF (ab : List Int) : Nat → Int → Int
  | 0, p => p
  | i + 1, p => if 0 ≤ itF ab i p then ab.getD (itF ab i p).toNat (-1) else itF ab i p
def wayF (ab : List Int) : Nat → Int → List Int
  | 0, _ => []
  | i + 1, p => wayF ab i p ++ if 0 ≤ itF ab i p then [itF ab i p] else []
def AbOk (ab : List Int) : Prop := ∀ (i : Nat) (x : Int), ab[i]? = some x → -1 ≤ x ∧ x < (i : Int)
theorem ab_at {ab : List Int} (h : AbOk ab) {q : Int} (q0 : 0 ≤ q) : -1 ≤ ab.getD q.toNat (-1) ∧ ab.getD q.toNat (-1) < q := by
  rw [List.getD_eq_getElem?_getD]
  cases e : ab[q.toNat]? with
  | none => exact ⟨Int.le_refl _, by show (-1 : Int) < q; omega⟩
  | some x =>
    have := h _ _ e
    exact ⟨this.1, by show x < q; omega⟩
theorem itF_pos {ab : List Int} {m : Nat} {p : Int} (h : 0 ≤ itF ab (m + 1) p) : 0 ≤ itF ab m p := by
  rw [itF] at h
  by_cases e : 0 ≤ itF ab m p
  · exact e
  · rw [if_neg e] at h
    exact h
theorem itF_dec {ab : List Int} (hA : AbOk ab) {m : Nat} {p : Int} (h : 0 ≤ itF ab (m + 1) p) : itF ab (m + 1) p < itF ab m p := by
  have e := itF_pos h
  rw [itF, if_pos e]
  exact (ab_at hA e).2
theorem itF_lt {ab : List Int} (hA : AbOk ab) {p : Int} : ∀ {m j : Nat}, j < m → 0 ≤ itF ab m p → itF ab m p < itF ab j p
  | m + 1, j, hj, h => by
    have d := itF_dec hA h
    by_cases e : j = m
    · rw [e]
      exact d
    · have := itF_lt hA (m := m) (j := j) (by omega) (itF_pos h)
      omega
theorem itF_bd {ab : List Int} (hA : AbOk ab) {p : Int} : ∀ {m : Nat}, 0 ≤ itF ab m p → (m : Int) + itF ab m p ≤ p
  | 0, _ => by show ((0 : Nat) : Int) + p ≤ p; omega
  | m + 1, h => by
    have := itF_bd hA (itF_pos h)
    have := itF_dec hA h
    omega
theorem itF_add {ab : List Int} {p : Int} (i : Nat) : ∀ j : Nat, itF ab (i + j) p = itF ab j (itF ab i p)
  | 0 => rfl
  | j + 1 => by
    show itF ab (i + j + 1) p = _
    rw [itF, itF, itF_add i j]
theorem wayF_mem {ab : List Int} {p y : Int} : ∀ {n : Nat}, y ∈ wayF ab n p ↔ ∃ i, i < n ∧ y = itF ab i p ∧ 0 ≤ y
  | 0 => ⟨fun h => absurd h List.not_mem_nil, fun ⟨i, h, _⟩ => absurd h (Nat.not_lt_zero _)⟩
  | n + 1 => by
    rw [wayF, List.mem_append, wayF_mem (n := n)]
    constructor
    · rintro (⟨i, h1, h2, h3⟩ | h)
      · exact ⟨i, by omega, h2, h3⟩
      · by_cases e : 0 ≤ itF ab n p
        · rw [if_pos e] at h
          have := List.mem_singleton.mp h
          exact ⟨n, by omega, this, by omega⟩
        · rw [if_neg e] at h
          exact absurd h List.not_mem_nil
    · rintro ⟨i, h1, h2, h3⟩
      by_cases e : i = n
      · subst e
        refine .inr ?_
        rw [if_pos (by omega), h2]
        exact List.mem_cons_self ..
      · exact .inl ⟨i, by omega, h2, h3⟩
theorem way_nest {ab : List Int} (hA : AbOk ab) {n : Nat} {p p' x y : Int} (hp' : p' < (n : Int)) (hx : x ∈ wayF ab n p) (hy : y ∈ wayF ab n p) (hyx : y ≤ x) (hx' : x ∈ wayF ab n p') : y ∈ wayF ab n p' := by
  obtain ⟨i, _, rfl, x0⟩ := wayF_mem.mp hx
  obtain ⟨j, _, rfl, y0⟩ := wayF_mem.mp hy
  obtain ⟨i', _, e, _⟩ := wayF_mem.mp hx'
  have hij : i ≤ j := by
    rcases Nat.lt_or_ge j i with h | h
    · have := itF_lt hA h x0
      omega
    · exact h
  obtain ⟨d, rfl⟩ := Nat.exists_eq_add_of_le hij
  have e2 : itF ab (i + d) p = itF ab (i' + d) p' := by rw [itF_add, itF_add, e]
  have b := itF_bd hA (p := p') (m := i' + d) (by omega)
  exact wayF_mem.mpr ⟨i' + d, by omega, e2, y0⟩
/-- lots of a forest: a kind with a greater home is taken only with all that stand above it -/
def Nest (kk : Nat) (lots : List (List Int)) : Prop := ∃ (hm : Nat → Int) (ws : List (List Int)), lots = ws.map (fun w => idxF (fun k => decide (hm k ∈ w)) kk) ∧ ∀ w ∈ ws, ∀ w' ∈ ws, ∀ x ∈ w, ∀ y ∈ w, y ≤ x → x ∈ w' → y ∈ w'
end Gd
namespace K20
open PySem PySem.Spec PyProof.Rows L2 Gd
section
variable {P : Program} {w : World} {K : PySem.W.Frag} {mg : Str → Option Value} {base : Heap}
/-! ### _law_forest_lots -/
def spForest (K : PySem.W.Frag) : Sp := fun vs H Q _ => ∃ (h l : Addr) (L : List Int) (st : Int) (kk tt : Nat), vs = [.ref h, .int (kk : Int), .int (tt : Int)] ∧ Hv H h l L st ∧ 1 ≤ kk ∧ kk ≤ 8 ∧ tt ≤ 12 ∧
  ∀ (G : Hp) (L' : List Int) (st' : Int) (F : Addr) (lots : List (List Int)), But h l H G → Hv G h l L' st' → F ≠ h → F ≠ l → LotsAt K G F lots → lots.length = tt → (∀ l ∈ lots, LotOk kk l) → Nest kk lots → Q (.ref F) G
theorem ok_forest {f fD fP : Addr} {fd fdD fdP : FuncData} {k : Nat} (F : Fun K "_law_forest_lots" "_law_forest_lots" s__law_forest_lots f fd) (FD : Fun K "_law_draw" "_law_draw" s__law_draw fD fdD) (FP : Fun K "_law_pick" "_law_pick" s__law_pick fP fdP)
    (bD : Binds K fdD ["heap", "many"] []) (bP : Binds K fdP ["heap", "some"] []) (gD : mg "_law_draw" = some (.ref fD)) (gP : mg "_law_pick" = some (.ref fP))
    (GD : FnOk P w K mg base CX0 k fD fdD ["heap", "many"] spDraw) (GP : FnOk P w K mg base CX0 k fP fdP ["heap", "some"] (spPick K)) (mr : mg "range" = none) (mt : mg "tuple" = none) (ms : mg "list" = none) : FnOk P w K mg base CX0 (k + 1) f fd ["heap", "kinds", "types"] (spForest K) := by
  refine F.ok sc__law_forest_lots (fun vs H Q E h => ?_) (fun cdv A outer s H vs Q E hr h => ?_)
  · obtain ⟨h, l, L, st, kk, tt, rfl, _⟩ := h
    rfl
  · obtain ⟨h, l, L, st, kk, tt, rfl, hv, k1, k8, t12, q⟩ := h
    refine blk_cons (ps_asg (pe_tup (pa_cons (pe_lst pa_nil) (pa_cons (pe_lc (own := [("kind", 11)]) (g := gName 11) (tt := tYes) rfl sc__law_forest_lots.nd (pi_range1 (by rfl) mr (pa_cons (pv 1) pa_nil)) (blkOk_by (own := [("kind", 11)]) (N := n__law_forest_lots) (sc := defScope s__law_forest_lots) (by decide +kernel))
        (fun _ _ _ _ _ => pg_name (i := 11) sc__law_forest_lots.nd rfl (Or.inl rfl)) (fun _ _ _ _ _ => pts_nil) (fun _ _ _ _ _ => pe_call GD hr (by rfl) gD FD.kp bD .nil pass0 (pa_cons (pv 0) (pa_cons (pv 1) pa_nil)))) (pa_cons (pe_lst pa_nil) pa_nil))))
      (pg_tup rfl (pgs_cons (pg_name (i := 3) sc__law_forest_lots.nd rfl (.inl rfl)) (pgs_cons (pg_name (i := 4) sc__law_forest_lots.nd rfl (.inr rfl)) (pgs_cons (pg_name (i := 5) sc__law_forest_lots.nd rfl (.inl rfl)) pgs_nil))))) ?_
    refine blk_cons (ps_for PassesOwn.never rfl (pi_range1 (by rfl) mr (pa_cons (pv 1) pa_nil)) (pg_name (i := 6) sc__law_forest_lots.nd rfl (.inl rfl))
      (pss_one (ps_expr (pe_bm PySem.F.plainAttrs_list PySem.F.slot_list_append PySem.F.type_list_append mt_append (pv 3) (pa_cons (pe_call GP hr (by rfl) gP FP.kp bP .nil pass0 (pa_cons (pv 0) (pa_cons (pe_op op_cat (pe_listRg rfl (by rfl) ms (prg_1 (by rfl) mr (pv 6))) (pe_lst (pa_cons (pe_op op_sub pe_int pe_int) (pa_cons (pe_op op_sub pe_int pe_int) pa_nil)))) pa_nil))) pa_nil))))) ?_
    refine blk_cons (ps_for PassesOwn.never rfl (pi_range1 (by rfl) mr (pa_cons (pv 2) pa_nil)) (pg_name (i := 7) sc__law_forest_lots.nd rfl (.inl rfl))
      (pss_cons (ps_asg (pe_tup (pa_cons (pe_op op_sub (pe_call GD hr (by rfl) gD FD.kp bD .nil pass0 (pa_cons (pv 0) (pa_cons (pe_op op_add (pv 1) pe_int) pa_nil))) pe_int) (pa_cons (pe_lst pa_nil) pa_nil))) (pg_tup rfl (pgs_cons (pg_name (i := 8) sc__law_forest_lots.nd rfl (.inl rfl)) (pgs_cons (pg_name (i := 9) sc__law_forest_lots.nd rfl (.inr rfl)) pgs_nil))))
      (pss_cons (ps_for PassesOwn.never rfl (pi_range1 (by rfl) mr (pa_cons (pv 1) pa_nil)) (pg_name (i := 10) sc__law_forest_lots.nd rfl (.inl rfl))
        (pss_one (ps_if (pt_cmpR op_ge (pv 8) pe_int (nomark _)) (pss_cons (ps_expr (pe_bm PySem.F.plainAttrs_list PySem.F.slot_list_append PySem.F.type_list_append mt_append (pv 9) (pa_cons (pv 8) pa_nil)))
          (pss_one (ps_set (i := 8) sc__law_forest_lots.nd rfl (.inl rfl) (pe_ix ix_list (pv 3) (pv 8) (fun _ _ => rfl))))) pss_nil)))
      (pss_one (ps_expr (pe_bm PySem.F.plainAttrs_list PySem.F.slot_list_append PySem.F.type_list_append mt_append (pv 5) (pa_cons (pe_callTy call_tuple_of (by rfl) mt (by decide +kernel) (pa_cons (pe_lc (own := [("kind", 11)]) (g := gName 11) rfl sc__law_forest_lots.nd (pi_range1 (by rfl) mr (pa_cons (pv 1) pa_nil)) (blkOk_by (own := [("kind", 11)]) (N := n__law_forest_lots) (sc := defScope s__law_forest_lots) (by decide +kernel))
        (fun _ _ _ _ _ => pg_name (i := 11) sc__law_forest_lots.nd rfl (Or.inl rfl)) (fun _ _ _ _ _ => pts_one (pt_cmpR (r := rIn K false) op_in_seq (pe_ix (r := rIxL K) ix_list (pv 4) (pv 11) (fun _ _ => rfl)) (pv 9) (by rfl))) (fun _ _ _ _ _ => pv 11)) pa_nil)) pa_nil))))))) ?_
    refine blk_cons (ps_ret (pv 5)) ?_
    refine blk_nil ?_
    -- above, homes, found
    refine ⟨Nat.zero_le _, fun A0 nA0 => ?_⟩
    have hvA := hv.new (o := .lst []) nA0
    have bA := (But.refl h l H).new (o := .lst []) nA0
    have nAh : h ≠ A0 := ne_of_none hv.top nA0
    have nAl : l ≠ A0 := ne_of_none hv.bot nA0
    have gA0 := upd_same (H := H) (a := A0) (o := .lst [])
    generalize upd H A0 (.lst []) = G1 at hvA bA gA0 ⊢
    refine ⟨_, rfl, _, rfl, by omega, by omega, fun B0 nB0 => ?_⟩
    have nBh : h ≠ B0 := ne_of_none hvA.top nB0
    have nBl : l ≠ B0 := ne_of_none hvA.bot nB0
    have nBA : B0 ≠ A0 := (ne_of_none gA0 nB0).symm
    refine lc_range (lo := 0) (n := ((kk : Int)).toNat) (fun j J => But h l G1 J ∧ (∃ L4 st4, Hv J h l L4 st4) ∧ ∃ hs : List Int, hs.length = j ∧ J B0 = some (.lst (hs.map V.int))) ⟨(But.refl _ _ _).new nB0, ⟨_, _, hvA.new nB0⟩, [], rfl, upd_same⟩ (fun j J hj hQ => ?_) (fun J hQ => ?_)
    · obtain ⟨bj, ⟨L1, st1, hv1⟩, hs, hsl, gB⟩ := hQ
      refine ⟨rfl, ?_⟩
      dsimp only [tYes]
      rw [if_pos rfl]
      refine ⟨_, rfl, _, rfl, h, l, L1, st1, _, rfl, hv1, by omega, by omega, fun G2 L2 st2 r b2 hv2 r0 r1 => ?_⟩
      have gB2 := b2 _ _ nBh.symm nBl.symm gB
      refine ⟨_, gB2, by rw [List.length_map]; exact small1000 (by omega), fun b ob e1 e2 e => ?_, ⟨L2, st2, ⟨(upd_ne nBh).trans hv2.top, (upd_ne nBl).trans hv2.bot, hv2.ne, hv2.lo, hv2.hi, hv2.len⟩⟩, hs ++ [r], by rw [List.length_append, hsl]; rfl, by rw [upd_same, List.map_append]; rfl⟩
      rw [upd_ne (ne_of_none e nB0)]
      exact b2 _ _ e1 e2 (bj _ _ e1 e2 e)
    obtain ⟨bJ, ⟨L1, st1, hv1⟩, hs, hsl, gB⟩ := hQ
    have gA1 := bJ _ _ nAh.symm nAl.symm gA0
    have b1 : But h l H J := bA.trans bJ
    have e0 : ((kk : Int)).toNat = kk := by omega
    rw [e0] at hsl
    refine ⟨Nat.zero_le _, fun F nF => ⟨by show 3 ≤ sizeLine; decide, fun tq ntq => ⟨tq, _, rfl, sqT upd_same, rfl, _, _, rfl, _, _, rfl, _, _, rfl, rfl, ?_⟩⟩⟩
    have nFh : h ≠ F := ne_of_none hv1.top nF
    have nFl : l ≠ F := ne_of_none hv1.bot nF
    have nFA : A0 ≠ F := ne_of_none gA1 nF
    have nFB : B0 ≠ F := ne_of_none gB nF
    have s2 : Same J (upd (upd J F (.lst [])) tq (.tup [.ref A0, .ref B0, .ref F])) := (same_new nF).trans (same_new ntq)
    have gF2 : (upd (upd J F (.lst [])) tq (.tup [.ref A0, .ref B0, .ref F])) F = some (.lst []) := (upd_ne (ne_of_none upd_same ntq)).trans upd_same
    have gA2 := s2 _ _ gA1
    have gB2 := s2 _ _ gB
    have hv2 := hv1.same s2
    have b2 := b1.same s2
    generalize upd (upd J F (.lst [])) tq (.tup [.ref A0, .ref B0, .ref F]) = G2 at s2 gF2 gA2 gB2 hv2 b2 ⊢
    have oldA : ∀ b o, H b = some o → b ≠ A0 := fun b o e => ne_of_none e nA0
    have oldF : ∀ b o, b ≠ h → b ≠ l → H b = some o → b ≠ F := fun b o e1 e2 e => ne_of_none (b1 _ _ e1 e2 e) nF
    dsimp only [gName]
    refine seq_out (t := tFor _ _ _) (fun σ' G' => ∃ (ab : List Int) (y6 : Option V) (L' : List Int) (st' : Int), σ' = [some (.ref h), some (.int (kk : Int)), some (.int (tt : Int)), some (.ref A0), some (.ref B0), some (.ref F), y6, none, none, none, none, none] ∧ But h l H G' ∧ Hv G' h l L' st' ∧ G' A0 = some (.lst (ab.map V.int)) ∧ ab.length = kk ∧ AbOk ab ∧ G' B0 = some (.lst (hs.map V.int)) ∧ G' F = some (.lst [])) (fun N hN => ?_) (fun σ' G3 hR => ?_)
    · refine ⟨_, rfl, _, rfl, by omega, by omega, for_range (lo := 0) (n := ((kk : Int)).toNat) (fun i σ G => ∃ (ab : List Int) (y6 : Option V) (L' : List Int) (st' : Int), σ = [some (.ref h), some (.int (kk : Int)), some (.int (tt : Int)), some (.ref A0), some (.ref B0), some (.ref F), y6, none, none, none, none, none] ∧ But h l H G ∧ Hv G h l L' st' ∧ G A0 = some (.lst (ab.map V.int)) ∧ ab.length = i ∧ AbOk ab ∧ G B0 = some (.lst (hs.map V.int)) ∧ G F = some (.lst []))
        ⟨[], _, L1, st1, rfl, b2, hv2, gA2, rfl, fun i x h => by simp at h, gB2, gF2⟩ (fun i σ G hi hP => ?_) (fun σ G hP => ?_)⟩
      · obtain ⟨ab, y6, L3, st3, rfl, b3, hv3, gA3, abl, abo, gB3, gF3⟩ := hP
        have hik : i < kk := by omega
        refine ⟨_, rfl, .inl ⟨rfl, _, sqL gA3⟩, _, rfl, _, rfl, _, rfl, .of_le (by omega) (by omega) (by omega) (by omega), fun r1 nr1 => ?_⟩
        refine ⟨_, _, rfl, rfl, _, _, rfl, rfl, by show 2 ≤ sizeLine; decide, fun r2 nr2 => ?_⟩
        have ez : (0 + (i : Int)) = (i : Int) := by omega
        rw [ez] at nr2 ⊢
        have s4 : Same G (upd (upd G r1 (.lst (rgV 0 (i : Int)))) r2 (.lst [.int (0 - 1), .int (0 - 1)])) := (same_new nr1).trans (same_new nr2)
        have g1 : (upd (upd G r1 (.lst (rgV 0 (i : Int)))) r2 (.lst [.int (0 - 1), .int (0 - 1)])) r1 = some (.lst (rgV 0 (i : Int))) := (upd_ne (ne_of_none upd_same nr2)).trans upd_same
        refine ⟨r1, r2, _, _, rfl, rfl, g1, upd_same, by rw [rgV_length]; show _ + 2 ≤ sizeLine; have : (1000 : Nat) ≤ sizeLine := by decide
                                                         omega, fun r3 nr3 => ?_⟩
        have s5 := s4.trans (same_new (o := .lst (rgV 0 (i : Int) ++ [.int (0 - 1), .int (0 - 1)])) nr3)
        have g3 := upd_same (H := (upd (upd G r1 (.lst (rgV 0 (i : Int)))) r2 (.lst [.int (0 - 1), .int (0 - 1)]))) (a := r3) (o := .lst (rgV 0 (i : Int) ++ [.int (0 - 1), .int (0 - 1)]))
        have n3h : r3 ≠ h := (ne_of_none (s4 _ _ hv3.top) nr3).symm
        have n3l : r3 ≠ l := (ne_of_none (s4 _ _ hv3.bot) nr3).symm
        generalize upd (upd (upd G r1 (.lst (rgV 0 (i : Int)))) r2 (.lst [.int (0 - 1), .int (0 - 1)])) r3 (.lst (rgV 0 (i : Int) ++ [.int (0 - 1), .int (0 - 1)])) = G5 at s5 g3 ⊢
        refine ⟨h, l, L3, st3, r3, _, rfl, hv3.same s5, sqL g3, n3h, n3l, by rw [List.length_append]; show 0 < _ + 2; omega, by rw [List.length_append, rgV_length]; show _ + 2 < 1000; omega, fun G6 L6 st6 j6 x6 b6 hv6 hx6 => ?_⟩
        obtain ⟨v, rfl, v0, v1⟩ : ∃ v : Int, x6 = .int v ∧ -1 ≤ v ∧ v < (i : Int) := by
          rcases List.mem_append.mp (List.mem_of_getElem? hx6) with m | m
          · unfold rgV at m
            obtain ⟨z, hz, rfl⟩ := List.mem_map.mp m
            have := List.mem_range.mp hz
            exact ⟨_, rfl, by omega, by omega⟩
          · have : x6 = .int (0 - 1) := by simpa using m
            exact ⟨_, this, by decide, by omega⟩
        have gA6 := b6 _ _ nAh.symm nAl.symm (s5 _ _ gA3)
        refine ⟨A0, _, _, rfl, rfl, gA6, by rw [List.length_map]; exact small1000 (by omega), ab ++ [v], _, L6, st6, rfl, fun b o e1 e2 e => ?_, ⟨(upd_ne nAh).trans hv6.top, (upd_ne nAl).trans hv6.bot, hv6.ne, hv6.lo, hv6.hi, hv6.len⟩, by rw [upd_same, List.map_append]; rfl, by rw [List.length_append, abl]; rfl, fun a x hx => ?_, (upd_ne nBA).trans (b6 _ _ nBh.symm nBl.symm (s5 _ _ gB3)), (upd_ne nFA.symm).trans (b6 _ _ nFh.symm nFl.symm (s5 _ _ gF3))⟩
        · exact (upd_ne (oldA b o e)).trans (b6 _ _ e1 e2 (s5 _ _ (b3 _ _ e1 e2 e)))
        · rcases Nat.lt_trichotomy a ab.length with hlt | heq | hgt
          · rw [List.getElem?_append_left hlt] at hx
            exact abo _ _ hx
          · rw [heq, List.getElem?_append_right (Nat.le_refl _), Nat.sub_self] at hx
            cases hx
            omega
          · rw [List.getElem?_eq_none (by rw [List.length_append]; show _ + 1 ≤ a; omega)] at hx
            cases hx
      · obtain ⟨ab, y6, L3, st3, rfl, b3, hv3, gA3, abl, abo, gB3, gF3⟩ := hP
        exact hN _ _ ⟨ab, y6, L3, st3, rfl, b3, hv3, gA3, by omega, abo, gB3, gF3⟩
    obtain ⟨ab, y6, L3, st3, rfl, b3, hv3, gA3, abl, abo, gB3, gF3⟩ := hR
    refine seq_out (t := tFor _ _ _) (fun σ' G' => ∃ (lots ws : List (List Int)) (y7 y8 y9 y10 y11 : Option V) (L' : List Int) (st' : Int), σ' = [some (.ref h), some (.int (kk : Int)), some (.int (tt : Int)), some (.ref A0), some (.ref B0), some (.ref F), y6, y7, y8, y9, y10, y11] ∧ But h l H G' ∧ Hv G' h l L' st' ∧ LotsAt K G' F lots ∧ lots = ws.map (fun w => idxF (fun k => decide (hs.getD k 0 ∈ w)) kk) ∧ ws.length = tt ∧ ∀ w ∈ ws, ∃ p : Int, p < (kk : Int) ∧ w = wayF ab kk p) (fun N hN => ?_) (fun σ' G4 hR => ?_)
    · refine ⟨_, rfl, _, rfl, by omega, by omega, for_range (lo := 0) (n := ((tt : Int)).toNat) (fun i σ G => ∃ (lots ws : List (List Int)) (y7 y8 y9 y10 y11 : Option V) (L' : List Int) (st' : Int), σ = [some (.ref h), some (.int (kk : Int)), some (.int (tt : Int)), some (.ref A0), some (.ref B0), some (.ref F), y6, y7, y8, y9, y10, y11] ∧ But h l H G ∧ Hv G h l L' st' ∧ G A0 = some (.lst (ab.map V.int)) ∧ G B0 = some (.lst (hs.map V.int)) ∧ LotsAt K G F lots ∧ lots = ws.map (fun w => idxF (fun k => decide (hs.getD k 0 ∈ w)) kk) ∧ ws.length = i ∧ ∀ w ∈ ws, ∃ p : Int, p < (kk : Int) ∧ w = wayF ab kk p)
        ⟨[], [], _, _, _, _, _, L3, st3, rfl, b3, hv3, gA3, gB3, ⟨[], gF3, .nil⟩, rfl, rfl, fun _ h => absurd h List.not_mem_nil⟩ (fun i σ G hi hP => ?_) (fun σ G hP => ?_)⟩
      · obtain ⟨lots, ws, y7, y8, y9, y10, y11, L4, st4, rfl, b4, hv4, gA4, gB4, ⟨vs, gF4, hd4⟩, hlw, wsl, hws⟩ := hP
        have hit : i < tt := by omega
        -- place, way
        refine ⟨_, rfl, _, rfl, _, _, rfl, rfl, h, l, L4, st4, _, rfl, hv4, by omega, by omega, fun G5 L5 st5 r b5 hv5 r0 r1 => ?_⟩
        have gA5 := b5 _ _ nAh.symm nAl.symm gA4
        have gB5 := b5 _ _ nBh.symm nBl.symm gB4
        have gF5 := b5 _ _ nFh.symm nFl.symm gF4
        have hd5 := dpAll_keep (KeepT.but hv4 b5) _ _ (noList_lots lots) hd4
        refine ⟨_, _, rfl, rfl, Nat.zero_le _, fun W nW => ⟨by show 2 ≤ sizeLine; decide, fun tq ntq => ⟨tq, _, rfl, sqT upd_same, rfl, _, _, rfl, _, _, rfl, rfl, ?_⟩⟩⟩
        have nWh : h ≠ W := ne_of_none hv5.top nW
        have nWl : l ≠ W := ne_of_none hv5.bot nW
        have nWA : A0 ≠ W := ne_of_none gA5 nW
        have nWB : B0 ≠ W := ne_of_none gB5 nW
        have nWF : F ≠ W := ne_of_none gF5 nW
        have s6 : Same G5 (upd (upd G5 W (.lst [])) tq (.tup [.int (r - 1), .ref W])) := (same_new nW).trans (same_new ntq)
        have gW6 : (upd (upd G5 W (.lst [])) tq (.tup [.int (r - 1), .ref W])) W = some (.lst []) := (upd_ne (ne_of_none upd_same ntq)).trans upd_same
        generalize upd (upd G5 W (.lst [])) tq (.tup [.int (r - 1), .ref W]) = G6 at s6 gW6 ⊢
        dsimp only [gName]
        refine seq_out (t := tFor _ _ _) (fun σ' G' => ∃ (y8 y10 : Option V), σ' = [some (.ref h), some (.int (kk : Int)), some (.int (tt : Int)), some (.ref A0), some (.ref B0), some (.ref F), y6, some (.int (0 + (i : Int))), y8, some (.ref W), y10, y11] ∧ (∀ b o, G5 b = some o → G' b = some o) ∧ G' W = some (.lst ((wayF ab kk (r - 1)).map V.int))) (fun N2 hN2 => ?_) (fun σ' G7 hR => ?_)
        · refine ⟨_, rfl, _, rfl, by omega, by omega, for_range (lo := 0) (n := ((kk : Int)).toNat) (fun j σ G' => ∃ (y10 : Option V), σ = [some (.ref h), some (.int (kk : Int)), some (.int (tt : Int)), some (.ref A0), some (.ref B0), some (.ref F), y6, some (.int (0 + (i : Int))), some (.int (itF ab j (r - 1))), some (.ref W), y10, y11] ∧ (∀ b o, G5 b = some o → G' b = some o) ∧ G' W = some (.lst ((wayF ab j (r - 1)).map V.int)) ∧ (wayF ab j (r - 1)).length ≤ j)
            ⟨_, rfl, s6, gW6, Nat.le_refl _⟩ (fun j σ J hj hQ => ?_) (fun σ J hQ => ?_)⟩
          · obtain ⟨y10, rfl, sJ, gW, wl⟩ := hQ
            have hjk : j < kk := by omega
            refine ⟨_, rfl, _, _, rfl, rfl, _, rfl, ite2 (fun c => ?_) (fun c => ?_)⟩
            · have c0 : 0 ≤ itF ab j (r - 1) := of_decide_eq_true c
              have clt : (itF ab j (r - 1)).toNat < ab.length := by
                have := itF_bd abo c0
                omega
              refine ⟨_, rfl, .inl ⟨rfl, _, sqL gW⟩, _, rfl, W, _, _, rfl, rfl, gW, by rw [List.length_map]; exact small1000 (by omega), ?_⟩
              have keep : ∀ b o, G5 b = some o → (upd J W (.lst ((wayF ab j (r - 1)).map V.int ++ [.int (itF ab j (r - 1))]))) b = some o := fun b o e => (upd_ne (ne_of_none e nW)).trans (sJ b o e)
              refine ⟨_, rfl, _, rfl, A0, _, _, .int (ab.getD (itF ab j (r - 1)).toNat (-1)), rfl, rfl, sqL (keep _ _ gA5), ?_, some (.int (0 + (j : Int))), ?_, keep, ?_, ?_⟩
              · rw [← Int.toNat_of_nonneg c0]
                refine atI_nat ?_
                rw [List.getElem?_map, Int.toNat_natCast, List.getElem?_eq_getElem clt, List.getD_eq_getElem?_getD, List.getElem?_eq_getElem clt]
                rfl
              · rw [itF, if_pos c0]
                rfl
              · rw [upd_same, wayF, if_pos c0, List.map_append]
                rfl
              · rw [wayF, if_pos c0, List.length_append]
                show _ + 1 ≤ _
                omega
            · have c0 : ¬ 0 ≤ itF ab j (r - 1) := fun z => c (decide_eq_true z)
              refine ⟨some (.int (0 + (j : Int))), ?_, sJ, ?_, ?_⟩
              · rw [itF, if_neg c0]
                rfl
              · rw [wayF, if_neg c0, List.append_nil]
                exact gW
              · rw [wayF, if_neg c0, List.append_nil]
                omega
          · obtain ⟨y10, rfl, sJ, gW, _⟩ := hQ
            rw [e0] at gW
            exact hN2 _ _ ⟨_, _, rfl, sJ, gW⟩
        obtain ⟨y8', y10', rfl, s7, gW7⟩ := hR
        have gA7 := s7 _ _ gA5
        have gB7 := s7 _ _ gB5
        have gF7 := s7 _ _ gF5
        have hd7 := dpAll_same s7 _ _ hd5
        have hv7 := hv5.same s7
        have b7 : But h l H G7 := (b4.trans b5).same s7
        refine ⟨_, rfl, .inl ⟨rfl, _, sqL gF7⟩, _, rfl, _, rfl, by omega, by omega, fun D nD => ?_⟩
        have nDB : B0 ≠ D := ne_of_none gB7 nD
        have nDW : W ≠ D := ne_of_none gW7 nD
        refine lc_range (lo := 0) (n := ((kk : Int)).toNat) (fun j J => Same G7 J ∧ J D = some (.lst ((idxF (fun k => decide (hs.getD k 0 ∈ wayF ab kk (r - 1))) j).map V.int))) ⟨same_new nD, upd_same⟩ (fun j J hj hQ => ?_) (fun J hQ => ?_)
        · obtain ⟨sJ, gD⟩ := hQ
          have hjk : j < kk := by omega
          have ez : (0 + (j : Int)) = (j : Int) := by omega
          refine ⟨rfl, _, rfl, _, rfl, B0, _, _, .int (hs.getD j 0), rfl, rfl, sqL (sJ _ _ gB7), ?_, _, rfl, W, _, rfl, .inl (sqL (sJ _ _ gW7)), rfl, flat_ints _, _, rfl, ?_⟩
          · rw [ez]
            refine atI_nat ?_
            rw [List.getElem?_map, List.getElem?_eq_getElem (by omega), List.getD_eq_getElem?_getD, List.getElem?_eq_getElem (by omega)]
            rfl
          · rw [inV_ints, ez]
            refine ite2 (fun c => ⟨_, rfl, _, gD, ?_, fun b o e => ?_, ?_⟩) (fun c => ⟨sJ, ?_⟩)
            · have := idxF_len (fun k => decide (hs.getD k 0 ∈ wayF ab kk (r - 1))) j
              rw [List.length_map]
              exact small1000 (by omega)
            · rw [upd_ne (ne_of_none e nD)]
              exact sJ _ _ e
            · rw [upd_same, idxF_succ, if_pos (show decide (hs.getD j 0 ∈ wayF ab kk (r - 1)) = true from c), List.map_append]
              rfl
            · rw [idxF_succ, if_neg (show ¬ decide (hs.getD j 0 ∈ wayF ab kk (r - 1)) = true from c), List.append_nil]
              exact gD
        obtain ⟨sJ, gD⟩ := hQ
        rw [e0] at gD
        refine ⟨D, _, rfl, .inl ⟨sqL gD, fun lq nlq => ?_⟩⟩
        have s8 := sJ.trans (same_new (o := .tup ((idxF (fun k => decide (hs.getD k 0 ∈ wayF ab kk (r - 1))) kk).map V.int)) nlq)
        have g8 := sqT (K := K) (upd_same (H := J) (a := lq) (o := .tup ((idxF (fun k => decide (hs.getD k 0 ∈ wayF ab kk (r - 1))) kk).map V.int)))
        generalize upd J lq (.tup ((idxF (fun k => decide (hs.getD k 0 ∈ wayF ab kk (r - 1))) kk).map V.int)) = G8 at s8 g8 ⊢
        have gF8 := s8 _ _ gF7
        have hv8 := hv7.same s8
        have k10 : KeepT G8 (upd G8 F (.lst (vs ++ [.ref lq]))) := .put gF8
        refine ⟨F, vs, _, rfl, rfl, gF8, ?_, lots ++ [idxF (fun k => decide (hs.getD k 0 ∈ wayF ab kk (r - 1))) kk], ws ++ [wayF ab kk (r - 1)], _, _, _, _, _, L5, st5, rfl, fun b o e1 e2 e => ?_, ⟨(upd_ne nFh).trans hv8.top, (upd_ne nFl).trans hv8.bot, hv8.ne, hv8.lo, hv8.hi, hv8.len⟩, (upd_ne nFA).trans (s8 _ _ gA7), (upd_ne nFB).trans (s8 _ _ gB7), ⟨_, upd_same, ?_⟩, ?_, ?_, fun c hc => ?_⟩
        · rw [dpAll_len hd7]
          unfold lotsD
          rw [hlw, List.length_map, List.length_map, wsl]
          exact small1000 (by omega)
        · exact (upd_ne (oldF b o e1 e2 e)).trans (s8 _ _ (b7 _ _ e1 e2 e))
        · unfold lotsD
          rw [List.map_append]
          exact dpAll_snoc (dpAll_keep k10 _ _ (noList_lots lots) (dpAll_same s8 _ _ hd7)) (dp_tup (k10.seqT g8))
        · rw [List.map_append, hlw]
          rfl
        · rw [List.length_append, wsl]
          rfl
        · rcases List.mem_append.mp hc with m | m
          · exact hws c m
          · rw [List.mem_singleton.mp m]
            exact ⟨r - 1, by omega, rfl⟩
      · obtain ⟨lots, ws, y7, y8, y9, y10, y11, L4, st4, rfl, b4, hv4, gA4, gB4, ha4, hlw, wsl, hws⟩ := hP
        exact hN _ _ ⟨lots, ws, _, _, _, _, _, L4, st4, rfl, b4, hv4, ha4, hlw, by omega, hws⟩
    obtain ⟨lots, ws, y7, y8, y9, y10, y11, L4, st4, rfl, b4, hv4, ha4, hlw, wsl, hws⟩ := hR
    refine ⟨_, rfl, q G4 L4 st4 F lots b4 hv4 nFh.symm nFl.symm ha4 (by rw [hlw, List.length_map, wsl]) (fun c hc => ?_) ⟨fun k => hs.getD k 0, ws, hlw, fun w1 h1 w2 h2 x hx y hy hyx hx2 => ?_⟩⟩
    · rw [hlw] at hc
      obtain ⟨w0, _, rfl⟩ := List.mem_map.mp hc
      exact lot_idx _ kk
    · obtain ⟨p1, _, rfl⟩ := hws w1 h1
      obtain ⟨p2, hp2, rfl⟩ := hws w2 h2
      exact way_nest abo hp2 hx hy hyx hx2
end
end K20
namespace Gd
open PySem PySem.Spec PyProof.Rows L2
/-- the types that take a kind -/
def takI (lots : List (List Int)) (k : Int) : List Int := idxF (fun a => decide (k ∈ lots.getD a [])) lots.length
theorem lots_at {K : PySem.W.Frag} {H : Hp} {us : List V} {lots : List (List Int)} {i : Nat} (h : DpAll K H us (lotsD lots)) (hi : i < lots.length) : ∃ q, us[i]? = some (.ref q) ∧ SqT K H q ((lots.getD i []).map V.int) := by
  have hl := dpAll_len h
  unfold lotsD at hl
  rw [List.length_map] at hl
  have e : us[i]? = some us[i] := List.getElem?_eq_getElem (by omega)
  obtain ⟨l, e2, d⟩ := row_at h e
  obtain ⟨q, e3, hq⟩ := row_inv d
  refine ⟨q, by rw [e, e3], ?_⟩
  rw [List.getD_eq_getElem?_getD, e2]
  exact hq
end Gd
namespace K20
open PySem PySem.Spec PyProof.Rows L2 Gd
section
variable {P : Program} {w : World} {K : PySem.W.Frag} {mg : Str → Option Value} {base : Heap}
/-! ### _law_takers -/
def spTk (K : PySem.W.Frag) : Sp := fun vs H Q _ => ∃ (F : Addr) (lots : List (List Int)) (k : Int), vs = [.ref F, .int k] ∧ LotsAt K H F lots ∧ lots.length ≤ 12 ∧ ∀ G D, Same H G → G D = some (.lst ((takI lots k).map V.int)) → Q (.ref D) G
theorem ok_tk {f : Addr} {fd : FuncData} {k : Nat} (F : Fun K "_law_takers" "_law_takers" s__law_takers f fd) (ml : mg "len" = none) (mr : mg "range" = none) : FnOk P w K mg base CX0 (k + 1) f fd ["lots", "kind"] (spTk K) := by
  refine F.ok sc__law_takers (fun vs H Q E h => ?_) (fun cdv A outer s H vs Q E hr h => ?_)
  · obtain ⟨F, lots, k, rfl, _⟩ := h
    rfl
  · obtain ⟨F, lots, k0, rfl, ⟨vs, gF, hd⟩, hl, q⟩ := h
    refine blk_cons (ps_ret (pe_lc (own := [("number", 2)]) (g := gName 2) rfl sc__law_takers.nd (pi_range1 (by rfl) mr (pa_cons (pe_callB call_len_seq (by rfl) ml PySem.boot_len (pa_cons (pv 0) pa_nil)) pa_nil)) (blkOk_by (own := [("number", 2)]) (N := n__law_takers) (sc := defScope s__law_takers) (by decide +kernel))
      (fun _ _ _ _ _ => pg_name (i := 2) sc__law_takers.nd rfl (Or.inl rfl)) (fun _ _ _ _ _ => pts_one (pt_cmpR (r := rIn K false) op_in_seq (pv 1) (pe_ix (r := rIxL K) ix_list (pv 0) (pv 2) (fun _ _ => rfl)) (by rfl))) (fun _ _ _ _ _ => pv 2))) ?_
    refine blk_nil ?_
    have hvl := dpAll_len hd
    unfold lotsD at hvl
    rw [List.length_map] at hvl
    refine ⟨_, rfl, F, vs, rfl, .inl (sqL gF), _, rfl, by omega, by omega, fun D nD => ?_⟩
    refine lc_range (lo := 0) (n := ((vs.length : Int)).toNat) (fun j J => Same H J ∧ J D = some (.lst ((idxF (fun a => decide (k0 ∈ lots.getD a [])) j).map V.int))) ⟨same_new nD, upd_same⟩ (fun j J hj hQ => ?_) (fun J hQ => ?_)
    · obtain ⟨sJ, gD⟩ := hQ
      have hjl : j < lots.length := by omega
      have ez : (0 + (j : Int)) = (j : Int) := by omega
      obtain ⟨lq, e1, hlq⟩ := lots_at (dpAll_same sJ _ _ hd) hjl
      refine ⟨rfl, _, rfl, _, rfl, _, rfl, F, vs, _, _, rfl, rfl, sqL (sJ _ _ gF), by rw [ez]; exact atI_nat e1, lq, _, rfl, .inr hlq, rfl, flat_ints _, _, rfl, ?_⟩
      rw [inV_ints, ez]
      refine ite2 (fun c => ⟨_, rfl, _, gD, ?_, fun b o e => ?_, ?_⟩) (fun c => ⟨sJ, ?_⟩)
      · have := idxF_len (fun a => decide (k0 ∈ lots.getD a [])) j
        rw [List.length_map]
        exact small1000 (by omega)
      · rw [upd_ne (ne_of_none e nD)]
        exact sJ _ _ e
      · rw [upd_same, idxF_succ, if_pos (show decide (k0 ∈ lots.getD j []) = true from c), List.map_append]
        rfl
      · rw [idxF_succ, if_neg (show ¬ decide (k0 ∈ lots.getD j []) = true from c), List.append_nil]
        exact gD
    · obtain ⟨sJ, gD⟩ := hQ
      rw [show ((vs.length : Int)).toNat = lots.length by omega] at gD
      exact q _ D sJ gD
/-! ### _law_inside -/
def spIn (K : PySem.W.Frag) : Sp := fun vs H Q _ => ∃ (a b : Addr) (xs ys : List Int), vs = [.ref a, .ref b] ∧ H a = some (.lst (xs.map V.int)) ∧ H b = some (.lst (ys.map V.int)) ∧ xs.length ≤ 1000 ∧ ∀ G, Same H G → Q (.bl (xs.all fun z => decide (z ∈ ys))) G
theorem ok_in {f : Addr} {fd : FuncData} {k : Nat} (F : Fun K "_law_inside" "_law_inside" s__law_inside f fd) (ma : mg "all" = none) : FnOk P w K mg base CX0 (k + 1) f fd ["one", "other"] (spIn K) := by
  refine F.ok sc__law_inside (fun vs H Q E h => ?_) (fun cdv A outer s H vs Q E hr h => ?_)
  · obtain ⟨a, b, xs, ys, rfl, _⟩ := h
    rfl
  · obtain ⟨a, b, xs, ys, rfl, ga, gb, hl, q⟩ := h
    refine blk_cons (ps_ret (pe_callB (cr_all rfl) (by rfl) ma (by decide +kernel) (pa_cons (pe_lc (own := [("item", 2)]) (g := gName 2) (tt := tYes) rfl sc__law_inside.nd (pi_list (pv 0)) (blkOk_by (own := [("item", 2)]) (N := n__law_inside) (sc := defScope s__law_inside) (by decide +kernel))
      (fun _ _ _ _ _ => pg_name (i := 2) sc__law_inside.nd rfl (Or.inl rfl)) (fun _ _ _ _ _ => pts_nil) (fun _ _ _ _ _ => pe_cmpR (r := rIn K false) op_in_seq (pv 2) (pv 1) (by rfl))) pa_nil))) ?_
    refine blk_nil ?_
    refine ⟨_, rfl, a, rfl, ⟨_, sqL ga⟩, fun D nD => lc_list (xs := xs.map V.int) (fun i G => Same H G ∧ G D = some (.lst (((xs.take i).map fun z => decide (z ∈ ys)).map V.bl))) ⟨same_new nD, upd_same⟩ (fun i G _ hP => sqL (hP.1 _ _ ga)) (fun i x G hx hP => ?_) (fun G hP => ?_)⟩
    · obtain ⟨s1, gD⟩ := hP
      obtain ⟨z, hz, rfl⟩ := map_at hx
      have hi : i < xs.length := (List.getElem?_eq_some_iff.mp hz).1
      refine ⟨rfl, ?_⟩
      dsimp only [tYes]
      rw [if_pos rfl]
      refine ⟨_, rfl, _, rfl, b, _, rfl, .inl (sqL (s1 _ _ gb)), rfl, flat_ints _, ?_⟩
      rw [inV_ints]
      refine ⟨_, gD, ?_, fun b o e => ?_, ?_⟩
      · rw [List.length_map, List.length_map, List.length_take]
        exact small1000 (by omega)
      · rw [upd_ne (ne_of_none e nD)]
        exact s1 _ _ e
      · rw [upd_same, List.take_add_one, hz, List.map_append, List.map_append]
        rfl
    · obtain ⟨s1, gD⟩ := hP
      rw [List.length_map, List.take_length] at gD
      refine ⟨D, _, rfl, sqL gD, ?_⟩
      have e1 : (xs.map fun z => decide (z ∈ ys)).all id = xs.all fun z => decide (z ∈ ys) := by rw [List.all_map]; rfl
      rw [e1]
      exact q G s1
end
end K20
namespace K20
open PySem PySem.Spec PyProof.Rows L2 Gd
/-- the least ones among some kinds -/
def goodI (lots : List (List Int)) (some_ : List Int) (k : Int) : Bool := some_.all fun o => (takI lots k).all fun z => decide (z ∈ takI lots o)
def leastI (lots : List (List Int)) (xs : List Int) (a : Nat) : List Int := (offL (lots.getD a []) xs).filter (goodI lots (offL (lots.getD a []) xs))
section
variable {P : Program} {w : World} {K : PySem.W.Frag} {mg : Str → Option Value} {base : Heap}
/-! ### _law_least -/
def spLst (K : PySem.W.Frag) : Sp := fun vs H Q _ => ∃ (F sq : Addr) (lots : List (List Int)) (xs : List Int) (a : Nat), vs = [.ref F, .ref sq, .int (a : Int)] ∧ LotsAt K H F lots ∧ lots.length ≤ 12 ∧ SqT K H sq (xs.map V.int) ∧ xs.length ≤ 8 ∧ a < lots.length ∧ (∀ l ∈ lots, LotOk xs.length l) ∧
  ∀ G D, Same H G → G D = some (.lst ((leastI lots xs a).map V.int)) → Q (.ref D) G
theorem ok_lst {f fT fI : Addr} {fd fdT fdI : FuncData} {k : Nat} (F : Fun K "_law_least" "_law_least" s__law_least f fd) (FT : Fun K "_law_takers" "_law_takers" s__law_takers fT fdT) (bT : Binds K fdT ["lots", "kind"] []) (gT : mg "_law_takers" = some (.ref fT)) (GT : FnOk P w K mg base CX0 k fT fdT ["lots", "kind"] (spTk K))
    (FI : Fun K "_law_inside" "_law_inside" s__law_inside fI fdI) (bI : Binds K fdI ["one", "other"] []) (gI : mg "_law_inside" = some (.ref fI)) (GI : FnOk P w K mg base CX0 k fI fdI ["one", "other"] (spIn K)) (ma : mg "all" = none) : FnOk P w K mg base CX0 (k + 1) f fd ["lots", "left", "request"] (spLst K) := by
  refine F.ok sc__law_least (fun vs H Q E h => ?_) (fun cdv A outer s H vs Q E hr h => ?_)
  · obtain ⟨F, sq, lots, xs, a, rfl, _⟩ := h
    rfl
  · obtain ⟨F, sq, lots, xs, a, rfl, ⟨vs, gF, hd⟩, hl, hs, x8, ha, hok, q⟩ := h
    refine blk_cons (ps_setLc (i := 4) (own := [("kind", 3)]) (g := gName 3) rfl sc__law_least.nd rfl rfl (sw_true rfl rfl rfl (by decide +kernel)) (pi_tup (pe_ix ix_list (pv 0) (pv 2) (fun _ _ => rfl))) (blkOk_by (own := [("kind", 3)]) (N := n__law_least) (sc := defScope s__law_least) (by decide +kernel))
      (fun _ _ _ _ _ => pg_name (i := 3) sc__law_least.nd rfl (Or.inl rfl)) (fun _ _ _ _ _ => pts_one (pt_cmpR op_gt (pe_ix (r := rIxT K) ix_tup (pv 1) (pv 3) (fun _ _ => rfl)) pe_int (nomark _))) (fun _ _ _ _ _ => pv 3)) ?_
    refine blk_cons (ps_set (i := 5) sc__law_least.nd rfl (.inl rfl) (pe_lst pa_nil)) ?_
    refine blk_cons (ps_for PassesOwn.never rfl (pi_list (pv 4)) (pg_name (i := 3) sc__law_least.nd rfl (.inl rfl))
      (pss_cons (ps_set (i := 6) sc__law_least.nd rfl (.inr rfl) (pe_call GT hr (by rfl) gT FT.kp bT .nil pass0 (pa_cons (pv 0) (pa_cons (pv 3) pa_nil))))
      (pss_one (ps_if (pt_val (pe_callB (cr_all rfl) (by rfl) ma (by decide +kernel) (pa_cons (pe_lc (own := [("other", 7)]) (g := gName 7) (tt := tYes) rfl sc__law_least.nd (pi_list (pv 4)) (blkOk_by (own := [("other", 7)]) (N := n__law_least) (sc := defScope s__law_least) (by decide +kernel))
        (fun _ _ _ _ _ => pg_name (i := 7) sc__law_least.nd rfl (Or.inl rfl)) (fun _ _ _ _ _ => pts_nil) (fun _ _ _ _ _ => pe_call GI hr (by rfl) gI FI.kp bI .nil pass0 (pa_cons (pv 6) (pa_cons (pe_call GT hr (by rfl) gT FT.kp bT .nil pass0 (pa_cons (pv 0) (pa_cons (pv 7) pa_nil))) pa_nil)))) pa_nil)))
        (pss_one (ps_expr (pe_bm PySem.F.plainAttrs_list PySem.F.slot_list_append PySem.F.type_list_append mt_append (pv 5) (pa_cons (pv 3) pa_nil)))) pss_nil)))) ?_
    refine blk_cons (ps_ret (pv 5)) ?_
    refine blk_nil ?_
    have hvl := dpAll_len hd
    unfold lotsD at hvl
    rw [List.length_map] at hvl
    obtain ⟨lq, e1, hlq⟩ := lots_at hd ha
    have lok := hok _ (show lots.getD a [] ∈ lots by rw [List.getD_eq_getElem?_getD, List.getElem?_eq_getElem ha]; exact List.getElem_mem ha)
    have ll := asc_len lok.1 lok.2
    refine ⟨_, rfl, _, rfl, F, vs, _, _, rfl, rfl, sqL gF, atI_nat e1, lq, rfl, ⟨_, hlq⟩, fun D nD => ?_⟩
    have key : offL (lots.getD a []) xs = offL (lots.getD a []) xs := rfl
    generalize hso : offL (lots.getD a []) xs = so at key
    refine lc_tup (K := K) (a := lq) (xs := (lots.getD a []).map V.int) (fun i G => Same H G ∧ G D = some (.lst ((((lots.getD a []).take i).filter (offB xs)).map V.int))) ⟨same_new nD, upd_same⟩ (fun i G _ hP => same_seqT hP.1 hlq) (fun i x G hx hP => ?_) (fun G hP => ?_)
    · obtain ⟨s1, gD⟩ := hP
      obtain ⟨kk, hkk, rfl⟩ := map_at hx
      have hi : i < (lots.getD a []).length := (List.getElem?_eq_some_iff.mp hkk).1
      have hb := lok.2 kk (List.mem_of_getElem? hkk)
      have hlt : kk.toNat < xs.length := by omega
      refine ⟨rfl, _, rfl, _, rfl, sq, _, (kk.toNat : Int), .int (xs.getD kk.toNat 0), rfl, by rw [Int.toNat_of_nonneg hb.1], same_seqT s1 hs, atI_nat (by rw [List.getElem?_map, List.getElem?_eq_getElem hlt, List.getD_eq_getElem?_getD, List.getElem?_eq_getElem hlt]; rfl), _, _, rfl, rfl, _, rfl, ?_⟩
      refine ite2 (fun h => ⟨_, rfl, _, gD, ?_, fun b o e => ?_, ?_⟩) (fun h => ⟨s1, ?_⟩)
      · rw [List.length_map]
        have := filt_len (offB xs) ((lots.getD a []).take i)
        rw [List.length_take] at this
        exact small1000 (by omega)
      · rw [upd_ne (ne_of_none e nD)]
        exact s1 _ _ e
      · rw [upd_same, filt_take hkk, if_pos (show offB xs kk = true from h), List.map_append]
        rfl
      · rw [filt_take hkk, if_neg (show ¬ offB xs kk = true from h), List.append_nil]
        exact gD
    obtain ⟨s1, gD⟩ := hP
    rw [List.length_map, List.take_length] at gD
    have lso : so.length ≤ 8 := by
      rw [← hso]
      have := filt_len (offB xs) (lots.getD a [])
      unfold offL
      omega
    replace gD : G D = some (.lst (so.map V.int)) := by rw [← hso]; exact gD
    have hq2 : ∀ G' E, Same H G' → G' E = some (.lst ((so.filter (goodI lots so)).map V.int)) → Q (.ref E) G' := fun G' E s g => q G' E s (by unfold leastI; rw [hso]; exact g)
    refine ⟨Nat.zero_le _, fun Fo nFo => ?_⟩
    have nDF : D ≠ Fo := ne_of_none gD nFo
    have s2 := s1.trans (same_new (o := .lst []) nFo)
    have gD2 := (same_new (o := .lst []) nFo) _ _ gD
    have gF2 := upd_same (H := G) (a := Fo) (o := .lst [])
    generalize upd G Fo (.lst []) = G2 at s2 gD2 gF2 ⊢
    dsimp only [gName]
    refine ⟨_, rfl, D, rfl, ⟨_, sqL gD2⟩, for_list (xs := so.map V.int) (fun i σ J => ∃ y3 y6, σ = [some (.ref F), some (.ref sq), some (.int (a : Int)), y3, some (.ref D), some (.ref Fo), y6, none] ∧ Same H J ∧ J D = some (.lst (so.map V.int)) ∧ J Fo = some (.lst (((so.take i).filter (goodI lots so)).map V.int))) ⟨_, _, rfl, s2, gD2, gF2⟩ (fun i σ J _ hP => ?_) (fun i x σ J hx hP => ?_) (fun σ J hP => ?_)⟩
    · obtain ⟨y3, y6, _, _, g, _⟩ := hP
      exact sqL g
    · obtain ⟨y3, y6, rfl, s3, g3, gF3⟩ := hP
      obtain ⟨kk, hkk, rfl⟩ := map_at hx
      have hi : i < so.length := (List.getElem?_eq_some_iff.mp hkk).1
      have hd3 := dpAll_same s3 _ _ hd
      refine ⟨_, rfl, _, rfl, F, lots, kk, rfl, ⟨vs, s3 _ _ gF, hd3⟩, hl, fun G4 M s4 gM => ?_⟩
      have gD4 := s4 _ _ g3
      have s34 := s3.trans s4
      refine ⟨_, rfl, D, rfl, ⟨_, sqL gD4⟩, fun B nB => lc_list (K := K) (a := D) (xs := so.map V.int) (fun j J2 => Same G4 J2 ∧ J2 B = some (.lst (((so.take j).map fun o => (takI lots kk).all fun z => decide (z ∈ takI lots o)).map V.bl))) ⟨same_new nB, upd_same⟩ (fun j J2 _ hQ => sqL (hQ.1 _ _ gD4)) (fun j y J2 hy hQ => ?_) (fun J2 hQ => ?_)⟩
      · obtain ⟨s5, gB⟩ := hQ
        obtain ⟨oo, hoo, rfl⟩ := map_at hy
        have hj : j < so.length := (List.getElem?_eq_some_iff.mp hoo).1
        refine ⟨rfl, ?_⟩
        dsimp only [tYes]
        rw [if_pos rfl]
        refine ⟨_, rfl, _, rfl, _, rfl, F, lots, oo, rfl, ⟨vs, (s34.trans s5) _ _ gF, dpAll_same (s34.trans s5) _ _ hd⟩, hl, fun G6 N s6 gN => ?_⟩
        have tl : (takI lots kk).length ≤ lots.length := idxF_len _ _
        refine ⟨M, N, _, _, rfl, (s5.trans s6) _ _ gM, gN, by omega, fun G7 s7 => ?_⟩
        have s67 := s6.trans s7
        refine ⟨_, s67 _ _ gB, ?_, fun b o e => ?_, ?_⟩
        · rw [List.length_map, List.length_map, List.length_take]
          exact small1000 (by omega)
        · rw [upd_ne (ne_of_none e nB)]
          exact s67 _ _ (s5 _ _ e)
        · rw [upd_same, List.take_add_one, hoo, List.map_append, List.map_append]
          rfl
      obtain ⟨s5, gB⟩ := hQ
      rw [List.length_map, List.take_length] at gB
      refine ⟨B, _, rfl, sqL gB, _, rfl, ?_⟩
      have e2 : (so.map fun o => (takI lots kk).all fun z => decide (z ∈ takI lots o)).all id = goodI lots so kk := by rw [List.all_map]; rfl
      rw [e2]
      have s35 := s34.trans s5
      have gD5 := s5 _ _ gD4
      have gFo5 := s5 _ _ (s4 _ _ gF3)
      have nHo : H Fo = none := s1.free nFo
      refine ite2 (fun c => ?_) (fun c => ⟨_, _, rfl, s35, gD5, ?_⟩)
      · refine ⟨_, rfl, .inl ⟨rfl, _, sqL gFo5⟩, _, rfl, Fo, _, _, rfl, rfl, gFo5, ?_, _, _, rfl, fun b o e => ?_, (upd_ne nDF).trans gD5, ?_⟩
        · rw [List.length_map]
          have := filt_len (goodI lots so) (so.take i)
          rw [List.length_take] at this
          exact small1000 (by omega)
        · rw [upd_ne (ne_of_none e nHo)]
          exact s35 _ _ e
        · rw [upd_same, filt_take hkk, if_pos c, List.map_append]
          rfl
      · rw [filt_take hkk, if_neg c, List.append_nil]
        exact gFo5
    · obtain ⟨y3, y6, rfl, s3, g3, gF3⟩ := hP
      rw [List.length_map, List.take_length] at gF3
      exact ⟨_, rfl, hq2 J Fo s3 gF3⟩
end
end K20
namespace Gd
open PySem PySem.Spec PyProof.Rows L2
def lessL (xs : List Int) (a : Nat) : List Int := xs.set a (xs.getD a 0 - 1)
/-- all parts of some items -/
def subF (ns : List Int) : List (List Int) := ns.foldl (fun f x => f ++ f.map fun p => p ++ [x]) [[]]
theorem subF_snoc (ns : List Int) (x : Int) : subF (ns ++ [x]) = subF ns ++ (subF ns).map fun p => p ++ [x] := by
  unfold subF
  rw [List.foldl_append]
  rfl
theorem subF_len (ns : List Int) : (subF ns).length = 2 ^ ns.length := by
  have key : ∀ (ns : List Int) (f : List (List Int)), (ns.foldl (fun f x => f ++ f.map fun p => p ++ [x]) f).length = f.length * 2 ^ ns.length := by
    intro ns
    induction ns with
    | nil => intro f; simp
    | cons x r ih =>
      intro f
      rw [List.foldl_cons, ih, List.length_append, List.length_map, List.length_cons, Nat.pow_succ]
      rw [← Nat.two_mul, Nat.mul_comm 2, Nat.mul_assoc, Nat.mul_comm 2]
  have := key ns [[]]
  rw [List.length_singleton, Nat.one_mul] at this
  exact this
theorem subF_take {ns : List Int} {i : Nat} {x : Int} (h : ns[i]? = some x) : subF (ns.take (i + 1)) = subF (ns.take i) ++ (subF (ns.take i)).map fun p => p ++ [x] := by
  rw [List.take_add_one, h]
  exact subF_snoc _ _
/-- each part is among them, and all are made of the items -/
theorem subF_mem {ns : List Int} : ∀ p ∈ subF ns, (∀ x ∈ p, x ∈ ns) ∧ p.length ≤ ns.length := by
  have key : ∀ (n : Nat) (ns : List Int), ns.length = n → ∀ p ∈ subF ns, (∀ x ∈ p, x ∈ ns) ∧ p.length ≤ ns.length := by
    intro n
    induction n with
    | zero =>
      intro ns hn p hp
      rw [List.length_eq_zero_iff.mp hn] at hp ⊢
      have : p = [] := by
        unfold subF at hp
        simpa using hp
      subst this
      exact ⟨fun _ h => h, Nat.le_refl _⟩
    | succ n ih =>
      intro ns hn p hp
      rcases List.eq_nil_or_concat ns with e | ⟨a, b, e⟩
      · rw [e] at hn; cases hn
      · rw [List.concat_eq_append] at e
        subst e
        rw [List.length_append] at hn
        have hn' : a.length = n := by simpa using hn
        rw [subF_snoc] at hp
        rw [List.length_append]
        rcases List.mem_append.mp hp with m | m
        · have := ih a hn' p m
          exact ⟨fun x hx => List.mem_append_left _ (this.1 x hx), Nat.le_trans this.2 (Nat.le_add_right _ _)⟩
        · obtain ⟨p0, hp0, rfl⟩ := List.mem_map.mp m
          have := ih a hn' p0 hp0
          refine ⟨fun x hx => ?_, ?_⟩
          · rcases List.mem_append.mp hx with h | h
            · exact List.mem_append_left _ (this.1 x h)
            · exact List.mem_append_right _ h
          · rw [List.length_append]
            exact Nat.add_le_add_right this.2 _
  exact key _ ns rfl
theorem subF_has (q : Int → Bool) : ∀ ns : List Int, ns.filter q ∈ subF ns := by
  have key : ∀ (n : Nat) (ns : List Int), ns.length = n → ns.filter q ∈ subF ns := by
    intro n
    induction n with
    | zero =>
      intro ns hn
      rw [List.length_eq_zero_iff.mp hn]
      exact List.mem_cons_self ..
    | succ n ih =>
      intro ns hn
      rcases List.eq_nil_or_concat ns with e | ⟨a, b, e⟩
      · rw [e] at hn; cases hn
      · rw [List.concat_eq_append] at e
        subst e
        have hn' : a.length = n := by simpa using hn
        rw [subF_snoc, List.filter_append]
        by_cases hq : q b = true
        · rw [List.filter_cons_of_pos hq]
          exact List.mem_append_right _ (List.mem_map.mpr ⟨_, ih a hn', rfl⟩)
        · rw [List.filter_cons_of_neg hq]
          rw [List.filter_nil, List.append_nil]
          exact List.mem_append_left _ (ih a hn')
  exact fun ns => key _ ns rfl
end Gd
namespace K20
open PySem PySem.Spec PyProof.Rows L2 Gd
section
variable {P : Program} {w : World} {K : PySem.W.Frag} {mg : Str → Option Value} {base : Heap}
/-! ### _law_less -/
def spLess (K : PySem.W.Frag) : Sp := fun vs H Q _ => ∃ (q : Addr) (xs : List Int) (a : Nat), vs = [.ref q, .int (a : Int)] ∧ SqT K H q (xs.map V.int) ∧ a < xs.length ∧ xs.length ≤ 1000 ∧ ∀ G r, Same H G → SqT K G r ((lessL xs a).map V.int) → Q (.ref r) G
theorem ok_less {f : Addr} {fd : FuncData} {k : Nat} (F : Fun K "_law_less" "_law_less" s__law_less f fd) : FnOk P w K mg base CX0 (k + 1) f fd ["left", "kind"] (spLess K) := by
  refine F.ok sc__law_less (fun vs H Q E h => ?_) (fun cdv A outer s H vs Q E hr h => ?_)
  · obtain ⟨q, xs, a, rfl, _⟩ := h
    rfl
  · obtain ⟨q0, xs, a, rfl, hq, ha, hl, q⟩ := h
    refine blk_cons (ps_ret (pe_op (r := rCatA K) op_catA (pe_op (r := rCatA K) op_catA (pe_slice (r := rSlA K) sl_tupA (pv 0) po_none (po_some (pv 1))) (pe_tup (pa_cons (pe_op op_sub (pe_ix (r := rIxT K) ix_tup (pv 0) (pv 1) (fun _ _ => rfl)) pe_int) pa_nil))) (pe_slice (r := rSlA K) sl_tupA (pv 0) (po_some (pe_op op_add (pv 1) pe_int)) po_none))) ?_
    refine blk_nil ?_
    refine ⟨_, rfl, ?_⟩
    dsimp only [tNoPart]
    refine ⟨_, rfl, _, rfl, slA_to hq fun G1 q1 s1 h1 => ?_⟩
    rw [cut_to (by rw [List.length_map]; omega)] at h1
    refine ⟨_, rfl, _, rfl, q0, _, _, .int (xs.getD a 0), rfl, rfl, same_seqT s1 hq, atI_nat (by rw [List.getElem?_map, List.getElem?_eq_getElem ha, List.getD_eq_getElem?_getD, List.getElem?_eq_getElem ha]; rfl), _, _, rfl, rfl, by show 1 ≤ sizeLine; decide, fun p2 n2 => ?_⟩
    have s2 := same_new (o := .tup [V.int (xs.getD a 0 - 1)]) n2
    refine cat_to (same_seqT s2 h1) (sqT upd_same) (by rw [List.length_take, List.length_map]; show _ + 1 ≤ 5000; omega) fun G3 q3 s3 h3 => ?_
    have s13 := (s1.trans s2).trans s3
    refine ⟨_, rfl, _, rfl, _, _, rfl, rfl, _, rfl, ?_⟩
    dsimp only [tNoPart]
    rw [show (a : Int) + 1 = ((a + 1 : Nat) : Int) by omega]
    refine slA_to (same_seqT s13 hq) fun G4 q4 s4 h4 => ?_
    rw [cut_from (by rw [List.length_map]; omega)] at h4
    refine cat_to (same_seqT s4 h3) h4 (by rw [List.length_append, List.length_take, List.length_drop, List.length_map]; show _ + 1 + _ ≤ 5000; omega) fun G5 q5 s5 h5 => q G5 q5 ((s13.trans s4).trans s5) ?_
    have e : (xs.map V.int).take a ++ [V.int (xs.getD a 0 - 1)] ++ (xs.map V.int).drop (a + 1) = (lessL xs a).map V.int := by
      unfold lessL
      rw [List.set_eq_take_append_cons_drop, if_pos ha, List.map_append, List.map_cons, List.map_take, List.map_drop, List.append_assoc]
      rfl
    rw [e] at h5
    exact h5
/-! ### _law_is_row -/
def spIsRow (K : PySem.W.Frag) : Sp := fun vs H Q _ => ∃ (F q : Addr) (us : List V) (ns : List Int), vs = [.ref F, .ref q] ∧ H F = some (.lst us) ∧ SqT K H q (ns.map V.int) ∧ ns.length ≤ 1000 ∧ (∀ n ∈ ns, 0 ≤ n ∧ n < (us.length : Int)) ∧ ∀ G, Same H G → Q (.bl true) G
theorem ok_isrow {f : Addr} {fd : FuncData} {k : Nat} (F : Fun K "_law_is_row" "_law_is_row" s__law_is_row f fd) (ma : mg "all" = none) (ml : mg "len" = none) (mI : mg "isinstance" = none) (mi : mg "int" = none) (mb : mg "bool" = none) (mt : mg "tuple" = none) : FnOk P w K mg base CX0 (k + 1) f fd ["lots", "value"] (spIsRow K) := by
  refine F.ok sc__law_is_row (fun vs H Q E h => ?_) (fun cdv A outer s H vs Q E hr h => ?_)
  · obtain ⟨F, q, us, ns, rfl, _⟩ := h
    rfl
  · obtain ⟨F, q0, us, ns, rfl, gF, hq, hl, hn, q⟩ := h
    refine blk_cons (ps_if (PW.pt (pw_or (pt_not (pt_val (pe_callB call_isi (by rfl) mI (by decide +kernel) (pa_cons (pv 1) (pa_cons (pe_bltn (v := .ty "tuple") (by rfl) mt (by decide +kernel) rfl) pa_nil)))))
      (pw_or1 (pt_not (pt_val (pe_callB (cr_all rfl) (by rfl) ma (by decide +kernel) (pa_cons (pe_lc (own := [("item", 2)]) (g := gName 2) (tt := tYes) rfl sc__law_is_row.nd (pi_tup (pv 1)) (blkOk_by (own := [("item", 2)]) (N := n__law_is_row) (sc := defScope s__law_is_row) (by decide +kernel))
        (fun _ _ _ _ _ => pg_name (i := 2) sc__law_is_row.nd rfl (Or.inl rfl)) (fun _ _ _ _ _ => pts_nil) (fun _ _ _ _ _ => pe_and (pe_callB (r := rIsi K) call_isi (by rfl) mI (by decide +kernel) (pa_cons (pv 2) (pa_cons (pe_bltn (v := .ty "int") (by rfl) mi (by decide +kernel) rfl) pa_nil)))
          (pe_one (pe_not (pe_callB (r := rIsi K) call_isi (by rfl) mI (by decide +kernel) (pa_cons (pv 2) (pa_cons (pe_bltn (v := .ty "bool") (by rfl) mb (by decide +kernel) rfl) pa_nil))))))) pa_nil))))))) (pss_one (ps_ret pe_bl)) pss_nil) ?_
    refine blk_cons (ps_ret (pe_callB (cr_all rfl) (by rfl) ma (by decide +kernel) (pa_cons (pe_lc (own := [("item", 2)]) (g := gName 2) (tt := tYes) rfl sc__law_is_row.nd (pi_tup (pv 1)) (blkOk_by (own := [("item", 2)]) (N := n__law_is_row) (sc := defScope s__law_is_row) (by decide +kernel))
        (fun _ _ _ _ _ => pg_name (i := 2) sc__law_is_row.nd rfl (Or.inl rfl)) (fun _ _ _ _ _ => pts_nil) (fun _ _ _ _ _ => pe_chain op_le op_lt pe_int (pv 2) (pe_callB (r := rLenQ K) call_len_seq (by rfl) ml PySem.boot_len (pa_cons (pv 0) pa_nil)))) pa_nil))) ?_
    refine blk_nil ?_
    refine ⟨_, rfl, _, _, _, _, true, rfl, .ty "tuple", tyT hq, kit_ty (by decide +kernel), _, rfl, iteF ?_⟩
    refine ⟨_, rfl, q0, rfl, ⟨_, hq⟩, fun D nD => lc_tup (K := K) (a := q0) (xs := ns.map V.int) (fun i G => Same H G ∧ G D = some (.lst (((ns.take i).map fun _ => true).map V.bl))) ⟨same_new nD, upd_same⟩ (fun i G _ hP => same_seqT hP.1 hq) (fun i x G hx hP => ?_) (fun G hP => ?_)⟩
    · obtain ⟨s1, gD⟩ := hP
      obtain ⟨z, hz, rfl⟩ := map_at hx
      have hi : i < ns.length := (List.getElem?_eq_some_iff.mp hz).1
      refine ⟨rfl, ?_⟩
      dsimp only [tYes]
      rw [if_pos rfl]
      refine ⟨_, rfl, _, _, _, _, true, rfl, .ty "int", TyN.int z, kit_ty (by decide +kernel), _, rfl, iteT ?_⟩
      refine ⟨_, rfl, _, _, _, _, false, rfl, .ty "bool", TyN.int z, kit_ty (by decide +kernel), _, rfl, ?_⟩
      refine ⟨_, gD, ?_, fun b o e => ?_, ?_⟩
      · rw [List.length_map, List.length_map, List.length_take]
        exact small1000 (by omega)
      · rw [upd_ne (ne_of_none e nD)]
        exact s1 _ _ e
      · rw [upd_same, List.take_add_one, hz, List.map_append, List.map_append]
        rfl
    · obtain ⟨s1, gD⟩ := hP
      rw [List.length_map, List.take_length] at gD
      refine ⟨D, _, rfl, sqL gD, _, rfl, ?_⟩
      have e1 : (ns.map fun _ => true).all id = true := by rw [List.all_map]; exact List.all_eq_true.mpr fun _ _ => rfl
      rw [e1]
      have gF1 := s1 _ _ gF
      have hq1 := same_seqT s1 hq
      refine iteF ⟨_, rfl, q0, rfl, ⟨_, hq1⟩, fun E2 nE => lc_tup (K := K) (a := q0) (xs := ns.map V.int) (fun i J => Same G J ∧ J E2 = some (.lst (((ns.take i).map fun _ => true).map V.bl))) ⟨same_new nE, upd_same⟩ (fun i J _ hP => same_seqT hP.1 hq1) (fun i x J hx hP => ?_) (fun J hP => ?_)⟩
      · obtain ⟨s2, gE⟩ := hP
        obtain ⟨z, hz, rfl⟩ := map_at hx
        have hi : i < ns.length := (List.getElem?_eq_some_iff.mp hz).1
        have hzz := hn z (List.mem_of_getElem? hz)
        refine ⟨rfl, ?_⟩
        dsimp only [tYes]
        rw [if_pos rfl]
        refine ⟨_, rfl, _, _, rfl, rfl, _, rfl, ?_⟩
        rw [decide_eq_true hzz.1]
        refine iteT ⟨_, rfl, F, us, rfl, .inl (sqL (s2 _ _ gF1)), _, _, rfl, rfl, ?_⟩
        dsimp only; rw [decide_eq_true hzz.2]
        refine ⟨_, gE, ?_, fun b o e => ?_, ?_⟩
        · rw [List.length_map, List.length_map, List.length_take]
          exact small1000 (by omega)
        · rw [upd_ne (ne_of_none e nE)]
          exact s2 _ _ e
        · rw [upd_same, List.take_add_one, hz, List.map_append, List.map_append]
          rfl
      · obtain ⟨s2, gE⟩ := hP
        rw [List.length_map, List.take_length] at gE
        refine ⟨E2, _, rfl, sqL gE, ?_⟩
        rw [e1]
        exact q _ (s1.trans s2)
end
end K20
namespace Gd
open PySem PySem.Spec PyProof.Rows L2
theorem dpAll_app {K : PySem.W.Frag} {H : Hp} : ∀ {us : List V} {ds : List PyData} {ws : List V} {es : List PyData}, DpAll K H us ds → DpAll K H ws es → DpAll K H (us ++ ws) (ds ++ es)
  | _, _, _, _, .nil, h => h
  | _, _, _, _, .cons a t, h => .cons a (dpAll_app t h)
end Gd
namespace K20
open PySem PySem.Spec PyProof.Rows L2 Gd
section
variable {P : Program} {w : World} {K : PySem.W.Frag} {mg : Str → Option Value} {base : Heap}
/-! ### _law_subsets -/
def spSub (K : PySem.W.Frag) : Sp := fun vs H Q _ => ∃ (a : Addr) (ns : List Int), vs = [.ref a] ∧ H a = some (.lst (ns.map V.int)) ∧ ns.length ≤ 8 ∧ ∀ G D, Same H G → LotsAt K G D (subF ns) → Q (.ref D) G
theorem ok_sub {f : Addr} {fd : FuncData} {k : Nat} (F : Fun K "_law_subsets" "_law_subsets" s__law_subsets f fd) : FnOk P w K mg base CX0 (k + 1) f fd ["items"] (spSub K) := by
  refine F.ok sc__law_subsets (fun vs H Q E h => ?_) (fun cdv A outer s H vs Q E hr h => ?_)
  · obtain ⟨a, ns, rfl, _⟩ := h
    rfl
  · obtain ⟨a, ns, rfl, ga, hl, q⟩ := h
    refine blk_cons (ps_set (i := 1) sc__law_subsets.nd rfl (.inl rfl) (pe_lst (pa_cons (pe_tup pa_nil) pa_nil))) ?_
    refine blk_cons (ps_for PassesOwn.never rfl (pi_list (pv 0)) (pg_name (i := 2) sc__law_subsets.nd rfl (.inr rfl))
      (pss_one (ps_set (i := 1) sc__law_subsets.nd rfl (.inl rfl) (pe_op op_cat (pv 1) (pe_lc (own := [("part", 3)]) (g := gName 3) (tt := tYes) rfl sc__law_subsets.nd (pi_list (pv 1)) (blkOk_by (own := [("part", 3)]) (N := n__law_subsets) (sc := defScope s__law_subsets) (by decide +kernel))
        (fun _ _ _ _ _ => pg_name (i := 3) sc__law_subsets.nd rfl (Or.inl rfl)) (fun _ _ _ _ _ => pts_nil) (fun _ _ _ _ _ => pe_op (r := rCatA K) op_catA (pv 3) (pe_tup (pa_cons (pv 2) pa_nil)))))))) ?_
    refine blk_cons (ps_ret (pv 1)) ?_
    refine blk_nil ?_
    refine ⟨Nat.zero_le _, fun p0 n0 => ⟨by show 1 ≤ sizeLine; decide, fun F0 nF0 => ?_⟩⟩
    have s0 : Same H (upd (upd H p0 (.tup [])) F0 (.lst [.ref p0])) := (same_new n0).trans (same_new nF0)
    have l0 : LotsAt K (upd (upd H p0 (.tup [])) F0 (.lst [.ref p0])) F0 (subF []) := ⟨_, upd_same, .cons (dp_tup (l := []) (sqT ((upd_ne (ne_of_none upd_same nF0)).trans upd_same))) .nil⟩
    generalize upd (upd H p0 (.tup [])) F0 (.lst [.ref p0]) = G0 at s0 l0 ⊢
    dsimp only [gName]
    refine ⟨_, rfl, a, rfl, ⟨_, sqL (s0 _ _ ga)⟩, for_list (xs := ns.map V.int) (fun i σ G => ∃ (D : Addr) (y2 : Option V), σ = [some (.ref a), some (.ref D), y2, none] ∧ Same H G ∧ LotsAt K G D (subF (ns.take i))) ⟨F0, _, rfl, s0, l0⟩ (fun i σ G _ hP => ?_) (fun i x σ G hx hP => ?_) (fun σ G hP => ?_)⟩
    · obtain ⟨_, _, _, s1, _⟩ := hP
      exact sqL (s1 _ _ ga)
    · obtain ⟨D, y2, rfl, s1, ⟨vs, gD, hd⟩⟩ := hP
      obtain ⟨z, hz, rfl⟩ := map_at hx
      have hi : i < ns.length := (List.getElem?_eq_some_iff.mp hz).1
      have hvl := dpAll_len hd
      unfold lotsD at hvl
      rw [List.length_map, subF_len, List.length_take] at hvl
      have hp : 2 ^ (min i ns.length) ≤ 2 ^ 8 := Nat.pow_le_pow_right (by decide) (by omega)
      have h256 : vs.length ≤ 256 := by
        rw [hvl]
        exact hp
      refine ⟨_, rfl, _, rfl, D, rfl, ⟨_, sqL gD⟩, fun E2 nE => ?_⟩
      refine lc_list (K := K) (a := D) (xs := vs) (fun j J => Same G J ∧ LotsAt K J E2 (((subF (ns.take i)).take j).map fun p => p ++ [z])) ⟨same_new nE, ⟨[], upd_same, .nil⟩⟩ (fun j J _ hQ => sqL (hQ.1 _ _ gD)) (fun j y J hy hQ => ?_) (fun J hQ => ?_)
      · obtain ⟨s2, ⟨us, gE, he⟩⟩ := hQ
        have hj : j < vs.length := (List.getElem?_eq_some_iff.mp hy).1
        obtain ⟨pp, hpp, dpp⟩ := row_at (dpAll_same s2 _ _ hd) hy
        obtain ⟨pq, rfl, hpq⟩ := row_inv dpp
        have mp := subF_mem _ (List.mem_of_getElem? hpp)
        rw [List.length_take] at mp
        refine ⟨rfl, ?_⟩
        dsimp only [tYes]
        rw [if_pos rfl]
        refine ⟨_, rfl, _, rfl, by show 1 ≤ sizeLine; decide, fun p3 n3 => ?_⟩
        have s3 := same_new (o := .tup [V.int z]) n3
        refine cat_to (same_seqT s3 hpq) (sqT upd_same) (by rw [List.length_map]; show _ + 1 ≤ 5000; omega) fun G4 q4 s4 h4 => ?_
        have s34 := s3.trans s4
        have gE4 := s34 _ _ gE
        have k5 : KeepT G4 (upd G4 E2 (.lst (us ++ [.ref q4]))) := .put gE4
        refine ⟨us, gE4, ?_, fun b o e => ?_, ⟨_, upd_same, ?_⟩⟩
        · have := dpAll_len he
          unfold lotsD at this
          rw [List.length_map, List.length_map, List.length_take] at this
          exact small1000 (by omega)
        · rw [upd_ne (ne_of_none e nE)]
          exact s34 _ _ (s2 _ _ e)
        · rw [List.take_add_one, hpp, List.map_append]
          unfold lotsD
          rw [List.map_append]
          refine dpAll_snoc (dpAll_keep k5 _ _ (noList_lots _) (dpAll_same s34 _ _ he)) ?_
          refine dp_tup (k5.seqT ?_)
          rw [List.map_append]
          exact h4
      · obtain ⟨s2, ⟨us, gE, he⟩⟩ := hQ
        have hsl : (subF (ns.take i)).length = vs.length := by rw [hvl, subF_len, List.length_take]
        rw [← hsl, List.take_length] at he
        have hul := dpAll_len he
        unfold lotsD at hul
        rw [List.length_map, List.length_map, hsl] at hul
        have hcat : vs.length + us.length ≤ sizeLine := by
          have : (1000 : Nat) ≤ sizeLine := by decide
          omega
        refine ⟨D, E2, vs, us, rfl, rfl, s2 _ _ gD, gE, hcat, fun D2 n2 => ?_⟩
        have s3 := same_new (o := .lst (vs ++ us)) n2
        refine ⟨D2, _, rfl, (s1.trans s2).trans s3, ⟨_, upd_same, ?_⟩⟩
        rw [subF_take hz]
        unfold lotsD
        rw [List.map_append]
        exact dpAll_app (dpAll_same (s2.trans s3) _ _ hd) (dpAll_same s3 _ _ he)
    · obtain ⟨D, y2, rfl, s1, hL⟩ := hP
      rw [List.length_map, List.take_length] at hL
      exact ⟨_, rfl, q G D s1 hL⟩
end
end K20
namespace K20
open PySem PySem.Spec PyProof.Rows L2 Gd
/-- the kinds that some types take -/
def kindsT (lots : List (List Int)) (n : Nat) (part : List Int) : List Int := idxF (fun k => part.any fun a => decide ((k : Int) ∈ lots.getD a.toNat [])) n
def worth (lots : List (List Int)) (xs row part : List Int) : Int := unitsI xs (kindsT lots xs.length part) + ((row.filter fun r => decide (r ∉ part)).length : Int)
structure IsMost (lots : List (List Int)) (xs row : List Int) (m : Int) : Prop where
  le : ∀ part : List Int, (∀ x ∈ part, x ∈ row) → m ≤ worth lots xs row part
  ex : ∃ part : List Int, (∀ x ∈ part, x ∈ row) ∧ m = worth lots xs row part
def bestF (lots : List (List Int)) (xs row : List Int) (ps : List (List Int)) : Int := ps.foldl (fun b p => if worth lots xs row p < b then worth lots xs row p else b) (row.length : Int)
theorem bestF_snoc (lots : List (List Int)) (xs row : List Int) (ps : List (List Int)) (p : List Int) : bestF lots xs row (ps ++ [p]) = if worth lots xs row p < bestF lots xs row ps then worth lots xs row p else bestF lots xs row ps := by
  unfold bestF
  rw [List.foldl_append]
  rfl
theorem bestF_is {lots : List (List Int)} {xs row : List Int} : ∀ (ps : List (List Int)) (b : Int), (∀ p ∈ ps, ps.foldl (fun b p => if worth lots xs row p < b then worth lots xs row p else b) b ≤ worth lots xs row p) ∧
    ps.foldl (fun b p => if worth lots xs row p < b then worth lots xs row p else b) b ≤ b ∧ (ps.foldl (fun b p => if worth lots xs row p < b then worth lots xs row p else b) b = b ∨ ∃ p ∈ ps, ps.foldl (fun b p => if worth lots xs row p < b then worth lots xs row p else b) b = worth lots xs row p)
  | [], b => ⟨fun _ h => absurd h List.not_mem_nil, Int.le_refl _, .inl rfl⟩
  | p :: ps, b => by
    obtain ⟨h1, h2, h3⟩ := bestF_is ps (if worth lots xs row p < b then worth lots xs row p else b)
    have e1 : (if worth lots xs row p < b then worth lots xs row p else b) ≤ worth lots xs row p := by split <;> omega
    have e2 : (if worth lots xs row p < b then worth lots xs row p else b) ≤ b := by split <;> omega
    rw [List.foldl_cons]
    refine ⟨fun p' m => ?_, Int.le_trans h2 e2, ?_⟩
    · rcases List.mem_cons.mp m with rfl | m
      · exact Int.le_trans h2 e1
      · exact h1 p' m
    · rcases h3 with e | ⟨p', m, e⟩
      · by_cases c : worth lots xs row p < b
        · rw [if_pos c] at e ⊢
          exact .inr ⟨p, List.mem_cons_self .., e⟩
        · rw [if_neg c] at e ⊢
          exact .inl e
      · exact .inr ⟨p', List.mem_cons_of_mem _ m, e⟩
theorem worth_congr {lots : List (List Int)} {xs row p p' : List Int} (h : ∀ x, x ∈ p ↔ x ∈ p') : worth lots xs row p = worth lots xs row p' := by
  unfold worth kindsT
  have e1 : ∀ k : Nat, (p.any fun a => decide ((k : Int) ∈ lots.getD a.toNat [])) = p'.any fun a => decide ((k : Int) ∈ lots.getD a.toNat []) := fun k => by
    rw [Bool.eq_iff_iff, List.any_eq_true, List.any_eq_true]
    exact ⟨fun ⟨a, m, z⟩ => ⟨a, (h a).mp m, z⟩, fun ⟨a, m, z⟩ => ⟨a, (h a).mpr m, z⟩⟩
  have e2 : (row.filter fun r => decide (r ∉ p)) = row.filter fun r => decide (r ∉ p') := List.filter_congr fun r _ => by
    rw [decide_eq_decide]
    exact not_congr (h r)
  rw [e2, idxF_congr fun i _ => e1 i]
theorem worth_nil (lots : List (List Int)) (xs row : List Int) : worth lots xs row [] = (row.length : Int) := by
  unfold worth kindsT
  have e : ∀ n, idxF (fun k => ([] : List Int).any fun a => decide ((k : Int) ∈ lots.getD a.toNat [])) n = [] := fun n => by
    induction n with
    | zero => rfl
    | succ n ih => rw [idxF_succ, ih]; rfl
  rw [e]
  have e2 : (row.filter fun r => decide (r ∉ ([] : List Int))) = row := List.filter_eq_self.mpr fun _ _ => decide_eq_true List.not_mem_nil
  rw [e2]
  show (0 : Int) + _ = _
  omega
theorem most_of {lots : List (List Int)} {xs row ys : List Int} (hy : ∀ x, x ∈ ys ↔ x ∈ row) : IsMost lots xs row (bestF lots xs row (subF ys)) := by
  obtain ⟨h1, h2, h3⟩ := bestF_is (lots := lots) (xs := xs) (row := row) (subF ys) (row.length : Int)
  refine ⟨fun part hp => ?_, ?_⟩
  · have := h1 _ (subF_has (fun x => decide (x ∈ part)) ys)
    rw [worth_congr (p' := part) fun x => ?_] at this
    · exact this
    · rw [List.mem_filter, decide_eq_true_eq]
      exact ⟨fun z => z.2, fun z => ⟨(hy x).mpr (hp x z), z⟩⟩
  · rcases h3 with e | ⟨p, m, e⟩
    · exact ⟨[], fun _ h => absurd h List.not_mem_nil, by rw [worth_nil]; exact e⟩
    · exact ⟨p, fun x hx => (hy x).mp ((subF_mem p m).1 x hx), e⟩
section
variable {P : Program} {w : World} {K : PySem.W.Frag} {mg : Str → Option Value} {base : Heap}
/-! ### _law_most -/
def spMost (K : PySem.W.Frag) : Sp := fun vs H Q _ => ∃ (F sq rq : Addr) (lots : List (List Int)) (xs row : List Int), vs = [.ref F, .ref sq, .ref rq] ∧ LotsAt K H F lots ∧ lots.length ≤ 8 ∧ SqT K H sq (xs.map V.int) ∧ xs.length ≤ 8 ∧ SqT K H rq (row.map V.int) ∧ row.length ≤ 63 ∧ (∀ a ∈ row, 0 ≤ a ∧ a < (lots.length : Int)) ∧
  ∀ G m, Same H G → IsMost lots xs row m → Q (.int m) G
theorem ok_most {f fS : Addr} {fd fdS : FuncData} {k : Nat} (F : Fun K "_law_most" "_law_most" s__law_most f fd) (FS : Fun K "_law_subsets" "_law_subsets" s__law_subsets fS fdS) (bS : Binds K fdS ["items"] []) (gS : mg "_law_subsets" = some (.ref fS)) (GS : FnOk P w K mg base CX0 k fS fdS ["items"] (spSub K))
    (ml : mg "len" = none) (mr : mg "range" = none) (ma : mg "any" = none) (ms : mg "sum" = none) (mm : mg "min" = none) (mo : mg "sorted" = none) (mS : mg "set" = none) : FnOk P w K mg base CX0 (k + 1) f fd ["lots", "stock", "row"] (spMost K) := by
  refine F.ok sc__law_most (fun vs H Q E h => ?_) (fun cdv A outer s H vs Q E hr h => ?_)
  · obtain ⟨F, sq, rq, lots, xs, row, rfl, _⟩ := h
    rfl
  · obtain ⟨F, sq, rq, lots, xs, row, rfl, ⟨vs, gF, hd⟩, l8, hs, x8, hrow, rl, hra, q⟩ := h
    refine blk_cons (ps_set (i := 3) sc__law_most.nd rfl (.inl rfl) (pe_callB call_len_seq (by rfl) ml PySem.boot_len (pa_cons (pv 2) pa_nil))) ?_
    refine blk_cons (ps_for PassesOwn.never rfl (pi_list (pe_call GS hr (by rfl) gS FS.kp bS .nil pass0 (pa_cons (pe_callB (cr_sortedSet rfl) (by rfl) mo (by decide +kernel) (pa_cons (pe_callTy (cr_setTI rfl) (by rfl) mS (by decide +kernel) (pa_cons (pv 2) pa_nil)) pa_nil)) pa_nil))) (pg_name (i := 4) sc__law_most.nd rfl (.inr rfl))
      (pss_cons (ps_set (i := 5) sc__law_most.nd rfl (.inl rfl) (pe_callB (cr_sum rfl) (by rfl) ms (by decide +kernel) (pa_cons (pe_lc (own := [("kind", 7)]) (g := gName 7) rfl sc__law_most.nd (pi_range1 (by rfl) mr (pa_cons (pe_callB call_len_seq (by rfl) ml PySem.boot_len (pa_cons (pv 1) pa_nil)) pa_nil)) (blkOk_by (own := [("kind", 7)]) (N := n__law_most) (sc := defScope s__law_most) (by decide +kernel))
        (fun _ _ _ _ _ => pg_name (i := 7) sc__law_most.nd rfl (Or.inr rfl)) (fun _ _ _ _ _ => pts_one (pt_val (pe_callB (r := rAny K) (cr_any rfl) (by rfl) ma (by decide +kernel) (pa_cons (pe_lc (own := [("number", 6)]) (wi := iTup K (tVar 4)) (g := gName 6) (tt := tYes) rfl sc__law_most.nd (pi_tup (pv 4)) (blkOk_by (own := [("number", 6)]) (N := n__law_most) (by rfl))
          (fun _ _ _ _ _ => pg_name (i := 6) sc__law_most.nd rfl (Or.inl rfl)) (fun _ _ _ _ _ => pts_nil) (fun _ _ _ _ _ => pe_cmpR (r := rIn K false) op_in_seq (pv 7) (pe_ix (r := rIxL K) ix_list (pv 0) (pv 6) (fun _ _ => rfl)) (by rfl))) pa_nil)))) (fun _ _ _ _ _ => pe_ix (r := rIxT K) ix_tup (pv 1) (pv 7) (fun _ _ => rfl))) pa_nil)))
      (pss_one (ps_set (i := 3) sc__law_most.nd rfl (.inl rfl) (pe_callB (call_min2 rfl) (by rfl) mm (by decide +kernel) (pa_cons (pv 3) (pa_cons (pe_op op_add (pv 5) (pe_callB call_len_seq (by rfl) ml PySem.boot_len (pa_cons (pe_lc (own := [("request", 8)]) (g := gName 8) rfl sc__law_most.nd (pi_tup (pv 2)) (blkOk_by (own := [("request", 8)]) (N := n__law_most) (sc := defScope s__law_most) (by decide +kernel))
        (fun _ _ _ _ _ => pg_name (i := 8) sc__law_most.nd rfl (Or.inl rfl)) (fun _ _ _ _ _ => pts_one (pt_cmpR (r := rIn K true) op_notIn_seq (pv 8) (pv 4) (by rfl))) (fun _ _ _ _ _ => pv 8)) pa_nil))) pa_nil))))))) ?_
    refine blk_cons (ps_ret (pv 3)) ?_
    refine blk_nil ?_
    have hvl := dpAll_len hd
    unfold lotsD at hvl
    rw [List.length_map] at hvl
    refine ⟨_, rfl, rq, _, rfl, .inr hrow, ?_⟩
    rw [List.length_map]
    dsimp only [gName]
    refine ⟨_, rfl, rq, row, rfl, hrow, by omega, fun p1 c1 n1 hc1 => ?_⟩
    refine ⟨p1, _, _, rfl, upd_same, by omega, fun ys p2 hpw hmem hlen n2 => ?_⟩
    have hy : ∀ x, x ∈ ys ↔ x ∈ row := fun x => by rw [hmem x, decide_eq_true_eq]
    have ynd : ys.Nodup := hpw.imp fun h => by omega
    have y8 : ys.length ≤ lots.length := nd_bound ynd fun z m => hra z ((hy z).mp m)
    have s1 : Same H (upd (upd H p1 (SetO w p1 (fun j => decide (j ∈ row)) c1)) p2 (.lst (ys.map V.int))) := (same_new n1).trans (same_new n2)
    refine ⟨p2, ys, rfl, upd_same, by omega, fun G1 D s2 hL => ?_⟩
    have s12 := s1.trans s2
    obtain ⟨us, gD, hds⟩ := hL
    have hul := dpAll_len hds
    unfold lotsD at hul
    rw [List.length_map] at hul
    refine ⟨D, rfl, ⟨_, sqL gD⟩, for_list (xs := us) (fun i σ G => ∃ y4 y5 : Option V, σ = [some (.ref F), some (.ref sq), some (.ref rq), some (.int (bestF lots xs row ((subF ys).take i))), y4, y5, none, none, none] ∧ Same G1 G) ⟨_, _, rfl, Same.refl _⟩ (fun i σ G _ hP => ?_) (fun i x σ G hx hP => ?_) (fun σ G hP => ?_)⟩
    · obtain ⟨_, _, _, s3⟩ := hP
      exact sqL (s3 _ _ gD)
    · obtain ⟨y4, y5, rfl, s3⟩ := hP
      obtain ⟨p, hp, dpp⟩ := row_at (dpAll_same s3 _ _ hds) hx
      obtain ⟨pq, rfl, hpq⟩ := row_inv dpp
      have mp := subF_mem p (List.mem_of_getElem? hp)
      have s03 := s12.trans s3
      have hpa : ∀ z ∈ p, 0 ≤ z ∧ z < (lots.length : Int) := fun z m => hra z ((hy z).mp (mp.1 z m))
      refine ⟨_, rfl, sq, _, rfl, .inr (same_seqT s03 hs), _, rfl, by rw [List.length_map]; omega, by rw [List.length_map]; omega, fun E2 nE => ?_⟩
      refine lc_range (lo := 0) (n := (((xs.map V.int).length : Int)).toNat) (fun j J => Same G J ∧ J E2 = some (.lst (((idxF (fun k => p.any fun a => decide ((k : Int) ∈ lots.getD a.toNat [])) j).map fun k => xs.getD k.toNat 0).map V.int))) ⟨same_new nE, upd_same⟩ (fun j J hj hQ => ?_) (fun J hQ => ?_)
      · obtain ⟨s4, gE⟩ := hQ
        have hjl : j < xs.length := by rw [List.length_map] at hj; omega
        have ez : (0 + (j : Int)) = (j : Int) := by omega
        have hpq4 := same_seqT s4 hpq
        refine ⟨rfl, _, rfl, pq, rfl, ⟨_, hpq4⟩, fun B nB => lc_tup (K := K) (a := pq) (xs := p.map V.int) (fun i5 J5 => Same J J5 ∧ J5 B = some (.lst (((p.take i5).map fun a => decide ((j : Int) ∈ lots.getD a.toNat [])).map V.bl))) ⟨same_new nB, upd_same⟩ (fun i5 J5 _ hQ => same_seqT hQ.1 hpq4) (fun i5 y J5 hy5 hQ => ?_) (fun J5 hQ => ?_)⟩
        · obtain ⟨s5, gB⟩ := hQ
          obtain ⟨a0, ha0, rfl⟩ := map_at hy5
          have hi5 : i5 < p.length := (List.getElem?_eq_some_iff.mp ha0).1
          have hab := hpa a0 (List.mem_of_getElem? ha0)
          have s45 := (s03.trans s4).trans s5
          obtain ⟨lq, e1, hlq⟩ := lots_at (i := a0.toNat) (dpAll_same s45 _ _ hd) (by omega)
          refine ⟨rfl, ?_⟩
          dsimp only [tYes]
          rw [if_pos rfl]
          refine ⟨_, rfl, _, rfl, _, rfl, F, vs, (a0.toNat : Int), _, rfl, by rw [Int.toNat_of_nonneg hab.1], sqL (s45 _ _ gF), atI_nat e1, lq, _, rfl, .inr hlq, rfl, flat_ints _, ?_⟩
          rw [inV_ints, ez]
          refine ⟨_, gB, ?_, fun b o e => ?_, ?_⟩
          · rw [List.length_map, List.length_map, List.length_take]
            exact small1000 (by omega)
          · rw [upd_ne (ne_of_none e nB)]
            exact s5 _ _ e
          · rw [upd_same, List.take_add_one, ha0, List.map_append, List.map_append]
            rfl
        obtain ⟨s5, gB⟩ := hQ
        rw [List.length_map, List.take_length] at gB
        refine ⟨B, _, rfl, sqL gB, _, rfl, ?_⟩
        have e2 : (p.map fun a => decide ((j : Int) ∈ lots.getD a.toNat [])).any id = p.any fun a => decide ((j : Int) ∈ lots.getD a.toNat []) := by rw [List.any_map]; rfl
        rw [e2]
        have gE5 := s5 _ _ gE
        refine ite2 (fun c => ?_) (fun c => ⟨s4.trans s5, ?_⟩)
        · refine ⟨_, rfl, _, rfl, sq, _, (j : Int), .int (xs.getD j 0), rfl, by rw [ez], same_seqT ((s03.trans s4).trans s5) hs, atI_nat (by rw [List.getElem?_map, List.getElem?_eq_getElem hjl, List.getD_eq_getElem?_getD, List.getElem?_eq_getElem hjl]; rfl), _, gE5, ?_, fun b o e => ?_, ?_⟩
          · have := idxF_len (fun k => p.any fun a => decide ((k : Int) ∈ lots.getD a.toNat [])) j
            rw [List.length_map, List.length_map]
            exact small1000 (by omega)
          · rw [upd_ne (ne_of_none e nE)]
            exact s5 _ _ (s4 _ _ e)
          · rw [upd_same, idxF_succ, if_pos c, List.map_append, List.map_append]
            rfl
        · rw [idxF_succ, if_neg c, List.append_nil]
          exact gE5
      obtain ⟨s4, gE⟩ := hQ
      rw [show (((xs.map V.int).length : Int)).toNat = xs.length by rw [List.length_map]; omega] at gE
      refine ⟨E2, _, rfl, sqL gE, ?_⟩
      have s5 := s03.trans s4
      have hrow5 := same_seqT s5 hrow
      have hpq5 := same_seqT s4 hpq
      dsimp only [gName]
      refine ⟨_, rfl, _, rfl, _, rfl, rq, rfl, ⟨_, hrow5⟩, fun R nR => ?_⟩
      refine lc_tup (K := K) (a := rq) (xs := row.map V.int) (fun j J2 => Same J J2 ∧ J2 R = some (.lst (((row.take j).filter fun r => decide (r ∉ p)).map V.int))) ⟨same_new nR, upd_same⟩ (fun j J2 _ hQ => same_seqT hQ.1 hrow5) (fun j y J2 hy2 hQ => ?_) (fun J2 hQ => ?_)
      · obtain ⟨s6, gR⟩ := hQ
        obtain ⟨r0, hr0, rfl⟩ := map_at hy2
        have hj : j < row.length := (List.getElem?_eq_some_iff.mp hr0).1
        refine ⟨rfl, _, rfl, _, rfl, pq, _, rfl, .inr (same_seqT s6 hpq5), rfl, flat_ints _, _, rfl, ?_⟩
        rw [inV_ints]
        have e3 : (!decide (r0 ∈ p)) = decide (r0 ∉ p) := by
          by_cases c : r0 ∈ p
          · rw [decide_eq_true c, decide_eq_false (not_not_intro c)]; rfl
          · rw [decide_eq_false c, decide_eq_true c]; rfl
        refine ite2 (fun c => ⟨_, rfl, _, gR, ?_, fun b o e => ?_, ?_⟩) (fun c => ⟨s6, ?_⟩)
        · rw [List.length_map]
          have := filt_len (fun r => decide (r ∉ p)) (row.take j)
          rw [List.length_take] at this
          exact small1000 (by omega)
        · rw [upd_ne (ne_of_none e nR)]
          exact s6 _ _ e
        · rw [upd_same, filt_take hr0, if_pos (by rw [← e3]; exact c), List.map_append]
          rfl
        · rw [filt_take hr0, if_neg (by rw [← e3]; exact c), List.append_nil]
          exact gR
      obtain ⟨s6, gR⟩ := hQ
      rw [List.length_map, List.take_length] at gR
      refine ⟨R, _, rfl, .inl (sqL gR), _, _, rfl, rfl, _, _, rfl, some (.ref pq), some (.int (((idxF (fun k => p.any fun a => decide ((k : Int) ∈ lots.getD a.toNat [])) xs.length).map fun k => xs.getD k.toNat 0).sum)), ?_, s3.trans (s4.trans s6)⟩
      have e4 : (subF ys).take (i + 1) = (subF ys).take i ++ [p] := by rw [List.take_add_one, hp]; rfl
      rw [e4, bestF_snoc]
      have e5 : ((idxF (fun k => p.any fun a => decide ((k : Int) ∈ lots.getD a.toNat [])) xs.length).map fun k => xs.getD k.toNat 0).sum = unitsI xs (kindsT lots xs.length p) := by
        unfold unitsI unitsIn kindsT
        rw [List.map_map]
        rfl
      rw [e5, List.length_map]
      rfl
    · obtain ⟨y4, y5, rfl, s3⟩ := hP
      rw [hul, List.take_length]
      exact ⟨_, rfl, q G _ (s12.trans s3) (most_of hy)⟩
end
end K20
namespace K20
open PySem PySem.Spec PyProof.Rows L2 Gd
theorem unitsI_nil (xs : List Int) : unitsI xs [] = 0 := rfl
theorem unitsI_app (xs : List Int) : ∀ l m : List Int, unitsI xs (l ++ m) = unitsI xs l + unitsI xs m
  | [], m => by rw [List.nil_append, unitsI_nil]; omega
  | x :: l, m => by
    rw [List.cons_append, unitsI_cons, unitsI_cons, unitsI_app xs l m]
    omega
/-- more kinds, more units -/
theorem units_mono {xs : List Int} {B : Int} (h : ∀ v ∈ xs, 0 ≤ v ∧ v ≤ B) (hB : 0 ≤ B) {f g : Nat → Bool} : ∀ {n : Nat}, (∀ k, k < n → f k = true → g k = true) → unitsI xs (idxF f n) ≤ unitsI xs (idxF g n)
  | 0, _ => Int.le_refl _
  | n + 1, hfg => by
    have ih := units_mono h hB (f := f) (g := g) (n := n) fun k hk => hfg k (by omega)
    have b := getD_bd h hB n
    rw [idxF_succ, idxF_succ, unitsI_app, unitsI_app]
    have e1 : unitsI xs [(n : Int)] = xs.getD n 0 := by rw [unitsI_cons, unitsI_nil, Int.toNat_natCast]; omega
    by_cases hf : f n = true
    · rw [if_pos hf, if_pos (hfg n (by omega) hf), e1]
      omega
    · rw [if_neg hf]
      by_cases hg : g n = true
      · rw [if_pos hg, e1, unitsI_nil]
        omega
      · rw [if_neg hg, unitsI_nil]
        omega
theorem units_more {xs : List Int} {B : Int} (h : ∀ v ∈ xs, 0 ≤ v ∧ v ≤ B) (hB : 0 ≤ B) {f g : Nat → Bool} {o : Nat} (ho : f o = false) (hg0 : g o = true) : ∀ {n : Nat}, o < n → (∀ k, k < n → f k = true → g k = true) → unitsI xs (idxF f n) + xs.getD o 0 ≤ unitsI xs (idxF g n)
  | 0, ho2, _ => absurd ho2 (Nat.not_lt_zero _)
  | n + 1, ho2, hfg => by
    have b := getD_bd h hB n
    have e1 : unitsI xs [(n : Int)] = xs.getD n 0 := by rw [unitsI_cons, unitsI_nil, Int.toNat_natCast]; omega
    rw [idxF_succ, idxF_succ, unitsI_app, unitsI_app]
    by_cases e : o = n
    · subst e
      have m := units_mono h hB (f := f) (g := g) (n := o) fun k hk => hfg k (by omega)
      rw [if_neg (by rw [ho]; exact Bool.false_ne_true), if_pos hg0, e1, unitsI_nil]
      omega
    · have ih := units_more h hB ho hg0 (n := n) (by omega) fun k hk => hfg k (by omega)
      by_cases hf : f n = true
      · rw [if_pos hf, if_pos (hfg n (by omega) hf), e1]
        omega
      · rw [if_neg hf]
        by_cases hg : g n = true
        · rw [if_pos hg, e1, unitsI_nil]
          omega
        · rw [if_neg hg, unitsI_nil]
          omega
theorem lot_idx_of {n : Nat} {l : List Int} (h : LotOk n l) : l = idxF (fun k => decide ((k : Int) ∈ l)) n := by
  refine asc_same h.1 (idxF_asc _ _) fun x => ?_
  rw [idxF_mem]
  constructor
  · intro hx
    have := h.2 x hx
    exact ⟨x.toNat, by omega, by omega, decide_eq_true (by rw [Int.toNat_of_nonneg this.1]; exact hx)⟩
  · rintro ⟨i, rfl, _, hi⟩
    exact of_decide_eq_true hi
/-- all that the law's wrong row is made of -/
structure Wrong (lots : List (List Int)) (xs : List Int) (a k b : Nat) : Prop where
  ha : a < lots.length
  hb : b < lots.length
  ok : ∀ l ∈ lots, LotOk xs.length l
  bd : ∀ v ∈ xs, 0 ≤ v ∧ v ≤ 400
  ka : (k : Int) ∈ lots.getD a []
  kb : (k : Int) ∈ lots.getD b []
  k0 : 0 < xs.getD k 0
  ot : ∃ o : Nat, (o : Int) ∈ lots.getD a [] ∧ 0 < xs.getD o 0 ∧ (o : Int) ∉ lots.getD b []
theorem lot_mem {lots : List (List Int)} {a : Nat} (h : a < lots.length) : lots.getD a [] ∈ lots := by
  rw [List.getD_eq_getElem?_getD, List.getElem?_eq_getElem h]
  exact List.getElem_mem h
theorem filt_rep {p : Int → Bool} {n : Nat} {b : Int} : (List.replicate n b).filter p = if p b = true then List.replicate n b else [] := by
  by_cases h : p b = true
  · rw [if_pos h]
    exact List.filter_eq_self.mpr fun x hx => by rw [List.eq_of_mem_replicate hx]; exact h
  · rw [if_neg h]
    exact List.filter_eq_nil_iff.mpr fun x hx => by rw [List.eq_of_mem_replicate hx]; exact h
theorem most_wrong {lots : List (List Int)} {xs : List Int} {a k b n : Nat} {m : Int} (W : Wrong lots xs a k b) (hn : (n : Int) < unitsI xs (lots.getD b [])) (hm : IsMost lots xs ((a : Int) :: List.replicate (n + 1) (b : Int)) m) : (n : Int) + 1 < m := by
  obtain ⟨part, _, rfl⟩ := hm.ex
  have lb := W.ok _ (lot_mem W.hb)
  have la := W.ok _ (lot_mem W.ha)
  obtain ⟨o, oa, o0, ob⟩ := W.ot
  have hbd := W.bd
  have hol : o < xs.length := by have := la.2 _ oa; omega
  have hkl : k < xs.length := by have := la.2 _ W.ka; omega
  have nn := (unitsI_bd hbd (by decide) (kindsT lots xs.length part)).1
  have tk : ∀ (c : Nat), (c : Int) ∈ part → ∀ i : Nat, (i : Int) ∈ lots.getD c [] → (part.any fun a => decide ((i : Int) ∈ lots.getD a.toNat [])) = true := fun c hc i hi => List.any_eq_true.mpr ⟨(c : Int), hc, decide_eq_true (by rw [Int.toNat_natCast]; exact hi)⟩
  unfold worth
  rw [List.filter_cons, filt_rep]
  by_cases pa : (a : Int) ∈ part
  · rw [if_neg (by rw [decide_eq_false (not_not_intro pa)]; exact Bool.false_ne_true)]
    by_cases pb : (b : Int) ∈ part
    · rw [if_neg (by rw [decide_eq_false (not_not_intro pb)]; exact Bool.false_ne_true)]
      have := units_more hbd (by decide) (f := fun k => decide ((k : Int) ∈ lots.getD b [])) (g := fun k => part.any fun a => decide ((k : Int) ∈ lots.getD a.toNat [])) (o := o) (decide_eq_false ob) (tk a pa o oa) hol (fun i _ hi => tk b pb i (of_decide_eq_true hi))
      rw [← lot_idx_of lb] at this
      unfold kindsT
      show _ < _ + ((0 : Nat) : Int)
      omega
    · rw [if_pos (decide_eq_true pb), List.length_replicate]
      have := units_more hbd (by decide) (f := fun _ => false) (g := fun k => part.any fun a => decide ((k : Int) ∈ lots.getD a.toNat [])) (o := k) rfl (tk a pa k W.ka) hkl (fun i _ hi => by cases hi)
      have z := (unitsI_bd hbd (by decide) (idxF (fun _ => false) xs.length)).1
      have := W.k0
      unfold kindsT
      omega
  · rw [if_pos (decide_eq_true pa), List.length_cons]
    by_cases pb : (b : Int) ∈ part
    · rw [if_neg (by rw [decide_eq_false (not_not_intro pb)]; exact Bool.false_ne_true)]
      have := units_mono hbd (by decide) (f := fun k => decide ((k : Int) ∈ lots.getD b [])) (g := fun k => part.any fun a => decide ((k : Int) ∈ lots.getD a.toNat [])) (n := xs.length) (fun i _ hi => tk b pb i (of_decide_eq_true hi))
      rw [← lot_idx_of lb] at this
      unfold kindsT
      show _ < _ + ((0 + 1 : Nat) : Int)
      omega
    · rw [if_pos (decide_eq_true pb), List.length_replicate]
      omega
/-! a unit less -/
theorem lessL_len (xs : List Int) (s : Nat) : (lessL xs s).length = xs.length := List.length_set ..
theorem lessL_at {xs : List Int} {s i : Nat} (hs : s < xs.length) : (lessL xs s).getD i 0 = xs.getD i 0 - if i = s then 1 else 0 := by
  unfold lessL
  by_cases e : i = s
  · subst e
    rw [if_pos rfl, List.getD_eq_getElem?_getD, List.getElem?_set_self hs]
    rfl
  · rw [if_neg e, List.getD_eq_getElem?_getD, List.getElem?_set_ne (Ne.symm e), ← List.getD_eq_getElem?_getD]
    omega
theorem units_less {xs : List Int} {s : Nat} (hs : s < xs.length) : ∀ {l : List Int}, l.Nodup → (∀ z ∈ l, 0 ≤ z) → unitsI (lessL xs s) l = unitsI xs l - if (s : Int) ∈ l then 1 else 0
  | [], _, _ => by rw [unitsI_nil, unitsI_nil, if_neg List.not_mem_nil]; rfl
  | x :: r, nd, h0 => by
    obtain ⟨n1, n2⟩ := List.nodup_cons.mp nd
    have ih := units_less hs n2 fun z m => h0 z (List.mem_cons_of_mem _ m)
    have hx := h0 x (List.mem_cons_self ..)
    rw [unitsI_cons, unitsI_cons, ih, lessL_at hs]
    by_cases e : x = (s : Int)
    · subst e
      rw [if_pos (Int.toNat_natCast s), if_neg n1, if_pos (List.mem_cons_self ..)]
      omega
    · rw [if_neg (by omega)]
      by_cases m : (s : Int) ∈ r
      · rw [if_pos m, if_pos (List.mem_cons_of_mem _ m)]
        omega
      · rw [if_neg m, if_neg fun z => by
          rcases List.mem_cons.mp z with q | q
          · exact e q.symm
          · exact m q]
        omega
theorem lessL_bd {xs : List Int} {s : Nat} (h : ∀ v ∈ xs, 0 ≤ v ∧ v ≤ 400) (hs : 0 < xs.getD s 0) : ∀ v ∈ lessL xs s, 0 ≤ v ∧ v ≤ 400 := fun v hv => by
  unfold lessL at hv
  rcases List.mem_or_eq_of_mem_set hv with m | m
  · exact h v m
  · have := (getD_bd h (by decide) s).2
    omega
/-- a stock that is left, with so many units of a lot -/
structure Left (n : Nat) (l : List Int) (u : Int) (left : List Int) : Prop where
  len : left.length = n
  bd : ∀ v ∈ left, 0 ≤ v ∧ v ≤ 400
  un : unitsI left l = u
theorem Left.less {n : Nat} {l : List Int} {u : Int} {left : List Int} {s : Nat} (h : Left n l u left) (hl : LotOk n l) (hs : (s : Int) ∈ l) (h0 : 0 < left.getD s 0) : Left n l (u - 1) (lessL left s) := by
  have b := hl.2 _ hs
  refine ⟨by rw [lessL_len, h.len], lessL_bd h.bd h0, ?_⟩
  rw [units_less (by rw [h.len]; omega) (hl.1.imp fun z => by omega) fun z m => (hl.2 z m).1, h.un, if_pos hs]
end K20
namespace Gd
open PySem PySem.Spec PyProof.Rows L2
theorem room65 {k : Nat} {A : Around} (r : Room k A) : A.units + 65 < cLine := by
  have := r.un
  omega
theorem rows_sh {ls : List (List Int)} (h : ∀ l ∈ ls, ∀ x ∈ l, x.natAbs < 10 ^ 9) : SeqAt.shaped (.list (lotsD ls)) = true := by
  refine fine_shaped ?_ ?_
  · rw [fine]
    exact fineAll_mem fun d hd => by
      obtain ⟨l, hl, rfl⟩ := List.mem_map.mp hd
      rw [rowD, fine]
      exact fineAll_mem fun d hd => by
        obtain ⟨x, hx, rfl⟩ := List.mem_map.mp hd
        exact decide_eq_true (h l hl x hx)
  · rw [PyData.depth]
    have : PyData.depthAll (lotsD ls) ≤ 2 := depthAll_mem fun d hd => by
      obtain ⟨p, _, rfl⟩ := List.mem_map.mp hd
      have e : PyData.depthAll (p.map .int) ≤ 1 := depthAll_mem fun d hd => by
        obtain ⟨x, _, rfl⟩ := List.mem_map.mp hd
        simp [PyData.depth]
      simp only [rowD, PyData.depth]
      omega
    omega
theorem row_sh {l : List Int} (h : ∀ x ∈ l, x.natAbs < 10 ^ 9) : SeqAt.shaped (rowD l) = true := by
  refine fine_shaped ?_ ?_
  · rw [rowD, fine]
    exact fineAll_mem fun d hd => by
      obtain ⟨x, hx, rfl⟩ := List.mem_map.mp hd
      exact decide_eq_true (h x hx)
  · rw [rowD, PyData.depth]
    have e : PyData.depthAll (l.map .int) ≤ 1 := depthAll_mem fun d hd => by
      obtain ⟨x, _, rfl⟩ := List.mem_map.mp hd
      simp [PyData.depth]
    omega
end Gd
namespace K20
open PySem PySem.Spec PyProof.Rows L2 Gd
section
variable {P : Program} {w : World} {K : PySem.W.Frag} {mg : Str → Option Value} {base : Heap}
/-! ### _law_all_regret -/
def spReg (K : PySem.W.Frag) : Sp := fun vs H Q _ => ∃ (F sq rq : Addr) (lots : List (List Int)) (xs : List Int) (a k b : Nat), vs = [.ref F, .ref sq, .int (a : Int), .int (k : Int), .ref rq] ∧ LotsAt K H F lots ∧ lots.length ≤ 8 ∧ SqT K H sq (xs.map V.int) ∧ xs.length ≤ 8 ∧ Wrong lots xs a k b ∧
  SqT K H rq ((List.replicate (unitsI xs (lots.getD b [])).toNat (b : Int)).map V.int) ∧ unitsI xs (lots.getD b []) ≤ 61 ∧ (lots.getD b []).length ^ (unitsI xs (lots.getD b [])).toNat ≤ 16777216 ∧ ∀ G, Same H G → Q (.bl true) G
theorem ok_reg {f fM fL : Addr} {fd fdM fdL : FuncData} {k : Nat} (F : Fun K "_law_all_regret" "_law_all_regret" s__law_all_regret f fd) (FM : Fun K "_law_most" "_law_most" s__law_most fM fdM) (bM : Binds K fdM ["lots", "stock", "row"] []) (gM : mg "_law_most" = some (.ref fM)) (GM : FnOk P w K mg base CX0 k fM fdM ["lots", "stock", "row"] (spMost K))
    (FL : Fun K "_law_less" "_law_less" s__law_less fL fdL) (bL : Binds K fdL ["left", "kind"] []) (gL : mg "_law_less" = some (.ref fL)) (GL : FnOk P w K mg base CX0 k fL fdL ["left", "kind"] (spLess K)) (ml : mg "len" = none) : FnOk P w K mg base CX0 (k + 1) f fd ["lots", "stock", "request", "kind", "row"] (spReg K) := by
  refine F.ok sc__law_all_regret (fun vs H Q E h => ?_) (fun cdv A outer s H vs Q E hr h => ?_)
  · obtain ⟨F, sq, rq, lots, xs, a, k, b, rfl, _⟩ := h
    rfl
  · obtain ⟨F, sq, rq, lots, xs, a, k0, b, rfl, ⟨vs, gF, hd⟩, l8, hs, x8, W, hrow, hU, hpow, q⟩ := h
    refine blk_cons (ps_par (i := 5) (j := 6) rfl sc__law_all_regret.nd rfl rfl (by decide) rfl rfl (pa_cons (pe_lst (pa_cons (pe_call GL hr (by rfl) gL FL.kp bL .nil pass0 (pa_cons (pv 1) (pa_cons (pv 3) pa_nil))) pa_nil)) (pa_cons (pe_tup (pa_cons (pv 2) pa_nil)) pa_nil)) (by rfl)) ?_
    refine blk_cons (ps_for PassesOwn.never rfl (pi_tup (pv 4)) (pg_name (i := 7) sc__law_all_regret.nd rfl (.inl rfl))
      (pss_cons (ps_if (pt_cmpR op_gt (pe_call GM hr (by rfl) gM FM.kp bM .nil pass0 (pa_cons (pv 0) (pa_cons (pv 1) (pa_cons (pe_op (r := rCatA K) op_catA (pv 6) (pe_tup (pa_cons (pv 7) pa_nil))) pa_nil)))) (pe_callB call_len_seq (by rfl) ml PySem.boot_len (pa_cons (pv 6) pa_nil)) (nomark _))
        (pss_cons (ps_set (i := 8) sc__law_all_regret.nd rfl (.inl rfl) (pe_lst pa_nil))
        (pss_cons (ps_for PassesOwn.never rfl (pi_list (pv 5)) (pg_name (i := 9) sc__law_all_regret.nd rfl (.inl rfl))
          (pss_one (ps_for PassesOwn.never rfl (pi_tup (pe_ix ix_list (pv 0) (pv 7) (fun _ _ => rfl))) (pg_name (i := 10) sc__law_all_regret.nd rfl (.inl rfl))
            (pss_one (ps_if (PW.pt (pw_and (pt_cmpR op_gt (pe_ix ix_tup (pv 9) (pv 10) (fun _ _ => rfl)) pe_int (nomark _)) (pw_and1 (pt_cmpR (op_notInD (room65 hr)) (pe_call GL hr (by rfl) gL FL.kp bL .nil pass0 (pa_cons (pv 9) (pa_cons (pv 10) pa_nil))) (pv 8) (by rfl)))))
              (pss_one (ps_expr (pe_bm PySem.F.plainAttrs_list PySem.F.slot_list_append PySem.F.type_list_append mt_append (pv 8) (pa_cons (pe_call GL hr (by rfl) gL FL.kp bL .nil pass0 (pa_cons (pv 9) (pa_cons (pv 10) pa_nil))) pa_nil)))) pss_nil)))))
        (pss_one (ps_par (i := 5) (j := 6) rfl sc__law_all_regret.nd rfl rfl (by decide) rfl rfl (pa_cons (pv 8) (pa_cons (pe_op (r := rCatA K) op_catA (pv 6) (pe_tup (pa_cons (pv 7) pa_nil))) pa_nil)) (by rfl))))) pss_nil)
      (pss_one (ps_if (pt_cmpR (op_eqD hr.units) (pv 5) (pe_lst pa_nil) (nomark _)) (pss_one (ps_ret pe_bl)) pss_nil)))) ?_
    refine blk_cons (ps_ret pe_bl) ?_
    refine blk_nil ?_
    have hvl := dpAll_len hd
    unfold lotsD at hvl
    rw [List.length_map] at hvl
    have hbl := W.hb
    have hal := W.ha
    have lb := W.ok _ (lot_mem W.hb)
    have la := W.ok _ (lot_mem W.ha)
    have hkl : k0 < xs.length := by have := la.2 _ W.ka; omega
    have llb := asc_len lb.1 lb.2
    have u0 := (unitsI_bd W.bd (by decide) (lots.getD b [])).1
    have uk := unitsI_mem W.bd (by decide) W.kb
    rw [Int.toNat_natCast] at uk
    have k00 := W.k0
    obtain ⟨U, hUe⟩ := Int.eq_ofNat_of_zero_le u0
    have hUe' : (unitsI xs (lots.getD b [])).toNat = U := by omega
    rw [hUe'] at hrow hpow
    have hU61 : U ≤ 61 := by omega
    have hU1 : 1 ≤ U := by omega
    generalize hLb : (lots.getD b []).length = Lb at hpow llb
    have hLb1 : 1 ≤ Lb := by rw [← hLb]; exact List.length_pos_of_mem W.kb
    -- lefts, served
    refine ⟨_, rfl, _, rfl, sq, xs, k0, rfl, hs, hkl, by omega, fun G1 r1 s1 h1 => ?_⟩
    refine ⟨by show 1 ≤ sizeLine; decide, fun D nD => ⟨_, rfl, by show 1 ≤ sizeLine; decide, fun S nS => ⟨_, _, rfl, ?_⟩⟩⟩
    have sD := same_new (o := .lst [V.ref r1]) nD
    have s2 : Same H (upd (upd G1 D (.lst [.ref r1])) S (.tup [.int (a : Int)])) := (s1.trans sD).trans (same_new nS)
    have gD : (upd (upd G1 D (.lst [.ref r1])) S (.tup [.int (a : Int)])) D = some (.lst [.ref r1]) := (upd_ne (ne_of_none upd_same nS)).trans upd_same
    have hD : DpAll K (upd (upd G1 D (.lst [.ref r1])) S (.tup [.int (a : Int)])) [.ref r1] (lotsD [lessL xs k0]) := .cons (dp_tup (same_seqT (same_new nS) (same_seqT sD h1))) .nil
    have hS := sqT (K := K) (upd_same (H := upd G1 D (.lst [.ref r1])) (a := S) (o := .tup [.int (a : Int)]))
    generalize upd (upd G1 D (.lst [.ref r1])) S (.tup [.int (a : Int)]) = G2 at s2 gD hD hS ⊢
    have hleft0 : Left xs.length (lots.getD b []) ((U : Int) - 1) (lessL xs k0) := by
      have := Left.less (n := xs.length) (l := lots.getD b []) (u := (U : Int)) (left := xs) (s := k0) ⟨rfl, W.bd, hUe⟩ lb W.kb W.k0
      exact this
    have hg0 : ∀ c ∈ [lessL xs k0], Left xs.length (lots.getD b []) ((U : Int) - 1 - ((0 : Nat) : Int)) c := fun c hc => by
      have e : ((U : Int) - 1 - ((0 : Nat) : Int)) = (U : Int) - 1 := by omega
      rw [List.mem_singleton.mp hc, e]
      exact hleft0
    dsimp only [gName]
    have hrl : (List.replicate U (b : Int)).length = U := List.length_replicate
    refine ⟨_, rfl, rq, rfl, ⟨_, same_seqT s2 hrow⟩, for_tup (xs := (List.replicate U (b : Int)).map V.int) (fun i σ G => ∃ (D S : Addr) (lefts : List (List Int)) (y7 y8 y9 y10 : Option V), σ = [some (.ref F), some (.ref sq), some (.int (a : Int)), some (.int (k0 : Int)), some (.ref rq), some (.ref D), some (.ref S), y7, y8, y9, y10] ∧
        Same H G ∧ SqT K G S ((((a : Int) :: List.replicate i (b : Int))).map V.int) ∧ LotsAt K G D lefts ∧ lefts ≠ [] ∧ lefts.length ≤ Lb ^ i ∧ (∀ c ∈ lefts, Left xs.length (lots.getD b []) ((U : Int) - 1 - i) c))
      ⟨D, S, [lessL xs k0], _, _, _, _, rfl, s2, hS, ⟨_, gD, hD⟩, List.cons_ne_nil _ _, Nat.le_refl _, hg0⟩ (fun i σ G _ hP => ?_) (fun i x σ G hx hP => ?_) (fun σ G hP => ?_)⟩
    · obtain ⟨_, _, _, _, _, _, _, _, s3, _⟩ := hP
      exact same_seqT s3 hrow
    · obtain ⟨D, S, lefts, y7, y8, y9, y10, rfl, s3, hS3, ⟨us, gD3, hD3⟩, hne, hle, hgood⟩ := hP
      obtain ⟨x0, hx0, rfl⟩ := map_at hx
      have hiU : i < U := by
        have := (List.getElem?_eq_some_iff.mp hx0).1
        omega
      have ex0 : x0 = (b : Int) := List.eq_of_mem_replicate (List.mem_of_getElem? hx0)
      subst ex0
      dsimp only [gName]
      have hul := dpAll_len hD3
      unfold lotsD at hul
      rw [List.length_map] at hul
      have esv : ((a : Int) :: List.replicate i (b : Int)).map V.int ++ [V.int (b : Int)] = ((a : Int) :: List.replicate (i + 1) (b : Int)).map V.int := by
        rw [List.replicate_succ', List.map_cons, List.map_cons, List.map_append]
        rfl
      have lsv : ((a : Int) :: List.replicate i (b : Int)).length = i + 1 := by rw [List.length_cons, List.length_replicate]
      refine ⟨_, rfl, _, rfl, _, rfl, _, rfl, by show 1 ≤ sizeLine; decide, fun p3 n3 => ?_⟩
      have s4 := same_new (o := .tup [V.int (b : Int)]) n3
      refine cat_to (same_seqT s4 hS3) (sqT upd_same) (by rw [List.length_map, lsv]; show _ + 1 ≤ 5000; omega) fun G4 q4 s5 h4 => ?_
      have s45 := s4.trans s5
      rw [esv] at h4
      have s35 := s3.trans s45
      refine ⟨F, sq, q4, lots, xs, _, rfl, ⟨vs, s35 _ _ gF, dpAll_same s35 _ _ hd⟩, l8, same_seqT s35 hs, x8, h4, by rw [List.length_cons, List.length_replicate]; omega, fun z hz => ?_, fun G5 m s6 hm => ?_⟩
      · rcases List.mem_cons.mp hz with e | e
        · omega
        · have := List.eq_of_mem_replicate e
          omega
      have s46 := s45.trans s6
      have hmm := most_wrong (n := i) W (by rw [hUe]; omega) hm
      refine ⟨_, rfl, S, _, rfl, .inr (same_seqT s46 hS3), _, _, rfl, rfl, _, rfl, ?_⟩
      rw [decide_eq_true (by rw [List.length_map, lsv]; omega)]
      refine iteT ⟨Nat.zero_le _, fun E2 nE => ?_⟩
      have nDE : D ≠ E2 := ne_of_none (s46 _ _ gD3) nE
      have sE := same_new (o := .lst []) nE
      have gE6 := upd_same (H := G5) (a := E2) (o := .lst [])
      have s36 := s3.trans s46
      dsimp only [gName]
      refine seq_out (t := tFor _ _ _) (fun σ' G' => ∃ (longer : List (List Int)) (y9 y10 : Option V), σ' = [some (.ref F), some (.ref sq), some (.int (a : Int)), some (.int (k0 : Int)), some (.ref rq), some (.ref D), some (.ref S), some (.int (b : Int)), some (.ref E2), y9, y10] ∧ Same G5 G' ∧ LotsAt K G' E2 longer ∧ longer.length ≤ Lb ^ (i + 1) ∧ ∀ c ∈ longer, Left xs.length (lots.getD b []) ((U : Int) - 1 - i - 1) c) (fun N hN => ?_) (fun σ' G6 hR => ?_)
      · refine ⟨_, rfl, D, rfl, ⟨_, sqL (sE _ _ (s46 _ _ gD3))⟩, for_list (xs := us) (fun j σ J => ∃ (longer : List (List Int)) (y9 y10 : Option V), σ = [some (.ref F), some (.ref sq), some (.int (a : Int)), some (.int (k0 : Int)), some (.ref rq), some (.ref D), some (.ref S), some (.int (b : Int)), some (.ref E2), y9, y10] ∧ Same G5 J ∧ LotsAt K J E2 longer ∧ longer.length ≤ j * Lb ∧ ∀ c ∈ longer, Left xs.length (lots.getD b []) ((U : Int) - 1 - i - 1) c)
          ⟨[], _, _, rfl, sE, ⟨[], gE6, .nil⟩, Nat.zero_le _, fun _ h => absurd h List.not_mem_nil⟩ (fun j σ J _ hQ => ?_) (fun j y σ J hy hQ => ?_) (fun σ J hQ => ?_)⟩
        · obtain ⟨_, _, _, _, s7, _⟩ := hQ
          exact sqL (s7 _ _ (s46 _ _ gD3))
        · obtain ⟨longer, y9', y10', rfl, s7, hL7, hle7, hg7⟩ := hQ
          have hj : j < lefts.length := by
            have := (List.getElem?_eq_some_iff.mp hy).1
            omega
          have s47 := s46.trans s7
          have s37 := s3.trans s47
          obtain ⟨left, hleft, dl⟩ := row_at (dpAll_same s47 _ _ hD3) hy
          obtain ⟨lq, rfl, hlq⟩ := row_inv dl
          have gl := hgood left (List.mem_of_getElem? hleft)
          obtain ⟨lbq, e1, hlbq⟩ := lots_at (i := b) (dpAll_same s37 _ _ hd) hbl
          dsimp only [gName]
          refine ⟨_, rfl, _, rfl, F, vs, _, _, rfl, rfl, sqL (s37 _ _ gF), atI_nat e1, lbq, rfl, ⟨_, hlbq⟩, for_tup (xs := (lots.getD b []).map V.int) (fun j2 σ J2 => ∃ (longer : List (List Int)) (y10 : Option V), σ = [some (.ref F), some (.ref sq), some (.int (a : Int)), some (.int (k0 : Int)), some (.ref rq), some (.ref D), some (.ref S), some (.int (b : Int)), some (.ref E2), some (.ref lq), y10] ∧ KeepT J J2 ∧ Same G5 J2 ∧ LotsAt K J2 E2 longer ∧ longer.length ≤ j * Lb + j2 ∧ ∀ c ∈ longer, Left xs.length (lots.getD b []) ((U : Int) - 1 - i - 1) c)
            ⟨longer, _, rfl, .of (Same.refl _), s7, hL7, hle7, hg7⟩ (fun j2 σ J2 _ hZ => ?_) (fun j2 y2 σ J2 hy2 hZ => ?_) (fun σ J2 hZ => ?_)⟩
          · obtain ⟨_, _, _, sJ, _⟩ := hZ
            exact sJ.seqT hlbq
          · obtain ⟨lo2, y10'', rfl, sJ, sG, ⟨us2, gE2, hE2⟩, hle2, hg2⟩ := hZ
            obtain ⟨z, hz, rfl⟩ := map_at hy2
            have hj2 : j2 < (lots.getD b []).length := (List.getElem?_eq_some_iff.mp hz).1
            have hzm := List.mem_of_getElem? hz
            have hzb := lb.2 z hzm
            obtain ⟨zn, rfl⟩ := Int.eq_ofNat_of_zero_le hzb.1
            have hzl : zn < left.length := by rw [gl.len]; omega
            have glen := gl.len
            have hlq2 := sJ.seqT hlq
            dsimp only [gName]
            have keep : ∀ J3, Same J2 J3 → ∃ (longer : List (List Int)) (y10 : Option V), [some (.ref F), some (.ref sq), some (.int (a : Int)), some (.int (k0 : Int)), some (.ref rq), some (.ref D), some (.ref S), some (.int (b : Int)), some (.ref E2), some (.ref lq), some (.int (zn : Int))] = [some (.ref F), some (.ref sq), some (.int (a : Int)), some (.int (k0 : Int)), some (.ref rq), some (.ref D), some (.ref S), some (.int (b : Int)), some (.ref E2), some (.ref lq), y10] ∧ KeepT J J3 ∧ Same G5 J3 ∧ LotsAt K J3 E2 longer ∧ longer.length ≤ j * Lb + (j2 + 1) ∧ ∀ c ∈ longer, Left xs.length (lots.getD b []) ((U : Int) - 1 - i - 1) c :=
              fun J3 s => ⟨lo2, _, rfl, sJ.trans (.of s), sG.trans s, ⟨us2, s _ _ gE2, dpAll_same s _ _ hE2⟩, by omega, hg2⟩
            refine ⟨_, rfl, _, rfl, lq, _, _, .int (left.getD zn 0), rfl, rfl, hlq2, atI_nat (by rw [List.getElem?_map, List.getElem?_eq_getElem hzl, List.getD_eq_getElem?_getD, List.getElem?_eq_getElem hzl]; rfl), _, _, rfl, rfl, _, rfl, ite2 (fun c => ?_) (fun _ => keep J2 (Same.refl _))⟩
            have c0 : 0 < left.getD zn 0 := of_decide_eq_true c
            have gnew := gl.less lb hzm c0
            refine ⟨_, rfl, _, rfl, lq, left, zn, rfl, hlq2, hzl, by omega, fun J3 r3 t3 h3 => ⟨_, rfl, _, _, dp_tup h3, .lst (sqL (t3 _ _ gE2)) (dpAll_same t3 _ _ hE2), row_sh fun v hv => ?_, rows_sh fun l hl v hv => ?_, _, rfl, ite2 (fun _ => ?_) (fun _ => keep J3 t3)⟩⟩
            · have := gnew.bd v hv
              omega
            · have := (hg2 l hl).bd v hv
              omega
            refine ⟨_, rfl, .inl ⟨rfl, _, sqL (t3 _ _ gE2)⟩, _, rfl, _, rfl, lq, left, zn, rfl, same_seqT t3 hlq2, hzl, by omega, fun J4 r4 t4 h4 => ?_⟩
            have t34 := t3.trans t4
            have gE4 := t34 _ _ gE2
            have hE4 := dpAll_same t34 _ _ hE2
            have k5 : KeepT J4 (upd J4 E2 (.lst (us2 ++ [.ref r4]))) := .put gE4
            have hu2 := dpAll_len hE2
            unfold lotsD at hu2
            rw [List.length_map] at hu2
            have e2 : ∀ bb o, G5 bb = some o → (upd J4 E2 (.lst (us2 ++ [.ref r4]))) bb = some o := fun bb o e => (upd_ne (ne_of_none e nE)).trans (t34 _ _ (sG _ _ e))
            refine ⟨E2, us2, _, rfl, rfl, gE4, ?_, lo2 ++ [lessL left zn], _, rfl, ?_, e2, ⟨_, upd_same, ?_⟩, ?_, fun cc hc => ?_⟩
            · have b1 : Lb ^ (i + 1) ≤ Lb ^ U := Nat.pow_le_pow_right hLb1 (by omega)
              have b2 : (j + 1) * Lb ≤ Lb ^ (i + 1) := by
                rw [Nat.pow_succ]
                exact Nat.mul_le_mul_right Lb (Nat.le_trans hj hle)
              rw [Nat.succ_mul] at b2
              rw [sizeLine_eq]
              omega
            · exact (sJ.trans (.of t34)).trans k5
            · unfold lotsD
              rw [List.map_append]
              exact dpAll_snoc (dpAll_keep k5 _ _ (noList_lots _) hE4) (dp_tup (k5.seqT h4))
            · rw [List.length_append]
              show _ + 1 ≤ _
              omega
            · rcases List.mem_append.mp hc with m | m
              · exact hg2 cc m
              · rw [List.mem_singleton.mp m]
                have e : (U : Int) - 1 - i - 1 = ((U : Int) - 1 - i) - 1 := rfl
                rw [e]
                exact gnew
          · obtain ⟨lo2, y10'', rfl, sJ, sG, hL2, hle2, hg2⟩ := hZ
            rw [List.length_map, hLb] at hle2
            exact ⟨lo2, _, _, rfl, sG, hL2, by rw [Nat.succ_mul]; exact hle2, hg2⟩
        · obtain ⟨longer, y9', y10', rfl, s7, hL7, hle7, hg7⟩ := hQ
          rw [hul] at hle7
          refine hN _ _ ⟨longer, _, _, rfl, s7, hL7, Nat.le_trans hle7 ?_, hg7⟩
          rw [Nat.pow_succ]
          exact Nat.mul_le_mul_right Lb hle
      · obtain ⟨longer, y9', y10', rfl, s7, ⟨us7, gE7, hE7⟩, hle7, hg7⟩ := hR
        have s47 := s46.trans s7
        have s37 := s3.trans s47
        refine ⟨_, rfl, _, rfl, _, rfl, by show 1 ≤ sizeLine; decide, fun p8 n8 => ?_⟩
        have s8 := same_new (o := .tup [V.int (b : Int)]) n8
        refine cat_to (same_seqT (s47.trans s8) hS3) (sqT upd_same) (by rw [List.length_map, lsv]; show _ + 1 ≤ 5000; omega) fun G9 q9 s9 h9 => ⟨_, _, rfl, ?_⟩
        have s89 := s8.trans s9
        rw [esv] at h9
        dsimp only
        refine ⟨_, rfl, Nat.zero_le _, fun p10 n10 => ?_⟩
        have s10 := s89.trans (same_new (o := .lst []) n10)
        have s3z := s37.trans s10
        refine ⟨_, _, .lst (sqL (s10 _ _ gE7)) (dpAll_same s10 _ _ hE7), .lst (sqL upd_same) .nil, rows_sh fun l hl z hz => ?_, rfl, _, rfl, ?_⟩
        · have := (hg7 l hl).bd z hz
          omega
        · rw [eqv_nilD]
          cases hlc : longer with
          | nil => exact iteT (q _ s3z)
          | cons c r =>
            refine iteF ⟨E2, q9, longer, _, _, _, _, rfl, s3z, same_seqT (same_new n10) h9, ⟨us7, s10 _ _ gE7, dpAll_same s10 _ _ hE7⟩, by rw [hlc]; exact List.cons_ne_nil _ _, hle7, fun c hc => ?_⟩
            have e : (U : Int) - 1 - ((i + 1 : Nat) : Int) = (U : Int) - 1 - i - 1 := by omega
            rw [e]
            exact hg7 c hc
    · obtain ⟨D, S, lefts, y7, y8, y9, y10, rfl, s3, hS3, hL, hne, hle, hgood⟩ := hP
      exfalso
      rw [List.length_map, hrl] at hgood
      cases lefts with
      | nil => exact hne rfl
      | cons c r =>
        have g := hgood c (List.mem_cons_self ..)
        have := (unitsI_bd g.bd (by decide) (lots.getD b [])).1
        have := g.un
        omega
end
end K20
namespace Gd
open PySem PySem.Spec PyProof.Rows L2
theorem LotsAt.but {K : PySem.W.Frag} {H G : Hp} {h l F : Addr} {L : List Int} {st : Int} {lots : List (List Int)} (a : LotsAt K H F lots) (v : Hv H h l L st) (b : But h l H G) (n1 : F ≠ h) (n2 : F ≠ l) : LotsAt K G F lots := by
  obtain ⟨vs, g, d⟩ := a
  exact ⟨vs, b _ _ n1 n2 g, dpAll_keep (KeepT.but v b) _ _ (noList_lots lots) d⟩
theorem LotsAt.same {K : PySem.W.Frag} {H G : Hp} {F : Addr} {lots : List (List Int)} (a : LotsAt K H F lots) (s : Same H G) : LotsAt K G F lots := by
  obtain ⟨vs, g, d⟩ := a
  exact ⟨vs, s _ _ g, dpAll_same s _ _ d⟩
theorem idxF_nd (f : Nat → Bool) (n : Nat) : (idxF f n).Nodup := (idxF_asc f n).imp fun h => by omega
end Gd
namespace K20
open PySem PySem.Spec PyProof.Rows L2 Gd
theorem good_in {lots : List (List Int)} {somes : List Int} {k o : Int} (h : goodI lots somes k = true) (ho : o ∈ somes) (a : Nat) (hk : k ∈ lots.getD a []) : o ∈ lots.getD a [] := by
  have h1 := List.all_eq_true.mp h o ho
  have ha : a < lots.length := by
    rcases Nat.lt_or_ge a lots.length with z | z
    · exact z
    · rw [List.getD_eq_getElem?_getD, List.getElem?_eq_none z] at hk
      exact absurd hk List.not_mem_nil
  have h2 := List.all_eq_true.mp h1 (a : Int) (idxF_mem.mpr ⟨a, rfl, ha, decide_eq_true hk⟩)
  obtain ⟨i, e, _, hi⟩ := idxF_mem.mp (of_decide_eq_true h2)
  have : i = a := by omega
  subst this
  exact of_decide_eq_true hi
theorem most_later {lots : List (List Int)} {xs row : List Int} {k o : Nat} {m1 m2 : Int} (hk : k < xs.length) (ho : o < xs.length) (hko : ∀ a : Nat, (k : Int) ∈ lots.getD a [] → (o : Int) ∈ lots.getD a []) (h1 : IsMost lots (lessL xs k) row m1) (h2 : IsMost lots (lessL xs o) row m2) : m2 ≤ m1 := by
  obtain ⟨part, hp, rfl⟩ := h1.ex
  refine Int.le_trans (h2.le part hp) ?_
  unfold worth
  rw [lessL_len, lessL_len]
  have nd : (kindsT lots xs.length part).Nodup := idxF_nd _ _
  have p0 : ∀ z ∈ kindsT lots xs.length part, 0 ≤ z := fun z m => by
    obtain ⟨i, rfl, _⟩ := idxF_mem.mp m
    omega
  rw [units_less ho nd p0, units_less hk nd p0]
  have imp : (k : Int) ∈ kindsT lots xs.length part → (o : Int) ∈ kindsT lots xs.length part := fun m => by
    obtain ⟨i, e, hi, hc⟩ := idxF_mem.mp m
    have : i = k := by omega
    subst this
    obtain ⟨a, ha, z⟩ := List.any_eq_true.mp hc
    exact idxF_mem.mpr ⟨o, rfl, ho, List.any_eq_true.mpr ⟨a, ha, decide_eq_true (hko _ (of_decide_eq_true z))⟩⟩
  show unitsI xs (kindsT lots xs.length part) - _ + _ ≤ unitsI xs (kindsT lots xs.length part) - _ + _
  by_cases c : (k : Int) ∈ kindsT lots xs.length part
  · rw [if_pos (imp c), if_pos c]
    exact Int.le_refl _
  · rw [if_neg c]
    by_cases c2 : (o : Int) ∈ kindsT lots xs.length part
    · rw [if_pos c2]
      omega
    · rw [if_neg c2]
      exact Int.le_refl _
section
variable {P : Program} {w : World} {K : PySem.W.Frag} {mg : Str → Option Value} {base : Heap}
/-! ### _law_later_right -/
def spLater (K : PySem.W.Frag) : Sp := fun vs H Q _ => ∃ (h l F sq so : Addr) (L : List Int) (st : Int) (lots : List (List Int)) (xs somes : List Int) (k : Nat), vs = [.ref h, .ref F, .ref sq, .ref so, .int (k : Int)] ∧ Hv H h l L st ∧ LotsAt K H F lots ∧ F ≠ h ∧ F ≠ l ∧ 1 ≤ lots.length ∧ lots.length ≤ 8 ∧ SqT K H sq (xs.map V.int) ∧ xs.length ≤ 8 ∧
  H so = some (.lst (somes.map V.int)) ∧ so ≠ h ∧ so ≠ l ∧ somes.length ≤ 8 ∧ (∀ o ∈ somes, 0 ≤ o ∧ o < (xs.length : Int)) ∧ k < xs.length ∧ goodI lots somes (k : Int) = true ∧ ∀ G L' st', But h l H G → Hv G h l L' st' → Q (.bl true) G
theorem ok_later {f fD fM fL : Addr} {fd fdD fdM fdL : FuncData} {k : Nat} (F : Fun K "_law_later_right" "_law_later_right" s__law_later_right f fd) (FD : Fun K "_law_draw" "_law_draw" s__law_draw fD fdD) (bD : Binds K fdD ["heap", "many"] []) (gD : mg "_law_draw" = some (.ref fD)) (GD : FnOk P w K mg base CX0 k fD fdD ["heap", "many"] spDraw)
    (FM : Fun K "_law_most" "_law_most" s__law_most fM fdM) (bM : Binds K fdM ["lots", "stock", "row"] []) (gM : mg "_law_most" = some (.ref fM)) (GM : FnOk P w K mg base CX0 k fM fdM ["lots", "stock", "row"] (spMost K))
    (FL : Fun K "_law_less" "_law_less" s__law_less fL fdL) (bL : Binds K fdL ["left", "kind"] []) (gL : mg "_law_less" = some (.ref fL)) (GL : FnOk P w K mg base CX0 k fL fdL ["left", "kind"] (spLess K)) (ml : mg "len" = none) (mr : mg "range" = none) (ma : mg "all" = none) (mt : mg "tuple" = none) :
    FnOk P w K mg base CX0 (k + 1) f fd ["heap", "lots", "stock", "some", "kind"] (spLater K) := by
  refine F.ok sc__law_later_right (fun vs H Q E h => ?_) (fun cdv A outer s H vs Q E hr h => ?_)
  · obtain ⟨h, l, F, sq, so, L, st, lots, xs, somes, k, rfl, _⟩ := h
    rfl
  · obtain ⟨h, l, F, sq, so, L, st, lots, xs, somes, k0, rfl, hv, hL, nFh, nFl, l1, l8, hs, x8, gso, nsh, nsl, s8, hsm, hk, hgood, q⟩ := h
    refine blk_cons (ps_set (i := 5) sc__law_later_right.nd rfl (.inr rfl) (pe_callTy call_tuple_of (by rfl) mt (by decide +kernel) (pa_cons (pe_lc (own := [("turn", 7)]) (g := gName 7) (tt := tYes) rfl sc__law_later_right.nd (pi_range1 (by rfl) mr (pa_cons (pe_call GD hr (by rfl) gD FD.kp bD .nil pass0 (pa_cons (pv 0) (pa_cons pe_int pa_nil))) pa_nil)) (blkOk_by (own := [("turn", 7)]) (N := n__law_later_right) (sc := defScope s__law_later_right) (by decide +kernel))
      (fun _ _ _ _ _ => pg_name (i := 7) sc__law_later_right.nd rfl (Or.inl rfl)) (fun _ _ _ _ _ => pts_nil) (fun _ _ _ _ _ => pe_call GD hr (by rfl) gD FD.kp bD .nil pass0 (pa_cons (pv 0) (pa_cons (pe_callB (r := rLenQ K) call_len_seq (by rfl) ml PySem.boot_len (pa_cons (pv 1) pa_nil)) pa_nil)))) pa_nil))) ?_
    refine blk_cons (ps_set (i := 6) sc__law_later_right.nd rfl (.inr rfl) (pe_call GM hr (by rfl) gM FM.kp bM .nil pass0 (pa_cons (pv 1) (pa_cons (pe_call GL hr (by rfl) gL FL.kp bL .nil pass0 (pa_cons (pv 2) (pa_cons (pv 4) pa_nil))) (pa_cons (pv 5) pa_nil))))) ?_
    refine blk_cons (ps_ret (pe_callB (cr_all rfl) (by rfl) ma (by decide +kernel) (pa_cons (pe_lc (own := [("other", 8)]) (g := gName 8) (tt := tYes) rfl sc__law_later_right.nd (pi_list (pv 3)) (blkOk_by (own := [("other", 8)]) (N := n__law_later_right) (sc := defScope s__law_later_right) (by decide +kernel))
      (fun _ _ _ _ _ => pg_name (i := 8) sc__law_later_right.nd rfl (Or.inl rfl)) (fun _ _ _ _ _ => pts_nil) (fun _ _ _ _ _ => pe_cmpR op_ge (pv 6) (pe_call GM hr (by rfl) gM FM.kp bM .nil pass0 (pa_cons (pv 1) (pa_cons (pe_call GL hr (by rfl) gL FL.kp bL .nil pass0 (pa_cons (pv 2) (pa_cons (pv 8) pa_nil))) (pa_cons (pv 5) pa_nil)))) (nomark _))) pa_nil))) ?_
    refine blk_nil ?_
    refine ⟨_, rfl, h, l, L, st, 8, rfl, hv, by decide, by decide, fun G1 L1 st1 r b1 hv1 r0 r1 => ?_⟩
    refine ⟨_, rfl, by omega, by omega, fun D nD => ?_⟩
    have neh : h ≠ D := ne_of_none hv1.top nD
    have nel : l ≠ D := ne_of_none hv1.bot nD
    refine lc_range (lo := 0) (n := r.toNat) (fun j J => But h l G1 J ∧ (∃ L4 st4, Hv J h l L4 st4) ∧ ∃ row : List Int, row.length = j ∧ (∀ a ∈ row, 0 ≤ a ∧ a < (lots.length : Int)) ∧ J D = some (.lst (row.map V.int))) ⟨(But.refl _ _ _).new nD, ⟨_, _, hv1.new nD⟩, [], rfl, fun _ h => absurd h List.not_mem_nil, upd_same⟩ (fun j J hj hQ => ?_) (fun J hQ => ?_)
    · obtain ⟨bj, ⟨L2, st2, hv2⟩, row, rl, hra, gD⟩ := hQ
      obtain ⟨vs, gF, hd⟩ := (hL.but hv b1 nFh nFl).but hv1 bj nFh nFl
      have hvl := dpAll_len hd
      unfold lotsD at hvl
      rw [List.length_map] at hvl
      refine ⟨rfl, ?_⟩
      dsimp only [tYes]
      rw [if_pos rfl]
      refine ⟨_, rfl, _, rfl, F, vs, rfl, .inl (sqL gF), h, l, L2, st2, _, rfl, hv2, by omega, by omega, fun G2 L3 st3 r2 b2 hv3 r20 r21 => ?_⟩
      have gD2 := b2 _ _ neh.symm nel.symm gD
      refine ⟨_, gD2, by rw [List.length_map]; exact small1000 (by omega), fun b ob e1 e2 e => ?_, ⟨L3, st3, ⟨(upd_ne neh).trans hv3.top, (upd_ne nel).trans hv3.bot, hv3.ne, hv3.lo, hv3.hi, hv3.len⟩⟩, row ++ [r2], by rw [List.length_append, rl]; rfl, fun a ha => ?_, by rw [upd_same, List.map_append]; rfl⟩
      · rw [upd_ne (ne_of_none e nD)]
        exact b2 _ _ e1 e2 (bj _ _ e1 e2 e)
      · rcases List.mem_append.mp ha with m | m
        · exact hra a m
        · rw [List.mem_singleton.mp m]
          omega
    obtain ⟨bj, ⟨L2, st2, hv2⟩, row, rl, hra, gD⟩ := hQ
    refine ⟨D, _, rfl, .inl ⟨sqL gD, fun rq nrq => ?_⟩⟩
    have s3 := same_new (o := .tup (row.map V.int)) nrq
    have hrow := sqT (K := K) (upd_same (H := J) (a := rq) (o := .tup (row.map V.int)))
    have b3 : But h l H (upd J rq (.tup (row.map V.int))) := (b1.trans bj).same s3
    have hv3 := hv2.same s3
    generalize upd J rq (.tup (row.map V.int)) = G3 at s3 hrow b3 hv3 ⊢
    have hL3 := hL.but hv b3 nFh nFl
    have hs3 := (KeepT.but hv b3).seqT hs
    have gso3 := b3 _ _ nsh nsl gso
    dsimp only [gName]
    refine ⟨_, rfl, _, rfl, _, rfl, sq, xs, k0, rfl, hs3, hk, by omega, fun G4 q4 s4 h4 => ⟨_, rfl, F, q4, rq, lots, lessL xs k0, row, rfl, hL3.same s4, l8, h4, by rw [lessL_len]; exact x8, same_seqT s4 hrow, by omega, hra, fun G5 m1 s5 hm1 => ?_⟩⟩
    have s45 := s4.trans s5
    refine ⟨_, rfl, so, rfl, ⟨_, sqL (s45 _ _ gso3)⟩, fun B nB => lc_list (K := K) (a := so) (xs := somes.map V.int) (fun i J2 => Same G5 J2 ∧ J2 B = some (.lst (((somes.take i).map fun _ => true).map V.bl))) ⟨same_new nB, upd_same⟩ (fun i J2 _ hP => sqL (hP.1 _ _ (s45 _ _ gso3))) (fun i x J2 hx hP => ?_) (fun J2 hP => ?_)⟩
    · obtain ⟨s6, gB⟩ := hP
      obtain ⟨o, ho, rfl⟩ := map_at hx
      have hi : i < somes.length := (List.getElem?_eq_some_iff.mp ho).1
      have hom := List.mem_of_getElem? ho
      have hob := hsm o hom
      obtain ⟨on, rfl⟩ := Int.eq_ofNat_of_zero_le hob.1
      have s46 := s45.trans s6
      refine ⟨rfl, ?_⟩
      dsimp only [tYes]
      rw [if_pos rfl]
      refine ⟨_, rfl, _, rfl, _, rfl, _, rfl, sq, xs, on, rfl, same_seqT s46 hs3, by omega, by omega, fun G7 q7 s7 h7 => ⟨_, rfl, F, q7, rq, lots, lessL xs on, row, rfl, hL3.same (s46.trans s7), l8, h7, by rw [lessL_len]; exact x8, same_seqT (s46.trans s7) hrow, by omega, hra, fun G8 m2 s8 hm2 => ?_⟩⟩
      have hle := most_later hk (by omega) (fun a ha => good_in hgood hom a ha) hm1 hm2
      have s78 := s7.trans s8
      refine ⟨_, _, rfl, rfl, ?_⟩
      dsimp only
      rw [decide_eq_true (show m2 ≤ m1 from hle)]
      refine ⟨_, s78 _ _ gB, ?_, fun b ob e => ?_, ?_⟩
      · rw [List.length_map, List.length_map, List.length_take]
        exact small1000 (by omega)
      · rw [upd_ne (ne_of_none e nB)]
        exact s78 _ _ (s6 _ _ e)
      · rw [upd_same, List.take_add_one, ho, List.map_append, List.map_append]
        rfl
    · obtain ⟨s6, gB⟩ := hP
      rw [List.length_map, List.take_length] at gB
      refine ⟨B, _, rfl, sqL gB, ?_⟩
      have e1 : (somes.map fun _ => true).all id = true := by rw [List.all_map]; exact List.all_eq_true.mpr fun _ _ => rfl
      rw [e1]
      have s56 := s45.trans s6
      exact q _ L2 st2 (b3.same s56) (hv3.same s56)
end
end K20
namespace K20
open PySem PySem.Spec PyProof.Rows L2 Gd
/-- all stands but lists in S and tables -/
def Fr (S : List Addr) (H G : Hp) : Prop := ∀ b o, b ∉ S → H b = some o → (∀ ps, o ≠ .tbl ps) → G b = some o
theorem Fr.same {S : List Addr} {H G : Hp} (e : Same H G) : Fr S H G := fun b o _ h _ => e b o h
theorem Fr.but {h l : Addr} {H G : Hp} (e : But h l H G) : Fr [h, l] H G := fun b o n z _ => e b o (fun q => n (by simp [q])) (fun q => n (by simp [q])) z
theorem Fr.trans {S : List Addr} {H G J : Hp} (a : Fr S H G) (b : Fr S G J) : Fr S H J := fun c o n h t => b c o n (a c o n h t) t
theorem Fr.ext {S : List Addr} {H G : Hp} (e : LamX.ExtN H G) : Fr S H G := fun b o _ h t => e b o h t
theorem Fr.mono {S T : List Addr} {H G : Hp} (a : Fr S H G) (h : ∀ x ∈ S, x ∈ T) : Fr T H G := fun b o n => a b o fun z => n (h b z)
theorem tyX_fr {K : PySem.W.Frag} {S : List Addr} {H G : Hp} (e : Fr S H G) {x : V} {t : Value} (n : ∀ a ∈ S, x ≠ .ref a) (h : TyX K H x t) : TyX K G x t := by
  have st : ∀ {a o}, x = .ref a → H a = some o → (∀ ps, o ≠ .tbl ps) → G a = some o := fun {a o} ex ha ht => e a o (fun m => n a m ex) ha ht
  cases h with
  | base b =>
    cases b with
    | non => exact .base .non
    | bl y => exact .base (.bl y)
    | int i => exact .base (.int i)
    | str y => exact .base (.str y)
    | flt y => exact .base (.flt y)
    | lst q => exact .base (.lst (st rfl q fun _ z => by cases z))
    | frz q => exact .base (.frz (st rfl q fun _ z => by cases z))
    | tup q => exact .base (.tup (st rfl q fun _ z => by cases z))
    | dK q => exact .base (.dK (st rfl q fun _ z => by cases z))
    | dT q => exact .base (.dT (st rfl q fun _ z => by cases z))
    | ins q a b c d m => exact .base (.ins (st rfl q fun _ z => by cases z) a b c d m)
  | byt b => exact .byt b
  | set q => exact .set (st rfl q fun _ z => by cases z)
  | kList q c => exact .kList q c
  | kTuple q c => exact .kTuple q c
  | kDict q c => exact .kDict q c
  | fTuple q => exact .fTuple (st rfl q fun _ z => by cases z)
  | fDict q => exact .fDict (st rfl q fun _ z => by cases z)
/-- in S are lists alone, so that no tuple is among them -/
def Lsts (S : List Addr) (H : Hp) : Prop := ∀ a ∈ S, ∃ xs, H a = some (.lst xs)
theorem Fr.seqT {K : PySem.W.Frag} {S : List Addr} {H G : Hp} {a : Addr} {xs : List V} (e : Fr S H G) (L : Lsts S H) (h : SqT K H a xs) : SqT K G a xs := by
  have off : ∀ o, H a = some o → (∀ ys, o ≠ .lst ys) → a ∉ S := fun o ha n m => by
    obtain ⟨ys, z⟩ := L a m
    exact n ys (Option.some.inj (ha.symm.trans z))
  rcases h with (z | ⟨o, z⟩) | z
  · exact .inl (.inl (e _ _ (off _ z fun _ q => by cases q) z fun _ q => by cases q))
  · exact .inl (.inr ⟨o, e _ _ (off _ z fun _ q => by cases q) z fun _ q => by cases q⟩)
  · exact .inr z
theorem TblAt.fr {K : PySem.W.Frag} {C : Addr} {S : List Addr} {H G : Hp} {p dx pk pt : Addr} {t : TD} (e : Fr S H G) (L : Lsts S H) (d : TblAt K C H p dx pk pt t) : TblAt K C G p dx pk pt t :=
  ⟨e _ _ (fun m => by obtain ⟨ys, z⟩ := L p m; cases d.obj.symm.trans z) d.obj (fun _ z => nomatch z), dp_sq (fun a xs s => e.seqT L s) _ _ (noList_kinds t) d.kd, dp_sq (fun a xs s => e.seqT L s) _ _ (noList_types t) d.td⟩
theorem lsts_hv {H : Hp} {h l : Addr} {L : List Int} {st : Int} (v : Hv H h l L st) : Lsts [h, l] H := fun a m => by
  rcases List.mem_cons.mp m with e | m
  · rw [e]
    exact ⟨_, v.top⟩
  · rw [List.mem_singleton.mp m]
    exact ⟨_, v.bot⟩
/-- what is told of the error that is heard -/
structure HTxt (K : PySem.W.Frag) (mg : Str → Option Value) (CW CF CD : Addr) : Prop where
  gW : mg "InvalidRow" = some (.ref CW)
  gF : mg "Refused" = some (.ref CF)
  gD : mg "DeskError" = some (.ref CD)
  nF : PySem.W.findIn K (.ref CF) "word" = some none
  ff : PySem.W.exmOne K (.ref CF) (.ref CF) = some true
  isD : PySem.W.kitOne K (.ref CF) (.ref CD) = some true
  isW : PySem.W.kitOne K (.ref CF) (.ref CW) = some false
  eF : ExcC K CF
  xF : XfC K CF
def RHd (K : PySem.W.Frag) (CF : Addr) : Value → Option Addr → Hp → VK → Prop := fun cls d H Q => ∃ dd, d = some dd ∧ ∃ z : Str, H dd = some (xdS z) ∧ cls = .ref CF ∧ Q (.str z) H
theorem xdS_at (z : Str) : ([(("word" : Str), V.str z)] : List (Str × V)).lookup ("word" : Str) = some (.str z) := rfl
abbrev rIsE (K : PySem.W.Frag) (a : Addr) (cls : Value) (d : Option Addr) (D : Addr) : List V → Hp → VK → Prop := fun xs H Q => cls = .ref D ∧ ∃ (c : V) (u : Value) (b : Bool), xs = [.ref a, c] ∧ ClsV c u ∧ PySem.W.kitOne K (.ref D) u = some b ∧ (d = none ∨ ∃ dd fs, d = some dd ∧ H dd = some (.xd fs) ∧ fs.lookup ("__class__" : Str) = none) ∧ Q (.bl b) H
abbrev tIsE (K : PySem.W.Frag) (a : Addr) (cls : Value) (d : Option Addr) (D E : Addr) : TT := tB (tCB (rIsE K a cls d D) (tCons (tVar 1) (tCons (tC (.ref E)) tNil)))
abbrev clsH (K : PySem.W.Frag) (CW CF CD : Addr) : List Clause := [(.ref CF, 1, fun a cls d => tRet (tIf (tAnd (tIsE K a cls d CF CD) (tNot (tIsE K a cls d CF CW))) (tXf a cls d CF "word" (tVar 1)) (tC (.str "mixed"))))]
abbrev hcx (X : Cx) (fH : Addr) (cdv : Value) (s : Shared) (H : Hp) : Cx := (cxOf C8.CX0 X.prog X.w X.K X.mg X.base n__law_heard "_law_heard" (defScope s__law_heard) fH cdv X.A X.stack s H C8.E0).nox
section
variable {X : Cx} {CW CF CD fH : Addr} {cdv : Value} {q : Str}
theorem gives_heard (T : HTxt X.K X.mg CW CF CD) (mI : X.mg "isinstance" = none) :
    LamX.GivesTo X n__law_heard "_law_heard" (defScope s__law_heard) fH cdv (defBody s__law_heard) "action" q (TTs (RHd X.K CF) (.str "")) := by
  refine heards_gives (l := clsH X.K CW CF CD) sc__law_heard.nd (fun s H => ?a) (fun Y => pe_str) (fun f => rfl) (fun D σ cls d H hl hr => ?b)
  case a =>
    exact ClsOk.cons (X := hcx X fH cdv s H) (i := 1) (x := "Refused") (n := "error") ⟨rfl, by decide, .inl T.gF⟩ rfl rfl (fun a o cls d pn hz hf => pss_one (ps_ret (pe_ifExp (PW.pt (pw_and (pt_val (pe_callB (call_isE3 (X := hcx X fH cdv s H) T.eF hz hf) (by rfl) mI (by decide +kernel) (pa_cons (pv 1) (pa_cons (pe_glob (v := .ref CD) (by rfl) T.gD rfl) pa_nil))))
      (pw_and1 (pt_not (pt_val (pe_callB (call_isE3 (X := hcx X fH cdv s H) T.eF hz hf) (by rfl) mI (by decide +kernel) (pa_cons (pv 1) (pa_cons (pe_glob (v := .ref CW) (by rfl) T.gW rfl) pa_nil)))))))) (pe_xf (X := hcx X fH cdv s H) T.xF T.nF hz hf (pv 1)) pe_str)))
      .nil
  case b =>
    have sl : ∀ a : Addr, (σ.set 1 (some (V.ref a)))[1]? = some (some (.ref a)) := fun a => List.getElem?_set_self (by rw [hl]; decide)
    obtain ⟨dd, rfl, z, hx, rfl, qq⟩ := hr
    refine wAll_hit T.ff fun a _ => ?_
    refine ⟨_, sl a, rfl, .ref CD, .ref CD, true, rfl, .own _, T.isD, .inr ⟨dd, _, rfl, hx, rfl⟩, _, rfl, iteT ?_⟩
    refine ⟨_, sl a, rfl, .ref CW, .ref CW, false, rfl, .own _, T.isW, .inr ⟨dd, _, rfl, hx, rfl⟩, _, rfl, iteT ?_⟩
    exact ⟨_, sl a, rfl, rfl, dd, _, _, rfl, hx, xdS_at z, qq⟩
end
section
variable {X : Cx} {CW CF CD fH c Pt : Addr} {fdH : FuncData} {T : List (Addr × Str)} {k : Nat} {params : Arguments} {body : Expr} {scope : Scope} {t : XK → TE} {p lpos pos : Pos}
/-- _law_heard(lambda: ..) -/
theorem pe_hd (FH : Fun X.K "_law_heard" "_law_heard" s__law_heard fH fdH) (bH : Binds X.K fdH ["action"] []) (hg : Gl X "_law_heard") (gH : X.mg "_law_heard" = some (.ref fH)) (TH : HTxt X.K X.mg CW CF CD) (mI : X.mg "isinstance" = none)
    (L : LamT T X.base X.mg c Pt (X.env.qual ++ "<lambda>")) (hcode : X.env.code = .ref c) (hr : Room (k + 2) X.A) (hl : LamX.LamS X.env.scope scope)
    (hbody : ∀ (A : Around) (outer : List Env) (s : Shared) (H : Hp) (E : XK) (f c' : Addr), Room k (A.deeper (LamX.lamEnv X scope s.heap.objs.size f c')) → PE (LamX.lamCx X A outer s H E scope f c') body (t E))
    (hdef : defaultsOf params X.env = ([], []) := by rfl) (hbind : ∀ (q : Str) (cl : List (Str × Addr)) (pm cv ctv : Value), bindArgs (PySem.W.kla_fn "<lambda>" q params body scope cl pm cv ctv) ⟨[], []⟩ = pure [] := by intros; rfl) :
    PE X (.Call (.Name "_law_heard" p) [.Lambda params body scope lpos] [] pos) (LamX.tLam T (TTs (RHd X.K CF) (.str "")) t) :=
  pe_lamT FH bH hg gH sc__law_heard rfl (.inl rfl) (fun cdv => gives_heard TH mI) L hcode hr hl hbody hdef hbind
end
/-- what stands from one statement of the law to the next -/
structure On (T : List (Addr × Str)) (h l : Addr) (H G : Hp) : Prop where
  fr : Fr [h, l] H G
  tb : LamX.Tabs T G
  hv : ∃ L st, Hv G h l L st
theorem hv_ext {h l : Addr} {H G : Hp} {L : List Int} {st : Int} (e : LamX.ExtN H G) (v : Hv H h l L st) : Hv G h l L st := ⟨e _ _ v.top fun _ z => (nomatch z), e _ _ v.bot fun _ z => (nomatch z), v.ne, v.lo, v.hi, v.len⟩
theorem tabs_but {T : List (Addr × Str)} {h l : Addr} {H G : Hp} {L : List Int} {st : Int} (v : Hv H h l L st) (t : LamX.Tabs T H) (b : But h l H G) : LamX.Tabs T G := fun p hp => by
  obtain ⟨ps, e, ok, a⟩ := t p hp
  have n1 : p.1 ≠ h := fun z => by rw [z, v.top] at e; cases e
  have n2 : p.1 ≠ l := fun z => by rw [z, v.bot] at e; cases e
  refine ⟨ps, b _ _ n1 n2 e, ok, fun pos cv hc => ?_⟩
  obtain ⟨c, e1, e2⟩ := a pos cv hc
  refine ⟨c, e1, b _ _ (fun z => ?_) (fun z => ?_) e2⟩
  · rw [z, v.top] at e2; unfold LamX.CodeO at e2; cases e2
  · rw [z, v.bot] at e2; unfold LamX.CodeO at e2; cases e2
theorem On.but {T : List (Addr × Str)} {h l : Addr} {H G J : Hp} {L : List Int} {st : Int} (o : On T h l H G) (b : But h l G J) (v : Hv J h l L st) : On T h l H J := ⟨o.fr.trans (.but b), let ⟨_, _, g⟩ := o.hv; tabs_but g o.tb b, _, _, v⟩
theorem On.same {T : List (Addr × Str)} {h l : Addr} {H G J : Hp} (o : On T h l H G) (s : Same G J) : On T h l H J := ⟨o.fr.trans (.same s), o.tb.ext s, let ⟨L, st, g⟩ := o.hv; ⟨L, st, g.same s⟩⟩
theorem On.ext {T : List (Addr × Str)} {h l : Addr} {H G J : Hp} (o : On T h l H G) (e : LamX.ExtN G J) (t : LamX.Tabs T J) : On T h l H J := ⟨o.fr.trans (.ext e), t, let ⟨L, st, g⟩ := o.hv; ⟨L, st, hv_ext e g⟩⟩
theorem On.seqT {K : PySem.W.Frag} {T : List (Addr × Str)} {h l a : Addr} {H G : Hp} {L : List Int} {st : Int} {xs : List V} (o : On T h l H G) (v : Hv H h l L st) (s : SqT K H a xs) : SqT K G a xs := o.fr.seqT (lsts_hv v) s
theorem On.refl {T : List (Addr × Str)} {h l : Addr} {H : Hp} {L : List Int} {st : Int} (v : Hv H h l L st) (t : LamX.Tabs T H) : On T h l H H := ⟨fun _ _ _ e _ => e, t, L, st, v⟩
theorem On.trans {T : List (Addr × Str)} {h l : Addr} {H G J : Hp} (a : On T h l H G) (b : On T h l G J) : On T h l H J := ⟨a.fr.trans b.fr, b.tb, b.hv⟩
end K20
namespace K20
open PySem PySem.Spec PyProof.Rows L2 Gd
abbrev lotsT (t : TD) : List (List Int) := t.types.map (·.2)
theorem acc_lots (t : TD) (a : Nat) (k : Int) : acc t a k = decide (k ∈ (lotsT t).getD a []) := by
  unfold acc lotsT
  rw [List.getD_eq_getElem?_getD, List.getElem?_map]
  cases e : t.types[a]? with
  | none => exact (decide_eq_false List.not_mem_nil).symm
  | some c => rfl
theorem takI_eq (t : TD) (k : Int) : takI (lotsT t) k = takersL t k := by
  unfold takI takersL typesOf
  rw [show (lotsT t).length = t.types.length from List.length_map _]
  refine idxF_congr fun i _ => ?_
  rw [← acc_lots]
  simp
theorem good_lack (t : TD) (os : List Int) (k : Int) : (lackO t k os).isNone = goodI (lotsT t) os k := by
  unfold goodI lackO
  rw [takI_eq]
  rw [Bool.eq_iff_iff, Option.isNone_iff_eq_none, List.find?_eq_none, List.all_eq_true]
  constructor
  · intro h o ho
    rw [List.all_eq_true]
    intro z hz
    obtain ⟨a, c, rfl, hc, _⟩ := takers_in hz
    have h2 := h _ hz
    have h3 : acc t a o = true := by
      by_cases e : acc t a o = true
      · exact e
      · exact absurd (List.any_eq_true.mpr ⟨o, ho, by rw [Int.toNat_natCast]; simpa using e⟩) h2
    rw [takI_eq]
    refine decide_eq_true (idxF_mem.mpr ⟨a, rfl, (List.getElem?_eq_some_iff.mp hc).1, ?_⟩)
    simpa using h3
  · intro h z hz hb
    obtain ⟨o, ho, hn⟩ := List.any_eq_true.mp hb
    have h1 := List.all_eq_true.mp (h o ho) z hz
    rw [takI_eq] at h1
    obtain ⟨a, e, _, hi⟩ := idxF_mem.mp (of_decide_eq_true h1)
    subst e
    have hi' : acc t a o = true := by simpa using hi
    rw [Int.toNat_natCast, hi'] at hn
    cases hn
theorem least_eq (t : TD) (a : Nat) (c : Str × List Int) (hc : t.types[a]? = some c) (xs : List Int) : leastL t (offL c.2 xs) = leastI (lotsT t) xs a := by
  have e : (lotsT t).getD a [] = c.2 := by
    unfold lotsT
    rw [List.getD_eq_getElem?_getD, List.getElem?_map, hc]
    rfl
  unfold leastL leastI
  rw [e]
  exact List.filter_congr fun k _ => good_lack t _ k
theorem max_of (f : Int → Int) : ∀ {l : List Int}, l ≠ [] → ∃ k ∈ l, ∀ o ∈ l, f o ≤ f k
  | [], h => absurd rfl h
  | x :: r, _ => by
    by_cases e : r = []
    · subst e
      exact ⟨x, List.mem_cons_self .., fun o ho => by rw [List.mem_singleton.mp ho]; exact Int.le_refl _⟩
    · obtain ⟨k, hk, hm⟩ := max_of f e
      by_cases c : f x ≤ f k
      · exact ⟨k, List.mem_cons_of_mem _ hk, fun o ho => by
          rcases List.mem_cons.mp ho with rfl | m
          · exact c
          · exact hm o m⟩
      · exact ⟨x, List.mem_cons_self .., fun o ho => by
          rcases List.mem_cons.mp ho with rfl | m
          · exact Int.le_refl _
          · have := hm o m
            omega⟩
theorem forest_due {lots : List (List Int)} {xs : List Int} {kk a : Nat} (N : Nest kk lots) (ha : a < lots.length) (hne : offL (lots.getD a []) xs ≠ []) : leastI lots xs a ≠ [] := by
  obtain ⟨hm, ws, e, nest⟩ := N
  have hl : lots.length = ws.length := by rw [e, List.length_map]
  have at_ : ∀ {i : Nat}, i < lots.length → ∃ w ∈ ws, lots.getD i [] = idxF (fun k => decide (hm k ∈ w)) kk := fun {i} hi => by
    have hi' : i < ws.length := by omega
    refine ⟨ws[i], List.getElem_mem _, ?_⟩
    have e2 : lots[i]? = (ws.map (fun w => idxF (fun k => decide (hm k ∈ w)) kk))[i]? := congrArg (fun z => z[i]?) e
    rw [List.getD_eq_getElem?_getD, e2, List.getElem?_map, List.getElem?_eq_getElem hi']
    rfl
  obtain ⟨w, hw, ew⟩ := at_ ha
  obtain ⟨k, hk, hmax⟩ := max_of (fun z => hm z.toNat) hne
  refine List.ne_nil_of_mem (a := k) (List.mem_filter.mpr ⟨hk, ?_⟩)
  refine List.all_eq_true.mpr fun o ho => List.all_eq_true.mpr fun z hz => ?_
  have inl : ∀ {x : Int}, x ∈ offL (lots.getD a []) xs → ∃ n : Nat, x = (n : Int) ∧ n < kk ∧ hm n ∈ w := fun {x} hx => by
    have := (List.mem_filter.mp hx).1
    rw [ew] at this
    obtain ⟨n, en, hn, hd⟩ := idxF_mem.mp this
    exact ⟨n, en, hn, of_decide_eq_true hd⟩
  obtain ⟨kn, rfl, hkn, kw⟩ := inl hk
  obtain ⟨on, rfl, hon, ow⟩ := inl ho
  have hle := hmax _ ho
  simp only [Int.toNat_natCast] at hle
  obtain ⟨b, rfl, hb, hbk⟩ := idxF_mem.mp hz
  obtain ⟨w', hw', ew'⟩ := at_ hb
  have kin : hm kn ∈ w' := by
    have h1 := of_decide_eq_true hbk
    rw [ew'] at h1
    obtain ⟨n, en, _, hd⟩ := idxF_mem.mp h1
    have : n = kn := by omega
    subst this
    exact of_decide_eq_true hd
  have oin := nest w hw w' hw' _ kw _ ow hle kin
  refine decide_eq_true (idxF_mem.mpr ⟨b, rfl, hb, decide_eq_true ?_⟩)
  rw [ew']
  exact idxF_mem.mpr ⟨on, rfl, hon, decide_eq_true oin⟩
theorem eqv_nilT (ds : List PyData) : PyData.eqv (.tuple ds) (.tuple []) = ds.isEmpty := by
  cases ds <;> rfl
/-- what is no offered kind -/
def OddN (K : PySem.W.Frag) (off : List Int) (S : List Addr) (G : Hp) (v : V) : Prop := (∃ i, v = .int i ∧ i ∉ off) ∨ (((∃ y, v = .bl y) ∨ ∃ n, TyN K G v n ∧ kitB n "int" = some false) ∧ (∀ i, v ≠ .int i) ∧ ∀ a ∈ S, v ≠ .ref a)
theorem OddN.fr {K : PySem.W.Frag} {off : List Int} {S : List Addr} {H G : Hp} {v : V} (e : Fr S H G) (h : OddN K off S H v) : OddN K off S G v := by
  rcases h with h | ⟨h, n1, n2⟩
  · exact .inl h
  · refine .inr ⟨h.imp id fun ⟨n, t, k⟩ => ⟨n, tyX_fr e n2 t, k⟩, n1, n2⟩
theorem stb_oddN {K : PySem.W.Frag} {off : List Int} {S : List Addr} : Stb (fun G v => Lsts S G ∧ OddN K off S G v) := fun G G' v e h => ⟨fun a m => let ⟨xs, z⟩ := h.1 a m; ⟨xs, e _ _ z⟩, h.2.fr (.same e)⟩
section
variable {P : Program} {w : World} {K : PySem.W.Frag} {mg : Str → Option Value} {base : Heap}
/-! ### _law_request_right -/
def spRR (K : PySem.W.Frag) (T : List (Addr × Str)) (C : Addr) : Sp := fun vs H Q _ => ∃ (h l p dx pk pt F sq : Addr) (L : List Int) (st : Int) (t : TD) (xs : List Int) (a : Nat) (fo : Bool), vs = [.ref h, .ref p, .ref F, .ref sq, .int (a : Int), .bl fo] ∧ Hv H h l L st ∧ LamX.Tabs T H ∧ TblAt K C H p dx pk pt t ∧ TOk t ∧
  LotsAt K H F (lotsT t) ∧ F ≠ h ∧ F ≠ l ∧ t.types.length ≤ 5 ∧ t.kinds.length ≤ 4 ∧ SqT K H sq (xs.map V.int) ∧ xs.length = t.kinds.length ∧ (∀ v ∈ xs, 0 ≤ v ∧ v ≤ 3) ∧ a < t.types.length ∧ (fo = true → Nest t.kinds.length (lotsT t)) ∧ ∀ G, On T h l H G → Q (.bl true) G
theorem ok_rr {f fK fW fT fI fR fS fP fH C CW CF CD c Pt : Addr} {fd fdK fdW fdT fdI fdR fdS fdP fdH : FuncData} {k : Nat} {T : List (Addr × Str)} (F : Fun K "_law_request_right" "_law_request_right" s__law_request_right f fd) (hc : fd.code = .ref c) (LT : LamT T base mg c Pt ("_law_request_right" ++ ".<locals>." ++ "<lambda>"))
    (FK : Fun K "least_kinds" "least_kinds" s_least_kinds fK fdK) (bK : Binds K fdK ["table", "stock", "request"] []) (kK : KwB fdK ["table", "stock", "request"] ["request", "stock", "table"] List.reverse) (gK : mg "least_kinds" = some (.ref fK)) (GK : FnOk P w K mg base CX0 k fK fdK ["table", "stock", "request"] (spLeast K C))
    (FW : Fun K "wrong_row" "wrong_row" s_wrong_row fW fdW) (bW : Binds K fdW ["table", "stock", "request", "kind"] []) (kW : KwB fdW ["table", "stock", "request", "kind"] ["kind", "request", "stock", "table"] List.reverse) (gW : mg "wrong_row" = some (.ref fW)) (GW : FnOk P w K mg base (L2.CX P w) k fW fdW ["table", "stock", "request", "kind"] (spWR K C CF))
    (FT : Fun K "_law_later_right" "_law_later_right" s__law_later_right fT fdT) (bT : Binds K fdT ["heap", "lots", "stock", "some", "kind"] []) (gT : mg "_law_later_right" = some (.ref fT)) (GT : FnOk P w K mg base CX0 k fT fdT ["heap", "lots", "stock", "some", "kind"] (spLater K))
    (FI : Fun K "_law_is_row" "_law_is_row" s__law_is_row fI fdI) (bI : Binds K fdI ["lots", "value"] []) (gI : mg "_law_is_row" = some (.ref fI)) (GI : FnOk P w K mg base CX0 k fI fdI ["lots", "value"] (spIsRow K))
    (FR : Fun K "_law_all_regret" "_law_all_regret" s__law_all_regret fR fdR) (bR : Binds K fdR ["lots", "stock", "request", "kind", "row"] []) (gR : mg "_law_all_regret" = some (.ref fR)) (GR : FnOk P w K mg base CX0 k fR fdR ["lots", "stock", "request", "kind", "row"] (spReg K))
    (FS : Fun K "_law_least" "_law_least" s__law_least fS fdS) (bS : Binds K fdS ["lots", "left", "request"] []) (gS : mg "_law_least" = some (.ref fS)) (GS : FnOk P w K mg base CX0 k fS fdS ["lots", "left", "request"] (spLst K))
    (FP : Fun K "_law_pick" "_law_pick" s__law_pick fP fdP) (bP : Binds K fdP ["heap", "some"] []) (gP : mg "_law_pick" = some (.ref fP)) (GP : FnOk P w K mg base CX0 k fP fdP ["heap", "some"] (spPick K))
    (FH : Fun K "_law_heard" "_law_heard" s__law_heard fH fdH) (bH : Binds K fdH ["action"] []) (gH : mg "_law_heard" = some (.ref fH)) (TH : HTxt K mg CW CF CD) (mI : mg "isinstance" = none)
    (ml : mg "len" = none) (mr : mg "range" = none) (mt : mg "tuple" = none) (mp : mg "repr" = none) :
    FnG P w K mg base (k + 2 + 1) f fd ["heap", "table", "lots", "stock", "request", "forest"] (spRR K T C) := by
  refine okGC F hc sc__law_request_right (fun vs H Q E h => ?_) (fun A outer s H vs Q E hrg h => ?_)
  · obtain ⟨h, l, p, dx, pk, pt, F, sq, L, st, t, xs, a, fo, rfl, _⟩ := h
    rfl
  · obtain ⟨h, l, p, dx, pk, pt, F, sq, L, st, t, xs, a, fo, rfl, hv, tb, d, ok, hL, nFh, nFl, t5, k4, hs, xl, x3, ha, hfo, q⟩ := h
    have hr2 := hrg.rm
    have hr : Room k _ := hr2.mono (Nat.le_add_right _ _)
    have hgd := hrg.gd
    refine blk_cons (ps_asg (pe_tup (pa_cons (pe_lc (own := [("kind", 6)]) (g := gName 6) rfl sc__law_request_right.nd (pi_tup (pe_ix ix_list (pv 2) (pv 4) (fun _ _ => rfl))) (blkOk_by (own := [("kind", 6)]) (N := n__law_request_right) (sc := defScope s__law_request_right) (by decide +kernel))
        (fun _ _ _ _ _ => pg_name (i := 6) sc__law_request_right.nd rfl (Or.inl rfl)) (fun _ _ _ _ _ => pts_one (pt_cmpR op_gt (pe_ix (r := rIxT K) ix_tup (pv 3) (pv 6) (fun _ _ => rfl)) pe_int (nomark _))) (fun _ _ _ _ _ => pv 6))
        (pa_cons (pe_callTy call_tuple_of (by rfl) mt (by decide +kernel) (pa_cons (pe_call GS hr (by rfl) gS FS.kp bS .nil pass0 (pa_cons (pv 2) (pa_cons (pv 3) (pa_cons (pv 4) pa_nil)))) pa_nil)) pa_nil)))
      (pg_tup rfl (pgs_cons (pg_name (i := 7) sc__law_request_right.nd rfl (.inr rfl)) (pgs_cons (pg_name (i := 8) sc__law_request_right.nd rfl (.inl rfl)) pgs_nil)))) ?_
    refine blk_cons (ps_if (PW.pt (pw_or (pt_cmpR op_ne (pe_callB (call_reprF hgd hr.units) (by rfl) mp (by decide +kernel) (pa_cons (pe_call (E := E0) GK hr (by rfl) gK FK.kp bK .nil pass0 (pa_cons (pv 1) (pa_cons (pv 3) (pa_cons (pv 4) pa_nil)))) pa_nil)) (pe_callB (call_reprF hgd hr.units) (by rfl) mp (by decide +kernel) (pa_cons (pv 8) pa_nil)) (nomark _))
      (pw_or1 (pt_cmpR (op_neD hr.units) (pe_kwP (E := E0) (gV := List.reverse) GK hr (by rfl) gK FK.kp kK pass0 (fun _ r => r.reverse) (pk_cons (pv 4) (pk_cons (pv 3) (pk_cons (pv 1) pk_nil)))) (pv 8) (nomark _))))) (pss_one (ps_ret pe_bl)) pss_nil) ?_
    refine blk_cons (ps_if (PW.pt (pw_and (pt_val (pv 5)) (pw_and (pt_cmpR (op_neD hr.units) (pv 7) (pe_lst pa_nil) (nomark _)) (pw_and1 (pt_cmpR (op_eqD hr.units) (pv 8) (pe_tup pa_nil) (nomark _)))))) (pss_one (ps_ret pe_bl)) pss_nil) ?_
    refine blk_cons (ps_for PassesOwn.never rfl (pi_list (pv 7)) (pg_name (i := 6) sc__law_request_right.nd rfl (.inl rfl))
      (pss_cons (ps_set (i := 9) sc__law_request_right.nd rfl (.inl rfl) (pe_call (E := E0) GW hr (by rfl) gW FW.kp bW .nil passL (pa_cons (pv 1) (pa_cons (pv 3) (pa_cons (pv 4) (pa_cons (pv 6) pa_nil))))))
      (pss_cons (ps_if (PW.pt (pw_or (pt_cmpR (op_neD hr.units) (pe_kwP (E := E0) (gV := List.reverse) GW hr (by rfl) gW FW.kp kW passL (fun _ r => r.reverse) (pk_cons (pv 6) (pk_cons (pv 4) (pk_cons (pv 3) (pk_cons (pv 1) pk_nil))))) (pv 9) (nomark _))
        (pw_or1 (pt_cmpR (op_neD hr.units) (pe_cmpR op_isN (pv 9) pe_non (nomark _)) (pe_cmpR (r := rIn K false) op_in_seq (pv 6) (pv 8) (by rfl)) (nomark _))))) (pss_one (ps_ret pe_bl)) pss_nil)
      (pss_cons (ps_if (PW.pt (pw_and (pt_cmpR op_isN (pv 9) pe_non (nomark _)) (pw_and1 (pt_not (pt_val (pe_call GT hr (by rfl) gT FT.kp bT .nil pass0 (pa_cons (pv 0) (pa_cons (pv 2) (pa_cons (pv 3) (pa_cons (pv 7) (pa_cons (pv 6) pa_nil)))))))))))
        (pss_one (ps_ret pe_bl)) pss_nil)
      (pss_one (ps_if (PW.pt (pw_and (pt_cmpR op_notN (pv 9) pe_non (nomark _)) (pw_and1 (PW.pt (pw_or (pt_not (pt_val (pe_call GI hr (by rfl) gI FI.kp bI .nil pass0 (pa_cons (pv 2) (pa_cons (pv 9) pa_nil)))))
        (pw_or1 (pt_not (pt_val (pe_call GR hr (by rfl) gR FR.kp bR .nil pass0 (pa_cons (pv 2) (pa_cons (pv 3) (pa_cons (pv 4) (pa_cons (pv 6) (pa_cons (pv 9) pa_nil)))))))))))))) (pss_one (ps_ret pe_bl)) pss_nil)))))) ?_
    refine blk_cons (ps_set (i := 10) sc__law_request_right.nd rfl (.inl rfl) (pe_op op_cat (pe_lc (own := [("kind", 6)]) (g := gName 6) rfl sc__law_request_right.nd (pi_range1 (by rfl) mr (pa_cons (pe_callB call_len_seq (by rfl) ml PySem.boot_len (pa_cons (pv 3) pa_nil)) pa_nil)) (blkOk_by (own := [("kind", 6)]) (N := n__law_request_right) (sc := defScope s__law_request_right) (by decide +kernel))
        (fun _ _ _ _ _ => pg_name (i := 6) sc__law_request_right.nd rfl (Or.inl rfl)) (fun _ _ _ _ _ => pts_one (pt_cmpR (r := rIn K true) op_notIn_seq (pv 6) (pv 7) (by rfl))) (fun _ _ _ _ _ => pv 6))
      (pe_lst (pa_cons (pe_op op_sub pe_int pe_int) (pa_cons (pe_callB call_len_seq (by rfl) ml PySem.boot_len (pa_cons (pv 3) pa_nil)) (pa_cons pe_non (pa_cons pe_str (pa_cons pe_bl (pa_cons pe_bl (pa_cons (pe_tup (pa_cons pe_int pa_nil)) (pa_cons (pe_lst (pa_cons pe_int pa_nil)) (pa_cons (pe_op op_pow pe_int pe_int) (pa_cons pe_dnewK pa_nil))))))))))))) ?_
    refine blk_cons (ps_set (i := 11) sc__law_request_right.nd rfl (.inr rfl) (pe_call GP hr (by rfl) gP FP.kp bP .nil pass0 (pa_cons (pv 0) (pa_cons (pv 10) pa_nil)))) ?_
    refine blk_cons (ps_ret (pe_cmpR (op_eqD hr.units) (pe_hd (k := k) FH bH (by rfl) gH TH mI LT rfl hr2 (LamX.lamS_by (sc := defScope s__law_request_right) (by decide +kernel)) (fun A out s H E f c' hr' => pe_call (E := E) GW hr' (by rfl) gW FW.kp bW .nil passX (pa_cons (pv 1) (pa_cons (pv 3) (pa_cons (pv 4) (pa_cons (pv 11) pa_nil)))))) pe_str (nomark _))) ?_
    refine blk_nil ?_
    have hlen : (lotsT t).length = t.types.length := List.length_map _
    obtain ⟨c0, hc0⟩ : ∃ c0, t.types[a]? = some c0 := ⟨_, List.getElem?_eq_getElem ha⟩
    have hcm : c0 ∈ t.types := List.mem_of_getElem? hc0
    have elot : (lotsT t).getD a [] = c0.2 := by
      unfold lotsT
      rw [List.getD_eq_getElem?_getD, List.getElem?_map, hc0]
      rfl
    have hok : ∀ l ∈ lotsT t, LotOk xs.length l := fun l hl => by
      obtain ⟨c1, hc1, rfl⟩ := List.mem_map.mp hl
      rw [xl]
      exact ⟨ok.la c1 hc1, ok.lb c1 hc1⟩
    have lok : LotOk xs.length c0.2 := hok _ (List.mem_map.mpr ⟨c0, hcm, rfl⟩)
    have ll := asc_len lok.1 lok.2
    have x4 : ∀ v ∈ xs, 0 ≤ v ∧ v ≤ 400 := fun v m => by have := x3 v m; omega
    obtain ⟨vs, gF, hd⟩ := id hL
    have hvl := dpAll_len hd
    unfold lotsD at hvl
    rw [List.length_map, hlen] at hvl
    obtain ⟨lq, e1, hlq⟩ := lots_at hd (by rw [hlen]; exact ha)
    rw [elot] at hlq
    refine ⟨_, rfl, _, rfl, F, vs, _, _, rfl, rfl, sqL gF, atI_nat e1, lq, rfl, ⟨_, hlq⟩, fun D nD => ?_⟩
    have lso : (offL c0.2 xs).length ≤ c0.2.length := filt_len _ _
    refine lc_tup (K := K) (a := lq) (xs := c0.2.map V.int) (fun i G => Same H G ∧ G D = some (.lst (((c0.2.take i).filter (offB xs)).map V.int))) ⟨same_new nD, upd_same⟩ (fun i G _ hP => same_seqT hP.1 hlq) (fun i x G hx hP => ?_) (fun G hP => ?_)
    · obtain ⟨s1, gD⟩ := hP
      obtain ⟨kk, hkk, rfl⟩ := map_at hx
      have hi : i < c0.2.length := (List.getElem?_eq_some_iff.mp hkk).1
      have hb := lok.2 kk (List.mem_of_getElem? hkk)
      have hlt : kk.toNat < xs.length := by omega
      refine ⟨rfl, _, rfl, _, rfl, sq, _, (kk.toNat : Int), .int (xs.getD kk.toNat 0), rfl, by rw [Int.toNat_of_nonneg hb.1], same_seqT s1 hs, atI_nat (by rw [List.getElem?_map, List.getElem?_eq_getElem hlt, List.getD_eq_getElem?_getD, List.getElem?_eq_getElem hlt]; rfl), _, _, rfl, rfl, _, rfl, ?_⟩
      refine ite2 (fun h => ⟨_, rfl, _, gD, ?_, fun b o e => ?_, ?_⟩) (fun h => ⟨s1, ?_⟩)
      · rw [List.length_map]
        have := filt_len (offB xs) (c0.2.take i)
        rw [List.length_take] at this
        exact small1000 (by omega)
      · rw [upd_ne (ne_of_none e nD)]
        exact s1 _ _ e
      · rw [upd_same, filt_take hkk, if_pos (show offB xs kk = true from h), List.map_append]
        rfl
      · rw [filt_take hkk, if_neg (show ¬ offB xs kk = true from h), List.append_nil]
        exact gD
    obtain ⟨s1, gD⟩ := hP
    rw [List.length_map, List.take_length] at gD
    replace gD : G D = some (.lst ((offL c0.2 xs).map V.int)) := gD
    refine ⟨_, rfl, _, rfl, _, rfl, F, sq, lotsT t, xs, a, rfl, hL.same s1, by omega, same_seqT s1 hs, by omega, by omega, hok, fun G2 E2 s2 gE => ?_⟩
    refine ⟨E2, _, rfl, .inl ⟨sqL gE, fun dq ndq => ⟨by show 2 ≤ sizeLine; decide, fun tq ntq => ⟨tq, _, rfl, sqT upd_same, rfl, _, _, rfl, _, _, rfl, rfl, ?_⟩⟩⟩⟩
    have s3 : Same H (upd (upd G2 dq (.tup ((leastI (lotsT t) xs a).map V.int))) tq (.tup [.ref D, .ref dq])) := (s1.trans s2).trans ((same_new ndq).trans (same_new ntq))
    have gD3 : (upd (upd G2 dq (.tup ((leastI (lotsT t) xs a).map V.int))) tq (.tup [.ref D, .ref dq])) D = some (.lst ((offL c0.2 xs).map V.int)) := ((same_new ndq).trans (same_new ntq)) _ _ (s2 _ _ gD)
    have hdq := same_seqT (K := K) (same_new (o := .tup [V.ref D, V.ref dq]) ntq) (sqT upd_same)
    have nDh : D ≠ h := (ne_of_none hv.top nD).symm
    have nDl : D ≠ l := (ne_of_none hv.bot nD).symm
    generalize upd (upd G2 dq (.tup ((leastI (lotsT t) xs a).map V.int))) tq (.tup [.ref D, .ref dq]) = G3 at s3 gD3 hdq ⊢
    dsimp only [gName]
    have edue : leastL t (offL c0.2 xs) = leastI (lotsT t) xs a := least_eq t a c0 hc0 xs
    generalize hdue : leastI (lotsT t) xs a = due at hdq edue
    have hdin : ∀ z ∈ due, z ∈ c0.2 := fun z m => by
      rw [← hdue] at m
      have := (List.mem_filter.mp (List.mem_filter.mp m).1).1
      rw [elot] at this
      exact this
    have hdl : due.length ≤ 8 := by
      rw [← hdue]
      have h1 := filt_len (goodI (lotsT t) (offL ((lotsT t).getD a []) xs)) (offL ((lotsT t).getD a []) xs)
      have h2 := filt_len (offB xs) ((lotsT t).getD a [])
      rw [elot] at h1 h2
      unfold leastI
      rw [elot]
      unfold offL at *
      omega
    have fd : Fd (.tuple (due.map .int)) := ints_fd (fun x m => by have := lok.2 x (hdin x m); omega) (by omega)
    have nd : noList (.tuple (due.map .int)) = true := by rw [noList]; exact noList_intsD _
    have dd : ∀ {G}, Same G3 G → Dp K G (.ref dq) (.tuple (due.map .int)) := fun s => .tup (same_seqT s hdq) (dpAll_ints _)
    -- least_kinds
    refine re_ne_no nd fd (fun Q q' => ⟨_, rfl, _, rfl, _, rfl, p, dx, pk, pt, sq, t, xs, a, c0, rfl, d.same s3, ok, hc0, same_seqT s3 hs, xl, fun G r s h => q' _ _ s (.tup (by rw [edue] at h; exact h) (dpAll_ints _))⟩) (fun G s => gv_var rfl (dd s))
      (fun G s Q q' => ⟨_, rfl, _, rfl, _, rfl, rfl, p, dx, pk, pt, sq, t, xs, a, c0, rfl, d.same (s3.trans s), ok, hc0, same_seqT (s3.trans s) hs, xl, fun G r s h => q' _ _ s (.tup (by rw [edue] at h; exact h) (dpAll_ints _))⟩) (fun G s => gv_var rfl (dd s)) fun G4 s4 => iteF ?_
    have s34 : Same H G4 := s3.trans s4
    generalize hoff : offL c0.2 xs = off at *
    have hoffm : ∀ z ∈ off, z ∈ c0.2 ∧ 0 < xs.getD z.toNat 0 := fun z m => by
      rw [← hoff] at m
      exact ⟨(List.mem_filter.mp m).1, of_decide_eq_true (List.mem_filter.mp m).2⟩
    have ol : off.length ≤ 4 := by omega
    -- forest
    dsimp only [tNext]
    refine seq_out (t := tIfS _ _ _) (fun σ' G' => σ' = [some (.ref h), some (.ref p), some (.ref F), some (.ref sq), some (.int (a : Int)), some (.bl fo), none, some (.ref D), some (.ref dq), none, none, none] ∧ Same G3 G') (fun N hN => ?_) (fun σ' G5 hR => ?_)
    · refine ⟨_, rfl, _, rfl, ?_⟩
      cases fo with
      | false => exact iteF (hN _ _ ⟨rfl, s4⟩)
      | true =>
        refine iteT ⟨_, rfl, Nat.zero_le _, fun p8 n8 => ?_⟩
        have s8 := s4.trans (same_new (o := .lst []) n8)
        refine ⟨_, _, .lst (sqL (s8 _ _ gD3)) (dpAll_ints off), .lst (sqL upd_same) .nil, ?_, rfl, _, rfl, ?_⟩
        · refine fine_shaped (by
            rw [fine]
            exact fineAll_mem fun d hd => by
              obtain ⟨x, m, rfl⟩ := List.mem_map.mp hd
              have := lok.2 x (hoffm x m).1
              exact decide_eq_true (by omega)) (by
            rw [PyData.depth]
            have e : PyData.depthAll (off.map .int) ≤ 1 := depthAll_mem fun d hd => by
              obtain ⟨x, _, rfl⟩ := List.mem_map.mp hd
              simp [PyData.depth]
            omega)
        · rw [eqv_nilD]
          refine ite2 (fun e => ?_) (fun _ => hN _ _ ⟨rfl, s8⟩)
          refine ⟨_, rfl, Nat.zero_le _, fun p9 n9 => ?_⟩
          have s9 := s8.trans (same_new (o := .tup []) n9)
          refine ⟨_, _, dd s9, .tup (sqT upd_same) .nil, fine_shaped fd.f fd.dp, rfl, _, rfl, ?_⟩
          rw [eqv_nilT]
          have hne : due ≠ [] := by
            rw [← hdue]
            refine forest_due (hfo rfl) (by omega) ?_
            rw [elot, hoff]
            intro z
            rw [z] at e
            cases e
          have : (due.map PyData.int).isEmpty = false := by
            cases due with
            | nil => exact absurd rfl hne
            | cons _ _ => rfl
          rw [this]
          exact iteF (hN _ _ ⟨rfl, s9⟩)
    obtain ⟨rfl, s5⟩ := hR
    have s35 := s3.trans s5
    have hv5 := hv.same s35
    have gD5 := s5 _ _ gD3
    have hdq5 := same_seqT s5 hdq
    have d5 := d.same s35
    have hs5 := same_seqT s35 hs
    have hL5 := hL.same s35
    refine seq_out (t := tFor _ _ _) (fun σ' G' => ∃ (y6 y9 : Option V) (L' : List Int) (st' : Int), σ' = [some (.ref h), some (.ref p), some (.ref F), some (.ref sq), some (.int (a : Int)), some (.bl fo), y6, some (.ref D), some (.ref dq), y9, none, none] ∧ But h l G5 G' ∧ Hv G' h l L' st') (fun N hN => ?_) (fun σ' G6 hR => ?_)
    · refine ⟨_, rfl, D, rfl, ⟨_, sqL gD5⟩, for_list (xs := off.map V.int) (fun i σ G => ∃ (y6 y9 : Option V) (L' : List Int) (st' : Int), σ = [some (.ref h), some (.ref p), some (.ref F), some (.ref sq), some (.int (a : Int)), some (.bl fo), y6, some (.ref D), some (.ref dq), y9, none, none] ∧ But h l G5 G ∧ Hv G h l L' st') ⟨_, _, L, st, rfl, .refl _ _ _, hv5⟩ (fun i σ G _ hP => ?_) (fun i x σ G hx hP => ?_) (fun σ G hP => ?_)⟩
      · obtain ⟨_, _, _, _, _, b6, _⟩ := hP
        exact sqL (b6 _ _ nDh nDl gD5)
      · obtain ⟨y6, y9, L6, st6, rfl, b6, hv6⟩ := hP
        obtain ⟨kk, hkk, rfl⟩ := map_at hx
        have hkm := List.mem_of_getElem? hkk
        have hkb := lok.2 kk (hoffm kk hkm).1
        obtain ⟨kn, rfl⟩ := Int.eq_ofNat_of_zero_le hkb.1
        have k6 := KeepT.but hv5 b6
        have d6 := d5.keep (.but hv5 b6)
        have hs6 := k6.seqT hs5
        have hdq6 := k6.seqT hdq5
        have gD6 := b6 _ _ nDh nDl gD5
        have hL6 := hL5.but hv5 b6 nFh nFl
        have hdk : ((kn : Int) ∈ due) ↔ lackO t kn off = none := by
          rw [← hdue]
          unfold leastI
          rw [elot, hoff, List.mem_filter, ← good_lack, Option.isNone_iff_eq_none]
          exact ⟨fun z => z.2, fun z => ⟨hkm, z⟩⟩
        dsimp only [gName]
        have vb : ∀ b : Bool, SeqAt.shaped (.bool b) = true := fun b => by cases b <;> decide +kernel
        refine ⟨_, rfl, _, rfl, _, rfl, _, rfl, p, dx, pk, pt, sq, t, xs, a, c0, .int (kn : Int), rfl, d6, ok, hc0, hs6, xl, x4, .inl ⟨(kn : Int), rfl, fun z => absurd (by rw [hoff]; exact hkm) z, fun _ eN G7 s7 => ?_, fun _ b cb eS hcb G7 r7 s7 h7 => ?_⟩⟩
        · rw [hoff] at eN
          have hin : (kn : Int) ∈ due := hdk.mpr eN
          dsimp only
          -- None
          refine ⟨_, rfl, _, rfl, _, rfl, _, rfl, rfl, p, dx, pk, pt, sq, t, xs, a, c0, .int (kn : Int), rfl, d6.same s7, ok, hc0, same_seqT s7 hs6, xl, x4, .inl ⟨(kn : Int), rfl, fun z => absurd (by rw [hoff]; exact hkm) z, fun _ _ G8 s8 => ?_, fun _ b cb eS => by rw [hoff, eN] at eS; cases eS⟩⟩
          have s78 := s7.trans s8
          refine ⟨_, rfl, .none, .none, .non, .non, by decide +kernel, by decide +kernel, _, rfl, ?_⟩
          rw [show PyData.eqv .none .none = true from rfl]
          refine iteF ⟨_, rfl, rfl, _, rfl, _, rfl, dq, _, rfl, .inr (same_seqT s78 hdq6), rfl, flat_ints _, ?_⟩
          rw [inV_ints, decide_eq_true hin]
          refine ⟨.bool true, .bool true, .bl true, .bl true, vb _, vb _, _, rfl, ?_⟩
          rw [show PyData.eqv (.bool true) (.bool true) = true from by decide +kernel]
          refine iteF ?_
          dsimp only [tNext]
          refine ⟨_, rfl, rfl, _, rfl, iteT ?_⟩
          have hv8 := hv6.same s78
          refine ⟨_, rfl, _, rfl, _, rfl, _, rfl, _, rfl, h, l, F, sq, D, L6, st6, lotsT t, xs, off, kn, rfl, hv8, hL6.same s78, nFh, nFl, by omega, by omega, same_seqT s78 hs6, by omega, s78 _ _ gD6, nDh, nDl, by omega, fun o ho => ?_, by omega, ?_, fun G9 L9 st9 b9 hv9 => ?_⟩
          · have := lok.2 o (hoffm o ho).1
            exact this
          · rw [← good_lack, eN]
            rfl
          · refine ⟨_, rfl, iteF ?_⟩
            dsimp only [tNext]
            refine ⟨_, rfl, rfl, _, rfl, iteF ?_⟩
            exact ⟨_, _, L9, st9, rfl, (b6.same s78).trans b9, hv9⟩
        · rw [hoff] at eS
          have hnin : ¬ (kn : Int) ∈ due := fun z => by rw [hdk.mp z] at eS; cases eS
          dsimp only
          obtain ⟨b', cb', eb', hcb', hkb', o, ho, hno⟩ := lackO_some eS
          obtain rfl : b' = b := by omega
          obtain rfl : cb' = cb := Option.some.inj (hcb'.symm.trans hcb)
          have hbl : b' < t.types.length := (List.getElem?_eq_some_iff.mp hcb).1
          have elb : (lotsT t).getD b' [] = cb'.2 := by
            unfold lotsT
            rw [List.getD_eq_getElem?_getD, List.getElem?_map, hcb]
            rfl
          have ob := lok.2 o (hoffm o ho).1
          have W : Wrong (lotsT t) xs a kn b' := ⟨by omega, by omega, hok, x4, by rw [elot]; exact (hoffm _ hkm).1, by rw [elb]; exact hkb', by have := (hoffm _ hkm).2; rw [Int.toNat_natCast] at this; exact this, o.toNat, by rw [elot, Int.toNat_of_nonneg ob.1]; exact (hoffm o ho).1, (hoffm o ho).2, by rw [elb, Int.toNat_of_nonneg ob.1]; exact hno⟩
          have lokb := hok _ (lot_mem (lots := lotsT t) (a := b') (by omega))
          rw [elb] at lokb
          have llb := asc_len lokb.1 lokb.2
          have ub := unitsI_bd x3 (by decide) cb'.2
          have hU : unitsI xs cb'.2 ≤ 12 := by omega
          have hUn : (unitsI xs cb'.2).toNat ≤ 12 := by omega
          generalize hUd : (unitsI xs cb'.2).toNat = U at h7 hUn
          have erep : List.replicate U (V.int (b' : Int)) = (List.replicate U (b' : Int)).map V.int := by rw [List.map_replicate]
          rw [erep] at h7
          have fdr : Fd (.tuple ((List.replicate U (b' : Int)).map .int)) := ints_fd (fun x m => by rw [List.eq_of_mem_replicate m]; omega) (by rw [List.length_replicate]; omega)
          refine ⟨_, rfl, _, rfl, _, rfl, _, rfl, rfl, p, dx, pk, pt, sq, t, xs, a, c0, .int (kn : Int), rfl, d6.same s7, ok, hc0, same_seqT s7 hs6, xl, x4, .inl ⟨(kn : Int), rfl, fun z => absurd (by rw [hoff]; exact hkm) z, fun _ eN => (by rw [hoff, eS] at eN; cases eN), fun _ b2 cb2 eS2 hcb2 G8 r8 s8 h8 => ?_⟩⟩
          rw [hoff, eS] at eS2
          obtain rfl : b' = b2 := by have := Option.some.inj eS2; omega
          obtain rfl : cb' = cb2 := Option.some.inj (hcb.symm.trans hcb2)
          rw [hUd, erep] at h8
          have s78 := s7.trans s8
          refine ⟨_, rfl, _, _, dp_tup h8, dp_tup (same_seqT s8 h7), fine_shaped fdr.f fdr.dp, fine_shaped fdr.f fdr.dp, _, rfl, ?_⟩
          rw [fine_eqv fdr.f]
          refine iteF ⟨_, rfl, rfl, _, rfl, _, rfl, dq, _, rfl, .inr (same_seqT s78 hdq6), rfl, flat_ints _, ?_⟩
          rw [inV_ints, decide_eq_false hnin]
          refine ⟨.bool false, .bool false, .bl false, .bl false, vb _, vb _, _, rfl, ?_⟩
          rw [show PyData.eqv (.bool false) (.bool false) = true from by decide +kernel]
          refine iteF ?_
          dsimp only [tNext]
          refine ⟨_, rfl, rfl, _, rfl, iteF ?_⟩
          dsimp only [tNext]
          obtain ⟨vs8, gF8, hd8⟩ := hL6.same s78
          have hvl8 := dpAll_len hd8
          unfold lotsD at hvl8
          rw [List.length_map, hlen] at hvl8
          refine ⟨_, rfl, rfl, _, rfl, iteT ?_⟩
          refine ⟨_, rfl, _, rfl, F, r7, vs8, _, rfl, gF8, same_seqT s8 h7, by rw [List.length_replicate]; omega, fun n m => by rw [List.eq_of_mem_replicate m]; omega, fun G9 s9 => ⟨_, rfl, iteF ?_⟩⟩
          have s79 := s78.trans s9
          refine ⟨_, rfl, _, rfl, _, rfl, _, rfl, _, rfl, F, sq, r7, lotsT t, xs, a, kn, b', rfl, hL6.same s79, by omega, same_seqT s79 hs6, by omega, W, ?_, by rw [elb]; omega, ?_, fun G10 s10 => ⟨_, rfl, iteF ?_⟩⟩
          · rw [elb, hUd]
            exact same_seqT (s8.trans s9) h7
          · rw [elb, hUd]
            have p1 : cb'.2.length ^ U ≤ 4 ^ U := Nat.pow_le_pow_left (by omega) U
            have p2 : 4 ^ U ≤ 4 ^ 12 := Nat.pow_le_pow_right (by decide) hUn
            have p3 : (4 : Nat) ^ 12 = 16777216 := by decide
            omega
          · have s710 := s79.trans s10
            exact ⟨_, _, L6, st6, rfl, b6.same s710, hv6.same s710⟩
      · obtain ⟨y6, y9, L6, st6, rfl, b6, hv6⟩ := hP
        exact hN _ _ ⟨_, _, L6, st6, rfl, b6, hv6⟩
    obtain ⟨y6, y9, L6, st6, rfl, b6, hv6⟩ := hR
    have k6 := KeepT.but hv5 b6
    have hs6 := k6.seqT hs5
    have gD6 := b6 _ _ nDh nDl gD5
    have lxs : (xs.map V.int).length = xs.length := List.length_map _
    refine ⟨_, rfl, sq, _, rfl, .inr hs6, _, rfl, by omega, by omega, fun O nO => ?_⟩
    have nDO : D ≠ O := ne_of_none gD6 nO
    refine lc_range (lo := 0) (n := (((xs.map V.int).length : Int)).toNat) (fun j J => Same G6 J ∧ ∃ os : List Int, J O = some (.lst (os.map V.int)) ∧ os.length ≤ j ∧ ∀ z ∈ os, z ∉ off) ⟨same_new nO, [], upd_same, Nat.le_refl _, fun _ h => absurd h List.not_mem_nil⟩ (fun j J hj hQ => ?_) (fun J hQ => ?_)
    · obtain ⟨sJ, os, gO, ole, oo⟩ := hQ
      refine ⟨rfl, _, rfl, _, rfl, D, _, rfl, .inl (sqL (sJ _ _ gD6)), rfl, flat_ints _, _, rfl, ?_⟩
      rw [inV_ints]
      by_cases hin : (0 + (j : Int)) ∈ off
      · rw [decide_eq_true hin]
        exact iteF ⟨sJ, os, gO, by omega, oo⟩
      · rw [decide_eq_false hin]
        refine iteT ⟨_, rfl, _, gO, by rw [List.length_map]; exact small1000 (by omega), fun b o e => (upd_ne (ne_of_none e nO)).trans (sJ _ _ e), os ++ [0 + (j : Int)], by rw [upd_same, List.map_append]; rfl, by rw [List.length_append]; show _ + 1 ≤ _; omega, fun z m => ?_⟩
        rcases List.mem_append.mp m with m | m
        · exact oo z m
        · rw [List.mem_singleton.mp m]
          exact hin
    obtain ⟨sJ, os, gO, ole, oo⟩ := hQ
    have hvJ := hv6.same sJ
    have hsJ := same_seqT sJ hs6
    have n1 : ∀ {G r}, Same J G → G r = none → ∀ a ∈ [h, l], V.ref r ≠ .ref a := fun {G r} s nr a m e => by
      obtain ⟨ys, z⟩ := (lsts_hv hvJ) a m
      have := s _ _ z
      cases e
      rw [nr] at this
      cases this
    have lst : ∀ {G}, Same J G → Lsts [h, l] G := fun {G} s a m => let ⟨ys, z⟩ := (lsts_hv hvJ) a m; ⟨ys, s _ _ z⟩
    have ni : ∀ {G i}, Same J G → i ∉ off → Lsts [h, l] G ∧ OddN K off [h, l] G (.int i) := fun s n => ⟨lst s, .inl ⟨_, rfl, n⟩⟩
    have nb : ∀ {G b}, Same J G → Lsts [h, l] G ∧ OddN K off [h, l] G (.bl b) := fun s => ⟨lst s, .inr ⟨.inl ⟨_, rfl⟩, (fun i z => by cases z), fun a m z => by cases z⟩⟩
    have nn : ∀ {G x m}, Same J G → TyN K G x m → kitB m "int" = some false → (∀ i, x ≠ .int i) → (∀ a ∈ [h, l], x ≠ .ref a) → Lsts [h, l] G ∧ OddN K off [h, l] G x := fun s t k ni n => ⟨lst s, .inr ⟨.inr ⟨_, t, k⟩, ni, n⟩⟩
    have offr : ∀ z ∈ off, 0 ≤ z ∧ z < (xs.length : Int) := fun z m => lok.2 z (hoffm z m).1
    refine gp_lst (n := 10) (R := fun G v => Lsts [h, l] G ∧ OddN K off [h, l] G v) (by decide) ?_ stb_oddN fun pp vs2 G7 s7 gpl npl lv2 hall2 => ?_
    · refine gpA_cons stb_oddN (fun Q q' => ⟨_, _, rfl, rfl, q' _ _ (Same.refl _) (ni (Same.refl _) fun z => by have := offr _ z; omega)⟩) fun G1 s1 => ?_
      refine gpA_cons stb_oddN (fun Q q' => ⟨_, rfl, sq, _, rfl, .inr (same_seqT s1 hsJ), q' _ _ (Same.refl _) (ni s1 fun z => by have := offr _ z; omega)⟩) fun G2 s2 => ?_
      have s2 := s1.trans s2
      refine gpA_cons stb_oddN (gp_c (nn s2 .non (by decide +kernel) (fun i z => by cases z) fun a m => by intro z; cases z)) fun G3 s3 => ?_
      have s3 := s2.trans s3
      refine gpA_cons stb_oddN (gp_c (nn s3 (.str _) (by decide +kernel) (fun i z => by cases z) fun a m => by intro z; cases z)) fun G4 s4 => ?_
      have s4 := s3.trans s4
      refine gpA_cons stb_oddN (gp_c (nb s4)) fun G5 s5 => ?_
      have s5 := s4.trans s5
      refine gpA_cons stb_oddN (gp_c (nb s5)) fun G6 s6 => ?_
      have s6 := s5.trans s6
      refine gpA_cons stb_oddN (fun Q q' => ⟨by show 1 ≤ sizeLine; decide, fun r n => q' _ _ (same_new n) (nn (s6.trans (same_new n)) (tyT (sqT upd_same)) (by decide +kernel) (fun i z => by cases z) (n1 s6 n))⟩) fun G7 s7 => ?_
      have s7 := s6.trans s7
      refine gpA_cons stb_oddN (fun Q q' => ⟨by show 1 ≤ sizeLine; decide, fun r n => q' _ _ (same_new n) (nn (s7.trans (same_new n)) (.base (.lst upd_same)) (by decide +kernel) (fun i z => by cases z) (n1 s7 n))⟩) fun G8 s8 => ?_
      have s8 := s7.trans s8
      refine gpA_cons stb_oddN (fun Q q' => ⟨_, _, rfl, rfl, ⟨by decide, by decide, by decide⟩, q' _ _ (Same.refl _) (ni s8 fun z => by have := (offr _ z).2; have e : ((10 : Int) ^ (9 : Int).toNat) = 1000000000 := by decide
                                                                                                                                        omega)⟩) fun G9 s9 => ?_
      have s9 := s8.trans s9
      exact gpA_cons stb_oddN (fun Q q' => fun r n => q' _ _ (same_new n) (nn (s9.trans (same_new n)) (.base (.dK upd_same)) (by decide +kernel) (fun i z => by cases z) (n1 s9 n))) fun G10 s10 => gpA_nil
    · have gO7 := s7 _ _ gO
      have hcl : (os.map V.int).length + vs2.length ≤ sizeLine := by
        rw [List.length_map, lv2]
        have : (1000 : Nat) ≤ sizeLine := by decide
        omega
      refine ⟨O, pp, _, _, rfl, rfl, gO7, gpl, hcl, fun rr nrr => ?_⟩
      have s8 := same_new (o := .lst (os.map V.int ++ vs2)) nrr
      have s78 := s7.trans s8
      have g8 := upd_same (H := G7) (a := rr) (o := .lst (os.map V.int ++ vs2))
      have hall8 : ∀ v ∈ os.map V.int ++ vs2, OddN K off [h, l] (upd G7 rr (.lst (os.map V.int ++ vs2))) v := fun v m => by
        rcases List.mem_append.mp m with m | m
        · obtain ⟨z, hz, rfl⟩ := List.mem_map.mp m
          exact .inl ⟨z, rfl, oo z hz⟩
        · exact (hall2 v m).2.fr (.same s8)
      have nrh : rr ≠ h := (ne_of_none (s7 _ _ hvJ.top) nrr).symm
      have nrl : rr ≠ l := (ne_of_none (s7 _ _ hvJ.bot) nrr).symm
      generalize upd G7 rr (.lst (os.map V.int ++ vs2)) = G8 at s8 s78 g8 hall8 ⊢
      have hv8 := hvJ.same s78
      dsimp only [gName]
      refine ⟨_, rfl, _, rfl, h, l, L6, st6, rr, _, rfl, hv8, sqL g8, nrh, nrl, by rw [List.length_append, lv2]; omega, by rw [List.length_append, lv2, List.length_map]; omega, fun G9 L9 st9 i9 x9 b9 hv9 hx9 => ?_⟩
      have hx9' : OddN K off [h, l] G9 x9 := (hall8 x9 (List.mem_of_getElem? hx9)).fr (.but b9)
      have o9 : On T h l H G9 := (((On.refl hv tb).same s35).but b6 hv6).same (sJ.trans s78) |>.but b9 hv9
      dsimp only [gName]
      refine ⟨o9.tb, fun H1 e1 t1 => ⟨_, rfl, _, rfl, _, rfl, _, rfl, ?_⟩⟩
      have o1 := o9.ext e1 t1
      have hs1 := o1.seqT hv hs
      have d1 := TblAt.fr o1.fr (lsts_hv hv) d
      refine ⟨p, dx, pk, pt, sq, t, xs, a, c0, x9, rfl, d1, ok, hc0, hs1, xl, x4, ?_⟩
      have fin : ∀ (G : Hp) (dd : Addr), H1 dd = none → Same H1 G → G dd = some (xdS "kind") → On T h l H G := fun G dd _ s _ => o1.same s
      rcases hx9'.fr (Fr.ext e1) with ⟨i, rfl, hi⟩ | ⟨hN, hni, _⟩
      · refine .inl ⟨i, rfl, fun _ dd G nd s3 gd => ⟨dd, rfl, "kind", gd, rfl, ?_⟩, fun z => absurd (by rw [hoff] at z; exact z) hi, fun z => absurd (by rw [hoff] at z; exact z) hi⟩
        refine ⟨.str "kind", .str "kind", .str _, .str _, by decide +kernel, by decide +kernel, ?_⟩
        rw [show PyData.eqv (.str "kind") (.str "kind") = true from by decide +kernel]
        exact q _ (o1.same s3)
      · refine .inr ⟨?_, hni, fun dd G nd s3 gd => ⟨dd, rfl, "kind", gd, rfl, ?_⟩⟩
        · rcases hN with ⟨y, rfl⟩ | ⟨n, tn, kn⟩
          · exact .inr (.inl ⟨y, rfl, rfl⟩)
          · exact .inr (.inr ⟨n, tn, kn, rfl⟩)
        · refine ⟨.str "kind", .str "kind", .str _, .str _, by decide +kernel, by decide +kernel, ?_⟩
          rw [show PyData.eqv (.str "kind") (.str "kind") = true from by decide +kernel]
          exact q _ (o1.same s3)
end
end K20
namespace K20
open PySem PySem.Spec PyProof.Rows L2 Gd
/-- Table(..) of what is right -/
theorem mk_gv {K : PySem.W.Frag} {C : Addr} {σ : L2.St} {H : Hp} {ta : TA} {t : TD} {Q : VK} (hg : GvA K σ H ta [kindsD t, typesD t]) (ok : TOk t) (q : ∀ G p dx pk pt, Same H G → TblAt K C G p dx pk pt t → Q (.ref p) G) : tMake C (spTInit K C) [] E0 ta σ H Q := by
  refine hg _ fun vs G s dvs => ?_
  cases dvs with
  | cons dk r =>
  cases r with
  | cons dt r =>
  cases r
  obtain ⟨pk, _, rfl, _, _⟩ := tup_inv dk
  obtain ⟨pt, _, rfl, _, _⟩ := tup_inv dt
  intro p dx np ndx nex
  have s5 : Same G (upd (upd G dx (.own p)) p (.ins C dx [])) := (same_new ndx).trans (same_new ((upd_ne (Ne.symm nex)).trans np))
  refine ⟨p, dx, pk, pt, t, rfl, upd_same, dp_same s5 _ _ dk, dp_same s5 _ _ dt, ok, fun G6 keep tb6 => ⟨rfl, q G6 p dx pk pt (fun b o e => ?_) tb6⟩⟩
  exact keep b o (ne_of_none (s _ _ e) np) (s5 _ _ (s _ _ e))
def tdT : TD := ⟨[Str.ofString "lane", Str.ofString "park", Str.ofString "road"], [(Str.ofString "bike", [0, 2]), (Str.ofString "cart", [2]), (Str.ofString "skate", [0, 1, 2])]⟩
theorem tdT_ok : TOk tdT := okB_of (by decide +kernel)
def tdX : TD := ⟨[Str.ofString "a", Str.ofString "b"], [(Str.ofString "both", [0, 1]), (Str.ofString "left", [0]), (Str.ofString "right", [1])]⟩
theorem tdX_ok : TOk tdX := okB_of (by decide +kernel)
/-- least_kinds of a written table -/
theorem gv_least {K : PySem.W.Frag} {C : Addr} {σ : L2.St} {H : Hp} {i a : Nat} {p dx pk pt : Addr} {t : TD} {xs : List Int} {c : Str × List Int} {ds : List Int} {tt : TE} (hσ : σ[i]? = some (some (.ref p))) (d : TblAt K C H p dx pk pt t) (ok : TOk t) (hc : t.types[a]? = some c) (xl : xs.length = t.kinds.length)
    (hx : Gv K σ H tt (.tuple (xs.map .int))) (e : leastL t (offL c.2 xs) = ds) : Gv K σ H (tCall (spLeast K C) [] E0 (tCons (tVar i) (tCons tt (tCons (tC (.int (a : Int))) tNil)))) (.tuple (ds.map .int)) := fun Q q =>
  ⟨_, hσ, hx _ fun v G s dv => by
    obtain ⟨sq, rfl, hs⟩ := tints_inv dv
    exact ⟨p, dx, pk, pt, sq, t, xs, a, c, rfl, d.same s, ok, hc, hs, xl, fun G2 r s2 h => q _ _ (s.trans s2) (.tup (by rw [e] at h; exact h) (dpAll_ints _))⟩⟩
theorem not_go {t : TT} {σ : L2.St} {H : Hp} {Q : Bool → Hp → Prop} (h : t σ H fun b H1 => Q (!b) H1) : tNot t σ H Q := h
theorem b_go {te : TE} {σ : L2.St} {H : Hp} {Q : Bool → Hp → Prop} (h : te σ H fun x H1 => ∃ k, x = .bl k ∧ Q k H1) : tB te σ H Q := h
theorem call_go {sp : Sp} {dvs : List V} {E : XK} {ta : TA} {σ : L2.St} {H : Hp} {Q : VK} (h : ta σ H fun vs H1 => sp (vs ++ dvs) H1 Q E) : tCall sp dvs E ta σ H Q := h
theorem lots_go {K : PySem.W.Frag} {σ : L2.St} {H : Hp} {ta : TA} {ls : List (List Int)} {Q : VK} (h : GvA K σ H ta (lotsD ls)) (hl : ls.length ≤ 1000) (q : ∀ F G, Same H G → LotsAt K G F ls → Q (.ref F) G) : tLst ta σ H Q := h _ fun vs G s d => ⟨by
  have e := dpAll_len d
  unfold lotsD at e
  rw [List.length_map] at e
  have : (1000 : Nat) ≤ sizeLine := by decide
  omega, fun p n => q _ _ (s.trans (same_new n)) ⟨vs, upd_same, dpAll_same (same_new n) _ _ d⟩⟩
def lotsX : List (List Int) := [[0, 1], [0], [1]]
theorem wrongX : Wrong lotsX [90, 60] 0 1 2 := ⟨by decide, by decide, fun l hl => by
    simp only [lotsX, List.mem_cons, List.not_mem_nil, or_false] at hl
    rcases hl with rfl | rfl | rfl
    · exact ⟨by decide, by decide⟩
    · exact ⟨by decide, by decide⟩
    · exact ⟨by decide, by decide⟩, by decide, by decide, by decide, by decide, ⟨0, by decide, by decide, by decide⟩⟩
theorem wr_some {K : PySem.W.Frag} {C CF p dx pk pt sq : Addr} {H : Hp} {t : TD} {xs : List Int} {a b : Nat} {c cb : Str × List Int} {k : Int} {Q : VK} {E : XK} (d : TblAt K C H p dx pk pt t) (ok : TOk t) (hc : t.types[a]? = some c) (hs : SqT K H sq (xs.map V.int)) (xl : xs.length = t.kinds.length) (x4 : ∀ v ∈ xs, 0 ≤ v ∧ v ≤ 400)
    (hin : k ∈ offL c.2 xs) (e : lackO t k (offL c.2 xs) = some (b : Int)) (hcb : t.types[b]? = some cb) (q : ∀ G r, Same H G → SqT K G r ((List.replicate (unitsI xs cb.2).toNat (b : Int)).map V.int) → Q (.ref r) G) : spWR K C CF [.ref p, .ref sq, .int (a : Int), .int k] H Q E :=
  ⟨p, dx, pk, pt, sq, t, xs, a, c, .int k, rfl, d, ok, hc, hs, xl, x4, .inl ⟨k, rfl, fun z => absurd hin z, fun _ e2 => (by rw [e] at e2; cases e2), fun _ b2 cb2 e2 hcb2 G r s h => by
    rw [e] at e2
    obtain rfl : b = b2 := by have := Option.some.inj e2; omega
    obtain rfl : cb = cb2 := Option.some.inj (hcb.symm.trans hcb2)
    exact q G r s (by rw [List.map_replicate]; exact h)⟩⟩
theorem wr_none {K : PySem.W.Frag} {C CF p dx pk pt sq : Addr} {H : Hp} {t : TD} {xs : List Int} {a : Nat} {c : Str × List Int} {k : Int} {Q : VK} {E : XK} (d : TblAt K C H p dx pk pt t) (ok : TOk t) (hc : t.types[a]? = some c) (hs : SqT K H sq (xs.map V.int)) (xl : xs.length = t.kinds.length) (x4 : ∀ v ∈ xs, 0 ≤ v ∧ v ≤ 400)
    (hin : k ∈ offL c.2 xs) (e : lackO t k (offL c.2 xs) = none) (q : ∀ G, Same H G → Q .non G) : spWR K C CF [.ref p, .ref sq, .int (a : Int), .int k] H Q E :=
  ⟨p, dx, pk, pt, sq, t, xs, a, c, .int k, rfl, d, ok, hc, hs, xl, x4, .inl ⟨k, rfl, fun z => absurd hin z, fun _ _ G s => q G s, fun _ b2 cb2 e2 => by rw [e] at e2; cases e2⟩⟩
theorem LotsAt.fr {K : PySem.W.Frag} {h l F : Addr} {H G : Hp} {ls : List (List Int)} (e : Fr [h, l] H G) (L : Lsts [h, l] H) (n1 : F ≠ h) (n2 : F ≠ l) (a : LotsAt K H F ls) : LotsAt K G F ls := by
  obtain ⟨vs, g, d⟩ := a
  exact ⟨vs, e F _ (by simp [n1, n2]) g (fun _ z => nomatch z), dpAll_sq (fun a xs s => e.seqT L s) _ _ (noList_lots ls) d⟩
section
variable {P : Program} {w : World} {K : PySem.W.Frag} {mg : Str → Option Value} {base : Heap}
/-! ### the law -/
def spTable (K : PySem.W.Frag) (C : Addr) : Sp := fun vs H Q _ => ∃ (h l F : Addr) (L : List Int) (st : Int) (kk : Nat) (lots : List (List Int)), vs = [.ref h, .int (kk : Int), .ref F] ∧ Hv H h l L st ∧ LotsAt K H F lots ∧ F ≠ h ∧ F ≠ l ∧ 1 ≤ kk ∧ kk ≤ 8 ∧ 1 ≤ lots.length ∧ lots.length ≤ 12 ∧ (∀ l ∈ lots, LotOk kk l) ∧
  ∀ G L' st' p dx pk pt t, But h l H G → Hv G h l L' st' → TblAt K C G p dx pk pt t → TOk t → t.kinds.length = kk → lotsT t = lots → Q (.ref p) G
def spLaw (K : PySem.W.Frag) (T0 : List (Addr × Str)) : Sp := fun vs H Q _ => ∃ (a : Addr) (ns : List Int), vs = [.ref a] ∧ SqL K H a (ns.map V.int) ∧ ns.length ≤ 63 ∧ LamX.Tabs T0 H ∧ ∀ G, Q (.bl true) G
theorem ok_law {f fI C CF fHe fD fP fFo fLo fTb fRR fK fW fIs fRe : Addr} {fd fdI fdHe fdD fdP fdFo fdLo fdTb fdRR fdK fdW fdIs fdRe : FuncData} {k : Nat} {T0 : List (Addr × Str)} (F : Fun K "law" "law" s_law f fd) (M : Mk K C fI) (T : TTxt K mg C) (bI : Binds K fdI ["self", "kinds", "types"] []) (GI : FnOk P w K mg base CX0 k fI fdI ["self", "kinds", "types"] (spTInit K C))
    (FHe : Fun K "_law_heap" "_law_heap" s__law_heap fHe fdHe) (bHe : Binds K fdHe ["script"] []) (gHe : mg "_law_heap" = some (.ref fHe)) (GHe : FnOk P w K mg base CX0 k fHe fdHe ["script"] (spHeap K))
    (FD : Fun K "_law_draw" "_law_draw" s__law_draw fD fdD) (bD : Binds K fdD ["heap", "many"] []) (gD : mg "_law_draw" = some (.ref fD)) (GD : FnOk P w K mg base CX0 k fD fdD ["heap", "many"] (spDraw))
    (FP : Fun K "_law_pick" "_law_pick" s__law_pick fP fdP) (bP : Binds K fdP ["heap", "some"] []) (gP : mg "_law_pick" = some (.ref fP)) (GP : FnOk P w K mg base CX0 k fP fdP ["heap", "some"] (spPick K))
    (FFo : Fun K "_law_forest_lots" "_law_forest_lots" s__law_forest_lots fFo fdFo) (bFo : Binds K fdFo ["heap", "kinds", "types"] []) (gFo : mg "_law_forest_lots" = some (.ref fFo)) (GFo : FnOk P w K mg base CX0 k fFo fdFo ["heap", "kinds", "types"] (spForest K))
    (FLo : Fun K "_law_lots" "_law_lots" s__law_lots fLo fdLo) (bLo : Binds K fdLo ["heap", "kinds", "types"] []) (gLo : mg "_law_lots" = some (.ref fLo)) (GLo : FnOk P w K mg base CX0 k fLo fdLo ["heap", "kinds", "types"] (spLots K))
    (FTb : Fun K "_law_table" "_law_table" s__law_table fTb fdTb) (bTb : Binds K fdTb ["heap", "kinds", "lots"] []) (gTb : mg "_law_table" = some (.ref fTb)) (GTb : FnOk P w K mg base CX0 k fTb fdTb ["heap", "kinds", "lots"] (spTable K C))
    (FRR : Fun K "_law_request_right" "_law_request_right" s__law_request_right fRR fdRR) (bRR : Binds K fdRR ["heap", "table", "lots", "stock", "request", "forest"] []) (gRR : mg "_law_request_right" = some (.ref fRR)) (GRR : FnG P w K mg base (k + 2) fRR fdRR ["heap", "table", "lots", "stock", "request", "forest"] (spRR K T0 C))
    (FK : Fun K "least_kinds" "least_kinds" s_least_kinds fK fdK) (bK : Binds K fdK ["table", "stock", "request"] []) (gK : mg "least_kinds" = some (.ref fK)) (GK : FnOk P w K mg base CX0 k fK fdK ["table", "stock", "request"] (spLeast K C))
    (FW : Fun K "wrong_row" "wrong_row" s_wrong_row fW fdW) (bW : Binds K fdW ["table", "stock", "request", "kind"] []) (gW : mg "wrong_row" = some (.ref fW)) (GW : FnOk P w K mg base (L2.CX P w) k fW fdW ["table", "stock", "request", "kind"] (spWR K C CF))
    (FIs : Fun K "_law_is_row" "_law_is_row" s__law_is_row fIs fdIs) (bIs : Binds K fdIs ["lots", "value"] []) (gIs : mg "_law_is_row" = some (.ref fIs)) (GIs : FnOk P w K mg base CX0 k fIs fdIs ["lots", "value"] (spIsRow K))
    (FRe : Fun K "_law_all_regret" "_law_all_regret" s__law_all_regret fRe fdRe) (bRe : Binds K fdRe ["lots", "stock", "request", "kind", "row"] []) (gRe : mg "_law_all_regret" = some (.ref fRe)) (GRe : FnOk P w K mg base CX0 k fRe fdRe ["lots", "stock", "request", "kind", "row"] (spReg K))
    (ml : mg "len" = none) (mi : mg "int" = none) (mr : mg "range" = none) (mt : mg "tuple" = none) :
    FnG P w K mg base (k + 2 + 1) f fd ["script"] (spLaw K T0) := by
  refine okG F sc_law (fun vs H Q E h => ?_) (fun cdv A outer s H vs Q E hrg h => ?_)
  · obtain ⟨a, ns, rfl, _⟩ := h
    rfl
  · obtain ⟨a, ns, rfl, hs, hl, tb, q⟩ := h
    have hr2 := hrg.rm
    have hr1 : Room (k + 1) _ := hr2.mono (Nat.le_succ _)
    have hr : Room k _ := hr2.mono (Nat.le_add_right _ _)
    refine blk_cons (ps_set (i := 1) sc_law.nd rfl (.inr rfl) (pe_call (E := E0) GHe hr (by rfl) gHe FHe.kp bHe .nil pass0 (pa_cons (pv 0) pa_nil))) ?_
    refine blk_cons (ps_for PassesOwn.never rfl (pi_range1 (by rfl) mr (pa_cons (pe_op op_add pe_int (pe_op op_mul pe_int (pe_callTy call_int1 (by rfl) mi (by decide +kernel) (pa_cons (pe_cmpR op_gt (pe_callB call_len_seq (by rfl) ml PySem.boot_len (pa_cons (pv 0) pa_nil)) pe_int (nomark _)) pa_nil)))) pa_nil)) (pg_name (i := 2) sc_law.nd rfl (.inl rfl))
      (pss_cons (ps_par3 (i := 3) (j := 4) (l := 5) rfl sc_law.nd rfl rfl rfl (by decide) (by decide) (by decide) rfl rfl rfl (pa_cons (pe_op op_add pe_int (pe_call (E := E0) GD hr (by rfl) gD FD.kp bD .nil pass0 (pa_cons (pv 1) (pa_cons pe_int pa_nil)))) (pa_cons (pe_op op_add pe_int (pe_call (E := E0) GD hr (by rfl) gD FD.kp bD .nil pass0 (pa_cons (pv 1) (pa_cons pe_int pa_nil)))) (pa_cons (pe_cmpR op_eq (pe_call (E := E0) GD hr (by rfl) gD FD.kp bD .nil pass0 (pa_cons (pv 1) (pa_cons pe_int pa_nil))) pe_int (nomark _)) pa_nil))) (by rfl))
      (pss_cons (ps_set (i := 6) sc_law.nd rfl (.inl rfl) (pe_ifExp (pt_val (pv 5)) (pe_call (E := E0) GFo hr (by rfl) gFo FFo.kp bFo .nil pass0 (pa_cons (pv 1) (pa_cons (pv 3) (pa_cons (pv 4) pa_nil)))) (pe_call (E := E0) GLo hr (by rfl) gLo FLo.kp bLo .nil pass0 (pa_cons (pv 1) (pa_cons (pv 3) (pa_cons (pv 4) pa_nil))))))
      (pss_cons (ps_par (i := 7) (j := 8) rfl sc_law.nd rfl rfl (by decide) rfl rfl (pa_cons (pe_callTy call_tuple_of (by rfl) mt (by decide +kernel) (pa_cons (pe_lc (own := [("at", 12)]) (g := gName 12) (tt := tYes) rfl sc_law.nd (pi_range1 (by rfl) mr (pa_cons (pv 3) pa_nil)) (blkOk_by (own := [("at", 12)]) (N := n_law) (sc := defScope s_law) (by decide +kernel))
          (fun _ _ _ _ _ => pg_name (i := 12) sc_law.nd rfl (Or.inl rfl)) (fun _ _ _ _ _ => pts_nil) (fun _ _ _ _ _ => pe_call (E := E0) GP hr (by rfl) gP FP.kp bP .nil pass0 (pa_cons (pv 1) (pa_cons (pe_lst (pa_cons pe_int (pa_cons pe_int (pa_cons pe_int (pa_cons pe_int (pa_cons pe_int pa_nil)))))) pa_nil)))) pa_nil)) (pa_cons (pe_call (E := E0) GTb hr (by rfl) gTb FTb.kp bTb .nil pass0 (pa_cons (pv 1) (pa_cons (pv 3) (pa_cons (pv 6) pa_nil)))) pa_nil)) (by rfl))
      (pss_one (ps_for PassesOwn.never rfl (pi_range1 (by rfl) mr (pa_cons (pv 4) pa_nil)) (pg_name (i := 9) sc_law.nd rfl (.inl rfl))
        (pss_one (ps_if (pt_not (pt_val (pe_callG (E := E0) GRR hrg (by rfl) gRR FRR.kp bRR .nil (pa_cons (pv 1) (pa_cons (pv 8) (pa_cons (pv 6) (pa_cons (pv 7) (pa_cons (pv 9) (pa_cons (pv 5) pa_nil))))))))) (pss_one (ps_ret pe_bl)) pss_nil)))))))) ?_
    refine blk_cons (ps_set (i := 8) sc_law.nd rfl (.inl rfl) (pe_make (E := E0) M GI hr1 (by rfl) T.mgC bI .nil pass0 (pa_cons (pe_tup (pa_cons pe_str (pa_cons pe_str (pa_cons pe_str pa_nil)))) (pa_cons (pe_tup (pa_cons (pe_tup (pa_cons pe_str (pa_cons (pe_tup (pa_cons pe_int (pa_cons pe_int pa_nil))) pa_nil))) (pa_cons (pe_tup (pa_cons pe_str (pa_cons (pe_tup (pa_cons pe_int pa_nil)) pa_nil))) (pa_cons (pe_tup (pa_cons pe_str (pa_cons (pe_tup (pa_cons pe_int (pa_cons pe_int (pa_cons pe_int pa_nil)))) pa_nil))) pa_nil)))) pa_nil)))) ?_
    refine blk_cons (ps_if (PW.pt (pw_or (pt_cmpR (op_neD hr.units) (pe_call (E := E0) GK hr (by rfl) gK FK.kp bK .nil pass0 (pa_cons (pv 8) (pa_cons (pe_tup (pa_cons pe_int (pa_cons pe_int (pa_cons pe_int pa_nil)))) (pa_cons pe_int pa_nil)))) (pe_tup (pa_cons pe_int pa_nil)) (nomark _))
      (pw_or (pt_cmpR (op_neD hr.units) (pe_call (E := E0) GK hr (by rfl) gK FK.kp bK .nil pass0 (pa_cons (pv 8) (pa_cons (pe_tup (pa_cons pe_int (pa_cons pe_int (pa_cons pe_int pa_nil)))) (pa_cons pe_int pa_nil)))) (pe_tup (pa_cons pe_int pa_nil)) (nomark _))
      (pw_or1 (pt_cmpR (op_neD hr.units) (pe_call (E := E0) GK hr (by rfl) gK FK.kp bK .nil pass0 (pa_cons (pv 8) (pa_cons (pe_tup (pa_cons pe_int (pa_cons pe_int (pa_cons pe_int pa_nil)))) (pa_cons pe_int pa_nil)))) (pe_tup pa_nil) (nomark _)))))) (pss_one (ps_ret pe_bl)) pss_nil) ?_
    refine blk_cons (ps_set (i := 10) sc_law.nd rfl (.inl rfl) (pe_make (E := E0) M GI hr1 (by rfl) T.mgC bI .nil pass0 (pa_cons (pe_tup (pa_cons pe_str (pa_cons pe_str pa_nil))) (pa_cons (pe_tup (pa_cons (pe_tup (pa_cons pe_str (pa_cons (pe_tup (pa_cons pe_int (pa_cons pe_int pa_nil))) pa_nil))) (pa_cons (pe_tup (pa_cons pe_str (pa_cons (pe_tup (pa_cons pe_int pa_nil)) pa_nil))) (pa_cons (pe_tup (pa_cons pe_str (pa_cons (pe_tup (pa_cons pe_int pa_nil)) pa_nil))) pa_nil)))) pa_nil)))) ?_
    refine blk_cons (ps_if (PW.pt (pw_or (pt_cmpR (op_neD hr.units) (pe_call (E := E0) GK hr (by rfl) gK FK.kp bK .nil pass0 (pa_cons (pv 10) (pa_cons (pe_tup (pa_cons pe_int (pa_cons pe_int pa_nil))) (pa_cons pe_int pa_nil)))) (pe_tup pa_nil) (nomark _))
      (pw_or (pt_cmpR op_isN (pe_call (E := E0) GW hr (by rfl) gW FW.kp bW .nil passL (pa_cons (pv 10) (pa_cons (pe_tup (pa_cons pe_int (pa_cons pe_int pa_nil))) (pa_cons pe_int (pa_cons pe_int pa_nil))))) pe_non (nomark _))
      (pw_or1 (pt_cmpR op_notN (pe_call (E := E0) GW hr (by rfl) gW FW.kp bW .nil passL (pa_cons (pv 10) (pa_cons (pe_tup (pa_cons pe_int (pa_cons pe_int pa_nil))) (pa_cons pe_int (pa_cons pe_int pa_nil))))) pe_non (nomark _)))))) (pss_one (ps_ret pe_bl)) pss_nil) ?_
    refine blk_cons (ps_if (pt_cmpR op_eq (pe_call (E := E0) GD hr (by rfl) gD FD.kp bD .nil pass0 (pa_cons (pv 1) (pa_cons pe_int pa_nil))) pe_int (nomark _))
      (pss_cons (ps_set (i := 11) sc_law.nd rfl (.inl rfl) (pe_call (E := E0) GW hr (by rfl) gW FW.kp bW .nil passL (pa_cons (pv 10) (pa_cons (pe_tup (pa_cons pe_int (pa_cons pe_int pa_nil))) (pa_cons pe_int (pa_cons pe_int pa_nil))))))
      (pss_one (ps_if (PW.pt (pw_or (pt_not (pt_val (pe_call (E := E0) GIs hr (by rfl) gIs FIs.kp bIs .nil pass0 (pa_cons (pe_lst (pa_cons (pe_tup (pa_cons pe_int (pa_cons pe_int pa_nil))) (pa_cons (pe_tup (pa_cons pe_int pa_nil)) (pa_cons (pe_tup (pa_cons pe_int pa_nil)) pa_nil)))) (pa_cons (pv 11) pa_nil)))))
        (pw_or (pt_cmpR op_lt (pe_callB call_len_seq (by rfl) ml PySem.boot_len (pa_cons (pv 11) pa_nil)) pe_int (nomark _))
        (pw_or1 (pt_not (pt_val (pe_call (E := E0) GRe hr (by rfl) gRe FRe.kp bRe .nil pass0 (pa_cons (pe_lst (pa_cons (pe_tup (pa_cons pe_int (pa_cons pe_int pa_nil))) (pa_cons (pe_tup (pa_cons pe_int pa_nil)) (pa_cons (pe_tup (pa_cons pe_int pa_nil)) pa_nil)))) (pa_cons (pe_tup (pa_cons pe_int (pa_cons pe_int pa_nil))) (pa_cons pe_int (pa_cons pe_int (pa_cons (pv 11) pa_nil)))))))))))) (pss_one (ps_ret pe_bl)) pss_nil))) pss_nil) ?_
    refine blk_cons (ps_ret (pe_cmpR op_isN (pe_call (E := E0) GW hr (by rfl) gW FW.kp bW .nil passL (pa_cons (pv 10) (pa_cons (pe_tup (pa_cons pe_int (pa_cons pe_int pa_nil))) (pa_cons pe_int (pa_cons pe_int pa_nil))))) pe_non (nomark _))) ?_
    refine blk_nil ?_
    refine asg_go ⟨_, rfl, a, ns, rfl, hs, hl, fun G0 h l L st s0 _ _ hv0 => ?_⟩
    have hs0 : SqL K G0 a (ns.map V.int) := s0.seq hs
    have tb0 := tb.ext s0
    dsimp only [gName]
    refine seq_out (t := tFor _ _ _) (fun σ' G' => On T0 h l G0 G' ∧ ∃ y2 y3 y4 y5 y6 y7 y8 y9, σ' = [some (.ref a), some (.ref h), y2, y3, y4, y5, y6, y7, y8, y9, none, none, none]) (fun N hN => ?_) (fun σ' G' hR => ?_)
    · refine ⟨_, rfl, a, _, rfl, .inl hs0, _, _, rfl, rfl, .inr ⟨_, rfl, _, _, rfl, rfl, .inl ⟨by decide, by decide⟩, _, _, rfl, rfl, _, rfl, ?_, ?_, for_range (lo := 0) (fun i σ G => On T0 h l G0 G ∧ ∃ y2 y3 y4 y5 y6 y7 y8 y9, σ = [some (.ref a), some (.ref h), y2, y3, y4, y5, y6, y7, y8, y9, none, none, none]) ⟨On.refl hv0 tb0, _, _, _, _, _, _, _, _, rfl⟩ (fun i σ G hi hP => ?_) (fun σ G hP => ?_)⟩⟩
      · split <;> decide
      · split <;> decide
      · obtain ⟨o0, y2, y3, y4, y5, y6, y7, y8, y9, rfl⟩ := hP
        dsimp only [gName]
        obtain ⟨L1, st1, hv1⟩ := o0.hv
        refine ⟨_, rfl, h, l, L1, st1, 4, rfl, hv1, by decide, by decide, fun G2 L2 st2 r2 b2 hv2 r20 r21 => ⟨_, _, rfl, rfl, _, rfl, h, l, L2, st2, 5, rfl, hv2, by decide, by decide, fun G3 L3 st3 r3 b3 hv3 r30 r31 => ⟨_, _, rfl, rfl, _, rfl, h, l, L3, st3, 3, rfl, hv3, by decide, by decide, fun G4 L4 st4 r4 b4 hv4 r40 r41 => ⟨rfl, _, _, _, rfl, ?_⟩⟩⟩⟩
        have o4 := ((o0.but b2 hv2).but b3 hv3).but b4 hv4
        obtain ⟨kk, ek, kk1, kk4⟩ : ∃ kk : Nat, 1 + r2 = (kk : Int) ∧ 1 ≤ kk ∧ kk ≤ 4 := ⟨(1 + r2).toNat, by omega, by omega, by omega⟩
        obtain ⟨tt, et, tt1, tt5⟩ : ∃ tt : Nat, 1 + r3 = (tt : Int) ∧ 1 ≤ tt ∧ tt ≤ 5 := ⟨(1 + r3).toNat, by omega, by omega, by omega⟩
        dsimp only
        rw [ek, et]
        generalize hfo : decide (V.int r4 = V.int 0) = fo
        -- lots
        refine seq_out (t := tAsg _ _) (fun σ' G' => ∃ (F : Addr) (lots : List (List Int)) (L' : List Int) (st' : Int), σ' = [some (.ref a), some (.ref h), some (.int (0 + (i : Int))), some (.int (kk : Int)), some (.int (tt : Int)), some (.bl fo), some (.ref F), y7, y8, y9, none, none, none] ∧ But h l G4 G' ∧ Hv G' h l L' st' ∧ F ≠ h ∧ F ≠ l ∧ LotsAt K G' F lots ∧ lots.length = tt ∧ (∀ l ∈ lots, LotOk kk l) ∧ (fo = true → Nest kk lots)) (fun N2 hN2 => ?_) (fun σ' G5 hR => ?_)
        · refine ⟨_, rfl, _, rfl, ?_⟩
          cases fo with
          | true => exact iteT ⟨_, rfl, _, rfl, _, rfl, h, l, L4, st4, kk, tt, rfl, hv4, kk1, by omega, by omega, fun G5 L5 st5 F lots b5 hv5 n1 n2 hL ll lo ne => hN2 _ _ ⟨F, lots, L5, st5, rfl, b5, hv5, n1, n2, hL, ll, lo, fun _ => ne⟩⟩
          | false => exact iteF ⟨_, rfl, _, rfl, _, rfl, h, l, L4, st4, kk, tt, rfl, hv4, by omega, by omega, fun G5 L5 st5 F lots b5 hv5 n1 n2 hL ll lo => hN2 _ _ ⟨F, lots, L5, st5, rfl, b5, hv5, n1, n2, hL, ll, lo, fun z => by cases z⟩⟩
        obtain ⟨F, lots, L5, st5, rfl, b5, hv5, nFh, nFl, hL5, llen, lok, hnest⟩ := hR
        have o5 := o4.but b5 hv5
        -- stock
        refine ⟨_, rfl, _, rfl, by omega, by omega, fun D nD => ?_⟩
        have neh : h ≠ D := ne_of_none hv5.top nD
        have nel : l ≠ D := ne_of_none hv5.bot nD
        refine lc_range (lo := 0) (n := ((kk : Int)).toNat) (fun j J => But h l G5 J ∧ (∃ L6 st6, Hv J h l L6 st6) ∧ ∃ xs : List Int, xs.length = j ∧ (∀ v ∈ xs, 0 ≤ v ∧ v ≤ 3) ∧ J D = some (.lst (xs.map V.int))) ⟨(But.refl _ _ _).new nD, ⟨_, _, hv5.new nD⟩, [], rfl, fun _ h => absurd h List.not_mem_nil, upd_same⟩ (fun j J hj hQ => ?_) (fun J hQ => ?_)
        · obtain ⟨bj, ⟨L6, st6, hv6⟩, xs, xl, x3, gD⟩ := hQ
          refine ⟨rfl, ?_⟩
          dsimp only [tYes]
          rw [if_pos rfl]
          refine ⟨_, rfl, by show 5 ≤ sizeLine; decide, fun p5 n5 => ?_⟩
          have s5 : Same J (upd J p5 (.lst [.int 1, .int 2, .int 1, .int 0, .int 3])) := same_new n5
          refine ⟨h, l, L6, st6, p5, [.int 1, .int 2, .int 1, .int 0, .int 3], rfl, hv6.new n5, sqL upd_same, (ne_of_none hv6.top n5).symm, (ne_of_none hv6.bot n5).symm, by show 0 < 5; decide, by show 5 < 1000; decide, fun G7 L7 st7 j7 x7 b7 hv7 hx7 => ?_⟩
          obtain ⟨v, rfl, v0, v1⟩ : ∃ v : Int, x7 = .int v ∧ 0 ≤ v ∧ v ≤ 3 := by
            match j7, hx7 with
            | 0, hx7 => cases hx7; exact ⟨_, rfl, by decide, by decide⟩
            | 1, hx7 => cases hx7; exact ⟨_, rfl, by decide, by decide⟩
            | 2, hx7 => cases hx7; exact ⟨_, rfl, by decide, by decide⟩
            | 3, hx7 => cases hx7; exact ⟨_, rfl, by decide, by decide⟩
            | 4, hx7 => cases hx7; exact ⟨_, rfl, by decide, by decide⟩
            | _ + 5, hx7 => simp at hx7
          have gD7 := b7 _ _ neh.symm nel.symm (s5 _ _ gD)
          refine ⟨_, gD7, by rw [List.length_map]; exact small1000 (by omega), fun b ob e1 e2 e => ?_, ⟨L7, st7, ⟨(upd_ne neh).trans hv7.top, (upd_ne nel).trans hv7.bot, hv7.ne, hv7.lo, hv7.hi, hv7.len⟩⟩, xs ++ [v], by rw [List.length_append, xl]; rfl, fun z hz => ?_, by rw [upd_same, List.map_append]; rfl⟩
          · rw [upd_ne (ne_of_none e nD)]
            exact b7 _ _ e1 e2 (s5 _ _ (bj _ _ e1 e2 e))
          · rcases List.mem_append.mp hz with m | m
            · exact x3 z m
            · rw [List.mem_singleton.mp m]
              exact ⟨v0, v1⟩
        obtain ⟨bj, ⟨L6, st6, hv6⟩, xs, xl, x3, gD⟩ := hQ
        rw [show ((kk : Int)).toNat = kk by omega] at xl
        refine ⟨D, _, rfl, .inl ⟨sqL gD, fun sq nsq => ?_⟩⟩
        have s7 := same_new (o := .tup (xs.map V.int)) nsq
        have hsq := sqT (K := K) (upd_same (H := J) (a := sq) (o := .tup (xs.map V.int)))
        have b7 : But h l G5 (upd J sq (.tup (xs.map V.int))) := bj.same s7
        have hv7 := hv6.same s7
        generalize upd J sq (.tup (xs.map V.int)) = G7 at s7 hsq b7 hv7 ⊢
        have hL7 := hL5.but hv5 b7 nFh nFl
        have o7 := o5.but b7 hv7
        refine ⟨_, rfl, _, rfl, _, rfl, h, l, F, L6, st6, kk, lots, rfl, hv7, hL7, nFh, nFl, kk1, by omega, by omega, by omega, lok, fun G8 L8 st8 p dx pk pt t b8 hv8 d8 ok8 lk lt => ⟨_, _, rfl, ?_⟩⟩
        have o8 := o7.but b8 hv8
        have hL8 := hL7.but hv7 b8 nFh nFl
        have hsq8 := (KeepT.but hv7 b8).seqT hsq
        subst lt
        have ltt : t.types.length = tt := by rw [← llen]; exact (List.length_map _).symm
        dsimp only
        refine ⟨_, rfl, _, rfl, by omega, by omega, for_range (lo := 0) (n := ((tt : Int)).toNat) (fun r σ G => On T0 h l G8 G ∧ ∃ y9, σ = [some (.ref a), some (.ref h), some (.int (0 + (i : Int))), some (.int (kk : Int)), some (.int (tt : Int)), some (.bl fo), some (.ref F), some (.ref sq), some (.ref p), y9, none, none, none]) ⟨On.refl hv8 o8.tb, _, rfl⟩ (fun r σ G hr' hP => ?_) (fun σ G hP => ?_)⟩
        · obtain ⟨oG, y9', rfl⟩ := hP
          obtain ⟨LG, stG, hvG⟩ := oG.hv
          have er : (0 + (r : Int)) = (r : Int) := by omega
          rw [er]
          dsimp only [gName]
          refine ⟨_, rfl, _, rfl, _, rfl, _, rfl, _, rfl, _, rfl, h, l, p, dx, pk, pt, F, sq, LG, stG, t, xs, r, fo, rfl, hvG, oG.tb, TblAt.fr oG.fr (lsts_hv hv8) d8, ok8, LotsAt.fr oG.fr (lsts_hv hv8) nFh nFl hL8, nFh, nFl, by omega, by omega, oG.seqT hv8 hsq8, by omega, x3, by omega, fun e => by rw [lk]; exact hnest e, fun G9 o9 => ⟨_, rfl, iteF ?_⟩⟩
          exact ⟨oG.trans o9, _, rfl⟩
        · obtain ⟨oG, y9', rfl⟩ := hP
          exact ⟨o8.trans oG, _, _, _, _, _, _, _, _, rfl⟩
      · obtain ⟨o0, z⟩ := hP
        exact hN _ _ ⟨o0, z⟩
    obtain ⟨o, y2, y3, y4, y5, y6, y7, y8, y9, rfl⟩ := hR
    obtain ⟨L1, st1, hv1⟩ := o.hv
    refine asg_go (mk_gv (t := tdT) (gvA_cons (gv_tup (gvA_cons gv_str fun _ _ => gvA_cons gv_str fun _ _ => gvA_cons gv_str fun _ _ => gvA_nil)) fun _ _ => gvA_cons (gv_tup (gvA_cons (gv_tup (gvA_cons gv_str fun _ _ => gvA_cons (gv_tup (gvA_cons gv_int fun _ _ => gvA_cons gv_int fun _ _ => gvA_nil)) fun _ _ => gvA_nil)) fun _ _ => gvA_cons (gv_tup (gvA_cons gv_str fun _ _ => gvA_cons (gv_tup (gvA_cons gv_int fun _ _ => gvA_nil)) fun _ _ => gvA_nil)) fun _ _ => gvA_cons (gv_tup (gvA_cons gv_str fun _ _ => gvA_cons (gv_tup (gvA_cons gv_int fun _ _ => gvA_cons gv_int fun _ _ => gvA_cons gv_int fun _ _ => gvA_nil)) fun _ _ => gvA_nil)) fun _ _ => gvA_nil)) fun _ _ => gvA_nil) tdT_ok fun G1 p dx pk pt s1 d1 => ?_)
    dsimp only [gName]
    have g3 : ∀ {σ : L2.St} {H : Hp} {i j l : Int}, Gv K σ H (tTup (tCons (tC (.int i)) (tCons (tC (.int j)) (tCons (tC (.int l)) tNil)))) (.tuple (([i, j, l] : List Int).map .int)) := gv_tup (gvA_cons gv_int fun _ _ => gvA_cons gv_int fun _ _ => gvA_cons gv_int fun _ _ => gvA_nil)
    have g2 : ∀ {σ : L2.St} {H : Hp} {i j : Int}, Gv K σ H (tTup (tCons (tC (.int i)) (tCons (tC (.int j)) tNil))) (.tuple (([i, j] : List Int).map .int)) := gv_tup (gvA_cons gv_int fun _ _ => gvA_cons gv_int fun _ _ => gvA_nil)
    have g1 : ∀ {σ : L2.St} {H : Hp} {i : Int}, Gv K σ H (tTup (tCons (tC (.int i)) tNil)) (.tuple (([i] : List Int).map .int)) := gv_tup (gvA_cons gv_int fun _ _ => gvA_nil)
    refine seq_go (ifS_go (or_go (neD_no (d := .tuple (([1] : List Int).map .int)) (by decide +kernel) (by decide +kernel) (gv_least (t := tdT) (a := 2) (xs := [1, 1, 2]) rfl d1 tdT_ok rfl rfl g3 (by decide +kernel)) (fun _ _ => g1) fun G2 s2 => iteF ?_)))
    refine or_go (neD_no (d := .tuple (([0] : List Int).map .int)) (by decide +kernel) (by decide +kernel) (gv_least (t := tdT) (a := 2) (xs := [1, 0, 2]) rfl (d1.same s2) tdT_ok rfl rfl g3 (by decide +kernel)) (fun _ _ => g1) fun G3 s3 => iteF ?_)
    refine neD_no (d := .tuple (([] : List Int).map .int)) (by decide +kernel) (by decide +kernel) (gv_least (t := tdT) (a := 0) (xs := [0, 3, 0]) rfl ((d1.same s2).same s3) tdT_ok rfl rfl g3 (by decide +kernel)) (fun _ _ => gv_tup0) fun G4 s4 => iteF ?_
    dsimp only [tNext]
    have s14 := ((s1.trans s2).trans s3).trans s4
    refine asg_go (mk_gv (t := tdX) (gvA_cons (gv_tup (gvA_cons gv_str fun _ _ => gvA_cons gv_str fun _ _ => gvA_nil)) fun _ _ => gvA_cons (gv_tup (gvA_cons (gv_tup (gvA_cons gv_str fun _ _ => gvA_cons (gv_tup (gvA_cons gv_int fun _ _ => gvA_cons gv_int fun _ _ => gvA_nil)) fun _ _ => gvA_nil)) fun _ _ => gvA_cons (gv_tup (gvA_cons gv_str fun _ _ => gvA_cons (gv_tup (gvA_cons gv_int fun _ _ => gvA_nil)) fun _ _ => gvA_nil)) fun _ _ => gvA_cons (gv_tup (gvA_cons gv_str fun _ _ => gvA_cons (gv_tup (gvA_cons gv_int fun _ _ => gvA_nil)) fun _ _ => gvA_nil)) fun _ _ => gvA_nil)) fun _ _ => gvA_nil) tdX_ok fun G5 c cx ck ct s5 d5 => ?_)
    dsimp only [gName]
    have s15 := s14.trans s5
    have two : (2 : Nat) ≤ sizeLine := by decide
    refine seq_go (ifS_go (or_go (neD_no (d := .tuple (([] : List Int).map .int)) (by decide +kernel) (by decide +kernel) (gv_least (t := tdX) (a := 0) (xs := [1, 1]) rfl d5 tdX_ok rfl rfl g2 (by decide +kernel)) (fun _ _ => gv_tup0) fun G6 s6 => iteF ?_)))
    refine or_go (test_go (op_go ⟨_, rfl, two, fun r7 n7 => ?_⟩))
    dsimp only [tCons, tC, tNil, List.append_nil]
    refine wr_some (t := tdX) (xs := [1, 1]) (a := 0) (b := 1) (k := 0) ((d5.same s6).same (same_new n7)) tdX_ok rfl (sqT upd_same) rfl (by decide) (by decide +kernel) (by decide +kernel) rfl fun G7 r s7 h7 => ⟨rfl, _, rfl, iteF ?_⟩
    have s67 := (s6.trans (same_new n7)).trans s7
    refine test_go (op_go ⟨_, rfl, two, fun r8 n8 => ?_⟩)
    dsimp only [tCons, tC, tNil, List.append_nil]
    refine wr_none (t := tdX) (xs := [1, 0]) (a := 0) (k := 0) ((d5.same s67).same (same_new n8)) tdX_ok rfl (sqT upd_same) rfl (by decide) (by decide +kernel) (by decide +kernel) fun G8 s8 => ⟨rfl, _, rfl, iteF ?_⟩
    dsimp only [tNext]
    have s68 := (s67.trans (same_new n8)).trans s8
    have d8 := d5.same s68
    have hv8 := hv1.same (s15.trans s68)
    refine seq_out (t := tIfS _ _ _) (fun σ' G' => ∃ y11, σ' = [some (.ref a), some (.ref h), y2, y3, y4, y5, y6, y7, some (.ref p), y9, some (.ref c), y11, none] ∧ TblAt K C G' c cx ck ct tdX) (fun N hN => ?_) (fun σ' G9 hR => ?_)
    · refine ⟨_, rfl, h, l, L1, st1, 6, rfl, hv8, by decide, by decide, fun G9 L9 st9 r9 b9 hv9 r90 r91 => ⟨rfl, _, rfl, ite2 (fun _ => ?_) (fun _ => hN _ _ ⟨_, rfl, d8.keep (.but hv8 b9)⟩)⟩⟩
      have d9 := d8.keep (.but hv8 b9)
      refine asg_go ⟨_, rfl, two, fun r7 n7 => ?_⟩
      dsimp only [tCons, tC, tNil, List.append_nil]
      refine wr_some (t := tdX) (xs := [90, 60]) (a := 0) (b := 2) (k := 1) (d9.same (same_new n7)) tdX_ok rfl (sqT upd_same) rfl (by decide) (by decide +kernel) (by decide +kernel) rfl fun GA r sA hA => ?_
      have dA := d9.same ((same_new n7).trans sA)
      rw [show (unitsI [90, 60] (Str.ofString "right", ([1] : List Int)).2).toNat = 60 from by decide +kernel] at hA
      have gl : ∀ {σ : L2.St} {H : Hp}, GvA K σ H (tCons (tTup (tCons (tC (.int 0)) (tCons (tC (.int 1)) tNil))) (tCons (tTup (tCons (tC (.int 0)) tNil)) (tCons (tTup (tCons (tC (.int 1)) tNil)) tNil))) (lotsD lotsX) := gvA_cons g2 fun _ _ => gvA_cons g1 fun _ _ => gvA_cons g1 fun _ _ => gvA_nil
      dsimp only [gName]
      refine ifS_go (or_go (not_go (b_go (call_go (cons_go ?_)))))
      refine lots_go gl (by decide) fun F GB sB hB => ?_
      obtain ⟨vs, gF, hdv⟩ := id hB
      have hvl := dpAll_len hdv
      have hvl3 : vs.length = 3 := hvl
      have hrB := same_seqT sB hA
      refine ⟨_, rfl, F, r, vs, List.replicate 60 ((2 : Nat) : Int), rfl, gF, hrB, by decide, fun n m => by rw [List.eq_of_mem_replicate m, hvl3]; decide, fun GC sC => ⟨_, rfl, iteF ?_⟩⟩
      refine ⟨_, rfl, r, _, rfl, .inr (same_seqT sC hrB), _, _, rfl, rfl, _, rfl, ?_⟩
      rw [decide_eq_false (by rw [List.length_map, List.length_replicate]; decide)]
      refine iteF (not_go (b_go (call_go (cons_go ?_))))
      refine (lots_go gl (by decide) fun F2 GD sD hD => ?_)
      refine ⟨two, fun sq nsq => ?_⟩
      have sE := same_new (o := .tup [V.int 90, V.int 60]) nsq
      refine ⟨_, rfl, F2, sq, r, lotsX, [90, 60], 0, 1, 2, rfl, LotsAt.same hD sE, by decide, sqT upd_same, by decide, wrongX, ?_, by decide +kernel, by decide +kernel, fun GE sF => ⟨_, rfl, iteF ?_⟩⟩
      · rw [show (unitsI [90, 60] (lotsX.getD 2 [])).toNat = 60 from by decide +kernel]
        exact same_seqT (((sB.trans sC).trans sD).trans sE) hA
      · exact hN _ _ ⟨_, rfl, dA.same (((((sB.trans sC).trans sD).trans sE)).trans sF)⟩
    · obtain ⟨y11, rfl, d9⟩ := hR
      refine ⟨_, rfl, two, fun r10 n10 => ?_⟩
      dsimp only [tCons, tC, tNil, List.append_nil]
      exact wr_none (t := tdX) (xs := [0, 400]) (a := 0) (k := 1) (d9.same (same_new n10)) tdX_ok rfl (sqT upd_same) rfl (by decide) (by decide +kernel) (by decide +kernel) fun G10 s10 => ⟨rfl, q _⟩
end
end K20
/-! zip of two things of any kind, by what the step of each iterator is known to do. -/
namespace Zn
open PySem
section
variable {prog : Program} {w : World}
/-- from a heap with I, the next of it is x; then J holds, and nothing but the object at it has changed -/
def Nx (prog : Program) (w : World) (it : Addr) (I : Heap → Prop) (x : Value) (J : Heap → Prop) : Prop :=
  ∀ {A : Around} {E : Value → Shared → Prop} {s : Shared} {Q : Value → Shared → Prop}, I s.heap → (∀ h', J h' → Heap.SameBut it s.heap h' → Q x { s with heap := h' }) → wpAny (model prog w) A (Builtin.SmallTypes.nextOf (.ref it)) Q E s
theorem nx_tuple {it l : Addr} {i : Nat} {items : Array Value} {x : Value} (hne : l ≠ it) (hx : items[i]? = some x) : Nx prog w it (fun h => h.IsTupleIter it l i ∧ h.IsTuple l items) x (fun h => h.IsTupleIter it l (i + 1) ∧ h.IsTuple l items) :=
  fun {A E s Q} hI q => RZ.nextOf_tuple_item hI.1 hI.2 hx fun h' h1 sb => q h' ⟨h1, hI.2.extBut sb.extBut hne⟩ sb
theorem nx_list {it l : Addr} {i : Nat} {items : Array Value} {x : Value} (hne : l ≠ it) (hx : items[i]? = some x) : Nx prog w it (fun h => h.IsListIter it l i ∧ h.IsList l items) x (fun h => h.IsListIter it l (i + 1) ∧ h.IsList l items) :=
  fun {A E s Q} hI q => wpAny_nextOf_list_item hI.1 hI.2 hx fun h' h1 sb => q h' ⟨h1, hI.2.extBut sb.extBut hne⟩ sb
/-- a property of the objects at i and l alone -/
def On2 (i l : Addr) (I : Heap → Prop) : Prop := ∀ h h' : Heap, (∀ o, h.get? i = some o → h'.get? i = some o) → (∀ o, h.get? l = some o → h'.get? l = some o) → I h → I h'
theorem on2_tuple {it l : Addr} {i : Nat} {items : Array Value} : On2 it l (fun h => h.IsTupleIter it l i ∧ h.IsTuple l items) := fun h h' a b ⟨⟨o, e, r⟩, ⟨u, f, t⟩⟩ => ⟨⟨o, a o e, r⟩, ⟨u, b u f, t⟩⟩
theorem on2_list {it l : Addr} {i : Nat} {items : Array Value} : On2 it l (fun h => h.IsListIter it l i ∧ h.IsList l items) := fun h h' a b ⟨⟨o, e, r⟩, ⟨u, f, t⟩⟩ => ⟨⟨o, a o e, r⟩, ⟨u, b u f, t⟩⟩
variable {A : Around} {E : Value → Shared → Prop} {s : Shared} {z TI TO i1 i2 l1 l2 : Addr} {I1 J1 I2 J2 : Heap → Prop} {x y : Value}
/-- what a step of zip leaves, all but z, TO, i1, i2 as it was -/
theorem first_step {a b : Value} {Q : Option Value → Shared → Prop} (D : ZipApart z TI TO i1 i2 l1 l2) (hz : IsZip s.heap z TI TO .none) (hTI : IsPair s.heap TI (.ref i1) (.ref i2)) (hTO : IsPair s.heap TO a b)
    (O1 : On2 i1 l1 I1) (O2 : On2 i2 l2 I2) (P1 : On2 i1 l1 J1) (P2 : On2 i2 l2 J2) (N1 : Nx prog w i1 I1 x J1) (N2 : Nx prog w i2 I2 y J2) (h1 : I1 s.heap) (h2 : I2 s.heap)
    (hQ : ∀ h', IsZip h' z TI TO (rawInt s.heap.objs.size) → J1 h' → J2 h' → IsPair h' s.heap.objs.size x y → h'.objs.size = s.heap.objs.size + 1 →
      (∀ c o, c ≠ z → c ≠ TO → c ≠ i1 → c ≠ i2 → s.heap.get? c = some o → h'.get? c = some o) → Q (some (.ref s.heap.objs.size)) { s with heap := h' }) :
    wpAny (model prog w) A (pyNext (.ref z)) Q E s := by
  have hT : s.TypeIs (.ref z) "zip" := ⟨_, hz, rfl⟩
  unfold pyNext
  refine wpAny_bind (wpAny_attempt (wpAny_callSpecial?_slot (name := Str.ofString "__next__") hT F.slot_zip_next (wpAny_call_entry F.slot_zip_next hT F.entry_zip_next ?_ (F.args_zip_next_1 _))))
  show wpAny _ _ (field (.ref z) 2 >>= _) _ _ _
  refine wpAny_bind (wpAny_field hz rfl (x := .bool false) rfl ?_)
  show wpAny _ _ (field (.ref z) 3 >>= _) _ _ _
  refine wpAny_bind (wpAny_field hz rfl (x := .ref TI) rfl (wpAny_bind (wpAny_seqItems hTI rfl ?_)))
  show wpAny _ _ (Builtin.SmallTypes.ownedTupleIsFree (.ref z) >>= _) _ _ _
  refine wpAny_bind ?_
  unfold Builtin.SmallTypes.ownedTupleIsFree
  refine wpAny_bind (wpAny_field hz rfl (x := .none) rfl (wpAny_pure ?_))
  simp only [if_true]
  refine wpAny_bind (wpAny_rule (wpAny_bind (wpAny_field hz rfl (x := .ref TO) rfl ?_)))
  refine wpAny_bind (wpAny_setField_rec hz (by simp) fun g1 z1 b1 => wpAny_bind ?_)
  simp only [List.zipIdx_cons, List.zipIdx_nil, List.forIn_cons, List.forIn_nil]
  have k1 : ∀ c o, c ≠ z → s.heap.get? c = some o → g1.get? c = some o := fun c o n e => b1.extBut _ _ n e
  refine wpAny_bind (wpAny_bind (wpAny_onRaise ?_))
  show wpAny _ _ (Builtin.SmallTypes.nextOf (.ref i1) >>= _) _ _ _
  refine wpAny_bind (N1 (O1 _ _ (fun o => k1 _ o D.i1z) (fun o => k1 _ o D.l1z) h1) fun g2 j2 b2 => wpAny_pure ?_)
  have k2 : ∀ c o, c ≠ z → c ≠ i1 → s.heap.get? c = some o → g2.get? c = some o := fun c o n m e => b2.extBut _ _ m (k1 _ _ n e)
  have t2 : IsPair g2 TO a b := k2 _ _ D.TOz D.TOi1 hTO
  refine wpAny_bind (wpAny_seqItems t2 rfl (wpAny_bind (wpAny_updateSeq_pair t2 fun g3 t3 b3 => wpAny_bind (wpAny_letGo (wpAny_pure ?_)))))
  replace t3 : IsPair g3 TO x b := t3
  have k3 : ∀ c o, c ≠ z → c ≠ i1 → c ≠ TO → s.heap.get? c = some o → g3.get? c = some o := fun c o n m r e => b3.extBut _ _ r (k2 _ _ n m e)
  refine wpAny_bind (wpAny_bind (wpAny_onRaise ?_))
  show wpAny _ _ (Builtin.SmallTypes.nextOf (.ref i2) >>= _) _ _ _
  refine wpAny_bind (N2 (O2 _ _ (fun o => k3 _ o D.i2z D.i12.symm D.TOi2.symm) (fun o => k3 _ o D.l2z D.l2i1 D.l2TO) h2) fun g4 j4 b4 => wpAny_pure ?_)
  have t4 : IsPair g4 TO x b := b4.extBut _ _ D.TOi2 t3
  refine wpAny_bind (wpAny_seqItems t4 rfl (wpAny_bind (wpAny_updateSeq_pair t4 fun g5 t5 b5 => wpAny_bind (wpAny_letGo (wpAny_pure (wpAny_pure ?_))))))
  replace t5 : IsPair g5 TO x y := t5
  have k5 : ∀ c o, c ≠ z → c ≠ TO → c ≠ i1 → c ≠ i2 → s.heap.get? c = some o → g5.get? c = some o := fun c o n1 n2 n3 n4 e => b5.extBut _ _ n2 (b4.extBut _ _ n4 (k3 _ _ n1 n3 n2 e))
  have z5 : IsZip g5 z TI TO .ellipsis := b5.extBut _ _ D.TOz.symm (b4.extBut _ _ D.i2z.symm (b3.extBut _ _ D.TOz.symm (b2.extBut _ _ D.i1z.symm z1)))
  have j15 : J1 g5 := P1 _ _ (fun o e => b5.extBut _ _ D.TOi1.symm (b4.extBut _ _ D.i12 (b3.extBut _ _ D.TOi1.symm e))) (fun o e => b5.extBut _ _ D.l1TO (b4.extBut _ _ D.l1i2 (b3.extBut _ _ D.l1TO e))) j2
  have j25 : J2 g5 := P2 _ _ (fun o e => b5.extBut _ _ D.TOi2.symm e) (fun o e => b5.extBut _ _ D.l2TO e) j4
  have sz : g5.objs.size = s.heap.objs.size := by rw [b5.1, b4.1, b3.1, b2.1, b1.1]
  have zl : z < g5.objs.size := Heap.lt_size z5
  refine wpAny_bind (wpAny_seqItems t5 rfl (wpAny_bind (wpAny_newTuple ?_)))
  show wpAny _ _ (Builtin.SmallTypes.ownedTupleHandOut (.ref z) (.ref g5.objs.size) >>= _) _ _ _
  refine wpAny_bind ?_
  unfold Builtin.SmallTypes.ownedTupleHandOut
  have z6 : IsZip (g5.push { cls := .type "tuple", data := .seq #[x, y] }) z TI TO .ellipsis := Heap.get?_push_of_some _ z5
  refine wpAny_bind (wpAny_setField_rec z6 (by simp) fun g7 z7 b7 => ?_)
  replace z7 : IsZip g7 z TI TO (rawInt g5.objs.size) := z7
  refine wpAny_setField_rec z7 (by simp) fun g8 z8 b8 => ?_
  replace z8 : IsZip g8 z TI TO (rawInt g5.objs.size) := z8
  have up : ∀ c o, c ≠ z → g5.get? c = some o → g8.get? c = some o := fun c o n e => b8.extBut _ _ n (b7.extBut _ _ n (Heap.get?_push_of_some _ e))
  have t8 : IsPair g8 g5.objs.size x y := b8.extBut _ _ (Nat.ne_of_gt zl) (b7.extBut _ _ (Nat.ne_of_gt zl) (Heap.get?_push_size _ rfl))
  have s8 : g8.objs.size = g5.objs.size + 1 := by rw [b8.1, b7.1, Heap.size_push]
  rw [sz] at z8 t8 s8
  refine wpAny_pure ⟨_, rfl, wpAny_pure ?_⟩
  rw [sz]
  exact hQ g8 z8 (P1 _ _ (fun o => up _ o D.i1z) (fun o => up _ o D.l1z) j15) (P2 _ _ (fun o => up _ o D.i2z) (fun o => up _ o D.l2z) j25) t8 s8 fun c o n1 n2 n3 n4 e => up c o n1 (k5 c o n1 n2 n3 n4 e)
/-- a later step, what was handed out being kept elsewhere -/
theorem held_step {T : Addr} {f : Bool} {oT : Obj} {Q : Option Value → Shared → Prop} (D : ZipApart z TI TO i1 i2 l1 l2) (hz : IsZipHeld s.heap z TI TO T f) (hT : s.heap.get? T = some oT) (hTI : IsPair s.heap TI (.ref i1) (.ref i2))
    (O1 : On2 i1 l1 I1) (O2 : On2 i2 l2 I2) (P1 : On2 i1 l1 J1) (P2 : On2 i2 l2 J2) (N1 : Nx prog w i1 I1 x J1) (N2 : Nx prog w i2 I2 y J2) (h1 : I1 s.heap) (h2 : I2 s.heap)
    (hQ : ∀ h', IsZipHeld h' z TI TO T true → J1 h' → J2 h' → IsPair h' s.heap.objs.size x y → h'.objs.size = s.heap.objs.size + 1 →
      (∀ c o, c ≠ z → c ≠ i1 → c ≠ i2 → s.heap.get? c = some o → h'.get? c = some o) → Q (some (.ref s.heap.objs.size)) { s with heap := h' }) :
    wpAny (model prog w) A (pyNext (.ref z)) Q E s := by
  have hTy : s.TypeIs (.ref z) "zip" := ⟨_, hz, rfl⟩
  unfold pyNext
  refine wpAny_bind (wpAny_attempt (wpAny_callSpecial?_slot (name := Str.ofString "__next__") hTy F.slot_zip_next (wpAny_call_entry F.slot_zip_next hTy F.entry_zip_next ?_ (F.args_zip_next_1 _))))
  show wpAny _ _ (field (.ref z) 2 >>= _) _ _ _
  refine wpAny_bind (wpAny_field hz rfl (x := .bool false) rfl ?_)
  show wpAny _ _ (field (.ref z) 3 >>= _) _ _ _
  refine wpAny_bind (wpAny_field hz rfl (x := .ref TI) rfl (wpAny_bind (wpAny_seqItems hTI rfl ?_)))
  show wpAny _ _ (Builtin.SmallTypes.ownedTupleIsFree (.ref z) >>= _) _ _ _
  refine wpAny_bind (wpAny_tupleHeld_zip hz hT fun g1 z1 b1 => ?_)
  simp only [Bool.false_eq_true, if_false]
  refine wpAny_bind ?_
  rw [← Array.forIn_toList]
  simp only [List.forIn_cons, List.forIn_nil]
  have k1 : ∀ c o, c ≠ z → s.heap.get? c = some o → g1.get? c = some o := fun c o n e => b1.extBut _ _ n e
  refine wpAny_bind (wpAny_bind (wpAny_holding ?_))
  show wpAny _ _ (Builtin.SmallTypes.nextOf (.ref i1) >>= _) _ _ _
  refine wpAny_bind (N1 (s := { s with heap := g1 }) (O1 _ _ (fun o => k1 _ o D.i1z) (fun o => k1 _ o D.l1z) h1) fun g2 j2 b2 => wpAny_pure (wpAny_pure ?_))
  have k2 : ∀ c o, c ≠ z → c ≠ i1 → s.heap.get? c = some o → g2.get? c = some o := fun c o n m e => b2.extBut _ _ m (k1 _ _ n e)
  refine wpAny_bind (wpAny_bind (wpAny_holding ?_))
  show wpAny _ _ (Builtin.SmallTypes.nextOf (.ref i2) >>= _) _ _ _
  refine wpAny_bind (N2 (s := { s with heap := g2 }) (O2 _ _ (fun o => k2 _ o D.i2z D.i12.symm) (fun o => k2 _ o D.l2z D.l2i1) h2) fun g3 j3 b3 => wpAny_pure (wpAny_pure (wpAny_pure ?_)))
  have k3 : ∀ c o, c ≠ z → c ≠ i1 → c ≠ i2 → s.heap.get? c = some o → g3.get? c = some o := fun c o n m r e => b3.extBut _ _ r (k2 _ _ n m e)
  show wpAny _ _ (newTuple [x, y] >>= _) _ _ _
  refine wpAny_bind (wpAny_newTuple ?_)
  have sz : g3.objs.size = s.heap.objs.size := by rw [b3.1, b2.1, b1.1]
  have z3 : IsZipHeld g3 z TI TO T true := b3.extBut _ _ D.i2z.symm (b2.extBut _ _ D.i1z.symm z1)
  have j13 : J1 g3 := P1 _ _ (fun o e => b3.extBut _ _ D.i12 e) (fun o e => b3.extBut _ _ D.l1i2 e) j2
  have hp : IsPair (g3.push { cls := .type "tuple", data := .seq #[x, y] }) g3.objs.size x y := Heap.get?_push_size _ rfl
  have s4 : (g3.push { cls := .type "tuple", data := .seq #[x, y] }).objs.size = g3.objs.size + 1 := Heap.size_push ..
  have up : ∀ c o, g3.get? c = some o → (g3.push { cls := .type "tuple", data := .seq #[x, y] }).get? c = some o := fun c o e => Heap.get?_push_of_some _ e
  refine wpAny_pure ⟨_, rfl, wpAny_pure ?_⟩
  show Q (some (.ref g3.objs.size)) _
  rw [sz] at hp s4 ⊢
  exact hQ _ (up _ _ z3) (P1 _ _ (fun o => up _ o) (fun o => up _ o) j13) (P2 _ _ (fun o => up _ o) (fun o => up _ o) j3) hp s4 fun c o n1 n2 n3 e => up _ _ (k3 c o n1 n2 n3 e)
/-- the end: the first of the two, a tuple, is read to its end -/
theorem held_end {T : Addr} {f : Bool} {oT : Obj} {k : Nat} {xs : Array Value} {Q : Option Value → Shared → Prop} (hh : A.handled = none) (D : ZipApart z TI TO i1 i2 l1 l2) (hz : IsZipHeld s.heap z TI TO T f) (hT : s.heap.get? T = some oT) (hTI : IsPair s.heap TI (.ref i1) (.ref i2))
    (h1 : s.heap.IsTupleIter i1 l1 k) (hl : s.heap.IsTuple l1 xs) (hx : xs[k]? = none)
    (hQ : ∀ h', (∀ c o, c ≠ z → c ≠ i1 → s.heap.get? c = some o → h'.get? c = some o) → Q none { s with heap := h' }) : wpAny (model prog w) A (pyNext (.ref z)) Q E s := by
  have hTy : s.TypeIs (.ref z) "zip" := ⟨_, hz, rfl⟩
  unfold pyNext
  refine wpAny_bind (wpAny_attempt (wpAny_callSpecial?_slot (name := Str.ofString "__next__") hTy F.slot_zip_next (wpAny_call_entry F.slot_zip_next hTy F.entry_zip_next ?_ (F.args_zip_next_1 _))))
  show wpAny _ _ (field (.ref z) 2 >>= _) _ _ _
  refine wpAny_bind (wpAny_field hz rfl (x := .bool false) rfl ?_)
  show wpAny _ _ (field (.ref z) 3 >>= _) _ _ _
  refine wpAny_bind (wpAny_field hz rfl (x := .ref TI) rfl (wpAny_bind (wpAny_seqItems hTI rfl ?_)))
  show wpAny _ _ (Builtin.SmallTypes.ownedTupleIsFree (.ref z) >>= _) _ _ _
  refine wpAny_bind (wpAny_tupleHeld_zip hz hT fun g1 z1 b1 => ?_)
  simp only [Bool.false_eq_true, if_false]
  refine wpAny_bind ?_
  rw [← Array.forIn_toList]
  simp only [List.forIn_cons, List.forIn_nil]
  refine wpAny_bind (wpAny_bind (wpAny_holding ?_))
  show wpAny _ _ (Builtin.SmallTypes.nextOf (.ref i1) >>= _) _ _ _
  refine wpAny_bind (RZ.nextOf_tuple_end (s := { s with heap := g1 }) hh (h1.extBut b1.extBut D.i1z) (hl.extBut b1.extBut D.l1z) hx fun g2 e b2 he => ?_)
  obtain ⟨o, ho, hc⟩ := he
  refine wpAny_bind (wpAny_isInstance (T := "StopIteration") (b := true) ⟨o, ho, hc⟩ isSubtype_stop ?_)
  exact wpAny_pure (hQ _ fun c o n1 n2 e => b2 _ _ n2 (b1.extBut _ _ n1 e))
end
abbrev m1 (h : Heap) (l1 : Addr) : Heap := h.push { cls := .type "tuple_iterator", data := .fields #[.ref l1, .int 0 0] }
abbrev m2 (h : Heap) (l1 l2 : Addr) : Heap := (m1 h l1).push { cls := .type "list_iterator", data := .fields #[.ref l2, .int 0 0] }
abbrev m3 (h : Heap) (l1 l2 : Addr) : Heap := (m2 h l1 l2).push { cls := .type "tuple", data := .seq #[.ref h.objs.size, .ref (m1 h l1).objs.size] }
abbrev m4 (h : Heap) (l1 l2 : Addr) : Heap := (m3 h l1 l2).push { cls := .type "tuple", data := .seq #[.none, .none] }
abbrev m5 (h : Heap) (l1 l2 : Addr) : Heap := (m4 h l1 l2).push { cls := .type "zip", data := .fields #[.none, .bool false, .bool false, .ref (m2 h l1 l2).objs.size, .ref (m3 h l1 l2).objs.size] }
theorem meets_mix (l1 l2 : Addr) (xs ys : Array Value) :
    Meets (Builtin.«zip.__new__» ⟨[.type "zip", .ref l1, .ref l2], []⟩) (fun _ R s => s.heap.IsTuple l1 xs ∧ s.heap.IsList l2 ys ∧ R (.ok (.ret (.ref (m4 s.heap l1 l2).objs.size))) { s with heap := m5 s.heap l1 l2 }) :=
  .of_wp fun prog w A R s h => by
    obtain ⟨hp, g, d, tk, os⟩ := s
    obtain ⟨a, b, h⟩ := h
    have hsub := sub_zip
    have L1 : Heap.IsTuple (Shared.heap ⟨hp, g, d, tk, os⟩) l1 xs := a
    have L2 : Heap.IsList (Shared.heap ⟨hp.push { cls := .type "tuple_iterator", data := .fields #[.ref l1, .int 0 0] }, g, d, tk, os⟩) l2 ys := Heap.IsList.push b _
    wp_walk using wpAny_pyIter_tuple L1, wpAny_pyIter_list L2
    exact ⟨_, rfl, h⟩
theorem call_mix {prog : Program} {w : World} {A : Around} {E : Value → Shared → Prop} {s : Shared} {l1 l2 : Addr} {xs ys : Array Value} {Q : Value → Shared → Prop} (a : s.heap.IsTuple l1 xs) (b : s.heap.IsList l2 ys)
    (h : ∀ h', IsZip h' (s.heap.objs.size + 4) (s.heap.objs.size + 2) (s.heap.objs.size + 3) .none → IsPair h' (s.heap.objs.size + 2) (.ref s.heap.objs.size) (.ref (s.heap.objs.size + 1)) →
      IsPair h' (s.heap.objs.size + 3) .none .none → h'.IsTupleIter s.heap.objs.size l1 0 → h'.IsListIter (s.heap.objs.size + 1) l2 0 → h'.objs.size = s.heap.objs.size + 5 → (∀ c o, s.heap.get? c = some o → h'.get? c = some o) → Q (.ref (s.heap.objs.size + 4)) { s with heap := h' }) :
    wpAny (model prog w) A (call (.type "zip") [.ref l1, .ref l2]) Q E s := by
  refine callType_new F.called_zip (by decide) (F.typeCall_zip_2 _ _) (F.newCall_zip_2 _ _) (fun obj => F.args_object_init_3 obj _ _) F.entry_zip_new (meets_mix l1 l2 xs ys) ⟨a, b, ?_⟩
  have e1 : (m1 s.heap l1).objs.size = s.heap.objs.size + 1 := Heap.size_push ..
  have e2 : (m2 s.heap l1 l2).objs.size = s.heap.objs.size + 2 := by rw [Heap.size_push, e1]
  have e3 : (m3 s.heap l1 l2).objs.size = s.heap.objs.size + 3 := by rw [Heap.size_push, e2]
  have e4 : (m4 s.heap l1 l2).objs.size = s.heap.objs.size + 4 := by rw [Heap.size_push, e3]
  have e5 : (m5 s.heap l1 l2).objs.size = s.heap.objs.size + 5 := by rw [Heap.size_push, e4]
  have p : ∀ {g : Heap} {ob : Obj} {c o}, g.get? c = some o → (g.push ob).get? c = some o := fun e => Heap.get?_push_of_some _ e
  have g5 : (m5 s.heap l1 l2).get? (m4 s.heap l1 l2).objs.size = some _ := Heap.get?_push_size _ rfl
  have g4 : (m5 s.heap l1 l2).get? (m3 s.heap l1 l2).objs.size = some _ := p (Heap.get?_push_size _ rfl)
  have g3 : (m5 s.heap l1 l2).get? (m2 s.heap l1 l2).objs.size = some _ := p (p (Heap.get?_push_size _ rfl))
  have g2 : (m5 s.heap l1 l2).get? (m1 s.heap l1).objs.size = some _ := p (p (p (Heap.get?_push_size _ rfl)))
  have g1 : (m5 s.heap l1 l2).get? s.heap.objs.size = some _ := p (p (p (p (Heap.get?_push_size _ rfl))))
  show _ ∧ _
  rw [e2, e3, e4] at g5
  rw [e1, e2] at g3
  rw [e3] at g4
  rw [e1] at g2
  rw [e4]
  exact ⟨⟨_, g5, rfl⟩, h _ g5 g3 g4 ⟨_, g1, rfl, rfl⟩ ⟨_, g2, rfl, rfl⟩ e5 fun c o x => p (p (p (p (p x))))⟩
end Zn
namespace Zn
open PySem PySem.Spec PyProof.Rows L2 Gd
/-- where a list filled from a zip stands after k turns -/
structure Zs (X : Cx) (pins : List (Addr × Obj)) (σ : L2.St) (q z TI TO i1 i2 a b : Addr) (xs ys : List V) (H0 : Hp) (k : Nat) (ps : List Addr) (H : Hp) (s : Shared) : Prop where
  inv : Inv X pins σ H s
  lst : H q = some (.lst (ps.map V.ref))
  len : ps.length = k
  held : ∃ T f oT, IsZipHeld s.heap z TI TO T f ∧ s.heap.get? T = some oT
  pTI : IsPair s.heap TI (.ref i1) (.ref i2)
  it1 : s.heap.IsTupleIter i1 a k
  it2 : s.heap.IsListIter i2 b k
  fp : ∀ c ∈ [z, TI, i1, i2], FpOk X pins H c
  sm : Same H0 H
  prs : ∀ (i : Nat) p x y, ps[i]? = some p → xs[i]? = some x → ys[i]? = some y → SqT X.K H p [x, y]
theorem fpOk_upd {X : Cx} {pins : List (Addr × Obj)} {H : Hp} {c b : Addr} {o : HO} (h : FpOk X pins H c) (n : c ≠ b) : FpOk X pins (upd H b o) c := ⟨(upd_ne n).trans h.1, h.2⟩
section
variable {X : Cx} {pins : List (Addr × Obj)} {σ : L2.St} {q z TI TO i1 i2 a b : Addr} {xs ys : List V} {H0 : Hp} {A1 : Around} {Rs : Result → Shared → Prop}
theorem loopZ (hh : A1.in1.handled = none) (D : ZipApart z TI TO i1 i2 a b) (ha : SqT X.K H0 a xs) (hb : SqL X.K H0 b ys) (hl : xs.length = ys.length) (hn : xs.length ≤ 1000) (q0 : H0 q = none)
    (hdone : ∀ (H : Hp) (s : Shared) (ps : List Addr), Inv X pins σ H s → Same H0 H → H q = some (.lst (ps.map V.ref)) → ps.length = xs.length → (∀ (i : Nat) p x y, ps[i]? = some p → xs[i]? = some x → ys[i]? = some y → SqT X.K H p [x, y]) → Rs (.ok (.ret .none)) s) :
    ∀ (m k : Nat) (ps : List Addr) (H : Hp) (s : Shared), xs.length - k = m → k ≤ xs.length → Zs X pins σ q z TI TO i1 i2 a b xs ys H0 k ps H s → codeAny (model X.prog X.w) A1 (.builtin "list.extend.loop" ⟨[.ref q, .ref z, .none], []⟩) Rs s := by
  intro m
  induction m with
  | zero =>
    intro k ps H s hm hk S
    obtain ⟨T, f, oT, hz, hT⟩ := S.held
    obtain ⟨its, rv, p, _⟩ := S.inv.tuple (same_seqT S.sm ha)
    have rl := rv.length
    refine codeAny_builtin PySem.F.entry_extend_loop ?_
    rw [Around.under_plainId PySem.F.plain_extend_loop _]
    show wpAny _ A1.in1 (pyNext (.ref z) >>= _) _ _ s
    refine wpAny_bind (held_end (xs := its.toArray) hh D hz hT S.pTI S.it1 p (by simp; omega) fun h' kk => ?_)
    refine wpAny_pure (hdone H _ ps ?_ S.sm S.lst (by have := S.len; omega) S.prs)
    exact S.inv.turnedL (t' := s.toks) (ch := [z, TI, i1, i2]) (fun c o hc e => kk c o (fun e' => hc (by simp [e'])) (fun e' => hc (by simp [e'])) e) S.fp
  | succ m ih =>
    intro k ps H s hm hk S
    obtain ⟨T, f, oT, hz, hT⟩ := S.held
    have hlt : k < xs.length := by omega
    obtain ⟨its, rv, p, _⟩ := S.inv.tuple (same_seqT S.sm ha)
    obtain ⟨its2, rv2, p2, _⟩ := S.inv.list (S.sm.seq hb)
    obtain ⟨u, hu, ru⟩ := rv.get (List.getElem?_eq_getElem hlt)
    obtain ⟨u2, hu2, ru2⟩ := rv2.get (List.getElem?_eq_getElem (show k < ys.length by omega))
    refine codeAny_builtin PySem.F.entry_extend_loop ?_
    rw [Around.under_plainId PySem.F.plain_extend_loop _]
    show wpAny _ A1.in1 (pyNext (.ref z) >>= _) _ _ s
    refine wpAny_bind (held_step D hz hT S.pTI (on2_tuple (items := its.toArray)) (on2_list (items := its2.toArray)) on2_tuple on2_list (nx_tuple (x := u) D.l1i1 (by simpa using hu)) (nx_list (x := u2) D.l2i2 (by simpa using hu2)) ⟨S.it1, p⟩ ⟨S.it2, p2.isList⟩ fun h' z' j1 j2 hp sz kk => ?_)
    have zl : ∀ c ∈ [z, TI, i1, i2], c < s.heap.objs.size := fun c hc => by
      simp only [List.mem_cons, List.not_mem_nil, or_false] at hc
      rcases hc with rfl | rfl | rfl | rfl
      · exact Heap.lt_size hz
      · exact Heap.lt_size S.pTI
      · obtain ⟨o, e, _⟩ := S.it1
        exact Heap.lt_size e
      · obtain ⟨o, e, _⟩ := S.it2
        exact Heap.lt_size e
    have kk' : ∀ c o, c ∉ [z, TI, i1, i2] → s.heap.get? c = some o → h'.get? c = some o := fun c o hc e => kk c o (fun e' => hc (by simp [e'])) (fun e' => hc (by simp [e'])) (fun e' => hc (by simp [e'])) e
    have new : ObjOk X.prog X.w (upd H s.heap.objs.size (.tup [xs[k], ys[k]])) h' s.heap.objs.size (.tup [xs[k], ys[k]]) := ⟨by show 2 ≤ sizeLine; decide, [u, u2], .cons ru (.cons ru2 .nil), ⟨_, hp, rfl, _, rfl⟩⟩
    have I1 : Inv X pins σ (upd H s.heap.objs.size (.tup [xs[k], ys[k]])) { s with heap := h' } := S.inv.turnedNew (t' := s.toks) (ch := [z, TI, i1, i2]) kk' S.fp (Nat.le_refl _) new
    have nq : H s.heap.objs.size = none := S.inv.hok.fresh (Nat.le_refl _)
    have lq : (upd H s.heap.objs.size (.tup [xs[k], ys[k]])) q = some (.lst (ps.map V.ref)) := (upd_ne (ne_of_none S.lst nq)).trans S.lst
    obtain ⟨z8, its8, k8, r8, hl8, e8⟩ := I1.lstM lq
    have pl := S.len
    show wpAny _ A1.in1 (updateSeq q (·.push (.ref s.heap.objs.size)) >>= _) _ _ _
    have lm : (ps.map V.ref).length = k := by rw [List.length_map]; exact pl
    have big : (1000 : Nat) ≤ sizeLine := by decide
    refine wpAny_bind (wpAny_updateSeq e8 rfl (wpAny_pure ⟨plainId_quiet PySem.F.plain_extend_loop _, ?_⟩) (by rw [List.size_toArray]; omega) (by show (its8.toArray.push _).size ≤ sizeLine + 1; rw [Array.size_push, List.size_toArray]; omega))
    refine ih (k + 1) (ps ++ [s.heap.objs.size]) (upd (upd H s.heap.objs.size (.tup [xs[k], ys[k]])) q (.lst ((ps ++ [s.heap.objs.size]).map V.ref))) _ (by omega) (by omega) ?_
    have I2 := I1.lset (its' := its8 ++ [Value.ref s.heap.objs.size]) (f := (·.push (Value.ref s.heap.objs.size))) (ys := (ps ++ [s.heap.objs.size]).map V.ref) (t' := s.toks) lq e8 (by simp) (by rw [List.map_append]; exact r8.append (.cons rfl .nil)) (by rw [List.length_map, List.length_append]; show _ + 1 ≤ _; omega)
    have qf : ∀ c ∈ [z, TI, i1, i2], c ≠ q := fun c hc e => by
      have := (S.fp c hc).1
      rw [e, S.lst] at this
      cases this
    have qs : q < s.heap.objs.size := by
      obtain ⟨_, _, _, _, _, e⟩ := S.inv.lstM S.lst
      exact Heap.lt_size e
    have up : ∀ c o, c ≠ q → h'.get? c = some o → (h'.update q (Obj.mapSeq (·.push (Value.ref s.heap.objs.size)))).get? c = some o := fun c o n e => (Heap.get?_update_other _ _ (Ne.symm n)).trans e
    have hTq : ∃ T f oT, IsZipHeld (h'.update q (Obj.mapSeq (·.push (Value.ref s.heap.objs.size)))) z TI TO T f ∧ (h'.update q (Obj.mapSeq (·.push (Value.ref s.heap.objs.size)))).get? T = some oT := by
      have alive : ∃ o, h'.get? T = some o := by
        by_cases e1 : T = z
        · rw [e1]; exact ⟨_, z'⟩
        by_cases e2 : T = i1
        · rw [e2]
          obtain ⟨o, e, _⟩ := j1.1
          exact ⟨o, e⟩
        by_cases e3 : T = i2
        · rw [e3]
          obtain ⟨o, e, _⟩ := j2.1
          exact ⟨o, e⟩
        exact ⟨oT, kk _ _ e1 e2 e3 hT⟩
      obtain ⟨o, ho⟩ := alive
      by_cases e : T = q
      · exact ⟨T, true, _, up _ _ (qf z (by simp)) z', by rw [e]; exact Heap.get?_update_self _ e8 rfl⟩
      · exact ⟨T, true, o, up _ _ (qf z (by simp)) z', up _ _ e ho⟩
    refine ⟨I2, upd_same, by rw [List.length_append, pl]; rfl, hTq, up _ _ (qf TI (by simp)) (kk _ _ D.TIz D.TIi1 D.TIi2 S.pTI), ?_, ?_, fun c hc => fpOk_upd (fpOk_upd (S.fp c hc) (Nat.ne_of_lt (zl c hc))) (qf c hc), fun c o e => ?_, fun i p' x y e1 e2 e3 => ?_⟩
    · exact j1.1.at fun o e => up _ o (qf i1 (by simp)) e
    · exact j2.1.at fun o e => up _ o (qf i2 (by simp)) e
    · rw [upd_ne (ne_of_none e q0), upd_ne (ne_of_none (S.sm _ _ e) nq)]
      exact S.sm _ _ e
    · have kp : KeepT (upd H s.heap.objs.size (.tup [xs[k], ys[k]])) (upd (upd H s.heap.objs.size (.tup [xs[k], ys[k]])) q (.lst ((ps ++ [s.heap.objs.size]).map V.ref))) := .put lq
      refine kp.seqT ?_
      rcases Nat.lt_or_ge i ps.length with hi | hi
      · rw [List.getElem?_append_left hi] at e1
        exact same_seqT (same_new nq) (S.prs i p' x y e1 e2 e3)
      · rw [List.getElem?_append_right hi] at e1
        have hik : i = k := by
          rcases Nat.lt_or_ge i (ps.length + 1) with h | h
          · omega
          · rw [List.getElem?_eq_none (by show 1 ≤ _; omega)] at e1
            cases e1
        subst hik
        rw [pl, Nat.sub_self] at e1
        obtain rfl : s.heap.objs.size = p' := Option.some.inj e1
        rw [List.getElem?_eq_getElem hlt] at e2
        rw [List.getElem?_eq_getElem (show i < ys.length by omega)] at e3
        cases e2
        cases e3
        exact sqT upd_same
end
end Zn
namespace Zn
open PySem PySem.Spec PyProof.Rows L2 Gd
theorem zip_no_len : typeLookup (.type "zip") "__len__" = pure none := by rw [typeLookup_type, builtinLookup_eq_fast]; kernel_rfl
theorem zip_no_hint : typeLookup (.type "zip") "__length_hint__" = pure none := by rw [typeLookup_type, builtinLookup_eq_fast]; kernel_rfl
section
variable {X : Cx} {pins : List (Addr × Obj)} {σ : L2.St} {q z TI TO i1 i2 a b : Addr} {xs ys : List V} {H0 H : Hp} {A1 : Around} {Rs : Result → Shared → Prop} {s : Shared} {va vb : Value}
theorem startZ (hh : A1.in1.handled = none) (D : ZipApart z TI TO i1 i2 a b) (ha : SqT X.K H0 a xs) (hb : SqL X.K H0 b ys) (hl : xs.length = ys.length) (h1 : 1 ≤ xs.length) (hn : xs.length ≤ 1000) (q0 : H0 q = none)
    (hdone : ∀ (H : Hp) (s : Shared) (ps : List Addr), Inv X pins σ H s → Same H0 H → H q = some (.lst (ps.map V.ref)) → ps.length = xs.length → (∀ (i : Nat) p x y, ps[i]? = some p → xs[i]? = some x → ys[i]? = some y → SqT X.K H p [x, y]) → Rs (.ok (.ret .none)) s)
    (I : Inv X pins σ H s) (lq : H q = some (.lst [])) (hz : IsZip s.heap z TI TO .none) (hTI : IsPair s.heap TI (.ref i1) (.ref i2)) (hTO : IsPair s.heap TO va vb) (t1 : s.heap.IsTupleIter i1 a 0) (t2 : s.heap.IsListIter i2 b 0)
    (fp : ∀ c ∈ [z, TI, TO, i1, i2], FpOk X pins H c) (sm : Same H0 H) : codeAny (model X.prog X.w) A1 (.builtin "list.extend.loop" ⟨[.ref q, .ref z, .none], []⟩) Rs s := by
  have hlt : 0 < xs.length := h1
  obtain ⟨its, rv, p, _⟩ := I.tuple (same_seqT sm ha)
  obtain ⟨its2, rv2, p2, _⟩ := I.list (sm.seq hb)
  obtain ⟨u, hu, ru⟩ := rv.get (List.getElem?_eq_getElem hlt)
  obtain ⟨u2, hu2, ru2⟩ := rv2.get (List.getElem?_eq_getElem (show 0 < ys.length by omega))
  refine codeAny_builtin PySem.F.entry_extend_loop ?_
  rw [Around.under_plainId PySem.F.plain_extend_loop _]
  show wpAny _ A1.in1 (pyNext (.ref z) >>= _) _ _ s
  refine wpAny_bind (first_step D hz hTI hTO (on2_tuple (items := its.toArray)) (on2_list (items := its2.toArray)) on2_tuple on2_list (nx_tuple (x := u) D.l1i1 (by simpa using hu)) (nx_list (x := u2) D.l2i2 (by simpa using hu2)) ⟨t1, p⟩ ⟨t2, p2.isList⟩ fun h' z' j1 j2 hp sz kk => ?_)
  have zl : ∀ c ∈ [z, TI, i1, i2], c < s.heap.objs.size := fun c hc => by
    simp only [List.mem_cons, List.not_mem_nil, or_false] at hc
    rcases hc with rfl | rfl | rfl | rfl
    · exact Heap.lt_size hz
    · exact Heap.lt_size hTI
    · obtain ⟨o, e, _⟩ := t1
      exact Heap.lt_size e
    · obtain ⟨o, e, _⟩ := t2
      exact Heap.lt_size e
  have kk' : ∀ c o, c ∉ [z, TI, TO, i1, i2] → s.heap.get? c = some o → h'.get? c = some o := fun c o hc e => kk c o (fun e' => hc (by simp [e'])) (fun e' => hc (by simp [e'])) (fun e' => hc (by simp [e'])) (fun e' => hc (by simp [e'])) e
  have new : ObjOk X.prog X.w (upd H s.heap.objs.size (.tup [xs[0], ys[0]])) h' s.heap.objs.size (.tup [xs[0], ys[0]]) := ⟨by show 2 ≤ sizeLine; decide, [u, u2], .cons ru (.cons ru2 .nil), ⟨_, hp, rfl, _, rfl⟩⟩
  have I1 : Inv X pins σ (upd H s.heap.objs.size (.tup [xs[0], ys[0]])) { s with heap := h' } := I.turnedNew (t' := s.toks) (ch := [z, TI, TO, i1, i2]) kk' fp (Nat.le_refl _) new
  have nq : H s.heap.objs.size = none := I.hok.fresh (Nat.le_refl _)
  have lq1 : (upd H s.heap.objs.size (.tup [xs[0], ys[0]])) q = some (.lst []) := (upd_ne (ne_of_none lq nq)).trans lq
  obtain ⟨z8, its8, k8, r8, hl8, e8⟩ := I1.lstM lq1
  show wpAny _ A1.in1 (updateSeq q (·.push (.ref s.heap.objs.size)) >>= _) _ _ _
  have big : (1000 : Nat) ≤ sizeLine := by decide
  have l8 : its8.length = 0 := hl8.symm
  refine wpAny_bind (wpAny_updateSeq e8 rfl (wpAny_pure ⟨plainId_quiet PySem.F.plain_extend_loop _, ?_⟩) (by rw [List.size_toArray]; omega) (by show (its8.toArray.push _).size ≤ sizeLine + 1; rw [Array.size_push, List.size_toArray]; omega))
  refine loopZ hh D ha hb hl hn q0 hdone (xs.length - 1) 1 [s.heap.objs.size] (upd (upd H s.heap.objs.size (.tup [xs[0], ys[0]])) q (.lst [V.ref s.heap.objs.size])) _ rfl h1 ?_
  have I2 := I1.lset (its' := its8 ++ [Value.ref s.heap.objs.size]) (f := (·.push (Value.ref s.heap.objs.size))) (ys := [V.ref s.heap.objs.size]) (t' := s.toks) lq1 e8 (by simp) (r8.append (.cons rfl .nil)) (by show 1 ≤ _; omega)
  have sub : ∀ c ∈ [z, TI, i1, i2], c ∈ [z, TI, TO, i1, i2] := fun c hc => by
    simp only [List.mem_cons, List.not_mem_nil, or_false] at hc ⊢
    rcases hc with h | h | h | h <;> simp [h]
  have qf : ∀ c ∈ [z, TI, i1, i2], c ≠ q := fun c hc e => by
    have := (fp c (sub c hc)).1
    rw [e, lq] at this
    cases this
  have up : ∀ c o, c ≠ q → h'.get? c = some o → (h'.update q (Obj.mapSeq (·.push (Value.ref s.heap.objs.size)))).get? c = some o := fun c o n e => (Heap.get?_update_other _ _ (Ne.symm n)).trans e
  have nqs : s.heap.objs.size ≠ q := fun e => by rw [← e, nq] at lq; cases lq
  have kp : KeepT (upd H s.heap.objs.size (.tup [xs[0], ys[0]])) (upd (upd H s.heap.objs.size (.tup [xs[0], ys[0]])) q (.lst [V.ref s.heap.objs.size])) := .put lq1
  refine ⟨I2, upd_same, rfl, ⟨_, false, _, up _ _ (qf z (by simp)) z', up _ _ nqs hp⟩, up _ _ (qf TI (by simp)) (kk _ _ D.TIz D.TITO D.TIi1 D.TIi2 hTI), ?_, ?_, fun c hc => fpOk_upd (fpOk_upd (fp c (sub c hc)) (Nat.ne_of_lt (zl c hc))) (qf c hc), fun c o e => ?_, fun i p' x y e1 e2 e3 => ?_⟩
  · exact j1.1.at fun o e => up _ o (qf i1 (by simp)) e
  · exact j2.1.at fun o e => up _ o (qf i2 (by simp)) e
  · rw [upd_ne (ne_of_none e q0), upd_ne (ne_of_none (sm _ _ e) nq)]
    exact sm _ _ e
  · refine kp.seqT ?_
    cases i with
    | succ i => simp at e1
    | zero =>
      obtain rfl : s.heap.objs.size = p' := Option.some.inj e1
      rw [List.getElem?_eq_getElem hlt] at e2
      rw [List.getElem?_eq_getElem (show 0 < ys.length by omega)] at e3
      cases e2
      cases e3
      exact sqT upd_same
end
end Zn
/-! list(zip(t, l)), t a tuple, l a list of one length. -/
namespace Zn
open PySem PySem.Spec PyProof.Rows L2 Gd
section
variable {X : Cx} {pins : List (Addr × Obj)} {σ : L2.St} {q z TI TO i1 i2 a b : Addr} {xs ys : List V} {H0 H : Hp} {A1 : Around} {Rs : Result → Shared → Prop} {s : Shared} {va vb : Value}
theorem extendZ (hh : A1.in1.handled = none) (D : ZipApart z TI TO i1 i2 a b) (ha : SqT X.K H0 a xs) (hb : SqL X.K H0 b ys) (hl : xs.length = ys.length) (h1 : 1 ≤ xs.length) (hn : xs.length ≤ 1000) (q0 : H0 q = none)
    (hdone : ∀ (H : Hp) (s : Shared) (ps : List Addr), Inv X pins σ H s → Same H0 H → H q = some (.lst (ps.map V.ref)) → ps.length = xs.length → (∀ (i : Nat) p x y, ps[i]? = some p → xs[i]? = some x → ys[i]? = some y → SqT X.K H p [x, y]) → Rs (.ok (.ret .none)) s)
    (I : Inv X pins σ H s) (lq : H q = some (.lst [])) (hz : IsZip s.heap z TI TO .none) (hTI : IsPair s.heap TI (.ref i1) (.ref i2)) (hTO : IsPair s.heap TO va vb) (t1 : s.heap.IsTupleIter i1 a 0) (t2 : s.heap.IsListIter i2 b 0)
    (fp : ∀ c ∈ [z, TI, TO, i1, i2], FpOk X pins H c) (sm : Same H0 H) :
    wpAny (model X.prog X.w) A1.in1 (Builtin.List.listExtendWith (.ref q) (.ref z) .none)
      (fun fin s' => match fin with | .done f => Rs (.ok f) s' | .again c' => c'.quiet = true ∧ codeAny (model X.prog X.w) A1 c' Rs s') (fun e s' => Rs (.error e) s') s := by
  have qf : ∀ c ∈ [z, TI, TO, i1, i2], c ≠ q := fun c hc e => by
    have := (fp c hc).1
    rw [e, lq] at this
    cases this
  have hne : q ≠ z := (qf z (by simp)).symm
  have hT : s.TypeIs (.ref z) "zip" := ⟨_, hz, rfl⟩
  unfold Builtin.List.listExtendWith
  refine wpAny_bind (wpAny_typeOf hT ?_)
  have n1 : Builtin.List.listSameRef (.ref q) (.ref z) = false := by simp [Builtin.List.listSameRef, hne]
  have n2 : (Value.type "zip" == Value.type "list") = false := by decide
  have n3 : (Value.type "zip" == Value.type "tuple") = false := by decide
  simp only [n1, n2, n3, Bool.or_false, Bool.false_eq_true, if_false]
  refine wpAny_bind (wpAny_pyIter_zip hz ?_)
  refine wpAny_bind (wpAny_holding ?_)
  unfold Builtin.List.listLengthHint
  refine wpAny_bind (wpAny_specialOf hT zip_no_len ?_)
  show wpAny _ _ (specialOf (Value.ref z) (Str.ofString "__length_hint__") >>= _) _ _ _
  refine wpAny_bind (wpAny_specialOf hT zip_no_hint (wpAny_pure ?_))
  obtain ⟨z0, its, k, r3, hl3, e3⟩ := I.lstM lq
  cases r3
  refine wpAny_ite_split (fun _ => ?_) (fun _ => wpAny_pure ⟨plainId_quiet PySem.F.plain_extend_loop _, startZ hh D ha hb hl h1 hn q0 hdone I lq hz hTI hTO t1 t2 fp sm⟩)
  refine wpAny_bind (wpAny_rule (wpAny_bind ?_))
  show wpAny _ _ (updateSeq q (·.push .none) >>= fun _ => updateSeq q (·.pop)) _ _ _
  refine wpAny_bind (wpAny_updateSeq e3 rfl ?_)
  have I2 := I.lset (f := (·.push Value.none)) (its' := [Value.none]) (ys := [.non]) (t' := s.toks) lq e3 (by simp) (.cons rfl .nil) (by rw [List.length_singleton, sizeLine_eq]; decide)
  obtain ⟨z4, its4, k4, r4, hl4, e4⟩ := I2.lstM upd_same
  obtain ⟨u4, rfl, ru4⟩ := r4.one
  refine wpAny_updateSeq e4 rfl ?_ (by show 1 ≤ sizeLine; rw [sizeLine_eq]; decide) (by show 0 ≤ sizeLine + 1; exact Nat.zero_le _)
  have I3 := I2.lset (f := (·.pop)) (its := [u4]) (its' := []) (ys := []) (t' := s.toks) upd_same e4 (by rfl) .nil (Nat.zero_le _)
  rw [upd_upd] at I3
  have hH : upd H q (.lst []) = H := by
    funext c
    by_cases hc : c = q
    · rw [hc, upd_same, lq]
    · rw [upd_ne hc]
  rw [hH] at I3
  have up : ∀ c o, c ≠ q → s.heap.get? c = some o → ((s.heap.update q (Obj.mapSeq (·.push Value.none))).update q (Obj.mapSeq (·.pop))).get? c = some o := fun c o n e => (Heap.get?_update_other _ _ (Ne.symm n)).trans ((Heap.get?_update_other _ _ (Ne.symm n)).trans e)
  refine wpAny_pure ⟨plainId_quiet PySem.F.plain_extend_loop _, startZ hh D ha hb hl h1 hn q0 hdone I3 lq (up _ _ (qf z (by simp)) hz) (up _ _ (qf TI (by simp)) hTI) (up _ _ (qf TO (by simp)) hTO) (t1.at fun o e => up _ o (qf i1 (by simp)) e) (t2.at fun o e => up _ o (qf i2 (by simp)) e) fp sm⟩
end
end Zn
namespace Gd
open PySem PySem.Spec PyProof.Rows L2
def tLZip (K : PySem.W.Frag) (ta : TA) : TE := fun σ H Q => ta σ H fun vs H1 => ∃ (a b : Addr) (xs ys : List V), vs = [.ref a, .ref b] ∧ SqT K H1 a xs ∧ SqL K H1 b ys ∧ xs.length = ys.length ∧ 1 ≤ xs.length ∧ xs.length ≤ 1000 ∧
  ∀ (G : Hp) (D : Addr) (ps : List Addr), Same H1 G → G D = some (.lst (ps.map V.ref)) → ps.length = xs.length → (∀ (i : Nat) p x y, ps[i]? = some p → xs[i]? = some x → ys[i]? = some y → SqT K G p [x, y]) → Q (.ref D) G
theorem pe_lzip {X : Cx} {e e2 : Expr} {ta : TA} {p p2 q pos : Pos} (hc : X.calm = true) (hg : Gl X "list") (hm : X.mg "list" = none) (hg2 : Gl X "zip") (hm2 : X.mg "zip" = none) (ha : PA X [e, e2] ta)
    (hs : starEach [e, e2] X.env = (false, eval e X.env) :: starEach [e2] X.env := by rfl) (hpl : (backTo q (starEach [e2] X.env)).any (·.1) = false := by rfl) :
    PE X (.Call (.Name "list" p) [.Call (.Name "zip" p2) [e, e2] [] q] [] pos) (tLZip X.K ta) := by
  refine ⟨fun pins s σ H Q I h => ?_⟩
  refine Call_ (ld_blt I hg hm boot_list (PyProof.Rows.callWith_type1 (PyProof.Rows.args_cons ?_ rfl) rfl))
  refine Call_ (ld_blt I hg2 hm2 PyProof.Rows.boot_zip (PyProof.Rows.callWith_type1 (thn (ha.run q pins s σ H _ I h) fun us s1 ⟨vs, H1, I1, r1, q1⟩ => ?_) hs hpl))
  obtain ⟨a, b, xs, ys, ex, hxs, hys, hl, h1, hn, fin⟩ := q1
  subst ex
  cases r1 with
  | cons r rr =>
  cases rr with
  | cons r' rr =>
  cases rr
  cases r
  cases r'
  obtain ⟨its, rv, p1, _⟩ := I1.tuple hxs
  obtain ⟨its2, rv2, pl2, _⟩ := I1.list hys
  obtain ⟨oo1, ho1, _⟩ := id p1
  refine Zn.call_mix p1 pl2.isList fun h' hz hTI hTO t1 t2 hsz hk => PyProof.Rows.args_nil ?_
  have D := PySem.W.ktu_apart s1.heap.objs.size a b (Heap.lt_size ho1) pl2.lt
  have I2 : Inv X pins σ H1 { s1 with heap := h' } := I1.kept (t' := s1.toks) hk
  generalize hS0 : ({ s1 with heap := h' } : Shared) = S0 at I2
  have eh : S0.heap = h' := by rw [← hS0]
  rw [← eh] at hz hTI hTO t1 t2 hsz
  refine callType_codes (Q₁ := fun obj s₁ => obj = .ref S0.heap.objs.size ∧ s₁ = { S0 with heap := S0.heap.push { cls := .type "list", data := .seq #[] } }) PySem.F.called_list (PySem.F.typeCall_list_1 _) PySem.F.entry_list_init (code_list_new _ ⟨rfl, rfl⟩) fun obj s₁ h₁ => ?_
  obtain ⟨rfl, rfl⟩ := h₁
  have hS : (S0.heap.push { cls := .type "list", data := .seq #[] }).get? S0.heap.objs.size = some { cls := .type "list", data := .seq #[] } := Heap.get?_push_size _ rfl
  refine ⟨⟨_, hS, rfl⟩, PySem.F.args_list_init_2 _ _, ?_⟩
  have fr : H1 S0.heap.objs.size = none := I2.hok.fresh (Nat.le_refl _)
  have I3 : Inv X pins σ (upd H1 S0.heap.objs.size (.lst [])) { S0 with heap := S0.heap.push { cls := .type "list", data := .seq #[] } } := I2.lnew (its := []) (t' := S0.toks) .nil (Nat.zero_le _)
  show wpAny _ _ (do let old ← Builtin.List.listItems (.ref S0.heap.objs.size); Builtin.List.listUpdate (.ref S0.heap.objs.size) (fun _ => #[]); letGo old.toList.reverse; Builtin.List.listExtendWith (.ref S0.heap.objs.size) (.ref (s1.heap.objs.size + 4)) .none) _ _ _
  refine wpAny_bind ?_
  unfold Builtin.List.listItems
  refine wpAny_bind (wpAny_seqItems hS rfl (wpAny_pure ?_))
  show wpAny _ _ (updateSeq S0.heap.objs.size (fun _ => #[]) >>= fun _ => letGo (#[] : Array Value).toList.reverse >>= fun _ => Builtin.List.listExtendWith (.ref S0.heap.objs.size) (.ref (s1.heap.objs.size + 4)) .none) _ _ _
  refine wpAny_bind (wpAny_updateSeq hS rfl ?_)
  have I4 := I3.lset (f := fun _ => #[]) (its := []) (its' := []) (ys := []) (t' := S0.toks) upd_same hS rfl .nil (Nat.zero_le _)
  rw [upd_upd] at I4
  refine wpAny_bind (wpAny_letGo ?_)
  have up : ∀ c o, c < S0.heap.objs.size → S0.heap.get? c = some o → ((S0.heap.push { cls := .type "list", data := .seq #[] }).update S0.heap.objs.size (Obj.mapSeq (fun _ => #[]))).get? c = some o := fun c o n e => (Heap.get?_update_other _ _ (Nat.ne_of_gt n)).trans (Heap.get?_push_of_some _ e)
  have bd : ∀ c ∈ [s1.heap.objs.size + 4, s1.heap.objs.size + 2, s1.heap.objs.size + 3, s1.heap.objs.size, s1.heap.objs.size + 1], s1.heap.objs.size ≤ c ∧ c < S0.heap.objs.size := fun c hcm => by
    simp only [List.mem_cons, List.not_mem_nil, or_false] at hcm
    omega
  have fp : ∀ c ∈ [s1.heap.objs.size + 4, s1.heap.objs.size + 2, s1.heap.objs.size + 3, s1.heap.objs.size, s1.heap.objs.size + 1], FpOk X pins (upd H1 S0.heap.objs.size (.lst [])) c := fun c hcm =>
    Zn.fpOk_upd (I1.fpOk (bd c hcm).1 (I1.hok.fresh (bd c hcm).1)) (Nat.ne_of_lt (bd c hcm).2)
  exact Zn.extendZ (A1 := X.A.in1) (Rs := wants (fun r s₂ => r = .none ∧ EP X pins σ Q (.ref S0.heap.objs.size) s₂) X.xe) (I1.ok.hd hc) D hxs hys hl h1 hn fr
    (fun G s' ps I' sm g pl prs => ⟨rfl, .ref S0.heap.objs.size, G, I', rfl, fin G _ ps sm g pl prs⟩) I4 upd_same (up _ _ (bd _ (by simp)).2 hz) (up _ _ (bd _ (by simp)).2 hTI) (up _ _ (bd _ (by simp)).2 hTO) (t1.at fun o e => up _ o (bd _ (by simp)).2 e) (t2.at fun o e => up _ o (bd _ (by simp)).2 e) fp (same_new fr)
end Gd
namespace K20
open PySem PySem.Spec PyProof.Rows L2 Gd
/-- a table of drawn names and lots -/
theorem table_ok {kk : Nat} {ks ss : List Str} {lots : List (List Int)} (k1 : 1 ≤ kk) (k8 : kk ≤ 8) (l12 : lots.length ≤ 12) (gk : GoodN kk ks) (ak : AscS ks) (gs : GoodN lots.length ss) (as : AscS ss) (lo : ∀ l ∈ lots, LotOk kk l) : TOk ⟨ks, ss.zip lots⟩ := by
  have ls : ss.length = lots.length := gs.1
  have nm : (ss.zip lots).map (·.1) = ss := List.map_fst_zip (by omega)
  have mem : ∀ p ∈ ss.zip lots, p.1 ∈ ss ∧ p.2 ∈ lots := fun p hp => ⟨(List.of_mem_zip (a := p.1) (b := p.2) hp).1, (List.of_mem_zip (a := p.1) (b := p.2) hp).2⟩
  refine ⟨?_, ?_, gk.2.1, ak, ?_, fun p hp => gs.2.1 _ (mem p hp).1, ?_, fun p hp => (lo _ (mem p hp).2).1, fun p hp n hn => ?_⟩
  · show 1 ≤ ks.length
    rw [gk.1]
    exact k1
  · show ks.length ≤ 8
    rw [gk.1]
    exact k8
  · show (ss.zip lots).length ≤ 12
    rw [List.length_zip]
    omega
  · show AscS ((ss.zip lots).map (·.1))
    rw [nm]
    exact as
  · show 0 ≤ n ∧ n < (ks.length : Int)
    rw [gk.1]
    exact (lo _ (mem p hp).2).2 n hn
theorem zip_types {K : PySem.W.Frag} {G : Hp} : ∀ {ss : List Str} {lots : List (List Int)} {ps : List Addr} {us : List V}, DpAll K G us (lotsD lots) → ss.length = lots.length → ps.length = ss.length →
    (∀ (i : Nat) p x y, ps[i]? = some p → (ss.map V.str)[i]? = some x → us[i]? = some y → SqT K G p [x, y]) → DpAll K G (ps.map V.ref) ((ss.zip lots).map typeD)
  | [], [], [], _, _, _, _, _ => .nil
  | s :: ss, l :: lots, p :: ps, u :: us, h, h1, h2, h3 => by
    cases h with
    | cons a r =>
      refine .cons (.tup (h3 0 p (.str s) u rfl rfl rfl) (.cons (.str s) (.cons a .nil))) ?_
      exact zip_types (ss := ss) (lots := lots) (ps := ps) (us := us) r (by simpa using h1) (by simpa using h2) fun i p' x y e1 e2 e3 => h3 (i + 1) p' x y (by simpa using e1) (by simpa using e2) (by simpa using e3)
section
variable {P : Program} {w : World} {K : PySem.W.Frag} {mg : Str → Option Value} {base : Heap}
/-! ### _law_table -/
theorem ok_table {f C fI fM : Addr} {fd fdI fdM : FuncData} {k : Nat} (F : Fun K "_law_table" "_law_table" s__law_table f fd) (M : Mk K C fI) (T : TTxt K mg C) (bI : Binds K fdI ["self", "kinds", "types"] []) (GI : FnOk P w K mg base CX0 k fI fdI ["self", "kinds", "types"] (spTInit K C))
    (FM : Fun K "_law_names" "_law_names" s__law_names fM fdM) (bM : Binds K fdM ["heap", "many"] []) (gM : mg "_law_names" = some (.ref fM)) (GM : FnOk P w K mg base CX0 (k + 1) fM fdM ["heap", "many"] (spNames K))
    (ml : mg "len" = none) (mt : mg "tuple" = none) (mL : mg "list" = none) (mz : mg "zip" = none) : FnOk P w K mg base CX0 (k + 1 + 1) f fd ["heap", "kinds", "lots"] (spTable K C) := by
  refine F.ok sc__law_table (fun vs H Q E h => ?_) (fun cdv A outer s H vs Q E hr h => ?_)
  · obtain ⟨h, l, F, L, st, kk, lots, rfl, _⟩ := h
    rfl
  · obtain ⟨h, l, F, L, st, kk, lots, rfl, hv, hL, nFh, nFl, k1, k8, l1, l12, lo, q⟩ := h
    refine blk_cons (ps_ret (pe_make (E := E0) M GI hr (by rfl) T.mgC bI .nil pass0 (pa_cons (pe_call (E := E0) GM hr (by rfl) gM FM.kp bM .nil pass0 (pa_cons (pv 0) (pa_cons (pv 1) pa_nil))) (pa_cons (pe_callTy call_tuple_of (by rfl) mt (by decide +kernel) (pa_cons (pe_lzip rfl (by rfl) mL (by rfl) mz (pa_cons (pe_call (E := E0) GM hr (by rfl) gM FM.kp bM .nil pass0 (pa_cons (pv 0) (pa_cons (pe_callB call_len_seq (by rfl) ml PySem.boot_len (pa_cons (pv 2) pa_nil)) pa_nil))) (pa_cons (pv 2) pa_nil))) pa_nil)) pa_nil)))) ?_
    refine blk_nil ?_
    obtain ⟨vs, gF, hd⟩ := id hL
    have hvl := dpAll_len hd
    unfold lotsD at hvl
    rw [List.length_map] at hvl
    refine ⟨_, rfl, _, rfl, h, l, L, st, kk, rfl, hv, by omega, fun G1 L1 st1 kq ks b1 hv1 hkq gk ak => ?_⟩
    have gF1 := b1 _ _ nFh nFl gF
    refine ⟨_, rfl, _, rfl, F, vs, rfl, .inl (sqL gF1), h, l, L1, st1, lots.length, by rw [hvl]; rfl, hv1, l12, fun G2 L2 st2 nq ss b2 hv2 hnq gs as => ?_⟩
    have b02 := b1.trans b2
    obtain ⟨us, gF2, hd2⟩ := hL.but hv b02 nFh nFl
    have hul := dpAll_len hd2
    unfold lotsD at hul
    rw [List.length_map] at hul
    have lss : ss.length = lots.length := gs.1
    have hkq2 := (KeepT.but hv1 b2).seqT hkq
    refine ⟨_, rfl, nq, F, _, us, rfl, hnq, sqL gF2, by rw [List.length_map]; omega, by rw [List.length_map]; omega, by rw [List.length_map]; omega, fun G3 D ps s3 gD pl hp => ?_⟩
    rw [List.length_map] at pl
    refine ⟨D, _, rfl, .inl ⟨sqL gD, fun tq ntq => ?_⟩⟩
    have s4 := same_new (o := .tup (ps.map V.ref)) ntq
    have dz : DpAll K G3 (ps.map V.ref) ((ss.zip lots).map typeD) := zip_types (dpAll_same s3 _ _ hd2) lss pl hp
    have s34 := s3.trans s4
    have dk : Dp K (upd G3 tq (.tup (ps.map V.ref))) (.ref kq) (kindsD ⟨ks, ss.zip lots⟩) := dp_tup_strs (same_seqT s34 hkq2)
    have dt : Dp K (upd G3 tq (.tup (ps.map V.ref))) (.ref tq) (typesD ⟨ks, ss.zip lots⟩) := .tup (sqT upd_same) (dpAll_same s4 _ _ dz)
    have b4 : But h l H (upd G3 tq (.tup (ps.map V.ref))) := b02.same s34
    have hv4 := hv2.same s34
    generalize upd G3 tq (.tup (ps.map V.ref)) = G4 at dk dt b4 hv4 ⊢
    intro p dx np ndx nex
    have s5 : Same G4 (upd (upd G4 dx (.own p)) p (.ins C dx [])) := (same_new ndx).trans (same_new ((upd_ne (Ne.symm nex)).trans np))
    refine ⟨p, dx, kq, tq, ⟨ks, ss.zip lots⟩, rfl, upd_same, dp_same s5 _ _ dk, dp_same s5 _ _ dt, table_ok k1 k8 l12 gk ak gs as lo, fun G6 keep tb6 => ⟨rfl, ?_⟩⟩
    have s6 : Same G4 G6 := fun b o e => keep b o (ne_of_none e np) (s5 _ _ e)
    exact q G6 L2 st2 p dx kq tq ⟨ks, ss.zip lots⟩ (b4.same s6) (hv4.same s6) tb6 (table_ok k1 k8 l12 gk ak gs as lo) gk.1 (List.map_snd_zip (by omega))
end
end K20
namespace K20
open PySem PySem.Spec PyProof.Rows L2 Gd
set_option maxHeartbeats 0 in
theorem all_mk {l : PySem.W.OpenLaw} {w : World} {K : PySem.W.Frag} {h : Heap} {mg : Str → Option Value} {fa C CW CF CD f_is_number f_is_number_below f_is_name f_is_tuple_of f_is_ascending f_are_numbers_below f_is_lot_below f_is_lot_of_names f_Refused_init f_units_in f_Table_init f_is_type_pair f_accepted f_takers f_types_of_kinds f_offered_kinds f_least_kinds f_lacking_taker f_wrong_row f__law_heap f__law_draw f__law_pick f__law_names f__law_lots f__law_table f__law_subsets f__law_most f__law_forest_lots f__law_takers f__law_inside f__law_least f__law_heard f__law_less f__law_all_regret f__law_is_row f__law_later_right f__law_request_right f_law : Addr} (X : K.In h) (G : h.Ns mainGlobals mg) (hfa : mg "law" = some (.ref fa))
    {nmF qnF : Str} {NnF : Addr} {bsF : List Value} {snF : List Str} {subF : List Value} {abF : Bool} {colF : Option Bool} {ddF : Option Addr} {m0F m1F m2F m3F m5F : Option Value}
    {t_MOST_LETTERS t_MOST_KINDS t_MOST_TYPES : Tok}
    {od_is_number an_is_number od_is_number_below an_is_number_below od_is_name an_is_name od_is_tuple_of an_is_tuple_of od_is_ascending an_is_ascending od_are_numbers_below an_are_numbers_below od_is_lot_below an_is_lot_below od_is_lot_of_names an_is_lot_of_names od_Refused_init an_Refused_init od_units_in an_units_in od_Table_init an_Table_init od_is_type_pair an_is_type_pair od_accepted an_accepted od_takers an_takers od_types_of_kinds an_types_of_kinds od_offered_kinds an_offered_kinds od_least_kinds an_least_kinds od_lacking_taker an_lacking_taker od_wrong_row an_wrong_row od__law_heap an__law_heap od__law_draw an__law_draw od__law_pick an__law_pick od__law_names an__law_names od__law_lots an__law_lots od__law_table an__law_table od__law_subsets an__law_subsets od__law_most an__law_most od__law_forest_lots an__law_forest_lots od__law_takers an__law_takers od__law_inside an__law_inside od__law_least an__law_least od__law_heard an__law_heard od__law_less an__law_less od__law_all_regret an__law_all_regret od__law_is_row an__law_is_row od__law_later_right an__law_later_right od__law_request_right an__law_request_right od_law an_law : Option Addr} {sl_is_number sl_is_number_below sl_is_name sl_is_tuple_of sl_is_ascending sl_are_numbers_below sl_is_lot_below sl_is_lot_of_names sl_Refused_init sl_units_in sl_Table_init sl_is_type_pair sl_accepted sl_takers sl_types_of_kinds sl_offered_kinds sl_least_kinds sl_lacking_taker sl_wrong_row sl__law_heap sl__law_draw sl__law_pick sl__law_names sl__law_lots sl__law_table sl__law_subsets sl__law_most sl__law_forest_lots sl__law_takers sl__law_inside sl__law_least sl__law_heard sl__law_less sl__law_all_regret sl__law_is_row sl__law_later_right sl__law_request_right sl_law : Array (Option Value)} {oc_is_number kV_is_number dc_is_number pm_is_number ct_is_number cd_is_number oc_is_number_below kV_is_number_below dc_is_number_below pm_is_number_below ct_is_number_below cd_is_number_below oc_is_name kV_is_name dc_is_name pm_is_name ct_is_name cd_is_name oc_is_tuple_of kV_is_tuple_of dc_is_tuple_of pm_is_tuple_of ct_is_tuple_of cd_is_tuple_of oc_is_ascending kV_is_ascending dc_is_ascending pm_is_ascending ct_is_ascending cd_is_ascending oc_are_numbers_below kV_are_numbers_below dc_are_numbers_below pm_are_numbers_below ct_are_numbers_below cd_are_numbers_below oc_is_lot_below kV_is_lot_below dc_is_lot_below pm_is_lot_below ct_is_lot_below cd_is_lot_below oc_is_lot_of_names kV_is_lot_of_names dc_is_lot_of_names pm_is_lot_of_names ct_is_lot_of_names cd_is_lot_of_names oc_Refused_init kV_Refused_init dc_Refused_init pm_Refused_init ct_Refused_init cd_Refused_init oc_units_in kV_units_in dc_units_in pm_units_in ct_units_in cd_units_in oc_Table_init kV_Table_init dc_Table_init pm_Table_init ct_Table_init cd_Table_init oc_is_type_pair kV_is_type_pair dc_is_type_pair pm_is_type_pair ct_is_type_pair cd_is_type_pair oc_accepted kV_accepted dc_accepted pm_accepted ct_accepted cd_accepted oc_takers kV_takers dc_takers pm_takers ct_takers cd_takers oc_types_of_kinds kV_types_of_kinds dc_types_of_kinds pm_types_of_kinds ct_types_of_kinds cd_types_of_kinds oc_offered_kinds kV_offered_kinds dc_offered_kinds pm_offered_kinds ct_offered_kinds cd_offered_kinds oc_least_kinds kV_least_kinds dc_least_kinds pm_least_kinds ct_least_kinds cd_least_kinds oc_lacking_taker kV_lacking_taker dc_lacking_taker pm_lacking_taker ct_lacking_taker cd_lacking_taker oc_wrong_row kV_wrong_row dc_wrong_row pm_wrong_row ct_wrong_row cd_wrong_row oc__law_heap kV__law_heap dc__law_heap pm__law_heap ct__law_heap cd__law_heap oc__law_draw kV__law_draw dc__law_draw pm__law_draw ct__law_draw cd__law_draw oc__law_pick kV__law_pick dc__law_pick pm__law_pick ct__law_pick cd__law_pick oc__law_names kV__law_names dc__law_names pm__law_names ct__law_names cd__law_names oc__law_lots kV__law_lots dc__law_lots pm__law_lots ct__law_lots cd__law_lots oc__law_table kV__law_table dc__law_table pm__law_table ct__law_table cd__law_table oc__law_subsets kV__law_subsets dc__law_subsets pm__law_subsets ct__law_subsets cd__law_subsets oc__law_most kV__law_most dc__law_most pm__law_most ct__law_most cd__law_most oc__law_forest_lots kV__law_forest_lots dc__law_forest_lots pm__law_forest_lots ct__law_forest_lots cd__law_forest_lots oc__law_takers kV__law_takers dc__law_takers pm__law_takers ct__law_takers cd__law_takers oc__law_inside kV__law_inside dc__law_inside pm__law_inside ct__law_inside cd__law_inside oc__law_least kV__law_least dc__law_least pm__law_least ct__law_least cd__law_least oc__law_heard kV__law_heard dc__law_heard pm__law_heard ct__law_heard cd__law_heard oc__law_less kV__law_less dc__law_less pm__law_less ct__law_less cd__law_less oc__law_all_regret kV__law_all_regret dc__law_all_regret pm__law_all_regret ct__law_all_regret cd__law_all_regret oc__law_is_row kV__law_is_row dc__law_is_row pm__law_is_row ct__law_is_row cd__law_is_row oc__law_later_right kV__law_later_right dc__law_later_right pm__law_later_right ct__law_later_right cd__law_later_right oc__law_request_right kV__law_request_right dc__law_request_right pm__law_request_right ct__law_request_right oc_law kV_law dc_law pm_law ct_law cd_law : Value}
    {cc__law_request_right P__law_request_right : Addr} {qd__law_request_right : Option Addr} {qv__law_request_right : Array Value} {qs__law_request_right : Array (Option Value)}
    (g_C : PySem.W.nsIn K mainGlobals "Table" = some (some (.ref C)))
    (g_CW : PySem.W.nsIn K mainGlobals "InvalidRow" = some (some (.ref CW)))
    (g_CF : PySem.W.nsIn K mainGlobals "Refused" = some (some (.ref CF)))
    (g_CD : PySem.W.nsIn K mainGlobals "DeskError" = some (some (.ref CD)))
    (a_is_number : PySem.W.nsIn K mainGlobals "is_number" = some (some (.ref f_is_number)))
    (l_is_number : K.lookup f_is_number = some ⟨oc_is_number, od_is_number, .func (PySem.W.fnOf "is_number" "is_number" (defArgs s_is_number) (defBody s_is_number) (defScope s_is_number) .none kV_is_number dc_is_number pm_is_number an_is_number cd_is_number ct_is_number), sl_is_number⟩)
    (c_is_number : PySem.W.codeIn K cd_is_number "is_number" = true)
    (k_is_number : PySem.W.keepIn K (.ref f_is_number) = true)
    (a_is_number_below : PySem.W.nsIn K mainGlobals "is_number_below" = some (some (.ref f_is_number_below)))
    (l_is_number_below : K.lookup f_is_number_below = some ⟨oc_is_number_below, od_is_number_below, .func (PySem.W.fnOf "is_number_below" "is_number_below" (defArgs s_is_number_below) (defBody s_is_number_below) (defScope s_is_number_below) .none kV_is_number_below dc_is_number_below pm_is_number_below an_is_number_below cd_is_number_below ct_is_number_below), sl_is_number_below⟩)
    (c_is_number_below : PySem.W.codeIn K cd_is_number_below "is_number_below" = true)
    (k_is_number_below : PySem.W.keepIn K (.ref f_is_number_below) = true)
    (a_is_name : PySem.W.nsIn K mainGlobals "is_name" = some (some (.ref f_is_name)))
    (l_is_name : K.lookup f_is_name = some ⟨oc_is_name, od_is_name, .func (PySem.W.fnOf "is_name" "is_name" (defArgs s_is_name) (defBody s_is_name) (defScope s_is_name) .none kV_is_name dc_is_name pm_is_name an_is_name cd_is_name ct_is_name), sl_is_name⟩)
    (c_is_name : PySem.W.codeIn K cd_is_name "is_name" = true)
    (k_is_name : PySem.W.keepIn K (.ref f_is_name) = true)
    (a_is_tuple_of : PySem.W.nsIn K mainGlobals "is_tuple_of" = some (some (.ref f_is_tuple_of)))
    (l_is_tuple_of : K.lookup f_is_tuple_of = some ⟨oc_is_tuple_of, od_is_tuple_of, .func (PySem.W.fnOf "is_tuple_of" "is_tuple_of" (defArgs s_is_tuple_of) (defBody s_is_tuple_of) (defScope s_is_tuple_of) .none kV_is_tuple_of dc_is_tuple_of pm_is_tuple_of an_is_tuple_of cd_is_tuple_of ct_is_tuple_of), sl_is_tuple_of⟩)
    (c_is_tuple_of : PySem.W.codeIn K cd_is_tuple_of "is_tuple_of" = true)
    (k_is_tuple_of : PySem.W.keepIn K (.ref f_is_tuple_of) = true)
    (a_is_ascending : PySem.W.nsIn K mainGlobals "is_ascending" = some (some (.ref f_is_ascending)))
    (l_is_ascending : K.lookup f_is_ascending = some ⟨oc_is_ascending, od_is_ascending, .func (PySem.W.fnOf "is_ascending" "is_ascending" (defArgs s_is_ascending) (defBody s_is_ascending) (defScope s_is_ascending) .none kV_is_ascending dc_is_ascending pm_is_ascending an_is_ascending cd_is_ascending ct_is_ascending), sl_is_ascending⟩)
    (c_is_ascending : PySem.W.codeIn K cd_is_ascending "is_ascending" = true)
    (k_is_ascending : PySem.W.keepIn K (.ref f_is_ascending) = true)
    (a_are_numbers_below : PySem.W.nsIn K mainGlobals "are_numbers_below" = some (some (.ref f_are_numbers_below)))
    (l_are_numbers_below : K.lookup f_are_numbers_below = some ⟨oc_are_numbers_below, od_are_numbers_below, .func (PySem.W.fnOf "are_numbers_below" "are_numbers_below" (defArgs s_are_numbers_below) (defBody s_are_numbers_below) (defScope s_are_numbers_below) .none kV_are_numbers_below dc_are_numbers_below pm_are_numbers_below an_are_numbers_below cd_are_numbers_below ct_are_numbers_below), sl_are_numbers_below⟩)
    (c_are_numbers_below : PySem.W.codeIn K cd_are_numbers_below "are_numbers_below" = true)
    (k_are_numbers_below : PySem.W.keepIn K (.ref f_are_numbers_below) = true)
    (a_is_lot_below : PySem.W.nsIn K mainGlobals "is_lot_below" = some (some (.ref f_is_lot_below)))
    (l_is_lot_below : K.lookup f_is_lot_below = some ⟨oc_is_lot_below, od_is_lot_below, .func (PySem.W.fnOf "is_lot_below" "is_lot_below" (defArgs s_is_lot_below) (defBody s_is_lot_below) (defScope s_is_lot_below) .none kV_is_lot_below dc_is_lot_below pm_is_lot_below an_is_lot_below cd_is_lot_below ct_is_lot_below), sl_is_lot_below⟩)
    (c_is_lot_below : PySem.W.codeIn K cd_is_lot_below "is_lot_below" = true)
    (k_is_lot_below : PySem.W.keepIn K (.ref f_is_lot_below) = true)
    (a_is_lot_of_names : PySem.W.nsIn K mainGlobals "is_lot_of_names" = some (some (.ref f_is_lot_of_names)))
    (l_is_lot_of_names : K.lookup f_is_lot_of_names = some ⟨oc_is_lot_of_names, od_is_lot_of_names, .func (PySem.W.fnOf "is_lot_of_names" "is_lot_of_names" (defArgs s_is_lot_of_names) (defBody s_is_lot_of_names) (defScope s_is_lot_of_names) .none kV_is_lot_of_names dc_is_lot_of_names pm_is_lot_of_names an_is_lot_of_names cd_is_lot_of_names ct_is_lot_of_names), sl_is_lot_of_names⟩)
    (c_is_lot_of_names : PySem.W.codeIn K cd_is_lot_of_names "is_lot_of_names" = true)
    (k_is_lot_of_names : PySem.W.keepIn K (.ref f_is_lot_of_names) = true)
    (a_Refused_init : PySem.W.findIn K (.ref CF) "__init__" = some (some (.ref f_Refused_init)))
    (l_Refused_init : K.lookup f_Refused_init = some ⟨oc_Refused_init, od_Refused_init, .func (PySem.W.fnOf "__init__" "Refused.__init__" (defArgs s_Refused_init) (defBody s_Refused_init) (defScope s_Refused_init) .none kV_Refused_init dc_Refused_init pm_Refused_init an_Refused_init cd_Refused_init ct_Refused_init), sl_Refused_init⟩)
    (c_Refused_init : PySem.W.codeIn K cd_Refused_init "Refused.__init__" = true)
    (k_Refused_init : PySem.W.keepIn K (.ref f_Refused_init) = true)
    (i_Refused_init : PySem.W.isFn K (.ref f_Refused_init) = true)
    (a_units_in : PySem.W.nsIn K mainGlobals "units_in" = some (some (.ref f_units_in)))
    (l_units_in : K.lookup f_units_in = some ⟨oc_units_in, od_units_in, .func (PySem.W.fnOf "units_in" "units_in" (defArgs s_units_in) (defBody s_units_in) (defScope s_units_in) .none kV_units_in dc_units_in pm_units_in an_units_in cd_units_in ct_units_in), sl_units_in⟩)
    (c_units_in : PySem.W.codeIn K cd_units_in "units_in" = true)
    (k_units_in : PySem.W.keepIn K (.ref f_units_in) = true)
    (a_Table_init : PySem.W.findIn K (.ref C) "__init__" = some (some (.ref f_Table_init)))
    (l_Table_init : K.lookup f_Table_init = some ⟨oc_Table_init, od_Table_init, .func (PySem.W.fnOf "__init__" "Table.__init__" (defArgs s_Table_init) (defBody s_Table_init) (defScope s_Table_init) .none kV_Table_init dc_Table_init pm_Table_init an_Table_init cd_Table_init ct_Table_init), sl_Table_init⟩)
    (c_Table_init : PySem.W.codeIn K cd_Table_init "Table.__init__" = true)
    (k_Table_init : PySem.W.keepIn K (.ref f_Table_init) = true)
    (i_Table_init : PySem.W.isFn K (.ref f_Table_init) = true)
    (a_is_type_pair : PySem.W.nsIn K mainGlobals "is_type_pair" = some (some (.ref f_is_type_pair)))
    (l_is_type_pair : K.lookup f_is_type_pair = some ⟨oc_is_type_pair, od_is_type_pair, .func (PySem.W.fnOf "is_type_pair" "is_type_pair" (defArgs s_is_type_pair) (defBody s_is_type_pair) (defScope s_is_type_pair) .none kV_is_type_pair dc_is_type_pair pm_is_type_pair an_is_type_pair cd_is_type_pair ct_is_type_pair), sl_is_type_pair⟩)
    (c_is_type_pair : PySem.W.codeIn K cd_is_type_pair "is_type_pair" = true)
    (k_is_type_pair : PySem.W.keepIn K (.ref f_is_type_pair) = true)
    (a_accepted : PySem.W.nsIn K mainGlobals "accepted" = some (some (.ref f_accepted)))
    (l_accepted : K.lookup f_accepted = some ⟨oc_accepted, od_accepted, .func (PySem.W.fnOf "accepted" "accepted" (defArgs s_accepted) (defBody s_accepted) (defScope s_accepted) .none kV_accepted dc_accepted pm_accepted an_accepted cd_accepted ct_accepted), sl_accepted⟩)
    (c_accepted : PySem.W.codeIn K cd_accepted "accepted" = true)
    (k_accepted : PySem.W.keepIn K (.ref f_accepted) = true)
    (a_takers : PySem.W.nsIn K mainGlobals "takers" = some (some (.ref f_takers)))
    (l_takers : K.lookup f_takers = some ⟨oc_takers, od_takers, .func (PySem.W.fnOf "takers" "takers" (defArgs s_takers) (defBody s_takers) (defScope s_takers) .none kV_takers dc_takers pm_takers an_takers cd_takers ct_takers), sl_takers⟩)
    (c_takers : PySem.W.codeIn K cd_takers "takers" = true)
    (k_takers : PySem.W.keepIn K (.ref f_takers) = true)
    (a_types_of_kinds : PySem.W.nsIn K mainGlobals "types_of_kinds" = some (some (.ref f_types_of_kinds)))
    (l_types_of_kinds : K.lookup f_types_of_kinds = some ⟨oc_types_of_kinds, od_types_of_kinds, .func (PySem.W.fnOf "types_of_kinds" "types_of_kinds" (defArgs s_types_of_kinds) (defBody s_types_of_kinds) (defScope s_types_of_kinds) .none kV_types_of_kinds dc_types_of_kinds pm_types_of_kinds an_types_of_kinds cd_types_of_kinds ct_types_of_kinds), sl_types_of_kinds⟩)
    (c_types_of_kinds : PySem.W.codeIn K cd_types_of_kinds "types_of_kinds" = true)
    (k_types_of_kinds : PySem.W.keepIn K (.ref f_types_of_kinds) = true)
    (a_offered_kinds : PySem.W.nsIn K mainGlobals "offered_kinds" = some (some (.ref f_offered_kinds)))
    (l_offered_kinds : K.lookup f_offered_kinds = some ⟨oc_offered_kinds, od_offered_kinds, .func (PySem.W.fnOf "offered_kinds" "offered_kinds" (defArgs s_offered_kinds) (defBody s_offered_kinds) (defScope s_offered_kinds) .none kV_offered_kinds dc_offered_kinds pm_offered_kinds an_offered_kinds cd_offered_kinds ct_offered_kinds), sl_offered_kinds⟩)
    (c_offered_kinds : PySem.W.codeIn K cd_offered_kinds "offered_kinds" = true)
    (k_offered_kinds : PySem.W.keepIn K (.ref f_offered_kinds) = true)
    (a_least_kinds : PySem.W.nsIn K mainGlobals "least_kinds" = some (some (.ref f_least_kinds)))
    (l_least_kinds : K.lookup f_least_kinds = some ⟨oc_least_kinds, od_least_kinds, .func (PySem.W.fnOf "least_kinds" "least_kinds" (defArgs s_least_kinds) (defBody s_least_kinds) (defScope s_least_kinds) .none kV_least_kinds dc_least_kinds pm_least_kinds an_least_kinds cd_least_kinds ct_least_kinds), sl_least_kinds⟩)
    (c_least_kinds : PySem.W.codeIn K cd_least_kinds "least_kinds" = true)
    (k_least_kinds : PySem.W.keepIn K (.ref f_least_kinds) = true)
    (a_lacking_taker : PySem.W.nsIn K mainGlobals "lacking_taker" = some (some (.ref f_lacking_taker)))
    (l_lacking_taker : K.lookup f_lacking_taker = some ⟨oc_lacking_taker, od_lacking_taker, .func (PySem.W.fnOf "lacking_taker" "lacking_taker" (defArgs s_lacking_taker) (defBody s_lacking_taker) (defScope s_lacking_taker) .none kV_lacking_taker dc_lacking_taker pm_lacking_taker an_lacking_taker cd_lacking_taker ct_lacking_taker), sl_lacking_taker⟩)
    (c_lacking_taker : PySem.W.codeIn K cd_lacking_taker "lacking_taker" = true)
    (k_lacking_taker : PySem.W.keepIn K (.ref f_lacking_taker) = true)
    (a_wrong_row : PySem.W.nsIn K mainGlobals "wrong_row" = some (some (.ref f_wrong_row)))
    (l_wrong_row : K.lookup f_wrong_row = some ⟨oc_wrong_row, od_wrong_row, .func (PySem.W.fnOf "wrong_row" "wrong_row" (defArgs s_wrong_row) (defBody s_wrong_row) (defScope s_wrong_row) .none kV_wrong_row dc_wrong_row pm_wrong_row an_wrong_row cd_wrong_row ct_wrong_row), sl_wrong_row⟩)
    (c_wrong_row : PySem.W.codeIn K cd_wrong_row "wrong_row" = true)
    (k_wrong_row : PySem.W.keepIn K (.ref f_wrong_row) = true)
    (a__law_heap : PySem.W.nsIn K mainGlobals "_law_heap" = some (some (.ref f__law_heap)))
    (l__law_heap : K.lookup f__law_heap = some ⟨oc__law_heap, od__law_heap, .func (PySem.W.fnOf "_law_heap" "_law_heap" (defArgs s__law_heap) (defBody s__law_heap) (defScope s__law_heap) .none kV__law_heap dc__law_heap pm__law_heap an__law_heap cd__law_heap ct__law_heap), sl__law_heap⟩)
    (c__law_heap : PySem.W.codeIn K cd__law_heap "_law_heap" = true)
    (k__law_heap : PySem.W.keepIn K (.ref f__law_heap) = true)
    (a__law_draw : PySem.W.nsIn K mainGlobals "_law_draw" = some (some (.ref f__law_draw)))
    (l__law_draw : K.lookup f__law_draw = some ⟨oc__law_draw, od__law_draw, .func (PySem.W.fnOf "_law_draw" "_law_draw" (defArgs s__law_draw) (defBody s__law_draw) (defScope s__law_draw) .none kV__law_draw dc__law_draw pm__law_draw an__law_draw cd__law_draw ct__law_draw), sl__law_draw⟩)
    (c__law_draw : PySem.W.codeIn K cd__law_draw "_law_draw" = true)
    (k__law_draw : PySem.W.keepIn K (.ref f__law_draw) = true)
    (a__law_pick : PySem.W.nsIn K mainGlobals "_law_pick" = some (some (.ref f__law_pick)))
    (l__law_pick : K.lookup f__law_pick = some ⟨oc__law_pick, od__law_pick, .func (PySem.W.fnOf "_law_pick" "_law_pick" (defArgs s__law_pick) (defBody s__law_pick) (defScope s__law_pick) .none kV__law_pick dc__law_pick pm__law_pick an__law_pick cd__law_pick ct__law_pick), sl__law_pick⟩)
    (c__law_pick : PySem.W.codeIn K cd__law_pick "_law_pick" = true)
    (k__law_pick : PySem.W.keepIn K (.ref f__law_pick) = true)
    (a__law_names : PySem.W.nsIn K mainGlobals "_law_names" = some (some (.ref f__law_names)))
    (l__law_names : K.lookup f__law_names = some ⟨oc__law_names, od__law_names, .func (PySem.W.fnOf "_law_names" "_law_names" (defArgs s__law_names) (defBody s__law_names) (defScope s__law_names) .none kV__law_names dc__law_names pm__law_names an__law_names cd__law_names ct__law_names), sl__law_names⟩)
    (c__law_names : PySem.W.codeIn K cd__law_names "_law_names" = true)
    (k__law_names : PySem.W.keepIn K (.ref f__law_names) = true)
    (a__law_lots : PySem.W.nsIn K mainGlobals "_law_lots" = some (some (.ref f__law_lots)))
    (l__law_lots : K.lookup f__law_lots = some ⟨oc__law_lots, od__law_lots, .func (PySem.W.fnOf "_law_lots" "_law_lots" (defArgs s__law_lots) (defBody s__law_lots) (defScope s__law_lots) .none kV__law_lots dc__law_lots pm__law_lots an__law_lots cd__law_lots ct__law_lots), sl__law_lots⟩)
    (c__law_lots : PySem.W.codeIn K cd__law_lots "_law_lots" = true)
    (k__law_lots : PySem.W.keepIn K (.ref f__law_lots) = true)
    (a__law_table : PySem.W.nsIn K mainGlobals "_law_table" = some (some (.ref f__law_table)))
    (l__law_table : K.lookup f__law_table = some ⟨oc__law_table, od__law_table, .func (PySem.W.fnOf "_law_table" "_law_table" (defArgs s__law_table) (defBody s__law_table) (defScope s__law_table) .none kV__law_table dc__law_table pm__law_table an__law_table cd__law_table ct__law_table), sl__law_table⟩)
    (c__law_table : PySem.W.codeIn K cd__law_table "_law_table" = true)
    (k__law_table : PySem.W.keepIn K (.ref f__law_table) = true)
    (a__law_subsets : PySem.W.nsIn K mainGlobals "_law_subsets" = some (some (.ref f__law_subsets)))
    (l__law_subsets : K.lookup f__law_subsets = some ⟨oc__law_subsets, od__law_subsets, .func (PySem.W.fnOf "_law_subsets" "_law_subsets" (defArgs s__law_subsets) (defBody s__law_subsets) (defScope s__law_subsets) .none kV__law_subsets dc__law_subsets pm__law_subsets an__law_subsets cd__law_subsets ct__law_subsets), sl__law_subsets⟩)
    (c__law_subsets : PySem.W.codeIn K cd__law_subsets "_law_subsets" = true)
    (k__law_subsets : PySem.W.keepIn K (.ref f__law_subsets) = true)
    (a__law_most : PySem.W.nsIn K mainGlobals "_law_most" = some (some (.ref f__law_most)))
    (l__law_most : K.lookup f__law_most = some ⟨oc__law_most, od__law_most, .func (PySem.W.fnOf "_law_most" "_law_most" (defArgs s__law_most) (defBody s__law_most) (defScope s__law_most) .none kV__law_most dc__law_most pm__law_most an__law_most cd__law_most ct__law_most), sl__law_most⟩)
    (c__law_most : PySem.W.codeIn K cd__law_most "_law_most" = true)
    (k__law_most : PySem.W.keepIn K (.ref f__law_most) = true)
    (a__law_forest_lots : PySem.W.nsIn K mainGlobals "_law_forest_lots" = some (some (.ref f__law_forest_lots)))
    (l__law_forest_lots : K.lookup f__law_forest_lots = some ⟨oc__law_forest_lots, od__law_forest_lots, .func (PySem.W.fnOf "_law_forest_lots" "_law_forest_lots" (defArgs s__law_forest_lots) (defBody s__law_forest_lots) (defScope s__law_forest_lots) .none kV__law_forest_lots dc__law_forest_lots pm__law_forest_lots an__law_forest_lots cd__law_forest_lots ct__law_forest_lots), sl__law_forest_lots⟩)
    (c__law_forest_lots : PySem.W.codeIn K cd__law_forest_lots "_law_forest_lots" = true)
    (k__law_forest_lots : PySem.W.keepIn K (.ref f__law_forest_lots) = true)
    (a__law_takers : PySem.W.nsIn K mainGlobals "_law_takers" = some (some (.ref f__law_takers)))
    (l__law_takers : K.lookup f__law_takers = some ⟨oc__law_takers, od__law_takers, .func (PySem.W.fnOf "_law_takers" "_law_takers" (defArgs s__law_takers) (defBody s__law_takers) (defScope s__law_takers) .none kV__law_takers dc__law_takers pm__law_takers an__law_takers cd__law_takers ct__law_takers), sl__law_takers⟩)
    (c__law_takers : PySem.W.codeIn K cd__law_takers "_law_takers" = true)
    (k__law_takers : PySem.W.keepIn K (.ref f__law_takers) = true)
    (a__law_inside : PySem.W.nsIn K mainGlobals "_law_inside" = some (some (.ref f__law_inside)))
    (l__law_inside : K.lookup f__law_inside = some ⟨oc__law_inside, od__law_inside, .func (PySem.W.fnOf "_law_inside" "_law_inside" (defArgs s__law_inside) (defBody s__law_inside) (defScope s__law_inside) .none kV__law_inside dc__law_inside pm__law_inside an__law_inside cd__law_inside ct__law_inside), sl__law_inside⟩)
    (c__law_inside : PySem.W.codeIn K cd__law_inside "_law_inside" = true)
    (k__law_inside : PySem.W.keepIn K (.ref f__law_inside) = true)
    (a__law_least : PySem.W.nsIn K mainGlobals "_law_least" = some (some (.ref f__law_least)))
    (l__law_least : K.lookup f__law_least = some ⟨oc__law_least, od__law_least, .func (PySem.W.fnOf "_law_least" "_law_least" (defArgs s__law_least) (defBody s__law_least) (defScope s__law_least) .none kV__law_least dc__law_least pm__law_least an__law_least cd__law_least ct__law_least), sl__law_least⟩)
    (c__law_least : PySem.W.codeIn K cd__law_least "_law_least" = true)
    (k__law_least : PySem.W.keepIn K (.ref f__law_least) = true)
    (a__law_heard : PySem.W.nsIn K mainGlobals "_law_heard" = some (some (.ref f__law_heard)))
    (l__law_heard : K.lookup f__law_heard = some ⟨oc__law_heard, od__law_heard, .func (PySem.W.fnOf "_law_heard" "_law_heard" (defArgs s__law_heard) (defBody s__law_heard) (defScope s__law_heard) .none kV__law_heard dc__law_heard pm__law_heard an__law_heard cd__law_heard ct__law_heard), sl__law_heard⟩)
    (c__law_heard : PySem.W.codeIn K cd__law_heard "_law_heard" = true)
    (k__law_heard : PySem.W.keepIn K (.ref f__law_heard) = true)
    (a__law_less : PySem.W.nsIn K mainGlobals "_law_less" = some (some (.ref f__law_less)))
    (l__law_less : K.lookup f__law_less = some ⟨oc__law_less, od__law_less, .func (PySem.W.fnOf "_law_less" "_law_less" (defArgs s__law_less) (defBody s__law_less) (defScope s__law_less) .none kV__law_less dc__law_less pm__law_less an__law_less cd__law_less ct__law_less), sl__law_less⟩)
    (c__law_less : PySem.W.codeIn K cd__law_less "_law_less" = true)
    (k__law_less : PySem.W.keepIn K (.ref f__law_less) = true)
    (a__law_all_regret : PySem.W.nsIn K mainGlobals "_law_all_regret" = some (some (.ref f__law_all_regret)))
    (l__law_all_regret : K.lookup f__law_all_regret = some ⟨oc__law_all_regret, od__law_all_regret, .func (PySem.W.fnOf "_law_all_regret" "_law_all_regret" (defArgs s__law_all_regret) (defBody s__law_all_regret) (defScope s__law_all_regret) .none kV__law_all_regret dc__law_all_regret pm__law_all_regret an__law_all_regret cd__law_all_regret ct__law_all_regret), sl__law_all_regret⟩)
    (c__law_all_regret : PySem.W.codeIn K cd__law_all_regret "_law_all_regret" = true)
    (k__law_all_regret : PySem.W.keepIn K (.ref f__law_all_regret) = true)
    (a__law_is_row : PySem.W.nsIn K mainGlobals "_law_is_row" = some (some (.ref f__law_is_row)))
    (l__law_is_row : K.lookup f__law_is_row = some ⟨oc__law_is_row, od__law_is_row, .func (PySem.W.fnOf "_law_is_row" "_law_is_row" (defArgs s__law_is_row) (defBody s__law_is_row) (defScope s__law_is_row) .none kV__law_is_row dc__law_is_row pm__law_is_row an__law_is_row cd__law_is_row ct__law_is_row), sl__law_is_row⟩)
    (c__law_is_row : PySem.W.codeIn K cd__law_is_row "_law_is_row" = true)
    (k__law_is_row : PySem.W.keepIn K (.ref f__law_is_row) = true)
    (a__law_later_right : PySem.W.nsIn K mainGlobals "_law_later_right" = some (some (.ref f__law_later_right)))
    (l__law_later_right : K.lookup f__law_later_right = some ⟨oc__law_later_right, od__law_later_right, .func (PySem.W.fnOf "_law_later_right" "_law_later_right" (defArgs s__law_later_right) (defBody s__law_later_right) (defScope s__law_later_right) .none kV__law_later_right dc__law_later_right pm__law_later_right an__law_later_right cd__law_later_right ct__law_later_right), sl__law_later_right⟩)
    (c__law_later_right : PySem.W.codeIn K cd__law_later_right "_law_later_right" = true)
    (k__law_later_right : PySem.W.keepIn K (.ref f__law_later_right) = true)
    (a__law_request_right : PySem.W.nsIn K mainGlobals "_law_request_right" = some (some (.ref f__law_request_right)))
    (l__law_request_right : K.lookup f__law_request_right = some ⟨oc__law_request_right, od__law_request_right, .func (PySem.W.fnOf "_law_request_right" "_law_request_right" (defArgs s__law_request_right) (defBody s__law_request_right) (defScope s__law_request_right) .none kV__law_request_right dc__law_request_right pm__law_request_right an__law_request_right (.ref cc__law_request_right) ct__law_request_right), sl__law_request_right⟩)
    (c__law_request_right : PySem.W.codeIn K (.ref cc__law_request_right) "_law_request_right" = true)
    (q__law_request_right : K.lookup cc__law_request_right = some ⟨.type "code", qd__law_request_right, .fields qv__law_request_right, qs__law_request_right⟩)
    (r__law_request_right : (qv__law_request_right[11]? : Option Value) = some (.ref P__law_request_right))
    (h__law_request_right : PySem.W.codeHdIn K cc__law_request_right P__law_request_right = true)
    (n__law_request_right : K.lookup P__law_request_right = none)
    (t__law_request_right : h.get? P__law_request_right = some (PySem.W.tabObj #[]))
    (k__law_request_right : PySem.W.keepIn K (.ref f__law_request_right) = true)
    (a_law : PySem.W.nsIn K mainGlobals "law" = some (some (.ref f_law)))
    (l_law : K.lookup f_law = some ⟨oc_law, od_law, .func (PySem.W.fnOf "law" "law" (defArgs s_law) (defBody s_law) (defScope s_law) .none kV_law dc_law pm_law an_law cd_law ct_law), sl_law⟩)
    (c_law : PySem.W.codeIn K cd_law "law" = true)
    (k_law : PySem.W.keepIn K (.ref f_law) = true)
    (pg : PySem.W.plainGet K C Str.empty = true)
    (hdT : PySem.W.hasDictIn K C = true)
    (po : PySem.W.plainOver K C = true)
    (sa : PySem.W.findIn K (.ref C) "__setattr__" = some (some (.builtin "object.__setattr__")))
    (mk : PySem.W.makesIn K C = true)
    (kpC : PySem.W.keepIn K (.ref C) = true)
    (nK : PySem.W.findIn K (.ref C) "kinds" = some none)
    (nT : PySem.W.findIn K (.ref C) "types" = some none)
    (xF : K.lookup CF = some (excClassObj nmF qnF CF NnF bsF [.ref CD, .type "ValueError", .type "Exception", .type "BaseException", .type "object"] true snF subF abF colF ddF m0F m1F m2F m3F m5F "ValueError.__new__"))
    (sa_F : PySem.W.findIn K (.ref CF) "__setattr__" = some (some (.builtin "object.__setattr__")))
    (exCF : PySem.W.subIn K (.ref CF) (.type "BaseException") = some true)
    (tyF : PySem.W.typeIn K (.ref CF) = some (.type "type"))
    (kCF : PySem.W.keepIn K (.ref CF) = true)
    (nAF : PySem.W.findIn K (.ref CF) "word" = some none)
    (tIF : PySem.W.typeIn K (.ref f_Refused_init) = some (.type "function"))
    (hgF : PySem.W.findIn K (.ref CF) "__getattribute__" = some (some (.builtin "BaseException.__getattribute__")))
    (hkF : PySem.W.findIn K (.ref CF) "__getattr__" = some none)
    (hdF : PySem.W.hasDictIn K CF = true)
    (sFF : PySem.W.subIn K (.ref CF) (.ref CF) = some true)
    (haF : PySem.W.findIn K (.ref CF) "__class__" = some (some (.builtin "object.__class__")))
    (hmF : PySem.W.mroIn K CF (.type "object") = some true)
    (hn : PySem.W.specialIn K (.builtin "object.__class__") "__get__" = some (some (.builtin "getset_descriptor.__get__")))
    (ht : PySem.W.takesIn K (.builtin "object.__class__") = some true)
    (iCD : PySem.W.isClsIn K CD = true)
    (tCD : PySem.W.typeIn K (.ref CD) = some (.type "type"))
    (sFD : PySem.W.subIn K (.ref CF) (.ref CD) = some true)
    (iCW : PySem.W.isClsIn K CW = true)
    (tCW : PySem.W.typeIn K (.ref CW) = some (.type "type"))
    (sFW : PySem.W.subIn K (.ref CF) (.ref CW) = some false)
    (v_MOST_LETTERS : PySem.W.nsIn K mainGlobals "MOST_LETTERS" = some (some (.int 8 t_MOST_LETTERS)))
    (v_MOST_KINDS : PySem.W.nsIn K mainGlobals "MOST_KINDS" = some (some (.int 8 t_MOST_KINDS)))
    (v_MOST_TYPES : PySem.W.nsIn K mainGlobals "MOST_TYPES" = some (some (.int 12 t_MOST_TYPES)))
    (z_int : PySem.W.nsIn K mainGlobals "int" = some none)
    (z_len : PySem.W.nsIn K mainGlobals "len" = some none)
    (z_abs : PySem.W.nsIn K mainGlobals "abs" = some none)
    (z_isinstance : PySem.W.nsIn K mainGlobals "isinstance" = some none)
    (z_bool : PySem.W.nsIn K mainGlobals "bool" = some none)
    (z_str : PySem.W.nsIn K mainGlobals "str" = some none)
    (z_all : PySem.W.nsIn K mainGlobals "all" = some none)
    (z_tuple : PySem.W.nsIn K mainGlobals "tuple" = some none)
    (z_range : PySem.W.nsIn K mainGlobals "range" = some none)
    (z_enumerate : PySem.W.nsIn K mainGlobals "enumerate" = some none)
    (z_sum : PySem.W.nsIn K mainGlobals "sum" = some none)
    (z_any : PySem.W.nsIn K mainGlobals "any" = some none)
    (z_sorted : PySem.W.nsIn K mainGlobals "sorted" = some none)
    (z_list : PySem.W.nsIn K mainGlobals "list" = some none)
    (z_min : PySem.W.nsIn K mainGlobals "min" = some none)
    (z_set : PySem.W.nsIn K mainGlobals "set" = some none)
    (z_repr : PySem.W.nsIn K mainGlobals "repr" = some none)
    (z_zip : PySem.W.nsIn K mainGlobals "zip" = some none)
    (dist : [P__law_request_right].Nodup)
    : LawG l w K 11 63 "script" mg fa h := by
  have e := hfa.symm.trans (PySem.W.mg_of X G a_law)
  cases e
  have F_is_number := fun_mk (st := s_is_number) l_is_number c_is_number k_is_number
  have F_is_number_below := fun_mk (st := s_is_number_below) l_is_number_below c_is_number_below k_is_number_below
  have F_is_name := fun_mk (st := s_is_name) l_is_name c_is_name k_is_name
  have F_is_tuple_of := fun_mk (st := s_is_tuple_of) l_is_tuple_of c_is_tuple_of k_is_tuple_of
  have F_is_ascending := fun_mk (st := s_is_ascending) l_is_ascending c_is_ascending k_is_ascending
  have F_are_numbers_below := fun_mk (st := s_are_numbers_below) l_are_numbers_below c_are_numbers_below k_are_numbers_below
  have F_is_lot_below := fun_mk (st := s_is_lot_below) l_is_lot_below c_is_lot_below k_is_lot_below
  have F_is_lot_of_names := fun_mk (st := s_is_lot_of_names) l_is_lot_of_names c_is_lot_of_names k_is_lot_of_names
  have F_Refused_init := fun_mk (st := s_Refused_init) l_Refused_init c_Refused_init k_Refused_init
  have F_units_in := fun_mk (st := s_units_in) l_units_in c_units_in k_units_in
  have F_Table_init := fun_mk (st := s_Table_init) l_Table_init c_Table_init k_Table_init
  have F_is_type_pair := fun_mk (st := s_is_type_pair) l_is_type_pair c_is_type_pair k_is_type_pair
  have F_accepted := fun_mk (st := s_accepted) l_accepted c_accepted k_accepted
  have F_takers := fun_mk (st := s_takers) l_takers c_takers k_takers
  have F_types_of_kinds := fun_mk (st := s_types_of_kinds) l_types_of_kinds c_types_of_kinds k_types_of_kinds
  have F_offered_kinds := fun_mk (st := s_offered_kinds) l_offered_kinds c_offered_kinds k_offered_kinds
  have F_least_kinds := fun_mk (st := s_least_kinds) l_least_kinds c_least_kinds k_least_kinds
  have F_lacking_taker := fun_mk (st := s_lacking_taker) l_lacking_taker c_lacking_taker k_lacking_taker
  have F_wrong_row := fun_mk (st := s_wrong_row) l_wrong_row c_wrong_row k_wrong_row
  have F__law_heap := fun_mk (st := s__law_heap) l__law_heap c__law_heap k__law_heap
  have F__law_draw := fun_mk (st := s__law_draw) l__law_draw c__law_draw k__law_draw
  have F__law_pick := fun_mk (st := s__law_pick) l__law_pick c__law_pick k__law_pick
  have F__law_names := fun_mk (st := s__law_names) l__law_names c__law_names k__law_names
  have F__law_lots := fun_mk (st := s__law_lots) l__law_lots c__law_lots k__law_lots
  have F__law_table := fun_mk (st := s__law_table) l__law_table c__law_table k__law_table
  have F__law_subsets := fun_mk (st := s__law_subsets) l__law_subsets c__law_subsets k__law_subsets
  have F__law_most := fun_mk (st := s__law_most) l__law_most c__law_most k__law_most
  have F__law_forest_lots := fun_mk (st := s__law_forest_lots) l__law_forest_lots c__law_forest_lots k__law_forest_lots
  have F__law_takers := fun_mk (st := s__law_takers) l__law_takers c__law_takers k__law_takers
  have F__law_inside := fun_mk (st := s__law_inside) l__law_inside c__law_inside k__law_inside
  have F__law_least := fun_mk (st := s__law_least) l__law_least c__law_least k__law_least
  have F__law_heard := fun_mk (st := s__law_heard) l__law_heard c__law_heard k__law_heard
  have F__law_less := fun_mk (st := s__law_less) l__law_less c__law_less k__law_less
  have F__law_all_regret := fun_mk (st := s__law_all_regret) l__law_all_regret c__law_all_regret k__law_all_regret
  have F__law_is_row := fun_mk (st := s__law_is_row) l__law_is_row c__law_is_row k__law_is_row
  have F__law_later_right := fun_mk (st := s__law_later_right) l__law_later_right c__law_later_right k__law_later_right
  have F__law_request_right := fun_mk (st := s__law_request_right) l__law_request_right c__law_request_right k__law_request_right
  have F_law := fun_mk (st := s_law) l_law c_law k_law
  have b_is_number := F_is_number.binds (ps := ["value"]) fun _ _ _ _ _ _ us hl => match us, hl with | [_], _ => rfl
  have b_is_number_below := F_is_number_below.binds (ps := ["value", "limit"]) fun _ _ _ _ _ _ us hl => match us, hl with | [_, _], _ => rfl
  have b_is_name := F_is_name.binds (ps := ["value"]) fun _ _ _ _ _ _ us hl => match us, hl with | [_], _ => rfl
  have b_is_tuple_of := F_is_tuple_of.binds (ps := ["value", "length"]) fun _ _ _ _ _ _ us hl => match us, hl with | [_, _], _ => rfl
  have b_is_ascending := F_is_ascending.binds (ps := ["items"]) fun _ _ _ _ _ _ us hl => match us, hl with | [_], _ => rfl
  have b_are_numbers_below := F_are_numbers_below.binds (ps := ["value", "limit"]) fun _ _ _ _ _ _ us hl => match us, hl with | [_, _], _ => rfl
  have b_is_lot_below := F_is_lot_below.binds (ps := ["value", "limit"]) fun _ _ _ _ _ _ us hl => match us, hl with | [_, _], _ => rfl
  have b_is_lot_of_names := F_is_lot_of_names.binds (ps := ["value"]) fun _ _ _ _ _ _ us hl => match us, hl with | [_], _ => rfl
  have b_Refused_init := F_Refused_init.binds (ps := ["self", "word"]) fun _ _ _ _ _ _ us hl => match us, hl with | [_, _], _ => rfl
  have b_units_in := F_units_in.binds (ps := ["stock", "kinds"]) fun _ _ _ _ _ _ us hl => match us, hl with | [_, _], _ => rfl
  have b_Table_init := F_Table_init.binds (ps := ["self", "kinds", "types"]) fun _ _ _ _ _ _ us hl => match us, hl with | [_, _, _], _ => rfl
  have b_is_type_pair := F_is_type_pair.binds (ps := ["value", "many_kinds"]) fun _ _ _ _ _ _ us hl => match us, hl with | [_, _], _ => rfl
  have b_accepted := F_accepted.binds (ps := ["table", "request"]) fun _ _ _ _ _ _ us hl => match us, hl with | [_, _], _ => rfl
  have b_takers := F_takers.binds (ps := ["table", "kind"]) fun _ _ _ _ _ _ us hl => match us, hl with | [_, _], _ => rfl
  have b_types_of_kinds := F_types_of_kinds.binds (ps := ["table", "kinds"]) fun _ _ _ _ _ _ us hl => match us, hl with | [_, _], _ => rfl
  have b_offered_kinds := F_offered_kinds.binds (ps := ["table", "stock", "request"]) fun _ _ _ _ _ _ us hl => match us, hl with | [_, _, _], _ => rfl
  have b_least_kinds := F_least_kinds.binds (ps := ["table", "stock", "request"]) fun _ _ _ _ _ _ us hl => match us, hl with | [_, _, _], _ => rfl
  have b_lacking_taker := F_lacking_taker.binds (ps := ["table", "kind", "others"]) fun _ _ _ _ _ _ us hl => match us, hl with | [_, _, _], _ => rfl
  have b_wrong_row := F_wrong_row.binds (ps := ["table", "stock", "request", "kind"]) fun _ _ _ _ _ _ us hl => match us, hl with | [_, _, _, _], _ => rfl
  have b__law_heap := F__law_heap.binds (ps := ["script"]) fun _ _ _ _ _ _ us hl => match us, hl with | [_], _ => rfl
  have b__law_draw := F__law_draw.binds (ps := ["heap", "many"]) fun _ _ _ _ _ _ us hl => match us, hl with | [_, _], _ => rfl
  have b__law_pick := F__law_pick.binds (ps := ["heap", "some"]) fun _ _ _ _ _ _ us hl => match us, hl with | [_, _], _ => rfl
  have b__law_names := F__law_names.binds (ps := ["heap", "many"]) fun _ _ _ _ _ _ us hl => match us, hl with | [_, _], _ => rfl
  have b__law_lots := F__law_lots.binds (ps := ["heap", "kinds", "types"]) fun _ _ _ _ _ _ us hl => match us, hl with | [_, _, _], _ => rfl
  have b__law_table := F__law_table.binds (ps := ["heap", "kinds", "lots"]) fun _ _ _ _ _ _ us hl => match us, hl with | [_, _, _], _ => rfl
  have b__law_subsets := F__law_subsets.binds (ps := ["items"]) fun _ _ _ _ _ _ us hl => match us, hl with | [_], _ => rfl
  have b__law_most := F__law_most.binds (ps := ["lots", "stock", "row"]) fun _ _ _ _ _ _ us hl => match us, hl with | [_, _, _], _ => rfl
  have b__law_forest_lots := F__law_forest_lots.binds (ps := ["heap", "kinds", "types"]) fun _ _ _ _ _ _ us hl => match us, hl with | [_, _, _], _ => rfl
  have b__law_takers := F__law_takers.binds (ps := ["lots", "kind"]) fun _ _ _ _ _ _ us hl => match us, hl with | [_, _], _ => rfl
  have b__law_inside := F__law_inside.binds (ps := ["one", "other"]) fun _ _ _ _ _ _ us hl => match us, hl with | [_, _], _ => rfl
  have b__law_least := F__law_least.binds (ps := ["lots", "left", "request"]) fun _ _ _ _ _ _ us hl => match us, hl with | [_, _, _], _ => rfl
  have b__law_heard := F__law_heard.binds (ps := ["action"]) fun _ _ _ _ _ _ us hl => match us, hl with | [_], _ => rfl
  have b__law_less := F__law_less.binds (ps := ["left", "kind"]) fun _ _ _ _ _ _ us hl => match us, hl with | [_, _], _ => rfl
  have b__law_all_regret := F__law_all_regret.binds (ps := ["lots", "stock", "request", "kind", "row"]) fun _ _ _ _ _ _ us hl => match us, hl with | [_, _, _, _, _], _ => rfl
  have b__law_is_row := F__law_is_row.binds (ps := ["lots", "value"]) fun _ _ _ _ _ _ us hl => match us, hl with | [_, _], _ => rfl
  have b__law_later_right := F__law_later_right.binds (ps := ["heap", "lots", "stock", "some", "kind"]) fun _ _ _ _ _ _ us hl => match us, hl with | [_, _, _, _, _], _ => rfl
  have b__law_request_right := F__law_request_right.binds (ps := ["heap", "table", "lots", "stock", "request", "forest"]) fun _ _ _ _ _ _ us hl => match us, hl with | [_, _, _, _, _, _], _ => rfl
  have kw_least_kinds := kwB_of (ps := ["table", "stock", "request"]) (ks := ["request", "stock", "table"]) (g := List.reverse) F_least_kinds fun _ _ _ _ _ _ ws hl => match ws, hl with | [_, _, _], _ => rfl
  have kw_wrong_row := kwB_of (ps := ["table", "stock", "request", "kind"]) (ks := ["kind", "request", "stock", "table"]) (g := List.reverse) F_wrong_row fun _ _ _ _ _ _ ws hl => match ws, hl with | [_, _, _, _], _ => rfl
  have TT : TTxt K mg C := ⟨⟨pg, hdT, po, sa⟩, nK, nT, PySem.W.mg_of X G g_C⟩
  have M : Mk K C f_Table_init := ⟨mk, a_Table_init, i_Table_init, kpC⟩
  have oxF : OexC K CF := ⟨⟨nmF, qnF, NnF, bsF, _, snF, subF, abF, colF, ddF, m0F, m1F, m2F, m3F, m5F, xF, rfl⟩, sa_F, exCF, tyF, kCF⟩
  have TR : WTxt K mg "Refused" CF f_Refused_init := ⟨oxF, nAF, a_Refused_init, tIF, PySem.W.mg_of X G g_CF⟩
  have TH : HTxt K mg CW CF CD := ⟨PySem.W.mg_of X G g_CW, PySem.W.mg_of X G g_CF, PySem.W.mg_of X G g_CD, nAF, PySem.W.exm_ref exCF hdF tyF sFF, kit_yes iCD tCD sFD, kit_no iCW tCW sFF sFW, ⟨hgF, hkF, exCF, hdF, haF, hn, ht, hmF⟩, ⟨hgF, hkF, exCF, hdF⟩⟩
  have LT__law_request_right : ∀ {base : Heap}, (∀ p ∈ ([(cc__law_request_right, P__law_request_right)] : List (Addr × Addr)), LamX.TabB base mg p.1 p.2) → LamT [(P__law_request_right, ("_law_request_right" ++ ".<locals>." ++ "<lambda>"))] base mg cc__law_request_right P__law_request_right ("_law_request_right" ++ ".<locals>." ++ "<lambda>") := fun HT => ⟨HT _ (.head _), (.head _), un_of dist (.head _)⟩
  refine ⟨PySem.W.fnOf "law" "law" (defArgs s_law) (defBody s_law) (defScope s_law) .none kV_law dc_law pm_law an_law cd_law ct_law, [(cc__law_request_right, P__law_request_right)], spLaw K [(P__law_request_right, ("_law_request_right" ++ ".<locals>." ++ "<lambda>"))], ⟨(List.forall_mem_cons.mpr ⟨t__law_request_right, (fun _ z => nomatch z)⟩), (List.forall_mem_cons.mpr ⟨n__law_request_right, (fun _ z => nomatch z)⟩), (List.forall_mem_cons.mpr ⟨PySem.W.codeHd_of_K X h__law_request_right, (fun _ z => nomatch z)⟩)⟩, fun s v => .of_eq rfl, fun H a ns hl ht hs => ⟨a, ns, rfl, hs, hl, (List.forall_mem_cons.mpr ⟨LamX.TabS.nil (ht _ (.head _)), (fun _ z => nomatch z)⟩), fun _ => rfl⟩, fun base _ _ HT => ?_⟩
  have G__law_draw := ok_draw (P := l.prog) (w := w) (mg := mg) (base := base) (k := 0) F__law_draw (PySem.W.mg_none_of X G z_int)
  have G__law_pick := ok_pick (P := l.prog) (w := w) (mg := mg) (base := base) (k := 0) F__law_pick F__law_draw b__law_draw (PySem.W.mg_of X G a__law_draw) (PySem.W.mg_none_of X G z_len) (PySem.W.mg_none_of X G z_int)
  have G__law_heap := ok_heap (P := l.prog) (w := w) (mg := mg) (base := base) (k := 0) F__law_heap (PySem.W.mg_none_of X G z_abs) (PySem.W.mg_none_of X G z_int)
  have G_is_number := ok_num (P := l.prog) (w := w) (mg := mg) (base := base) (k := 0) F_is_number (PySem.W.mg_none_of X G z_isinstance) (PySem.W.mg_none_of X G z_int) (PySem.W.mg_none_of X G z_bool)
  have G_is_number_below := ok_numB (P := l.prog) (w := w) (mg := mg) (base := base) (k := 0) F_is_number_below F_is_number b_is_number (PySem.W.mg_of X G a_is_number) (PySem.W.mg_none_of X G z_isinstance) (PySem.W.mg_none_of X G z_int) (PySem.W.mg_none_of X G z_bool)
  have G_is_name := ok_name (P := l.prog) (w := w) (mg := mg) (base := base) (k := 0) F_is_name (PySem.W.mg_of X G v_MOST_LETTERS) (PySem.W.mg_none_of X G z_isinstance) (PySem.W.mg_none_of X G z_str) (PySem.W.mg_none_of X G z_len) (PySem.W.mg_none_of X G z_all)
  have G_is_tuple_of := ok_tupOf (P := l.prog) (w := w) (mg := mg) (base := base) (k := 0) F_is_tuple_of (PySem.W.mg_none_of X G z_isinstance) (PySem.W.mg_none_of X G z_tuple) (PySem.W.mg_none_of X G z_len)
  have G_is_ascending := ok_asc (P := l.prog) (w := w) (mg := mg) (base := base) (k := 0) F_is_ascending (PySem.W.mg_none_of X G z_range) (PySem.W.mg_none_of X G z_len) (PySem.W.mg_none_of X G z_all)
  have G_are_numbers_below := ok_nums (P := l.prog) (w := w) (mg := mg) (base := base) (k := 0) F_are_numbers_below F_is_number_below F_is_number b_is_number b_is_number_below (PySem.W.mg_of X G a_is_number) (PySem.W.mg_of X G a_is_number_below) (PySem.W.mg_none_of X G z_isinstance) (PySem.W.mg_none_of X G z_int) (PySem.W.mg_none_of X G z_bool) (PySem.W.mg_none_of X G z_tuple) (PySem.W.mg_none_of X G z_all)
  have G_is_lot_below := ok_lot (P := l.prog) (w := w) (mg := mg) (base := base) (k := 0) F_is_lot_below F_are_numbers_below F_is_ascending F_is_number_below F_is_number b_are_numbers_below b_is_ascending b_is_number b_is_number_below (PySem.W.mg_of X G a_are_numbers_below) (PySem.W.mg_of X G a_is_ascending) (PySem.W.mg_of X G a_is_number) (PySem.W.mg_of X G a_is_number_below) (PySem.W.mg_none_of X G z_isinstance) (PySem.W.mg_none_of X G z_int) (PySem.W.mg_none_of X G z_bool) (PySem.W.mg_none_of X G z_tuple) (PySem.W.mg_none_of X G z_all) (PySem.W.mg_none_of X G z_range) (PySem.W.mg_none_of X G z_len)
  have G_is_lot_of_names := ok_lotN (P := l.prog) (w := w) (mg := mg) (base := base) (k := 0) F_is_lot_of_names F_is_name F_is_ascending b_is_name b_is_ascending (PySem.W.mg_of X G a_is_name) (PySem.W.mg_of X G a_is_ascending) (PySem.W.mg_of X G v_MOST_LETTERS) (PySem.W.mg_none_of X G z_isinstance) (PySem.W.mg_none_of X G z_str) (PySem.W.mg_none_of X G z_tuple) (PySem.W.mg_none_of X G z_all) (PySem.W.mg_none_of X G z_range) (PySem.W.mg_none_of X G z_len)
  have G_is_type_pair := ok_pair (P := l.prog) (w := w) (mg := mg) (base := base) (k := 4) F_is_type_pair F_is_tuple_of F_is_name F_is_lot_below b_is_tuple_of b_is_name b_is_lot_below (PySem.W.mg_of X G a_is_tuple_of) (PySem.W.mg_of X G a_is_name) (PySem.W.mg_of X G a_is_lot_below) (G_is_tuple_of.mono (by decide)) (G_is_name.mono (by decide)) (G_is_lot_below.mono (by decide))
  have G_Table_init := ok_tinit (P := l.prog) (w := w) (mg := mg) (base := base) (k := 5) F_Table_init TT F_is_lot_of_names F_is_type_pair b_is_lot_of_names b_is_type_pair (PySem.W.mg_of X G a_is_lot_of_names) (PySem.W.mg_of X G a_is_type_pair) (PySem.W.mg_of X G v_MOST_KINDS) (PySem.W.mg_of X G v_MOST_TYPES) (G_is_lot_of_names.mono (by decide)) (G_is_type_pair.mono (by decide)) (PySem.W.mg_none_of X G z_isinstance) (PySem.W.mg_none_of X G z_tuple) (PySem.W.mg_none_of X G z_len) (PySem.W.mg_none_of X G z_enumerate)
  have G_units_in := ok_units (P := l.prog) (w := w) (mg := mg) (base := base) (k := 0) F_units_in (PySem.W.mg_none_of X G z_sum)
  have G_accepted := ok_acc (P := l.prog) (w := w) (mg := mg) (base := base) (k := 0) F_accepted TT
  have G_types_of_kinds := ok_tof (P := l.prog) (w := w) (mg := mg) (base := base) (k := 0) F_types_of_kinds TT (PySem.W.mg_none_of X G z_tuple) (PySem.W.mg_none_of X G z_enumerate) (PySem.W.mg_none_of X G z_any)
  have G_takers := ok_takers (P := l.prog) (w := w) (mg := mg) (base := base) (k := 1) F_takers F_types_of_kinds b_types_of_kinds (PySem.W.mg_of X G a_types_of_kinds) (G_types_of_kinds.mono (by decide))
  have G_offered_kinds := ok_off (P := l.prog) (w := w) (mg := mg) (base := base) (k := 1) F_offered_kinds F_accepted b_accepted (PySem.W.mg_of X G a_accepted) (G_accepted.mono (by decide)) (PySem.W.mg_none_of X G z_tuple)
  have G_lacking_taker := ok_lack (P := l.prog) (w := w) (mg := mg) (base := base) (k := 2) F_lacking_taker F_accepted b_accepted (PySem.W.mg_of X G a_accepted) (G_accepted.mono (by decide)) F_takers b_takers (PySem.W.mg_of X G a_takers) (G_takers.mono (by decide)) (PySem.W.mg_none_of X G z_any)
  have G_least_kinds := ok_least (P := l.prog) (w := w) (mg := mg) (base := base) (k := 3) F_least_kinds F_offered_kinds b_offered_kinds (PySem.W.mg_of X G a_offered_kinds) (G_offered_kinds.mono (by decide)) F_lacking_taker b_lacking_taker (PySem.W.mg_of X G a_lacking_taker) (G_lacking_taker.mono (by decide)) (PySem.W.mg_none_of X G z_tuple)
  have G_Refused_init := ok_iref (P := l.prog) (w := w) (mg := mg) (base := base) (k := 0) F_Refused_init TR
  have G_wrong_row := ok_wr (P := l.prog) (w := w) (mg := mg) (base := base) (k := 2) F_wrong_row F_offered_kinds b_offered_kinds (PySem.W.mg_of X G a_offered_kinds) (G_offered_kinds.mono (by decide)) F_lacking_taker b_lacking_taker (PySem.W.mg_of X G a_lacking_taker) (G_lacking_taker.mono (by decide)) F_accepted b_accepted (PySem.W.mg_of X G a_accepted) (G_accepted.mono (by decide)) F_units_in b_units_in (PySem.W.mg_of X G a_units_in) (G_units_in.mono (by decide)) F_is_number_below b_is_number_below (PySem.W.mg_of X G a_is_number_below) (G_is_number_below.mono (by decide)) F_Refused_init TR b_Refused_init (G_Refused_init.mono (by decide)) (PySem.W.mg_none_of X G z_len)
  have G__law_names := ok_names (P := l.prog) (w := w) (mg := mg) (base := base) (k := 0) F__law_names F__law_draw F__law_pick b__law_draw b__law_pick (PySem.W.mg_of X G a__law_draw) (PySem.W.mg_of X G a__law_pick) (PySem.W.mg_none_of X G z_len) (PySem.W.mg_none_of X G z_int) (PySem.W.mg_none_of X G z_range) (PySem.W.mg_none_of X G z_tuple) (PySem.W.mg_none_of X G z_sorted)
  have G__law_lots := ok_lots (P := l.prog) (w := w) (mg := mg) (base := base) (k := 2) F__law_lots F__law_draw F__law_pick b__law_draw b__law_pick (PySem.W.mg_of X G a__law_draw) (PySem.W.mg_of X G a__law_pick) (G__law_draw.mono (by decide)) (G__law_pick.mono (by decide)) (PySem.W.mg_none_of X G z_range) (PySem.W.mg_none_of X G z_tuple)
  have G__law_forest_lots := ok_forest (P := l.prog) (w := w) (mg := mg) (base := base) (k := 2) F__law_forest_lots F__law_draw F__law_pick b__law_draw b__law_pick (PySem.W.mg_of X G a__law_draw) (PySem.W.mg_of X G a__law_pick) (G__law_draw.mono (by decide)) (G__law_pick.mono (by decide)) (PySem.W.mg_none_of X G z_range) (PySem.W.mg_none_of X G z_tuple) (PySem.W.mg_none_of X G z_list)
  have G__law_takers := ok_tk (P := l.prog) (w := w) (mg := mg) (base := base) (k := 0) F__law_takers (PySem.W.mg_none_of X G z_len) (PySem.W.mg_none_of X G z_range)
  have G__law_inside := ok_in (P := l.prog) (w := w) (mg := mg) (base := base) (k := 0) F__law_inside (PySem.W.mg_none_of X G z_all)
  have G__law_least := ok_lst (P := l.prog) (w := w) (mg := mg) (base := base) (k := 1) F__law_least F__law_takers b__law_takers (PySem.W.mg_of X G a__law_takers) (G__law_takers.mono (by decide)) F__law_inside b__law_inside (PySem.W.mg_of X G a__law_inside) (G__law_inside.mono (by decide)) (PySem.W.mg_none_of X G z_all)
  have G__law_less := ok_less (P := l.prog) (w := w) (mg := mg) (base := base) (k := 0) F__law_less
  have G__law_is_row := ok_isrow (P := l.prog) (w := w) (mg := mg) (base := base) (k := 0) F__law_is_row (PySem.W.mg_none_of X G z_all) (PySem.W.mg_none_of X G z_len) (PySem.W.mg_none_of X G z_isinstance) (PySem.W.mg_none_of X G z_int) (PySem.W.mg_none_of X G z_bool) (PySem.W.mg_none_of X G z_tuple)
  have G__law_subsets := ok_sub (P := l.prog) (w := w) (mg := mg) (base := base) (k := 0) F__law_subsets
  have G__law_most := ok_most (P := l.prog) (w := w) (mg := mg) (base := base) (k := 1) F__law_most F__law_subsets b__law_subsets (PySem.W.mg_of X G a__law_subsets) (G__law_subsets.mono (by decide)) (PySem.W.mg_none_of X G z_len) (PySem.W.mg_none_of X G z_range) (PySem.W.mg_none_of X G z_any) (PySem.W.mg_none_of X G z_sum) (PySem.W.mg_none_of X G z_min) (PySem.W.mg_none_of X G z_sorted) (PySem.W.mg_none_of X G z_set)
  have G__law_all_regret := ok_reg (P := l.prog) (w := w) (mg := mg) (base := base) (k := 2) F__law_all_regret F__law_most b__law_most (PySem.W.mg_of X G a__law_most) (G__law_most.mono (by decide)) F__law_less b__law_less (PySem.W.mg_of X G a__law_less) (G__law_less.mono (by decide)) (PySem.W.mg_none_of X G z_len)
  have G__law_later_right := ok_later (P := l.prog) (w := w) (mg := mg) (base := base) (k := 2) F__law_later_right F__law_draw b__law_draw (PySem.W.mg_of X G a__law_draw) (G__law_draw.mono (by decide)) F__law_most b__law_most (PySem.W.mg_of X G a__law_most) (G__law_most.mono (by decide)) F__law_less b__law_less (PySem.W.mg_of X G a__law_less) (G__law_less.mono (by decide)) (PySem.W.mg_none_of X G z_len) (PySem.W.mg_none_of X G z_range) (PySem.W.mg_none_of X G z_all) (PySem.W.mg_none_of X G z_tuple)
  have G__law_request_right := ok_rr (P := l.prog) (w := w) (mg := mg) (base := base) (k := 4) F__law_request_right rfl (LT__law_request_right HT) F_least_kinds b_least_kinds kw_least_kinds (PySem.W.mg_of X G a_least_kinds) (G_least_kinds.mono (by decide)) F_wrong_row b_wrong_row kw_wrong_row (PySem.W.mg_of X G a_wrong_row) (G_wrong_row.mono (by decide)) F__law_later_right b__law_later_right (PySem.W.mg_of X G a__law_later_right) (G__law_later_right.mono (by decide)) F__law_is_row b__law_is_row (PySem.W.mg_of X G a__law_is_row) (G__law_is_row.mono (by decide)) F__law_all_regret b__law_all_regret (PySem.W.mg_of X G a__law_all_regret) (G__law_all_regret.mono (by decide)) F__law_least b__law_least (PySem.W.mg_of X G a__law_least) (G__law_least.mono (by decide)) F__law_pick b__law_pick (PySem.W.mg_of X G a__law_pick) (G__law_pick.mono (by decide)) F__law_heard b__law_heard (PySem.W.mg_of X G a__law_heard) TH (PySem.W.mg_none_of X G z_isinstance) (PySem.W.mg_none_of X G z_len) (PySem.W.mg_none_of X G z_range) (PySem.W.mg_none_of X G z_tuple) (PySem.W.mg_none_of X G z_repr)
  have G__law_table := ok_table (P := l.prog) (w := w) (mg := mg) (base := base) (k := 6) F__law_table M TT b_Table_init (G_Table_init.mono (by decide)) F__law_names b__law_names (PySem.W.mg_of X G a__law_names) (G__law_names.mono (by decide)) (PySem.W.mg_none_of X G z_len) (PySem.W.mg_none_of X G z_tuple) (PySem.W.mg_none_of X G z_list) (PySem.W.mg_none_of X G z_zip)
  have G_law := ok_law (P := l.prog) (w := w) (mg := mg) (base := base) (k := 8) F_law M TT b_Table_init (G_Table_init.mono (by decide)) F__law_heap b__law_heap (PySem.W.mg_of X G a__law_heap) (G__law_heap.mono (by decide)) F__law_draw b__law_draw (PySem.W.mg_of X G a__law_draw) (G__law_draw.mono (by decide)) F__law_pick b__law_pick (PySem.W.mg_of X G a__law_pick) (G__law_pick.mono (by decide)) F__law_forest_lots b__law_forest_lots (PySem.W.mg_of X G a__law_forest_lots) (G__law_forest_lots.mono (by decide)) F__law_lots b__law_lots (PySem.W.mg_of X G a__law_lots) (G__law_lots.mono (by decide)) F__law_table b__law_table (PySem.W.mg_of X G a__law_table) (G__law_table.mono (by decide)) F__law_request_right b__law_request_right (PySem.W.mg_of X G a__law_request_right) (G__law_request_right.mono (by decide)) F_least_kinds b_least_kinds (PySem.W.mg_of X G a_least_kinds) (G_least_kinds.mono (by decide)) F_wrong_row b_wrong_row (PySem.W.mg_of X G a_wrong_row) (G_wrong_row.mono (by decide)) F__law_is_row b__law_is_row (PySem.W.mg_of X G a__law_is_row) (G__law_is_row.mono (by decide)) F__law_all_regret b__law_all_regret (PySem.W.mg_of X G a__law_all_regret) (G__law_all_regret.mono (by decide)) (PySem.W.mg_none_of X G z_len) (PySem.W.mg_none_of X G z_int) (PySem.W.mg_none_of X G z_range) (PySem.W.mg_none_of X G z_tuple)
  exact G_law
end K20
open PySem PySem.W PyProof.Rows
set_option maxHeartbeats 0 in
theorem PySem.Challenge.cw_neverregret_k20_whole_least_kinds_and_wr_holds : PySem.Challenge.rw_neverregret_k20_whole_least_kinds_and_wr.Holds := by
  w_on; o_law; k_head; (case hw => w_witness2)
  k_fill
  refine Gd.walk_GT (l := PySem.Challenge.rw_neverregret_k20_whole_least_kinds_and_wr) (n := 63) (k := 11) (x := "script") rfl (by decide) rfl ⟨rfl, by decide, by decide⟩ (fun w h Y => PySem.W.km_in_of Y) ?F
  case F =>
    intro w mg fa h Y KX G hmg
    refine' K20.all_mk KX G hmg ?g_C ?g_CW ?g_CF ?g_CD ?a_is_number ?l_is_number ?c_is_number ?k_is_number ?a_is_number_below ?l_is_number_below ?c_is_number_below ?k_is_number_below ?a_is_name ?l_is_name ?c_is_name ?k_is_name ?a_is_tuple_of ?l_is_tuple_of ?c_is_tuple_of ?k_is_tuple_of ?a_is_ascending ?l_is_ascending ?c_is_ascending ?k_is_ascending ?a_are_numbers_below ?l_are_numbers_below ?c_are_numbers_below ?k_are_numbers_below ?a_is_lot_below ?l_is_lot_below ?c_is_lot_below ?k_is_lot_below ?a_is_lot_of_names ?l_is_lot_of_names ?c_is_lot_of_names ?k_is_lot_of_names ?a_Refused_init ?l_Refused_init ?c_Refused_init ?k_Refused_init ?i_Refused_init ?a_units_in ?l_units_in ?c_units_in ?k_units_in ?a_Table_init ?l_Table_init ?c_Table_init ?k_Table_init ?i_Table_init ?a_is_type_pair ?l_is_type_pair ?c_is_type_pair ?k_is_type_pair ?a_accepted ?l_accepted ?c_accepted ?k_accepted ?a_takers ?l_takers ?c_takers ?k_takers ?a_types_of_kinds ?l_types_of_kinds ?c_types_of_kinds ?k_types_of_kinds ?a_offered_kinds ?l_offered_kinds ?c_offered_kinds ?k_offered_kinds ?a_least_kinds ?l_least_kinds ?c_least_kinds ?k_least_kinds ?a_lacking_taker ?l_lacking_taker ?c_lacking_taker ?k_lacking_taker ?a_wrong_row ?l_wrong_row ?c_wrong_row ?k_wrong_row ?a__law_heap ?l__law_heap ?c__law_heap ?k__law_heap ?a__law_draw ?l__law_draw ?c__law_draw ?k__law_draw ?a__law_pick ?l__law_pick ?c__law_pick ?k__law_pick ?a__law_names ?l__law_names ?c__law_names ?k__law_names ?a__law_lots ?l__law_lots ?c__law_lots ?k__law_lots ?a__law_table ?l__law_table ?c__law_table ?k__law_table ?a__law_subsets ?l__law_subsets ?c__law_subsets ?k__law_subsets ?a__law_most ?l__law_most ?c__law_most ?k__law_most ?a__law_forest_lots ?l__law_forest_lots ?c__law_forest_lots ?k__law_forest_lots ?a__law_takers ?l__law_takers ?c__law_takers ?k__law_takers ?a__law_inside ?l__law_inside ?c__law_inside ?k__law_inside ?a__law_least ?l__law_least ?c__law_least ?k__law_least ?a__law_heard ?l__law_heard ?c__law_heard ?k__law_heard ?a__law_less ?l__law_less ?c__law_less ?k__law_less ?a__law_all_regret ?l__law_all_regret ?c__law_all_regret ?k__law_all_regret ?a__law_is_row ?l__law_is_row ?c__law_is_row ?k__law_is_row ?a__law_later_right ?l__law_later_right ?c__law_later_right ?k__law_later_right ?a__law_request_right ?l__law_request_right ?c__law_request_right ?q__law_request_right ?r__law_request_right ?h__law_request_right ?n__law_request_right ?t__law_request_right ?k__law_request_right ?a_law ?l_law ?c_law ?k_law ?pg ?hdT ?po ?sa ?mk ?kpC ?nK ?nT ?xF ?sa_F ?exCF ?tyF ?kCF ?nAF ?tIF ?hgF ?hkF ?hdF ?sFF ?haF ?hmF ?hn ?ht ?iCD ?tCD ?sFD ?iCW ?tCW ?sFW ?v_MOST_LETTERS ?v_MOST_KINDS ?v_MOST_TYPES ?z_int ?z_len ?z_abs ?z_isinstance ?z_bool ?z_str ?z_all ?z_tuple ?z_range ?z_enumerate ?z_sum ?z_any ?z_sorted ?z_list ?z_min ?z_set ?z_repr ?z_zip ?dist
    (case g_C => k_is); (case g_CW => k_is); (case g_CF => k_is); (case g_CD => k_is); (case a_is_number => k_is); (case l_is_number => k_is); (case c_is_number => k_is); (case k_is_number => k_is); (case a_is_number_below => k_is); (case l_is_number_below => k_is); (case c_is_number_below => k_is); (case k_is_number_below => k_is); (case a_is_name => k_is); (case l_is_name => k_is); (case c_is_name => k_is); (case k_is_name => k_is); (case a_is_tuple_of => k_is); (case l_is_tuple_of => k_is); (case c_is_tuple_of => k_is); (case k_is_tuple_of => k_is); (case a_is_ascending => k_is); (case l_is_ascending => k_is); (case c_is_ascending => k_is); (case k_is_ascending => k_is); (case a_are_numbers_below => k_is); (case l_are_numbers_below => k_is); (case c_are_numbers_below => k_is); (case k_are_numbers_below => k_is); (case a_is_lot_below => k_is); (case l_is_lot_below => k_is); (case c_is_lot_below => k_is); (case k_is_lot_below => k_is); (case a_is_lot_of_names => k_is); (case l_is_lot_of_names => k_is); (case c_is_lot_of_names => k_is); (case k_is_lot_of_names => k_is); (case a_Refused_init => k_is); (case l_Refused_init => k_is); (case c_Refused_init => k_is); (case k_Refused_init => k_is); (case i_Refused_init => k_is); (case a_units_in => k_is); (case l_units_in => k_is); (case c_units_in => k_is); (case k_units_in => k_is); (case a_Table_init => k_is); (case l_Table_init => k_is); (case c_Table_init => k_is); (case k_Table_init => k_is); (case i_Table_init => k_is); (case a_is_type_pair => k_is); (case l_is_type_pair => k_is); (case c_is_type_pair => k_is); (case k_is_type_pair => k_is); (case a_accepted => k_is); (case l_accepted => k_is); (case c_accepted => k_is); (case k_accepted => k_is); (case a_takers => k_is); (case l_takers => k_is); (case c_takers => k_is); (case k_takers => k_is); (case a_types_of_kinds => k_is); (case l_types_of_kinds => k_is); (case c_types_of_kinds => k_is); (case k_types_of_kinds => k_is); (case a_offered_kinds => k_is); (case l_offered_kinds => k_is); (case c_offered_kinds => k_is); (case k_offered_kinds => k_is); (case a_least_kinds => k_is); (case l_least_kinds => k_is); (case c_least_kinds => k_is); (case k_least_kinds => k_is); (case a_lacking_taker => k_is); (case l_lacking_taker => k_is); (case c_lacking_taker => k_is); (case k_lacking_taker => k_is); (case a_wrong_row => k_is); (case l_wrong_row => k_is); (case c_wrong_row => k_is); (case k_wrong_row => k_is); (case a__law_heap => k_is); (case l__law_heap => k_is); (case c__law_heap => k_is); (case k__law_heap => k_is); (case a__law_draw => k_is); (case l__law_draw => k_is); (case c__law_draw => k_is); (case k__law_draw => k_is); (case a__law_pick => k_is); (case l__law_pick => k_is); (case c__law_pick => k_is); (case k__law_pick => k_is); (case a__law_names => k_is); (case l__law_names => k_is); (case c__law_names => k_is); (case k__law_names => k_is); (case a__law_lots => k_is); (case l__law_lots => k_is); (case c__law_lots => k_is); (case k__law_lots => k_is); (case a__law_table => k_is); (case l__law_table => k_is); (case c__law_table => k_is); (case k__law_table => k_is); (case a__law_subsets => k_is); (case l__law_subsets => k_is); (case c__law_subsets => k_is); (case k__law_subsets => k_is); (case a__law_most => k_is); (case l__law_most => k_is); (case c__law_most => k_is); (case k__law_most => k_is); (case a__law_forest_lots => k_is); (case l__law_forest_lots => k_is); (case c__law_forest_lots => k_is); (case k__law_forest_lots => k_is); (case a__law_takers => k_is); (case l__law_takers => k_is); (case c__law_takers => k_is); (case k__law_takers => k_is); (case a__law_inside => k_is); (case l__law_inside => k_is); (case c__law_inside => k_is); (case k__law_inside => k_is); (case a__law_least => k_is); (case l__law_least => k_is); (case c__law_least => k_is); (case k__law_least => k_is); (case a__law_heard => k_is); (case l__law_heard => k_is); (case c__law_heard => k_is); (case k__law_heard => k_is); (case a__law_less => k_is); (case l__law_less => k_is); (case c__law_less => k_is); (case k__law_less => k_is); (case a__law_all_regret => k_is); (case l__law_all_regret => k_is); (case c__law_all_regret => k_is); (case k__law_all_regret => k_is); (case a__law_is_row => k_is); (case l__law_is_row => k_is); (case c__law_is_row => k_is); (case k__law_is_row => k_is); (case a__law_later_right => k_is); (case l__law_later_right => k_is); (case c__law_later_right => k_is); (case k__law_later_right => k_is); (case a__law_request_right => k_is); (case l__law_request_right => k_is); (case c__law_request_right => k_is); (case q__law_request_right => k_is); (case r__law_request_right => rfl); (case h__law_request_right => kernel_rfl); (case n__law_request_right => first | k_is | kernel_rfl); (case t__law_request_right => exact PySem.W.km_tabs_of Y _ (by decide)); (case k__law_request_right => k_is); (case a_law => k_is); (case l_law => k_is); (case c_law => k_is); (case k_law => k_is); (case pg => k_is); (case hdT => k_is); (case po => k_is); (case sa => k_is); (case mk => k_is); (case kpC => k_is); (case nK => k_is); (case nT => k_is); (case xF => k_is); (case sa_F => k_is); (case exCF => k_is); (case tyF => k_is); (case kCF => k_is); (case nAF => k_is); (case tIF => k_is); (case hgF => k_is); (case hkF => k_is); (case hdF => k_is); (case sFF => first | k_is | rfl); (case haF => k_is); (case hmF => k_is); (case hn => k_is); (case ht => k_is); (case iCD => k_is); (case tCD => k_is); (case sFD => k_is); (case iCW => k_is); (case tCW => k_is); (case sFW => k_is); (case v_MOST_LETTERS => k_is); (case v_MOST_KINDS => k_is); (case v_MOST_TYPES => k_is); (case z_int => k_is); (case z_len => k_is); (case z_abs => k_is); (case z_isinstance => k_is); (case z_bool => k_is); (case z_str => k_is); (case z_all => k_is); (case z_tuple => k_is); (case z_range => k_is); (case z_enumerate => k_is); (case z_sum => k_is); (case z_any => k_is); (case z_sorted => k_is); (case z_list => k_is); (case z_min => k_is); (case z_set => k_is); (case z_repr => k_is); (case z_zip => k_is); (case dist => decide)
