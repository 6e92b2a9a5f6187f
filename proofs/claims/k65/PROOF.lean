import PyProof.Rows.All
import Wide.All
import OpenK.AllK
import Wide.FinOn
import HandS.ForMost
import HandS.Style
import HandS.Wide
import HandS.EndBits
import HandS.FStrTup
import Flt.Len
import KE.KxIndex
import HandS.ForExc
import HandS.IsInst
import HandS.ExcInit
import HandS.ExcField
import HandS.MakeKwOnly
import HandS.TupMul
import HandS.Zip
import HandS.TupAny
import HandS.More
import HandS.ExcIs
import KE.KExcIs
import KE.KIndexOf
import KE.GoesEnum
import HandS.Iter
import HandS.Strs
import HandS.SetFor
import HandS.SortInts
import HandS.Conv
import HandS.TupSets
import HandS.Deep
import HandS.Flow
import HandS.Lambda
import HandS.EndTab
import HandS.SortOrd
import HandS.RaiseMore
import HandS.TupLe
import PySem.Challenge.RW_neverregret_k65_whole_striking
set_option Elab.async false
set_option linter.all false
set_option maxRecDepth 100000
/-! Defs whose promise holds where no repr is under way: so that repr of data is the text of the data. -/
namespace Gd
open PySem PySem.Spec PyProof.Rows L2
/-- room, and nothing is being shown -/
structure RmG (k : Nat) (A : Around) : Prop where
  rm : Room k A
  gd : A.guards = some []
theorem RmG.mono {j k : Nat} {A : Around} (r : RmG k A) (h : j ≤ k) : RmG j A := ⟨r.rm.mono h, r.gd⟩
structure FnG (P : Program) (w : World) (K : PySem.W.Frag) (mg : Str → Option Value) (base : Heap) (k : Nat) (f : Addr) (fd : FuncData) (ps : List Str) (sp : Sp) : Prop where
  len : ∀ xs H Q E, sp xs H Q E → xs.length = ps.length
  go : ∀ (A : Around) (out : List Env) (s : Shared) (H : Hp) (ar : Args) (us : List Value) (xs : List V) (Q : VK) (E : XK),
    RmG k A → Env0 P w K mg base A out s H → BindsTo s fd ar (ps.zip us) → Vals xs us → sp xs H Q E →
    codeAny (model P w) A (.call (.ref f) ar) (CR CX0 out P w H s Q E) s
section
variable {P : Program} {w : World} {K : PySem.W.Frag} {mg : Str → Option Value} {base : Heap}
theorem FnG.of {k : Nat} {f : Addr} {fd : FuncData} {ps : List Str} {sp : Sp} (F : FnOk P w K mg base CX0 k f fd ps sp) : FnG P w K mg base k f fd ps sp :=
  ⟨F.len, fun A out s H ar us xs Q E hr => F.run A out s H ar us xs Q E hr.rm⟩
theorem FnG.mono {j k : Nat} {f : Addr} {fd : FuncData} {ps : List Str} {sp : Sp} (F : FnG P w K mg base j f fd ps sp) (h : j ≤ k) : FnG P w K mg base k f fd ps sp :=
  ⟨F.len, fun A out s H ar us xs Q E hr => F.go A out s H ar us xs Q E (hr.mono h)⟩
/-- a def of the text, by its body -/
theorem okG {x qual : Str} {st : Stmt} {f : Addr} {fd : FuncData} {N ps : List Str} {k : Nat} {sp : Sp} (F : Fun K x qual st f fd) (S : FnScope N ps (defScope st))
    (len : ∀ xs H Q E, sp xs H Q E → xs.length = ps.length)
    (body : ∀ (cdv : Value) (A : Around) (out : List Env) (s : Shared) (H : Hp) (xs : List V) (Q : VK) (E : XK),
      RmG k (A.deeper (envOfC qual (defScope st) s.heap.objs.size f cdv)) → sp xs H Q E →
      ∃ t, PSs (cxOf CX0 P w K mg base N qual (defScope st) f cdv A out s H E).nox (defBody st) t ∧ t { nx := fun _ G => Q .non G, rt := Q } (start N xs) H) :
    FnG P w K mg base (k + 1) f fd ps sp := by
  obtain ⟨oc, od, kV, doc, pm, an, cv, ct, osl, rfl, lk, hc⟩ := F.ex
  refine ⟨len, fun A out s H ar us xs Q E hr e0 hb rv hsp => ?_⟩
  have hl := len _ _ _ _ hsp
  have up : ∀ b o, base.get? b = some o → s.heap.get? b = some o := fun b o e => (e0.bs b o e).1
  have KX := e0.mod.kin.keeps up
  have lim := e0.mod.nolimit.keeps up
  refine codeAny_call_function hr.rm.depth (KX _ _ lk) rfl S.co S.gen rfl (PySem.W.codeRec_of KX hc) (hb _ _ _ _ ?_)
  refine wpAny_newFunctionEnv_cells S.kind (fun y hy => ?_) fun env he s1 I1 => ?_
  · rcases S.par y.1 (List.of_mem_zip hy).1 with q | q
    · exact .inl q
    · exact .inr ⟨q, PySem.W.cellsFrom_some _ _ _ (.inl q)⟩
  subst he
  refine ⟨lim.keeps I1.toInCall.keep, codeAny_func ?_⟩
  obtain ⟨t, ht, hq⟩ := body cv A out s H xs Q E ⟨hr.rm.deeper _, hr.gd⟩ hsp
  refine wpAny_mono (ht.nox.run [] s1 (start N xs) H _ (inv_start S hr.rm.hd e0 hl rv I1) hq) (fun fl s' hs => ?_) fun _ _ z => z
  cases fl with
  | ret u => obtain ⟨v, σ', G, J, r1, q⟩ := hs; exact ⟨v, G, J.os, J.bare, J.base, J.hok, r1, q⟩
  | next => obtain ⟨σ', G, J, q⟩ := hs; exact ⟨.non, G, J.os, J.bare, J.base, J.hok, rfl, q⟩
  | brk => exact (hs.choose_spec.choose_spec.2).elim
  | cont => exact (hs.choose_spec.choose_spec.2).elim
end
section
variable {X : Cx} {k : Nat} {f : Addr} {fd : FuncData} {ps ks : List Str} {sp : Sp} {dvs : List V} {ds : List Value} {E : XK} {x : Str} {p pos : Pos} {e : Expr} {es : List Expr} {kws : List Keyword} {t tk : TA}
theorem run_G {pins : List (Addr × Obj)} {σ : L2.St} {H : Hp} {s : Shared} {Q : VK} {ar : Args} {us : List Value} {xs : List V} (F : FnG X.prog X.w X.K X.mg X.base k f fd ps sp) (hr : RmG k X.A)
    (I : Inv X pins σ H s) (b : BindsTo s fd ar (ps.zip us)) (rv : Vals xs us) (h : sp xs H Q E) : codeAny (model X.prog X.w) X.A (.call (.ref f) ar) (fun r s' => ∃ u, r = .ok (.ret u) ∧ EP X pins σ Q u s') s := by
  refine codeAny_mono (F.go X.A X.stack s H ar us xs Q E hr I.env0 b rv h) fun r s' hq => ?_
  rcases r with e | fl
  · exact hq.elim
  · cases fl with
    | ret u => exact ⟨u, rfl, I.after hq⟩
    | next => exact hq.elim
    | brk => exact hq.elim
    | cont => exact hq.elim
theorem call_G {pins : List (Addr × Obj)} {σ : L2.St} {H : Hp} {s : Shared} {Q : VK} {us : List Value} {xs : List V} (F : FnG X.prog X.w X.K X.mg X.base k f fd ps sp) (hr : RmG k X.A) (hb : Binds X.K fd ps ds) (hd : Vals dvs ds)
    (I : Inv X pins σ H s) (rv : Vals xs us) (h : sp (xs ++ dvs) H Q E) : wpAny (model X.prog X.w) X.A (call (.ref f) us) (EP X pins σ Q) X.xe s := by
  have r2 : Vals (xs ++ dvs) (us ++ ds) := rv.append hd
  have hl : (us ++ ds).length = ps.length := r2.length.symm.trans (F.len _ _ _ _ h)
  refine wpAny_call (codeAny_mono (run_G F hr I (hb s us I.kIn hl) r2 h) fun r s' hq => ?_)
  obtain ⟨u, rfl, z⟩ := hq
  exact z
/-- f(e, ..) -/
theorem pe_callG (F : FnG X.prog X.w X.K X.mg X.base k f fd ps sp) (hr : RmG k X.A) (hg : Gl X x) (hm : X.mg x = some (.ref f)) (hk : PySem.W.keepIn X.K (.ref f) = true) (hb : Binds X.K fd ps ds) (hd : Vals dvs ds)
    (ha : PA X (e :: es) t) (h1 : (x == ("__debug__" : Str)) = false := by decide)
    (h2 : starEach (e :: es) X.env = (false, eval e X.env) :: starEach es X.env := by rfl) (h3 : (backTo pos (starEach es X.env)).any (·.1) = false := by rfl) :
    PE X (.Call (.Name x p) (e :: es) [] pos) (tCall sp dvs E t) :=
  ⟨fun pins s σ H Q I h => wpAny_Call_Name_kw (ld_glob I hg hm (PySem.W.callWith_K (h₀ := X.base) I.ok.mod.kin hk
    (thn (ha.run pos pins s σ H _ I h) fun us s1 ⟨vs, H1, I1, r, q⟩ => ⟨I1.kIn, call_G F hr hb hd I1 r q⟩) h2 h3) h1)⟩
/-- repr of data -/
theorem call_repr (hg : X.A.guards = some []) (hu : X.A.units + 64 < cLine) : CallR X (.builtin "repr") (fun xs H Q => ∃ a d, xs = [.ref a] ∧ Dp X.K H (.ref a) d ∧ d.showable = true ∧ d.hasDict = false ∧ d.depth ≤ 60 ∧ d.shown.length ≤ sizeLine ∧ Q (.str d.shown) H) := by
  intro pins s σ H xs us Q I r h
  obtain ⟨a, d, rfl, hp, hs, hn, hd, hz, q⟩ := h
  obtain ⟨u, rfl, ru⟩ := vals1 r
  obtain rfl : u = .ref a := ru
  obtain ⟨as, rd⟩ := Dp.reads I d _ _ hp rfl
  exact repr_of_reads' rd hs (PyData.noDict_hsm hn) hg (by omega) (fun _ _ z => z) (fun h' u tk hk => ⟨.str d.shown, H, I.kept hk, ⟨_, rfl⟩, q⟩) hz
/-- repr of an int -/
theorem call_reprI : CallR X (.builtin "repr") (fun xs H Q => ∃ i, xs = [.int i] ∧ i.natAbs.log2 < 1920 ∧ Q (.str (toString i)) H) := by
  intro pins s σ H xs us Q I r h
  obtain ⟨i, rfl, hz, q⟩ := h
  obtain ⟨u, rfl, tk, rfl⟩ := vals1 r
  exact PySem.P.repr_of_int hz ⟨.str _, H, I.tok _, ⟨_, rfl⟩, q⟩
end
end Gd
/-! The end of a law row, from a promise that holds where no repr is under way. -/
namespace Gd
open PySem PySem.Spec PyProof.Rows L2
section
variable {P : Program} {w : World} {K : PySem.W.Frag} {mg mb : Str → Option Value} {k : Nat} {fa a : Addr} {fd : FuncData} {x : Str} {sp : Sp} {s : Shared} {vs : List Value} {ns : List Int}
/-- the heap H tracks nothing but the script -/
structure Bare (K : PySem.W.Frag) (a : Addr) (H : Hp) : Prop where
  one : ∀ b, H b ≠ none → b = a
  out : H a ≠ none → K.lookup a = none
theorem hid_map {H : Hp} (ha : s.heap.get? a = some { cls := .type "list", data := .seq vs.toArray }) (B : Bare K a H) {b : Addr} {m : Str → Option Value} (h : s.heap.Ns b m) : (hidT s.heap H).Ns b m := by
  obtain ⟨o, es, ep, e, d, r⟩ := h
  refine ⟨o, es, ep, hidT_get e ?_, d, r⟩
  cases q : H b with
  | none => rfl
  | some u =>
    have z := B.one b (by simp [q])
    subst z
    have z2 := Option.some.inj (ha.symm.trans e)
    subst z2
    exact absurd d (by intro z; cases z)
theorem hid_in {H : Hp} (KX : K.In s.heap) (B : Bare K a H) : K.In (hidT s.heap H) := fun b o e => hidT_get (KX b o e) (by
  cases q : H b with
  | none => rfl
  | some u =>
    have z := B.one b (by simp [q])
    subst z
    have z2 := B.out (by simp [q])
    rw [z2] at e
    cases e)
theorem end_core (KX : K.In s.heap) (hns : s.heap.Ns mainGlobals mg) (hb : s.heap.Ns builtinsNs mb) (hbb : ∀ y : Str, y ≠ "__name__" → mb y = bootBuiltins y) (hlim : s.heap.NoLimit) (hg : s.gens = #[])
    (ha : s.heap.get? a = some { cls := .type "list", data := .seq vs.toArray }) (hr : Room k callerA)
    (F : ∀ base : Heap, K.In base → base.Ns mainGlobals mg → FnG P w K mg base k fa fd [x] sp) (hbind : ∀ (t : Shared) (u : Value), BindsTo t fd ⟨[u], []⟩ [(x, u)])
    {H : Hp} (hO : Only H) (hok : HOk P w H s.heap) (B : Bare K a H) (h : sp [.ref a] H (fun v _ => v = .bl true) fun _ _ _ => False) :
    codeAny (model P w) callerA (.call (.ref fa) ⟨[.ref a], []⟩) (fun r s' => r = .ok (.ret (.bool true)) ∧ OldK s.heap s'.heap ∧ s'.os = s.os ∧ AllBare s'.gens) s := by
  have KB := hid_in KX B
  have NB := hid_map ha B hns
  have MB : Mod K mg (hidT s.heap H) := ⟨KB, NB, ⟨mb, hid_map ha B hb, hbb⟩, hlim.elim fun mc z => ⟨mc, hid_map ha B z.1, z.2⟩⟩
  have e0 : Env0 P w K mg (hidT s.heap H) callerA [] s H :=
    ⟨rfl, MB, fun b o e => of_hidT e, Nat.le_of_eq (hidT_size _ _), trivial, fun b z => (nomatch (show b ∈ ([] : List Addr) from z)), hok, .of_eq hg⟩
  refine codeAny_mono ((F _ KB NB).go callerA [] s H ⟨[.ref a], []⟩ [.ref a] [.ref a] _ _ ⟨hr, rfl⟩ e0 (hbind s (.ref a)) (.cons rfl .nil) h) fun r s' z => ?_
  rcases r with e | fl
  · exact z.elim
  · cases fl with
    | next => exact z.elim
    | brk => exact z.elim
    | cont => exact z.elim
    | ret u =>
      obtain ⟨v, G, os, bare, un, okG, ru, rfl⟩ := z
      obtain rfl : u = Value.bool true := ru
      refine ⟨rfl, OldK.of_keep fun b o e => ?_, os, bare⟩
      cases q : H b with
      | none => exact un.keep b o e q (fun z => nomatch (show b ∈ ([] : List Addr) from z)) (fun z => nomatch z)
      | some u =>
        rcases hO b with z | ⟨ob, xs, z⟩
        · exact nomatch q.symm.trans z
        · have e1 := (hok b _ z).1
          have e2 := (okG b _ (un.frzs b ob _ z)).1
          exact e2.trans (e1.symm.trans e)
theorem end_call (KX : K.In s.heap) (hns : s.heap.Ns mainGlobals mg) (hb : s.heap.Ns builtinsNs mb) (hbb : ∀ y : Str, y ≠ "__name__" → mb y = bootBuiltins y) (hlim : s.heap.NoLimit) (hg : s.gens = #[])
    (ha : s.heap.get? a = some { cls := .type "list", data := .seq vs.toArray }) (hi : IntsAre vs ns) (hl : ns.length ≤ sizeLine) (hr : Room k callerA)
    (F : ∀ base : Heap, K.In base → base.Ns mainGlobals mg → FnG P w K mg base k fa fd [x] sp) (hbind : ∀ (t : Shared) (u : Value), BindsTo t fd ⟨[u], []⟩ [(x, u)])
    (hsp : ∀ H : Hp, Only H → SqL K H a (ns.map V.int) → sp [.ref a] H (fun v _ => v = .bl true) fun _ _ _ => False) :
    codeAny (model P w) callerA (.call (.ref fa) ⟨[.ref a], []⟩) (fun r s' => r = .ok (.ret (.bool true)) ∧ OldK s.heap s'.heap ∧ s'.os = s.os ∧ AllBare s'.gens) s := by
  have rv := vals_ints hi
  cases hk : K.lookup a with
  | some o =>
    have e := Option.some.inj (ha.symm.trans (KX a o hk))
    subst e
    have hO : Only fun _ => none := fun _ => .inl rfl
    exact end_core KX hns hb hbb hlim hg ha hr F hbind hO (fun b u z => nomatch (show (none : Option HO) = some u from z)) ⟨fun b z => absurd rfl z, fun z => absurd rfl z⟩
      (hsp _ hO (.inr ⟨_, vs.toArray, _, hk, rfl, rfl, rfl, by rw [List.size_toArray, hi.length]; exact hl, by simpa using rv⟩))
  | none =>
    let H : Hp := fun b => if b = a then some (.frz { cls := .type "list", data := .seq vs.toArray } (.lst (ns.map V.int))) else none
    have at_a : H a = some (.frz { cls := .type "list", data := .seq vs.toArray } (.lst (ns.map V.int))) := if_pos rfl
    have off : ∀ {b}, b ≠ a → H b = none := fun h => if_neg h
    have hO : Only H := fun b => by
      by_cases z : b = a
      · exact .inr ⟨_, _, if_pos z⟩
      · exact .inl (off z)
    refine end_core KX hns hb hbb hlim hg ha hr F hbind hO (fun b u z => ?_) ⟨fun b z => ?_, fun _ => hk⟩ (hsp H hO (.inl (.inr ⟨_, at_a⟩)))
    · by_cases y : b = a
      · subst y
        have z2 := Option.some.inj (at_a.symm.trans z)
        subst z2
        exact ⟨ha, by rw [List.length_map]; exact hl, vs, _, rv, ha⟩
      · exact nomatch (off y).symm.trans z
    · by_cases y : b = a
      · exact y
      · exact absurd (off y) z
end
theorem walk_G {l : PySem.W.OpenLaw} {n k : Nat} {q : Program} {loose : List Str} {XP : (Str → Option Value) → Heap → Prop} {YP : World → Heap → Prop} {d : DefRec} {K : Params → PySem.W.Frag} {sp : World → Sp} {x : Str}
    (hn : l.most = some n) (hn2 : n ≤ sizeLine) (hdf : d.params.defaults = []) (hr : Room k callerA) (hY : ∀ (w : World) (h : Heap), YP w h → (K w.params).In h)
    (F : ∀ (w : World) (mg : Str → Option Value) (fa : Addr) (h : Heap), (K w.params).In h → h.Ns mainGlobals mg → mg d.name = some (.ref fa) →
      ∃ fd : FuncData, (∀ (t : Shared) (u : Value), BindsTo t fd ⟨[u], []⟩ [(x, u)]) ∧ ∀ base : Heap, (K w.params).In base → base.Ns mainGlobals mg → FnG l.prog w (K w.params) mg base k fa fd [x] (sp w))
    (hsp : ∀ (w : World) (H : Hp) (a : Addr) (ns : List Int), ns.length ≤ n → (∀ z ∈ ns, Builtin.Int.intBits z ≤ 1048576) → Only H → SqL (K w.params) H a (ns.map V.int) → sp w [.ref a] H (fun v _ => v = .bl true) fun _ _ _ => False) :
    PySem.W.WalkO q loose XP YP l.row.toRowW d [] (fun f vs => PySem.call f vs) := by
  refine Att.attach_callB hn hdf fun w s₀ s mg mb fa o pm cd doc a vs ns G Y ho hd hcd hm hobj hi hl hbits hg => ?_
  obtain ⟨fd, hb, hF⟩ := F w mg fa _ (hY w _ Y) G.T.g hm
  exact end_call (hY w _ Y) G.T.g G.T.b G.T.builtins G.T.nolimit hg hobj hi (Nat.le_trans hl hn2) hr hF hb fun H hO hS => hsp w H a ns hl hbits hO hS
end Gd
/-! Data: what stays of it, and what its repr costs. -/
namespace Gd
open PySem PySem.Spec PyProof.Rows L2
mutual
theorem dp_same {K : PySem.W.Frag} {H G : Hp} (e : Same H G) : ∀ (d : PyData) (v : V), Dp K H v d → Dp K G v d
  | .none, _, h => by cases h; exact .non
  | .bool b, _, h => by cases h; exact .bl b
  | .int i, _, h => by cases h; exact .int i
  | .str x, _, h => by cases h; exact .str x
  | .list ds, _, h => by
    cases h with
    | lst hs ha => exact .lst (e.seq hs) (dpAll_same e ds _ ha)
  | .tuple ds, _, h => by
    cases h with
    | tup hs ha =>
      refine .tup ?_ (dpAll_same e ds _ ha)
      rcases hs with (z | ⟨o, z⟩) | z
      · exact .inl (.inl (e _ _ z))
      · exact .inl (.inr ⟨o, e _ _ z⟩)
      · exact .inr z
  | .dict _, _, h => by cases h
theorem dpAll_same {K : PySem.W.Frag} {H G : Hp} (e : Same H G) : ∀ (ds : List PyData) (vs : List V), DpAll K H vs ds → DpAll K G vs ds
  | [], _, h => by cases h; exact .nil
  | d :: ds, _, h => by
    cases h with
    | cons h1 h2 => exact .cons (dp_same e d _ h1) (dpAll_same e ds _ h2)
end
theorem same_seqT {K : PySem.W.Frag} {H H' : Hp} {a : Addr} {xs : List V} (e : Same H H') (h : SqT K H a xs) : SqT K H' a xs := by
  rcases h with (z | ⟨o, z⟩) | z
  · exact .inl (.inl (e _ _ z))
  · exact .inl (.inr ⟨o, e _ _ z⟩)
  · exact .inr z
theorem same_new {H : Hp} {p : Addr} {o : HO} (h : H p = none) : Same H (upd H p o) := fun b x e => (upd_ne (ne_of_none e h)).trans e
theorem sqT {K : PySem.W.Frag} {H : Hp} {a : Addr} {xs : List V} (h : H a = some (.tup xs)) : SqT K H a xs := .inl (.inl h)
theorem sqL {K : PySem.W.Frag} {H : Hp} {a : Addr} {xs : List V} (h : H a = some (.lst xs)) : SqL K H a xs := .inl (.inl h)
theorem dpAll_snoc {K : PySem.W.Frag} {H : Hp} {v : V} {d : PyData} : ∀ {vs : List V} {ds : List PyData}, DpAll K H vs ds → Dp K H v d → DpAll K H (vs ++ [v]) (ds ++ [d])
  | _, _, .nil, h => .cons h .nil
  | _, _, .cons a r, h => .cons a (dpAll_snoc r h)
theorem dpAll_len {K : PySem.W.Frag} {H : Hp} : ∀ {vs : List V} {ds : List PyData}, DpAll K H vs ds → vs.length = ds.length
  | _, _, .nil => rfl
  | _, _, .cons _ r => by rw [List.length_cons, List.length_cons, dpAll_len r]
theorem dpAll_get {K : PySem.W.Frag} {H : Hp} : ∀ {vs : List V} {ds : List PyData} {i : Nat} {d : PyData}, DpAll K H vs ds → ds[i]? = some d → ∃ v, vs[i]? = some v ∧ Dp K H v d
  | _, _, _, _, .nil, e => by simp at e
  | _, _, 0, _, .cons a _, e => by simp at e; subst e; exact ⟨_, rfl, a⟩
  | _, _, i + 1, d, .cons _ r, e => by
    obtain ⟨v, h1, h2⟩ := dpAll_get (i := i) (d := d) r (by simpa using e)
    exact ⟨v, by simpa using h1, h2⟩
theorem dpAll_ints {K : PySem.W.Frag} {H : Hp} : ∀ ns : List Int, DpAll K H (ns.map V.int) (ns.map .int)
  | [] => .nil
  | n :: ns => .cons (.int n) (dpAll_ints ns)
theorem dpAll_strs {K : PySem.W.Frag} {H : Hp} : ∀ ns : List Str, DpAll K H (ns.map V.str) (ns.map .str)
  | [] => .nil
  | n :: ns => .cons (.str n) (dpAll_strs ns)
/-! what repr and == ask of data -/
mutual
/-- plain data: no dicts, signs below 1000, ints below 10 ^ 9 in size -/
def fine : PyData → Bool
  | .none | .bool _ => true
  | .int i => decide (i.natAbs < 10 ^ 9)
  | .str x => x.cps.toList.all (· < 1000)
  | .list xs | .tuple xs => fineAll xs
  | .dict _ => false
def fineAll : List PyData → Bool
  | [] => true
  | x :: xs => fine x && fineAll xs
end
mutual
def costD : PyData → Nat
  | .none => 4
  | .bool _ => 5
  | .int _ => 10
  | .str x => 10 * x.length + 2
  | .list xs | .tuple xs => costAll xs + 2
  | .dict _ => 0
def costAll : List PyData → Nat
  | [] => 0
  | x :: xs => costD x + 2 + costAll xs
end
theorem fine_str {x : Str} : fine (.str x) = true ↔ ∀ c ∈ x.cps.toList, c < 1000 := by
  rw [fine, List.all_eq_true]
  exact ⟨fun h c hc => of_decide_eq_true (h c hc), fun h c hc => decide_eq_true (h c hc)⟩
mutual
theorem fine_lay : ∀ d : PyData, fine d = true → d.canLay0 = true
  | .none, _ => rfl
  | .bool _, _ => rfl
  | .int _, _ => rfl
  | .str x, h => by
    have h' := fine_str.mp h
    show x.cps.all _ = true
    rw [Array.all_eq_true']
    intro c hc
    have := h' c (by simpa using hc)
    exact decide_eq_true (by omega)
  | .list xs, h => by rw [PyData.canLay0]; exact fineAll_lay xs (by simpa [fine] using h)
  | .tuple xs, h => by rw [PyData.canLay0]; exact fineAll_lay xs (by simpa [fine] using h)
  | .dict _, h => by simp [fine] at h
theorem fineAll_lay : ∀ ds : List PyData, fineAll ds = true → PyData.canLayAll0 ds = true
  | [], _ => rfl
  | x :: xs, h => by
    have h' : fine x = true ∧ fineAll xs = true := by simpa [fineAll] using h
    rw [PyData.canLayAll0, fine_lay x h'.1, fineAll_lay xs h'.2]; rfl
end
mutual
theorem fine_show : ∀ d : PyData, fine d = true → d.showable = true
  | .none, _ => by simp [PyData.showable]
  | .bool _, _ => by simp [PyData.showable]
  | .int i, h => by
    have h' : i.natAbs < 10 ^ 9 := by simpa [fine] using h
    have : i.natAbs.log2 < 1920 := Flt.log2_lt_of (by decide) (Nat.lt_of_lt_of_le h' (by decide))
    simpa [PyData.showable] using this
  | .str x, h => by simp [PyData.showable]
  | .list xs, h => by rw [PyData.showable]; exact fineAll_show xs (by simpa [fine] using h)
  | .tuple xs, h => by rw [PyData.showable]; exact fineAll_show xs (by simpa [fine] using h)
  | .dict _, h => by simp [fine] at h
theorem fineAll_show : ∀ ds : List PyData, fineAll ds = true → PyData.showableAll ds = true
  | [], _ => by simp [PyData.showableAll]
  | x :: xs, h => by
    have h' : fine x = true ∧ fineAll xs = true := by simpa [fineAll] using h
    rw [PyData.showableAll, fine_show x h'.1, fineAll_show xs h'.2]; rfl
end
theorem list_text (ts : List Str) : (listText ts).length ≤ piled ts + 2 := by
  rw [listText_eq_join]
  have e1 : (("[" : Str)).length = 1 := rfl
  have e2 : (("]" : Str)).length = 1 := rfl
  rw [strLen_append, strLen_append, e1, e2]
  by_cases h : ts = []
  · subst h; decide +kernel
  · have := join_length_add ts h
    omega
mutual
theorem shown_cost : ∀ d : PyData, fine d = true → d.shown.length ≤ costD d
  | .none, _ => by rw [PyData.shown]; decide +kernel
  | .bool b, _ => by rw [PyData.shown]; cases b <;> decide +kernel
  | .int i, h => by
    have h' : i.natAbs < 10 ^ 9 := by simpa [fine] using h
    rw [PyData.shown, PySem.ofString_length]
    exact int_text_length_le10 (k := 9) (by decide) h'
  | .str x, h => by
    have h' := fine_str.mp h
    rw [PyData.shown, costD]
    exact StrLaws.reprText_len x fun c hc => Nat.lt_trans (h' c hc) (by decide)
  | .list xs, h => by
    rw [PyData.shown, costD]
    have := shownAll_cost xs (by simpa [fine] using h)
    have := list_text (PyData.shownAll xs)
    omega
  | .tuple xs, h => by
    rw [PyData.shown, costD]
    have := shownAll_cost xs (by simpa [fine] using h)
    have := PySem.fmt_text (PyData.shownAll xs)
    omega
  | .dict _, h => by simp [fine] at h
theorem shownAll_cost : ∀ ds : List PyData, fineAll ds = true → piled (PyData.shownAll ds) ≤ costAll ds
  | [], _ => by rw [PyData.shownAll, costAll, piled_nil]; exact Nat.le_refl 0
  | x :: xs, h => by
    have h' : fine x = true ∧ fineAll xs = true := by simpa [fineAll] using h
    have h1 := shown_cost x h'.1
    have h2 := shownAll_cost xs h'.2
    rw [PyData.shownAll, costAll, piled_cons]
    omega
end
theorem fine_shaped {d : PyData} (h : fine d = true) (hd : d.depth ≤ 60) : SeqAt.shaped d = true := by
  unfold SeqAt.shaped
  rw [fine_lay d h]
  exact decide_eq_true (by omega)
theorem fine_eqv {d : PyData} (h : fine d = true) : PyData.eqv d d = true := SeqAt.eqv_refl d (fine_lay d h)
theorem fineAll_mem : ∀ {ds : List PyData}, (∀ d ∈ ds, fine d = true) → fineAll ds = true
  | [], _ => by simp [fineAll]
  | x :: xs, h => by simp [fineAll, h x List.mem_cons_self, fineAll_mem fun d hd => h d (List.mem_cons_of_mem _ hd)]
theorem depthAll_mem {n : Nat} : ∀ {ds : List PyData}, (∀ d ∈ ds, d.depth ≤ n) → PyData.depthAll ds ≤ n
  | [], _ => by simp [PyData.depthAll]
  | x :: xs, h => by
    have h1 := h x List.mem_cons_self
    have h2 := depthAll_mem (n := n) (ds := xs) fun d hd => h d (List.mem_cons_of_mem _ hd)
    simp only [PyData.depthAll]
    omega
/-- repr(x), x plain data at an address: its text; what is asked is told by fine and costD -/
theorem call_reprF {X : Cx} (hg : X.A.guards = some []) (hu : X.A.units + 64 < cLine) : CallR X (.builtin "repr") (fun xs H Q => ∃ a d, xs = [.ref a] ∧ Dp X.K H (.ref a) d ∧ fine d = true ∧ d.depth ≤ 60 ∧ costD d ≤ sizeLine ∧ Q (.str d.shown) H) := by
  intro pins s σ H xs us Q I r h
  obtain ⟨a, d, e, hp, hf, hd, hz, q⟩ := h
  exact call_repr hg hu pins s σ H xs us Q I r ⟨a, d, e, hp, fine_show d hf, PyData.hasDict_of_canLay d (fine_lay d hf), hd, Nat.le_trans (shown_cost d hf) hz, q⟩
end Gd
/-! Calls that give all by keywords. -/
namespace Gd
open PySem PySem.Spec PyProof.Rows L2
/-- how a call by keywords alone binds: g puts their values in the parameters' order -/
def KwB (fd : FuncData) (ps ks : List Str) (g : List Value → List Value) : Prop := ∀ (s : Shared) (ws : List Value), ws.length = ks.length → BindsTo s fd ⟨[], ks.zip ws⟩ (ps.zip (g ws))
theorem kwB_of {K : PySem.W.Frag} {x qual : Str} {st : Stmt} {f : Addr} {fd : FuncData} {ps ks : List Str} {g : List Value → List Value} (F : Fun K x qual st f fd)
    (h : ∀ (kV doc pm : Value) (an : Option Addr) (cv ct : Value) (ws : List Value), ws.length = ks.length → bindArgs (PySem.W.fnOf x qual (defArgs st) (defBody st) (defScope st) .none kV doc pm an cv ct) ⟨[], ks.zip ws⟩ = pure (ps.zip (g ws))) : KwB fd ps ks g := by
  obtain ⟨oc, od, kV, doc, pm, an, cv, ct, osl, rfl, lk, hc⟩ := F.ex
  exact fun s ws hl => .of_eq (h kV doc pm an cv ct ws hl)
def tKw (m : Nat) (sp : Sp) (gV : List V → List V) (E : XK) (tk : TA) : TE := fun σ H Q => tk σ H fun zs H2 => zs.length = m ∧ sp (gV zs) H2 Q E
section
variable {X : Cx} {k : Nat} {f : Addr} {fd : FuncData} {ps ks : List Str} {sp : Sp} {E : XK} {x : Str} {p pos : Pos} {kws : List Keyword} {tk : TA}
/-- f(k = v, ..) -/
theorem pe_kwG {g : List Value → List Value} {gV : List V → List V} (F : FnG X.prog X.w X.K X.mg X.base k f fd ps sp) (hr : RmG k X.A) (hg : Gl X x) (hm : X.mg x = some (.ref f)) (hk : PySem.W.keepIn X.K (.ref f) = true)
    (hb : KwB fd ps ks g) (hv : ∀ {zs : List V} {ws : List Value}, zs.length = ks.length → Vals zs ws → Vals (gV zs) (g ws)) (hkw : PK X kws tk)
    (h1 : (backToKw pos (keywordEach kws X.env)).all (·.1.isSome) = true := by rfl) (h2 : (backToKw pos (keywordEach kws X.env)).filterMap (·.1) = ks := by rfl) (h3 : (x == ("__debug__" : Str)) = false := by decide)
    (h4 : ((backTo pos (starEach [] X.env)).any (·.1) || (backToKw pos (keywordEach kws X.env)).any (·.1.isNone)) = false := by rfl) :
    PE X (.Call (.Name x p) [] kws pos) (tKw ks.length sp gV E tk) := by
  refine ⟨fun pins s σ H Q I h => wpAny_Call_Name_kw (ld_glob I hg hm (PySem.W.callWith_KW0 (h₀ := X.base) I.ok.mod.kin hk h1 ?_ h4) h3)⟩
  refine thn (hkw.run pos pins s σ H _ I h) fun ws s2 ⟨zs, H2, I2, rz, l, q⟩ => ⟨I2.kIn, ?_⟩
  rw [h2]
  have r2 := hv l rz
  refine wpAny_call (codeAny_mono (run_G F hr I2 (hb s2 ws (rz.length.symm.trans l)) r2 q) fun r s' hq => ?_)
  obtain ⟨u, rfl, z⟩ := hq
  exact z
end
end Gd
/-! What the laws' proofs share: the source of draws, what is kept, blocks. -/
namespace Gd
open PySem PySem.Spec PyProof.Rows L2
/-- the law's source of draws at h: its list at l, its number -/
structure Hv (H : Hp) (h l : Addr) (L : List Int) (st : Int) : Prop where
  top : H h = some (.lst [.ref l, .int st])
  bot : H l = some (.lst (L.map V.int))
  ne : l ≠ h
  lo : 0 ≤ st
  hi : st < 2147483647
  len : L.length ≤ 63
/-- all but the source stands as before -/
def But (h l : Addr) (H G : Hp) : Prop := ∀ b o, b ≠ h → b ≠ l → H b = some o → G b = some o
theorem Hv.new {H : Hp} {h l p : Addr} {L : List Int} {st : Int} {o : HO} (v : Hv H h l L st) (n : H p = none) : Hv (upd H p o) h l L st :=
  ⟨(upd_ne (ne_of_none v.top n)).trans v.top, (upd_ne (ne_of_none v.bot n)).trans v.bot, v.ne, v.lo, v.hi, v.len⟩
theorem Hv.same {H G : Hp} {h l : Addr} {L : List Int} {st : Int} (v : Hv H h l L st) (e : Same H G) : Hv G h l L st :=
  ⟨e _ _ v.top, e _ _ v.bot, v.ne, v.lo, v.hi, v.len⟩
theorem Hv.setL {H : Hp} {h l : Addr} {L M : List Int} {st : Int} (v : Hv H h l L st) (hl : M.length ≤ 63) : Hv (upd H l (.lst (M.map V.int))) h l M st :=
  ⟨(upd_ne v.ne.symm).trans v.top, upd_same, v.ne, v.lo, v.hi, hl⟩
theorem Hv.setN {H : Hp} {h l : Addr} {L : List Int} {st n : Int} (v : Hv H h l L st) (h0 : 0 ≤ n) (h1 : n < 2147483647) : Hv (upd H h (.lst [.ref l, .int n])) h l L n :=
  ⟨upd_same, (upd_ne v.ne).trans v.bot, v.ne, h0, h1, v.len⟩
theorem But.refl (h l : Addr) (H : Hp) : But h l H H := fun _ _ _ _ e => e
theorem But.trans {h l : Addr} {H G J : Hp} (a : But h l H G) (b : But h l G J) : But h l H J := fun c o h1 h2 e => b c o h1 h2 (a c o h1 h2 e)
theorem But.new {h l p : Addr} {H G : Hp} {o : HO} (a : But h l H G) (n : G p = none) : But h l H (upd G p o) := fun c x h1 h2 e =>
  (upd_ne (ne_of_none (a c x h1 h2 e) n)).trans (a c x h1 h2 e)
theorem But.same {h l : Addr} {H G J : Hp} (a : But h l H G) (e : Same G J) : But h l H J := fun c x h1 h2 z => e _ _ (a c x h1 h2 z)
theorem But.atL {h l : Addr} {H G : Hp} {o : HO} (a : But h l H G) : But h l H (upd G l o) := fun c x h1 h2 e => (upd_ne h2).trans (a c x h1 h2 e)
theorem But.atH {h l : Addr} {H G : Hp} {o : HO} (a : But h l H G) : But h l H (upd G h o) := fun c x h1 h2 e => (upd_ne h1).trans (a c x h1 h2 e)
theorem fresh_of {h l p : Addr} {H G : Hp} (a : But h l H G) {o : HO} (h1 : p ≠ h) (h2 : p ≠ l) (e : G p = none) : H p = none := by
  cases q : H p with
  | none => rfl
  | some o => exact nomatch (a p o h1 h2 q).symm.trans e
theorem eqv_nil (L : List Int) : PyData.eqv (.list (L.map .int)) (.list []) = decide (L = []) := by
  cases L with
  | nil => rfl
  | cons x r => simp [PyData.eqv, PyData.eqvAll]
theorem shaped_ints (L : List Int) : SeqAt.shaped (.list (L.map .int)) = true := PySem.W.ke_shaped_ints L
theorem dp_ints {K : PySem.W.Frag} {H : Hp} {l : Addr} {L : List Int} (h : H l = some (.lst (L.map V.int))) : Dp K H (.ref l) (.list (L.map .int)) := .lst (sqL h) (dpAll_ints L)
theorem last_map {L : List Int} (h : L ≠ []) : atI (L.map V.int) (-1) = some (.int (L.getLast h)) := by
  have e : L.map V.int = L.dropLast.map V.int ++ [.int (L.getLast h)] := by
    rw [← List.map_singleton, ← List.map_append, List.dropLast_concat_getLast]
  rw [e]
  exact atI_last _ _
theorem last_get {L : List Int} (h : L ≠ []) : (L.map V.int)[(L.map V.int).length - 1]? = some (.int (L.getLast h)) := by
  rw [List.length_map, List.getElem?_map, ← List.getLast?_eq_getElem?, List.getLast?_eq_getLast h]
  rfl
theorem drop_map (L : List Int) : (L.map V.int).dropLast = L.dropLast.map V.int := by rw [List.map_dropLast]
/-- all but lists stands as before -/
def KeepT (H G : Hp) : Prop := ∀ b o, H b = some o → (∀ xs, o ≠ .lst xs) → G b = some o
theorem KeepT.of {H G : Hp} (e : Same H G) : KeepT H G := fun b o h _ => e b o h
theorem KeepT.trans {H G J : Hp} (a : KeepT H G) (b : KeepT G J) : KeepT H J := fun c o h n => b c o (a c o h n) n
theorem KeepT.put {H : Hp} {p : Addr} {xs : List V} {o : HO} (h : H p = some (.lst xs)) : KeepT H (upd H p o) := fun b x e n => by
  have ne : b ≠ p := fun z => by
    subst z
    have z2 := Option.some.inj (h.symm.trans e)
    exact n _ z2.symm
  exact (upd_ne ne).trans e
theorem KeepT.but {h l : Addr} {H G : Hp} {L : List Int} {st : Int} (v : Hv H h l L st) (b : But h l H G) : KeepT H G := fun c o e n =>
  b c o (fun z => by subst z; exact n _ (Option.some.inj (v.top.symm.trans e)).symm) (fun z => by subst z; exact n _ (Option.some.inj (v.bot.symm.trans e)).symm) e
theorem KeepT.seqT {K : PySem.W.Frag} {H G : Hp} {a : Addr} {xs : List V} (e : KeepT H G) (h : SqT K H a xs) : SqT K G a xs := by
  rcases h with (z | ⟨o, z⟩) | z
  · exact .inl (.inl (e _ _ z (by intro _ q; cases q)))
  · exact .inl (.inr ⟨o, e _ _ z (by intro _ q; cases q)⟩)
  · exact .inr z
mutual
def noList : PyData → Bool
  | .none | .bool _ | .int _ | .str _ => true
  | .tuple xs => noListAll xs
  | .list _ | .dict _ => false
def noListAll : List PyData → Bool
  | [] => true
  | x :: xs => noList x && noListAll xs
end
mutual
theorem dp_keep {K : PySem.W.Frag} {H G : Hp} (e : KeepT H G) : ∀ (d : PyData) (v : V), noList d = true → Dp K H v d → Dp K G v d
  | .none, _, _, h => by cases h; exact .non
  | .bool b, _, _, h => by cases h; exact .bl b
  | .int i, _, _, h => by cases h; exact .int i
  | .str x, _, _, h => by cases h; exact .str x
  | .list ds, _, n, _ => by simp [noList] at n
  | .tuple ds, _, n, h => by
    cases h with
    | tup hs ha => exact .tup (e.seqT hs) (dpAll_keep e ds _ (by simpa [noList] using n) ha)
  | .dict _, _, _, h => by cases h
theorem dpAll_keep {K : PySem.W.Frag} {H G : Hp} (e : KeepT H G) : ∀ (ds : List PyData) (vs : List V), noListAll ds = true → DpAll K H vs ds → DpAll K G vs ds
  | [], _, _, h => by cases h; exact .nil
  | d :: ds, _, n, h => by
    have n' : noList d = true ∧ noListAll ds = true := by simpa [noListAll] using n
    cases h with
    | cons h1 h2 => exact .cons (dp_keep e d _ n'.1 h1) (dpAll_keep e ds _ n'.2 h2)
end
theorem noListAll_mem : ∀ {ds : List PyData}, (∀ d ∈ ds, noList d = true) → noListAll ds = true
  | [], _ => rfl
  | x :: xs, h => by rw [noListAll, h x List.mem_cons_self, noListAll_mem fun d hd => h d (List.mem_cons_of_mem _ hd)]; rfl
theorem lt_one (a b : Nat) : decide (([a] : List Nat) < [b]) = decide (a < b) := by
  by_cases h : a < b
  · rw [decide_eq_true h]
    exact decide_eq_true (List.Lex.rel h)
  · rw [decide_eq_false h]
    refine decide_eq_false fun z => ?_
    cases z with
    | rel z => exact h z
    | cons z => cases z
theorem if_out {c : TT} {t u : TS} {D : Ends} {σ : L2.St} {G : Hp} (R : Bool) (h1 : ∀ B : Bool → Hp → Prop, (∀ G', Same G G' → B R G') → c σ G B) (h2 : ∀ G', Same G G' → if R = true then t D σ G' else u D σ G') : tIfS c t u D σ G := h1 _ h2
theorem seq_out {t u : TS} {D : Ends} {σ : L2.St} {G : Hp} (R : L2.St → Hp → Prop) (h1 : ∀ N : L2.St → Hp → Prop, (∀ σ' G', R σ' G' → N σ' G') → t { D with nx := N } σ G) (h2 : ∀ σ' G', R σ' G' → u D σ' G') : tSeq t u D σ G := h1 (u D) h2
theorem But.seqL {K : PySem.W.Frag} {h l p : Addr} {H G : Hp} {xs : List V} (b : But h l H G) (h1 : p ≠ h) (h2 : p ≠ l) (e : SqL K H p xs) : SqL K G p xs := by
  rcases e with (z | ⟨o, z⟩) | z
  · exact .inl (.inl (b _ _ h1 h2 z))
  · exact .inl (.inr ⟨o, b _ _ h1 h2 z⟩)
  · exact .inr z
theorem for_str {x : Str} {g : TG} {tb : TS} {D : Ends} {σ : L2.St} {H : Hp} (Pv : Nat → L2.St → Hp → Prop) (h0 : Pv 0 σ H)
    (hs : ∀ i c σ H, x.cps.toList[i]? = some c → Pv i σ H → g (.str ⟨#[c]⟩) σ H fun σ2 H2 => tb { D with nx := Pv (i + 1), ct := Pv (i + 1), bk := D.nx } σ2 H2) (hd : ∀ σ H, Pv x.cps.toList.length σ H → D.nx σ H) :
    ∃ W : Nat → Nat → L2.St → Hp → Prop, (∃ m, W 0 m σ H) ∧ ∀ i m σ H, W i m σ H →
      ((Its x).stop i H ∧ D.nx σ H) ∨ ((Its x).go i H ∧ ∃ N : L2.St → Hp → Prop, (∀ σ' H', N σ' H' → ∃ m', m' < m ∧ W (i + 1) m' σ' H') ∧ ∀ v H', (Its x).yld i H v H' → g v σ H' fun σ2 H2 => tb { D with nx := N, ct := N, bk := D.nx } σ2 H2) := by
  refine ⟨fun i m σ H => m = x.cps.toList.length - i ∧ i ≤ x.cps.toList.length ∧ Pv i σ H, ⟨_, rfl, Nat.zero_le _, h0⟩, fun i m σ H hw => ?_⟩
  obtain ⟨rfl, hi, hp⟩ := hw
  by_cases hlt : i < x.cps.toList.length
  · refine .inr ⟨by show i < x.cps.size; simpa using hlt, Pv (i + 1), fun σ' H' hp' => ⟨_, by omega, rfl, hlt, hp'⟩, fun v H' hy => ?_⟩
    obtain ⟨rfl, c, hc, rfl⟩ := hy
    exact hs i c σ _ (by simpa using hc) hp
  · have e : i = x.cps.toList.length := by omega
    subst e
    exact .inl ⟨by show x.cps.size ≤ _; simp, hd σ H hp⟩
section
variable {X : Cx}
end
theorem dpAll_last {K : PySem.W.Frag} {H : Hp} : ∀ {ds : List PyData} {d : PyData} {vs : List V}, DpAll K H vs (ds ++ [d]) → ∃ us v, vs = us ++ [v] ∧ DpAll K H us ds ∧ Dp K H v d
  | [], d, vs, h => by
    cases h with
    | cons a r => cases r; exact ⟨[], _, rfl, .nil, a⟩
  | x :: r, d, vs, h => by
    cases h with
    | cons a t =>
      obtain ⟨us, v, e, h1, h2⟩ := dpAll_last t
      exact ⟨_ :: us, v, by rw [e]; rfl, .cons a h1, h2⟩
theorem ix_last {α : Type} (us : List α) (v : α) : ixN (us ++ [v]).length (-1) = some us.length := by
  unfold ixN
  rw [List.length_append, if_neg (by decide), if_pos (by show -((us.length + 1 : Nat) : Int) ≤ -1; omega)]
  show some (-1 + ((us.length + 1 : Nat) : Int)).toNat = _
  congr 1
  omega
theorem set_last {α : Type} (us : List α) (v u : α) : (us ++ [v]).set us.length u = us ++ [u] := by
  rw [List.set_append_right _ _ (Nat.le_refl _), Nat.sub_self]
  rfl
theorem eqv_nilD (ds : List PyData) : PyData.eqv (.list ds) (.list []) = ds.isEmpty := by
  cases ds with
  | nil => rfl
  | cons x r => simp [PyData.eqv, PyData.eqvAll]
theorem sg_ne {c n : Nat} {s : Str} (e : s = ⟨#[n]⟩) (h : c ≠ n) : ¬ V.str ⟨#[c]⟩ = V.str s := fun z => h (by
  rw [e] at z
  have e2 : (⟨#[c]⟩ : Str) = ⟨#[n]⟩ := V.str.inj z
  injection e2 with e2
  simpa using e2)
theorem fold_mem (c : Nat) (a : Array Nat) : ∀ (n : Nat) (b : Array Nat), c ∈ ((List.replicate n a).foldl (· ++ ·) b).toList → c ∈ b.toList ∨ c ∈ a.toList
  | 0, b, h => .inl h
  | n + 1, b, h => by
    rw [List.replicate_succ, List.foldl_cons] at h
    rcases fold_mem c a n (b ++ a) h with z | z
    · rw [Array.toList_append] at z
      exact List.mem_append.mp z
    · exact .inr z
theorem mul_mem {c : Nat} {x : Str} {i : Int} (h : c ∈ (Txt.mul x i).cps.toList) : c ∈ x.cps.toList := by
  unfold Txt.mul at h
  split at h
  · exact absurd h (by simp [Str.empty])
  · split at h
    · exact h
    · rcases fold_mem c x.cps _ _ h with z | z
      · simp at z
      · exact z
section
variable {X : Cx}
/-- z * i, z a short text -/
theorem op_mulT : OpR X (binaryOp .Mult) (fun x y H Q => ∃ z i, x = .str z ∧ y = .int i ∧ z.length ≤ 16 ∧ 0 ≤ i ∧ i ≤ 1048576 ∧ ∀ u : Str, (u.length : Int) = (z.length : Int) * i → (∀ c ∈ u.cps.toList, c ∈ z.cps.toList) → Q (.str u) H) := by
  intro pins s σ H x y v u Q I rx ry h
  obtain ⟨z, i, rfl, rfl, h1, h2, h3, q⟩ := h
  obtain ⟨t, rfl⟩ := rx
  obtain ⟨t2, rfl⟩ := ry
  exact PySem.W.KXi.mul rfl h1 (by omega) h3 fun t' k _ e => ⟨.str _, H, I.tok k, ⟨t', rfl⟩, q _ (e h2) fun c hc => mul_mem hc⟩
end
theorem app_list (a b : Str) : (a ++ b).cps.toList = a.cps.toList ++ b.cps.toList := by
  show (a.cps ++ b.cps).toList = _
  rw [Array.toList_append]
theorem sum_le {α : Type} {f : α → Nat} {b : Nat} : ∀ {l : List α}, (∀ x ∈ l, f x ≤ b) → (l.map f).sum ≤ l.length * b
  | [], _ => Nat.zero_le _
  | x :: r, h => by
    have h1 := h x List.mem_cons_self
    have h2 := sum_le (f := f) (b := b) (l := r) fun y hy => h y (List.mem_cons_of_mem _ hy)
    rw [List.map_cons, List.sum_cons, List.length_cons, Nat.succ_mul]
    omega
theorem blk_cons {X : Cx} {st : Stmt} {r : List Stmt} {t : TS} {G : TS → Prop} (h : PS X st t) (n : ∃ u, PSs X r u ∧ G (tSeq t u)) : ∃ u, PSs X (st :: r) u ∧ G u := n.elim fun u z => ⟨_, pss_cons h z.1, z.2⟩
theorem blk_nil {X : Cx} {G : TS → Prop} (h : G tNext) : ∃ u, PSs X [] u ∧ G u := ⟨_, pss_nil, h⟩
end Gd
/-! Further rules: what may raise at known slots, keywords, isinstance of a caught error with its own dict, places in tuples. -/
namespace Gd
open PySem PySem.Spec PyProof.Rows L2
/-- a call by positional values and keywords, no defaults -/
theorem kbn_of {K : PySem.W.Frag} {x qual : Str} {st : Stmt} {f : Addr} {fd : FuncData} {ps ks : List Str} {n : Nat} {g : List Value → List Value → List Value} {gV : List V → List V → List V} (F : Fun K x qual st f fd)
    (h : ∀ (kV doc pm : Value) (an : Option Addr) (cv ct : Value) (us ws : List Value), us.length = n → ws.length = ks.length → bindArgs (PySem.W.fnOf x qual (defArgs st) (defBody st) (defScope st) .none kV doc pm an cv ct) ⟨us, ks.zip ws⟩ = pure (ps.zip (g us ws)))
    (r : ∀ {vs : List V} {us : List Value} {zs : List V} {ws : List Value}, Vals vs us → Vals zs ws → Vals (gV vs zs) (g us ws)) : KBn K fd ps n ks g gV := by
  obtain ⟨oc, od, kV, doc, pm, an, cv, ct, osl, rfl, lk, hc⟩ := F.ex
  exact ⟨fun s us ws _ l1 l2 => .of_eq (h kV doc pm an cv ct us ws l1 l2), r⟩
section
variable {X : Cx} {CX : CXT} {k n : Nat} {f C : Addr} {fd : FuncData} {ps ks : List Str} {sp : Sp} {x m : Str} {p pos apos : Pos} {e o : Expr} {es : List Expr} {kws : List Keyword} {t tk ta : TA} {to : TE} {g : List Value → List Value → List Value} {gV : List V → List V → List V}
/-- f(k = v, ..), f raising nothing -/
def tKn (m : Nat) (sp : Sp) (gV : List V → List V → List V) (tk : TA) : TE := fun σ H Q => tk σ H fun zs H2 => zs.length = m ∧ sp (gV [] zs) H2 Q E0
theorem pe_kwN (F : FnG X.prog X.w X.K X.mg X.base k f fd ps sp) (hr : RmG k X.A) (hg : Gl X x) (hm : X.mg x = some (.ref f)) (hk : PySem.W.keepIn X.K (.ref f) = true) (hb : KBn X.K fd ps 0 ks g gV) (hkw : PK X kws tk)
    (h1 : (backToKw pos (keywordEach kws X.env)).all (·.1.isSome) = true := by rfl) (h2 : (backToKw pos (keywordEach kws X.env)).filterMap (·.1) = ks := by rfl) (h3 : (x == ("__debug__" : Str)) = false := by decide)
    (h4 : ((backTo pos (starEach [] X.env)).any (·.1) || (backToKw pos (keywordEach kws X.env)).any (·.1.isNone)) = false := by rfl) :
    PE X (.Call (.Name x p) [] kws pos) (tKn ks.length sp gV tk) := by
  refine ⟨fun pins s σ H Q I h => wpAny_Call_Name_kw (ld_glob I hg hm (PySem.W.callWith_KW0 (h₀ := X.base) I.ok.mod.kin hk h1 ?_ h4) h3)⟩
  refine thn (hkw.run pos pins s σ H _ I h) fun ws s2 ⟨zs, H2, I2, rz, l, q⟩ => ⟨I2.kIn, ?_⟩
  rw [h2]
  refine wpAny_call (codeAny_mono (run_G F hr I2 (hb.to s2 [] ws I2.kIn rfl (rz.length.symm.trans l)) (hb.rel .nil rz) q) fun r s' hq => ?_)
  obtain ⟨u, rfl, z⟩ := hq
  exact z
/-- o.m(k = v, ..), m raising nothing -/
def tMKn (C : Addr) (m : Str) (l : Nat) (sp : Sp) (gV : List V → List V → List V) (to : TE) (tk : TA) : TE := fun σ H Q => to σ H fun x H1 => ∃ a dx fs, x = .ref a ∧ H1 a = some (.ins C dx fs) ∧ fs.lookup m = none ∧ tk σ H1 fun zs H2 => zs.length = l ∧ sp (gV [x] zs) H2 Q E0
theorem pe_methK {pl : Sem Bool} (he : PE X o to) (c : Cls X.K C) (hm : Meth X.K C m f) (F : FnG X.prog X.w X.K X.mg X.base k f fd ps sp) (hr : RmG k X.A) (hb : KBn X.K fd ps 1 ks g gV) (hkw : PK X kws tk)
    (h1 : (backToKw pos (keywordEach kws X.env)).all (·.1.isSome) = true := by rfl) (h2 : (backToKw pos (keywordEach kws X.env)).filterMap (·.1) = ks := by rfl)
    (h4 : ((backTo pos (starEach [] X.env)).any (·.1) || (backToKw pos (keywordEach kws X.env)).any (·.1.isNone)) = false := by rfl)
    (ht : eval (.Call (.Attribute o m apos) [] kws pos) X.env = (do
      let ov ← eval o X.env
      standAt apos.atName
      let (f, first) ← holding [ov] (getMethod ov m pl)
      callWith pos f first (backTo pos (starEach [] X.env)) (backToKw pos (keywordEach kws X.env))) := by rfl) :
    PE X (.Call (.Attribute o m apos) [] kws pos) (tMKn C m ks.length sp gV to tk) := by
  refine ⟨fun pins s σ H Q I h => PySem.W.methodCall_KW (pl := pl) (thn (he.run pins s σ H _ I h) fun u s1 ⟨x, H1, I1, rx, a, dx, fs, ex, ea, l, q⟩ => ?_) ht⟩
  subst ex
  obtain rfl : u = Value.ref a := rx
  refine getmeth_ok I1 ea c hm l (PySem.W.callWith_KW0 (first := [.ref a]) (h₀ := X.base) I.ok.mod.kin hm.kp h1 ?_ h4)
  refine thn (hkw.run pos pins s1 σ H1 _ I1 q) fun ws s2 ⟨zs, H2, I2, rz, l, q⟩ => ⟨I2.kIn, ?_⟩
  rw [h2]
  refine wpAny_call (codeAny_mono (run_G F hr I2 (hb.to s2 [.ref a] ws I2.kIn rfl (rz.length.symm.trans l)) (hb.rel (.cons (show RelV (V.ref a) (Value.ref a) from rfl) .nil) rz) q) fun r s' hq => ?_)
  obtain ⟨u, rfl, z⟩ := hq
  exact z
/-- C(e, ..) whose __init__ may raise; E: what is wanted then, at these slots -/
def tMakeS (C : Addr) (sp : Sp) (E : L2.St → XK) (t : TA) : TE := fun σ H Q => t σ H fun vs H1 => ∀ x dx, H1 x = none → H1 dx = none → dx ≠ x →
  sp (.ref x :: vs) (upd (upd H1 dx (.own x)) x (.ins C dx [])) (fun v H2 => v = .non ∧ Q (.ref x) H2) (E σ)
theorem pe_makeS {E : L2.St → XK} (M : Mk X.K C f) (F : FnOk X.prog X.w X.K X.mg X.base CX k f fd ps sp) (hr : Room (k + 1) X.A) (hg : Gl X x) (hm : X.mg x = some (.ref C)) (hb : Binds X.K fd ps []) (hx : ∀ σ, PassesAt CX X σ (E σ))
    (ha : PA X (e :: es) t) (h1 : (x == ("__debug__" : Str)) = false := by decide) (h2 : starEach (e :: es) X.env = (false, eval e X.env) :: starEach es X.env := by rfl) (h3 : (backTo pos (starEach es X.env)).any (·.1) = false := by rfl) :
    PE X (.Call (.Name x p) (e :: es) [] pos) (tMakeS C sp E t) := by
  refine ⟨fun pins s σ H Q I h => wpAny_Call_Name_kw (ld_glob I hg hm (PySem.W.callWith_K (h₀ := X.base) I.ok.mod.kin M.kp (thn (ha.run pos pins s σ H _ I h) fun us s1 ⟨vs, H1, I1, r, q⟩ => ⟨I1.kIn, ?_⟩) h2 h3) h1)⟩
  have q2 := q (s1.heap.objs.size + 1) s1.heap.objs.size (I1.hok.fresh (Nat.le_succ _)) (I1.hok.fresh (Nat.le_refl _)) (Nat.ne_of_lt (Nat.lt_succ_self _))
  have I2 := Inv.made (C := C) I1
  have r2 : Vals (V.ref (s1.heap.objs.size + 1) :: vs) (Value.ref (s1.heap.objs.size + 1) :: us) := .cons rfl r
  have hl : (Value.ref (s1.heap.objs.size + 1) :: us).length = ps.length := r2.length.symm.trans (F.len _ _ _ _ q2)
  have b := hb _ (Value.ref (s1.heap.objs.size + 1) :: us) I2.kIn (by rw [List.append_nil]; exact hl)
  rw [List.append_nil] at b
  refine wpAny_call (make_map (f := f) I1.kIn M.makes M.init (beq_iff_eq.mp M.fn) (codeAny_mono (F.run _ X.stack _ _ ⟨Value.ref (s1.heap.objs.size + 1) :: us, []⟩ _ _ _ (E σ) (hr.make C us []) (I2.env0.make C us []) b r2 q2) fun r s' hq => ?_))
  rcases r with er | fl
  · exact hx σ pins _ _ er s' I2 hq
  · cases fl with
    | ret u =>
      obtain ⟨v, H', I3, rv, ev, q3⟩ := I2.after hq
      subst ev
      exact ⟨rv, ⟨V.ref (s1.heap.objs.size + 1), H', I3, rfl, q3⟩⟩
    | next => exact hq.elim
    | brk => exact hq.elim
    | cont => exact hq.elim
/-- isinstance(e, c), e the error that the suite holds, of the class at D -/
theorem call_isE2 {a D : Addr} {oe : Obj} {d : Option Addr} {pn : List (Addr × Obj)} (T : L2.ExcC X.K D) (hz : Zc (.ref D) d oe) (hf : ∃ vs, oe.data = .fields vs) :
    CallR (X.suite a ((a, oe) :: pn)) (.builtin "isinstance") (fun xs H Q => ∃ (c : V) (u : Value) (b : Bool), xs = [.ref a, c] ∧ ClsV c u ∧ PySem.W.kitOne X.K (.ref D) u = some b ∧ (d = none ∨ ∃ dd fs, d = some dd ∧ H dd = some (.xd fs) ∧ fs.lookup ("__class__" : Str) = none) ∧ Q (.bl b) H) := by
  intro pins s σ H xs us Q I r h
  obtain ⟨c, u, b, rfl, hc, e, hd, q⟩ := h
  obtain ⟨u1, u2, rfl, r1, r2⟩ := vals2 r
  obtain rfl : u1 = Value.ref a := r1
  have e2 := hc.eq r2
  subst e2
  obtain ⟨ha, _⟩ := I.pin (a, oe) (List.mem_append_left _ List.mem_cons_self)
  obtain ⟨vs, hv⟩ := hf
  have hcl : (PySem.W.clsIn X.K D).isSome = true := by
    obtain ⟨cd, z, _⟩ := PySem.W.any_some T.hd
    rw [z]
    rfl
  obtain ⟨od, J⟩ : ∃ od, PySem.W.InstAt s.heap a oe D od := by
    rcases hd with rfl | ⟨dd, fs, rfl, hx, _⟩
    · exact ⟨none, ha, hz.1, by unfold PySem.W.notCls; rw [hv] <;> rfl, by rw [hz.2]; trivial⟩
    · obtain ⟨mA, hns, _⟩ := (show ObjOk X.prog X.w H s.heap dd (.xd fs) from I.hok dd _ hx)
      obtain ⟨od, ho, _⟩ := lookIn_ns hns
      exact ⟨some od, ha, hz.1, by unfold PySem.W.notCls; rw [hv] <;> rfl, by rw [hz.2]; exact ho⟩
  exact PySem.W.kia_one (PySem.W.kitx_exc (x := a) (ox := oe) (od := od) hcl T.hg T.hk T.hs T.ha T.hn T.ht T.hm) I.kIn J e (fun z => nomatch z) fun tk => ⟨.bl b, H, I.tok tk, rfl, q⟩
end
end Gd
namespace Gd
open PySem PySem.Spec PyProof.Rows L2
section
variable {X : Cx}
/-- t.index(n), n in it -/
theorem mt_indexI : MtR X "tuple.index" (fun x xs H Q => ∃ (p : Addr) (ns : List Int) (z : Int), x = .ref p ∧ xs = [.int z] ∧ SqT X.K H p (ns.map V.int) ∧ z ∈ ns ∧ Q (.int (ns.idxOf z : Nat)) H) := by
  intro pins s σ H x xs v us Q I rx rs h
  obtain ⟨p, ns, z, rfl, rfl, hq, hz, q⟩ := h
  obtain rfl : v = Value.ref p := rx
  obtain ⟨u, rfl, t, rfl⟩ := vals1 rs
  obtain ⟨its, r, pl, _⟩ := I.tuple hq
  exact PySem.SeqAt.tuple_index_ints pl (intsAre_of r) hz ⟨.int (ns.idxOf z : Nat), H, I.tok _, ⟨_, rfl⟩, q⟩
/-- (x,) * k -/
theorem op_rep1 : OpR X (binaryOp .Mult) (fun x y H Q => ∃ (l : Addr) (k : Int) (z : V), x = .ref l ∧ y = .int k ∧ SqT X.K H l [z] ∧ 2 ≤ k ∧ k ≤ 100000 ∧ ∀ p, H p = none → Q (.ref p) (upd H p (.tup (List.replicate k.toNat z)))) := by
  intro pins s σ H x y v u Q I rx ry h
  obtain ⟨l, k, z, rfl, rfl, hT, h1, h2, q⟩ := h
  obtain rfl : v = Value.ref l := rx
  obtain ⟨t, rfl⟩ := ry
  obtain ⟨its, r, ⟨⟨cls, dd, data, sl⟩, ho, hc, n, hd⟩, hs⟩ := I.tuple hT
  simp only at hc hd
  subst hc hd
  obtain ⟨u0, rfl, r0⟩ := vals1 r
  have e1 : ([u0] : List Value).toArray.size = 1 := rfl
  have fl : (List.replicate k.toNat [u0]).flatten = List.replicate k.toNat u0 := by
    generalize k.toNat = m
    induction m with
    | zero => rfl
    | succ m ih => rw [List.replicate_succ, List.flatten_cons, ih, List.replicate_succ]; rfl
  have c0 : (decide (k < -(2 ^ 63)) || decide (k ≥ 2 ^ 63)) = false := by rw [decide_eq_false (by omega), decide_eq_false (by omega)]; rfl
  have c1 : (([u0] : List Value).toArray.isEmpty || k == 1) = false := by
    rw [show ([u0] : List Value).toArray.isEmpty = false from rfl, Bool.false_or]
    exact beq_eq_false_iff_ne.mpr (by omega)
  have c2 : (decide (k ≤ 0) || ([u0] : List Value).toArray.isEmpty) = false := by
    rw [show ([u0] : List Value).toArray.isEmpty = false from rfl, Bool.or_false]
    exact decide_eq_false (by omega)
  have c4 : Builtin.Tuple.tupleTooMany (((([u0] : List Value).toArray.size : Nat) : Int) * k) = false := by
    unfold Builtin.Tuple.tupleTooMany
    rw [e1, sizeLine_eq]
    exact decide_eq_false (by omega)
  have hz : (List.replicate k.toNat u0).length ≤ sizeLine := by
    rw [List.length_replicate, sizeLine_eq]
    omega
  refine wpAny_binaryOp_repeat_ref (T := "tuple") (U := "int") (by decide) ⟨_, ho, rfl⟩ (fun s' => typeIs_int s' k t) noFill_tuple_mul F.fills_int_mul F.slot_int_rmul repeat_tuple F.slot_int_index.lookup
    (call_meets F.slot_int_rmul (typeIs_int s k t) F.entry_int_rmul (F.args_int_rmul_2 _ _) (int_rmul_tuple k t l ([u0] : List Value).toArray n dd sl)
      ⟨ho, rfl, ⟨_, ho, rfl⟩, call_meets F.slot_tuple_mul ⟨_, ho, rfl⟩ F.entry_tuple_mul (F.args_tuple_mul_2 _ _) (tuple_mulW l ([u0] : List Value).toArray n dd sl k t c0 c1 c2 (by rw [e1]; omega) c4 (by rw [size_rep, List.size_toArray, fl]; exact hz)) ⟨ho, ?_⟩⟩)
  rw [size_rep, fl]
  refine ⟨.ref s.heap.objs.size, _, I.laid (t' := s.toks) (o := .tup (List.replicate k.toNat z)) (fun b ob q => Heap.get?_push_of_some _ q) (Nat.le_refl _) ?_, rfl, q _ (I.hok.fresh (Nat.le_refl _))⟩
  refine ⟨by rw [List.length_replicate, sizeLine_eq]; omega, List.replicate k.toNat u0, ?_, IsTup.new _ _⟩
  generalize k.toNat = m
  induction m with
  | zero => exact .nil
  | succ m ih => rw [List.replicate_succ, List.replicate_succ]; exact .cons r0 ih
end
end Gd
namespace Gd
open PySem PySem.Spec PyProof.Rows L2
/-- a tuple that is known to have no attributes of its own -/
def PlT (H : Hp) (p : Addr) (xs : List V) : Prop := ∃ o : Obj, o.cls = .type "tuple" ∧ o.dict = none ∧ H p = some (.frz o (.tup xs))
theorem PlT.sq {K : PySem.W.Frag} {H : Hp} {p : Addr} {xs : List V} (h : PlT H p xs) : SqT K H p xs := let ⟨o, _, _, e⟩ := h; .inl (.inr ⟨o, e⟩)
theorem PlT.same {H G : Hp} {p : Addr} {xs : List V} (h : PlT H p xs) (e : Same H G) : PlT G p xs := let ⟨o, a, b, z⟩ := h; ⟨o, a, b, e _ _ z⟩
theorem PlT.keep {H G : Hp} {p : Addr} {xs : List V} (h : PlT H p xs) (e : KeepT H G) : PlT G p xs := let ⟨o, a, b, z⟩ := h; ⟨o, a, b, e _ _ z (by intro _ q; cases q)⟩
section
variable {X : Cx} {o e : Expr} {es : List Expr} {to : TE} {t : TA} {name : Str} {apos cpos : Pos} {id : String} {r : V → List V → Hp → VK → Prop}
/-- tuple(xs), xs a list: no attributes -/
theorem call_tuple_pl : CallR X (.type "tuple") (fun xs H Q => ∃ p ys, xs = [.ref p] ∧ SqL X.K H p ys ∧ ∀ l G, H l = none → Same H G → PlT G l ys → Q (.ref l) G) := by
  intro pins s σ H xs us Q I r h
  obtain ⟨p, ys, rfl, hq, q⟩ := h
  obtain ⟨u, rfl, rx⟩ := vals1 r
  cases rx
  obtain ⟨its, r', pl, hz⟩ := I.list hq
  have hlen := r'.length
  refine call_tuple_list pl.isList (fun h' kp => ?_) (by simp only [List.size_toArray] <;> omega)
  have I1 : Inv X pins σ H { s with heap := h' } := I.kept (t' := s.toks) kp
  have hn := I1.hok.fresh (Nat.le_refl _)
  have I2 : Inv X pins σ (upd H h'.objs.size (.frz { cls := .type "tuple", data := .seq its.toArray } (.tup ys))) { s with heap := h'.push { cls := .type "tuple", data := .seq its.toArray } } :=
    I1.laid (t' := s.toks) (fun b o e => Heap.get?_push_of_some _ e) (Nat.le_refl _) (show ObjOk X.prog X.w _ _ _ (.frz _ (.tup ys)) from ⟨Heap.get?_push_size _ rfl, hz, its, r', IsTup.new _ _⟩)
  exact ⟨.ref h'.objs.size, _, I2, rfl, q _ _ hn (same_new hn) ⟨_, rfl, rfl, upd_same⟩⟩
/-- t.m(e, ..), t such a tuple -/
def tBMT (r : V → List V → Hp → VK → Prop) (to : TE) (t : TA) : TE := fun σ H Q => to σ H fun x H1 => (∃ p ys, x = .ref p ∧ PlT H1 p ys) ∧ t σ H1 fun xs H2 => r x xs H2 Q
theorem pe_bmT (pa : PlainAttrs "tuple") (slot : Slot "tuple" name id) (hty : typeOf (.builtin id) = pure (.type "method_descriptor")) (hm : MtR X id r) (ho : PE X o to) (ha : PA X (e :: es) t)
    (hbase : attributeBase o name X.env (eval o X.env) = eval o X.env := by rfl)
    (hfew : ((backTo cpos (starEach (e :: es) X.env)).all (fun x => !x.1) && (backToKw cpos (keywordEach [] X.env)).all (fun x => x.1.isSome)
      && decide ((e :: es).length + ([] : List Keyword).length + (if ([] : List Keyword).isEmpty then 0 else 1) < 30)) = true := by rfl)
    (hline : (apos.endLine == cpos.line) = true := by rfl) (hs : starEach (e :: es) X.env = (false, eval e X.env) :: starEach es X.env := by rfl) (hplain : (backTo cpos (starEach es X.env)).any (·.1) = false := by rfl) :
    PE X (.Call (.Attribute o name apos) (e :: es) [] cpos) (tBMT r to t) := by
  refine ⟨fun pins s σ H Q I h => ?_⟩
  refine wpAny_Call_method_late hbase hfew hline rfl (thn (ho.run pins s σ H _ I h) fun v s1 ⟨x, H1, I1, r1, ty, q1⟩ => ?_)
  obtain ⟨p, ys, rfl, ob, hc, hd, hq⟩ := ty
  obtain rfl : v = Value.ref p := r1
  have ho := (I1.hok p _ hq).1
  refine ⟨"tuple", id, pa, slot, hty, ⟨ob, ho, hc⟩, fun a e => ?_, ?_⟩
  · cases e
    exact ⟨ob, ho, hd⟩
  have hA := ha.run cpos pins s1 σ H1 _ I1 q1
  rw [hs] at hA ⊢
  refine Calls.callWith_builtin (by show (false || (backTo cpos (starEach es X.env)).any (·.1)) = false; rw [hplain] <;> rfl) (Calls.evalArgs_plain ?_)
  exact thn hA fun us s2 ⟨vs, H2, I2, r2, q2⟩ => hm pins s2 σ H2 (.ref p) vs _ us Q I2 rfl r2 q2
end
end Gd
/-! What further laws share: values told by their types, numbers, sorted lists, frames. -/
namespace Gd
open PySem PySem.Spec PyProof.Rows L2
/-- a value of a built-in type, by the name of the type -/
def TyN (K : PySem.W.Frag) (H : Hp) (x : V) (n : String) : Prop := TyX K H x (.type n)
theorem TyN.int {K : PySem.W.Frag} {H : Hp} (i : Int) : TyN K H (.int i) "int" := .base (.int i)
theorem TyN.bl {K : PySem.W.Frag} {H : Hp} (b : Bool) : TyN K H (.bl b) "bool" := .base (.bl b)
theorem TyN.non {K : PySem.W.Frag} {H : Hp} : TyN K H .non "NoneType" := .base .non
theorem TyN.str {K : PySem.W.Frag} {H : Hp} (x : Str) : TyN K H (.str x) "str" := .base (.str x)
theorem tyX_same {K : PySem.W.Frag} {H G : Hp} (e : Same H G) {x : V} {t : Value} (h : TyX K H x t) : TyX K G x t := by
  cases h with
  | base b =>
    cases b with
    | non => exact .base .non
    | bl y => exact .base (.bl y)
    | int i => exact .base (.int i)
    | str y => exact .base (.str y)
    | flt y => exact .base (.flt y)
    | lst q => exact .base (.lst (e _ _ q))
    | frz q => exact .base (.frz (e _ _ q))
    | tup q => exact .base (.tup (e _ _ q))
    | dK q => exact .base (.dK (e _ _ q))
    | dT q => exact .base (.dT (e _ _ q))
    | ins q a b c d m => exact .base (.ins (e _ _ q) a b c d m)
  | byt b => exact .byt b
  | set q => exact .set (e _ _ q)
  | kList q c => exact .kList q c
  | kTuple q c => exact .kTuple q c
  | kDict q c => exact .kDict q c
  | fTuple q => exact .fTuple (e _ _ q)
  | fDict q => exact .fDict (e _ _ q)
/-- whether any value is a number below a limit -/
def NumV (K : PySem.W.Frag) (H : Hp) (lim : Int) (x : V) (b : Bool) : Prop :=
  (∃ i, x = .int i ∧ b = decide (0 ≤ i ∧ i < lim)) ∨ (∃ y, x = .bl y ∧ b = false) ∨ (∃ n, TyN K H x n ∧ kitB n "int" = some false ∧ b = false)
theorem NumV.same {K : PySem.W.Frag} {H G : Hp} (e : Same H G) {lim : Int} {x : V} {b : Bool} (h : NumV K H lim x b) : NumV K G lim x b :=
  h.imp id fun h => h.imp id fun ⟨n, t, k, z⟩ => ⟨n, tyX_same e t, k, z⟩
def NumVs (K : PySem.W.Frag) (H : Hp) (lim : Int) : List V → List Bool → Prop := Paired (NumV K H lim)
theorem paired_at {α β : Type} {R : α → β → Prop} : ∀ {xs : List α} {ys : List β} {i : Nat} {x : α}, Paired R xs ys → xs[i]? = some x → ∃ y, ys[i]? = some y ∧ R x y
  | _, _, _, _, .nil, e => by simp at e
  | _, _, 0, _, .cons r _, e => by simp at e; subst e; exact ⟨_, rfl, r⟩
  | _, _, i + 1, x, .cons _ t, e => by
    obtain ⟨y, h1, h2⟩ := paired_at (i := i) (x := x) t (by simpa using e)
    exact ⟨y, by simpa using h1, h2⟩
theorem tyT {K : PySem.W.Frag} {H : Hp} {c : Addr} {xs : List V} (h : SqT K H c xs) : TyN K H (.ref c) "tuple" := by
  rcases h with (z | ⟨o, z⟩) | ⟨o, its, n, hk, hc, _⟩
  · exact .base (.tup z)
  · exact .fTuple z
  · exact .kTuple hk hc
theorem nd_ints {l : List Nat} (h : l.Nodup) : (l.map fun a : Nat => (a : Int)).Nodup := by
  induction l with
  | nil => exact List.nodup_nil
  | cons a r ih =>
    obtain ⟨h1, h2⟩ := List.nodup_cons.mp h
    rw [List.map_cons]
    refine List.nodup_cons.mpr ⟨fun z => ?_, ih h2⟩
    obtain ⟨b, hb, e⟩ := List.mem_map.mp z
    have : b = a := by omega
    exact h1 (this ▸ hb)
theorem inV_ints (a : Int) (l : List Int) : inV (.int a) (l.map V.int) = decide (a ∈ l) := by
  induction l with
  | nil => rfl
  | cons b r ih =>
    have e : inV (.int a) ((b :: r).map V.int) = (eqV (.int b) (.int a) || inV (.int a) (r.map V.int)) := rfl
    rw [e, ih]
    by_cases h : b = a
    · subst h
      have : eqV (.int b) (.int b) = true := by simp [eqV]
      rw [this, Bool.true_or]
      exact (decide_eq_true List.mem_cons_self).symm
    · have : eqV (.int b) (.int a) = false := by simp [eqV, h]
      rw [this, Bool.false_or]
      exact decide_eq_decide.mpr ⟨fun z => List.mem_cons_of_mem _ z, fun z => (List.mem_cons.mp z).resolve_left fun e => h e.symm⟩
theorem flat_ints (l : List Int) : (l.map V.int).all flatV = true := List.all_eq_true.mpr fun x hx => by
  obtain ⟨n, _, rfl⟩ := List.mem_map.mp hx
  rfl
/-- sorted lists with the same things, each once, are one -/
theorem sorted_same : ∀ {a b : List Int}, a.Pairwise (· ≤ ·) → b.Pairwise (· ≤ ·) → a.Nodup → b.Nodup → (∀ x, x ∈ a ↔ x ∈ b) → a = b
  | [], [], _, _, _, _, _ => rfl
  | [], y :: s, _, _, _, _, h => absurd ((h y).mpr List.mem_cons_self) List.not_mem_nil
  | x :: r, [], _, _, _, _, h => absurd ((h x).mp List.mem_cons_self) List.not_mem_nil
  | x :: r, y :: s, pa, pb, na, nb, h => by
    obtain ⟨a1, a2⟩ := List.pairwise_cons.mp pa
    obtain ⟨b1, b2⟩ := List.pairwise_cons.mp pb
    obtain ⟨n1, n2⟩ := List.nodup_cons.mp na
    obtain ⟨m1, m2⟩ := List.nodup_cons.mp nb
    have e : x = y := by
      rcases List.mem_cons.mp ((h x).mp List.mem_cons_self) with z | z
      · exact z
      · rcases List.mem_cons.mp ((h y).mpr List.mem_cons_self) with z2 | z2
        · exact z2.symm
        · exact Int.le_antisymm (a1 y z2) (b1 x z)
    subst e
    rw [sorted_same a2 b2 n2 m2 fun z => ?_]
    constructor
    · intro hz
      rcases List.mem_cons.mp ((h z).mp (List.mem_cons_of_mem _ hz)) with q | q
      · exact absurd (q ▸ hz) n1
      · exact q
    · intro hz
      rcases List.mem_cons.mp ((h z).mpr (List.mem_cons_of_mem _ hz)) with q | q
      · exact absurd (q ▸ hz) m1
      · exact q
theorem cost_ints : ∀ l : List Int, costAll (l.map .int) = 12 * l.length
  | [] => by rw [List.map_nil, costAll]; rfl
  | x :: r => by
    rw [List.map_cons, costAll, cost_ints r, costD, List.length_cons]
    omega
theorem ints_fine {l : List Int} (h : ∀ x ∈ l, x.natAbs < 10 ^ 9) (hl : l.length ≤ 1000) : fine (.tuple (l.map .int)) = true ∧ (PyData.tuple (l.map .int)).depth ≤ 60 ∧ costD (.tuple (l.map .int)) ≤ sizeLine := by
  refine ⟨?_, ?_, ?_⟩
  · rw [fine]
    refine fineAll_mem fun d hd => ?_
    obtain ⟨x, hx, rfl⟩ := List.mem_map.mp hd
    rw [fine]
    exact decide_eq_true (h x hx)
  · rw [PyData.depth]
    have : PyData.depthAll (l.map .int) ≤ 1 := depthAll_mem fun d hd => by
      obtain ⟨x, _, rfl⟩ := List.mem_map.mp hd
      simp [PyData.depth]
    omega
  · rw [costD, cost_ints, sizeLine_eq]
    omega
theorem dp_tup {K : PySem.W.Frag} {H : Hp} {q : Addr} {l : List Int} (h : SqT K H q (l.map V.int)) : Dp K H (.ref q) (.tuple (l.map .int)) := .tup h (dpAll_ints l)
theorem map_at {ns : List Int} {i : Nat} {x : V} (h : (ns.map V.int)[i]? = some x) : ∃ n, ns[i]? = some n ∧ x = .int n := by
  rw [List.getElem?_map] at h
  cases e : ns[i]? with
  | none => rw [e] at h; cases h
  | some n => rw [e] at h; exact ⟨n, rfl, (Option.some.inj h).symm⟩
theorem paired_snoc {α β : Type} {R : α → β → Prop} : ∀ {xs : List α} {ys : List β} {x : α} {y : β}, Paired R xs ys → R x y → Paired R (xs ++ [x]) (ys ++ [y])
  | _, _, _, _, .nil, r => .cons r .nil
  | _, _, _, _, .cons a t, r => .cons a (paired_snoc t r)
theorem paired_mono {α β : Type} {R S : α → β → Prop} (h : ∀ a b, R a b → S a b) : ∀ {xs : List α} {ys : List β}, Paired R xs ys → Paired S xs ys
  | _, _, .nil => .nil
  | _, _, .cons a t => .cons (h _ _ a) (paired_mono h t)
/-- a statement's reading, kept shut -/
def tWr (t : TS) : TS := t
theorem ps_wr {X : Cx} {st : Stmt} {t : TS} (h : PS X st t) : PS X st (tWr t) := h
/-- isinstance(e, c), e the error that the suite holds; its class is told by the reading -/
theorem call_isE3 {X : Cx} {a D : Addr} {cls : Value} {oe : Obj} {d : Option Addr} {pn : List (Addr × Obj)} (T : L2.ExcC X.K D) (hz : Zc cls d oe) (hf : ∃ vs, oe.data = .fields vs) :
    CallR (X.suite a ((a, oe) :: pn)) (.builtin "isinstance") (fun xs H Q => cls = .ref D ∧ ∃ (c : V) (u : Value) (b : Bool), xs = [.ref a, c] ∧ ClsV c u ∧ PySem.W.kitOne X.K (.ref D) u = some b ∧ (d = none ∨ ∃ dd fs, d = some dd ∧ H dd = some (.xd fs) ∧ fs.lookup ("__class__" : Str) = none) ∧ Q (.bl b) H) := by
  intro pins s σ H xs us Q I r h
  obtain ⟨e, h⟩ := h
  subst e
  exact call_isE2 T hz hf pins s σ H xs us Q I r h
abbrev rTup (K : PySem.W.Frag) : List V → Hp → VK → Prop := fun xs H Q => ∃ p ys, xs = [.ref p] ∧ ((SqL K H p ys ∧ ∀ l, H l = none → Q (.ref l) (upd H l (.tup ys))) ∨ (SqT K H p ys ∧ Q (.ref p) H))
theorem call_tupK {X : Cx} : CallR X (.type "tuple") (rTup X.K) := call_tuple_of
theorem kit_yes {K : PySem.W.Frag} {A B : Addr} (h1 : PySem.W.isClsIn K B = true) (h2 : PySem.W.typeIn K (.ref B) = some (.type "type")) (h3 : PySem.W.subIn K (.ref A) (.ref B) = some true) : PySem.W.kitOne K (.ref A) (.ref B) = some true := by
  unfold PySem.W.kitOne
  split
  · rfl
  · have e : ((PySem.W.clsIn K B).isSome && PySem.W.typeIn K (.ref B) == some (.type "type")) = true := by
      have h1' : (PySem.W.clsIn K B).isSome = true := h1
      rw [h1', h2] <;> rfl
    show (if ((PySem.W.clsIn K B).isSome && PySem.W.typeIn K (.ref B) == some (.type "type")) = true then PySem.W.subIn K (.ref A) (.ref B) else none) = some true
    rw [if_pos e]
    exact h3
theorem kit_no {K : PySem.W.Frag} {A B : Addr} (h1 : PySem.W.isClsIn K B = true) (h2 : PySem.W.typeIn K (.ref B) = some (.type "type")) (h0 : PySem.W.subIn K (.ref A) (.ref A) = some true) (h3 : PySem.W.subIn K (.ref A) (.ref B) = some false) : PySem.W.kitOne K (.ref A) (.ref B) = some false := by
  have ne : (Value.ref A == Value.ref B) = false := by
    cases e : (Value.ref A == Value.ref B) with
    | false => rfl
    | true =>
      have z := eq_of_beq e
      rw [← z, h0] at h3
      cases h3
  unfold PySem.W.kitOne
  rw [ne]
  have e : ((PySem.W.clsIn K B).isSome && PySem.W.typeIn K (.ref B) == some (.type "type")) = true := by
    have h1' : (PySem.W.clsIn K B).isSome = true := h1
    rw [h1', h2] <;> rfl
  show (if ((PySem.W.clsIn K B).isSome && PySem.W.typeIn K (.ref B) == some (.type "type")) = true then PySem.W.subIn K (.ref A) (.ref B) else none) = some false
  rw [if_pos e]
  exact h3
/-- all stands as before but what is in S; all but lists stands as before -/
structure Frm (S : List Addr) (H G : Hp) : Prop where
  kt : KeepT H G
  ks : ∀ b o, b ∉ S → H b = some o → G b = some o
theorem Frm.same {S : List Addr} {H G : Hp} (e : Same H G) : Frm S H G := ⟨.of e, fun b o _ h => e b o h⟩
theorem Frm.trans {S : List Addr} {H G J : Hp} (a : Frm S H G) (b : Frm S G J) : Frm S H J := ⟨a.kt.trans b.kt, fun c o n h => b.ks c o n (a.ks c o n h)⟩
theorem Frm.mono {S T : List Addr} {H G : Hp} (a : Frm S H G) (h : ∀ x ∈ S, x ∈ T) : Frm T H G := ⟨a.kt, fun b o n e => a.ks b o (fun z => n (h b z)) e⟩
theorem Frm.put {S : List Addr} {H : Hp} {p : Addr} {xs : List V} {o : HO} (h : H p = some (.lst xs)) (m : p ∈ S) : Frm S H (upd H p o) := ⟨.put h, fun b x n e => (upd_ne fun z => n (by rw [z]; exact m)).trans e⟩
theorem Frm.new {S : List Addr} {H : Hp} {p : Addr} {o : HO} (h : H p = none) : Frm S H (upd H p o) := .same (same_new h)
theorem Frm.but {h l : Addr} {S : List Addr} {H G : Hp} {L : List Int} {st : Int} (v : Hv H h l L st) (b : But h l H G) (m1 : h ∈ S) (m2 : l ∈ S) : Frm S H G :=
  ⟨.but v b, fun c o n e => b c o (fun z => n (by rw [z]; exact m1)) (fun z => n (by rw [z]; exact m2)) e⟩
theorem Frm.seqT {K : PySem.W.Frag} {S : List Addr} {H G : Hp} {a : Addr} {xs : List V} (f : Frm S H G) (h : SqT K H a xs) : SqT K G a xs := f.kt.seqT h
theorem Hv.frm {h l : Addr} {S : List Addr} {H G : Hp} {L : List Int} {st : Int} (v : Hv H h l L st) (f : Frm S H G) (n1 : h ∉ S) (n2 : l ∉ S) : Hv G h l L st :=
  ⟨f.ks _ _ n1 v.top, f.ks _ _ n2 v.bot, v.ne, v.lo, v.hi, v.len⟩
theorem ixN_nat {n a : Nat} (h : a < n) : ixN n (a : Int) = some a := by
  unfold ixN
  rw [if_pos (by omega), if_pos (by omega)]
  rfl
theorem lc_str {x : Str} {g : TG} {tt : TT} {te : TE} {vs : List Nat} {σ : L2.St} {H1 : Hp} {D : Addr} {Qd : Hp → Prop} (Pv : Nat → Hp → Prop) (h0 : Pv 0 (upd H1 D (.lst [])))
    (hs : ∀ i c H, x.cps.toList[i]? = some c → Pv i H → g (.str ⟨#[c]⟩) (wipe σ vs) H fun σ2 H2 => wipe σ2 vs = wipe σ vs ∧ tt σ2 H2 fun b H3 =>
      if b = true then te σ2 H3 fun y H4 => ∃ acc, H4 D = some (.lst acc) ∧ acc.length < sizeLine ∧ Pv (i + 1) (upd H4 D (.lst (acc ++ [y]))) else Pv (i + 1) H3) (hd : ∀ H, Pv x.cps.toList.length H → Qd H) :
    ∃ W : Nat → Nat → Hp → Prop, (∃ m, W 0 m (upd H1 D (.lst []))) ∧ ∀ i m H, W i m H →
      ((Its x).stop i H ∧ Qd H) ∨ ((Its x).go i H ∧ ∃ Nx : Hp → Prop, (∀ H', Nx H' → ∃ m', m' < m ∧ W (i + 1) m' H') ∧ ∀ v H', (Its x).yld i H v H' → g v (wipe σ vs) H' fun σ2 H2 => wipe σ2 vs = wipe σ vs ∧ tt σ2 H2 fun b H3 =>
        if b = true then te σ2 H3 fun y H4 => ∃ acc, H4 D = some (.lst acc) ∧ acc.length < sizeLine ∧ Nx (upd H4 D (.lst (acc ++ [y]))) else Nx H3) := by
  refine ⟨fun i m H => m = x.cps.toList.length - i ∧ i ≤ x.cps.toList.length ∧ Pv i H, ⟨_, rfl, Nat.zero_le _, h0⟩, fun i m H hw => ?_⟩
  obtain ⟨rfl, hi, hp⟩ := hw
  by_cases hlt : i < x.cps.toList.length
  · refine .inr ⟨by show i < x.cps.size; simpa using hlt, Pv (i + 1), fun H' hp' => ⟨_, by omega, rfl, hlt, hp'⟩, fun v H' hy => ?_⟩
    obtain ⟨rfl, c, hc, rfl⟩ := hy
    exact hs i c _ (by simpa using hc) hp
  · have e : i = x.cps.toList.length := by omega
    subst e
    exact .inl ⟨by show x.cps.size ≤ _; simp, hd H hp⟩
end Gd
/-! enumerate of a tuple. -/
namespace Gd
open PySem PySem.Spec PyProof.Rows L2
set_option maxHeartbeats 1000000 in
theorem en_new {u : Value} {ob : Obj} {N : Heap → Prop} (B : Begins u ob N) :
    Meets (Builtin.«enumerate.__new__» ⟨[.type "enumerate", u], []⟩) (fun _ R z => N z.heap ∧
      R (.ok (.ret (.ref (z.heap.push ob).objs.size))) { z with heap := (z.heap.push ob).push { cls := .type "enumerate", data := .fields #[.none, .bool false, .ref z.heap.objs.size, rawInt 0, .none, .none] } }) := by
  refine .of_wp fun prog w A R z hz => ?_
  obtain ⟨hp, ga, dr, tk, os⟩ := z
  obtain ⟨n1, fin⟩ := hz
  have sb := sub_enumerate
  have it1 : ∀ {A2 : Around} {E2 : Value → Shared → Prop} {Q2 : Value → Shared → Prop}, Q2 (.ref hp.objs.size) ⟨hp.push ob, ga, dr, tk, os⟩ → wpAny (model prog w) A2 (pyIter u) Q2 E2 ⟨hp, ga, dr, tk, os⟩ :=
    fun y => B.iter prog w _ _ ⟨hp, ga, dr, tk, os⟩ _ n1 y
  wp_walk using it1
  refine wpAny_stack_any fun st => wpAny_pure ?_
  split
  · rename_i c _ _ _ _ _
    cases (c == Value.type "enumerate")
    · wp_walk using it1
      exact ⟨_, rfl, fin⟩
    · wp_walk using it1
      exact ⟨_, rfl, fin⟩
  · wp_walk using it1
    exact ⟨_, rfl, fin⟩
theorem en_call {prog : Program} {w : World} {A : Around} {E : Value → Shared → Prop} {z : Shared} {u : Value} {ob : Obj} {N : Heap → Prop} {Q : Value → Shared → Prop} (B : Begins u ob N) (n1 : N z.heap)
    (fin : ∀ g, IsEnum g (z.heap.objs.size + 1) z.heap.objs.size 0 .none → g.get? z.heap.objs.size = some ob → (∀ b o, z.heap.get? b = some o → g.get? b = some o) → Q (.ref (z.heap.objs.size + 1)) { z with heap := g }) :
    wpAny (model prog w) A (call (.type "enumerate") [u]) Q E z := by
  refine callType_new F.called_enumerate (by decide) (F.typeCall_enumerate_1 _) (F.newCall_enumerate_1 _) (fun x => F.args_object_init_2 x _) F.entry_enumerate_new (en_new B) ⟨n1, ?_⟩
  have sz : (z.heap.push ob).objs.size = z.heap.objs.size + 1 := Heap.size_push ..
  have top := Heap.get?_push_size (z.heap.push ob) (o := { cls := .type "enumerate", data := .fields #[.none, .bool false, .ref z.heap.objs.size, rawInt 0, .none, .none] }) rfl
  show _ ∧ _
  rw [sz] at top ⊢
  exact ⟨⟨_, top, rfl⟩, fin _ top (Heap.get?_push_of_some _ (Heap.get?_push_size _ B.free)) fun b o e => Heap.get?_push_of_some _ (Heap.get?_push_of_some _ e)⟩
/-- the tuple at a, each item in a new pair with its number -/
def ItEn (K : PySem.W.Frag) (a : Addr) : It where
  go i H := ∃ (xs : List V) (x : V), SqT K H a xs ∧ xs[i]? = some x
  yld i H v G := ∃ T x, v = .ref T ∧ H T = none ∧ G = upd H T (.tup [.int (i : Nat), x]) ∧ ∀ xs, SqT K H a xs → xs[i]? = some x
  stop i H := ∃ xs : List V, SqT K H a xs ∧ xs.length ≤ i
theorem turn_en {P : Program} {w : World} {K : PySem.W.Frag} {ts : List Expr} {kk : Nat} {tp : Pos} (a e r : Addr) :
    Turn P w K (.Tuple ts kk tp) (ItEn K a) [e, r] e (fun i h => (∃ old, IsEnum h e r ((i : Nat) : Int) old) ∧ h.IsTupleIter r a i) where
  mem := List.mem_cons_self
  obj := fun i h st b hb => by
    obtain ⟨⟨old, he⟩, o, ho, hc, hd⟩ := st
    rcases List.mem_cons.mp hb with z | z
    · subst z
      exact ⟨_, he, fun v q => nomatch q⟩
    · refine ⟨o, List.mem_singleton.mp z ▸ ho, fun v q => ?_⟩
      rw [hd] at q
      cases q
  keep := fun i h g st k => by
    obtain ⟨⟨old, he⟩, hr⟩ := st
    exact ⟨⟨old, k e List.mem_cons_self _ he⟩, hr.at fun o z => k r (List.mem_cons_of_mem _ List.mem_cons_self) o z⟩
  item := by
    intro X h1 h2 h3 calm i pins z σ H E I fp st gg
    subst h1 h2 h3
    obtain ⟨⟨old, he⟩, hr⟩ := st
    obtain ⟨xs, x, hq, hx⟩ := gg
    obtain ⟨its, rv, pt, _⟩ := I.tuple hq
    obtain ⟨u, hu, ru⟩ := rv.get hx
    have tup : z.heap.IsTuple a its.toArray := pt
    have el : e < z.heap.objs.size := Heap.lt_size he
    obtain ⟨o1, g1, c1, d1⟩ := id hr
    have rl : r < z.heap.objs.size := Heap.lt_size g1
    obtain ⟨o2, g2, c2, _⟩ := id tup
    have er : e ≠ r := fun q => by
      have y := Option.some.inj (he.symm.trans (q ▸ g1))
      rw [← y] at c1
      exact absurd (Value.type.inj c1) (by decide)
    have ea : e ≠ a := fun q => by
      have y := Option.some.inj (he.symm.trans (q ▸ g2))
      rw [← y] at c2
      exact absurd (Value.type.inj c2) (by decide)
    have ra : a ≠ r := fun q => by
      have y := Option.some.inj (g1.symm.trans (q ▸ g2))
      rw [← y, c1] at c2
      exact absurd (Value.type.inj c2) (by decide)
    have hd : X.A.in1.handled = none := I.ok.hd calm
    have hlt : i < its.toArray.size := by
      have q := (List.getElem?_eq_some_iff.mp hu).1
      simpa using q
    have nin : e ∉ [r, a] := fun q => (List.mem_cons.mp q).elim er fun q => ea (List.mem_singleton.mp q)
    refine wpAny_pyNext_enum_itemD (Draws.tuple (prog := X.prog) (w := X.w) hd r a ra its.toArray) he ⟨hr, tup⟩ hlt er nin fun y g tk py ho st2 hT hsz hk => ?_
    have hy : y = u := by
      have q : its.toArray[i]? = some y := py
      have q2 : its.toArray[i]? = some u := by simpa using hu
      exact Option.some.inj (q.symm.trans q2)
    subst hy
    refine ⟨_, rfl, wpAny_letOwnedTupleGo_enum (s := { z with heap := g, toks := tk + 1 }) ho fun g2 he2 sb => ?_⟩
    have keep : ∀ b o, b ∉ [e, r] → z.heap.get? b = some o → g2.get? b = some o := fun b o nb q => by
      have nbe : b ≠ e := fun w => nb (by rw [w]; exact List.mem_cons_self)
      have nbr : b ≠ r := fun w => nb (by rw [w]; exact List.mem_cons_of_mem _ List.mem_cons_self)
      exact (sb.2 b nbe).trans (hk b o nbe nbr q)
    have T2 : g2.get? z.heap.objs.size = some { cls := .type "tuple", data := .seq #[.int i tk, y] } := (sb.2 _ (Nat.ne_of_gt el)).trans hT
    have fit : ObjOk X.prog X.w (upd H z.heap.objs.size (.tup [.int (i : Nat), x])) g2 z.heap.objs.size (.tup [.int (i : Nat), x]) :=
      ⟨by show 2 ≤ sizeLine; decide, [.int i tk, y], .cons ⟨_, rfl⟩ (.cons ru .nil), ⟨_, T2, rfl, _, rfl⟩⟩
    have J : Inv X pins σ (upd H z.heap.objs.size (.tup [.int (i : Nat), x])) { z with heap := g2, toks := tk + 1 } := I.turnedNew (ch := [e, r]) keep fp (Nat.le_refl _) fit
    refine ⟨.ref z.heap.objs.size, _, J, rfl, ⟨_, x, rfl, I.hok.fresh (Nat.le_refl _), rfl, fun ys hy => by rw [I.tuple_inj hy hq]; exact hx⟩, ⟨⟨y, ?_⟩, ?_⟩, fun b hb => ?_⟩
    · have e1 : ((i + 1 : Nat) : Int) = (i : Int) + 1 := by omega
      rw [e1]
      exact he2
    · exact st2.1.at fun o q => (sb.2 r (Ne.symm er)).trans q
    · have lt : b < z.heap.objs.size := by
        rcases List.mem_cons.mp hb with w | w
        · exact w ▸ el
        · exact List.mem_singleton.mp w ▸ rl
      rw [upd_ne (Nat.ne_of_lt lt)]
      exact (fp b hb).1
  done := by
    intro X h1 h2 h3 calm i pins z σ H E I fp st gg
    subst h1 h2 h3
    obtain ⟨⟨old, he⟩, hr⟩ := st
    obtain ⟨xs, hq, hx⟩ := gg
    obtain ⟨its, rv, pt, _⟩ := I.tuple hq
    have tup : z.heap.IsTuple a its.toArray := pt
    have hl := rv.length
    obtain ⟨f0, f1, f2, f3, f4, f5⟩ := fp r (List.mem_cons_of_mem _ List.mem_cons_self)
    obtain ⟨o1, g1, c1, d1⟩ := id hr
    obtain ⟨o2, g2, c2, _⟩ := id tup
    have ra : a ≠ r := fun q => by
      have y := Option.some.inj (g1.symm.trans (q ▸ g2))
      rw [← y, c1] at c2
      exact absurd (Value.type.inj c2) (by decide)
    have hT : z.TypeIs (.ref e) "enumerate" := ⟨_, he, rfl⟩
    have hd : X.A.in1.handled = none := I.ok.hd calm
    unfold pyNext
    refine wpAny_bind (wpAny_attempt (wpAny_callSpecial?_slot (name := Str.ofString "__next__") hT F.slot_enumerate_next
      (wpAny_call_entry F.slot_enumerate_next hT F.entry_enumerate_next ?_ (F.args_enumerate_next_1 _))))
    show wpAny _ _ (field (.ref e) 2 >>= _) _ _ _
    refine wpAny_bind (wpAny_field he rfl (x := .ref r) rfl ?_)
    refine wpAny_bind (wpAny_nextOf_tuple_end hd hr tup (by simp; omega) fun g x hext hstop => ?_)
    obtain ⟨o, ho, hc⟩ := hstop
    refine wpAny_bind (wpAny_isInstance (T := "StopIteration") (b := true) ⟨o, ho, hc⟩ isSubtype_stop ?_)
    exact wpAny_pure ⟨rfl, I.turned (t' := z.toks) (fun b o hb q => hext b o hb q) f0 f1 f3 f4 f5⟩
  self := fun A i z Q E st h => by
    obtain ⟨⟨_, he⟩, _⟩ := st
    exact wpAny_pyIter_enum he h
def iEn (K : PySem.W.Frag) (ta : TA) : TI := fun σ H R => ta σ H fun vs G => ∃ a xs, vs = [.ref a] ∧ SqT K G a xs ∧ R (ItEn K a) G
/-- for i, x in enumerate(t) -/
theorem pi_enT {X : Cx} {e : Expr} {ta : TA} {p pos tp : Pos} {ts : List Expr} {kk : Nat} (hg : Gl X "enumerate") (hm : X.mg "enumerate" = none) (ha : PA X [e] ta) (hs : starEach [e] X.env = [(false, eval e X.env)] := by rfl) :
    PI X (.Tuple ts kk tp) (.Call (.Name "enumerate" p) [e] [] pos) (iEn X.K ta) := by
  refine ⟨fun pins s σ H R I h => ?_⟩
  refine Call_ (ld_blt I hg hm boot_enumerate (PyProof.Rows.callWith_type1 (thn (ha.run pos pins s σ H _ I h) fun us s1 ⟨vs, H1, I1, r1, a, xs, ev, hq, q⟩ => ?_) hs rfl))
  subst ev
  obtain ⟨u, rfl, ru⟩ := vals1 r1
  obtain rfl : u = Value.ref a := ru
  obtain ⟨its, rv, pt, _⟩ := I1.tuple hq
  refine en_call (begins_tuple a its.toArray) (show s1.heap.IsTuple a its.toArray from pt) fun g he hr hk => wpAny_pyIter_enum he ?_
  have I2 : Inv X pins σ H1 { s1 with heap := g } := I1.kept (t' := s1.toks) hk
  refine ⟨s1.heap.objs.size + 1, [s1.heap.objs.size + 1, s1.heap.objs.size], _, _, H1, rfl, I2, turn_en a (s1.heap.objs.size + 1) s1.heap.objs.size, ⟨⟨.none, he⟩, _, hr, rfl, rfl⟩, fun b hb => ?_, q⟩
  have ge : s1.heap.objs.size ≤ b := by
    rcases List.mem_cons.mp hb with z | z
    · exact z ▸ Nat.le_succ _
    · exact List.mem_singleton.mp z ▸ Nat.le_refl _
  exact I1.fpOk ge (I1.hok.fresh ge)
theorem for_en {K : PySem.W.Frag} {a : Addr} {xs : List V} {g : TG} {tb : TS} {D : Ends} {σ : L2.St} {H : Hp} (Pv : Nat → L2.St → Hp → Prop) (h0 : Pv 0 σ H) (stay : ∀ i σ G, i ≤ xs.length → Pv i σ G → SqT K G a xs)
    (hs : ∀ i x T σ G, xs[i]? = some x → Pv i σ G → G T = none → g (.ref T) σ (upd G T (.tup [.int (i : Nat), x])) fun σ2 H2 => tb { D with nx := Pv (i + 1), ct := Pv (i + 1), bk := D.nx } σ2 H2) (hd : ∀ σ G, Pv xs.length σ G → D.nx σ G) :
    ∃ W : Nat → Nat → L2.St → Hp → Prop, (∃ m, W 0 m σ H) ∧ ∀ i m σ H, W i m σ H →
      ((ItEn K a).stop i H ∧ D.nx σ H) ∨ ((ItEn K a).go i H ∧ ∃ N : L2.St → Hp → Prop, (∀ σ' H', N σ' H' → ∃ m', m' < m ∧ W (i + 1) m' σ' H') ∧ ∀ v H', (ItEn K a).yld i H v H' → g v σ H' fun σ2 H2 => tb { D with nx := N, ct := N, bk := D.nx } σ2 H2) := by
  refine ⟨fun i m σ G => m = xs.length - i ∧ i ≤ xs.length ∧ Pv i σ G, ⟨_, rfl, Nat.zero_le _, h0⟩, fun i m σ G hw => ?_⟩
  obtain ⟨rfl, hi, hp⟩ := hw
  have hq := stay i σ G hi hp
  by_cases hlt : i < xs.length
  · refine .inr ⟨⟨xs, xs[i], hq, List.getElem?_eq_getElem hlt⟩, Pv (i + 1), fun σ' H' hp' => ⟨_, by omega, rfl, hlt, hp'⟩, fun v G' hy => ?_⟩
    obtain ⟨T, x, rfl, hT, rfl, hx⟩ := hy
    exact hs i x T σ G (hx xs hq) hp hT
  · have e : i = xs.length := by omega
    subst e
    exact .inl ⟨⟨xs, hq, Nat.le_refl _⟩, hd σ G hp⟩
theorem lc_en {K : PySem.W.Frag} {a : Addr} {xs : List V} {g : TG} {tt : TT} {te : TE} {vs : List Nat} {σ : L2.St} {H1 : Hp} {D : Addr} {Qd : Hp → Prop} (Pv : Nat → Hp → Prop) (h0 : Pv 0 (upd H1 D (.lst []))) (stay : ∀ i G, i ≤ xs.length → Pv i G → SqT K G a xs)
    (hs : ∀ i x T G, xs[i]? = some x → Pv i G → G T = none → g (.ref T) (wipe σ vs) (upd G T (.tup [.int (i : Nat), x])) fun σ2 H2 => wipe σ2 vs = wipe σ vs ∧ tt σ2 H2 fun b H3 =>
      if b = true then te σ2 H3 fun y H4 => ∃ acc, H4 D = some (.lst acc) ∧ acc.length < sizeLine ∧ Pv (i + 1) (upd H4 D (.lst (acc ++ [y]))) else Pv (i + 1) H3) (hd : ∀ H, Pv xs.length H → Qd H) :
    ∃ W : Nat → Nat → Hp → Prop, (∃ m, W 0 m (upd H1 D (.lst []))) ∧ ∀ i m H, W i m H →
      ((ItEn K a).stop i H ∧ Qd H) ∨ ((ItEn K a).go i H ∧ ∃ Nx : Hp → Prop, (∀ H', Nx H' → ∃ m', m' < m ∧ W (i + 1) m' H') ∧ ∀ v H', (ItEn K a).yld i H v H' → g v (wipe σ vs) H' fun σ2 H2 => wipe σ2 vs = wipe σ vs ∧ tt σ2 H2 fun b H3 =>
        if b = true then te σ2 H3 fun y H4 => ∃ acc, H4 D = some (.lst acc) ∧ acc.length < sizeLine ∧ Nx (upd H4 D (.lst (acc ++ [y]))) else Nx H3) := by
  refine ⟨fun i m G => m = xs.length - i ∧ i ≤ xs.length ∧ Pv i G, ⟨_, rfl, Nat.zero_le _, h0⟩, fun i m G hw => ?_⟩
  obtain ⟨rfl, hi, hp⟩ := hw
  have hq := stay i G hi hp
  by_cases hlt : i < xs.length
  · refine .inr ⟨⟨xs, xs[i], hq, List.getElem?_eq_getElem hlt⟩, Pv (i + 1), fun H' hp' => ⟨_, by omega, rfl, hlt, hp'⟩, fun v G' hy => ?_⟩
    obtain ⟨T, x, rfl, hT, rfl, hx⟩ := hy
    exact hs i x T G (hx xs hq) hp hT
  · have e : i = xs.length := by omega
    subst e
    exact .inl ⟨⟨xs, hq, Nat.le_refl _⟩, hd G hp⟩
end Gd
/-! Tables as data and as objects: what the laws share. -/
namespace Gd
open PySem PySem.Spec PyProof.Rows L2
theorem strs_inv {K : PySem.W.Frag} {H : Hp} : ∀ {ss : List Str} {vs : List V}, DpAll K H vs (ss.map .str) → vs = ss.map V.str
  | [], _, h => by cases h; rfl
  | s :: r, _, h => by
    cases h with
    | cons a t =>
      cases a
      rw [strs_inv t]
      rfl
theorem ints_inv {K : PySem.W.Frag} {H : Hp} : ∀ {ns : List Int} {vs : List V}, DpAll K H vs (ns.map .int) → vs = ns.map V.int
  | [], _, h => by cases h; rfl
  | s :: r, _, h => by
    cases h with
    | cons a t =>
      cases a
      rw [ints_inv t]
      rfl
theorem tup_inv {K : PySem.W.Frag} {H : Hp} {v : V} {ds : List PyData} (h : Dp K H v (.tuple ds)) : ∃ q vs, v = .ref q ∧ SqT K H q vs ∧ DpAll K H vs ds := by
  cases h with
  | tup hs ha => exact ⟨_, _, rfl, hs, ha⟩
theorem tints_inv {K : PySem.W.Frag} {H : Hp} {v : V} {ns : List Int} (h : Dp K H v (.tuple (ns.map .int))) : ∃ q, v = .ref q ∧ SqT K H q (ns.map V.int) := by
  obtain ⟨q, vs, rfl, hs, ha⟩ := tup_inv h
  rw [ints_inv ha] at hs
  exact ⟨q, rfl, hs⟩
theorem dp_tup_strs {K : PySem.W.Frag} {H : Hp} {q : Addr} {l : List Str} (h : SqT K H q (l.map V.str)) : Dp K H (.ref q) (.tuple (l.map .str)) := .tup h (dpAll_strs l)
/-- a name: one to eight small letters -/
def Nm (z : Str) : Prop := (1 ≤ z.length ∧ z.length ≤ 8) ∧ ∀ c ∈ z.cps.toList, 97 ≤ c ∧ c ≤ 122
/-- names, ascending -/
def AscS (ss : List Str) : Prop := ss.Pairwise fun x y => x.cps.toList < y.cps.toList
def AscI (ns : List Int) : Prop := ns.Pairwise (· < ·)
theorem pw_next {α : Type} {R : α → α → Prop} : ∀ {l : List α} {i : Nat} {x y : α}, l.Pairwise R → l[i]? = some x → l[i + 1]? = some y → R x y
  | [], _, _, _, _, h, _ => by simp at h
  | a :: r, 0, x, y, p, h1, h2 => by
    simp at h1 h2
    subst h1
    exact (List.pairwise_cons.mp p).1 y (List.mem_of_getElem? h2)
  | a :: r, i + 1, x, y, p, h1, h2 => pw_next (l := r) (i := i) (List.pairwise_cons.mp p).2 (by simpa using h1) (by simpa using h2)
/-- whether any value is a tuple of numbers below a limit -/
def NumsV (K : PySem.W.Frag) (H : Hp) (lim : Int) (x : V) (b : Bool) : Prop :=
  (∃ n, TyN K H x n ∧ kitB n "tuple" = some false ∧ b = false) ∨ (∃ (p : Addr) (xs : List V) (bs : List Bool), x = .ref p ∧ SqT K H p xs ∧ xs.length ≤ 1000 ∧ NumVs K H lim xs bs ∧ b = bs.all id)
/-- names and lots -/
structure TD where
  kinds : List Str
  types : List (Str × List Int)
structure TOk (t : TD) : Prop where
  k1 : 1 ≤ t.kinds.length
  k8 : t.kinds.length ≤ 8
  kn : ∀ z ∈ t.kinds, Nm z
  ka : AscS t.kinds
  t12 : t.types.length ≤ 12
  tn : ∀ p ∈ t.types, Nm p.1
  ta : AscS (t.types.map (·.1))
  la : ∀ p ∈ t.types, AscI p.2
  lb : ∀ p ∈ t.types, ∀ n ∈ p.2, 0 ≤ n ∧ n < (t.kinds.length : Int)
def kindsD (t : TD) : PyData := .tuple (t.kinds.map .str)
def typeD (p : Str × List Int) : PyData := .tuple [.str p.1, .tuple (p.2.map .int)]
def typesD (t : TD) : PyData := .tuple (t.types.map typeD)
theorem asc_len {ns : List Int} {k : Nat} (h : AscI ns) (b : ∀ n ∈ ns, 0 ≤ n ∧ n < (k : Int)) : ns.length ≤ k := by
  have key : ∀ (l : List Int) (lo : Int), AscI l → (∀ n ∈ l, lo ≤ n ∧ n < (k : Int)) → (l.length : Int) ≤ max 0 ((k : Int) - lo) := by
    intro l
    induction l with
    | nil => intro lo _ _; simp; omega
    | cons x r ih =>
      intro lo p q
      obtain ⟨p1, p2⟩ := List.pairwise_cons.mp p
      have hx := q x List.mem_cons_self
      have := ih (x + 1) p2 fun n hn => ⟨by have := p1 n hn; omega, (q n (List.mem_cons_of_mem _ hn)).2⟩
      rw [List.length_cons]
      omega
  have := key ns 0 h b
  omega
theorem TOk.lot8 {t : TD} (h : TOk t) {p : Str × List Int} (m : p ∈ t.types) : p.2.length ≤ 8 := Nat.le_trans (asc_len (h.la p m) (h.lb p m)) h.k8
theorem kinds_sq {K : PySem.W.Frag} {H : Hp} {pk : Addr} {t : TD} (h : Dp K H (.ref pk) (kindsD t)) : SqT K H pk (t.kinds.map V.str) := by
  obtain ⟨q, vs, e, hs, ha⟩ := tup_inv h
  cases e
  rw [strs_inv ha] at hs
  exact hs
theorem types_sq {K : PySem.W.Frag} {H : Hp} {pt : Addr} {t : TD} (h : Dp K H (.ref pt) (typesD t)) : ∃ us, SqT K H pt us ∧ DpAll K H us (t.types.map typeD) := by
  obtain ⟨q, vs, e, hs, ha⟩ := tup_inv h
  cases e
  exact ⟨vs, hs, ha⟩
theorem type_inv {K : PySem.W.Frag} {H : Hp} {v : V} {p : Str × List Int} (h : Dp K H v (typeD p)) : ∃ q l, v = .ref q ∧ SqT K H q [.str p.1, .ref l] ∧ SqT K H l (p.2.map V.int) := by
  obtain ⟨q, vs, rfl, hs, ha⟩ := tup_inv h
  cases ha with
  | cons a r =>
  cases r with
  | cons b r =>
  cases r
  cases a
  obtain ⟨l, rfl, hl⟩ := tints_inv b
  exact ⟨q, l, rfl, hs, hl⟩
theorem type_at {K : PySem.W.Frag} {H : Hp} {us : List V} {t : TD} {i : Nat} {x : V} (h : DpAll K H us (t.types.map typeD)) (e : us[i]? = some x) : ∃ p, t.types[i]? = some p ∧ Dp K H x (typeD p) := by
  have hl := dpAll_len h
  rw [List.length_map] at hl
  have hi : i < t.types.length := by rw [← hl]; exact (List.getElem?_eq_some_iff.mp e).1
  obtain ⟨v, hv, dv⟩ := dpAll_get h (i := i) (d := typeD t.types[i]) (by rw [List.getElem?_map, List.getElem?_eq_getElem hi]; rfl)
  obtain rfl : v = x := Option.some.inj (hv.symm.trans e)
  exact ⟨_, List.getElem?_eq_getElem hi, dv⟩
theorem types_at {K : PySem.W.Frag} {H : Hp} {us : List V} {t : TD} {i : Nat} {p : Str × List Int} (h : DpAll K H us (t.types.map typeD)) (e : t.types[i]? = some p) : ∃ x, us[i]? = some x ∧ Dp K H x (typeD p) :=
  dpAll_get h (i := i) (d := typeD p) (by rw [List.getElem?_map, e]; rfl)
theorem noList_strs (l : List Str) : noListAll (l.map .str) = true := noListAll_mem fun d hd => by
  obtain ⟨x, _, rfl⟩ := List.mem_map.mp hd
  rfl
theorem noList_intsD (l : List Int) : noListAll (l.map .int) = true := noListAll_mem fun d hd => by
  obtain ⟨x, _, rfl⟩ := List.mem_map.mp hd
  rfl
theorem noList_kinds (t : TD) : noList (kindsD t) = true := by
  rw [kindsD, noList]
  exact noList_strs _
theorem noList_type (p : Str × List Int) : noList (typeD p) = true := by
  simp [typeD, noList, noListAll, noList_intsD]
theorem noList_types (t : TD) : noList (typesD t) = true := by
  rw [typesD, noList]
  exact noListAll_mem fun d hd => by
    obtain ⟨p, _, rfl⟩ := List.mem_map.mp hd
    exact noList_type p
mutual
theorem dp_sq {K : PySem.W.Frag} {H G : Hp} (e : ∀ a xs, SqT K H a xs → SqT K G a xs) : ∀ (d : PyData) (v : V), noList d = true → Dp K H v d → Dp K G v d
  | .none, _, _, h => by cases h; exact .non
  | .bool b, _, _, h => by cases h; exact .bl b
  | .int i, _, _, h => by cases h; exact .int i
  | .str x, _, _, h => by cases h; exact .str x
  | .list ds, _, n, _ => by simp [noList] at n
  | .tuple ds, _, n, h => by
    cases h with
    | tup hs ha => exact .tup (e _ _ hs) (dpAll_sq e ds _ (by simpa [noList] using n) ha)
  | .dict _, _, _, h => by cases h
theorem dpAll_sq {K : PySem.W.Frag} {H G : Hp} (e : ∀ a xs, SqT K H a xs → SqT K G a xs) : ∀ (ds : List PyData) (vs : List V), noListAll ds = true → DpAll K H vs ds → DpAll K G vs ds
  | [], _, _, h => by cases h; exact .nil
  | d :: ds, _, n, h => by
    have n' : noList d = true ∧ noListAll ds = true := by simpa [noListAll] using n
    cases h with
    | cons h1 h2 => exact .cons (dp_sq e d _ n'.1 h1) (dpAll_sq e ds _ n'.2 h2)
end
/-- tuples stand, where all but an instance stands -/
theorem sqT_ins {K : PySem.W.Frag} {H G : Hp} {p C dx : Addr} {fs : List (Str × V)} (hp : H p = some (.ins C dx fs)) (k : ∀ b o, b ≠ p → H b = some o → G b = some o) (a : Addr) (xs : List V) (h : SqT K H a xs) : SqT K G a xs := by
  rcases h with (z | ⟨o, z⟩) | z
  · exact .inl (.inl (k _ _ (ne_of z hp (by intro q; cases q)) z))
  · exact .inl (.inr ⟨o, k _ _ (ne_of z hp (by intro q; cases q)) z⟩)
  · exact .inr z
/-! costs -/
theorem nm_fine {z : Str} (h : Nm z) : fine (.str z) = true := fine_str.mpr fun c hc => by have := h.2 c hc; omega
theorem type_fine {p : Str × List Int} {k : Nat} (h : Nm p.1) (b : ∀ n ∈ p.2, 0 ≤ n ∧ n < (k : Int)) (hk : k ≤ 8) : fine (typeD p) = true := by
  have e : fineAll (p.2.map .int) = true := fineAll_mem fun d hd => by
    obtain ⟨x, hx, rfl⟩ := List.mem_map.mp hd
    have := b x hx
    rw [fine]
    exact decide_eq_true (by omega)
  simp only [typeD, fine, fineAll, e, Bool.and_true]
  have := nm_fine h
  rw [fine] at this
  exact this
theorem lot_cost (l : List Int) : costAll (l.map .int) = 12 * l.length := cost_ints l
theorem table_fine {t : TD} (h : TOk t) : (fine (kindsD t) = true ∧ (kindsD t).depth ≤ 5 ∧ costD (kindsD t) ≤ 1000) ∧ (fine (typesD t) = true ∧ (typesD t).depth ≤ 5 ∧ costD (typesD t) ≤ 10000) := by
  have cs : ∀ l : List Str, (∀ z ∈ l, Nm z) → costAll (l.map .str) ≤ 84 * l.length := fun l hl => by
    induction l with
    | nil => rw [List.map_nil, costAll]; exact Nat.le_refl 0
    | cons z r ih =>
      have h1 := ih fun y hy => hl y (List.mem_cons_of_mem _ hy)
      have h2 := (hl z List.mem_cons_self).1.2
      rw [List.map_cons, costAll, costD, List.length_cons]
      omega
  have ct : ∀ l : List (Str × List Int), (∀ p ∈ l, Nm p.1 ∧ p.2.length ≤ 8) → costAll (l.map typeD) ≤ 300 * l.length := fun l hl => by
    induction l with
    | nil => rw [List.map_nil, costAll]; exact Nat.le_refl 0
    | cons p r ih =>
      have h1 := ih fun y hy => hl y (List.mem_cons_of_mem _ hy)
      have h2 := (hl p List.mem_cons_self).1.1.2
      have h3 := (hl p List.mem_cons_self).2
      rw [List.map_cons, costAll, List.length_cons]
      simp only [typeD, costD, costAll, lot_cost]
      omega
  refine ⟨⟨?_, ?_, ?_⟩, ?_, ?_, ?_⟩
  · rw [kindsD, fine]
    exact fineAll_mem fun d hd => by
      obtain ⟨z, hz, rfl⟩ := List.mem_map.mp hd
      exact nm_fine (h.kn z hz)
  · rw [kindsD, PyData.depth]
    have : PyData.depthAll (t.kinds.map .str) ≤ 1 := depthAll_mem fun d hd => by
      obtain ⟨z, _, rfl⟩ := List.mem_map.mp hd
      simp [PyData.depth]
    omega
  · rw [kindsD, costD]
    have h1 := cs t.kinds h.kn
    have h2 := h.k8
    omega
  · rw [typesD, fine]
    exact fineAll_mem fun d hd => by
      obtain ⟨p, hp, rfl⟩ := List.mem_map.mp hd
      exact type_fine (h.tn p hp) (h.lb p hp) h.k8
  · rw [typesD, PyData.depth]
    have : PyData.depthAll (t.types.map typeD) ≤ 3 := depthAll_mem fun d hd => by
      obtain ⟨p, _, rfl⟩ := List.mem_map.mp hd
      have e : PyData.depthAll (p.2.map .int) ≤ 1 := depthAll_mem fun d hd => by
        obtain ⟨x, _, rfl⟩ := List.mem_map.mp hd
        simp [PyData.depth]
      simp only [typeD, PyData.depth, PyData.depthAll]
      omega
    omega
  · rw [typesD, costD]
    have h1 := ct t.types fun p hp => ⟨h.tn p hp, h.lot8 hp⟩
    have h2 := h.t12
    omega
/-! the object -/
theorem tk_ : ¬ (("types" : Str) = "kinds") := by decide +kernel
theorem kt_ : ¬ (("kinds" : Str) = "types") := fun z => tk_ z.symm
def tf (pk pt : Addr) : List (Str × V) := putF "types" (.ref pt) (putF "kinds" (.ref pk) [])
theorem tf_k (pk pt : Addr) : (tf pk pt).lookup ("kinds" : Str) = some (.ref pk) := by unfold tf; rw [lookup_putF, if_neg kt_, lookup_putF, if_pos rfl]
theorem tf_t (pk pt : Addr) : (tf pk pt).lookup ("types" : Str) = some (.ref pt) := by unfold tf; rw [lookup_putF, if_pos rfl]
theorem tf_no (pk pt : Addr) {m : Str} (h1 : ¬ m = "kinds") (h2 : ¬ m = "types") : (tf pk pt).lookup m = none := by
  unfold tf
  rw [lookup_putF, if_neg h2, lookup_putF, if_neg h1]
  rfl
theorem len_putF2 (f : Str) (v : V) : ∀ fs : List (Str × V), (putF f v fs).length ≤ fs.length + 1
  | [] => Nat.le_refl _
  | (g, u) :: r => by
    have ih := len_putF2 f v r
    unfold putF
    split
    · exact Nat.le_succ _
    · exact Nat.succ_le_succ ih
structure TblAt (K : PySem.W.Frag) (C : Addr) (H : Hp) (p dx pk pt : Addr) (t : TD) : Prop where
  obj : H p = some (.ins C dx (tf pk pt))
  kd : Dp K H (.ref pk) (kindsD t)
  td : Dp K H (.ref pt) (typesD t)
theorem TblAt.keep {K : PySem.W.Frag} {C : Addr} {H G : Hp} {p dx pk pt : Addr} {t : TD} (d : TblAt K C H p dx pk pt t) (k : KeepT H G) : TblAt K C G p dx pk pt t :=
  ⟨k _ _ d.obj (by intro _ q; cases q), dp_keep k _ _ (noList_kinds t) d.kd, dp_keep k _ _ (noList_types t) d.td⟩
theorem TblAt.same {K : PySem.W.Frag} {C : Addr} {H G : Hp} {p dx pk pt : Addr} {t : TD} (d : TblAt K C H p dx pk pt t) (k : Same H G) : TblAt K C G p dx pk pt t := d.keep (.of k)
structure TTxt (K : PySem.W.Frag) (mg : Str → Option Value) (C : Addr) : Prop where
  cl : Cls K C
  nK : NoAttr K C "kinds"
  nT : NoAttr K C "types"
  mgC : mg "Table" = some (.ref C)
end Gd
/-! The names that the laws draw: letters, order. -/
namespace Gd
open PySem PySem.Spec PyProof.Rows L2
theorem lt_tri : ∀ a b : List Nat, a < b ∨ a = b ∨ b < a
  | [], [] => .inr (.inl rfl)
  | [], y :: s => .inl List.Lex.nil
  | x :: r, [] => .inr (.inr List.Lex.nil)
  | x :: r, y :: s => by
    rcases Nat.lt_trichotomy x y with h | h | h
    · exact .inl (List.Lex.rel h)
    · subst h
      rcases lt_tri r s with h | h | h
      · exact .inl (List.Lex.cons h)
      · exact .inr (.inl (by rw [h]))
      · exact .inr (.inr (List.Lex.cons h))
    · exact .inr (.inr (List.Lex.rel h))
theorem lt_tr : ∀ {a b c : List Nat}, a < b → b < c → a < c := fun {a b c} h1 h2 => List.lt_trans h1 h2
theorem str_ext {x y : Str} (h : x.cps.toList = y.cps.toList) : x = y := by
  obtain ⟨a⟩ := x
  obtain ⟨b⟩ := y
  have : a = b := Array.toList_inj.mp h
  rw [this]
theorem rising_asc : ∀ (l : List Str) (p : Str), risingS p l = true → (p :: l).Nodup → AscS (p :: l)
  | [], p, _, _ => List.pairwise_singleton _ _
  | x :: r, p, h, n => by
    have h' : (!ltCps x.cps.toList p.cps.toList && risingS x r) = true := h
    obtain ⟨h1, h2⟩ := Bool.and_eq_true_iff.mp h'
    obtain ⟨n1, n2⟩ := List.nodup_cons.mp n
    have ih := rising_asc r x h2 n2
    have hlt : p.cps.toList < x.cps.toList := by
      rcases lt_tri p.cps.toList x.cps.toList with z | z | z
      · exact z
      · exact absurd (str_ext z ▸ List.mem_cons_self) n1
      · rw [ltCps_eq, decide_eq_true z] at h1
        cases h1
    refine List.pairwise_cons.mpr ⟨fun y hy => ?_, ih⟩
    rcases List.mem_cons.mp hy with e | e
    · exact e ▸ hlt
    · exact lt_tr hlt ((List.pairwise_cons.mp ih).1 y e)
theorem sorted_asc {l : List Str} (h : sortedS l = true) (n : l.Nodup) : AscS l := by
  cases l with
  | nil => exact List.Pairwise.nil
  | cons p r => exact rising_asc r p h n
theorem nodup_of {α : Type} : ∀ {l : List α}, (∀ (i j : Nat) (x : α), l[i]? = some x → l[j]? = some x → i = j) → l.Nodup
  | [], _ => List.nodup_nil
  | a :: r, h => by
    refine List.nodup_cons.mpr ⟨fun m => ?_, nodup_of fun i j x h1 h2 => ?_⟩
    · obtain ⟨k, hk, e⟩ := List.getElem_of_mem m
      have := h 0 (k + 1) a rfl (by rw [List.getElem?_cons_succ, List.getElem?_eq_getElem hk, e])
      omega
    · have := h (i + 1) (j + 1) x (by rw [List.getElem?_cons_succ]; exact h1) (by rw [List.getElem?_cons_succ]; exact h2)
      omega
/-- the letter of a place -/
def letN (first : Nat) (i : Nat) : Nat := 97 + (first + 7 * i) % 26
def nameN (front : Str) (first i : Nat) : Str := front ++ ⟨#[letN first i]⟩
/-- what stands ahead of the letter -/
def Front (z : Str) : Prop := z.length ≤ 7 ∧ ∀ c ∈ z.cps.toList, 97 ≤ c ∧ c ≤ 122
theorem name_cps (front : Str) (first i : Nat) : (nameN front first i).cps.toList = front.cps.toList ++ [letN first i] := app_list _ _
theorem name_len (front : Str) (first i : Nat) : (nameN front first i).length = front.length + 1 := by
  show (nameN front first i).cps.size = front.cps.size + 1
  have := congrArg List.length (name_cps front first i)
  simpa using this
theorem name_nm {front : Str} (h : Front front) (first i : Nat) : Nm (nameN front first i) := by
  have h1 := h.1
  refine ⟨by rw [name_len]; omega, fun c hc => ?_⟩
  rw [name_cps] at hc
  rcases List.mem_append.mp hc with z | z
  · exact h.2 c z
  · have e := List.mem_singleton.mp z
    unfold letN at e
    omega
theorem name_inj {front : Str} {first i j : Nat} (hi : i < 12) (hj : j < 12) (h : nameN front first i = nameN front first j) : i = j := by
  have e := congrArg (fun z : Str => z.cps.toList) h
  simp only [name_cps] at e
  have e2 := List.append_cancel_left e
  have e3 : letN first i = letN first j := by simpa using e2
  unfold letN at e3
  omega
def namesN (front : Str) (first n : Nat) : List Str := (List.range n).map (nameN front first)
theorem namesN_succ (front : Str) (first n : Nat) : namesN front first (n + 1) = namesN front first n ++ [nameN front first n] := by
  unfold namesN
  rw [List.range_succ, List.map_append]
  rfl
theorem namesN_len (front : Str) (first n : Nat) : (namesN front first n).length = n := by
  unfold namesN
  rw [List.length_map, List.length_range]
theorem namesN_get {front : Str} {first n i : Nat} {x : Str} (h : (namesN front first n)[i]? = some x) : i < n ∧ x = nameN front first i := by
  have hi : i < n := by
    have := (List.getElem?_eq_some_iff.mp h).1
    rw [namesN_len] at this
    exact this
  unfold namesN at h
  rw [List.getElem?_map, List.getElem?_range hi] at h
  exact ⟨hi, (Option.some.inj h).symm⟩
theorem namesN_at {front : Str} {first n i : Nat} (hi : i < n) : (namesN front first n)[i]? = some (nameN front first i) := by
  unfold namesN
  rw [List.getElem?_map, List.getElem?_range hi]
  rfl
/-- good names, each once -/
def GoodN (n : Nat) (l : List Str) : Prop := l.length = n ∧ (∀ z ∈ l, Nm z) ∧ l.Nodup
theorem names_good {front : Str} (h : Front front) (first : Nat) {n : Nat} (hn : n ≤ 12) : GoodN n (namesN front first n) := by
  refine ⟨namesN_len _ _ _, fun z hz => ?_, nodup_of fun i j x h1 h2 => ?_⟩
  · obtain ⟨i, _, rfl⟩ := List.mem_map.mp hz
    exact name_nm h _ _
  · obtain ⟨i1, e1⟩ := namesN_get h1
    obtain ⟨j1, e2⟩ := namesN_get h2
    exact name_inj (by omega) (by omega) (e1.symm.trans e2)
theorem names_o {front : Str} (h : Front front) (first : Nat) {n a : Nat} (hn : n ≤ 12) (hl : (nameN front first a).length < 8) {o : Str} (ho : o.cps.toList = [111]) : GoodN n ((namesN front first n).set a (nameN front first a ++ o)) := by
  have lo : o.length = 1 := by
    have := congrArg List.length ho
    simpa [Str.length] using this
  have l2 : (nameN front first a ++ o).length = front.length + 2 := by rw [strLen_append, name_len, lo]
  have nm2 : Nm (nameN front first a ++ o) := by
    rw [name_len] at hl
    refine ⟨by rw [l2]; omega, fun c hc => ?_⟩
    rw [app_list] at hc
    rcases List.mem_append.mp hc with z | z
    · exact (name_nm h first a).2 c z
    · rw [ho] at z
      have := List.mem_singleton.mp z
      omega
  refine ⟨by rw [List.length_set, namesN_len], fun z hz => ?_, nodup_of fun i j x h1 h2 => ?_⟩
  · rcases List.mem_or_eq_of_mem_set hz with m | m
    · obtain ⟨i, _, rfl⟩ := List.mem_map.mp m
      exact name_nm h _ _
    · exact m ▸ nm2
  · have key : ∀ i x, ((namesN front first n).set a (nameN front first a ++ o))[i]? = some x → (i = a ∧ x = nameN front first a ++ o) ∨ (i ≠ a ∧ i < n ∧ x = nameN front first i) := by
      intro i x hx
      by_cases z : i = a
      · subst z
        have hi := (List.getElem?_eq_some_iff.mp hx).1
        rw [List.length_set] at hi
        rw [List.getElem?_set_self hi] at hx
        exact .inl ⟨rfl, (Option.some.inj hx).symm⟩
      · rw [List.getElem?_set_ne (Ne.symm z)] at hx
        obtain ⟨q1, q2⟩ := namesN_get hx
        exact .inr ⟨z, q1, q2⟩
    rcases key i x h1 with ⟨a1, e1⟩ | ⟨a1, b1, e1⟩
    · rcases key j x h2 with ⟨a2, e2⟩ | ⟨a2, b2, e2⟩
      · rw [a1, a2]
      · have := congrArg Str.length (e1.symm.trans e2)
        rw [l2, name_len] at this
        omega
    · rcases key j x h2 with ⟨a2, e2⟩ | ⟨a2, b2, e2⟩
      · have := congrArg Str.length (e1.symm.trans e2)
        rw [l2, name_len] at this
        omega
      · exact name_inj (by omega) (by omega) (e1.symm.trans e2)
theorem good_perm {n : Nat} {l m : List Str} (h : GoodN n l) (p : m.Perm l) : GoodN n m := ⟨p.length_eq.trans h.1, fun z hz => h.2.1 z (p.mem_iff.mp hz), p.nodup_iff.mpr h.2.2⟩
abbrev zAbc : Str := Str.ofString "abcdefghijklmnopqrstuvwxyz"
theorem abc_at {i : Nat} (h : i < 26) : zAbc.cps.toList[i]? = some (97 + i) := by
  have : ∀ i : Fin 26, zAbc.cps.toList[i.val]? = some (97 + i.val) := by decide +kernel
  exact this ⟨i, h⟩
theorem front_lit {z : Str} (h : (decide (z.length ≤ 7) && z.cps.toList.all fun c => decide (97 ≤ c ∧ c ≤ 122)) = true) : Front z := by
  obtain ⟨h1, h2⟩ := Bool.and_eq_true_iff.mp h
  exact ⟨of_decide_eq_true h1, fun c hc => of_decide_eq_true (p := 97 ≤ c ∧ c ≤ 122) (List.all_eq_true.mp h2 c hc)⟩
end Gd
/-! {e for a in xs for b in ys}, numbers; len(set(t)). -/
namespace Gd
open PySem PySem.Spec PyProof.Rows L2
/-- the set comprehension with two clauses, no tests -/
abbrev sx (elt t0 i0 t1 i1 : Expr) (sc : Scope) (pos : Pos) : Expr := .SetComp elt [⟨t0, i0, [], 0⟩, ⟨t1, i1, [], 0⟩] sc pos
theorem sx_turn0 (elt t0 i0 t1 i1 : Expr) (sc : Scope) (pos : Pos) (it acc : Value) (env : Env) : compTurn (sx elt t0 i0 t1 i1 sc pos) 0 it acc env = (standAt i0.pos >>= fun _ => pyNext it >>= fun r => match r with
    | none => pure (.done .next)
    | some v => letOwnedTupleGo t0 it v >>= fun _ => assign t0 env v >>= fun _ =>
      (eval i1 env >>= fun x => standAt i1.pos >>= fun _ => foldedSetIterable i1 env x >>= fun x => holding [x] (pyIter x) >>= fun j => runOwn (.compStart (sx elt t0 i0 t1 i1 sc pos) 1 j acc env) env >>= fun _ =>
        again (.compLoop (sx elt t0 i0 t1 i1 sc pos) 0 it acc env))) := by rfl
theorem sx_turn1 (elt t0 i0 t1 i1 : Expr) (sc : Scope) (pos : Pos) (it acc : Value) (env : Env) : compTurn (sx elt t0 i0 t1 i1 sc pos) 1 it acc env = (standAt i1.pos >>= fun _ => pyNext it >>= fun r => match r with
    | none => pure (.done .next)
    | some v => letOwnedTupleGo t1 it v >>= fun _ => assign t1 env v >>= fun _ =>
      (eval elt env >>= fun x => standAt elt.pos >>= fun _ => call (.builtin "set.add") [acc, x] >>= fun _ => pure ()) >>= fun _ =>
        again (.compLoop (sx elt t0 i0 t1 i1 sc pos) 1 it acc env)) := by rfl
section
variable {prog : Program} {w : World} {A : Around} {R : Result → Shared → Prop} {z : Shared} {elt t0 i0 t1 i1 : Expr} {sc : Scope} {pos : Pos} {it acc : Value} {env : Env}
abbrev nB (prog : Program) (w : World) (A : Around) (env : Env) (R : Result → Shared → Prop) : Value → Shared → Prop := notedBy (model prog w) A env fun e y => R (.error e) y
/-- the first clause's loop -/
theorem sx_loop0 (hs : ∀ x, foldedSetIterable i1 env x = pure x) (J : Nat → Shared → Prop)
    (turn : ∀ n y, J n y → wpAny (model prog w) A (pyNext it) (fun r y1 => match r with
      | none => R (.ok .next) y1
      | some v => wpAny (model prog w) A (letOwnedTupleGo t0 it v) (fun _ y2 => wpAny (model prog w) A (assign t0 env v) (fun _ y3 => wpAny (model prog w) A (eval i1 env) (fun x y4 => wpAny (model prog w) A (pyIter x) (fun j y5 =>
          codeAny (model prog w) A (.compStart (sx elt t0 i0 t1 i1 sc pos) 1 j acc env) (fun r y6 => match r with
            | .ok _ => ∃ m, m < n ∧ J m y6
            | .error _ => False) y5) (nB prog w A env R) y4) (nB prog w A env R) y3) (nB prog w A env R) y2) (nB prog w A env R) y1) (nB prog w A env R) y)
    (n : Nat) (h : J n z) : codeAny (model prog w) A (.compLoop (sx elt t0 i0 t1 i1 sc pos) 0 it acc env) R z := by
  refine codeAny_loop rfl J (fun n y hJ => ?_) n h
  show wpAny _ A ((compTurn (sx elt t0 i0 t1 i1 sc pos) 0 it acc env).onRaise (fun x => do noteFrame x env; theTreesLotGoes x)) _ _ y
  refine wpAny_noted ?_
  rw [sx_turn0]
  refine wpAny_bind (wpAny_standAt (wpAny_bind (wpAny_mono (turn n y hJ) (fun r y1 q1 => ?_) fun _ _ e => e)))
  cases r with
  | none => exact wpAny_pure q1
  | some v =>
    refine wpAny_bind (wpAny_mono q1 (fun _ y2 q2 => wpAny_bind (wpAny_mono q2 (fun _ y3 q3 => wpAny_bind (wpAny_mono q3 (fun x y4 q4 => ?_) fun _ _ e => e)) fun _ _ e => e)) fun _ _ e => e)
    refine wpAny_bind (wpAny_standAt (wpAny_bind (wpAny_of_eq (hs x) (wpAny_bind (wpAny_holding (wpAny_mono q4 (fun j y5 q5 => ?_) fun _ _ e => e))))))
    refine wpAny_bind (wpAny_runOwn ?_)
    rw [Around.mark_none]
    refine codeAny_mono q5 fun r y6 hr => ?_
    cases r with
    | error e => exact hr.elim
    | ok f =>
      first
        | exact wpAny_pure ⟨rfl, hr⟩
        | exact wpAny_bind (wpAny_pure (wpAny_pure ⟨rfl, hr⟩))
/-- the second's -/
theorem sx_loop1 (J : Nat → Shared → Prop)
    (turn : ∀ n y, J n y → wpAny (model prog w) A (pyNext it) (fun r y1 => match r with
      | none => R (.ok .next) y1
      | some v => wpAny (model prog w) A (letOwnedTupleGo t1 it v) (fun _ y2 => wpAny (model prog w) A (assign t1 env v) (fun _ y3 => wpAny (model prog w) A (eval elt env) (fun x y4 =>
          wpAny (model prog w) A (call (.builtin "set.add") [acc, x]) (fun _ y5 => ∃ m, m < n ∧ J m y5) (nB prog w A env R) y4) (nB prog w A env R) y3) (nB prog w A env R) y2) (nB prog w A env R) y1) (nB prog w A env R) y)
    (n : Nat) (h : J n z) : codeAny (model prog w) A (.compLoop (sx elt t0 i0 t1 i1 sc pos) 1 it acc env) R z := by
  refine codeAny_loop rfl J (fun n y hJ => ?_) n h
  show wpAny _ A ((compTurn (sx elt t0 i0 t1 i1 sc pos) 1 it acc env).onRaise (fun x => do noteFrame x env; theTreesLotGoes x)) _ _ y
  refine wpAny_noted ?_
  rw [sx_turn1]
  refine wpAny_bind (wpAny_standAt (wpAny_bind (wpAny_mono (turn n y hJ) (fun r y1 q1 => ?_) fun _ _ e => e)))
  cases r with
  | none => exact wpAny_pure q1
  | some v =>
    refine wpAny_bind (wpAny_mono q1 (fun _ y2 q2 => wpAny_bind (wpAny_mono q2 (fun _ y3 q3 => ?_) fun _ _ e => e)) fun _ _ e => e)
    exact wpAny_bind (wpAny_bind (wpAny_mono q3 (fun x y4 q4 => wpAny_bind (wpAny_standAt (wpAny_bind (wpAny_mono q4 (fun _ y5 q5 => wpAny_pure (wpAny_pure ⟨rfl, q5⟩)) fun _ _ e => e)))) fun _ _ e => e))
/-- a clause's start -/
theorem sx_start {d : Nat} {g : Comprehension} (hg : (clausesOf (sx elt t0 i0 t1 i1 sc pos))[d]? = some g) (ha : g.is_async = 0) (h0 : codeAny (model prog w) A (.compLoop (sx elt t0 i0 t1 i1 sc pos) d it acc env) R z)
    (h1 : wpAny (model prog w) A (pyIter it) (fun j y => codeAny (model prog w) A (.compLoop (sx elt t0 i0 t1 i1 sc pos) d j acc env) R y) (notedBy (model prog w) A env fun x y => R (.error x) y) z) :
    codeAny (model prog w) A (.compStart (sx elt t0 i0 t1 i1 sc pos) d it acc env) R z := by
  refine codeAny_of_tree ?_
  show wpAny _ _ ((compStart (sx elt t0 i0 t1 i1 sc pos) d it acc env).onRaise (fun x => do noteFrame x env; standAt theWindowsPlace)) _ _ z
  refine wpAny_notedAt ?_
  unfold compStart
  rw [hg]
  have e0 : (Option.some g).elim false (fun x => x.is_async != 0) = false := by
    show (g.is_async != 0) = false
    rw [ha]
    rfl
  rw [e0]
  show wpAny _ _ (ask >>= _) _ _ z
  refine wpAny_bind (wpAny_askSetting (wpAny_ite ?_))
  split
  · first
      | exact wpAny_bind (wpAny_pure (wpAny_pure (And.intro rfl h0)))
      | exact wpAny_pure (And.intro rfl h0)
  · first
      | exact wpAny_bind (wpAny_rule (wpAny_bind (wpAny_standAt (wpAny_bind (wpAny_mono h1 (fun j y q => wpAny_pure (And.intro rfl q)) fun _ _ e => e)))))
      | (refine wpAny_bind (wpAny_rule ?_); show wpAny _ _ (standAt g.iter.pos >>= _) _ _ z; exact wpAny_bind (wpAny_standAt (wpAny_bind (wpAny_mono h1 (fun j y q => wpAny_pure (And.intro rfl q)) fun _ _ e => e))))
end
theorem fresh_set {prog : Program} {w : World} {A : Around} {E : Value → Shared → Prop} {z : Shared} {Q : Value → Shared → Prop}
    (h : Q (.ref z.heap.objs.size) { z with heap := z.heap.push { cls := .type "set", dict := none, data := .set #[] 0 (.fresh 0 0 (!w.params.followText "set-order")) } }) : wpAny (model prog w) A (newSet (.type "set")) Q E z := by
  unfold newSet
  refine wpAny_bind (wpAny_byText ?_)
  exact wpAny_newObj_type h (by show 0 ≤ _; exact Nat.zero_le _)
/-- the reading: the set at D, kept by W, W1 -/
def tSx (w : World) (wi : TI) (g : TG) (wi1 : TI) (g1 : TG) (te : TE) (vs vs1 : List Nat) : TE := fun σ H Q => wi σ H fun J H1 => ∀ D, H1 D = none → ∃ W : Nat → Nat → Hp → Prop, (∃ m, W 0 m (upd H1 D (SetO w D (fun _ => false) 0))) ∧ ∀ i m G, W i m G →
  (J.stop i G ∧ Q (.ref D) G) ∨ (J.go i G ∧ ∃ N : Hp → Prop, (∀ G', N G' → ∃ n, n < m ∧ W (i + 1) n G') ∧ ∀ x G', J.yld i G x G' → g x (wipe σ vs) G' fun σ2 G2 => wipe σ2 vs = wipe σ vs ∧ wi1 σ2 G2 fun J1 G3 => ∃ W1 : Nat → Nat → Hp → Prop, (∃ m, W1 0 m G3) ∧
    ∀ j k G4, W1 j k G4 → (J1.stop j G4 ∧ N G4) ∨ (J1.go j G4 ∧ ∃ N1 : Hp → Prop, (∀ G', N1 G' → ∃ n, n < k ∧ W1 (j + 1) n G') ∧ ∀ y G', J1.yld j G4 y G' → g1 y (wipe σ2 vs1) G' fun σ3 G5 => wipe σ3 vs1 = wipe σ2 vs1 ∧
      te σ3 G5 fun u G6 => ∃ (k0 : Int) (S : Int → Bool) (c : Nat), u = .int k0 ∧ G6 D = some (SetO w D S c) ∧ c + 1 < scanBound ∧ N1 (upd G6 D (SetO w D (fun a => S a || decide (a = k0)) (if S k0 = true then c else c + 1)))))
section
variable {X : Cx}
theorem pe_sx {elt t0 i0 t1 i1 : Expr} {sc : Scope} {own : List (Str × Nat)} {vs1 : List Nat} {pos : Pos} {wi wi1 : TI} {g g1 : TG} {te : TE} (hc : X.calm = true) (hN : X.N.Nodup) (hi : PI X t0 i0 wi) (ok : BlkOk X.N X.env.scope sc own) (hv : ∀ i ∈ vs1, i ∈ own.map (·.2))
    (hg : ∀ (s : Shared) (H : Hp) (C : Addr) (cl : List (Str × Addr)) (fp : List Addr), PG (X.blk s H sc (compEnvC sc cl C X.env) fp) t0 g) (hi1 : ∀ (s : Shared) (H : Hp) (C : Addr) (cl : List (Str × Addr)) (fp : List Addr), PI (X.blk s H sc (compEnvC sc cl C X.env) fp) t1 i1 wi1)
    (hg1 : ∀ (s : Shared) (H : Hp) (C : Addr) (cl : List (Str × Addr)) (fp : List Addr), PG (X.blk s H sc (compEnvC sc cl C X.env) fp) t1 g1) (he : ∀ (s : Shared) (H : Hp) (C : Addr) (cl : List (Str × Addr)) (fp : List Addr), PE (X.blk s H sc (compEnvC sc cl C X.env) fp) elt te)
    (hs : ∀ x, foldedSetIterable i0 X.env x = pure x := by intro _; rfl) (hs1 : ∀ env x, foldedSetIterable i1 env x = pure x := by intro _ _; rfl) :
    PE X (sx elt t0 i0 t1 i1 sc pos) (tSx X.w wi g wi1 g1 te (own.map (·.2)) vs1) := by
  refine ⟨fun pins s σ H Q I h => ?_⟩
  rw [arm_eval_SetComp]
  have hfree : ∀ y ∈ sc.names, y.2 = .free → ∃ c, X.env.cells.lookup y.1 = some c := fun y hy e => by
    rcases ok.free y hy e with k | k
    · exact I.ok.has _ (.inl k)
    · exact I.ok.has _ (.inr k)
  show wpAny _ _ (comprehension (sx elt t0 i0 t1 i1 sc pos) sc X.env (firstIterPos [⟨t0, i0, [], 0⟩, ⟨t1, i1, [], 0⟩] pos) (newSet (.type "set")) false (eval i0 X.env)) _ _ s
  refine wpAny_comprehension_free (use := none) rfl hs (closure_ok hfree) ok.kind (fun y hy e => by rw [ok.uniq y hy, e])
    (thn (hi.run pins s σ H _ I h) fun xv s1 hx => thn hx fun itv s2 h2 => ?_)
  obtain ⟨it, fp, tn, J, H2, e, I2, T, st2, f2, q⟩ := h2
  subst e
  refine fresh_set (newEnv_comp ?_)
  generalize hD : s2.heap.objs.size = D
  have nD : H2 D = none := I2.hok.fresh (Nat.le_of_eq hD)
  obtain ⟨W, ⟨m0, w0⟩, turn⟩ := q D nD
  have fr := setR_fresh (h := s2.heap) X.w
  rw [hD] at fr
  have big : ∀ b o, s2.heap.get? b = some o → (s2.heap.push { cls := .type "set", dict := none, data := .set #[] 0 (.fresh 0 0 (!X.w.params.followText "set-order")) }).get? b = some o := fun b o e => Heap.get?_push_of_some _ e
  have grow : s2.heap.objs.size < (s2.heap.push { cls := .type "set", dict := none, data := .set #[] 0 (.fresh 0 0 (!X.w.params.followText "set-order")) }).objs.size := by
    rw [Heap.size_push]
    exact Nat.lt_succ_self _
  generalize hp3 : s2.heap.push { cls := .type "set", dict := none, data := .set #[] 0 (.fresh 0 0 (!X.w.params.followText "set-order")) } = p3 at fr big grow ⊢
  generalize hs3 : ({ s2 with heap := p3 } : Shared) = s3
  have h3 : s3.heap = p3 := by rw [← hs3]
  have I3 : Inv X pins σ (upd H2 D (SetO X.w D (fun _ => false) 0)) s3 := by
    rw [← hs3]
    exact I2.laid (t' := s2.toks) big (Nat.le_of_eq hD) (setO_new fr)
  have szf : ∀ b ∈ fp, b < s2.heap.objs.size := fun b hb => by
    obtain ⟨o, e, _⟩ := T.obj _ _ st2 b hb
    exact Heap.lt_size e
  have f3 : ∀ b ∈ fp, FpOk X pins (upd H2 D (SetO X.w D (fun _ => false) 0)) b ∧ b < s3.heap.objs.size := fun b hb => by
    have lt := szf b hb
    refine ⟨⟨?_, (f2 b hb).2⟩, by rw [h3]; exact Nat.lt_trans lt grow⟩
    rw [upd_ne (by rw [← hD]; exact Nat.ne_of_lt lt)]
    exact (f2 b hb).1
  have st3 : tn 0 s3.heap := T.keep _ _ _ st2 fun b _ o e => by rw [h3]; exact big b o e
  have I4 := block_start I3 ok hN f3
  have pg := hg s3 (upd H2 D (SetO X.w D (fun _ => false) 0)) s3.heap.objs.size (cellsFrom (s3.heap.objs.size + 1) sc.names (cloFrom X.env.cells sc.names [])) fp
  have pe := he s3 (upd H2 D (SetO X.w D (fun _ => false) 0)) s3.heap.objs.size (cellsFrom (s3.heap.objs.size + 1) sc.names (cloFrom X.env.cells sc.names [])) fp
  have pj := hi1 s3 (upd H2 D (SetO X.w D (fun _ => false) 0)) s3.heap.objs.size (cellsFrom (s3.heap.objs.size + 1) sc.names (cloFrom X.env.cells sc.names [])) fp
  have ph := hg1 s3 (upd H2 D (SetO X.w D (fun _ => false) 0)) s3.heap.objs.size (cellsFrom (s3.heap.objs.size + 1) sc.names (cloFrom X.env.cells sc.names [])) fp
  have nfp : ∀ b ∈ fp, (upd H2 D (SetO X.w D (fun _ => false) 0)) b = none := fun b hb => (f3 b hb).1.1
  show codeAny _ _ (.compStart (sx elt t0 i0 t1 i1 sc pos) 0 (.ref it) (.ref D) (compEnvC sc (cellsFrom (s3.heap.objs.size + 1) sc.names (cloFrom X.env.cells sc.names [])) s3.heap.objs.size X.env)) (compPost (model X.prog X.w) X.A X.xe none (EP X pins σ Q) (.ref D) s3.heap.objs.size) { s3 with heap := pushCells (s3.heap.push { cls := .type "dict", data := .dict #[] }) sc.names }
  generalize hce : compEnvC sc (cellsFrom (s3.heap.objs.size + 1) sc.names (cloFrom X.env.cells sc.names [])) s3.heap.objs.size X.env = ce at I4 pg pe pj ph ⊢
  have cL : ce.locals = s3.heap.objs.size := by subst hce; rfl
  generalize hH3 : upd H2 D (SetO X.w D (fun _ => false) 0) = H3 at I3 I4 pg pe pj ph w0 nfp f3
  generalize hs4 : ({ s3 with heap := pushCells (s3.heap.push { cls := .type "dict", data := .dict #[] }) sc.names } : Shared) = s4 at I4 ⊢
  have st4 : tn 0 s4.heap := T.keep _ _ _ st3 fun b _ o e => by rw [← hs4]; exact pushCells_keeps _ _ _ _ (Heap.get?_push_of_some _ e)
  have fpk : ∀ {τ : L2.St} {G : Hp} {y : Shared}, Inv (X.blk s3 H3 sc ce fp) [] τ G y → (∀ b ∈ fp, G b = none) → ∀ b ∈ fp, FpOk (X.blk s3 H3 sc ce fp) [] G b := fun {τ G y} K1 nn b hb =>
    ⟨nn b hb, (K1.ok.exf b hb).1, K1.ok.exfs b hb, .inl hb, fun x c e => (K1.ok.exf b hb).2 x c e, fun p hp => absurd (show p ∈ ([] : List (Addr × Obj)) ++ [] from hp) (by simp)⟩
  have loop : codeAny (model X.prog X.w) X.A (.compLoop (sx elt t0 i0 t1 i1 sc pos) 0 (.ref it) (.ref D) ce) (compPost (model X.prog X.w) X.A X.xe none (EP X pins σ Q) (.ref D) s3.heap.objs.size) s4 := by
    refine sx_loop0 (hs1 ce) (fun n y => ∃ i G, Inv (X.blk s3 H3 sc ce fp) [] (wipe σ (own.map (·.2))) G y ∧ tn i y.heap ∧ (∀ b ∈ fp, G b = none) ∧ W i n G) ?_ m0 ⟨0, H3, I4, st4, nfp, w0⟩
    rintro n s5 ⟨i, H5, I5, st5, n5, w5⟩
    rcases turn i n H5 w5 with ⟨stop, fin⟩ | ⟨go, N, hN2, step⟩
    · refine thnF (T.done (X.blk s3 H3 sc ce fp) rfl rfl rfl hc i [] s5 _ H5 (fun _ _ => False) I5 (fpk I5 n5) st5 stop) fun r s6 ⟨hr, I6⟩ => ?_
      subst hr
      have I7 : Inv X pins σ H5 s6 := I3.call' (ch := fp) I6.os I6.base I6.hok I6.bare fun b hb => ⟨(f3 b hb).1.2.2.2.1, (f3 b hb).1.2.1, (f3 b hb).1.2.2.2.2.1, (f3 b hb).1.2.2.2.2.2⟩
      have nC : H5 s3.heap.objs.size = none := by
        have z : H5 ce.locals = none := I6.free
        rw [cL] at z
        exact z
      obtain ⟨m, hm, _⟩ := I6.loc
      have hm : s6.heap.Ns ce.locals m := hm
      rw [cL] at hm
      obtain ⟨g0, g1', g2, g3, g4, g5⟩ := I3.fpOk (Nat.le_refl _) nC
      exact ⟨m, hm, fun h'' sb => ⟨.ref D, H5, I7.turned (t' := s6.toks) (fun b o hb e => (sb.2 b hb).trans e) g0 g1' g3 g4 g5, rfl, fin⟩⟩
    · refine thnF (T.item (X.blk s3 H3 sc ce fp) rfl rfl rfl hc i [] s5 _ H5 (fun _ _ => False) I5 (fpk I5 n5) st5 go) fun r s6 ⟨u, hr, h6⟩ => ?_
      subst hr
      refine thnF h6 fun _ s7 ⟨x, H7, I7, r7, y7, st7, n7⟩ => ?_
      have I7' := I7.pinned (fpk I7 n7) (T.obj _ _ st7)
      refine thnF (pg.run _ s7 _ H7 x u _ I7' r7 (step x H7 y7)) fun _ s8 ⟨σ8, H8, I8, hw8, q8⟩ => ?_
      have back : ∀ {τ : L2.St} {y : Shared} {G : Hp}, Inv (X.blk s3 H3 sc ce fp) ([] ++ pinsAt fp s7.heap) τ G y → (wipe σ (own.map (·.2))).length = τ.length → (∀ (j : Nat) v, (wipe σ (own.map (·.2)))[j]? = some (some v) → τ[j]? = some (some v)) → N G →
          ∃ m, m < n ∧ ∃ i G, Inv (X.blk s3 H3 sc ce fp) [] (wipe σ (own.map (·.2))) G y ∧ tn i y.heap ∧ (∀ b ∈ fp, G b = none) ∧ W i m G := fun {τ y G} K1 hl hk nx => by
        obtain ⟨m', hm, w'⟩ := hN2 G nx
        have pin : ∀ b ∈ fp, ∀ o, s7.heap.get? b = some o → y.heap.get? b = some o ∧ G b = none := fun b hb o e =>
          let z := K1.pin (b, o) (List.mem_append_right _ (List.mem_append_right _ (mem_pinsAt hb e)))
          ⟨z.1, z.2.1⟩
        refine ⟨m', hm, i + 1, G, (K1.unpinned (pins := [])).weak hl hk, T.keep _ _ _ st7 fun b hb o e => (pin b hb o e).1, fun b hb => ?_, w'⟩
        obtain ⟨o, e, _⟩ := T.obj _ _ st7 b hb
        exact (pin b hb o e).2
      have hl8 : (wipe σ (own.map (·.2))).length = σ8.length := by rw [← hw8, wipe_length]
      have hk9 : ∀ (j : Nat) v, (wipe σ (own.map (·.2)))[j]? = some (some v) → (wipe σ8 vs1)[j]? = some (some v) := fun j v e => by
        rw [← hw8] at e
        obtain ⟨e1, e2⟩ := wipe_some e
        rw [wipe_out fun z => e2 (hv j z)]
        exact e1
      refine thnF (pj.run _ s8 σ8 H8 _ I8 q8) fun xv s10 hx => thnF hx fun itv s11 h11 => ?_
      obtain ⟨it1, fp1, tn1, J1, H11, e1, I11, T1, st11, f11, W1, ⟨m1, w1⟩, turn1⟩ := h11
      subst e1
      have fpk1 : ∀ {G : Hp}, (∀ b ∈ fp1, G b = none) → ∀ b ∈ fp1, FpOk (X.blk s3 H3 sc ce fp) ([] ++ pinsAt fp s7.heap) G b := fun nn b hb => ⟨nn b hb, (f11 b hb).2⟩
      have loop1 : codeAny (model X.prog X.w) X.A (.compLoop (sx elt t0 i0 t1 i1 sc pos) 1 (.ref it1) (.ref D) ce)
          (fun r y => match r with
            | .ok _ => ∃ m, m < n ∧ ∃ i G, Inv (X.blk s3 H3 sc ce fp) [] (wipe σ (own.map (·.2))) G y ∧ tn i y.heap ∧ (∀ b ∈ fp, G b = none) ∧ W i m G
            | .error _ => False) s11 := by
        refine sx_loop1 (fun k y => ∃ j G, Inv (X.blk s3 H3 sc ce fp) ([] ++ pinsAt fp s7.heap) (wipe σ8 vs1) G y ∧ tn1 j y.heap ∧ (∀ b ∈ fp1, G b = none) ∧ W1 j k G) ?_ m1 ⟨0, H11, I11.weak (wipe_length _ _) (fun j v e => (wipe_some e).1), st11, fun b hb => (f11 b hb).1, w1⟩
        rintro k s12 ⟨j, H12, I12, st12, n12, w12⟩
        rcases turn1 j k H12 w12 with ⟨stop1, nx1⟩ | ⟨go1, N1, hN1, step1⟩
        · refine thnF (T1.done (X.blk s3 H3 sc ce fp) rfl rfl rfl hc j _ s12 (wipe σ8 vs1) H12 (fun _ _ => False) I12 (fpk1 n12) st12 stop1) fun r s13 ⟨hr, I13⟩ => ?_
          subst hr
          exact back I13 (hl8.trans (wipe_length σ8 vs1).symm) hk9 nx1
        · refine thnF (T1.item (X.blk s3 H3 sc ce fp) rfl rfl rfl hc j _ s12 (wipe σ8 vs1) H12 (fun _ _ => False) I12 (fpk1 n12) st12 go1) fun r s13 ⟨u1, hr, h13⟩ => ?_
          subst hr
          refine thnF h13 fun _ s14 ⟨x1, H14, I14, r14, y14, st14, n14⟩ => ?_
          have I14' := I14.pinned (fpk1 n14) (T1.obj _ _ st14)
          refine thnF (ph.run _ s14 (wipe σ8 vs1) H14 x1 u1 _ I14' r14 (step1 x1 H14 y14)) fun _ s15 ⟨σ15, H15, I15, hw15, q15⟩ => ?_
          refine thnF (pe.run _ s15 σ15 H15 _ I15 q15) fun uv s17 ⟨yv, H17, I17, r17, k0, S, c, ey, hD17, room, nx⟩ => ?_
          subst ey
          refine thnF (mt_sadd (X := X.blk s3 H3 sc ce fp) _ s17 σ15 H17 (.ref D) [.int k0] _ [uv] (fun _ G => N1 G) I17 rfl (.cons r17 .nil) ⟨D, k0, S, c, rfl, rfl, hD17, room, nx⟩) fun _ s18 ⟨_, H18, I18, _, nx18⟩ => ?_
          obtain ⟨m', hm, w'⟩ := hN1 H18 nx18
          have pin : ∀ b ∈ fp1, ∀ o, s14.heap.get? b = some o → s18.heap.get? b = some o ∧ H18 b = none := fun b hb o e =>
            let z := I18.pin (b, o) (List.mem_append_right _ (List.mem_append_right _ (mem_pinsAt hb e)))
            ⟨z.1, z.2.1⟩
          refine ⟨m', hm, j + 1, H18, I18.unpinned.weak (by rw [← hw15, wipe_length]) (fun j v e => by rw [← hw15] at e; exact (wipe_some e).1), T1.keep _ _ _ st14 fun b hb o e => (pin b hb o e).1, fun b hb => ?_, w'⟩
          obtain ⟨o, e, _⟩ := T1.obj _ _ st14 b hb
          exact (pin b hb o e).2
      exact sx_start (d := 1) rfl rfl loop1 (T1.self X.A 0 _ _ _ st11 loop1)
  exact sx_start (d := 0) rfl rfl loop (T.self X.A 0 _ _ _ st4 loop)
end
end Gd
namespace Gd
open PySem PySem.Spec PyProof.Rows L2
theorem perm_sub : ∀ {ks ns : List Int}, ks.Nodup → (∀ x ∈ ks, x ∈ ns) → ks.length ≤ ns.length ∧ (ks.length = ns.length → ns.Perm ks)
  | [], ns, _, _ => ⟨Nat.zero_le _, fun e => by
    rw [List.length_nil] at e
    rw [List.eq_nil_of_length_eq_zero e.symm]⟩
  | x :: r, ns, n, h => by
    obtain ⟨n1, n2⟩ := List.nodup_cons.mp n
    have hx := h x List.mem_cons_self
    have p := List.perm_cons_erase hx
    have hl := List.length_erase_of_mem hx
    have hp := List.length_pos_of_mem hx
    obtain ⟨i1, i2⟩ := perm_sub (ns := ns.erase x) n2 fun y hy => by
      have hy2 := h y (List.mem_cons_of_mem _ hy)
      have ne : y ≠ x := fun e => n1 (e ▸ hy)
      exact (List.mem_erase_of_ne ne).mpr hy2
    refine ⟨by rw [List.length_cons]; omega, fun e => ?_⟩
    rw [List.length_cons] at e
    exact p.trans ((i2 (by omega)).cons x)
theorem count_nd {ks ns : List Int} (n : ks.Nodup) (h : ∀ x, x ∈ ks ↔ x ∈ ns) : ks.length ≤ ns.length ∧ (ks.length = ns.length ↔ ns.Nodup) := by
  obtain ⟨h1, h2⟩ := perm_sub n fun x hx => (h x).mp hx
  refine ⟨h1, fun e => ?_, fun d => ?_⟩
  · exact ((h2 e).nodup_iff).mpr n
  · have := (perm_sub d fun x hx => (h x).mpr hx).1
    omega
def tLenSetT (K : PySem.W.Frag) (ta : TE) : TE := fun σ H Q => ta σ H fun x G => ∃ (l : Addr) (ns : List Int), x = .ref l ∧ SqT K G l (ns.map V.int) ∧ ns.length ≤ 1000 ∧ ∀ c : Nat, c ≤ ns.length → (c = ns.length ↔ ns.Nodup) → Q (.int (c : Nat)) G
/-- len(set(t)), t a tuple of ints -/
theorem pe_lenSetT {X : Cx} {a : Expr} {ta : TE} {p p2 q pos : Pos} (hg : Gl X "len") (hm : X.mg "len" = none) (hg2 : Gl X "set") (hm2 : X.mg "set" = none) (ha : PE X a ta) (hc : X.calm = true := by rfl)
    (na : starEach [a] X.env = (false, eval a X.env) :: starEach [] X.env := by rfl) : PE X (.Call (.Name "len" p) [.Call (.Name "set" p2) [a] [] q] [] pos) (tLenSetT X.K ta) := by
  refine ⟨fun pins s σ H Q I h => ?_⟩
  refine Call_ (ld_blt I hg hm boot_len (PyProof.Rows.callWith_builtin1 (PyProof.Rows.args_cons ?_ rfl) rfl rfl))
  refine Call_ (ld_blt I hg2 hm2 boot_set (PyProof.Rows.callWith_type1 (PyProof.Rows.args_cons (thn (ha.run pins s σ H _ I h) fun v y ⟨x, G, J, rx, l, ns, ex, hq, hl, fin⟩ => PyProof.Rows.args_nil ?_) na) na rfl))
  subst ex
  cases rx
  obtain ⟨its, r, pl, _⟩ := J.tuple hq
  refine call_set_tupI (P := X.prog) (w := X.w) ns (J.ok.hd hc) (show y.heap.IsTuple l its.toArray from pl) (by simpa using intsAre_of r) (by unfold scanBound; omega) fun g tk c hS _ hk => ?_
  refine PyProof.Rows.args_nil ?_
  obtain ⟨o, es, ep, t, ho, hex, hd, _, hn, hS2, _, hf, hz, _⟩ := hS
  have K2 : Inv X pins σ G { y with heap := g, toks := tk } := J.kept hk
  have cnt := count_nd (ks := es.toList.map keyOf) (ns := ns) hn fun x => by
    have := hS2 x
    rw [decide_eq_true_eq] at this
    exact this.symm
  rw [List.length_map, Array.length_toList, hz] at cnt
  exact call_len_set ho hex hd hf (by rw [hz] <;> omega) ⟨.int c, G, K2.tok _, ⟨_, by rw [hz]⟩, fin c cnt.1 cnt.2⟩
/-- a walk over a tuple, whatever its turn is -/
theorem w_tup {K : PySem.W.Frag} {a : Addr} {xs : List V} {Body : Nat → V → Hp → (Hp → Prop) → Prop} {Q : Hp → Prop} {H0 : Hp} (Pv : Nat → Hp → Prop) (h0 : Pv 0 H0) (stay : ∀ i G, i ≤ xs.length → Pv i G → SqT K G a xs)
    (hs : ∀ i x G, xs[i]? = some x → Pv i G → Body i x G (Pv (i + 1))) (hd : ∀ G, Pv xs.length G → Q G) :
    ∃ W : Nat → Nat → Hp → Prop, (∃ m, W 0 m H0) ∧ ∀ i m G, W i m G → ((Itt K a).stop i G ∧ Q G) ∨ ((Itt K a).go i G ∧ ∃ N : Hp → Prop, (∀ G', N G' → ∃ n, n < m ∧ W (i + 1) n G') ∧ ∀ x G', (Itt K a).yld i G x G' → Body i x G' N) := by
  refine ⟨fun i m G => m = xs.length - i ∧ i ≤ xs.length ∧ Pv i G, ⟨_, rfl, Nat.zero_le _, h0⟩, fun i m G hw => ?_⟩
  obtain ⟨rfl, hi, hp⟩ := hw
  have hq := stay i G hi hp
  by_cases hlt : i < xs.length
  · refine .inr ⟨⟨xs, xs[i], hq, List.getElem?_eq_getElem hlt⟩, Pv (i + 1), fun G' hp' => ⟨_, by omega, rfl, hlt, hp'⟩, fun x G' hy => ?_⟩
    obtain ⟨rfl, hx⟩ := hy
    exact hs i x _ (hx xs hq) hp
  · have e : i = xs.length := by omega
    subst e
    exact .inl ⟨⟨xs, hq, Nat.le_refl _⟩, hd G hp⟩
/-- the set at D holds just ks -/
def SetL (w : World) (G : Hp) (D : Addr) (ks : List Int) : Prop := ks.Nodup ∧ ∃ S : Int → Bool, (∀ k, S k = true ↔ k ∈ ks) ∧ G D = some (SetO w D S ks.length)
theorem SetL.add {w : World} {G : Hp} {D : Addr} {ks : List Int} {S : Int → Bool} (n : ks.Nodup) (h : ∀ k, S k = true ↔ k ∈ ks) (k0 : Int) :
    SetL w (upd G D (SetO w D (fun a => S a || decide (a = k0)) (if S k0 = true then ks.length else ks.length + 1))) D (if k0 ∈ ks then ks else ks ++ [k0]) := by
  by_cases m : k0 ∈ ks
  · rw [if_pos m, if_pos ((h k0).mpr m)]
    refine ⟨n, _, fun k => ?_, upd_same⟩
    rw [Bool.or_eq_true, h, decide_eq_true_iff]
    exact ⟨fun z => z.elim id fun e => e ▸ m, .inl⟩
  · rw [if_neg m, if_neg fun z => m ((h k0).mp z)]
    refine ⟨?_, _, fun k => ?_, by rw [upd_same, List.length_append]; rfl⟩
    · refine List.nodup_append.mpr ⟨n, by simp, fun x hx y hy => ?_⟩
      rw [List.mem_singleton] at hy
      rw [hy]
      exact fun e => m (e ▸ hx)
    · rw [Bool.or_eq_true, h, decide_eq_true_iff, List.mem_append, List.mem_singleton]
theorem nd_bound {ks : List Int} {n : Nat} (h : ks.Nodup) (b : ∀ k ∈ ks, 0 ≤ k ∧ k < (n : Int)) : ks.length ≤ n := by
  have := (perm_sub (ns := (List.range n).map fun i : Nat => (i : Int)) h fun x hx => ?_).1
  · rw [List.length_map, List.length_range] at this
    exact this
  · obtain ⟨h0, h1⟩ := b x hx
    obtain ⟨j, rfl⟩ := Int.eq_ofNat_of_zero_le h0
    exact List.mem_map.mpr ⟨j, List.mem_range.mpr (by omega), rfl⟩
theorem asc_same {a b : List Int} (ha : AscI a) (hb : AscI b) (h : ∀ x, x ∈ a ↔ x ∈ b) : a = b :=
  sorted_same (ha.imp fun h => Int.le_of_lt h) (hb.imp fun h => Int.le_of_lt h) (ha.imp fun h => Int.ne_of_lt h) (hb.imp fun h => Int.ne_of_lt h) h
end Gd
/-! What gives data, and tests by repr that it is as is due. -/
namespace Gd
open PySem PySem.Spec PyProof.Rows L2
/-- t gives the data d, and all stands as before -/
def Gv (K : PySem.W.Frag) (σ : L2.St) (H : Hp) (t : TE) (d : PyData) : Prop := ∀ Q : VK, (∀ v G, Same H G → Dp K G v d → Q v G) → t σ H Q
/-- plain data that repr and == serve -/
structure Fd (d : PyData) : Prop where
  f : fine d = true
  dp : d.depth ≤ 60
  c : costD d ≤ sizeLine
theorem Fd.sh {d : PyData} (h : Fd d) : SeqAt.shaped d = true := fine_shaped h.f h.dp
abbrev rReprF (K : PySem.W.Frag) : List V → Hp → VK → Prop := fun xs H Q => ∃ a d, xs = [.ref a] ∧ Dp K H (.ref a) d ∧ fine d = true ∧ d.depth ≤ 60 ∧ costD d ≤ sizeLine ∧ Q (.str d.shown) H
abbrev tRe (K : PySem.W.Frag) (t : TE) : TE := tCB (rReprF K) (tCons t tNil)
theorem re_gv {K : PySem.W.Frag} {σ : L2.St} {H : Hp} {t : TE} {ds : List PyData} (hd : Fd (.tuple ds)) (h : Gv K σ H t (.tuple ds)) (Q : VK) (q : ∀ G, Same H G → Q (.str (PyData.tuple ds).shown) G) : tRe K t σ H Q := by
  refine h _ fun v G s dv => ?_
  cases dv with
  | tup hs ha => exact ⟨_, _, rfl, .tup hs ha, hd.f, hd.dp, hd.c, q G s⟩
/-- repr(a) != repr(b), both as is due -/
theorem re_no {K : PySem.W.Frag} {σ : L2.St} {H : Hp} {t1 t2 : TE} {ds : List PyData} (hd : Fd (.tuple ds)) (h1 : Gv K σ H t1 (.tuple ds)) (h2 : ∀ G, Same H G → Gv K σ G t2 (.tuple ds)) {B : Bool → Hp → Prop} (hB : ∀ G, Same H G → B false G) :
    tTest (tOp rNe (tRe K t1) (tRe K t2)) σ H B := by
  refine re_gv hd h1 _ fun G1 s1 => re_gv hd (h2 G1 s1) _ fun G2 s2 => ⟨rfl, _, rfl, ?_⟩
  rw [decide_eq_true rfl]
  exact hB _ (s1.trans s2)
/-- a != b, both as is due -/
theorem ne_no {K : PySem.W.Frag} {σ : L2.St} {H : Hp} {t1 t2 : TE} {d : PyData} (nl : noList d = true) (hd : Fd d) (h1 : Gv K σ H t1 d) (h2 : ∀ G, Same H G → Gv K σ G t2 d) {B : Bool → Hp → Prop} (hB : ∀ G, Same H G → B false G) :
    tTest (tOp (rNeD K) t1 t2) σ H B := by
  refine h1 _ fun v1 G1 s1 d1 => h2 G1 s1 _ fun v2 G2 s2 d2 => ⟨d, d, dp_same s2 _ _ d1, d2, hd.sh, hd.sh, _, rfl, ?_⟩
  rw [fine_eqv hd.f]
  exact hB _ (s1.trans s2)
/-- repr(a) != repr(b) or c != e, all as is due -/
theorem re_ne_no {K : PySem.W.Frag} {σ : L2.St} {H : Hp} {t1 t2 t3 t4 : TE} {ds : List PyData} (nl : noList (.tuple ds) = true) (hd : Fd (.tuple ds)) (h1 : Gv K σ H t1 (.tuple ds)) (h2 : ∀ G, Same H G → Gv K σ G t2 (.tuple ds)) (h3 : ∀ G, Same H G → Gv K σ G t3 (.tuple ds)) (h4 : ∀ G, Same H G → Gv K σ G t4 (.tuple ds))
    {B : Bool → Hp → Prop} (hB : ∀ G, Same H G → B false G) : tOr (tTest (tOp rNe (tRe K t1) (tRe K t2))) (tTest (tOp (rNeD K) t3 t4)) σ H B := by
  refine re_no hd h1 h2 fun G1 s1 => iteF ?_
  exact ne_no nl hd (h3 G1 s1) (fun G s => h4 G (s1.trans s)) fun G2 s2 => hB _ (s1.trans s2)
theorem gv_var {K : PySem.W.Frag} {σ : L2.St} {H : Hp} {i : Nat} {v : V} {d : PyData} (h : σ[i]? = some (some v)) (dv : Dp K H v d) : Gv K σ H (tVar i) d := fun Q q => ⟨v, h, q _ _ (Same.refl _) dv⟩
theorem ints_fd {l : List Int} (h : ∀ x ∈ l, x.natAbs < 10 ^ 9) (hl : l.length ≤ 1000) : Fd (.tuple (l.map .int)) := let ⟨a, b, c⟩ := ints_fine h hl; ⟨a, b, c⟩
/-- repr of a bool -/
theorem call_reprB {X : Cx} : CallR X (.builtin "repr") (fun xs H Q => ∃ b, xs = [.bl b] ∧ Q (.str (if b then "True" else "False")) H) := by
  intro pins s σ H xs us Q I r h
  obtain ⟨b, rfl, q⟩ := h
  obtain ⟨u, rfl, ru⟩ := vals1 r
  cases ru
  exact PySem.P.repr_of_bool ⟨.str _, H, I.tok _, ⟨_, rfl⟩, q⟩
/-- the law's rows of truths -/
structure TrsAt (H : Hp) (a : Addr) (rs : List Addr) (tl kl : Nat) (acc : Nat → Int → Bool) : Prop where
  top : H a = some (.lst (rs.map V.ref))
  len : rs.length = tl
  row : ∀ i r, rs[i]? = some r → H r = some (.lst ((List.range kl).map fun k : Nat => V.bl (acc i (k : Int))))
theorem TrsAt.same {H G : Hp} {a : Addr} {rs : List Addr} {tl kl : Nat} {acc : Nat → Int → Bool} (d : TrsAt H a rs tl kl acc) (s : Same H G) : TrsAt G a rs tl kl acc := ⟨s _ _ d.top, d.len, fun i r e => s _ _ (d.row i r e)⟩
theorem TrsAt.but {h l : Addr} {H G : Hp} {a : Addr} {rs : List Addr} {tl kl : Nat} {acc : Nat → Int → Bool} (d : TrsAt H a rs tl kl acc) (b : But h l H G) (n : ∀ x ∈ a :: rs, x ≠ h ∧ x ≠ l) : TrsAt G a rs tl kl acc :=
  ⟨b _ _ (n a List.mem_cons_self).1 (n a List.mem_cons_self).2 d.top, d.len, fun i r e => let m := n r (List.mem_cons_of_mem _ (List.mem_of_getElem? e)); b _ _ m.1 m.2 (d.row i r e)⟩
/-- truths[at][kind] -/
theorem trs_ix {K : PySem.W.Frag} {H : Hp} {a : Addr} {rs : List Addr} {tl kl : Nat} {acc : Nat → Int → Bool} (d : TrsAt H a rs tl kl acc) {i k : Nat} (hi : i < tl) (hk : k < kl) : ∃ r, SqL K H a (rs.map V.ref) ∧ (rs.map V.ref)[i]? = some (.ref r) ∧
    SqL K H r ((List.range kl).map fun k : Nat => V.bl (acc i (k : Int))) ∧ ((List.range kl).map fun k : Nat => V.bl (acc i (k : Int)))[k]? = some (.bl (acc i (k : Int))) := by
  have hl : i < rs.length := by rw [d.len]; exact hi
  refine ⟨rs[i], sqL d.top, ?_, sqL (d.row i _ (List.getElem?_eq_getElem hl)), ?_⟩
  · rw [List.getElem?_map, List.getElem?_eq_getElem hl]
    rfl
  · rw [List.getElem?_map, List.getElem?_range hk]
    rfl
end Gd
/-! What all laws share further: calls by keywords, tuples joined and cut, displays of data. -/
namespace Gd
open PySem PySem.Spec PyProof.Rows L2
section
variable {X : Cx} {CX : CXT} {k : Nat} {f : Addr} {fd : FuncData} {ps ks : List Str} {sp : Sp} {E : XK} {x : Str} {p pos : Pos} {e : Expr} {es : List Expr} {kws : List Keyword} {t tk : TA}
/-- f(k = v, ..), f may raise, but not here -/
theorem pe_kwP {g : List Value → List Value} {gV : List V → List V} (F : FnOk X.prog X.w X.K X.mg X.base CX k f fd ps sp) (hr : Room k X.A) (hg : Gl X x) (hm : X.mg x = some (.ref f)) (hk : PySem.W.keepIn X.K (.ref f) = true)
    (hb : KwB fd ps ks g) (hx : Passes CX X E) (hv : ∀ {zs : List V} {ws : List Value}, zs.length = ks.length → Vals zs ws → Vals (gV zs) (g ws)) (hkw : PK X kws tk)
    (h1 : (backToKw pos (keywordEach kws X.env)).all (·.1.isSome) = true := by rfl) (h2 : (backToKw pos (keywordEach kws X.env)).filterMap (·.1) = ks := by rfl) (h3 : (x == ("__debug__" : Str)) = false := by decide)
    (h4 : ((backTo pos (starEach [] X.env)).any (·.1) || (backToKw pos (keywordEach kws X.env)).any (·.1.isNone)) = false := by rfl) :
    PE X (.Call (.Name x p) [] kws pos) (tKw ks.length sp gV E tk) := by
  refine ⟨fun pins s σ H Q I h => wpAny_Call_Name_kw (ld_glob I hg hm (PySem.W.callWith_KW0 (h₀ := X.base) I.ok.mod.kin hk h1 ?_ h4) h3)⟩
  refine thn (hkw.run pos pins s σ H _ I h) fun ws s2 ⟨zs, H2, I2, rz, l, q⟩ => ⟨I2.kIn, ?_⟩
  rw [h2]
  have r2 := hv l rz
  refine wpAny_call (codeAny_mono (F.run X.A X.stack s2 H2 ⟨[], ks.zip ws⟩ (g ws) (gV zs) Q E hr I2.env0 (hb s2 ws (rz.length.symm.trans l)) r2 q) fun r s' hq => ?_)
  cases r with
  | error e => exact hx pins σ H2 s2 e s' I2 hq
  | ok fl =>
    cases fl with
    | ret u => exact I2.after hq
    | next => exact False.elim hq
    | brk => exact False.elim hq
    | cont => exact False.elim hq
end
theorem cat_to {K : PySem.W.Frag} {H : Hp} {a b : Addr} {xs ys : List V} {Q : VK} (ha : SqT K H a xs) (hb : SqT K H b ys) (hl : xs.length + ys.length ≤ 5000) (q : ∀ G r, Same H G → SqT K G r (xs ++ ys) → Q (.ref r) G) : rCatA K (.ref a) (.ref b) H Q := by
  refine ⟨a, b, xs, ys, rfl, rfl, ha, hb, by rw [sizeLine_eq]; omega, fun e => ?_, fun _ e => ?_, fun _ _ p np => q _ p (same_new np) (sqT upd_same)⟩
  · subst e
    exact q H b (Same.refl _) hb
  · subst e
    exact q H a (Same.refl _) (by rw [List.append_nil]; exact ha)
theorem slA_to {K : PySem.W.Frag} {H : Hp} {a : Addr} {xs : List V} {lo hi : Option Int} {Q : VK} (ha : SqT K H a xs) (q : ∀ G r, Same H G → SqT K G r (cutV xs lo hi) → Q (.ref r) G) : rSlA K (.ref a) lo hi H Q := by
  refine ⟨a, xs, rfl, ha, fun ⟨e1, e2⟩ => ?_, fun _ p np => q _ p (same_new np) (sqT upd_same)⟩
  refine q H a (Same.refl _) ?_
  have e : cutV xs lo hi = xs := by
    unfold cutV
    rw [e1, e2, List.drop_zero, Nat.sub_zero, List.take_of_length_le (Nat.le_refl _)]
  rw [e]
  exact ha
theorem cut_to {xs : List V} {n : Nat} (h : n ≤ xs.length) : cutV xs none (some (n : Int)) = xs.take n := by
  unfold cutV
  rw [HT.sIx_none, HT.sIx_nat, List.drop_zero, Nat.sub_zero, Nat.min_eq_left h]
theorem cut_from {xs : List V} {n : Nat} (h : n ≤ xs.length) : cutV xs (some (n : Int)) none = xs.drop n := by
  unfold cutV
  rw [HT.sIx_none, HT.sIx_nat, Nat.min_eq_left h, List.take_of_length_le (by rw [List.length_drop]; exact Nat.le_refl _)]
theorem paired_take {α β : Type} {R : α → β → Prop} : ∀ {xs : List α} {ys : List β} (n : Nat), Paired R xs ys → Paired R (xs.take n) (ys.take n)
  | _, _, 0, _ => .nil
  | _, _, n + 1, .nil => .nil
  | _, _, n + 1, .cons a t => .cons a (paired_take n t)
theorem paired_drop {α β : Type} {R : α → β → Prop} : ∀ {xs : List α} {ys : List β} (n : Nat), Paired R xs ys → Paired R (xs.drop n) (ys.drop n)
  | _, _, 0, h => h
  | _, _, n + 1, .nil => .nil
  | _, _, n + 1, .cons a t => paired_drop n t
theorem paired_app {α β : Type} {R : α → β → Prop} : ∀ {xs : List α} {ys : List β} {us : List α} {ws : List β}, Paired R xs ys → Paired R us ws → Paired R (xs ++ us) (ys ++ ws)
  | _, _, _, _, .nil, h => h
  | _, _, _, _, .cons a t, h => .cons a (paired_app t h)
theorem perm_pop {L M : List Int} {k : Nat} {y : Int} (h : L[k]? = some y) : (L.eraseIdx k ++ (M ++ [y])).Perm (L ++ M) := by
  obtain ⟨hk, e⟩ := List.getElem?_eq_some_iff.mp h
  have p1 : (y :: L.eraseIdx k).Perm L := by
    have e2 : L = L.take k ++ y :: L.drop (k + 1) := by
      rw [← e, ← List.drop_eq_getElem_cons hk, List.take_append_drop]
    rw [List.eraseIdx_eq_take_drop_succ]
    refine List.Perm.trans ?_ (List.Perm.of_eq e2.symm)
    exact List.perm_middle.symm
  have p2 : (L.eraseIdx k ++ (M ++ [y])).Perm (y :: (L.eraseIdx k ++ M)) := by
    rw [← List.append_assoc]
    exact List.perm_append_singleton _ _
  exact p2.trans (p1.append_right M)
theorem erase_map (l : List Int) (k : Nat) : (l.map V.int).eraseIdx k = (l.eraseIdx k).map V.int := by
  rw [List.eraseIdx_eq_take_drop_succ, List.eraseIdx_eq_take_drop_succ, List.map_append, List.map_take, List.map_drop]
/-- the arguments give the data ds, and all stands as before -/
def GvA (K : PySem.W.Frag) (σ : L2.St) (H : Hp) (t : TA) (ds : List PyData) : Prop := ∀ Q : List V → Hp → Prop, (∀ vs G, Same H G → DpAll K G vs ds → Q vs G) → t σ H Q
theorem gvA_nil {K : PySem.W.Frag} {σ : L2.St} {H : Hp} : GvA K σ H tNil [] := fun Q q => q _ _ (Same.refl _) .nil
theorem gvA_cons {K : PySem.W.Frag} {σ : L2.St} {H : Hp} {t : TE} {ta : TA} {d : PyData} {ds : List PyData} (h1 : Gv K σ H t d) (h2 : ∀ G, Same H G → GvA K σ G ta ds) : GvA K σ H (tCons t ta) (d :: ds) := fun Q q =>
  h1 _ fun v G s dv => h2 G s _ fun vs G2 s2 dvs => q _ _ (s.trans s2) (.cons (dp_same s2 _ _ dv) dvs)
theorem gv_tup {K : PySem.W.Frag} {σ : L2.St} {H : Hp} {ta : TA} {ds : List PyData} (h : GvA K σ H ta ds) (l : Nat.ble ds.length 1000 = true := by rfl) : Gv K σ H (tTup ta) (.tuple ds) := fun Q q =>
  h _ fun vs G s dvs => ⟨by have := Nat.le_of_ble_eq_true l; rw [dpAll_len dvs, sizeLine_eq]; omega, fun p np => q _ _ (s.trans (same_new np)) (.tup (sqT upd_same) (dpAll_same (same_new np) _ _ dvs))⟩
theorem gv_int {K : PySem.W.Frag} {σ : L2.St} {H : Hp} {i : Int} : Gv K σ H (tC (.int i)) (.int i) := fun Q q => q _ _ (Same.refl _) (.int i)
theorem gv_str {K : PySem.W.Frag} {σ : L2.St} {H : Hp} {z : Str} : Gv K σ H (tC (.str z)) (.str z) := fun Q q => q _ _ (Same.refl _) (.str z)
theorem gv_tup0 {K : PySem.W.Frag} {σ : L2.St} {H : Hp} : Gv K σ H (tTup tNil) (.tuple []) := gv_tup gvA_nil
end Gd
namespace Gd
open PySem PySem.Spec PyProof.Rows L2
theorem tuple_mul1 (l : Addr) (items : Array Value) (n : Nat) (dd : Option Addr) (sl : Array (Option Value)) (u : Tok) :
    Meets (Builtin.«tuple.__mul__» ⟨[.ref l, .int 1 u], []⟩) (fun _ R s => s.heap.get? l = some { cls := .type "tuple", dict := dd, data := .seq items n, slots := sl } ∧ R (.ok (.ret (Value.ref l))) s) :=
  .of_wp fun prog w A R s h => by
    obtain ⟨hp, g, d, tk, os⟩ := s
    obtain ⟨hl, h⟩ := h
    have f1 := AutoSeq1.idx_int
    have c0 : (decide ((1 : Int) < -(2 ^ 63)) || decide ((1 : Int) ≥ 2 ^ 63)) = false := by decide
    have c1 : (items.isEmpty || (1 : Int) == 1) = true := by simp
    wp_walk using wpAny_loadPart' hl
    repeat (first
      | (refine wpAny_ite_false (decide_eq_false (by rw [c0]; exact Bool.false_ne_true)) ?_; wp_walk using wpAny_loadPart' hl)
      | (refine wpAny_ite_true (decide_eq_true (by rw [c1])) ?_; wp_walk using wpAny_loadPart' hl))
    exact ⟨_, rfl, h⟩
section
variable {X : Cx}
abbrev rRepM (K : PySem.W.Frag) : V → V → Hp → VK → Prop := fun x y H Q => ∃ (l : Addr) (k : Int) (z : V), x = .ref l ∧ y = .int k ∧ SqT K H l [z] ∧ 1 ≤ k ∧ k ≤ 100000 ∧ ∀ G r, Same H G → SqT K G r (List.replicate k.toNat z) → Q (.ref r) G
/-- (x,) * k, k may be 1 -/
theorem op_repM : OpR X (binaryOp .Mult) (rRepM X.K) := by
  intro pins s σ H x y v u Q I rx ry h
  obtain ⟨l, k, z, rfl, rfl, hT, h1, h2, q⟩ := h
  by_cases hk : 2 ≤ k
  · exact op_rep1 pins s σ H _ _ v u Q I rx ry ⟨l, k, z, rfl, rfl, hT, hk, h2, fun p np => q _ p (same_new np) (sqT upd_same)⟩
  obtain rfl : k = 1 := by omega
  obtain rfl : v = Value.ref l := rx
  obtain ⟨t, rfl⟩ := ry
  have hq := q H l (Same.refl _) hT
  obtain ⟨its, r, ⟨⟨cls, dd, data, sl⟩, ho, hc, n, hd⟩, hs⟩ := I.tuple hT
  simp only at hc hd
  subst hc hd
  refine wpAny_binaryOp_repeat_ref (T := "tuple") (U := "int") (by decide) ⟨_, ho, rfl⟩ (fun s' => typeIs_int s' 1 t) noFill_tuple_mul F.fills_int_mul F.slot_int_rmul repeat_tuple F.slot_int_index.lookup
    (call_meets F.slot_int_rmul (typeIs_int s 1 t) F.entry_int_rmul (F.args_int_rmul_2 _ _) (int_rmul_tuple 1 t l its.toArray n dd sl)
      ⟨ho, rfl, ⟨_, ho, rfl⟩, call_meets F.slot_tuple_mul ⟨_, ho, rfl⟩ F.entry_tuple_mul (F.args_tuple_mul_2 _ _) (tuple_mul1 l its.toArray n dd sl t) ⟨ho, ?_⟩⟩)
  exact ⟨.ref l, H, I, rfl, hq⟩
end
end Gd
/-! Written tables that stand. -/
namespace Gd
open PySem PySem.Spec PyProof.Rows L2
instance : ∀ l, Decidable (AscS l) := fun l => by unfold AscS; infer_instance
instance : ∀ l, Decidable (AscI l) := fun l => by unfold AscI; infer_instance
def nmB (z : Str) : Bool := decide (1 ≤ z.length) && decide (z.length ≤ 8) && z.cps.toList.all fun c => decide (97 ≤ c ∧ c ≤ 122)
theorem nmB_of {z : Str} (h : nmB z = true) : Nm z := by
  unfold nmB at h
  rw [Bool.and_eq_true, Bool.and_eq_true] at h
  obtain ⟨⟨h1, h2⟩, h3⟩ := h
  exact ⟨⟨of_decide_eq_true h1, of_decide_eq_true h2⟩, fun c hc => of_decide_eq_true (p := 97 ≤ c ∧ c ≤ 122) (List.all_eq_true.mp h3 c hc)⟩
def okB (t : TD) : Bool := decide (1 ≤ t.kinds.length) && decide (t.kinds.length ≤ 8) && t.kinds.all nmB && decide (AscS t.kinds) && decide (t.types.length ≤ 12) && (t.types.all fun p => nmB p.1) && decide (AscS (t.types.map (·.1))) &&
  (t.types.all fun p => decide (AscI p.2)) && t.types.all fun p => p.2.all fun n => decide (0 ≤ n ∧ n < (t.kinds.length : Int))
theorem okB_of {t : TD} (h : okB t = true) : TOk t := by
  unfold okB at h
  simp only [Bool.and_eq_true, List.all_eq_true, decide_eq_true_eq] at h
  obtain ⟨⟨⟨⟨⟨⟨⟨⟨h1, h2⟩, h3⟩, h4⟩, h5⟩, h6⟩, h7⟩, h8⟩, h9⟩ := h
  exact ⟨h1, h2, fun z hz => nmB_of (h3 z hz), h4, h5, fun p hp => nmB_of (h6 p hp), h7, h8, fun p hp n hn => h9 p hp n hn⟩
end Gd
/-! Values told by a property that new objects leave as it is; n copies of a text. -/
namespace Gd
open PySem PySem.Spec PyProof.Rows L2
/-- an expression's value has R, and nothing but new objects came -/
def Gp (σ : L2.St) (H : Hp) (t : TE) (R : Hp → V → Prop) : Prop := ∀ Q : VK, (∀ v G, Same H G → R G v → Q v G) → t σ H Q
def GpA (σ : L2.St) (H : Hp) (t : TA) (R : Hp → V → Prop) (n : Nat) : Prop := ∀ Q : List V → Hp → Prop, (∀ vs G, Same H G → vs.length = n → (∀ v ∈ vs, R G v) → Q vs G) → t σ H Q
theorem asg_go {te : TE} {g : TG} {u : TS} {D : Ends} {σ : L2.St} {H : Hp} (h : te σ H fun x H1 => g x σ H1 fun σ' G' => u D σ' G') : tSeq (tAsg te g) u D σ H := h
theorem ifS_go {c : TT} {t u : TS} {D : Ends} {σ : L2.St} {H : Hp} (h : c σ H fun b H1 => if b = true then t D σ H1 else u D σ H1) : tIfS c t u D σ H := h
theorem seq_go {t u : TS} {D : Ends} {σ : L2.St} {H : Hp} (h : t { D with nx := fun σ' G' => u D σ' G' } σ H) : tSeq t u D σ H := h
theorem ret_go {te : TE} {u : TS} {D : Ends} {σ : L2.St} {H : Hp} (h : te σ H D.rt) : tSeq (tRet te) u D σ H := h
/-- repr(a) == repr(b) and c == d, all as is due -/
theorem re_eq_and {K : PySem.W.Frag} {σ : L2.St} {H : Hp} {t1 t2 t3 t4 : TE} {ds : List PyData} (nl : noList (.tuple ds) = true) (hd : Fd (.tuple ds)) (h1 : Gv K σ H t1 (.tuple ds)) (h2 : ∀ G, Same H G → Gv K σ G t2 (.tuple ds)) (h3 : ∀ G, Same H G → Gv K σ G t3 (.tuple ds)) (h4 : ∀ G, Same H G → Gv K σ G t4 (.tuple ds))
    {Q : VK} (hQ : ∀ G, Same H G → Q (.bl true) G) : tAndV (tOp rEq (tRe K t1) (tRe K t2)) (tOp (rEqD K) t3 t4) σ H Q := by
  refine re_gv hd h1 _ fun G1 s1 => re_gv hd (h2 G1 s1) _ fun G2 s2 => ⟨rfl, _, rfl, ?_⟩
  rw [decide_eq_true rfl]
  have s12 := s1.trans s2
  refine iteT (h3 G2 s12 _ fun v3 G3 s3 d3 => h4 G3 (s12.trans s3) _ fun v4 G4 s4 d4 => ⟨_, _, dp_same s4 _ _ d3, d4, hd.sh, hd.sh, ?_⟩)
  rw [fine_eqv hd.f]
  exact hQ _ ((s12.trans s3).trans s4)
theorem cons_go {te : TE} {ta : TA} {σ : L2.St} {H : Hp} {Q : List V → Hp → Prop} (h : te σ H fun x H1 => ta σ H1 fun xs H2 => Q (x :: xs) H2) : tCons te ta σ H Q := h
theorem lst_go {ta : TA} {σ : L2.St} {H : Hp} {Q : VK} (h : ta σ H fun xs H1 => xs.length ≤ sizeLine ∧ ∀ p, H1 p = none → Q (.ref p) (upd H1 p (.lst xs))) : tLst ta σ H Q := h
theorem cb_go {r : List V → Hp → VK → Prop} {ta : TA} {σ : L2.St} {H : Hp} {Q : VK} (h : ta σ H fun xs H1 => r xs H1 Q) : tCB r ta σ H Q := h
theorem op_go {r : R2} {ta tb : TE} {σ : L2.St} {H : Hp} {Q : VK} (h : ta σ H fun x H1 => tb σ H1 fun y H2 => r x y H2 Q) : tOp r ta tb σ H Q := h
theorem test_go {te : TE} {σ : L2.St} {H : Hp} {Q : Bool → Hp → Prop} (h : te σ H fun x H1 => ∃ k, x = .bl k ∧ Q k H1) : tTest te σ H Q := h
theorem gv_lst {K : PySem.W.Frag} {σ : L2.St} {H : Hp} {ta : TA} {ds : List PyData} (h : GvA K σ H ta ds) (l : Nat.ble ds.length 1000 = true := by rfl) : Gv K σ H (tLst ta) (.list ds) := fun Q q => h _ fun vs G s d => ⟨by
  have e := dpAll_len d
  have := Nat.le_of_ble_eq_true l
  have : (1000 : Nat) ≤ sizeLine := by decide
  omega, fun p n => q _ _ (s.trans (same_new n)) (.lst (sqL upd_same) (dpAll_same (same_new n) _ _ d))⟩
theorem neD_no {K : PySem.W.Frag} {σ : L2.St} {H : Hp} {t1 t2 : TE} {d : PyData} (sh : SeqAt.shaped d = true) (f : fine d = true) (h1 : Gv K σ H t1 d) (h2 : ∀ G, Same H G → Gv K σ G t2 d) {B : Bool → Hp → Prop} (hB : ∀ G, Same H G → B false G) : tTest (tOp (rNeD K) t1 t2) σ H B := by
  refine h1 _ fun v1 G1 s1 d1 => h2 G1 s1 _ fun v2 G2 s2 d2 => ⟨d, d, dp_same s2 _ _ d1, d2, sh, sh, _, rfl, ?_⟩
  rw [fine_eqv f]
  exact hB _ (s1.trans s2)
theorem eqD_yes {K : PySem.W.Frag} {σ : L2.St} {H : Hp} {t1 t2 : TE} {d : PyData} (sh : SeqAt.shaped d = true) (f : fine d = true) (h1 : Gv K σ H t1 d) (h2 : ∀ G, Same H G → Gv K σ G t2 d) {Q : VK} (hQ : ∀ G, Same H G → Q (.bl true) G) : tOp (rEqD K) t1 t2 σ H Q := by
  refine h1 _ fun v1 G1 s1 d1 => h2 G1 s1 _ fun v2 G2 s2 d2 => ⟨d, d, dp_same s2 _ _ d1, d2, sh, sh, ?_⟩
  rw [fine_eqv f]
  exact hQ _ (s1.trans s2)
theorem and_go {ta tb : TE} {σ : L2.St} {H : Hp} {Q : VK} (h : ta σ H fun x H1 => ∃ c, x = .bl c ∧ if c = true then tb σ H1 Q else Q (.bl false) H1) : tAndV ta tb σ H Q := h
theorem or_go {t u : TT} {σ : L2.St} {H : Hp} {Q : Bool → Hp → Prop} (h : t σ H fun b H1 => if b = true then Q true H1 else u σ H1 Q) : tOr t u σ H Q := h
def Stb (R : Hp → V → Prop) : Prop := ∀ G G' v, Same G G' → R G v → R G' v
theorem gpA_nil {σ : L2.St} {H : Hp} {R : Hp → V → Prop} : GpA σ H tNil R 0 := fun Q q => q _ _ (Same.refl _) rfl fun v m => nomatch m
theorem gpA_cons {σ : L2.St} {H : Hp} {R : Hp → V → Prop} {t : TE} {ta : TA} {n : Nat} (S : Stb R) (h1 : Gp σ H t R) (h2 : ∀ G, Same H G → GpA σ G ta R n) : GpA σ H (tCons t ta) R (n + 1) := fun Q q => by
  refine h1 _ fun v G s r => ?_
  refine h2 G s _ fun vs G2 s2 l r2 => q _ _ (s.trans s2) (by rw [List.length_cons, l]) fun x m => ?_
  rcases List.mem_cons.mp m with e | m
  · rw [e]
    exact S _ _ _ s2 r
  · exact r2 x m
theorem gp_c {σ : L2.St} {H : Hp} {R : Hp → V → Prop} {v : V} (r : R H v) : Gp σ H (tC v) R := fun Q q => q _ _ (Same.refl _) r
theorem gp_v {σ : L2.St} {H : Hp} {R : Hp → V → Prop} {i : Nat} {v : V} (e : σ[i]? = some (some v)) (r : R H v) : Gp σ H (tVar i) R := fun Q q => ⟨v, e, q _ _ (Same.refl _) r⟩
/-- a display of n such values -/
theorem gp_lst {σ : L2.St} {H : Hp} {R : Hp → V → Prop} {ta : TA} {n : Nat} (hn : n ≤ 1000) (h : GpA σ H ta R n) (S : Stb R) {Q : VK} (q : ∀ p vs G, Same H G → G p = some (.lst vs) → H p = none → vs.length = n → (∀ v ∈ vs, R G v) → Q (.ref p) G) : tLst ta σ H Q := by
  refine h _ fun vs G s l r => ⟨?_, fun p np => ?_⟩
  · have : (1000 : Nat) ≤ sizeLine := by decide
    omega
  · exact q p vs _ (s.trans (same_new np)) upd_same (s.free np) l fun v m => S _ _ _ (same_new np) (r v m)
section
variable {X : Cx}
/-- a text of one sign, n times -/
theorem op_mulS : OpR X (binaryOp .Mult) (fun x y H Q => ∃ (z : Str) (n : Nat), x = .str z ∧ y = .int (n : Int) ∧ z.length = 1 ∧ n ≤ 1000 ∧ ∀ z', Q (.str z') H) := by
  intro pins s σ H x y v u Q I rx ry h
  obtain ⟨z, n, rfl, rfl, l, hn, q⟩ := h
  obtain ⟨t, rfl⟩ := rx
  obtain ⟨t2, rfl⟩ := ry
  refine SB.mul ⟨?_, fun _ _ => ?_, fun _ _ => ?_⟩ fun t' k => ⟨.str _, H, I.tok _, ⟨_, rfl⟩, q _⟩
  · rw [decide_eq_false (by omega), decide_eq_false (by omega)]
    rfl
  · rw [l]
    rename_i h1 _
    have : (1 : Int) ≤ (2 ^ 63 - 1) / (n : Int) := (Int.le_ediv_iff_mul_le (by omega)).mpr (by omega)
    show ¬ ((1 : Nat) : Int) > _
    omega
  · rw [l]
    have : (1000 : Nat) ≤ sizeLine := by decide
    exact decide_eq_false (by omega)
end
end Gd
/-! set(t), t a tuple of ints -/
namespace Gd
open PySem PySem.Spec PyProof.Rows L2
def rSetTI (w : World) (K : PySem.W.Frag) : List V → Hp → VK → Prop := fun xs H Q => ∃ (l : Addr) (ns : List Int), xs = [.ref l] ∧ SqT K H l (ns.map V.int) ∧ ns.length ≤ 1000 ∧
  ∀ (p : Addr) (c : Nat), H p = none → c ≤ ns.length → Q (.ref p) (upd H p (SetO w p (fun j => decide (j ∈ ns)) c))
theorem cr_setTI {X : Cx} (hc : X.calm = true) : CallR X (.type "set") (rSetTI X.w X.K) := by
  intro pins s σ H xs us Q I r h
  obtain ⟨l, ns, rfl, hq, hl, fin⟩ := h
  obtain ⟨its, rv, pl, _⟩ := I.tuple hq
  rw [Vals.ref1 r]
  refine call_set_tupI (P := X.prog) (w := X.w) ns (I.ok.hd hc) (show s.heap.IsTuple l its.toArray from pl) (by simpa using intsAre_of rv) (by unfold scanBound; omega) fun g tk c hS cn hk => ?_
  exact ⟨.ref s.heap.objs.size, _, I.laid hk (Nat.le_refl _) (setO_new hS), rfl, fin _ c (I.hok.fresh (Nat.le_refl _)) cn⟩
end Gd
/-! set(xs) of a list of ints -/
namespace Gd
open PySem PySem.Spec PyProof.Rows L2
abbrev e0 (w : World) : Obj := { cls := .type "set", dict := none, data := .set #[] 0 (.fresh 0 0 (!w.params.followText "set-order")) }
abbrev li0 (l : Addr) : Obj := { cls := .type "list_iterator", data := .fields #[.ref l, .int 0 0] }
section
variable {P : Program} {w : World} {A : Around} {E : Value → Shared → Prop} {s : Shared}
set_option maxHeartbeats 3200000 in
theorem set_init_list {l : Addr} {its : Array Value} (ns : List Int) {Q : Value → Shared → Prop} (hh : A.handled = none) (hl : s.heap.IsList l its) (hi : IntsAre its.toList ns) (hb : ns.length + 1 < scanBound)
    (h : ∀ g tk c, SetR w g s.heap.objs.size (fun j => decide (j ∈ ns)) c → c ≤ ns.length → (∀ b o, s.heap.get? b = some o → g.get? b = some o) → Q .none { s with heap := g, toks := tk }) :
    codeAny (model P w) A (.call (.builtin "set.__init__") ⟨[.ref s.heap.objs.size, .ref l], []⟩) (wants Q E) { s with heap := s.heap.push (e0 w) } := by
  have sz : its.size = ns.length := by
    have q := IntsAre.length hi
    rwa [Array.length_toList] at q
  have S0 : (s.heap.push (e0 w)).get? s.heap.objs.size = some (e0 w) := Heap.get?_push_size _ rfl
  have T0 : Shared.TypeIs { s with heap := s.heap.push (e0 w) } (.ref s.heap.objs.size) "set" := ⟨_, S0, rfl⟩
  have ps : (s.heap.push (e0 w)).objs.size = s.heap.objs.size + 1 := Heap.size_push ..
  obtain ⟨o, go, co, n, dt⟩ := id hl
  obtain ⟨oc, od, ot, os⟩ := o
  simp only at co dt
  subst co dt
  have gl := Heap.get?_push_of_some (e0 w) go
  have lt := Heap.lt_size go
  have L1 := hl.push (e0 w)
  refine codeAny_call_builtin F.called_set.init.plain F.entry_set_init (check_set_init_1 T0 ?_)
  have q1 := F.sub_list_set
  have q2 := F.sub_list_frozenset
  have q3 : (Value.type "list" == Value.type "dict") = false := by decide
  unfold Builtin.«set.__init__» noKeywords Builtin.Frozenset.updateFrom
  generalize gPI : pyIter = PI
  wp_walk
  subst gPI
  refine wpAny_pyIter_list L1 (wpAny_bind (wpAny_runValue ?_))
  have h3 : A.in1.in1.handled = none := hh
  have nI : l ≠ (s.heap.push (e0 w)).objs.size := by rw [ps]; exact Nat.ne_of_lt (Nat.lt_succ_of_lt lt)
  have nS : s.heap.objs.size ∉ [(s.heap.push (e0 w)).objs.size, l] := fun z => by
    rw [ps] at z
    rcases List.mem_cons.mp z with z | z
    · exact absurd z (Nat.ne_of_lt (Nat.lt_succ_self _))
    · exact absurd (List.mem_singleton.mp z) (Nat.ne_of_gt lt)
  refine set_update_ints (Walks.list h3 _ l nI its).toS s.heap.objs.size nS ns sz hb (fun i v hv => ?_) (its.size - 0) 0 _ (by omega) (Nat.zero_le _) ?st ?h0 fun z c m hc hS => ?_
  · have lv := (Array.getElem?_eq_some_iff.mp hv).1
    have hn : i < ns.length := by rw [← sz]; exact lv
    obtain ⟨t, e⟩ := PyProof.Rows.IntsAre.int_at hi i v (by rw [Array.getElem?_toList]; exact hv)
    exact ⟨ns[i], t, List.getElem?_eq_getElem hn, by rw [e, List.getD_eq_getElem?_getD, List.getElem?_eq_getElem hn]; rfl⟩
  case st => exact ⟨⟨_, Heap.get?_push_size _ rfl, rfl, rfl⟩, L1.push _⟩
  case h0 =>
    have S1 := Heap.get?_push_of_some (li0 l) S0
    exact ⟨0, Nat.le_refl 0, setR_new_at S1⟩
  · obtain ⟨g, gs, dr, tk, os2⟩ := z
    obtain rfl : gs = s.gens := m.gens
    obtain rfl : dr = s.drawn := m.drawn
    obtain rfl : os2 = s.os := m.os
    show wpAny _ _ _ _ _ _
    refine wpAny_pure ?_
    show wpAny _ _ (ret Value.none) _ _ _
    refine wpAny_pure (h g tk c hS (by rw [← sz]; exact hc) fun b ob e => m.heap b ob (fun q => ?_) (Heap.get?_push_of_some (li0 l) (Heap.get?_push_of_some (e0 w) e)))
    have lb := Heap.lt_size e
    rcases List.mem_cons.mp q with q | q
    · exact absurd q (Nat.ne_of_lt lb)
    · rw [List.mem_singleton, ps] at q
      exact absurd q (Nat.ne_of_lt (Nat.lt_succ_of_lt lb))
set_option maxHeartbeats 3200000 in
theorem set_list {l : Addr} {its : Array Value} (ns : List Int) {Q : Value → Shared → Prop} (hh : A.handled = none) (hl : s.heap.IsList l its) (hi : IntsAre its.toList ns) (hb : ns.length + 1 < scanBound)
    (h : ∀ g tk c, SetR w g s.heap.objs.size (fun j => decide (j ∈ ns)) c → c ≤ ns.length → (∀ b o, s.heap.get? b = some o → g.get? b = some o) → Q (.ref s.heap.objs.size) { s with heap := g, toks := tk }) :
    wpAny (model P w) A (call (.type "set") [.ref l]) Q E s := by
  obtain ⟨c0, tl, hmro⟩ := F.called_set.mro
  have m1 := F.called_set.made
  have m2 := F.called_set.sub
  have m3 := F.called_set.notType
  have m4 := F.called_set.canCreate
  have m5 := F.typeCall_set_1 (.ref l)
  have m6 := F.called_set.init.lookup
  have m7 := F.called_set.init.bind (.ref s.heap.objs.size)
  refine wpAny_call (codeAny_of_tree ?_)
  show wpAny _ _ (callAny (.type "set") _) _ _ _
  refine wpAny_pure ⟨Code.quiet_builtin _ (by decide +kernel), codeAny_builtin F.entry_type_call ?_⟩
  rw [Around.under_plain (weight_type_call_type "set" [.ref l] []) rfl]
  repeat (any_goals (first | assumption | wp_step))
  refine codeAny_mono (code_set_led1 (.ref l) (E := E) (Q₁ := fun v z => v = .ref s.heap.objs.size ∧ z = { s with heap := s.heap.push (e0 w) }) ⟨rfl, rfl⟩) fun r z hr => ?_
  rcases r with x | f
  · exact hr
  · cases f with
    | ret v =>
      obtain ⟨rfl, rfl⟩ := hr
      have T0 : Shared.TypeIs { s with heap := s.heap.push (e0 w) } (.ref s.heap.objs.size) "set" := ⟨_, Heap.get?_push_size _ rfl, rfl⟩
      repeat (any_goals (first | assumption | wp_step))
      refine codeAny_mono (set_init_list (E := E) ns (Q := fun v z => v = .none ∧ ∃ g tk c, z = { s with heap := g, toks := tk } ∧ SetR w g s.heap.objs.size (fun j => decide (j ∈ ns)) c ∧ c ≤ ns.length ∧ ∀ b o, s.heap.get? b = some o → g.get? b = some o) hh hl hi hb fun g tk c a1 a2 a3 => ⟨rfl, g, tk, c, rfl, a1, a2, a3⟩) fun r2 z2 hr2 => ?_
      rcases r2 with x | f2
      · exact hr2
      · cases f2 with
        | ret v2 =>
          obtain ⟨rfl, g, tk, c, rfl, a1, a2, a3⟩ := hr2
          repeat (any_goals (first | assumption | wp_step))
          exact h g tk c a1 a2 a3
        | _ => exact hr2.elim
    | _ => exact hr.elim
end
def rSetLI (w : World) (K : PySem.W.Frag) : List V → Hp → VK → Prop := fun xs H Q => ∃ (l : Addr) (ns : List Int), xs = [.ref l] ∧ SqL K H l (ns.map V.int) ∧ ns.length ≤ 1000 ∧
  ∀ (p : Addr) (c : Nat), H p = none → c ≤ ns.length → Q (.ref p) (upd H p (SetO w p (fun j => decide (j ∈ ns)) c))
theorem cr_setLI {X : Cx} (hc : X.calm = true) : CallR X (.type "set") (rSetLI X.w X.K) := by
  intro pins s σ H xs us Q I r h
  obtain ⟨l, ns, rfl, hq, hl, fin⟩ := h
  obtain ⟨its, rv, pl, _⟩ := I.list hq
  rw [Vals.ref1 r]
  refine set_list (P := X.prog) (w := X.w) ns (I.ok.hd hc) pl.isList (by simpa using intsAre_of rv) (by unfold scanBound; omega) fun g tk c hS cn hk => ?_
  exact ⟨.ref s.heap.objs.size, _, I.laid hk (Nat.le_refl _) (setO_new hS), rfl, fin _ c (I.hok.fresh (Nat.le_refl _)) cn⟩
end Gd
/-! Values without addresses: data that stand, lists of one's own, the source of draws. -/
namespace Pu
open PySem PySem.Spec PyProof.Rows L2 Gd
/-- a value with all that it holds -/
inductive D where
  | non | bl (b : Bool) | int (i : Int) | str (x : Str) | tup (l : List D) | lst (l : List D) | ins (c : Addr) (fs : List (Str × D)) | adr (a : Addr) | scr (l : List D) | ty (n : String) | dk (kvs : List (Key × D))
mutual
inductive Re (K : PySem.W.Frag) (F : Hp) : D → V → Prop
  | non : Re K F .non .non
  | bl (b : Bool) : Re K F (.bl b) (.bl b)
  | int (i : Int) : Re K F (.int i) (.int i)
  | str (x : Str) : Re K F (.str x) (.str x)
  | tup {a : Addr} {vs : List V} {ds : List D} (h : SqT K F a vs) (r : ReA K F ds vs) : Re K F (.tup ds) (.ref a)
  | lst {a : Addr} {vs : List V} {ds : List D} (h : F a = some (.lst vs)) (r : ReA K F ds vs) : Re K F (.lst ds) (.ref a)
  | scr {a : Addr} {vs : List V} {ds : List D} (h : SqL K F a vs) (r : ReA K F ds vs) : Re K F (.scr ds) (.ref a)
  | ty (n : String) : Re K F (.ty n) (.ty n)
  | dk {a : Addr} {vs : List (Key × V)} {ds : List (Key × D)} (h : F a = some (.dK vs)) (r : ReK K F ds vs) : Re K F (.dk ds) (.ref a)
  | ins {p C dx : Addr} {fs : List (Str × V)} {ds : List (Str × D)} (h : F p = some (.ins C dx fs)) (r : ReF K F ds fs) : Re K F (.ins C ds) (.ref p)
  | adr (a : Addr) : Re K F (.adr a) (.ref a)
inductive ReA (K : PySem.W.Frag) (F : Hp) : List D → List V → Prop
  | nil : ReA K F [] []
  | cons {d : D} {v : V} {ds : List D} {vs : List V} (h : Re K F d v) (t : ReA K F ds vs) : ReA K F (d :: ds) (v :: vs)
inductive ReF (K : PySem.W.Frag) (F : Hp) : List (Str × D) → List (Str × V) → Prop
  | nil : ReF K F [] []
  | cons {n : Str} {d : D} {v : V} {ds : List (Str × D)} {vs : List (Str × V)} (h : Re K F d v) (t : ReF K F ds vs) : ReF K F ((n, d) :: ds) ((n, v) :: vs)
inductive ReK (K : PySem.W.Frag) (F : Hp) : List (Key × D) → List (Key × V) → Prop
  | nil : ReK K F [] []
  | cons {n : Key} {d : D} {v : V} {ds : List (Key × D)} {vs : List (Key × V)} (h : Re K F d v) (t : ReK K F ds vs) : ReK K F ((n, d) :: ds) ((n, v) :: vs)
end
section
variable {K : PySem.W.Frag} {F G H : Hp}
mutual
theorem re_same (e : Same F G) : ∀ (d : D) (v : V), Re K F d v → Re K G d v
  | .non, _, h => by cases h; exact .non
  | .bl b, _, h => by cases h; exact .bl b
  | .int i, _, h => by cases h; exact .int i
  | .str x, _, h => by cases h; exact .str x
  | .adr x, _, h => by cases h; exact .adr x
  | .tup ds, _, h => by
    cases h with
    | tup hs ha => exact .tup (same_seqT e hs) (reA_same e ds _ ha)
  | .lst ds, _, h => by
    cases h with
    | lst hs ha => exact .lst (e _ _ hs) (reA_same e ds _ ha)
  | .scr ds, _, h => by
    cases h with
    | scr hs ha => exact .scr (e.seq hs) (reA_same e ds _ ha)
  | .ty n, _, h => by cases h; exact .ty n
  | .dk ds, _, h => by
    cases h with
    | dk hs ha => exact .dk (e _ _ hs) (reK_same e ds _ ha)
  | .ins c ds, _, h => by
    cases h with
    | ins hs ha => exact .ins (e _ _ hs) (reF_same e ds _ ha)
theorem reA_same (e : Same F G) : ∀ (d : List D) (v : List V), ReA K F d v → ReA K G d v
  | [], _, h => by cases h; exact .nil
  | d :: ds, _, h => by
    cases h with
    | cons h t => exact .cons (re_same e d _ h) (reA_same e ds _ t)
theorem reF_same (e : Same F G) : ∀ (d : List (Str × D)) (v : List (Str × V)), ReF K F d v → ReF K G d v
  | [], _, h => by cases h; exact .nil
  | (n, d) :: ds, _, h => by
    cases h with
    | cons h t => exact .cons (re_same e d _ h) (reF_same e ds _ t)
theorem reK_same (e : Same F G) : ∀ (d : List (Key × D)) (v : List (Key × V)), ReK K F d v → ReK K G d v
  | [], _, h => by cases h; exact .nil
  | (n, d) :: ds, _, h => by
    cases h with
    | cons h t => exact .cons (re_same e d _ h) (reK_same e ds _ t)
end
theorem Re.same {d : D} {v : V} (h : Re K F d v) (e : Same F G) : Re K G d v := re_same e d v h
theorem ReA.same {d : List D} {v : List V} (h : ReA K F d v) (e : Same F G) : ReA K G d v := reA_same e d v h
theorem ReA.len : ∀ {ds : List D} {vs : List V}, ReA K F ds vs → ds.length = vs.length
  | _, _, .nil => rfl
  | _, _, .cons _ t => by rw [List.length_cons, List.length_cons, ReA.len t]
theorem ReA.get : ∀ {ds : List D} {vs : List V} {i : Nat} {d : D}, ReA K F ds vs → ds[i]? = some d → ∃ v, vs[i]? = some v ∧ Re K F d v
  | _, _, _, _, .nil, e => by simp at e
  | _, _, 0, _, .cons h _, e => by simp at e; subst e; exact ⟨_, rfl, h⟩
  | _, _, i + 1, d, .cons _ t, e => by
    obtain ⟨v, h1, h2⟩ := ReA.get (i := i) (d := d) t (by simpa using e)
    exact ⟨v, by simpa using h1, h2⟩
theorem ReA.got : ∀ {ds : List D} {vs : List V} {i : Nat} {v : V}, ReA K F ds vs → vs[i]? = some v → ∃ d, ds[i]? = some d ∧ Re K F d v
  | _, _, _, _, .nil, e => by simp at e
  | _, _, 0, _, .cons h _, e => by simp at e; subst e; exact ⟨_, rfl, h⟩
  | _, _, i + 1, d, .cons _ t, e => by
    obtain ⟨v, h1, h2⟩ := ReA.got (i := i) t (by simpa using e)
    exact ⟨v, by simpa using h1, h2⟩
theorem ReA.app : ∀ {ds es : List D} {vs us : List V}, ReA K F ds vs → ReA K F es us → ReA K F (ds ++ es) (vs ++ us)
  | _, _, _, _, .nil, h => h
  | _, _, _, _, .cons a t, h => .cons a (ReA.app t h)
theorem ReA.take : ∀ {ds : List D} {vs : List V} (n : Nat), ReA K F ds vs → ReA K F (ds.take n) (vs.take n)
  | _, _, 0, _ => .nil
  | _, _, n + 1, .nil => .nil
  | _, _, n + 1, .cons a t => .cons a (ReA.take n t)
theorem ReA.drop : ∀ {ds : List D} {vs : List V} (n : Nat), ReA K F ds vs → ReA K F (ds.drop n) (vs.drop n)
  | _, _, 0, h => h
  | _, _, n + 1, .nil => .nil
  | _, _, n + 1, .cons a t => ReA.drop n t
theorem ReA.rev : ∀ {ds : List D} {vs : List V}, ReA K F ds vs → ReA K F ds.reverse vs.reverse
  | _, _, .nil => .nil
  | _, _, .cons a t => by
    rw [List.reverse_cons, List.reverse_cons]
    exact ReA.app (ReA.rev t) (.cons a .nil)
theorem ReA.set : ∀ {ds : List D} {vs : List V} (i : Nat) {d : D} {v : V}, ReA K F ds vs → Re K F d v → ReA K F (ds.set i d) (vs.set i v)
  | _, _, _, _, _, .nil, _ => .nil
  | _, _, 0, _, _, .cons _ t, h => .cons h t
  | _, _, i + 1, _, _, .cons a t, h => .cons a (ReA.set i t h)
theorem ReA.ints : ∀ {ns : List Int} {vs : List V}, ReA K F (ns.map .int) vs → vs = ns.map V.int
  | [], _, h => by cases h; rfl
  | n :: ns, _, h => by
    cases h with
    | cons a t => cases a; rw [ReA.ints t]; rfl
theorem ReA.ofInts : ∀ (ns : List Int), ReA K F (ns.map .int) (ns.map V.int)
  | [] => .nil
  | n :: ns => .cons (.int n) (ReA.ofInts ns)
theorem ReA.strs : ∀ {ns : List Str} {vs : List V}, ReA K F (ns.map .str) vs → vs = ns.map V.str
  | [], _, h => by cases h; rfl
  | n :: ns, _, h => by
    cases h with
    | cons a t => cases a; rw [ReA.strs t]; rfl
theorem ReA.ofStrs : ∀ (ns : List Str), ReA K F (ns.map .str) (ns.map V.str)
  | [] => .nil
  | n :: ns => .cons (.str n) (ReA.ofStrs ns)
theorem ReF.get : ∀ {ds : List (Str × D)} {vs : List (Str × V)} {n : Str} {d : D}, ReF K F ds vs → ds.lookup n = some d → ∃ v, vs.lookup n = some v ∧ Re K F d v
  | _, _, _, _, .nil, e => nomatch e
  | _, _, n, d, .cons (n := m) h t, e => by
    rw [List.lookup_cons] at e ⊢
    cases q : (n == m) with
    | true =>
      rw [q] at e
      cases e
      exact ⟨_, rfl, h⟩
    | false =>
      rw [q] at e
      exact ReF.get t e
end
/-- what a slot holds -/
inductive Ent where
  | no | v (d : D) | l (a : Addr) (ds : List D) | src (h l : Addr) (L : List Int) (st : Int)
def foot : Ent → List Addr
  | .l a _ => [a]
  | .src h l _ _ => [h, l]
  | _ => []
def foots (Γ : List Ent) : List Addr := Γ.flatMap foot
def EntOk (K : PySem.W.Frag) (F H : Hp) (o : Option V) : Ent → Prop
  | .no => True
  | .v d => ∃ v, o = some v ∧ Re K F d v
  | .l a ds => o = some (.ref a) ∧ F a = none ∧ ∃ vs, H a = some (.lst vs) ∧ ReA K F ds vs
  | .src h l L st => o = some (.ref h) ∧ F h = none ∧ F l = none ∧ Hv H h l L st
structure Ok (K : PySem.W.Frag) (F H : Hp) (σ : L2.St) (Γ : List Ent) : Prop where
  same : Same F H
  ents : Paired (EntOk K F H) σ Γ
  nod : (foots Γ).Nodup
structure Step (F H : Hp) (W : List Addr) (F' H' : Hp) (W' : List Addr) : Prop where
  sf : Same F F'
  kh : ∀ b o, b ∉ W → H b = some o → H' b = some o
  ne : ∀ b, H b ≠ none → H' b ≠ none
  fr : ∀ b, b ∉ W → H b ≠ none → F b = none → F' b = none
  ow : ∀ b ∈ W', b ∈ W ∨ H b = none
section
variable {K : PySem.W.Frag} {F G H F' H' F2 H2 : Hp} {σ : L2.St} {Γ : List Ent} {W W' W2 : List Addr}
theorem Step.refl (F H : Hp) (W : List Addr) : Step F H W F H W := ⟨.refl _, fun _ _ _ e => e, fun _ h => h, fun _ _ _ e => e, fun _ h => .inl h⟩
theorem Step.trans (a : Step F H W F' H' W') (b : Step F' H' W' F2 H2 W2) : Step F H W F2 H2 W2 := by
  have out : ∀ c, c ∉ W → H c ≠ none → c ∉ W' := fun c h1 h2 h3 => (a.ow c h3).elim h1 h2
  refine ⟨a.sf.trans b.sf, fun c o h e => b.kh c o (out c h (by rw [e]; exact nofun)) (a.kh c o h e), fun c h => b.ne c (a.ne c h), fun c h1 h2 h3 => b.fr c (out c h1 h2) (a.ne c h2) (a.fr c h1 h2 h3), fun c h => ?_⟩
  rcases b.ow c h with h | h
  · exact a.ow c h
  · refine .inr ?_
    by_cases e : H c = none
    · exact e
    · exact absurd h (a.ne c e)
theorem Step.new {p : Addr} {o : HO} (s : Same F H) (n : H p = none) : Step F H W (upd F p o) (upd H p o) W := by
  refine ⟨same_new (s.free n), fun b x _ e => (upd_ne (ne_of_none e n)).trans e, fun b h => ?_, fun b _ h1 h2 => ?_, fun _ h => .inl h⟩
  · by_cases e : b = p
    · rw [e, upd_same]; exact nofun
    · rw [upd_ne e]; exact h
  · rw [upd_ne (fun e => h1 (by rw [e]; exact n))]
    exact h2
/-- a new object that does not stand yet -/
theorem Step.own {p : Addr} {o : HO} (n : H p = none) : Step F H W F (upd H p o) W := by
  refine ⟨.refl _, fun b x _ e => (upd_ne (ne_of_none e n)).trans e, fun b h => ?_, fun b _ h1 h2 => h2, fun _ h => .inl h⟩
  by_cases e : b = p
  · rw [e, upd_same]; exact nofun
  · rw [upd_ne e]; exact h
theorem Step.wide (a : Step F H W F' H' W') (h : ∀ b ∈ W, b ∈ W2) : Step F H W2 F' H' W2 :=
  ⟨a.sf, fun b o n e => a.kh b o (fun z => n (h b z)) e, a.ne, fun b n => a.fr b fun z => n (h b z), fun b z => .inl z⟩
theorem EntOk.mono {o : Option V} {e : Ent} (h : EntOk K F H o e) (s : Same F F') (k : ∀ b ∈ foot e, F' b = none ∧ ∀ x, H b = some x → H' b = some x) : EntOk K F' H' o e := by
  cases e with
  | no => trivial
  | v d =>
    obtain ⟨v, e, r⟩ := h
    exact ⟨v, e, r.same s⟩
  | l a ds =>
    obtain ⟨e, f, vs, e2, r⟩ := h
    obtain ⟨k1, k2⟩ := k a List.mem_cons_self
    exact ⟨e, k1, vs, k2 _ e2, r.same s⟩
  | src a b L st =>
    obtain ⟨e, f, g, hv⟩ := h
    obtain ⟨k1, k2⟩ := k a List.mem_cons_self
    obtain ⟨k3, k4⟩ := k b (List.mem_cons_of_mem _ List.mem_cons_self)
    exact ⟨e, k1, k3, k2 _ hv.top, k4 _ hv.bot, hv.ne, hv.lo, hv.hi, hv.len⟩
theorem EntOk.has {o : Option V} {e : Ent} (h : EntOk K F H o e) : ∀ b ∈ foot e, F b = none ∧ H b ≠ none := by
  cases e with
  | no => exact nofun
  | v d => exact nofun
  | l a ds =>
    obtain ⟨e, f, vs, e2, r⟩ := h
    intro b m
    cases List.mem_singleton.mp m
    exact ⟨f, by rw [e2]; exact nofun⟩
  | src a b L st =>
    obtain ⟨e, f, g, hv⟩ := h
    intro c m
    rcases List.mem_cons.mp m with rfl | m
    · exact ⟨f, by rw [hv.top]; exact nofun⟩
    · cases List.mem_singleton.mp m
      exact ⟨g, by rw [hv.bot]; exact nofun⟩
theorem paired_mem {α β : Type} {R S : α → β → Prop} : ∀ {xs : List α} {ys : List β}, Paired R xs ys → (∀ x y, y ∈ ys → R x y → S x y) → Paired S xs ys
  | _, _, .nil, _ => .nil
  | _, _, .cons a t, h => .cons (h _ _ List.mem_cons_self a) (paired_mem t fun x y m => h x y (List.mem_cons_of_mem _ m))
theorem mem_foots {e : Ent} {b : Addr} (h : e ∈ Γ) (m : b ∈ foot e) : b ∈ foots Γ := List.mem_flatMap.mpr ⟨e, h, m⟩
theorem Ok.has (k : Ok K F H σ Γ) {b : Addr} (m : b ∈ foots Γ) : F b = none ∧ H b ≠ none := by
  obtain ⟨e, he, hb⟩ := List.mem_flatMap.mp m
  obtain ⟨n, hn⟩ := List.getElem?_of_mem he
  have : ∀ {xs : L2.St} {ys : List Ent} {i : Nat}, Paired (EntOk K F H) xs ys → ys[i]? = some e → ∃ o, xs[i]? = some o ∧ EntOk K F H o e := by
    intro xs ys i p
    induction p generalizing i with
    | nil => intro z; simp at z
    | cons a t ih =>
      intro z
      cases i with
      | zero => simp at z; subst z; exact ⟨_, rfl, a⟩
      | succ i => simpa using ih (i := i) (by simpa using z)
  obtain ⟨o, _, h⟩ := this k.ents hn
  exact h.has b hb
theorem Ok.get (k : Ok K F H σ Γ) {i : Nat} {e : Ent} (h : Γ[i]? = some e) : ∃ o, σ[i]? = some o ∧ EntOk K F H o e := by
  have : ∀ {xs : L2.St} {ys : List Ent} {i : Nat}, Paired (EntOk K F H) xs ys → ys[i]? = some e → ∃ o, xs[i]? = some o ∧ EntOk K F H o e := by
    intro xs ys i p
    induction p generalizing i with
    | nil => intro z; simp at z
    | cons a t ih =>
      intro z
      cases i with
      | zero => simp at z; subst z; exact ⟨_, rfl, a⟩
      | succ i => simpa using ih (i := i) (by simpa using z)
  exact this k.ents h
/-- what a step leaves of the slots -/
theorem Ok.keep (k : Ok K F H σ Γ) (s : Same F F') (s2 : Same F' H') (h : ∀ b ∈ foots Γ, F' b = none ∧ ∀ x, H b = some x → H' b = some x) : Ok K F' H' σ Γ :=
  ⟨s2, paired_mem k.ents fun o e m z => z.mono s fun b hb => h b (mem_foots m hb), k.nod⟩
theorem Ok.new (k : Ok K F H σ Γ) {p : Addr} {o : HO} (n : H p = none) : Ok K (upd F p o) (upd H p o) σ Γ := by
  have nf := k.same.free n
  refine k.keep (same_new nf) (fun b x e => ?_) fun b m => ?_
  · by_cases h : b = p
    · subst h; rw [upd_same] at e ⊢; exact e
    · rw [upd_ne h] at e ⊢; exact k.same _ _ e
  · obtain ⟨h1, h2⟩ := k.has m
    have ne : b ≠ p := fun e => h2 (by rw [e]; exact n)
    exact ⟨(upd_ne ne).trans h1, fun x e => (upd_ne ne).trans e⟩
theorem Ok.own (k : Ok K F H σ Γ) {p : Addr} {o : HO} (n : H p = none) : Ok K F (upd H p o) σ Γ := by
  refine k.keep (.refl _) (fun b x e => (upd_ne (ne_of_none (k.same _ _ e) n)).trans (k.same _ _ e)) fun b m => ?_
  obtain ⟨h1, h2⟩ := k.has m
  have ne : b ≠ p := fun e => h2 (by rw [e]; exact n)
  exact ⟨h1, fun x e => (upd_ne ne).trans e⟩
/-- behind a call that touches none of the slots' own -/
theorem Ok.call (k : Ok K F H σ Γ) (s : Step F H [] F' H' []) (s2 : Same F' H') : Ok K F' H' σ Γ :=
  k.keep s.sf s2 fun b m => ⟨s.fr b (fun z => nomatch z) (k.has m).2 (k.has m).1, fun x e => s.kh b x (fun z => nomatch z) e⟩
theorem foots_cons (e : Ent) (Γ : List Ent) : foots (e :: Γ) = foot e ++ foots Γ := List.flatMap_cons ..
theorem foots_set_mem {e : Ent} {b : Addr} : ∀ {Γ : List Ent} {i : Nat}, b ∈ foots (Γ.set i e) → b ∈ foot e ∨ b ∈ foots Γ
  | [], _, h => .inr h
  | x :: Γ, 0, h => by
    rw [List.set_cons_zero, foots_cons, List.mem_append] at h
    rw [foots_cons, List.mem_append]
    exact h.imp id .inr
  | x :: Γ, i + 1, h => by
    rw [List.set_cons_succ, foots_cons, List.mem_append] at h
    rw [foots_cons, List.mem_append]
    rcases h with h | h
    · exact .inr (.inl h)
    · exact (foots_set_mem h).imp id .inr
theorem nod_set {e : Ent} (h1 : (foot e).Nodup) : ∀ {Γ : List Ent} {i : Nat}, (foots Γ).Nodup → (∀ b ∈ foot e, b ∉ foots Γ) → (foots (Γ.set i e)).Nodup
  | [], _, h, _ => h
  | x :: Γ, 0, h, n => by
    rw [List.set_cons_zero, foots_cons]
    rw [foots_cons] at h n
    refine List.nodup_append.mpr ⟨h1, (List.nodup_append.mp h).2.1, fun a ha b hb e => ?_⟩
    subst e
    exact n a ha (List.mem_append_right _ hb)
  | x :: Γ, i + 1, h, n => by
    rw [List.set_cons_succ, foots_cons]
    rw [foots_cons] at h n
    obtain ⟨p, q, r⟩ := List.nodup_append.mp h
    refine List.nodup_append.mpr ⟨p, nod_set h1 q fun b hb z => n b hb (List.mem_append_right _ z), fun a ha b hb e => ?_⟩
    subst e
    rcases foots_set_mem hb with z | z
    · exact n a z (List.mem_append_left _ ha)
    · exact r a ha a z rfl
theorem foots_same {e x : Ent} (hf : foot e = foot x) : ∀ {Γ : List Ent} {i : Nat}, Γ[i]? = some x → foots (Γ.set i e) = foots Γ
  | [], _, h => by simp at h
  | y :: Γ, 0, h => by
    simp at h
    subst h
    rw [List.set_cons_zero, foots_cons, foots_cons, hf]
  | y :: Γ, i + 1, h => by
    rw [List.set_cons_succ, foots_cons, foots_cons, foots_same hf (by simpa using h)]
theorem paired_set {α β : Type} {R : α → β → Prop} : ∀ {xs : List α} {ys : List β} (i : Nat) {x : α} {y : β}, Paired R xs ys → R x y → Paired R (xs.set i x) (ys.set i y)
  | _, _, _, _, _, .nil, _ => .nil
  | _, _, 0, _, _, .cons _ t, h => .cons h t
  | _, _, i + 1, _, _, .cons a t, h => .cons a (paired_set i t h)
theorem Ok.set (k : Ok K F H σ Γ) {i : Nat} {o : Option V} {e : Ent} (h : EntOk K F H o e) (hn : (foot e).Nodup) (n : ∀ b ∈ foot e, b ∉ foots Γ) : Ok K F H (σ.set i o) (Γ.set i e) :=
  ⟨k.same, paired_set i k.ents h, nod_set hn k.nod n⟩
theorem Ok.setV (k : Ok K F H σ Γ) {i : Nat} {v : V} {d : D} (h : Re K F d v) : Ok K F H (σ.set i (some v)) (Γ.set i (.v d)) :=
  k.set ⟨v, rfl, h⟩ List.nodup_nil nofun
/-- the thing at slot i told anew, with the same objects; all others keep away from these -/
theorem Ok.put (k : Ok K F H σ Γ) {i : Nat} {x e : Ent} (hi : Γ[i]? = some x) (hf : foot e = foot x) (s : Same F F') (s2 : Same F' H') (h : ∀ o, σ[i]? = some o → EntOk K F' H' o e)
    (kp : ∀ b, b ∉ foot x → F b = none → H b ≠ none → F' b = none ∧ ∀ y, H b = some y → H' b = some y) : Ok K F' H' σ (Γ.set i e) := by
  refine ⟨s2, ?_, by rw [foots_same hf hi]; exact k.nod⟩
  have key : ∀ {σ : L2.St} {Γ : List Ent} {i : Nat}, Paired (EntOk K F H) σ Γ → (foots Γ).Nodup → Γ[i]? = some x → (∀ o, σ[i]? = some o → EntOk K F' H' o e) → Paired (EntOk K F' H') σ (Γ.set i e) := by
    intro σ Γ i p
    induction p generalizing i with
    | nil => intro _ z _; simp at z
    | cons a t ih =>
      rename_i o y os ys
      intro nd z g
      rw [foots_cons] at nd
      obtain ⟨n1, n2, n3⟩ := List.nodup_append.mp nd
      cases i with
      | zero =>
        simp at z
        subst z
        refine .cons (g _ rfl) (paired_mem t fun o2 y2 m r => r.mono s fun b hb => ?_)
        have hb2 : b ∈ foots ys := mem_foots m hb
        exact kp b (fun z => n3 b z b hb2 rfl) (r.has b hb).1 (r.has b hb).2
      | succ i =>
        have z' : ys[i]? = some x := by simpa using z
        refine .cons (a.mono s fun b hb => ?_) (ih n2 z' fun o2 h2 => g o2 (by simpa using h2))
        exact kp b (fun z2 => n3 b hb b (mem_foots (List.mem_of_getElem? z') z2) rfl) (a.has b hb).1 (a.has b hb).2
  exact key k.ents k.nod hi h
/-- a list of one's own told anew -/
theorem Ok.putL (k : Ok K F H σ Γ) {i : Nat} {a : Addr} {ds ds' : List D} {vs : List V} (hi : Γ[i]? = some (.l a ds)) (r : ReA K F ds' vs) : Ok K F (upd H a (.lst vs)) σ (Γ.set i (.l a ds')) ∧ Step F H (foots Γ) F (upd H a (.lst vs)) (foots (Γ.set i (.l a ds'))) := by
  obtain ⟨o, ho, e, fa, us, ha, _⟩ := k.get hi
  have ma : a ∈ foots Γ := mem_foots (List.mem_of_getElem? hi) List.mem_cons_self
  constructor
  · refine k.put hi rfl (.refl _) (fun b x z => ?_) (fun o2 h2 => ?_) fun b n _ _ => ?_
    · exact (upd_ne fun q => by rw [q, fa] at z; cases z).trans (k.same _ _ z)
    · rw [ho] at h2
      cases h2
      exact ⟨e, fa, vs, upd_same, r⟩
    · have ne : b ≠ a := fun q => n (by rw [q]; exact List.mem_cons_self)
      exact ⟨by assumption, fun y z => (upd_ne ne).trans z⟩
  · rw [foots_same (e := .l a ds') (x := .l a ds) rfl hi]
    refine ⟨.refl _, fun b x n z => (upd_ne fun q => n (by rw [q]; exact ma)).trans z, fun b h => ?_, fun _ _ _ e => e, fun _ h => .inl h⟩
    by_cases q : b = a
    · rw [q, upd_same]; exact nofun
    · rw [upd_ne q]; exact h
end
/-! ### sequences -/
inductive Sq (Γ : List Ent) : D → List D → Prop
  | tup (ds : List D) : Sq Γ (.tup ds) ds
  | lst (ds : List D) : Sq Γ (.lst ds) ds
  | scr (ds : List D) : Sq Γ (.scr ds) ds
  | own {i : Nat} {a : Addr} {ds : List D} (h : Γ[i]? = some (.l a ds)) : Sq Γ (.adr a) ds
theorem same_sqL {K : PySem.W.Frag} {H H' : Hp} {a : Addr} {xs : List V} (e : Same H H') (h : SqL K H a xs) : SqL K H' a xs := e.seq h
theorem Sq.real {K : PySem.W.Frag} {F H : Hp} {σ : L2.St} {Γ : List Ent} {d : D} {ds : List D} {v : V} (h : Sq Γ d ds) (k : Ok K F H σ Γ) (r : Re K F d v) : ∃ a vs, v = .ref a ∧ (SqL K H a vs ∨ SqT K H a vs) ∧ ReA K F ds vs := by
  cases h with
  | tup => cases r with | tup h r => exact ⟨_, _, rfl, .inr (same_seqT k.same h), r⟩
  | lst => cases r with | lst h r => exact ⟨_, _, rfl, .inl (sqL (k.same _ _ h)), r⟩
  | scr => cases r with | scr h r => exact ⟨_, _, rfl, .inl (k.same.seq h), r⟩
  | own hi =>
    cases r
    obtain ⟨o, _, e, fa, us, ha, r⟩ := k.get hi
    exact ⟨_, _, rfl, .inl (sqL ha), r⟩
end Pu
/-! Judgements on values without addresses: expressions, tests, arguments. -/
namespace Pu
open PySem PySem.Spec PyProof.Rows L2 Gd
def sE (X : Cx) (e : Expr) : TE := fun σ H Q => ∀ pins s, Inv X pins σ H s → wpAny (model X.prog X.w) X.A (eval e X.env) (EP X pins σ Q) X.xe s
theorem pe_s {X : Cx} {e : Expr} : PE X e (sE X e) := ⟨fun pins s σ H Q I h => h pins s I⟩
theorem sE_of {X : Cx} {e : Expr} {t : TE} (p : PE X e t) {σ : L2.St} {H : Hp} {Q : VK} (h : t σ H Q) : sE X e σ H Q := fun pins s I => p.run pins s σ H Q I h
def sT (X : Cx) (e : Expr) : TT := fun σ H Q => ∀ pins s, Inv X pins σ H s → wpAny (model X.prog X.w) X.A (isTrue e X.env (eval e X.env)) (TP X pins σ Q) X.xe s
theorem pt_s {X : Cx} {e : Expr} : PT X e (sT X e) := ⟨fun pins s σ H Q I h => h pins s I⟩
theorem sT_of {X : Cx} {e : Expr} {t : TT} (p : PT X e t) {σ : L2.St} {H : Hp} {Q : Bool → Hp → Prop} (h : t σ H Q) : sT X e σ H Q := fun pins s I => p.run pins s σ H Q I h
def sW (X : Cx) (e : Expr) : TT := fun σ H Q => ∀ (whole : Sem Value) pins s, Inv X pins σ H s → wpAny (model X.prog X.w) X.A (isTrue e X.env whole) (TP X pins σ Q) X.xe s
theorem pw_s {X : Cx} {e : Expr} : PW X e (sW X e) := ⟨fun wh pins s σ H Q I h => h wh pins s I⟩
theorem sW_of {X : Cx} {e : Expr} {t : TT} (p : PW X e t) {σ : L2.St} {H : Hp} {Q : Bool → Hp → Prop} (h : t σ H Q) : sW X e σ H Q := fun wh pins s I => p.run wh pins s σ H Q I h
def sA (X : Cx) (es : List Expr) : TA := fun σ H Q => ∀ (pos : Pos) pins s, Inv X pins σ H s → wpAny (model X.prog X.w) X.A (spliced (backTo pos (starEach es X.env))) (AP X pins σ Q) X.xe s
theorem pa_s {X : Cx} {es : List Expr} : PA X es (sA X es) := ⟨fun pos pins s σ H Q I h => h pos pins s I⟩
theorem sA_of {X : Cx} {es : List Expr} {t : TA} (p : PA X es t) {σ : L2.St} {H : Hp} {Q : List V → Hp → Prop} (h : t σ H Q) : sA X es σ H Q := fun pos pins s I => p.run pos pins s σ H Q I h
/-- what is to follow -/
def Post (K : PySem.W.Frag) (F H : Hp) (σ : L2.St) (Γ : List Ent) (Q : D → List Ent → Prop) (Q' : VK) : Prop :=
  ∀ d Γ' v F' H', Q d Γ' → Step F H (foots Γ) F' H' (foots Γ') → Ok K F' H' σ Γ' → Re K F' d v → Q' v H'
def PostB (K : PySem.W.Frag) (F H : Hp) (σ : L2.St) (Γ : List Ent) (Q : Bool → List Ent → Prop) (Q' : Bool → Hp → Prop) : Prop :=
  ∀ b Γ' F' H', Q b Γ' → Step F H (foots Γ) F' H' (foots Γ') → Ok K F' H' σ Γ' → Q' b H'
def PostA (K : PySem.W.Frag) (F H : Hp) (σ : L2.St) (Γ : List Ent) (Q : List D → List Ent → Prop) (Q' : List V → Hp → Prop) : Prop :=
  ∀ ds Γ' vs F' H', Q ds Γ' → Step F H (foots Γ) F' H' (foots Γ') → Ok K F' H' σ Γ' → ReA K F' ds vs → Q' vs H'
/-- a new list, not yet anyone's -/
def PostN (K : PySem.W.Frag) (F H : Hp) (σ : L2.St) (Γ : List Ent) (Q : List D → List Ent → Prop) (Q' : VK) : Prop :=
  ∀ ds Γ' a vs F' H', Q ds Γ' → Step F H (foots Γ) F' H' (foots Γ') → Ok K F' H' σ Γ' → H a = none → F' a = none → a ∉ foots Γ' → H' a = some (.lst vs) → ReA K F' ds vs → Q' (.ref a) H'
section
variable {K : PySem.W.Frag} {F H F1 H1 : Hp} {σ : L2.St} {Γ Γ1 : List Ent}
theorem Post.step {Q : D → List Ent → Prop} {Q' : VK} (p : Post K F H σ Γ Q Q') (s : Step F H (foots Γ) F1 H1 (foots Γ1)) : Post K F1 H1 σ Γ1 Q Q' := fun d Γ' v F' H' q st => p d Γ' v F' H' q (s.trans st)
theorem PostB.step {Q : Bool → List Ent → Prop} {Q' : Bool → Hp → Prop} (p : PostB K F H σ Γ Q Q') (s : Step F H (foots Γ) F1 H1 (foots Γ1)) : PostB K F1 H1 σ Γ1 Q Q' := fun d Γ' F' H' q st => p d Γ' F' H' q (s.trans st)
theorem PostA.step {Q : List D → List Ent → Prop} {Q' : List V → Hp → Prop} (p : PostA K F H σ Γ Q Q') (s : Step F H (foots Γ) F1 H1 (foots Γ1)) : PostA K F1 H1 σ Γ1 Q Q' := fun d Γ' v F' H' q st => p d Γ' v F' H' q (s.trans st)
theorem PostN.step {Q : List D → List Ent → Prop} {Q' : VK} (p : PostN K F H σ Γ Q Q') (s : Step F H (foots Γ) F1 H1 (foots Γ1)) : PostN K F1 H1 σ Γ1 Q Q' := fun d Γ' a vs F' H' q st ok n => p d Γ' a vs F' H' q (s.trans st) ok (by
  by_cases e : H a = none
  · exact e
  · exact absurd n (s.ne a e))
theorem Post.now {Q : D → List Ent → Prop} {Q' : VK} (p : Post K F H σ Γ Q Q') (k : Ok K F H σ Γ) {d : D} {v : V} (r : Re K F d v) (q : Q d Γ) : Q' v H := p d Γ v F H q (.refl _ _ _) k r
/-- a new object, for good -/
theorem Post.new {Q : D → List Ent → Prop} {Q' : VK} (p : Post K F H σ Γ Q Q') (k : Ok K F H σ Γ) {d : D} {a : Addr} {o : HO} (n : H a = none) (r : Re K (upd F a o) d (.ref a)) (q : Q d Γ) : Q' (.ref a) (upd H a o) :=
  p d Γ _ _ _ q (.new k.same n) (k.new n) r
end
def WE (X : Cx) (e : Expr) (Γ : List Ent) (Q : D → List Ent → Prop) : Prop := ∀ σ F H, Ok X.K F H σ Γ → ∀ Q', Post X.K F H σ Γ Q Q' → sE X e σ H Q'
def WT (X : Cx) (e : Expr) (Γ : List Ent) (Q : Bool → List Ent → Prop) : Prop := ∀ σ F H, Ok X.K F H σ Γ → ∀ Q', PostB X.K F H σ Γ Q Q' → sT X e σ H Q'
def WW (X : Cx) (e : Expr) (Γ : List Ent) (Q : Bool → List Ent → Prop) : Prop := ∀ σ F H, Ok X.K F H σ Γ → ∀ Q', PostB X.K F H σ Γ Q Q' → sW X e σ H Q'
def WA (X : Cx) (es : List Expr) (Γ : List Ent) (Q : List D → List Ent → Prop) : Prop := ∀ σ F H, Ok X.K F H σ Γ → ∀ Q', PostA X.K F H σ Γ Q Q' → sA X es σ H Q'
/-- an expression that makes a new list -/
def WN (X : Cx) (e : Expr) (Γ : List Ent) (Q : List D → List Ent → Prop) : Prop := ∀ σ F H, Ok X.K F H σ Γ → ∀ Q', PostN X.K F H σ Γ Q Q' → sE X e σ H Q'
section
variable {X : Cx} {Γ : List Ent} {Q : D → List Ent → Prop} {QB : Bool → List Ent → Prop} {QA : List D → List Ent → Prop} {a b c e : Expr} {es rest : List Expr} {pos p2 : Pos} {x : Str}
/-- a step of the frozen part alone: a list of one's own that stands from now on -/
theorem we_new (h : WN X e Γ fun ds Γ' => Q (.lst ds) Γ') : WE X e Γ Q := fun σ F H k Q' po => h σ F H k _ fun ds Γ' a vs F' H' q st k' na nf nm ha r => by
  have sf : Same F' (upd F' a (.lst vs)) := same_new nf
  have k2 : Ok X.K (upd F' a (.lst vs)) H' σ Γ' := k'.keep sf (fun b o z => by
    by_cases e : b = a
    · rw [e, upd_same] at z; rw [e]; cases z; exact ha
    · rw [upd_ne e] at z; exact k'.same _ _ z) fun b m => ⟨(upd_ne fun e => nm (by rw [← e]; exact m)).trans (k'.has m).1, fun _ z => z⟩
  refine po _ Γ' _ _ H' q ⟨st.sf.trans sf, st.kh, st.ne, fun b n h1 h2 => ?_, st.ow⟩ k2 (.lst upd_same (r.same sf))
  have ne : b ≠ a := fun e => h1 (by rw [e]; exact na)
  exact (upd_ne ne).trans (st.fr b n h1 h2)
theorem we_var (i : Nat) {d : D} (h : Γ[i]? = some (.v d)) (q : Q d Γ) (hN : X.N[i]? = some x := by rfl) (hv : Vis X.env.scope x := by first | exact Or.inl rfl | exact Or.inr (Or.inl rfl) | exact Or.inr (Or.inr rfl)) (hd : (x == ("__debug__" : Str)) = false := by decide)
    (hcd : (x == ("__classdict__" : Str)) = false := by decide) : WE X (.Name x pos) Γ Q := fun σ F H k Q' po => by
  obtain ⟨o, ho, v, rfl, r⟩ := k.get h
  exact sE_of (pe_var hN hv hd hcd) ⟨v, ho, po.now k r q⟩
theorem we_own (i : Nat) {l : Addr} {ds : List D} (h : Γ[i]? = some (.l l ds)) (q : Q (.adr l) Γ) (hN : X.N[i]? = some x := by rfl) (hv : Vis X.env.scope x := by first | exact Or.inl rfl | exact Or.inr (Or.inl rfl) | exact Or.inr (Or.inr rfl)) (hd : (x == ("__debug__" : Str)) = false := by decide)
    (hcd : (x == ("__classdict__" : Str)) = false := by decide) : WE X (.Name x pos) Γ Q := fun σ F H k Q' po => by
  obtain ⟨o, ho, rfl, _⟩ := k.get h
  exact sE_of (pe_var hN hv hd hcd) ⟨_, ho, po.now k (.adr l) q⟩
theorem we_src (i : Nat) {h l : Addr} {L : List Int} {st : Int} (hi : Γ[i]? = some (.src h l L st)) (q : Q (.adr h) Γ) (hN : X.N[i]? = some x := by rfl) (hv : Vis X.env.scope x := by first | exact Or.inl rfl | exact Or.inr (Or.inl rfl) | exact Or.inr (Or.inr rfl)) (hd : (x == ("__debug__" : Str)) = false := by decide)
    (hcd : (x == ("__classdict__" : Str)) = false := by decide) : WE X (.Name x pos) Γ Q := fun σ F H k Q' po => by
  obtain ⟨o, ho, rfl, _⟩ := k.get hi
  exact sE_of (pe_var hN hv hd hcd) ⟨_, ho, po.now k (.adr h) q⟩
/-- the list of one's own leaves its slot and stands from now on -/
theorem we_mv (i : Nat) {l : Addr} {ds : List D} (h : Γ[i]? = some (.l l ds)) (q : Q (.lst ds) (Γ.set i .no)) (hN : X.N[i]? = some x := by rfl) (hv : Vis X.env.scope x := by first | exact Or.inl rfl | exact Or.inr (Or.inl rfl) | exact Or.inr (Or.inr rfl)) (hd : (x == ("__debug__" : Str)) = false := by decide)
    (hcd : (x == ("__classdict__" : Str)) = false := by decide) : WE X (.Name x pos) Γ Q := fun σ F H k Q' po => by
  obtain ⟨o, ho, rfl, fa, vs, ha, r⟩ := k.get h
  refine sE_of (pe_var hN hv hd hcd) ⟨_, ho, ?_⟩
  have sf : Same F (upd F l (.lst vs)) := same_new fa
  have k1 : Ok X.K F H σ (Γ.set i .no) := by
    have z := k.set (i := i) (o := some (.ref l)) (e := .no) trivial List.nodup_nil nofun
    rwa [show σ.set i (some (V.ref l)) = σ from List.ext_getElem? fun j => by
      by_cases e : i = j
      · subst e
        rw [List.getElem?_set_self (List.getElem?_eq_some_iff.mp ho).1, ho]
      · rw [List.getElem?_set_ne e]] at z
  have nm : l ∉ foots (Γ.set i .no) := by
    have : ∀ {Γ : List Ent} {i : Nat}, (foots Γ).Nodup → Γ[i]? = some (.l l ds) → l ∉ foots (Γ.set i .no) := by
      intro Γ
      induction Γ with
      | nil => intro i _ z; simp at z
      | cons y ys ih =>
        intro i nd z m
        rw [foots_cons] at nd
        obtain ⟨n1, n2, n3⟩ := List.nodup_append.mp nd
        cases i with
        | zero =>
          simp at z
          subst z
          rw [List.set_cons_zero, foots_cons] at m
          exact n3 l List.mem_cons_self l m rfl
        | succ i =>
          have z' : ys[i]? = some (.l l ds) := by simpa using z
          rw [List.set_cons_succ, foots_cons, List.mem_append] at m
          rcases m with m | m
          · exact n3 l m l (mem_foots (List.mem_of_getElem? z') List.mem_cons_self) rfl
          · exact ih n2 z' m
    exact this k.nod h
  have ml : l ∈ foots Γ := mem_foots (List.mem_of_getElem? h) List.mem_cons_self
  have k2 : Ok X.K (upd F l (.lst vs)) H σ (Γ.set i .no) := k1.keep sf (fun b o z => by
    by_cases e : b = l
    · rw [e, upd_same] at z; rw [e]; cases z; exact ha
    · rw [upd_ne e] at z; exact k1.same _ _ z) fun b m => ⟨(upd_ne fun e => nm (by rw [← e]; exact m)).trans (k1.has m).1, fun _ z => z⟩
  refine po _ (Γ.set i .no) _ _ H q ⟨sf, fun b o _ z => z, fun b z => z, fun b n h1 h2 => ?_, fun b m => .inl ?_⟩ k2 (.lst upd_same (r.same sf))
  · exact (upd_ne fun e => n (by rw [e]; exact ml)).trans h2
  · exact (foots_set_mem m).elim nofun id
theorem we_int {i j} (q : Q (.int i) Γ) : WE X (.Constant (.int i) j pos) Γ Q := fun σ F H k Q' po => sE_of pe_int (po.now k (.int i) q)
theorem we_bl {b j} (q : Q (.bl b) Γ) : WE X (.Constant (.bool b) j pos) Γ Q := fun σ F H k Q' po => sE_of pe_bl (po.now k (.bl b) q)
theorem we_non {j} (q : Q .non Γ) : WE X (.Constant .none j pos) Γ Q := fun σ F H k Q' po => sE_of pe_non (po.now k .non q)
theorem we_str {z j} (q : Q (.str z) Γ) : WE X (.Constant (.str z) j pos) Γ Q := fun σ F H k Q' po => sE_of pe_str (po.now k (.str z) q)
/-- a module's constant -/
theorem we_gint {i : Int} {t : Tok} (hm : X.mg x = some (.int i t)) (q : Q (.int i) Γ) (hg : Gl X x := by rfl) (hd : (x == ("__debug__" : Str)) = false := by decide) : WE X (.Name x pos) Γ Q := fun σ F H k Q' po => sE_of (pe_glob (v := .int i) hg hm ⟨_, rfl⟩ hd) (po.now k (.int i) q)
theorem we_gstr {i : Str} {t : Tok} (hm : X.mg x = some (.str i t)) (q : Q (.str i) Γ) (hg : Gl X x := by rfl) (hd : (x == ("__debug__" : Str)) = false := by decide) : WE X (.Name x pos) Γ Q := fun σ F H k Q' po => sE_of (pe_glob (v := .str i) hg hm ⟨_, rfl⟩ hd) (po.now k (.str i) q)
/-! ### arguments, displays -/
theorem WE.mono {Q2 : D → List Ent → Prop} (h : WE X e Γ Q) (m : ∀ d Γ1, Q d Γ1 → Q2 d Γ1) : WE X e Γ Q2 := fun σ F H k Q' po => h σ F H k Q' fun d Γ1 v F1 H1 q => po d Γ1 v F1 H1 (m _ _ q)
theorem wa_nil (q : QA [] Γ) : WA X [] Γ QA := fun σ F H k Q' po => sA_of pa_nil (po [] Γ [] F H q (.refl _ _ _) k .nil)
theorem wa_cons (h : WE X e Γ fun d Γ1 => WA X es Γ1 fun ds Γ2 => QA (d :: ds) Γ2) (hs : starEach (e :: es) X.env = (false, eval e X.env) :: starEach es X.env := by rfl) : WA X (e :: es) Γ QA := fun σ F H k Q' po => by
  refine sA_of (pa_cons pe_s pa_s hs) (h σ F H k _ fun d Γ1 v F1 H1 q1 s1 k1 r1 => ?_)
  exact q1 σ F1 H1 k1 _ fun ds Γ2 vs F2 H2 q2 s2 k2 r2 => po _ Γ2 _ F2 H2 q2 (s1.trans s2) k2 (.cons (r1.same s2.sf) r2)
theorem we_tup {x1} (h : WA X es Γ fun ds Γ1 => ds.length ≤ 1000 ∧ Q (.tup ds) Γ1) : WE X (.Tuple es x1 pos) Γ Q := fun σ F H k Q' po => by
  refine sE_of (pe_tup pa_s) (h σ F H k _ fun ds Γ1 vs F1 H1 q1 s1 k1 r1 => ⟨?_, fun p n => ?_⟩)
  · have := q1.1
    have := small1000 q1.1
    rw [← r1.len]
    omega
  · exact (po.step s1).new k1 n (.tup (sqT upd_same) (r1.same (same_new (k1.same.free n)))) q1.2
/-- () -/
theorem we_tup0 {x1} (q : Q (.tup []) Γ) : WE X (.Tuple [] x1 pos) Γ Q := we_tup (wa_nil ⟨Nat.zero_le _, q⟩)
theorem wn_lst (h : WA X es Γ fun ds Γ1 => ds.length ≤ 1000 ∧ QA ds Γ1) : WN X (.List es pos) Γ QA := fun σ F H k Q' po => by
  refine sE_of (pe_lst pa_s) (h σ F H k _ fun ds Γ1 vs F1 H1 q1 s1 k1 r1 => ⟨?_, fun p n => ?_⟩)
  · have := small1000 q1.1
    rw [← r1.len]
    omega
  · exact (po.step s1) ds Γ1 p vs F1 _ q1.2 (.own n) (k1.own n) n (k1.same.free n) (fun m => (k1.has m).2 n) upd_same r1
/-! ### operators, by what they do to values -/
/-- r serves values of which rp holds -/
def Pu2 (K : PySem.W.Frag) (r : R2) (rp : D → D → List Ent → (D → List Ent → Prop) → Prop) : Prop := ∀ d1 d2 Γ Q, rp d1 d2 Γ Q → ∀ σ F H v1 v2, Ok K F H σ Γ → Re K F d1 v1 → Re K F d2 v2 → ∀ Q', Post K F H σ Γ Q Q' → r v1 v2 H Q'
theorem we_op {op : Operator} {r : R2} {rp} (ho : OpR X (binaryOp op) r) (hp : Pu2 X.K r rp) (h : WE X a Γ fun d1 Γ1 => WE X b Γ1 fun d2 Γ2 => rp d1 d2 Γ2 Q) : WE X (.BinOp a op b pos) Γ Q := fun σ F H k Q' po => by
  refine sE_of (pe_op ho pe_s pe_s) (h σ F H k _ fun d1 Γ1 v1 F1 H1 q1 s1 k1 r1 => ?_)
  exact q1 σ F1 H1 k1 _ fun d2 Γ2 v2 F2 H2 q2 s2 k2 r2 => hp d1 d2 Γ2 Q q2 σ F2 H2 v1 v2 k2 (r1.same s2.sf) r2 Q' (po.step (s1.trans s2))
theorem we_cmp {op : CmpOp} {r : R2} {rp} (ho : OpR X (compareOp op) r) (hp : Pu2 X.K r rp) (h : WE X a Γ fun d1 Γ1 => WE X b Γ1 fun d2 Γ2 => rp d1 d2 Γ2 Q) (hm : behindInMarks op b = false := by first | exact nomark _ | with_unfolding_all rfl) : WE X (.Compare a [op] [b] pos) Γ Q := fun σ F H k Q' po => by
  refine sE_of (pe_cmpR ho pe_s pe_s hm) (h σ F H k _ fun d1 Γ1 v1 F1 H1 q1 s1 k1 r1 => ?_)
  exact q1 σ F1 H1 k1 _ fun d2 Γ2 v2 F2 H2 q2 s2 k2 r2 => hp d1 d2 Γ2 Q q2 σ F2 H2 v1 v2 k2 (r1.same s2.sf) r2 Q' (po.step (s1.trans s2))
theorem wt_cmp {op : CmpOp} {r : R2} {rp} (ho : OpR X (compareOp op) r) (hp : Pu2 X.K r rp) (h : WE X a Γ fun d1 Γ1 => WE X b Γ1 fun d2 Γ2 => rp d1 d2 Γ2 fun d Γ3 => ∃ c, d = .bl c ∧ QB c Γ3) (hm : behindInMarks op b = false := by first | exact nomark _ | with_unfolding_all rfl) : WT X (.Compare a [op] [b] pos) Γ QB := fun σ F H k Q' po => by
  refine sT_of (pt_cmpR ho pe_s pe_s hm) (h σ F H k _ fun d1 Γ1 v1 F1 H1 q1 s1 k1 r1 => ?_)
  refine q1 σ F1 H1 k1 _ fun d2 Γ2 v2 F2 H2 q2 s2 k2 r2 => hp d1 d2 Γ2 _ q2 σ F2 H2 v1 v2 k2 (r1.same s2.sf) r2 _ fun d Γ3 v F3 H3 q3 s3 k3 r3 => ?_
  obtain ⟨c, rfl, q⟩ := q3
  cases r3
  exact ⟨c, rfl, po c Γ3 F3 H3 q ((s1.trans s2).trans s3) k3⟩
theorem we_chain {op op' : CmpOp} {r r' : R2} {rp rp'} (ho : OpR X (compareOp op) r) (ho' : OpR X (compareOp op') r') (hp : Pu2 X.K r rp) (hp' : Pu2 X.K r' rp') (h : WE X a Γ fun d1 Γ1 => WE X b Γ1 fun d2 Γ2 => rp d1 d2 Γ2 fun d Γ3 => ∃ k, d = .bl k ∧ (k = true → WE X c Γ3 fun d3 Γ4 => rp' d2 d3 Γ4 Q) ∧ (k = false → Q (.bl false) Γ3))
    (hm : lastMarks [op, op'] [b, c] = false := by with_unfolding_all rfl) : WE X (.Compare a [op, op'] [b, c] pos) Γ Q := fun σ F H k Q' po => by
  refine sE_of (pe_chain ho ho' pe_s pe_s pe_s hm) (h σ F H k _ fun d1 Γ1 v1 F1 H1 q1 s1 k1 r1 => ?_)
  refine q1 σ F1 H1 k1 _ fun d2 Γ2 v2 F2 H2 q2 s2 k2 r2 => hp d1 d2 Γ2 _ q2 σ F2 H2 v1 v2 k2 (r1.same s2.sf) r2 _ fun d Γ3 v F3 H3 q3 s3 k3 r3 => ?_
  obtain ⟨c', rfl, q4, q5⟩ := q3
  cases r3
  refine ⟨c', rfl, ?_⟩
  have s13 := (s1.trans s2).trans s3
  cases c' with
  | true => exact iteT (q4 rfl σ F3 H3 k3 _ fun d3 Γ4 v3 F4 H4 q6 s4 k4 r4 => hp' d2 d3 Γ4 Q q6 σ F4 H4 v2 v3 k4 (r2.same (s3.trans s4).sf) r4 Q' (po.step (s13.trans s4)))
  | false => exact iteF ((po.step s13).now k3 (.bl false) (q5 rfl))
theorem wt_chain {op op' : CmpOp} {r r' : R2} {rp rp'} (ho : OpR X (compareOp op) r) (ho' : OpR X (compareOp op') r') (hp : Pu2 X.K r rp) (hp' : Pu2 X.K r' rp') (h : WE X a Γ fun d1 Γ1 => WE X b Γ1 fun d2 Γ2 => rp d1 d2 Γ2 fun d Γ3 => ∃ k, d = .bl k ∧ (k = true → WE X c Γ3 fun d3 Γ4 => rp' d2 d3 Γ4 fun d Γ5 => ∃ k, d = .bl k ∧ QB k Γ5) ∧ (k = false → QB false Γ3))
    (hm : lastMarks [op, op'] [b, c] = false := by with_unfolding_all rfl) : WT X (.Compare a [op, op'] [b, c] pos) Γ QB := fun σ F H k Q' po => by
  refine sT_of (pt_chain ho ho' pe_s pe_s pe_s hm) (h σ F H k _ fun d1 Γ1 v1 F1 H1 q1 s1 k1 r1 => ?_)
  refine q1 σ F1 H1 k1 _ fun d2 Γ2 v2 F2 H2 q2 s2 k2 r2 => hp d1 d2 Γ2 _ q2 σ F2 H2 v1 v2 k2 (r1.same s2.sf) r2 _ fun d Γ3 v F3 H3 q3 s3 k3 r3 => ?_
  obtain ⟨c', rfl, q4, q5⟩ := q3
  cases r3
  refine ⟨c', rfl, ?_⟩
  have s13 := (s1.trans s2).trans s3
  cases c' with
  | true =>
    refine iteT (q4 rfl σ F3 H3 k3 _ fun d3 Γ4 v3 F4 H4 q6 s4 k4 r4 => hp' d2 d3 Γ4 _ q6 σ F4 H4 v2 v3 k4 (r2.same (s3.trans s4).sf) r4 _ fun d Γ5 v5 F5 H5 q7 s5 k5 r5 => ?_)
    obtain ⟨c, rfl, q⟩ := q7
    cases r5
    exact ⟨c, rfl, po c Γ5 F5 H5 q ((s13.trans s4).trans s5) k5⟩
  | false => exact iteF ⟨false, rfl, po false Γ3 F3 H3 (q5 rfl) s13 k3⟩
/-- an expression as a test -/
theorem wt_val (h : WE X e Γ fun d Γ1 => ∃ k, d = .bl k ∧ QB k Γ1) (he : ∀ whole, isTrue e X.env whole = (do let v ← whole; standAt e.pos; holding [v] (truthy v)) := by intro _; rfl) : WT X e Γ QB := fun σ F H k Q' po => by
  refine sT_of (pt_val pe_s he) (h σ F H k _ fun d Γ1 v F1 H1 q1 s1 k1 r1 => ?_)
  obtain ⟨c, rfl, q⟩ := q1
  cases r1
  exact ⟨c, rfl, po c Γ1 F1 H1 q s1 k1⟩
theorem wt_not (h : WT X a Γ fun k Γ1 => QB (!k) Γ1) : WT X (.UnaryOp .Not a pos) Γ QB := fun σ F H k Q' po => sT_of (pt_not pt_s) (h σ F H k _ fun c Γ1 F1 H1 q s1 k1 => po (!c) Γ1 F1 H1 q s1 k1)
theorem wt_ww (h : WW X e Γ QB) : WT X e Γ QB := fun σ F H k Q' po => sT_of (PW.pt pw_s) (h σ F H k Q' po)
theorem ww_and1 (h : WT X a Γ QB) : WW X (.BoolOp .And [a] pos) Γ QB := fun σ F H k Q' po => sW_of (pw_and1 pt_s) (h σ F H k Q' po)
theorem ww_or1 (h : WT X a Γ QB) : WW X (.BoolOp .Or [a] pos) Γ QB := fun σ F H k Q' po => sW_of (pw_or1 pt_s) (h σ F H k Q' po)
theorem ww_and (h : WT X a Γ fun k Γ1 => (k = true → WW X (.BoolOp .And (b :: rest) pos) Γ1 QB) ∧ (k = false → QB false Γ1)) : WW X (.BoolOp .And (a :: b :: rest) pos) Γ QB := fun σ F H k Q' po => by
  refine sW_of (pw_and pt_s pw_s) (h σ F H k _ fun c Γ1 F1 H1 q s1 k1 => ?_)
  cases c with
  | true => exact iteT (q.1 rfl σ F1 H1 k1 Q' (po.step s1))
  | false => exact iteF (po false Γ1 F1 H1 (q.2 rfl) s1 k1)
theorem ww_or (h : WT X a Γ fun k Γ1 => (k = false → WW X (.BoolOp .Or (b :: rest) pos) Γ1 QB) ∧ (k = true → QB true Γ1)) : WW X (.BoolOp .Or (a :: b :: rest) pos) Γ QB := fun σ F H k Q' po => by
  refine sW_of (pw_or pt_s pw_s) (h σ F H k _ fun c Γ1 F1 H1 q s1 k1 => ?_)
  cases c with
  | true => exact iteT (po true Γ1 F1 H1 (q.2 rfl) s1 k1)
  | false => exact iteF (q.1 rfl σ F1 H1 k1 Q' (po.step s1))
theorem we_one {op} (h : WE X a Γ Q) : WE X (.BoolOp op [a] pos) Γ Q := fun σ F H k Q' po => sE_of (pe_one pe_s) (h σ F H k Q' po)
theorem we_and (h : WE X a Γ fun d Γ1 => ∃ k, d = .bl k ∧ (k = true → WE X (.BoolOp .And (b :: rest) pos) Γ1 Q) ∧ (k = false → Q (.bl false) Γ1)) : WE X (.BoolOp .And (a :: b :: rest) pos) Γ Q := fun σ F H k Q' po => by
  refine sE_of (pe_and pe_s pe_s) (h σ F H k _ fun d Γ1 v F1 H1 q s1 k1 r1 => ?_)
  obtain ⟨c, rfl, q1, q2⟩ := q
  cases r1
  refine ⟨c, rfl, ?_⟩
  cases c with
  | true => exact iteT (q1 rfl σ F1 H1 k1 Q' (po.step s1))
  | false => exact iteF ((po.step s1).now k1 (.bl false) (q2 rfl))
theorem we_or (h : WE X a Γ fun d Γ1 => ∃ k, d = .bl k ∧ (k = false → WE X (.BoolOp .Or (b :: rest) pos) Γ1 Q) ∧ (k = true → Q (.bl true) Γ1)) : WE X (.BoolOp .Or (a :: b :: rest) pos) Γ Q := fun σ F H k Q' po => by
  refine sE_of (pe_or pe_s pe_s) (h σ F H k _ fun d Γ1 v F1 H1 q s1 k1 r1 => ?_)
  obtain ⟨c, rfl, q1, q2⟩ := q
  cases r1
  refine ⟨c, rfl, ?_⟩
  cases c with
  | true => exact iteT ((po.step s1).now k1 (.bl true) (q2 rfl))
  | false => exact iteF (q1 rfl σ F1 H1 k1 Q' (po.step s1))
theorem we_not (h : WE X a Γ fun d Γ1 => ∃ k, d = .bl k ∧ Q (.bl (!k)) Γ1) : WE X (.UnaryOp .Not a pos) Γ Q := fun σ F H k Q' po => by
  refine sE_of (pe_not pe_s) (h σ F H k _ fun d Γ1 v F1 H1 q s1 k1 r1 => ?_)
  obtain ⟨c, rfl, q1⟩ := q
  cases r1
  exact ⟨c, rfl, (po.step s1).now k1 (.bl (!c)) q1⟩
theorem we_if (h : WT X c Γ fun k Γ1 => (k = true → WE X a Γ1 Q) ∧ (k = false → WE X b Γ1 Q)) : WE X (.IfExp c a b pos) Γ Q := fun σ F H k Q' po => by
  refine sE_of (pe_ifExp pt_s pe_s pe_s) (h σ F H k _ fun c Γ1 F1 H1 q s1 k1 => ?_)
  cases c with
  | true => exact iteT (q.1 rfl σ F1 H1 k1 Q' (po.step s1))
  | false => exact iteF (q.2 rfl σ F1 H1 k1 Q' (po.step s1))
/-! ### the values of operators -/
theorem pu_I {K : PySem.W.Frag} {C : Int → Int → Prop} {g : Int → Int → D} {gv : Int → Int → V} (hg : ∀ F i j, Re K F (g i j) (gv i j)) : Pu2 K (rI C gv) (fun d1 d2 Γ Q => ∃ i j, d1 = .int i ∧ d2 = .int j ∧ C i j ∧ Q (g i j) Γ) := by
  rintro d1 d2 Γ Q ⟨i, j, rfl, rfl, c, q⟩ σ F H v1 v2 k r1 r2 Q' po
  cases r1
  cases r2
  exact ⟨i, j, rfl, rfl, c, po.now k (hg F i j) q⟩
theorem pu_I0 {K : PySem.W.Frag} {g : Int → Int → D} {gv : Int → Int → V} (hg : ∀ F i j, Re K F (g i j) (gv i j)) : Pu2 K (rI0 gv) (fun d1 d2 Γ Q => ∃ i j, d1 = .int i ∧ d2 = .int j ∧ Q (g i j) Γ) := by
  rintro d1 d2 Γ Q ⟨i, j, rfl, rfl, q⟩ σ F H v1 v2 k r1 r2 Q' po
  cases r1
  cases r2
  exact ⟨i, j, rfl, rfl, po.now k (hg F i j) q⟩
theorem we_add (h : WE X a Γ fun d1 Γ1 => WE X b Γ1 fun d2 Γ2 => ∃ i j, d1 = .int i ∧ d2 = .int j ∧ Q (.int (i + j)) Γ2) : WE X (.BinOp a .Add b pos) Γ Q := we_op op_add (pu_I0 fun _ _ _ => .int _) h
theorem we_sub (h : WE X a Γ fun d1 Γ1 => WE X b Γ1 fun d2 Γ2 => ∃ i j, d1 = .int i ∧ d2 = .int j ∧ Q (.int (i - j)) Γ2) : WE X (.BinOp a .Sub b pos) Γ Q := we_op op_sub (pu_I0 fun _ _ _ => .int _) h
theorem we_mul (h : WE X a Γ fun d1 Γ1 => WE X b Γ1 fun d2 Γ2 => ∃ i j, d1 = .int i ∧ d2 = .int j ∧ CMul i j ∧ Q (.int (i * j)) Γ2) : WE X (.BinOp a .Mult b pos) Γ Q := we_op op_mul (pu_I fun _ _ _ => .int _) h
theorem we_mod (h : WE X a Γ fun d1 Γ1 => WE X b Γ1 fun d2 Γ2 => ∃ i j, d1 = .int i ∧ d2 = .int j ∧ 0 < j ∧ Q (.int (i % j)) Γ2) : WE X (.BinOp a .Mod b pos) Γ Q := we_op op_mod (pu_I fun _ _ _ => .int _) h
theorem we_fdiv (h : WE X a Γ fun d1 Γ1 => WE X b Γ1 fun d2 Γ2 => ∃ i j, d1 = .int i ∧ d2 = .int j ∧ CDiv i j ∧ Q (.int (i / j)) Γ2) : WE X (.BinOp a .FloorDiv b pos) Γ Q := we_op op_fdiv (pu_I fun _ _ _ => .int _) h
/-- numbers compared -/
abbrev rpB (f : Int → Int → Bool) : D → D → List Ent → (D → List Ent → Prop) → Prop := fun d1 d2 Γ Q => ∃ i j, d1 = .int i ∧ d2 = .int j ∧ Q (.bl (f i j)) Γ
theorem pu_B {K : PySem.W.Frag} (f : Int → Int → Bool) : Pu2 K (rI0 fun i j => .bl (f i j)) (rpB f) := pu_I0 fun _ _ _ => .bl _
/-- flat things, == -/
def flatD : D → Bool
  | .non | .bl _ | .int _ | .str _ => true
  | _ => false
def eqI : D → D → Bool
  | .int i, .int j => decide (i = j)
  | .str i, .str j => decide (i = j)
  | .bl i, .bl j => decide (i = j)
  | _, _ => false
/-- ints, texts, bools of one kind compared by == -/
inductive EqD : D → D → Bool → Prop
  | int (i j : Int) : EqD (.int i) (.int j) (decide (i = j))
  | str (i j : Str) : EqD (.str i) (.str j) (decide (i = j))
theorem pu_eq {K : PySem.W.Frag} : Pu2 K rEq (fun d1 d2 Γ Q => ∃ c, EqD d1 d2 c ∧ Q (.bl c) Γ) := by
  rintro d1 d2 Γ Q ⟨c, e, q⟩ σ F H v1 v2 k r1 r2 Q' po
  cases e with
  | int i j =>
    cases r1; cases r2
    have := po.now k (.bl _) q
    exact ⟨rfl, by
      rw [show (decide (V.int i = V.int j)) = decide (i = j) from decide_eq_decide.mpr ⟨fun z => V.int.inj z, fun z => by rw [z]⟩]
      exact this⟩
  | str i j =>
    cases r1; cases r2
    have := po.now k (.bl _) q
    exact ⟨rfl, by
      rw [show (decide (V.str i = V.str j)) = decide (i = j) from decide_eq_decide.mpr ⟨fun z => V.str.inj z, fun z => by rw [z]⟩]
      exact this⟩
end
end Pu
/-! Subscripts, slices, attributes, calls. -/
namespace Pu
open PySem PySem.Spec PyProof.Rows L2 Gd
theorem ReA.atI {K : PySem.W.Frag} {F : Hp} {ds : List D} {vs : List V} {i : Int} {d : D} (r : ReA K F ds vs) (h : L2.atI ds i = some d) : ∃ v, L2.atI vs i = some v ∧ Re K F d v := by
  unfold L2.atI at h ⊢
  rw [← r.len]
  cases e : ixN ds.length i with
  | none => rw [e] at h; cases h
  | some j =>
    rw [e] at h
    exact r.get h
def cut {α : Type} (xs : List α) (lo hi : Option Int) : List α := (xs.drop (HT.sIx xs.length 0 lo)).take (HT.sIx xs.length xs.length hi - HT.sIx xs.length 0 lo)
theorem ReA.cut {K : PySem.W.Frag} {F : Hp} {ds : List D} {vs : List V} {lo hi : Option Int} (r : ReA K F ds vs) : ReA K F (Pu.cut ds lo hi) (cutV vs lo hi) := by
  unfold Pu.cut cutV
  rw [r.len]
  exact (r.drop _).take _
theorem cut_pre {α : Type} {xs : List α} {n : Nat} (h : n ≤ xs.length) : cut xs none (some (n : Int)) = xs.take n := by
  unfold cut
  rw [HT.sIx_none, HT.sIx_nat, List.drop_zero, Nat.sub_zero, Nat.min_eq_left h]
theorem cut_suf {α : Type} {xs : List α} {n : Nat} (h : n ≤ xs.length) : cut xs (some (n : Int)) none = xs.drop n := by
  unfold cut
  rw [HT.sIx_none, HT.sIx_nat, Nat.min_eq_left h, List.take_of_length_le (by rw [List.length_drop]; exact Nat.le_refl _)]
def PuA (K : PySem.W.Frag) (r : List V → Hp → VK → Prop) (rp : List D → List Ent → (D → List Ent → Prop) → Prop) : Prop := ∀ ds Γ Q, rp ds Γ Q → ∀ σ F H vs, Ok K F H σ Γ → ReA K F ds vs → ∀ Q', Post K F H σ Γ Q Q' → r vs H Q'
def PuN (K : PySem.W.Frag) (r : List V → Hp → VK → Prop) (rp : List D → List Ent → (List D → List Ent → Prop) → Prop) : Prop := ∀ ds Γ Q, rp ds Γ Q → ∀ σ F H vs, Ok K F H σ Γ → ReA K F ds vs → ∀ Q', PostN K F H σ Γ Q Q' → r vs H Q'
theorem PostN.now {K : PySem.W.Frag} {F H : Hp} {σ : L2.St} {Γ : List Ent} {Q : List D → List Ent → Prop} {Q' : VK} (p : PostN K F H σ Γ Q Q') (k : Ok K F H σ Γ) {ds : List D} {a : Addr} {vs : List V} (n : H a = none) (r : ReA K F ds vs) (q : Q ds Γ) : Q' (.ref a) (upd H a (.lst vs)) :=
  p ds Γ a vs F _ q (.own n) (k.own n) n (k.same.free n) (fun m => (k.has m).2 n) upd_same r
theorem reA1 {K : PySem.W.Frag} {F : Hp} {d : D} {vs : List V} (r : ReA K F [d] vs) : ∃ v, vs = [v] ∧ Re K F d v := by
  cases r with | cons h t => cases t; exact ⟨_, rfl, h⟩
theorem reA2 {K : PySem.W.Frag} {F : Hp} {d e : D} {vs : List V} (r : ReA K F [d, e] vs) : ∃ v u, vs = [v, u] ∧ Re K F d v ∧ Re K F e u := by
  cases r with | cons h t => cases t with | cons h2 t => cases t; exact ⟨_, _, rfl, h, h2⟩
section
variable {X : Cx} {Γ : List Ent} {Q : D → List Ent → Prop} {QB : Bool → List Ent → Prop} {QA : List D → List Ent → Prop} {a b c e : Expr} {es rest : List Expr} {pos p2 p : Pos} {x : Str} {lo hi : Option Expr}
/-! ### a[i] -/
theorem we_ix (h : WE X a Γ fun d1 Γ1 => WE X b Γ1 fun d2 Γ2 => ∃ ds i d, Sq Γ2 d1 ds ∧ d2 = .int i ∧ atI ds i = some d ∧ Q d Γ2) (hs : PlainIx b := by exact fun _ _ => rfl) : WE X (.Subscript a b pos) Γ Q := fun σ F H k Q' po => by
  refine sE_of (pe_ix ix_seq pe_s pe_s hs) (h σ F H k _ fun d1 Γ1 v1 F1 H1 q1 s1 k1 r1 => ?_)
  refine q1 σ F1 H1 k1 _ fun d2 Γ2 v2 F2 H2 q2 s2 k2 r2 => ?_
  obtain ⟨ds, i, d, sq, rfl, hi, q⟩ := q2
  obtain ⟨l, vs, rfl, hl, rs⟩ := sq.real k2 (r1.same s2.sf)
  obtain ⟨v, hv, rv⟩ := rs.atI hi
  cases r2
  have fin := (po.step (s1.trans s2)).now k2 rv q
  rcases hl with hl | hl
  · exact .inl ⟨l, vs, i, v, rfl, rfl, hl, hv, fin⟩
  · exact .inr (.inl ⟨l, vs, i, v, rfl, rfl, hl, hv, fin⟩)
theorem we_ixS (h : WE X a Γ fun d1 Γ1 => WE X b Γ1 fun d2 Γ2 => ∃ z i c, d1 = .str z ∧ d2 = .int i ∧ z.length ≤ sizeLine ∧ atI z.cps.toList i = some c ∧ Q (.str ⟨#[c]⟩) Γ2) (hs : PlainIx b := by exact fun _ _ => rfl) : WE X (.Subscript a b pos) Γ Q := fun σ F H k Q' po => by
  refine sE_of (pe_ix ix_str pe_s pe_s hs) (h σ F H k _ fun d1 Γ1 v1 F1 H1 q1 s1 k1 r1 => ?_)
  refine q1 σ F1 H1 k1 _ fun d2 Γ2 v2 F2 H2 q2 s2 k2 r2 => ?_
  obtain ⟨z, i, c, rfl, rfl, hz, hi, q⟩ := q2
  cases r1
  cases r2
  exact ⟨z, i, c, rfl, rfl, hz, hi, (po.step (s1.trans s2)).now k2 (.str _) q⟩
/-! ### slices -/
def sO (X : Cx) (e : Option Expr) : TO := fun σ H Q => ∀ pins s, Inv X pins σ H s → wpAny (model X.prog X.w) X.A (evalPart e X.env) (fun u s' => ∃ o H', Inv X pins σ H' s' ∧ IsPart u o ∧ Q o H') X.xe s
theorem po_s {e : Option Expr} : PO X e (sO X e) := ⟨fun pins s σ H Q I h => h pins s I⟩
def WO (X : Cx) (e : Option Expr) (Γ : List Ent) (Q : Option Int → List Ent → Prop) : Prop := ∀ σ F H, Ok X.K F H σ Γ → ∀ Q' : Option Int → Hp → Prop, (∀ o Γ' F' H', Q o Γ' → Step F H (foots Γ) F' H' (foots Γ') → Ok X.K F' H' σ Γ' → Q' o H') → sO X e σ H Q'
theorem wo_none {Q : Option Int → List Ent → Prop} (q : Q none Γ) : WO X none Γ Q := fun σ F H k Q' po => fun pins s I => po_none.run pins s σ H Q' I (po none Γ F H q (.refl _ _ _) k)
theorem wo_some {Q : Option Int → List Ent → Prop} (h : WE X e Γ fun d Γ1 => ∃ i, d = .int i ∧ Q (some i) Γ1) : WO X (some e) Γ Q := fun σ F H k Q' po => fun pins s I => (po_some pe_s).run pins s σ H Q' I (h σ F H k _ fun d Γ1 v F1 H1 q1 s1 k1 r1 => by
  obtain ⟨i, rfl, q⟩ := q1
  cases r1
  exact ⟨i, rfl, po _ Γ1 F1 H1 q s1 k1⟩)
theorem we_slT (h : WE X e Γ fun d Γ1 => WO X lo Γ1 fun l Γ2 => WO X hi Γ2 fun u Γ3 => ∃ ds, d = .tup ds ∧ Q (.tup (cut ds l u)) Γ3) : WE X (.Subscript e (.Slice lo hi none p2) pos) Γ Q := fun σ F H k Q' po => by
  refine sE_of (pe_slice sl_tupA pe_s po_s po_s) (h σ F H k _ fun d1 Γ1 v1 F1 H1 q1 s1 k1 r1 => ?_)
  refine q1 σ F1 H1 k1 _ fun l Γ2 F2 H2 q2 s2 k2 => ?_
  refine q2 σ F2 H2 k2 _ fun u Γ3 F3 H3 q3 s3 k3 => ?_
  obtain ⟨ds, rfl, q⟩ := q3
  cases r1.same (s2.trans s3).sf with
  | tup hs ra =>
    have po3 := po.step ((s1.trans s2).trans s3)
    refine ⟨_, _, rfl, same_seqT k3.same hs, fun ⟨e1, e2⟩ => po3.now k3 (.tup hs ?_) q, fun _ p n => po3.new k3 n (.tup (sqT upd_same) (ra.cut.same (same_new (k3.same.free n)))) q⟩
    have z := ra.cut (lo := l) (hi := u)
    unfold cutV at z
    rwa [e1, e2, List.drop_zero, Nat.sub_zero, List.take_of_length_le (Nat.le_refl _)] at z
theorem wn_slL (h : WE X e Γ fun d Γ1 => WO X lo Γ1 fun l Γ2 => WO X hi Γ2 fun u Γ3 => ∃ ds, (d = .lst ds ∨ ∃ (i : Nat) (b : Addr), d = .adr b ∧ Γ3[i]? = some (Ent.l b ds)) ∧ QA (cut ds l u) Γ3) : WN X (.Subscript e (.Slice lo hi none p2) pos) Γ QA := fun σ F H k Q' po => by
  refine sE_of (pe_slice sl_list pe_s po_s po_s) (h σ F H k _ fun d1 Γ1 v1 F1 H1 q1 s1 k1 r1 => ?_)
  refine q1 σ F1 H1 k1 _ fun l Γ2 F2 H2 q2 s2 k2 => ?_
  refine q2 σ F2 H2 k2 _ fun u Γ3 F3 H3 q3 s3 k3 => ?_
  obtain ⟨ds, hd, q⟩ := q3
  have po3 := po.step ((s1.trans s2).trans s3)
  have r3 := r1.same (s2.trans s3).sf
  rcases hd with rfl | ⟨i, b, rfl, hi⟩
  · cases r3 with
    | lst hs ra => exact ⟨_, _, rfl, sqL (k3.same _ _ hs), fun p n => po3.now k3 n ra.cut q⟩
  · cases r3
    obtain ⟨o, _, _, fb, us, hb, ra⟩ := k3.get hi
    exact ⟨_, _, rfl, sqL hb, fun p n => po3.now k3 n ra.cut q⟩
/-! ### o.f -/
theorem we_fld (h : WE X e Γ fun d Γ1 => ∃ C fs d', d = .ins C fs ∧ Cls X.K C ∧ NoAttr X.K C x ∧ fs.lookup x = some d' ∧ Q d' Γ1) (hb : attributeBase e x X.env (eval e X.env) = eval e X.env := by rfl) : WE X (.Attribute e x pos) Γ Q := fun σ F H k Q' po => by
  refine sE_of (pe_fld pe_s hb) (h σ F H k _ fun d1 Γ1 v1 F1 H1 q1 s1 k1 r1 => ?_)
  obtain ⟨C, fs, d', rfl, hc, hn, hl, q⟩ := q1
  cases r1 with
  | ins hp rf =>
    obtain ⟨v, hv, rv⟩ := rf.get hl
    exact ⟨_, _, _, _, v, rfl, k1.same _ _ hp, hc, hn, hv, (po.step s1).now k1 rv q⟩
/-! ### built-ins -/
theorem we_callB {id : String} {r : List V → Hp → VK → Prop} {rp} (hc : CallR X (.builtin id) r) (hp : PuA X.K r rp) (hm : X.mg x = none) (h : WA X (e :: es) Γ fun ds Γ1 => rp ds Γ1 Q) (hg : Gl X x := by rfl) (hv : bootBuiltins x = some (.builtin id) := by decide +kernel) (hn : x ≠ "__name__" := by decide) (hdb : (x == ("__debug__" : Str)) = false := by decide)
    (he : starEach (e :: es) X.env = (false, eval e X.env) :: starEach es X.env := by rfl) (hpl : (backTo pos (starEach es X.env)).any (·.1) = false := by rfl) : WE X (.Call (.Name x p) (e :: es) [] pos) Γ Q := fun σ F H k Q' po =>
  sE_of (pe_callB hc hg hm hv pa_s hn hdb he hpl) (h σ F H k _ fun ds Γ1 vs F1 H1 q1 s1 k1 r1 => hp ds Γ1 Q q1 σ F1 H1 vs k1 r1 Q' (po.step s1))
theorem we_callTy {id : String} {r : List V → Hp → VK → Prop} {rp} (hc : CallR X (.type id) r) (hp : PuA X.K r rp) (hm : X.mg x = none) (h : WA X (e :: es) Γ fun ds Γ1 => rp ds Γ1 Q) (hg : Gl X x := by rfl) (hv : bootBuiltins x = some (.type id) := by decide +kernel) (hn : x ≠ "__name__" := by decide) (hdb : (x == ("__debug__" : Str)) = false := by decide)
    (he : starEach (e :: es) X.env = (false, eval e X.env) :: starEach es X.env := by rfl) (hpl : (backTo pos (starEach es X.env)).any (·.1) = false := by rfl) : WE X (.Call (.Name x p) (e :: es) [] pos) Γ Q := fun σ F H k Q' po =>
  sE_of (pe_callTy hc hg hm hv pa_s hn hdb he hpl) (h σ F H k _ fun ds Γ1 vs F1 H1 q1 s1 k1 r1 => hp ds Γ1 Q q1 σ F1 H1 vs k1 r1 Q' (po.step s1))
theorem wn_callB {id : String} {r : List V → Hp → VK → Prop} {rp} (hc : CallR X (.builtin id) r) (hp : PuN X.K r rp) (hm : X.mg x = none) (h : WA X (e :: es) Γ fun ds Γ1 => rp ds Γ1 QA) (hg : Gl X x := by rfl) (hv : bootBuiltins x = some (.builtin id) := by decide +kernel) (hn : x ≠ "__name__" := by decide) (hdb : (x == ("__debug__" : Str)) = false := by decide)
    (he : starEach (e :: es) X.env = (false, eval e X.env) :: starEach es X.env := by rfl) (hpl : (backTo pos (starEach es X.env)).any (·.1) = false := by rfl) : WN X (.Call (.Name x p) (e :: es) [] pos) Γ QA := fun σ F H k Q' po =>
  sE_of (pe_callB hc hg hm hv pa_s hn hdb he hpl) (h σ F H k _ fun ds Γ1 vs F1 H1 q1 s1 k1 r1 => hp ds Γ1 QA q1 σ F1 H1 vs k1 r1 Q' (po.step s1))
theorem wn_callTy {id : String} {r : List V → Hp → VK → Prop} {rp} (hc : CallR X (.type id) r) (hp : PuN X.K r rp) (hm : X.mg x = none) (h : WA X (e :: es) Γ fun ds Γ1 => rp ds Γ1 QA) (hg : Gl X x := by rfl) (hv : bootBuiltins x = some (.type id) := by decide +kernel) (hn : x ≠ "__name__" := by decide) (hdb : (x == ("__debug__" : Str)) = false := by decide)
    (he : starEach (e :: es) X.env = (false, eval e X.env) :: starEach es X.env := by rfl) (hpl : (backTo pos (starEach es X.env)).any (·.1) = false := by rfl) : WN X (.Call (.Name x p) (e :: es) [] pos) Γ QA := fun σ F H k Q' po =>
  sE_of (pe_callTy hc hg hm hv pa_s hn hdb he hpl) (h σ F H k _ fun ds Γ1 vs F1 H1 q1 s1 k1 r1 => hp ds Γ1 QA q1 σ F1 H1 vs k1 r1 Q' (po.step s1))
theorem we_len (hm : X.mg "len" = none) (h : WE X e Γ fun d Γ1 => ∃ ds, Sq Γ1 d ds ∧ Q (.int ds.length) Γ1) (hg : Gl X "len" := by rfl)
    (he : starEach [e] X.env = (false, eval e X.env) :: starEach [] X.env := by rfl) (hpl : (backTo pos (starEach [] X.env)).any (·.1) = false := by rfl) : WE X (.Call (.Name "len" p) [e] [] pos) Γ Q :=
  we_callB (rp := fun ds Γ Q => ∃ d its, ds = [d] ∧ Sq Γ d its ∧ Q (.int its.length) Γ) call_len_seq (by
    rintro ds Γ Q ⟨d, its, rfl, sq, q⟩ σ F H vs k r Q' po
    obtain ⟨v, rfl, rv⟩ := reA1 r
    obtain ⟨l, us, rfl, hl, rs⟩ := sq.real k rv
    refine ⟨l, us, rfl, hl, ?_⟩
    have z := po.now k (.int _) q
    rw [rs.len] at z
    exact z) hm (wa_cons (h.mono fun d Γ1 ⟨ds, sq, q⟩ => wa_nil ⟨d, ds, rfl, sq, q⟩) he) hg (hv := PySem.boot_len) (he := he) (hpl := hpl)
end
end Pu
/-! Calls of defs, classes; blocks. -/
namespace Pu
open PySem PySem.Spec PyProof.Rows L2 Gd
/-- a def on values alone -/
def spD (K : PySem.W.Frag) (sp : List D → (D → Prop) → Prop) : Sp := fun vs H Q _ => ∃ F ds Qp, Same F H ∧ ReA K F ds vs ∧ sp ds Qp ∧ ∀ d v F' H', Qp d → Step F H [] F' H' [] → Same F' H' → Re K F' d v → Q v H'
/-- a def that draws: its first argument is the source -/
def spS (K : PySem.W.Frag) (sp : List Int → Int → List D → (D → List Int → Int → Prop) → Prop) : Sp := fun vs H Q _ => ∃ F ds Qp h l L st vs', vs = .ref h :: vs' ∧ Same F H ∧ F h = none ∧ F l = none ∧ Hv H h l L st ∧ ReA K F ds vs' ∧ sp L st ds Qp ∧
  ∀ d L' st' v F' H', Qp d L' st' → Step F H [h, l] F' H' [h, l] → Same F' H' → F' h = none → F' l = none → Hv H' h l L' st' → Re K F' d v → Q v H'
def sK (X : Cx) (kws : List Keyword) : TA := fun σ H Q => ∀ (pos : Pos) pins s, Inv X pins σ H s → wpAny (model X.prog X.w) X.A (evalAll ((backToKw pos (keywordEach kws X.env)).map (·.2))) (AP X pins σ Q) X.xe s
theorem pk_s {X : Cx} {kws : List Keyword} : PK X kws (sK X kws) := ⟨fun pos pins s σ H Q I h => h pos pins s I⟩
def WK (X : Cx) (kws : List Keyword) (Γ : List Ent) (Q : List D → List Ent → Prop) : Prop := ∀ σ F H, Ok X.K F H σ Γ → ∀ Q', PostA X.K F H σ Γ Q Q' → sK X kws σ H Q'
section
variable {X : Cx} {Γ : List Ent} {Q : D → List Ent → Prop} {QB : Bool → List Ent → Prop} {QA : List D → List Ent → Prop} {a b c e : Expr} {es rest : List Expr} {pos p2 p kpos : Pos} {x : Str} {lo hi : Option Expr} {kws : List Keyword} {nm : Option Str}
variable {k : Nat} {f : Addr} {fd : FuncData} {ps ks : List Str}
theorem wk_nil (q : QA [] Γ) : WK X [] Γ QA := fun σ F H k Q' po => fun pos pins s I => pk_nil.run pos pins s σ H Q' I (po [] Γ [] F H q (.refl _ _ _) k .nil)
theorem wk_cons (h : WE X e Γ fun d Γ1 => WK X kws Γ1 fun ds Γ2 => QA (d :: ds) Γ2) : WK X (⟨nm, e, kpos⟩ :: kws) Γ QA := fun σ F H k Q' po => fun pos pins s I => (pk_cons pe_s pk_s).run pos pins s σ H Q' I (h σ F H k _ fun d Γ1 v F1 H1 q1 s1 k1 r1 =>
  q1 σ F1 H1 k1 _ fun ds Γ2 vs F2 H2 q2 s2 k2 r2 => po _ Γ2 _ F2 H2 q2 (s1.trans s2) k2 (.cons (r1.same s2.sf) r2))
/-- behind a call on values alone -/
theorem callD {K : PySem.W.Frag} {sp : List D → (D → Prop) → Prop} {F H : Hp} {σ : L2.St} {ds : List D} {vs : List V} {Q' : VK} {E : XK} (k : Ok K F H σ Γ) (r : ReA K F ds vs) (q : sp ds fun d => Q d Γ) (po : Post K F H σ Γ Q Q') : spD K sp vs H Q' E :=
  ⟨F, ds, _, k.same, r, q, fun d v F' H' qd st sm rd => po d Γ v F' H' qd (st.wide fun _ z => nomatch z) (k.call st sm) rd⟩
theorem we_call {sp : List D → (D → Prop) → Prop} (G : FnG X.prog X.w X.K X.mg X.base k f fd ps (spD X.K sp)) (hr : RmG k X.A) (hm : X.mg x = some (.ref f)) (hk : PySem.W.keepIn X.K (.ref f) = true) (hb : Binds X.K fd ps []) (h : WA X (e :: es) Γ fun ds Γ1 => sp ds fun d => Q d Γ1) (hg : Gl X x := by rfl) (h1 : (x == ("__debug__" : Str)) = false := by decide)
    (h2 : starEach (e :: es) X.env = (false, eval e X.env) :: starEach es X.env := by rfl) (h3 : (backTo pos (starEach es X.env)).any (·.1) = false := by rfl) : WE X (.Call (.Name x p) (e :: es) [] pos) Γ Q := fun σ F H k Q' po => by
  refine sE_of (pe_callG (E := fun _ _ _ => False) G hr hg hm hk hb .nil pa_s h1 h2 h3) (h σ F H k _ fun ds Γ1 vs F1 H1 q1 s1 k1 r1 => ?_)
  rw [List.append_nil]
  exact callD k1 r1 q1 (po.step s1)
theorem we_callS (i : Nat) {sp : List Int → Int → List D → (D → List Int → Int → Prop) → Prop} (G : FnG X.prog X.w X.K X.mg X.base k f fd ps (spS X.K sp)) (hr : RmG k X.A) (hm : X.mg x = some (.ref f)) (hk : PySem.W.keepIn X.K (.ref f) = true) (hb : Binds X.K fd ps [])
    (h : WA X (e :: es) Γ fun ds Γ1 => ∃ h l L st ds', ds = .adr h :: ds' ∧ Γ1[i]? = some (Ent.src h l L st) ∧ sp L st ds' fun d L' st' => Q d (Γ1.set i (.src h l L' st'))) (hg : Gl X x := by rfl) (h1 : (x == ("__debug__" : Str)) = false := by decide)
    (h2 : starEach (e :: es) X.env = (false, eval e X.env) :: starEach es X.env := by rfl) (h3 : (backTo pos (starEach es X.env)).any (·.1) = false := by rfl) : WE X (.Call (.Name x p) (e :: es) [] pos) Γ Q := fun σ F H k Q' po => by
  refine sE_of (pe_callG (E := fun _ _ _ => False) G hr hg hm hk hb .nil pa_s h1 h2 h3) (h σ F H k _ fun ds Γ1 vs F1 H1 q1 s1 k1 r1 => ?_)
  rw [List.append_nil]
  obtain ⟨h, l, L, st, ds', rfl, hi, q⟩ := q1
  obtain ⟨o, ho, rfl, fh, fl, hv⟩ := k1.get hi
  cases r1 with
  | cons ra r =>
    cases ra
    refine ⟨F1, ds', _, h, l, L, st, _, rfl, k1.same, fh, fl, hv, r, q, fun d L' st' v F' H' qd st2 sm fh' fl' hv' rd => ?_⟩
    have hf : foot (.src h l L' st') = foot (.src h l L st) := rfl
    have mh : ∀ b ∈ [h, l], b ∈ foots Γ1 := fun b m => mem_foots (e := .src h l L st) (List.mem_of_getElem? hi) m
    refine po d _ v F' H' qd (s1.trans ?_) (k1.put hi hf st2.sf sm (fun o2 h2 => ?_) fun b n f0 h0 => ⟨st2.fr b n h0 f0, fun y z => st2.kh b y n z⟩) rd
    · rw [foots_same hf hi]
      exact st2.wide mh
    · rw [ho] at h2
      cases h2
      exact ⟨rfl, fh', fl', hv'⟩
theorem we_callKw {sp : List D → (D → Prop) → Prop} {g : List Value → List Value} {gV : List V → List V} {gD : List D → List D} (G : FnG X.prog X.w X.K X.mg X.base k f fd ps (spD X.K sp)) (hr : RmG k X.A) (hm : X.mg x = some (.ref f)) (hk : PySem.W.keepIn X.K (.ref f) = true) (hb : KwB fd ps ks g)
    (hv : ∀ {zs : List V} {ws : List Value}, zs.length = ks.length → Vals zs ws → Vals (gV zs) (g ws)) (hd : ∀ {F : Hp} {ds : List D} {vs : List V}, ds.length = ks.length → ReA X.K F ds vs → ReA X.K F (gD ds) (gV vs))
    (h : WK X kws Γ fun ds Γ1 => ds.length = ks.length ∧ sp (gD ds) fun d => Q d Γ1) (hg : Gl X x := by rfl)
    (h1 : (backToKw pos (keywordEach kws X.env)).all (·.1.isSome) = true := by rfl) (h2 : (backToKw pos (keywordEach kws X.env)).filterMap (·.1) = ks := by rfl) (h3 : (x == ("__debug__" : Str)) = false := by decide)
    (h4 : ((backTo pos (starEach [] X.env)).any (·.1) || (backToKw pos (keywordEach kws X.env)).any (·.1.isNone)) = false := by rfl) : WE X (.Call (.Name x p) [] kws pos) Γ Q := fun σ F H k Q' po => by
  refine sE_of (pe_kwG (E := fun _ _ _ => False) G hr hg hm hk hb hv pk_s h1 h2 h3 h4) (h σ F H k _ fun ds Γ1 vs F1 H1 q1 s1 k1 r1 => ⟨r1.len.symm.trans q1.1, ?_⟩)
  exact callD k1 (hd q1.1 r1) q1.2 (po.step s1)
/-! ### C(..) -/
/-- __init__ on values: what it asks, what the fields are -/
def spI (K : PySem.W.Frag) (C : Addr) (rp : List D → Prop) (flds : List D → List (Str × D)) : Sp := fun vs H Q _ => ∃ (F : Hp) (p dx : Addr) (ds : List D) (us : List V), vs = .ref p :: us ∧ Same F H ∧ F p = none ∧ H p = some (.ins C dx []) ∧ ReA K F ds us ∧ rp ds ∧
  ∀ G, (∀ b o, b ≠ p → H b = some o → G b = some o) → (∃ fs, G p = some (.ins C dx fs) ∧ ReF K F (flds ds) fs) → Q .non G
theorem reF_same' {K : PySem.W.Frag} {F G : Hp} {d : List (Str × D)} {v : List (Str × V)} (h : ReF K F d v) (e : Same F G) : ReF K G d v := reF_same e d v h
theorem make_go {K : PySem.W.Frag} {C : Addr} {rp : List D → Prop} {flds : List D → List (Str × D)} {F H : Hp} {σ : L2.St} {ds : List D} {vs : List V} {Q' : VK} {E : XK} (k : Ok K F H σ Γ) (r : ReA K F ds vs) (hp : rp ds) (q : Q (.ins C (flds ds)) Γ) (po : Post K F H σ Γ Q Q') :
    ∀ x dx, H x = none → H dx = none → dx ≠ x → spI K C rp flds (.ref x :: vs) (upd (upd H dx (.own x)) x (.ins C dx [])) (fun v H2 => v = .non ∧ Q' (.ref x) H2) E := by
  intro x dx nx nd ne
  have nx2 : (upd H dx (.own x)) x = none := (upd_ne (Ne.symm ne)).trans nx
  have s1 : Same H (upd (upd H dx (.own x)) x (.ins C dx [])) := (same_new nd).trans (same_new nx2)
  refine ⟨F, x, dx, ds, vs, rfl, k.same.trans s1, k.same.free nx, upd_same, r, hp, fun G kp ⟨fs, gx, rf⟩ => ⟨rfl, ?_⟩⟩
  have fx := k.same.free nx
  have fd := k.same.free nd
  have fx2 : (upd F dx (.own x)) x = none := (upd_ne (Ne.symm ne)).trans fx
  have sF : Same F (upd (upd F dx (.own x)) x (.ins C dx fs)) := (same_new fd).trans (same_new fx2)
  have gk : ∀ b o, H b = some o → G b = some o := fun b o e => kp b o (ne_of_none e nx) (s1 _ _ e)
  have sG : Same (upd (upd F dx (.own x)) x (.ins C dx fs)) G := fun b o e => by
    by_cases e1 : b = x
    · rw [e1, upd_same] at e
      rw [e1]
      cases e
      exact gx
    · rw [upd_ne e1] at e
      by_cases e2 : b = dx
      · rw [e2, upd_same] at e
        cases e
        rw [e2]
        exact kp _ _ ne ((upd_ne ne).trans upd_same)
      · rw [upd_ne e2] at e
        exact gk _ _ (k.same _ _ e)
  have out : ∀ b, H b ≠ none → b ≠ x ∧ b ≠ dx := fun b h => ⟨fun e => h (by rw [e]; exact nx), fun e => h (by rw [e]; exact nd)⟩
  refine po _ Γ _ _ G q ⟨sF, fun b o _ e => gk b o e, fun b h => ?_, fun b _ h1 h2 => ?_, fun _ z => .inl z⟩ (k.keep sF sG fun b m => ?_) (.ins upd_same (reF_same' rf sF))
  · cases e : H b with
    | none => exact absurd e h
    | some o => rw [gk b o e]; exact nofun
  · obtain ⟨e1, e2⟩ := out b h1
    rw [upd_ne e1, upd_ne e2]
    exact h2
  · obtain ⟨h1, h2⟩ := k.has m
    obtain ⟨e1, e2⟩ := out b h2
    exact ⟨by rw [upd_ne e1, upd_ne e2]; exact h1, fun o e => gk b o e⟩
theorem we_make {C : Addr} {rp : List D → Prop} {flds : List D → List (Str × D)} (M : Mk X.K C f) (G : FnOk X.prog X.w X.K X.mg X.base CX0 k f fd ps (spI X.K C rp flds)) (hr : RmG (k + 1) X.A) (hm : X.mg x = some (.ref C)) (hb : Binds X.K fd ps [])
    (h : WA X (e :: es) Γ fun ds Γ1 => rp ds ∧ Q (.ins C (flds ds)) Γ1) (hg : Gl X x := by rfl) (h1 : (x == ("__debug__" : Str)) = false := by decide)
    (h2 : starEach (e :: es) X.env = (false, eval e X.env) :: starEach es X.env := by rfl) (h3 : (backTo pos (starEach es X.env)).any (·.1) = false := by rfl) : WE X (.Call (.Name x p) (e :: es) [] pos) Γ Q := fun σ F H k Q' po => by
  refine sE_of (pe_make (E := fun _ _ _ => False) M G hr.rm hg hm hb .nil pass0 pa_s h1 h2 h3) (h σ F H k _ fun ds Γ1 vs F1 H1 q1 s1 k1 r1 => ?_)
  have z := make_go (Q := Q) (E := fun _ _ _ => False) k1 r1 q1.1 q1.2 (po.step s1)
  intro x dx nx nd ne
  rw [List.append_nil]
  exact z x dx nx nd ne
end
/-! ### statements -/
structure Eds where
  nx : List Ent → Prop
  rt : D → List Ent → Prop := fun _ _ => False
  bk : List Ent → Prop := fun _ => False
  ct : List Ent → Prop := fun _ => False
def sS (X : Cx) (st : Stmt) : TS := fun D σ H => ∀ pins s, Inv X pins σ H s → wpAny (model X.prog X.w) X.A (exec st X.env) (SP X pins D) X.xe s
theorem ps_s {X : Cx} {st : Stmt} : PS X st (sS X st) := ⟨fun pins s σ H Q I h => h pins s I⟩
theorem sS_of {X : Cx} {st : Stmt} {t : TS} (p : PS X st t) {σ : L2.St} {H : Hp} {D : Ends} (h : t D σ H) : sS X st D σ H := fun pins s I => p.run pins s σ H D I h
def sB (X : Cx) (st : List Stmt) : TS := fun D σ H => ∀ pins s, Inv X pins σ H s → wpAny (model X.prog X.w) X.A (execs st X.env) (SP X pins D) X.xe s
theorem pb_s {X : Cx} {st : List Stmt} : PSs X st (sB X st) := ⟨fun pins s σ H Q I h => h pins s I⟩
theorem sB_of {X : Cx} {st : List Stmt} {t : TS} (p : PSs X st t) {σ : L2.St} {H : Hp} {D : Ends} (h : t D σ H) : sB X st D σ H := fun pins s I => p.run pins s σ H D I h
structure Posts (K : PySem.W.Frag) (F H : Hp) (Γ : List Ent) (E : Eds) (Dn : Ends) : Prop where
  nx : ∀ Γ' σ' F' H', E.nx Γ' → Step F H (foots Γ) F' H' (foots Γ') → Ok K F' H' σ' Γ' → Dn.nx σ' H'
  rt : ∀ d Γ' σ' v F' H', E.rt d Γ' → Step F H (foots Γ) F' H' (foots Γ') → Ok K F' H' σ' Γ' → Re K F' d v → Dn.rt v H'
  bk : ∀ Γ' σ' F' H', E.bk Γ' → Step F H (foots Γ) F' H' (foots Γ') → Ok K F' H' σ' Γ' → Dn.bk σ' H'
  ct : ∀ Γ' σ' F' H', E.ct Γ' → Step F H (foots Γ) F' H' (foots Γ') → Ok K F' H' σ' Γ' → Dn.ct σ' H'
theorem Posts.step {K : PySem.W.Frag} {F H F1 H1 : Hp} {Γ Γ1 : List Ent} {E : Eds} {Dn : Ends} (p : Posts K F H Γ E Dn) (s : Step F H (foots Γ) F1 H1 (foots Γ1)) : Posts K F1 H1 Γ1 E Dn :=
  ⟨fun Γ' σ' F' H' q st => p.nx Γ' σ' F' H' q (s.trans st), fun d Γ' σ' v F' H' q st => p.rt d Γ' σ' v F' H' q (s.trans st), fun Γ' σ' F' H' q st => p.bk Γ' σ' F' H' q (s.trans st), fun Γ' σ' F' H' q st => p.ct Γ' σ' F' H' q (s.trans st)⟩
def WS (X : Cx) (st : Stmt) (Γ : List Ent) (E : Eds) : Prop := ∀ σ F H, Ok X.K F H σ Γ → ∀ Dn, Posts X.K F H Γ E Dn → sS X st Dn σ H
def WB (X : Cx) (st : List Stmt) (Γ : List Ent) (E : Eds) : Prop := ∀ σ F H, Ok X.K F H σ Γ → ∀ Dn, Posts X.K F H Γ E Dn → sB X st Dn σ H
section
variable {X : Cx} {Γ : List Ent} {E : Eds} {st : Stmt} {rest body els : List Stmt} {e c : Expr} {pos pos' p apos : Pos} {x : Str}
theorem wb_nil (q : E.nx Γ) : WB X [] Γ E := fun σ F H k Dn po => sB_of pss_nil (po.nx Γ σ F H q (.refl _ _ _) k)
theorem wb_cons (h : WS X st Γ { E with nx := fun Γ1 => WB X rest Γ1 E }) : WB X (st :: rest) Γ E := fun σ F H k Dn po => by
  refine sB_of (pss_cons ps_s pb_s) (h σ F H k _ ⟨fun Γ1 σ1 F1 H1 q1 s1 k1 => ?_, po.rt, po.bk, po.ct⟩)
  exact q1 σ1 F1 H1 k1 Dn (po.step s1)
theorem WS.mono {N : List Ent → Prop} (h : WS X st Γ { E with nx := N }) (m : ∀ Γ1, N Γ1 → E.nx Γ1) : WS X st Γ E := fun σ F H k Dn po => h σ F H k Dn ⟨fun Γ1 σ1 F1 H1 q => po.nx Γ1 σ1 F1 H1 (m _ q), po.rt, po.bk, po.ct⟩
/-- R holds behind the first statement -/
theorem wb_cut (R : List Ent → Prop) (h : WS X st Γ { E with nx := R }) (n : ∀ Γ1, R Γ1 → WB X rest Γ1 E) : WB X (st :: rest) Γ E := wb_cons (WS.mono (N := R) h n)
theorem wb_one (h : WS X st Γ E) : WB X [st] Γ E := wb_cons fun σ F H k Dn po => h σ F H k Dn ⟨fun Γ1 σ1 F1 H1 q1 s1 k1 => po.nx Γ1 σ1 F1 H1 (wb_nil q1) s1 k1, po.rt, po.bk, po.ct⟩
theorem ws_ret (h : WE X e Γ E.rt) : WS X (.Return (some e) pos) Γ E := fun σ F H k Dn po => sS_of (ps_ret pe_s) (h σ F H k _ fun d Γ1 v F1 H1 q1 s1 k1 r1 => po.rt d Γ1 σ v F1 H1 q1 s1 k1 r1)
theorem ws_retN (q : E.rt .non Γ) : WS X (.Return none pos) Γ E := fun σ F H k Dn po => sS_of ps_retN (po.rt _ Γ σ _ F H q (.refl _ _ _) k .non)
theorem ws_set (i : Nat) (hN : X.N.Nodup) (h : WE X e Γ fun d Γ1 => E.nx (Γ1.set i (.v d))) (hi : X.N[i]? = some x := by rfl) (hx : Loc X.env.scope x := by first | exact .inl rfl | exact .inr rfl) (hs : swapsWith e (some (.Name x pos')) pos.line X.env = pure false := by rfl) (hf : X.fn x = true ∨ X.env.scope.names.lookup x = some .local := by first | exact .inl rfl | exact .inr rfl) :
    WS X (.Assign [.Name x pos'] e pos) Γ E := fun σ F H k Dn po => sS_of (ps_set hN hi hx pe_s hs hf) (h σ F H k _ fun d Γ1 v F1 H1 q1 s1 k1 r1 => by
  refine po.nx _ _ F1 H1 q1 ⟨s1.sf, s1.kh, s1.ne, s1.fr, fun b m => ?_⟩ (k1.setV r1)
  rcases foots_set_mem m with z | z
  · exact nomatch z
  · exact s1.ow b z)
/-- a new list for one's own -/
theorem ws_own (i : Nat) (hN : X.N.Nodup) (h : WN X e Γ fun ds Γ1 => ∀ a, E.nx (Γ1.set i (.l a ds))) (hi : X.N[i]? = some x := by rfl) (hx : Loc X.env.scope x := by first | exact .inl rfl | exact .inr rfl) (hs : swapsWith e (some (.Name x pos')) pos.line X.env = pure false := by rfl) (hf : X.fn x = true ∨ X.env.scope.names.lookup x = some .local := by first | exact .inl rfl | exact .inr rfl) :
    WS X (.Assign [.Name x pos'] e pos) Γ E := fun σ F H k Dn po => sS_of (ps_set hN hi hx pe_s hs hf) (h σ F H k _ fun ds Γ1 a vs F1 H1 q1 s1 k1 na fa nm ha r1 => by
  refine po.nx _ _ F1 H1 (q1 a) ⟨s1.sf, s1.kh, s1.ne, s1.fr, fun b m => ?_⟩ (k1.set (e := .l a ds) ⟨rfl, fa, vs, ha, r1⟩ (List.nodup_cons.mpr ⟨nofun, List.nodup_nil⟩) fun b m => by cases List.mem_singleton.mp m; exact nm)
  rcases foots_set_mem m with z | z
  · cases List.mem_singleton.mp z
    exact .inr na
  · exact s1.ow b z)
theorem ws_if (h : WT X c Γ fun b Γ1 => (b = true → WB X body Γ1 E) ∧ (b = false → WB X els Γ1 E)) : WS X (.If c body els pos) Γ E := fun σ F H k Dn po => sS_of (ps_if pt_s pb_s pb_s) (h σ F H k _ fun b Γ1 F1 H1 q1 s1 k1 => by
  cases b with
  | true => exact iteT (q1.1 rfl σ F1 H1 k1 Dn (po.step s1))
  | false => exact iteF (q1.2 rfl σ F1 H1 k1 Dn (po.step s1)))
theorem ws_pass (q : E.nx Γ) : WS X (.Pass pos) Γ E := fun σ F H k Dn po => sS_of ps_pass (po.nx Γ σ F H q (.refl _ _ _) k)
theorem ws_brk (q : E.bk Γ) : WS X (.Break pos) Γ E := fun σ F H k Dn po => sS_of ps_break (po.bk Γ σ F H q (.refl _ _ _) k)
theorem ws_cont (q : E.ct Γ) : WS X (.Continue pos) Γ E := fun σ F H k Dn po => sS_of ps_continue (po.ct Γ σ F H q (.refl _ _ _) k)
/-- x.append(e), x a list of one's own -/
theorem ws_append (i : Nat) (h : WE X e Γ fun d Γ1 => ∃ a ds, Γ1[i]? = some (Ent.l a ds) ∧ ds.length ≤ 100000 ∧ E.nx (Γ1.set i (.l a (ds ++ [d])))) (h0 : ∃ a ds, Γ[i]? = some (Ent.l a ds) := by exact ⟨_, _, rfl⟩) (hi : X.N[i]? = some x := by rfl) (hv : Vis X.env.scope x := by first | exact Or.inl rfl | exact Or.inr (Or.inl rfl) | exact Or.inr (Or.inr rfl)) (hd : (x == ("__debug__" : Str)) = false := by decide)
    (hcd : (x == ("__classdict__" : Str)) = false := by decide)
    (hbase : attributeBase (.Name x p) "append" X.env (eval (.Name x p) X.env) = eval (.Name x p) X.env := by rfl)
    (hfew : ((backTo pos (starEach [e] X.env)).all (fun x => !x.1) && (backToKw pos (keywordEach [] X.env)).all (fun x => x.1.isSome)
      && decide (([e] : List Expr).length + ([] : List Keyword).length + (if ([] : List Keyword).isEmpty then 0 else 1) < 30)) = true := by rfl)
    (hline : (apos.endLine == pos.line) = true := by rfl) (hs : starEach [e] X.env = (false, eval e X.env) :: starEach [] X.env := by rfl) (hplain : (backTo pos (starEach [] X.env)).any (·.1) = false := by rfl)
    (hsw : swapsWith (.Call (.Attribute (.Name x p) "append" apos) [e] [] pos) none pos'.line X.env = pure false := by rfl) : WS X (.Expr (.Call (.Attribute (.Name x p) "append" apos) [e] [] pos) pos') Γ E := fun σ F H k Dn po => by
  refine sS_of (ps_expr (pe_bm PySem.F.plainAttrs_list PySem.F.slot_list_append PySem.F.type_list_append mt_append (pe_var hi hv hd hcd) (pa_cons pe_s pa_nil hs) hbase hfew hline hs hplain) hsw) ?_
  obtain ⟨a, ds, hi0⟩ := h0
  obtain ⟨o, ho, rfl, fa, us, ha, ra⟩ := k.get hi0
  refine ⟨_, ho, .inl ⟨rfl, _, sqL ha⟩, h σ F H k _ fun d Γ1 v F1 H1 q1 s1 k1 r1 => ?_⟩
  obtain ⟨a1, ds1, hi1, hl, q⟩ := q1
  obtain ⟨o1, ho1, rfl, fa1, us1, ha1, ra1⟩ := k1.get hi1
  rw [ho] at ho1
  cases ho1
  have hl' := ra1.len
  obtain ⟨k2, s2⟩ := k1.putL hi1 (ra1.app (.cons r1 .nil))
  exact ⟨a, us1, v, rfl, rfl, ha1, by rw [sizeLine_eq]; omega, po.nx _ σ F1 _ q (s1.trans s2) k2⟩
end
/-! ### defs -/
section
variable {P : Program} {w : World} {K : PySem.W.Frag} {mg : Str → Option Value} {base : Heap}
theorem ok_start {F H : Hp} {N : List Str} {ds : List D} {vs : List V} (s : Same F H) (r : ReA K F ds vs) : Ok K F H (L2.start N vs) (ds.map .v ++ List.replicate (N.length - ds.length) .no) := by
  have e : (foots (ds.map Ent.v ++ List.replicate (N.length - ds.length) .no)) = [] := List.eq_nil_iff_forall_not_mem.mpr fun b m => by
    obtain ⟨e, he, hb⟩ := List.mem_flatMap.mp m
    rcases List.mem_append.mp he with z | z
    · obtain ⟨d, _, rfl⟩ := List.mem_map.mp z
      exact nomatch hb
    · rw [(List.mem_replicate.mp z).2] at hb
      exact nomatch hb
  refine ⟨s, ?_, by rw [e]; exact List.nodup_nil⟩
  unfold L2.start
  have h2 : ∀ n : Nat, Paired (EntOk K F H) (List.replicate n none) (List.replicate n .no) := fun n => by
    induction n with
    | zero => exact .nil
    | succ n ih => exact .cons trivial ih
  rw [r.len]
  have h1 : ∀ {ds : List D} {vs : List V}, ReA K F ds vs → Paired (EntOk K F H) (vs.map some) (ds.map Ent.v) := fun {ds vs} r => by
    induction ds generalizing vs with
    | nil => cases r; exact .nil
    | cons d ds ih => cases r with | cons a t => exact .cons ⟨_, rfl, a⟩ (ih t)
  exact paired_app (h1 r) (h2 _)
theorem foots_start (ds : List D) (n : Nat) : foots (ds.map Ent.v ++ List.replicate n .no) = [] := List.eq_nil_iff_forall_not_mem.mpr fun b m => by
  obtain ⟨e, he, hb⟩ := List.mem_flatMap.mp m
  rcases List.mem_append.mp he with z | z
  · obtain ⟨d, _, rfl⟩ := List.mem_map.mp z
    exact nomatch hb
  · rw [(List.mem_replicate.mp z).2] at hb
    exact nomatch hb
theorem okD {x qual : Str} {st : Stmt} {f : Addr} {fd : FuncData} {N ps : List Str} {k : Nat} {sp : List D → (D → Prop) → Prop} (F : Fun K x qual st f fd) (S : FnScope N ps (defScope st))
    (len : ∀ ds Qp, sp ds Qp → ds.length = ps.length)
    (body : ∀ (cdv : Value) (A : Around) (out : List Env) (s : Shared) (H : Hp) (E : XK), RmG k (A.deeper (envOfC qual (defScope st) s.heap.objs.size f cdv)) → ∀ ds Qp, sp ds Qp →
      WB (cxOf CX0 P w K mg base N qual (defScope st) f cdv A out s H E).nox (defBody st) (ds.map .v ++ List.replicate (N.length - ds.length) .no) ⟨fun _ => Qp .non, fun d _ => Qp d, fun _ => False, fun _ => False⟩) :
    FnG P w K mg base (k + 1) f fd ps (spD K sp) := by
  refine okG F S (fun vs H Q E h => ?_) fun cdv A out s H vs Q E hr h => ?_
  · obtain ⟨F, ds, Qp, _, r, h, _⟩ := h
    exact r.len.symm.trans (len _ _ h)
  · obtain ⟨F, ds, Qp, sm, r, h, q⟩ := h
    refine ⟨_, pb_s, ?_⟩
    refine body cdv A out s H E hr ds Qp h (L2.start N vs) F H (ok_start sm r) _ ⟨fun Γ' σ' F' H' q1 s1 k1 => ?_, fun d Γ' σ' v F' H' q1 s1 k1 r1 => ?_, fun _ _ _ _ z => z.elim, fun _ _ _ _ z => z.elim⟩
    · rw [foots_start] at s1
      exact q _ _ F' H' q1 ⟨s1.sf, s1.kh, s1.ne, s1.fr, nofun⟩ k1.same .non
    · rw [foots_start] at s1
      exact q _ _ F' H' q1 ⟨s1.sf, s1.kh, s1.ne, s1.fr, nofun⟩ k1.same r1
theorem okS {x qual : Str} {st : Stmt} {f : Addr} {fd : FuncData} {N ps : List Str} {k : Nat} {sp : List Int → Int → List D → (D → List Int → Int → Prop) → Prop} (F : Fun K x qual st f fd) (S : FnScope N ps (defScope st))
    (len : ∀ L st ds Qp, sp L st ds Qp → ds.length + 1 = ps.length)
    (body : ∀ (cdv : Value) (A : Around) (out : List Env) (s : Shared) (H : Hp) (E : XK), RmG k (A.deeper (envOfC qual (defScope st) s.heap.objs.size f cdv)) → ∀ h l L n ds Qp, sp L n ds Qp → 0 ≤ n → n < 2147483647 → L.length ≤ 63 →
      WB (cxOf CX0 P w K mg base N qual (defScope st) f cdv A out s H E).nox (defBody st) (.src h l L n :: (ds.map .v ++ List.replicate (N.length - 1 - ds.length) .no))
        ⟨fun Γ' => ∃ L' n', Γ'[0]? = some (.src h l L' n') ∧ Qp .non L' n', fun d Γ' => ∃ L' n', Γ'[0]? = some (.src h l L' n') ∧ Qp d L' n', fun _ => False, fun _ => False⟩) :
    FnG P w K mg base (k + 1) f fd ps (spS K sp) := by
  refine okG F S (fun vs H Q E h => ?_) fun cdv A out s H vs Q E hr h => ?_
  · obtain ⟨F, ds, Qp, h, l, L, st, vs', rfl, _, _, _, _, r, h, _⟩ := h
    rw [List.length_cons, ← r.len]
    exact len _ _ _ _ h
  · obtain ⟨F, ds, Qp, h, l, L, n, vs', rfl, sm, fh, fl, hv, r, hs, q⟩ := h
    refine ⟨_, pb_s, ?_⟩
    have k0 := ok_start (N := N.drop 1) (H := H) sm r
    rw [List.length_drop] at k0
    have ft : foots (.src h l L n :: (ds.map Ent.v ++ List.replicate (N.length - 1 - ds.length) .no)) = [h, l] := by
      rw [foots_cons, foots_start]
      rfl
    have k1 : Ok K F H (L2.start N (.ref h :: vs')) (.src h l L n :: (ds.map Ent.v ++ List.replicate (N.length - 1 - ds.length) .no)) := by
      refine ⟨sm, ?_, by rw [ft]; exact List.nodup_cons.mpr ⟨fun z => hv.ne (List.mem_singleton.mp z).symm, List.nodup_cons.mpr ⟨nofun, List.nodup_nil⟩⟩⟩
      have e : L2.start N (.ref h :: vs') = some (.ref h) :: L2.start (N.drop 1) vs' := by
        unfold L2.start
        rw [List.map_cons, List.length_cons, List.length_drop, Nat.sub_sub, Nat.add_comm 1]
        rfl
      rw [e]
      exact .cons ⟨rfl, fh, fl, hv⟩ k0.ents
    refine body cdv A out s H E hr h l L n ds Qp hs hv.lo hv.hi hv.len _ F H k1 _ ⟨fun Γ' σ' F' H' q1 s1 k2 => ?_, fun d Γ' σ' v F' H' q1 s1 k2 r1 => ?_, fun _ _ _ _ z => z.elim, fun _ _ _ _ z => z.elim⟩
    · rw [ft] at s1
      obtain ⟨L', n', hi, q1⟩ := q1
      obtain ⟨o, ho, e, fh', fl', hv'⟩ := k2.get hi
      exact q _ L' n' _ F' H' q1 ⟨s1.sf, s1.kh, s1.ne, s1.fr, fun _ z => .inl z⟩ k2.same fh' fl' hv' .non
    · rw [ft] at s1
      obtain ⟨L', n', hi, q1⟩ := q1
      obtain ⟨o, ho, e, fh', fl', hv'⟩ := k2.get hi
      exact q _ L' n' _ F' H' q1 ⟨s1.sf, s1.kh, s1.ne, s1.fr, fun _ z => .inl z⟩ k2.same fh' fl' hv' r1
end
end Pu
/-! Loops and comprehensions. -/
namespace Pu
open PySem PySem.Spec PyProof.Rows L2 Gd
def sG (X : Cx) (tg : Expr) : TG := fun v σ H Q => ∀ pins s u, Inv X pins σ H s → RelV v u → wpAny (model X.prog X.w) X.A (assign tg X.env u) (fun _ s' => ∃ σ' H', Inv X pins σ' H' s' ∧ Q σ' H') X.xe s
theorem pg_s {X : Cx} {tg : Expr} : PG X tg (sG X tg) := ⟨fun pins s σ H v u Q I r h => h pins s u I r⟩
def sI (X : Cx) (tg iter : Expr) : TI := fun σ H R => ∀ pins s, Inv X pins σ H s → wpAny (model X.prog X.w) X.A (eval iter X.env) (fun v s1 => wpAny (model X.prog X.w) X.A (pyIter v) (PIE X pins σ tg R) X.xe s1) X.xe s
theorem pi_s {X : Cx} {tg iter : Expr} : PI X tg iter (sI X tg iter) := ⟨fun pins s σ H R I h => h pins s I⟩
theorem sI_of {X : Cx} {tg iter : Expr} {wi : TI} (p : PI X tg iter wi) {σ : L2.St} {H : Hp} {R : It → Hp → Prop} (h : wi σ H R) : sI X tg iter σ H R := fun pins s I => p.run pins s σ H R I h
/-- what an iterator gives, one by one -/
def Yields (K : PySem.W.Frag) (J : It) (F0 : Hp) (P : List Ent → Prop) (ds : List D) : Prop := ∀ i σ F H Γ, Same F0 F → Ok K F H σ Γ → P Γ →
  (∀ d, ds[i]? = some d → J.go i H ∧ ∀ v H', J.yld i H v H' → ∃ F', Step F H (foots Γ) F' H' (foots Γ) ∧ Ok K F' H' σ Γ ∧ Re K F' d v) ∧ (ds.length ≤ i → J.stop i H)
def WI (X : Cx) (tg iter : Expr) (Γ : List Ent) (R : List D → (List Ent → Prop) → List Ent → Prop) : Prop := ∀ σ F H, Ok X.K F H σ Γ → ∀ R' : It → Hp → Prop,
  (∀ J ds P Γ' F' H', R ds P Γ' → Step F H (foots Γ) F' H' (foots Γ') → Ok X.K F' H' σ Γ' → Yields X.K J F' P ds → R' J H') → sI X tg iter σ H R'
/-- a target's store -/
structure TgS (K : PySem.W.Frag) (vs : List Nat) (g : TG) (d : D) (Γ Γ2 : List Ent) : Prop where
  go : ∀ σ F H v, Ok K F H σ Γ → Re K F d v → ∀ Q : L2.St → Hp → Prop, (∀ σ2, Ok K F H σ2 Γ2 → wipe σ2 vs = wipe σ vs → Q σ2 H) → g v σ H Q
  ft : foots Γ2 ⊆ foots Γ
theorem wipe_set {vs : List Nat} : ∀ {σ : L2.St} {i : Nat} {o : Option V}, i ∈ vs → wipe (σ.set i o) vs = wipe σ vs := by
  induction vs with
  | nil => intro σ i o h; exact nomatch h
  | cons v vs ih =>
    intro σ i o h
    unfold wipe
    by_cases e : i ∈ vs
    · rw [ih e]
    · have e2 : i = v := (List.mem_cons.mp h).resolve_right e
      subst e2
      have : ∀ {vs : List Nat} {σ : L2.St}, i ∉ vs → wipe (σ.set i o) vs = (wipe σ vs).set i o := by
        intro vs
        induction vs with
        | nil => intro σ _; rfl
        | cons y ys ih =>
          intro σ n
          unfold wipe
          rw [ih fun z => n (List.mem_cons_of_mem _ z), List.set_comm _ _ fun z => n (by rw [← z]; exact List.mem_cons_self)]
      rw [this e, List.set_set]
theorem foots_setV {Γ : List Ent} {i : Nat} {d : D} : foots (Γ.set i (.v d)) ⊆ foots Γ := fun b m => (foots_set_mem m).elim nofun id
theorem tg_name {K : PySem.W.Frag} {vs : List Nat} {d : D} {Γ : List Ent} (i : Nat) (h : i ∈ vs := by decide) : TgS K vs (gName i) d Γ (Γ.set i (.v d)) := ⟨fun σ F H v k r Q q => q _ (k.setV r) (wipe_set h), foots_setV⟩
theorem tg_two {K : PySem.W.Frag} {vs : List Nat} {d e : D} {Γ : List Ent} (i j : Nat) (h : i ∈ vs := by decide) (h2 : j ∈ vs := by decide) : TgS K vs (gTup K 2 (gCons (gName i) (gCons (gName j) gNil))) (.tup [d, e]) Γ ((Γ.set i (.v d)).set j (.v e)) := by
  refine ⟨fun σ F H v k r Q q => ?_, fun b m => foots_setV (foots_setV m)⟩
  cases r with
  | tup hs ra =>
    obtain ⟨v1, v2, rfl, r1, r2⟩ := reA2 ra
    exact ⟨_, _, rfl, same_seqT k.same hs, rfl, _, _, rfl, _, _, rfl, rfl, q _ ((k.setV r1).setV r2) (by rw [wipe_set h2, wipe_set h])⟩
theorem tg_three {K : PySem.W.Frag} {vs : List Nat} {d e f : D} {Γ : List Ent} (i j l : Nat) (h : i ∈ vs := by decide) (h2 : j ∈ vs := by decide) (h3 : l ∈ vs := by decide) : TgS K vs (gTup K 3 (gCons (gName i) (gCons (gName j) (gCons (gName l) gNil)))) (.tup [d, e, f]) Γ (((Γ.set i (.v d)).set j (.v e)).set l (.v f)) := by
  refine ⟨fun σ F H v k r Q q => ?_, fun b m => foots_setV (foots_setV (foots_setV m))⟩
  cases r with
  | tup hs ra =>
    cases ra with
    | cons r1 ra =>
      obtain ⟨v1, v2, rfl, r2, r3⟩ := reA2 ra
      exact ⟨_, _, rfl, same_seqT k.same hs, rfl, _, _, rfl, _, _, rfl, _, _, rfl, rfl, q _ (((k.setV r1).setV r2).setV r3) (by rw [wipe_set h3, wipe_set h2, wipe_set h])⟩
section
variable {X : Cx} {Γ : List Ent} {E : Eds} {body : List Stmt} {tg iter e e2 c elt : Expr} {pos p : Pos} {R : List D → (List Ent → Prop) → List Ent → Prop} {QA : List D → List Ent → Prop}
theorem wi_tup (h : WE X e Γ fun d Γ1 => ∃ ds, d = .tup ds ∧ R ds (fun _ => True) Γ1) : WI X tg e Γ R := fun σ F H k R' po => by
  refine sI_of (pi_tup pe_s) (h σ F H k _ fun d Γ1 v F1 H1 q1 s1 k1 r1 => ?_)
  obtain ⟨ds, rfl, q⟩ := q1
  cases r1 with
  | tup hs ra =>
    refine ⟨_, rfl, ⟨_, same_seqT k1.same hs⟩, po _ ds _ Γ1 F1 H1 q s1 k1 fun i σ F H Γ sm k _ => ?_⟩
    have hq := same_seqT k.same (same_seqT sm hs)
    refine ⟨fun d hd => ?_, fun hi => ⟨_, hq, by rw [← ra.len]; exact hi⟩⟩
    obtain ⟨v, hv, rv⟩ := ra.get hd
    exact ⟨⟨_, v, hq, hv⟩, fun u H' ⟨e1, e2⟩ => by subst e1; exact ⟨F, .refl _ _ _, k, by rw [Option.some.inj ((e2 _ hq).symm.trans hv)]; exact rv.same sm⟩⟩
theorem wi_lst (h : WE X e Γ fun d Γ1 => ∃ ds, d = .lst ds ∧ R ds (fun _ => True) Γ1) : WI X tg e Γ R := fun σ F H k R' po => by
  refine sI_of (pi_list pe_s) (h σ F H k _ fun d Γ1 v F1 H1 q1 s1 k1 r1 => ?_)
  obtain ⟨ds, rfl, q⟩ := q1
  cases r1 with
  | lst hs ra =>
    refine ⟨_, rfl, ⟨_, sqL (k1.same _ _ hs)⟩, po _ ds _ Γ1 F1 H1 q s1 k1 fun i σ F H Γ sm k _ => ?_⟩
    have hq := sqL (K := X.K) (k.same _ _ (sm _ _ hs))
    refine ⟨fun d hd => ?_, fun hi => ⟨_, hq, by rw [← ra.len]; exact hi⟩⟩
    obtain ⟨v, hv, rv⟩ := ra.get hd
    exact ⟨⟨_, v, hq, hv⟩, fun u H' ⟨e1, e2⟩ => by subst e1; exact ⟨F, .refl _ _ _, k, by rw [Option.some.inj ((e2 _ hq).symm.trans hv)]; exact rv.same sm⟩⟩
/-- over a list of one's own that stays as it is meanwhile -/
theorem wi_own (j : Nat) (h : WE X e Γ fun d Γ1 => ∃ a ds, d = .adr a ∧ Γ1[j]? = some (Ent.l a ds) ∧ R ds (fun Γ => Γ[j]? = some (Ent.l a ds)) Γ1) : WI X tg e Γ R := fun σ F H k R' po => by
  refine sI_of (pi_list pe_s) (h σ F H k _ fun d Γ1 v F1 H1 q1 s1 k1 r1 => ?_)
  obtain ⟨a, ds, rfl, hj, q⟩ := q1
  cases r1
  obtain ⟨_, _, _, _, us, ha, ra⟩ := k1.get hj
  refine ⟨_, rfl, ⟨_, sqL ha⟩, po _ ds _ Γ1 F1 H1 q s1 k1 fun i σ F H Γ sm k hP => ?_⟩
  obtain ⟨_, _, _, _, us, ha, ra⟩ := k.get hP
  have hq := sqL (K := X.K) ha
  refine ⟨fun d hd => ?_, fun hi => ⟨_, hq, by rw [← ra.len]; exact hi⟩⟩
  obtain ⟨v, hv, rv⟩ := ra.get hd
  exact ⟨⟨_, v, hq, hv⟩, fun u H' ⟨e1, e2⟩ => by subst e1; exact ⟨F, .refl _ _ _, k, by rw [Option.some.inj ((e2 _ hq).symm.trans hv)]; exact rv⟩⟩
/-- lo, lo + 1, .. -/
def rngD (lo : Int) (n : Nat) : List D := (List.range n).map fun i : Nat => .int (lo + i)
theorem yields_rng {K : PySem.W.Frag} {lo : Int} {n : Nat} {F0 : Hp} : Yields K (Itr lo n) F0 (fun _ => True) (rngD lo n) := fun i σ F H Γ sm k _ => by
  refine ⟨fun d hd => ?_, fun hi => ?_⟩
  · unfold rngD at hd
    rw [List.getElem?_map] at hd
    by_cases hn : i < n
    · rw [List.getElem?_range hn] at hd
      cases hd
      exact ⟨hn, fun v H' ⟨e1, e2⟩ => by subst e1 e2; exact ⟨F, .refl _ _ _, k, .int _⟩⟩
    · rw [List.getElem?_eq_none (by simpa using hn)] at hd
      cases hd
  · unfold rngD at hi
    rw [List.length_map, List.length_range] at hi
    exact hi
theorem wi_rng1 (hm : X.mg "range" = none) (h : WE X e Γ fun d Γ1 => ∃ j : Int, d = .int j ∧ (-(2 ^ 62) ≤ j ∧ j < 2 ^ 62) ∧ R (rngD 0 j.toNat) (fun _ => True) Γ1) (hg : Gl X "range" := by rfl) (hs : starEach [e] X.env = [(false, eval e X.env)] := by rfl) : WI X tg (.Call (.Name "range" p) [e] [] pos) Γ R := fun σ F H k R' po => by
  refine sI_of (pi_range1 hg hm (pa_cons pe_s pa_nil hs) hs) (h σ F H k _ fun d Γ1 v F1 H1 q1 s1 k1 r1 => ?_)
  obtain ⟨j, rfl, ⟨b1, b2⟩, q⟩ := q1
  cases r1
  exact ⟨j, rfl, b1, b2, po _ _ _ Γ1 F1 H1 q s1 k1 yields_rng⟩
theorem wi_rng2 (hm : X.mg "range" = none) (h : WE X e Γ fun d Γ1 => WE X e2 Γ1 fun d2 Γ2 => ∃ i j : Int, d = .int i ∧ d2 = .int j ∧ (-(2 ^ 62) ≤ i ∧ i < 2 ^ 62 ∧ -(2 ^ 62) ≤ j ∧ j < 2 ^ 62) ∧ R (rngD i (j - i).toNat) (fun _ => True) Γ2) (hg : Gl X "range" := by rfl) (hs : starEach [e, e2] X.env = [(false, eval e X.env), (false, eval e2 X.env)] := by rfl) (hs2 : starEach [e2] X.env = [(false, eval e2 X.env)] := by rfl) : WI X tg (.Call (.Name "range" p) [e, e2] [] pos) Γ R := fun σ F H k R' po => by
  refine sI_of (pi_range2 hg hm (pa_cons pe_s (pa_cons pe_s pa_nil hs2) (by rw [hs, hs2])) hs hs2) (h σ F H k _ fun d Γ1 v F1 H1 q1 s1 k1 r1 => ?_)
  refine q1 σ F1 H1 k1 _ fun d2 Γ2 v2 F2 H2 q2 s2 k2 r2 => ?_
  obtain ⟨i, j, rfl, rfl, b, q⟩ := q2
  cases r1
  cases r2
  exact ⟨i, j, rfl, b, po _ _ _ Γ2 F2 H2 q (s1.trans s2) k2 yields_rng⟩
def enumD (ds : List D) : List D := ds.mapIdx fun i d => .tup [.int (i : Nat), d]
/-- enumerate(t) of a tuple -/
theorem wi_en {ts : List Expr} {kk : Nat} {tp : Pos} (hm : X.mg "enumerate" = none) (h : WE X e Γ fun d Γ1 => ∃ ds, d = .tup ds ∧ R (enumD ds) (fun _ => True) Γ1) (hg : Gl X "enumerate" := by rfl) (hs : starEach [e] X.env = [(false, eval e X.env)] := by rfl) : WI X (.Tuple ts kk tp) (.Call (.Name "enumerate" p) [e] [] pos) Γ R := fun σ F H k R' po => by
  refine sI_of (pi_enT hg hm (pa_cons pe_s pa_nil hs) hs) (h σ F H k _ fun d Γ1 v F1 H1 q1 s1 k1 r1 => ?_)
  obtain ⟨ds, rfl, q⟩ := q1
  cases r1 with
  | tup hs ra =>
    refine ⟨_, _, rfl, same_seqT k1.same hs, po _ _ _ Γ1 F1 H1 q s1 k1 fun i σ F H Γ sm k _ => ?_⟩
    have hq := same_seqT k.same (same_seqT sm hs)
    refine ⟨fun d hd => ?_, fun hi => ⟨_, hq, by rw [← ra.len]; simpa [enumD] using hi⟩⟩
    unfold enumD at hd
    rw [List.getElem?_mapIdx] at hd
    cases hdi : ds[i]? with
    | none => rw [hdi] at hd; cases hd
    | some d0 =>
      rw [hdi] at hd
      cases hd
      obtain ⟨v, hv, rv⟩ := ra.get hdi
      refine ⟨⟨_, v, hq, hv⟩, fun u H' ⟨T, x, e1, nT, e2, e3⟩ => ?_⟩
      subst e1 e2
      have ex : x = v := Option.some.inj ((e3 _ hq).symm.trans hv)
      subst ex
      exact ⟨upd F T (.tup [.int (i : Nat), x]), .new k.same nT, k.new nT, .tup (sqT upd_same) (.cons (.int _) (.cons ((rv.same sm).same (same_new (k.same.free nT))) .nil))⟩
theorem wi_str (h : WE X e Γ fun d Γ1 => ∃ z : Str, d = .str z ∧ R (z.cps.toList.map fun c => .str ⟨#[c]⟩) (fun _ => True) Γ1) : WI X tg e Γ R := fun σ F H k R' po => by
  refine sI_of (pi_str pe_s) (h σ F H k _ fun d Γ1 v F1 H1 q1 s1 k1 r1 => ?_)
  obtain ⟨z, rfl, q⟩ := q1
  cases r1
  refine ⟨z, rfl, po _ _ _ Γ1 F1 H1 q s1 k1 fun i σ F H Γ sm k _ => ⟨fun d hd => ?_, fun hi => ?_⟩⟩
  · rw [List.getElem?_map] at hd
    cases hdi : z.cps.toList[i]? with
    | none => rw [hdi] at hd; cases hd
    | some c =>
      rw [hdi] at hd
      cases hd
      have hlt := (List.getElem?_eq_some_iff.mp hdi).1
      refine ⟨by show i < z.cps.size; simpa using hlt, fun v H' ⟨e1, c2, hc2, e2⟩ => ?_⟩
      subst e1 e2
      have : c2 = c := by
        have hc3 : z.cps.toList[i]? = some c2 := by simpa using hc2
        exact Option.some.inj (hc3.symm.trans hdi)
      subst this
      exact ⟨F, .refl _ _ _, k, .str _⟩
  · show z.cps.size ≤ i
    simpa using hi
/-- for; vs: the target's slots -/
theorem ws_for (vs : List Nat) {g : TG} (hg : PG X tg g) (h : WI X tg iter Γ fun ds P Γ1 => ∃ I : Nat → List Ent → Prop, I 0 Γ1 ∧ (∀ i Γ, i ≤ ds.length → I i Γ → P Γ) ∧
    (∀ i d Γ, ds[i]? = some d → I i Γ → ∃ Γ2, TgS X.K vs g d Γ Γ2 ∧ WB X body Γ2 ⟨I (i + 1), E.rt, E.nx, I (i + 1)⟩) ∧ ∀ Γ, I ds.length Γ → E.nx Γ) (hp : PassesOwn (model X.prog X.w) X.A X.env X.xe := by exact PassesOwn.never) (hc : X.calm = true := by rfl) (hs : ∀ x, foldedSetIterable iter X.env x = pure x := by intro _; rfl) : WS X (.For tg iter body [] pos) Γ E := fun σ F H k Dn po => by
  refine sS_of (ps_for hp hc pi_s hg pb_s hs) (h σ F H k _ fun J ds P Γ1 F1 H1 q1 s1 k1 y => ?_)
  obtain ⟨I, i0, hP, turn, fin⟩ := q1
  have po1 := po.step s1
  refine ⟨fun i m σ H => m = ds.length - i ∧ i ≤ ds.length ∧ ∃ F Γ, I i Γ ∧ Ok X.K F H σ Γ ∧ Step F1 H1 (foots Γ1) F H (foots Γ), ⟨_, rfl, Nat.zero_le _, F1, Γ1, i0, k1, .refl _ _ _⟩, fun i m σ2 H2 hw => ?_⟩
  obtain ⟨rfl, hi, F2, Γ2, q2, k2, s2⟩ := hw
  obtain ⟨y1, y2⟩ := y i σ2 F2 H2 Γ2 s2.sf k2 (hP i Γ2 hi q2)
  by_cases hlt : i < ds.length
  · obtain ⟨hgo, hy⟩ := y1 _ (List.getElem?_eq_getElem hlt)
    have e2 := (po1.step s2)
    refine .inr ⟨hgo, fun σ' H' => ∃ F Γ, I (i + 1) Γ ∧ Ok X.K F H' σ' Γ ∧ Step F1 H1 (foots Γ1) F H' (foots Γ), fun σ' H' ⟨F, Γ, q, k, s⟩ => ⟨_, by omega, rfl, hlt, F, Γ, q, k, s⟩, fun v H' hv => ?_⟩
    obtain ⟨F3, s3, k3, r3⟩ := hy v H' hv
    obtain ⟨Γ4, T, b⟩ := turn i _ Γ2 (List.getElem?_eq_getElem hlt) q2
    refine T.go σ2 F3 H' v k3 r3 _ fun σ4 k4 _ => ?_
    have s4 : Step F3 H' (foots Γ2) F3 H' (foots Γ4) := ⟨.refl _, fun _ _ _ e => e, fun _ h => h, fun _ _ _ e => e, fun _ h => .inl (T.ft h)⟩
    have s14 := (s2.trans s3).trans s4
    have po4 := po1.step s14
    exact b σ4 F3 H' k4 _ ⟨fun Γ' σ' F' H2 q s k => ⟨F', Γ', q, k, s14.trans s⟩, po4.rt, po4.nx, fun Γ' σ' F' H2 q s k => ⟨F', Γ', q, k, s14.trans s⟩⟩
  · have e : i = ds.length := by omega
    subst e
    exact .inl ⟨y2 (Nat.le_refl _), po1.nx Γ2 σ2 F2 H2 (fin Γ2 q2) s2 k2⟩
theorem ws_while (I : List Ent → Prop) (μ : List Ent → Nat) (h0 : I Γ) (h : ∀ Γ, I Γ → WT X c Γ fun b Γ1 => (b = true → WB X body Γ1 ⟨fun Γ' => I Γ' ∧ μ Γ' < μ Γ, E.rt, E.nx, fun Γ' => I Γ' ∧ μ Γ' < μ Γ⟩) ∧ (b = false → E.nx Γ1)) (hp : PassesOwn (model X.prog X.w) X.A X.env X.xe := by exact PassesOwn.never) : WS X (.While c body [] pos) Γ E := fun σ F H k Dn po => by
  refine sS_of (ps_while hp pt_s pb_s) ⟨fun m σ2 H2 => ∃ F2 Γ2, m = μ Γ2 ∧ I Γ2 ∧ Ok X.K F2 H2 σ2 Γ2 ∧ Step F H (foots Γ) F2 H2 (foots Γ2), ⟨_, F, Γ, rfl, h0, k, .refl _ _ _⟩, fun m σ2 H2 hw => ?_⟩
  obtain ⟨F2, Γ2, rfl, q2, k2, s2⟩ := hw
  refine h Γ2 q2 σ2 F2 H2 k2 _ fun b Γ3 F3 H3 q3 s3 k3 => ?_
  cases b with
  | false => exact iteF (po.nx Γ3 σ2 F3 H3 (q3.2 rfl) (s2.trans s3) k3)
  | true =>
    have po3 := po.step (s2.trans s3)
    refine iteT ⟨fun σ' H' => ∃ F' Γ', (I Γ' ∧ μ Γ' < μ Γ2) ∧ Ok X.K F' H' σ' Γ' ∧ Step F H (foots Γ) F' H' (foots Γ'), fun σ' H' ⟨F', Γ', ⟨q, l⟩, k, s⟩ => ⟨_, l, F', Γ', rfl, q, k, s⟩, ?_⟩
    exact q3.1 rfl σ2 F3 H3 k3 _ ⟨fun Γ' σ' F' H2 q s k => ⟨F', Γ', q, k, (s2.trans s3).trans s⟩, po3.rt, po3.nx, fun Γ' σ' F' H2 q s k => ⟨F', Γ', q, k, (s2.trans s3).trans s⟩⟩
/-! ### comprehensions -/
def wipeE (Γ : List Ent) : List Nat → List Ent
  | [] => Γ
  | v :: vs => (wipeE Γ vs).set v .no
theorem wipeE_set {v : Nat} : ∀ {vs : List Nat} {Γ : List Ent}, (wipeE Γ vs).set v .no = wipeE (Γ.set v .no) vs
  | [], _ => rfl
  | y :: ys, Γ => by
    unfold wipeE
    rw [← wipeE_set (vs := ys)]
    by_cases e : v = y
    · subst e
      rw [List.set_set]
    · exact List.set_comm _ _ (Ne.symm e)
theorem ok_no {K : PySem.W.Frag} {F H : Hp} {σ : L2.St} {Γ : List Ent} {v : Nat} {o : Option V} (k : Ok K F H σ Γ) : Ok K F H (σ.set v o) (Γ.set v .no) := k.set (e := .no) trivial List.nodup_nil nofun
theorem ok_wipe {K : PySem.W.Frag} {F H : Hp} {σ : L2.St} {Γ : List Ent} (k : Ok K F H σ Γ) : ∀ vs : List Nat, Ok K F H (wipe σ vs) (wipeE Γ vs)
  | [] => k
  | v :: vs => ok_no (ok_wipe k vs)
theorem ok_unset {K : PySem.W.Frag} {F H : Hp} {σ : L2.St} {Γ : List Ent} {v : Nat} (k : Ok K F H (σ.set v none) (Γ.set v .no)) : Ok K F H σ (Γ.set v .no) := by
  by_cases e : v < σ.length
  · have z := ok_no (v := v) (o := σ[v]) k
    rw [List.set_set, List.set_set, List.set_getElem_self] at z
    exact z
  · rwa [List.set_eq_of_length_le (by omega)] at k
theorem ok_unwipe {K : PySem.W.Frag} {F H : Hp} {σ : L2.St} : ∀ {vs : List Nat} {Γ : List Ent}, Ok K F H (wipe σ vs) (wipeE Γ vs) → Ok K F H σ (wipeE Γ vs)
  | [], _, k => k
  | v :: vs, Γ, k => by
    unfold wipeE at k ⊢
    unfold wipe at k
    have z := ok_unset k
    rw [wipeE_set] at z ⊢
    exact ok_unwipe z
theorem foots_wipeE {Γ : List Ent} : ∀ {vs : List Nat}, foots (wipeE Γ vs) ⊆ foots Γ
  | [] => fun _ h => h
  | v :: vs => fun b m => (foots_set_mem m).elim nofun fun z => foots_wipeE (vs := vs) z
/-- a clause's tests -/
def sTs (X : Cx) (ifs : List Expr) : TT := fun σ H Q => ∀ pins s, Inv X pins σ H s → wpAny (model X.prog X.w) X.A (forIn ifs true fun c r => if r = true then do let ok ← isTrue c X.env (eval c X.env); pure (ForInStep.yield ok) else pure (ForInStep.yield r)) (TP X pins σ Q) X.xe s
theorem pts_s {X : Cx} {ifs : List Expr} : PTs X ifs (sTs X ifs) := ⟨fun pins s σ H Q I h => h pins s I⟩
def WTs (X : Cx) (ifs : List Expr) (Γ : List Ent) (Q : Bool → List Ent → Prop) : Prop := ∀ σ F H, Ok X.K F H σ Γ → ∀ Q', PostB X.K F H σ Γ Q Q' → sTs X ifs σ H Q'
theorem wts_nil {Q : Bool → List Ent → Prop} (q : Q true Γ) : WTs X [] Γ Q := fun σ F H k Q' po => fun pins s I => pts_nil.run pins s σ H Q' I (po true Γ F H q (.refl _ _ _) k)
theorem wts_one {Q : Bool → List Ent → Prop} (h : WT X c Γ Q) : WTs X [c] Γ Q := fun σ F H k Q' po => fun pins s I => (pts_one pt_s).run pins s σ H Q' I (h σ F H k Q' po)
/-- in any block of the comprehension -/
abbrev InB (X : Cx) (scope : Scope) (J : Cx → Prop) : Prop := ∀ (s : Shared) (H : Hp) (C : Addr) (cl : List (Str × Addr)) (fp : List Addr), J (X.blk s H scope (compEnvC scope cl C X.env) fp)
/-- what a comprehension asks: I holds with what is made so far -/
def LcP (X : Cx) (tg iter elt : Expr) (ifs : List Expr) (scope : Scope) (own : List (Str × Nat)) (g : TG) (Γ : List Ent) (QA : List D → List Ent → Prop) : Prop :=
  WI X tg iter Γ fun ds P Γ1 => ∃ I : Nat → List D → List Ent → Prop, I 0 [] Γ1 ∧ (∀ i acc Γ, i ≤ ds.length → I i acc Γ → P Γ ∧ acc.length ≤ 100000) ∧
      (∀ i acc d Γ, ds[i]? = some d → I i acc Γ → ∃ Γ2, TgS X.K (own.map (·.2)) g d (wipeE Γ (own.map (·.2))) Γ2 ∧ InB X scope fun Y => WTs Y ifs Γ2 fun b Γ3 => (b = true → InB X scope fun Y => WE Y elt Γ3 fun y Γ4 => I (i + 1) (acc ++ [y]) (wipeE Γ4 (own.map (·.2)))) ∧ (b = false → I (i + 1) acc (wipeE Γ3 (own.map (·.2))))) ∧
      ∀ acc Γ, I ds.length acc Γ → QA acc Γ
abbrev ttB (X : Cx) (scope : Scope) (ifs : List Expr) : TT := fun σ H Q => InB X scope fun Y => sTs Y ifs σ H Q
abbrev teB (X : Cx) (scope : Scope) (elt : Expr) : TE := fun σ H Q => InB X scope fun Y => sE Y elt σ H Q
theorem lc_read {g : TG} {ifs : List Expr} {scope : Scope} {own : List (Str × Nat)} (h : LcP X tg iter elt ifs scope own g Γ QA) {σ : L2.St} {F H : Hp} (k : Ok X.K F H σ Γ) {Q' : VK} (po : PostN X.K F H σ Γ QA Q') : tLc (sI X tg iter) g (ttB X scope ifs) (teB X scope elt) (own.map (·.2)) σ H Q' := by
  refine h σ F H k _ fun J ds P Γ1 F1 H1 q1 s1 k1 y => ?_
  obtain ⟨I, i0, hP, turn, fin⟩ := q1
  have po1 := po.step s1
  intro D0 nD
  have fD1 := k1.same.free nD
  refine ⟨fun i m H => m = ds.length - i ∧ i ≤ ds.length ∧ ∃ F Γ acc av, I i acc Γ ∧ Ok X.K F H σ Γ ∧ Step F1 H1 (foots Γ1) F H (foots Γ) ∧ H D0 = some (.lst av) ∧ F D0 = none ∧ D0 ∉ foots Γ ∧ ReA X.K F acc av,
    ⟨_, rfl, Nat.zero_le _, F1, Γ1, [], [], i0, k1.own nD, .own nD, upd_same, fD1, fun m => (k1.has m).2 nD, .nil⟩, fun i m H2 hw => ?_⟩
  obtain ⟨rfl, hi, F2, Γ2, acc, av, q2, k2, s2, hD, fD, mD, ra⟩ := hw
  obtain ⟨hPi, hal⟩ := hP i acc Γ2 hi q2
  obtain ⟨y1, y2⟩ := y i σ F2 H2 Γ2 s2.sf k2 hPi
  by_cases hlt : i < ds.length
  · obtain ⟨hgo, hy⟩ := y1 _ (List.getElem?_eq_getElem hlt)
    refine .inr ⟨hgo, fun H' => ∃ F Γ acc av, I (i + 1) acc Γ ∧ Ok X.K F H' σ Γ ∧ Step F1 H1 (foots Γ1) F H' (foots Γ) ∧ H' D0 = some (.lst av) ∧ F D0 = none ∧ D0 ∉ foots Γ ∧ ReA X.K F acc av, fun H' z => ⟨_, by omega, rfl, hlt, z⟩, fun v H' hv => ?_⟩
    obtain ⟨F3, s3, k3, r3⟩ := hy v H' hv
    have hD3 := s3.kh _ _ mD hD
    have fD3 := s3.fr _ mD (by rw [hD]; exact nofun) fD
    obtain ⟨Γ4, T, b⟩ := turn i acc _ Γ2 (List.getElem?_eq_getElem hlt) q2
    refine T.go _ F3 H' v (ok_wipe k3 _) r3 _ fun σ4 k4 w4 => ⟨?_, ?_⟩
    · rw [w4]
      have : ∀ (vs : List Nat) (σ : L2.St), wipe (wipe σ vs) vs = wipe σ vs := by
        intro vs
        induction vs with
        | nil => intro σ; rfl
        | cons v vs ih =>
          intro σ
          show (wipe ((wipe σ vs).set v none) vs).set v none = (wipe σ vs).set v none
          by_cases e : v ∈ vs
          · rw [wipe_set e, ih]
          · have : ∀ {vs : List Nat} {σ : L2.St} {o : Option V}, v ∉ vs → wipe (σ.set v o) vs = (wipe σ vs).set v o := by
              intro vs
              induction vs with
              | nil => intro σ o _; rfl
              | cons y ys ih =>
                intro σ o n
                unfold wipe
                rw [ih fun z => n (List.mem_cons_of_mem _ z), List.set_comm _ _ fun z => n (by rw [← z]; exact List.mem_cons_self)]
            rw [this e, ih, List.set_set]
      exact this _ _
    · have w5 : wipe σ4 (own.map (·.2)) = wipe σ (own.map (·.2)) := by
        rw [w4]
        have : ∀ (vs : List Nat) (σ : L2.St), wipe (wipe σ vs) vs = wipe σ vs := by
          intro vs
          induction vs with
          | nil => intro σ; rfl
          | cons v vs ih =>
            intro σ
            show (wipe ((wipe σ vs).set v none) vs).set v none = (wipe σ vs).set v none
            by_cases e : v ∈ vs
            · rw [wipe_set e, ih]
            · have : ∀ {vs : List Nat} {σ : L2.St} {o : Option V}, v ∉ vs → wipe (σ.set v o) vs = (wipe σ vs).set v o := by
                intro vs
                induction vs with
                | nil => intro σ o _; rfl
                | cons y ys ih =>
                  intro σ o n
                  unfold wipe
                  rw [ih fun z => n (List.mem_cons_of_mem _ z), List.set_comm _ _ fun z => n (by rw [← z]; exact List.mem_cons_self)]
              rw [this e, ih, List.set_set]
        exact this _ _
      have s4 : Step F3 H' (foots Γ2) F3 H' (foots Γ4) := ⟨.refl _, fun _ _ _ e => e, fun _ h => h, fun _ _ _ e => e, fun _ h => .inl (foots_wipeE (T.ft h))⟩
      have s14 := (s2.trans s3).trans s4
      have back : ∀ {F H Γ}, Ok X.K F H σ4 Γ → Ok X.K F H σ (wipeE Γ (own.map (·.2))) := fun {F H Γ} k => by
        have z := ok_wipe k (own.map (·.2))
        rw [w5] at z
        exact ok_unwipe z
      have mD4 : D0 ∉ foots Γ4 := fun m => mD (foots_wipeE (T.ft m))
      intro s5 H5 C5 cl5 fp5
      refine b s5 H5 C5 cl5 fp5 σ4 F3 H' k4 _ fun bb Γ5 F5 H6 q5 st5 k5 => ?_
      have hD5 := st5.kh _ _ mD4 hD3
      have fD5 := st5.fr _ mD4 (by rw [hD3]; exact nofun) fD3
      have mD5 : D0 ∉ foots Γ5 := fun m => (st5.ow _ m).elim mD4 fun z => by rw [hD3] at z; cases z
      cases bb with
      | false =>
        refine iteF ⟨F5, _, acc, av, q5.2 rfl, back k5, ?_, hD5, fD5, fun m => mD5 (foots_wipeE m), (ra.same s3.sf).same st5.sf⟩
        exact (s14.trans st5).trans ⟨.refl _, fun _ _ _ e => e, fun _ h => h, fun _ _ _ e => e, fun _ h => .inl (foots_wipeE h)⟩
      | true =>
        refine iteT fun s6 H7 C6 cl6 fp6 => ?_
        refine q5.1 rfl s6 H7 C6 cl6 fp6 σ4 F5 H6 k5 _ fun yv Γ6 u F6 H8 q6 st6 k6 r6 => ?_
        have hD6 := st6.kh _ _ mD5 hD5
        have fD6 := st6.fr _ mD5 (by rw [hD5]; exact nofun) fD5
        have mD6 : D0 ∉ foots Γ6 := fun m => (st6.ow _ m).elim mD5 fun z => by rw [hD5] at z; cases z
        have rl := ra.len
        refine ⟨av, hD6, by rw [sizeLine_eq]; omega, F6, _, acc ++ [yv], av ++ [u], q6, ?_, ?_, upd_same, fD6, fun m => mD6 (foots_wipeE m), (((ra.same s3.sf).same st5.sf).same st6.sf).app (.cons r6 .nil)⟩
        · have kb := back k6
          refine kb.keep (.refl _) (fun b o z => ?_) fun b m => ⟨(kb.has m).1, fun o z => ?_⟩
          · exact (upd_ne fun e => by rw [e, fD6] at z; cases z).trans (kb.same _ _ z)
          · exact (upd_ne fun e => mD6 (foots_wipeE (by rw [← e]; exact m))).trans z
        · have st := ((s14.trans st5).trans st6)
          have no1 : D0 ∉ foots Γ1 := fun m => (k1.has m).2 nD
          refine ⟨st.sf, fun b o n e => ?_, fun b h => ?_, st.fr, fun b m => st.ow b (foots_wipeE m)⟩
          · exact (upd_ne (ne_of_none e nD)).trans (st.kh b o n e)
          · by_cases e : b = D0
            · rw [e, upd_same]; exact nofun
            · rw [upd_ne e]; exact st.ne b h
  · have e : i = ds.length := by omega
    subst e
    refine .inl ⟨y2 (Nat.le_refl _), po1 acc Γ2 D0 av F2 H2 (fin acc Γ2 q2) s2 k2 ?_ fD mD hD ra⟩
    exact nD
theorem wn_lc {g : TG} {ifs : List Expr} {scope : Scope} {own : List (Str × Nat)} (hN : X.N.Nodup) (ok : BlkOk X.N X.env.scope scope own) (hg : InB X scope fun Y => PG Y tg g) (h : LcP X tg iter elt ifs scope own g Γ QA) (hc : X.calm = true := by rfl) (hs : ∀ x, foldedSetIterable iter X.env x = pure x := by intro _; rfl) : WN X (.ListComp elt [⟨tg, iter, ifs, 0⟩] scope pos) Γ QA := fun σ F H k Q' po =>
  sE_of (pe_lc (tt := ttB X scope ifs) (te := teB X scope elt) hc hN pi_s ok hg (fun s H0 C cl fp => ⟨fun pins s2 σ H Q I h => h s H0 C cl fp pins s2 I⟩) (fun s H0 C cl fp => ⟨fun pins s2 σ H Q I h => h s H0 C cl fp pins s2 I⟩) hs) (lc_read h k po)
/-- name = [..] on one line, the name a plain local -/
theorem ws_lc (i : Nat) {g : TG} {ifs : List Expr} {scope : Scope} {own : List (Str × Nat)} {y : Str} {py spos : Pos} (hN : X.N.Nodup) (ok : BlkOk X.N X.env.scope scope own) (hg : InB X scope fun Y => PG Y tg g) (h : LcP X tg iter elt ifs scope own g Γ fun ds Γ1 => ∀ a, E.nx (Γ1.set i (.l a ds)))
    (hy : X.N[i]? = some y := by rfl) (hyl : X.env.scope.names.lookup y = some .local := by rfl) (hsw : swapsWith (.ListComp elt [⟨tg, iter, ifs, 0⟩] scope pos) (some (.Name y py)) spos.line X.env = pure true := by exact sw_true rfl rfl rfl (by decide +kernel)) (hc : X.calm = true := by rfl) (hs : ∀ x, foldedSetIterable iter X.env x = pure x := by intro _; rfl) :
    WS X (.Assign [.Name y py] (.ListComp elt [⟨tg, iter, ifs, 0⟩] scope pos) spos) Γ E := fun σ F H k Dn po =>
  sS_of (ps_setLc (tt := ttB X scope ifs) (te := teB X scope elt) hc hN hy hyl hsw pi_s ok hg (fun s H0 C cl fp => ⟨fun pins s2 σ H Q I h => h s H0 C cl fp pins s2 I⟩) (fun s H0 C cl fp => ⟨fun pins s2 σ H Q I h => h s H0 C cl fp pins s2 I⟩) hs) (lc_read h k (Q' := fun v H1 => Dn.nx (σ.set i (some v)) H1) fun ds Γ1 a vs F1 H1 q1 s1 k1 na fa nm ha r1 => by
    refine po.nx _ _ F1 H1 (q1 a) ⟨s1.sf, s1.kh, s1.ne, s1.fr, fun b m => ?_⟩ (k1.set (e := .l a ds) ⟨rfl, fa, vs, ha, r1⟩ (List.nodup_cons.mpr ⟨nofun, List.nodup_nil⟩) fun b m => by cases List.mem_singleton.mp m; exact nm)
    rcases foots_set_mem m with z | z
    · cases List.mem_singleton.mp z
      exact .inr na
    · exact s1.ow b z)
end
end Pu
/-! Built-ins, data compared and shown, comprehensions by what they give. -/
namespace Pu
open PySem PySem.Spec PyProof.Rows L2 Gd
/-! ### data -/
mutual
def py : D → PyData
  | .non => .none
  | .bl b => .bool b
  | .int i => .int i
  | .str x => .str x
  | .tup l => .tuple (pyA l)
  | .lst l => .list (pyA l)
  | .scr l => .list (pyA l)
  | _ => .none
def pyA : List D → List PyData
  | [] => []
  | d :: ds => py d :: pyA ds
end
mutual
def isP : D → Bool
  | .non | .bl _ | .int _ | .str _ => true
  | .tup l | .lst l | .scr l => isPA l
  | _ => false
def isPA : List D → Bool
  | [] => true
  | d :: ds => isP d && isPA ds
end
section
variable {K : PySem.W.Frag} {F : Hp}
mutual
theorem re_dp : ∀ (d : D) (v : V), isP d = true → Re K F d v → Dp K F v (py d)
  | .non, _, _, h => by cases h; rw [py]; exact .non
  | .bl b, _, _, h => by cases h; rw [py]; exact .bl b
  | .int i, _, _, h => by cases h; rw [py]; exact .int i
  | .str x, _, _, h => by cases h; rw [py]; exact .str x
  | .tup l, _, p, h => by
    cases h with
    | tup hs ha => rw [py]; exact .tup hs (reA_dp l _ (by simpa [isP] using p) ha)
  | .lst l, _, p, h => by
    cases h with
    | lst hs ha => rw [py]; exact .lst (sqL hs) (reA_dp l _ (by simpa [isP] using p) ha)
  | .scr l, _, p, h => by
    cases h with
    | scr hs ha => rw [py]; exact .lst hs (reA_dp l _ (by simpa [isP] using p) ha)
  | .ins _ _, _, p, _ => by simp [isP] at p
  | .adr _, _, p, _ => by simp [isP] at p
  | .ty _, _, p, _ => by simp [isP] at p
  | .dk _, _, p, _ => by simp [isP] at p
theorem reA_dp : ∀ (d : List D) (v : List V), isPA d = true → ReA K F d v → DpAll K F v (pyA d)
  | [], _, _, h => by cases h; rw [pyA]; exact .nil
  | d :: ds, _, p, h => by
    have p' : isP d = true ∧ isPA ds = true := by simpa [isPA] using p
    cases h with
    | cons h t => rw [pyA]; exact .cons (re_dp d _ p'.1 h) (reA_dp ds _ p'.2 t)
end
end
theorem pyA_map : ∀ ds : List D, pyA ds = ds.map py
  | [] => by rw [pyA]; rfl
  | d :: ds => by rw [pyA, pyA_map ds]; rfl
theorem isPA_all : ∀ ds : List D, isPA ds = ds.all isP
  | [] => by rw [isPA]; rfl
  | d :: ds => by rw [isPA, isPA_all ds]; rfl
theorem isPA_mem {ds : List D} (h : ∀ d ∈ ds, isP d = true) : isPA ds = true := by
  rw [isPA_all]
  exact List.all_eq_true.mpr h
mutual
/-- without bools (and dicts) == is equality -/
def noB : PyData → Bool
  | .bool _ | .dict _ => false
  | .list l | .tuple l => noBA l
  | _ => true
def noBA : List PyData → Bool
  | [] => true
  | x :: xs => noB x && noBA xs
end
theorem noBA_mem : ∀ {ds : List PyData}, (∀ d ∈ ds, noB d = true) → noBA ds = true
  | [], _ => by rw [noBA]
  | d :: ds, h => by rw [noBA, h d List.mem_cons_self, noBA_mem fun x m => h x (List.mem_cons_of_mem _ m)]; rfl
mutual
theorem eqv_iff : ∀ (a b : PyData), noB a = true → noB b = true → (PyData.eqv a b = true ↔ a = b)
  | .none, b, _, h => by cases b <;> simp [PyData.eqv]
  | .bool _, b, h, _ => by simp [noB] at h
  | .dict _, b, h, _ => by simp [noB] at h
  | .int i, b, _, h => by cases b <;> simp [PyData.eqv, noB] at h ⊢
  | .str i, b, _, h => by cases b <;> simp [PyData.eqv]
  | .list xs, b, h1, h2 => by
    cases b with
    | list ys =>
      rw [noB] at h1 h2
      rw [PyData.eqv, eqvAll_iff xs ys h1 h2]
      exact ⟨fun e => by rw [e], fun e => PyData.list.inj e⟩
    | _ => simp [PyData.eqv]
  | .tuple xs, b, h1, h2 => by
    cases b with
    | tuple ys =>
      rw [noB] at h1 h2
      rw [PyData.eqv, eqvAll_iff xs ys h1 h2]
      exact ⟨fun e => by rw [e], fun e => PyData.tuple.inj e⟩
    | _ => simp [PyData.eqv]
theorem eqvAll_iff : ∀ (a b : List PyData), noBA a = true → noBA b = true → (PyData.eqvAll a b = true ↔ a = b)
  | [], [], _, _ => by simp [PyData.eqvAll]
  | [], _ :: _, _, _ => by simp [PyData.eqvAll]
  | _ :: _, [], _, _ => by simp [PyData.eqvAll]
  | x :: xs, y :: ys, h1, h2 => by
    rw [noBA, Bool.and_eq_true] at h1 h2
    rw [PyData.eqvAll, Bool.and_eq_true, eqv_iff x y h1.1 h2.1, eqvAll_iff xs ys h1.2 h2.2, List.cons.injEq]
end
theorem eqv_dec {a b : PyData} (h1 : noB a = true) (h2 : noB b = true) [Decidable (a = b)] : PyData.eqv a b = decide (a = b) := by
  by_cases e : a = b
  · rw [decide_eq_true e]; exact (eqv_iff a b h1 h2).mpr e
  · rw [decide_eq_false e]
    cases q : PyData.eqv a b with
    | false => rfl
    | true => exact absurd ((eqv_iff a b h1 h2).mp q) e
/-- data that == and repr serve -/
structure Fn (d : D) : Prop where
  p : isP d = true
  f : fine (py d) = true
  dp : (py d).depth ≤ 60
  c : costD (py d) ≤ sizeLine
theorem Fn.sh {d : D} (h : Fn d) : SeqAt.shaped (py d) = true := fine_shaped h.f h.dp
section
variable {X : Cx} {Γ : List Ent} {Q : D → List Ent → Prop} {QB : Bool → List Ent → Prop} {QA : List D → List Ent → Prop} {a b c e : Expr} {es rest : List Expr} {pos p2 p : Pos} {x : Str}
theorem pu_eqD {K : PySem.W.Frag} : Pu2 K (rEqD K) (fun d1 d2 Γ Q => Fn d1 ∧ Fn d2 ∧ Q (.bl (PyData.eqv (py d1) (py d2))) Γ) := by
  rintro d1 d2 Γ Q ⟨f1, f2, q⟩ σ F H v1 v2 k r1 r2 Q' po
  exact ⟨_, _, dp_same k.same _ _ (re_dp d1 v1 f1.p r1), dp_same k.same _ _ (re_dp d2 v2 f2.p r2), f1.sh, f2.sh, po.now k (.bl _) q⟩
theorem pu_neD {K : PySem.W.Frag} : Pu2 K (rNeD K) (fun d1 d2 Γ Q => Fn d1 ∧ Fn d2 ∧ Q (.bl (!PyData.eqv (py d1) (py d2))) Γ) := by
  rintro d1 d2 Γ Q ⟨f1, f2, q⟩ σ F H v1 v2 k r1 r2 Q' po
  exact ⟨_, _, dp_same k.same _ _ (re_dp d1 v1 f1.p r1), dp_same k.same _ _ (re_dp d2 v2 f2.p r2), f1.sh, f2.sh, po.now k (.bl _) q⟩
theorem pu_ne {K : PySem.W.Frag} : Pu2 K rNe (fun d1 d2 Γ Q => ∃ c, EqD d1 d2 c ∧ Q (.bl (!c)) Γ) := by
  rintro d1 d2 Γ Q ⟨c, e, q⟩ σ F H v1 v2 k r1 r2 Q' po
  cases e with
  | int i j =>
    cases r1; cases r2
    have := po.now k (.bl _) q
    exact ⟨rfl, by
      rw [show (decide (V.int i = V.int j)) = decide (i = j) from decide_eq_decide.mpr ⟨fun z => V.int.inj z, fun z => by rw [z]⟩]
      exact this⟩
  | str i j =>
    cases r1; cases r2
    have := po.now k (.bl _) q
    exact ⟨rfl, by
      rw [show (decide (V.str i = V.str j)) = decide (i = j) from decide_eq_decide.mpr ⟨fun z => V.str.inj z, fun z => by rw [z]⟩]
      exact this⟩
/-- a + b of texts, of tuples -/
theorem we_addS (h : WE X a Γ fun d1 Γ1 => WE X b Γ1 fun d2 Γ2 => ∃ i j, d1 = .str i ∧ d2 = .str j ∧ i.length + j.length ≤ 1000 ∧ Q (.str (i ++ j)) Γ2) : WE X (.BinOp a .Add b pos) Γ Q :=
  we_op (rp := fun d1 d2 Γ Q => ∃ i j, d1 = .str i ∧ d2 = .str j ∧ i.length + j.length ≤ 1000 ∧ Q (.str (i ++ j)) Γ) op_add_str (by
    rintro d1 d2 Γ Q ⟨i, j, rfl, rfl, l, q⟩ σ F H v1 v2 k r1 r2 Q' po
    cases r1; cases r2
    exact ⟨i, j, rfl, rfl, by have := small1000 l; omega, po.now k (.str _) q⟩) h
theorem we_addT (h : WE X a Γ fun d1 Γ1 => WE X b Γ1 fun d2 Γ2 => ∃ i j, d1 = .tup i ∧ d2 = .tup j ∧ i.length + j.length ≤ 5000 ∧ Q (.tup (i ++ j)) Γ2) : WE X (.BinOp a .Add b pos) Γ Q :=
  we_op (rp := fun d1 d2 Γ Q => ∃ i j, d1 = .tup i ∧ d2 = .tup j ∧ i.length + j.length ≤ 5000 ∧ Q (.tup (i ++ j)) Γ) op_catA (by
    rintro d1 d2 Γ Q ⟨i, j, rfl, rfl, l, q⟩ σ F H v1 v2 k r1 r2 Q' po
    cases r1 with
    | tup h1 a1 =>
      cases r2 with
      | tup h2 a2 =>
        have e1 := a1.len
        have e2 := a2.len
        refine ⟨_, _, _, _, rfl, rfl, same_seqT k.same h1, same_seqT k.same h2, by rw [sizeLine_eq]; omega, fun e => ?_, fun _ e => ?_, fun _ _ p n => po.new k n (.tup (sqT upd_same) ((a1.app a2).same (same_new (k.same.free n)))) q⟩
        · subst e
          cases a1
          exact po.now k (.tup h2 a2) q
        · subst e
          cases a2
          rw [List.append_nil] at q
          exact po.now k (.tup h1 a1) q) h
/-- a list, as an operand -/
inductive Ls (Γ : List Ent) : D → List D → Prop
  | lst (ds : List D) : Ls Γ (.lst ds) ds
  | own {i : Nat} {a : Addr} {ds : List D} (h : Γ[i]? = some (.l a ds)) : Ls Γ (.adr a) ds
theorem Ls.real {K : PySem.W.Frag} {F H : Hp} {σ : L2.St} {Γ : List Ent} {d : D} {ds : List D} {v : V} (h : Ls Γ d ds) (k : Ok K F H σ Γ) (r : Re K F d v) : ∃ a vs, v = .ref a ∧ H a = some (.lst vs) ∧ ReA K F ds vs := by
  cases h with
  | lst => cases r with | lst h r => exact ⟨_, _, rfl, k.same _ _ h, r⟩
  | own hi =>
    cases r
    obtain ⟨o, _, e, fa, us, ha, r⟩ := k.get hi
    exact ⟨_, _, rfl, ha, r⟩
theorem wn_addL (h : WE X a Γ fun d1 Γ1 => WE X b Γ1 fun d2 Γ2 => ∃ i j, Ls Γ2 d1 i ∧ Ls Γ2 d2 j ∧ i.length + j.length ≤ 100000 ∧ QA (i ++ j) Γ2) : WN X (.BinOp a .Add b pos) Γ QA := fun σ F H k Q' po => by
  refine sE_of (pe_op op_cat pe_s pe_s) (h σ F H k _ fun d1 Γ1 v1 F1 H1 q1 s1 k1 r1 => ?_)
  refine q1 σ F1 H1 k1 _ fun d2 Γ2 v2 F2 H2 q2 s2 k2 r2 => ?_
  obtain ⟨i, j, l1, l2, hl, q⟩ := q2
  obtain ⟨l, us, rfl, hl1, a1⟩ := l1.real k2 (r1.same s2.sf)
  obtain ⟨m, ws, rfl, hl2, a2⟩ := l2.real k2 r2
  have e1 := a1.len
  have e2 := a2.len
  exact ⟨_, _, _, _, rfl, rfl, hl1, hl2, by rw [sizeLine_eq]; omega, fun p n => (po.step (s1.trans s2)).now k2 n (a1.app a2) q⟩
/-! ### in -/
theorem inV_strs (a : Str) (l : List Str) : inV (.str a) (l.map V.str) = decide (a ∈ l) := by
  induction l with
  | nil => rfl
  | cons b r ih =>
    have e : inV (.str a) ((b :: r).map V.str) = (eqV (.str b) (.str a) || inV (.str a) (r.map V.str)) := rfl
    rw [e, ih]
    by_cases h : b = a
    · subst h
      have : eqV (.str b) (.str b) = true := by simp [eqV]
      rw [this, Bool.true_or]
      exact (decide_eq_true List.mem_cons_self).symm
    · have : eqV (.str b) (.str a) = false := by simp [eqV, h]
      rw [this, Bool.false_or]
      exact decide_eq_decide.mpr ⟨fun z => List.mem_cons_of_mem _ z, fun z => (List.mem_cons.mp z).resolve_left fun e => h e.symm⟩
/-- whether a sequence of ints, of texts has one -/
inductive InD (Γ : List Ent) : D → D → Bool → Prop
  | int {d : D} (i : Int) (ns : List Int) (h : Sq Γ d (ns.map .int)) : InD Γ (.int i) d (decide (i ∈ ns))
  | str {d : D} (i : Str) (ns : List Str) (h : Sq Γ d (ns.map .str)) : InD Γ (.str i) d (decide (i ∈ ns))
theorem InD.real {K : PySem.W.Frag} {F H : Hp} {σ : L2.St} {Γ : List Ent} {d1 d2 : D} {c : Bool} {v1 v2 : V} (h : InD Γ d1 d2 c) (k : Ok K F H σ Γ) (r1 : Re K F d1 v1) (r2 : Re K F d2 v2) : ∃ p xs, v2 = .ref p ∧ (SqL K H p xs ∨ SqT K H p xs) ∧ flatV v1 = true ∧ xs.all flatV = true ∧ inV v1 xs = c := by
  cases h with
  | int i ns h =>
    obtain ⟨p, vs, rfl, hp, ra⟩ := h.real k r2
    cases r1
    have e := ra.ints
    subst e
    exact ⟨p, _, rfl, hp, rfl, flat_ints _, inV_ints _ _⟩
  | str i ns h =>
    obtain ⟨p, vs, rfl, hp, ra⟩ := h.real k r2
    cases r1
    have e := ra.strs
    subst e
    exact ⟨p, _, rfl, hp, rfl, List.all_eq_true.mpr fun x hx => by obtain ⟨n, _, rfl⟩ := List.mem_map.mp hx; rfl, inV_strs _ _⟩
theorem pu_in {K : PySem.W.Frag} : Pu2 K (rIn K false) (fun d1 d2 Γ Q => ∃ c, InD Γ d1 d2 c ∧ Q (.bl c) Γ) := by
  rintro d1 d2 Γ Q ⟨c, i, q⟩ σ F H v1 v2 k r1 r2 Q' po
  obtain ⟨p, xs, rfl, hp, f1, f2, rfl⟩ := i.real k r1 r2
  exact ⟨p, xs, rfl, hp, f1, f2, po.now k (.bl _) q⟩
theorem pu_nin {K : PySem.W.Frag} : Pu2 K (rIn K true) (fun d1 d2 Γ Q => ∃ c, InD Γ d1 d2 c ∧ Q (.bl (!c)) Γ) := by
  rintro d1 d2 Γ Q ⟨c, i, q⟩ σ F H v1 v2 k r1 r2 Q' po
  obtain ⟨p, xs, rfl, hp, f1, f2, rfl⟩ := i.real k r1 r2
  exact ⟨p, xs, rfl, hp, f1, f2, po.now k (.bl _) q⟩
/-! ### built-ins of one argument -/
theorem pa1 {K : PySem.W.Frag} {r : List V → Hp → VK → Prop} {rp : D → List Ent → (D → List Ent → Prop) → Prop} (h : ∀ d Γ Q, rp d Γ Q → ∀ σ F H v, Ok K F H σ Γ → Re K F d v → ∀ Q', Post K F H σ Γ Q Q' → r [v] H Q') : PuA K r (fun ds Γ Q => ∃ d, ds = [d] ∧ rp d Γ Q) := by
  rintro ds Γ Q ⟨d, rfl, q⟩ σ F H vs k r Q' po
  obtain ⟨v, rfl, rv⟩ := reA1 r
  exact h d Γ Q q σ F H v k rv Q' po
theorem pn1 {K : PySem.W.Frag} {r : List V → Hp → VK → Prop} {rp : D → List Ent → (List D → List Ent → Prop) → Prop} (h : ∀ d Γ Q, rp d Γ Q → ∀ σ F H v, Ok K F H σ Γ → Re K F d v → ∀ Q', PostN K F H σ Γ Q Q' → r [v] H Q') : PuN K r (fun ds Γ Q => ∃ d, ds = [d] ∧ rp d Γ Q) := by
  rintro ds Γ Q ⟨d, rfl, q⟩ σ F H vs k r Q' po
  obtain ⟨v, rfl, rv⟩ := reA1 r
  exact h d Γ Q q σ F H v k rv Q' po
theorem we_tuple (hm : X.mg "tuple" = none) (h : WE X e Γ fun d Γ1 => ∃ ds, Sq Γ1 d ds ∧ Q (.tup ds) Γ1) (hg : Gl X "tuple" := by rfl)
    (he : starEach [e] X.env = (false, eval e X.env) :: starEach [] X.env := by rfl) (hpl : (backTo pos (starEach [] X.env)).any (·.1) = false := by rfl) : WE X (.Call (.Name "tuple" p) [e] [] pos) Γ Q :=
  we_callTy (rp := fun ds Γ Q => ∃ d, ds = [d] ∧ ∃ its, Sq Γ d its ∧ Q (.tup its) Γ) call_tupK (pa1 (by
    rintro d Γ Q ⟨its, sq, q⟩ σ F H v k rv Q' po
    obtain ⟨l, us, rfl, hl, rs⟩ := sq.real k rv
    rcases hl with hl | hl
    · exact ⟨l, us, rfl, .inl ⟨hl, fun p n => po.new k n (.tup (sqT upd_same) (rs.same (same_new (k.same.free n)))) q⟩⟩
    · cases sq with
      | tup => exact ⟨l, us, rfl, .inr ⟨hl, po.now k rv q⟩⟩
      | lst =>
        cases rv with
        | lst h ra => exact ⟨l, _, rfl, .inl ⟨sqL (k.same _ _ h), fun p n => po.new k n (.tup (sqT upd_same) (ra.same (same_new (k.same.free n)))) q⟩⟩
      | scr =>
        cases rv with
        | scr h ra => exact ⟨l, _, rfl, .inl ⟨k.same.seq h, fun p n => po.new k n (.tup (sqT upd_same) (ra.same (same_new (k.same.free n)))) q⟩⟩
      | own hi =>
        cases rv
        obtain ⟨o, _, _, fa, ws, ha, ra⟩ := k.get hi
        exact ⟨l, ws, rfl, .inl ⟨sqL ha, fun p n => po.new k n (.tup (sqT upd_same) (ra.same (same_new (k.same.free n)))) q⟩⟩)) hm (wa_cons (h.mono fun d Γ1 q => wa_nil ⟨d, rfl, q⟩) he) hg (he := he) (hpl := hpl)
theorem wn_list (hm : X.mg "list" = none) (h : WE X e Γ fun d Γ1 => ∃ ds, Sq Γ1 d ds ∧ QA ds Γ1) (hg : Gl X "list" := by rfl)
    (he : starEach [e] X.env = (false, eval e X.env) :: starEach [] X.env := by rfl) (hpl : (backTo pos (starEach [] X.env)).any (·.1) = false := by rfl) : WN X (.Call (.Name "list" p) [e] [] pos) Γ QA :=
  wn_callTy (rp := fun ds Γ Q => ∃ d, ds = [d] ∧ ∃ its, Sq Γ d its ∧ Q its Γ) call_list_of (pn1 (by
    rintro d Γ Q ⟨its, sq, q⟩ σ F H v k rv Q' po
    obtain ⟨l, us, rfl, hl, rs⟩ := sq.real k rv
    exact ⟨l, us, rfl, hl, fun p n => po.now k n rs q⟩)) hm (wa_cons (h.mono fun d Γ1 q => wa_nil ⟨d, rfl, q⟩) he) hg (he := he) (hpl := hpl)
theorem wn_sortedI (hm : X.mg "sorted" = none) (h : WE X e Γ fun d Γ1 => ∃ ns : List Int, Ls Γ1 d (ns.map .int) ∧ ∀ ms : List Int, ms.Perm ns → ms.Pairwise (· ≤ ·) → QA (ms.map .int) Γ1) (hg : Gl X "sorted" := by rfl)
    (he : starEach [e] X.env = (false, eval e X.env) :: starEach [] X.env := by rfl) (hpl : (backTo pos (starEach [] X.env)).any (·.1) = false := by rfl) : WN X (.Call (.Name "sorted" p) [e] [] pos) Γ QA :=
  wn_callB (rp := fun ds Γ Q => ∃ d, ds = [d] ∧ ∃ ns : List Int, Ls Γ d (ns.map .int) ∧ ∀ ms : List Int, ms.Perm ns → ms.Pairwise (· ≤ ·) → Q (ms.map .int) Γ) cr_sortedI (pn1 (by
    rintro d Γ Q ⟨ns, ls, q⟩ σ F H v k rv Q' po
    obtain ⟨l, us, rfl, hl, rs⟩ := ls.real k rv
    have e := rs.ints
    subst e
    exact ⟨l, ns, rfl, sqL hl, fun ms p h1 h2 n => po.now k n (.ofInts ms) (q ms h1 h2)⟩)) hm (wa_cons (h.mono fun d Γ1 q => wa_nil ⟨d, rfl, q⟩) he) hg (he := he) (hpl := hpl)
theorem wn_sortedS (hm : X.mg "sorted" = none) (h : WE X e Γ fun d Γ1 => ∃ ns : List Str, Ls Γ1 d (ns.map .str) ∧ ns.length < 64 ∧ ∀ ms : List Str, ms.Perm ns → sortedS ms = true → QA (ms.map .str) Γ1) (hg : Gl X "sorted" := by rfl)
    (he : starEach [e] X.env = (false, eval e X.env) :: starEach [] X.env := by rfl) (hpl : (backTo pos (starEach [] X.env)).any (·.1) = false := by rfl) : WN X (.Call (.Name "sorted" p) [e] [] pos) Γ QA :=
  wn_callB (rp := fun ds Γ Q => ∃ d, ds = [d] ∧ ∃ ns : List Str, Ls Γ d (ns.map .str) ∧ ns.length < 64 ∧ ∀ ms : List Str, ms.Perm ns → sortedS ms = true → Q (ms.map .str) Γ) cr_sortedS (pn1 (by
    rintro d Γ Q ⟨ns, ls, h64, q⟩ σ F H v k rv Q' po
    obtain ⟨l, us, rfl, hl, rs⟩ := ls.real k rv
    have e := rs.strs
    subst e
    exact ⟨l, ns, rfl, sqL hl, h64, fun ms p h1 h2 n => po.now k n (.ofStrs ms) (q ms h1 h2)⟩)) hm (wa_cons (h.mono fun d Γ1 q => wa_nil ⟨d, rfl, q⟩) he) hg (he := he) (hpl := hpl)
theorem ReA.bls {K : PySem.W.Frag} {F : Hp} : ∀ {ns : List Bool} {vs : List V}, ReA K F (ns.map .bl) vs → vs = ns.map V.bl
  | [], _, h => by cases h; rfl
  | n :: ns, _, h => by
    cases h with
    | cons a t => cases a; rw [ReA.bls t]; rfl
theorem we_all (hm : X.mg "all" = none) (h : WE X e Γ fun d Γ1 => ∃ bs : List Bool, Ls Γ1 d (bs.map .bl) ∧ Q (.bl (bs.all id)) Γ1) (hc : X.calm = true := by rfl) (hg : Gl X "all" := by rfl)
    (he : starEach [e] X.env = (false, eval e X.env) :: starEach [] X.env := by rfl) (hpl : (backTo pos (starEach [] X.env)).any (·.1) = false := by rfl) : WE X (.Call (.Name "all" p) [e] [] pos) Γ Q :=
  we_callB (rp := fun ds Γ Q => ∃ d, ds = [d] ∧ ∃ bs : List Bool, Ls Γ d (bs.map .bl) ∧ Q (.bl (bs.all id)) Γ) (cr_all hc) (pa1 (by
    rintro d Γ Q ⟨ns, ls, q⟩ σ F H v k rv Q' po
    obtain ⟨l, us, rfl, hl, rs⟩ := ls.real k rv
    have e := rs.bls
    subst e
    exact ⟨l, ns, rfl, sqL hl, po.now k (.bl _) q⟩)) hm (wa_cons (h.mono fun d Γ1 q => wa_nil ⟨d, rfl, q⟩) he) hg (he := he) (hpl := hpl)
theorem we_any (hm : X.mg "any" = none) (h : WE X e Γ fun d Γ1 => ∃ bs : List Bool, Ls Γ1 d (bs.map .bl) ∧ Q (.bl (bs.any id)) Γ1) (hc : X.calm = true := by rfl) (hg : Gl X "any" := by rfl)
    (he : starEach [e] X.env = (false, eval e X.env) :: starEach [] X.env := by rfl) (hpl : (backTo pos (starEach [] X.env)).any (·.1) = false := by rfl) : WE X (.Call (.Name "any" p) [e] [] pos) Γ Q :=
  we_callB (rp := fun ds Γ Q => ∃ d, ds = [d] ∧ ∃ bs : List Bool, Ls Γ d (bs.map .bl) ∧ Q (.bl (bs.any id)) Γ) (cr_any hc) (pa1 (by
    rintro d Γ Q ⟨ns, ls, q⟩ σ F H v k rv Q' po
    obtain ⟨l, us, rfl, hl, rs⟩ := ls.real k rv
    have e := rs.bls
    subst e
    exact ⟨l, ns, rfl, sqL hl, po.now k (.bl _) q⟩)) hm (wa_cons (h.mono fun d Γ1 q => wa_nil ⟨d, rfl, q⟩) he) hg (he := he) (hpl := hpl)
theorem we_sum (hm : X.mg "sum" = none) (h : WE X e Γ fun d Γ1 => ∃ bs : List Int, Ls Γ1 d (bs.map .int) ∧ Q (.int bs.sum) Γ1) (hc : X.calm = true := by rfl) (hg : Gl X "sum" := by rfl)
    (he : starEach [e] X.env = (false, eval e X.env) :: starEach [] X.env := by rfl) (hpl : (backTo pos (starEach [] X.env)).any (·.1) = false := by rfl) : WE X (.Call (.Name "sum" p) [e] [] pos) Γ Q :=
  we_callB (rp := fun ds Γ Q => ∃ d, ds = [d] ∧ ∃ bs : List Int, Ls Γ d (bs.map .int) ∧ Q (.int bs.sum) Γ) (cr_sum hc) (pa1 (by
    rintro d Γ Q ⟨ns, ls, q⟩ σ F H v k rv Q' po
    obtain ⟨l, us, rfl, hl, rs⟩ := ls.real k rv
    have e := rs.ints
    subst e
    exact ⟨l, ns, rfl, sqL hl, po.now k (.int _) q⟩)) hm (wa_cons (h.mono fun d Γ1 q => wa_nil ⟨d, rfl, q⟩) he) hg (he := he) (hpl := hpl)
theorem we_int1 (hm : X.mg "int" = none) (h : WE X e Γ fun d Γ1 => (∃ i, d = .int i ∧ Q (.int i) Γ1) ∨ ∃ k, d = .bl k ∧ Q (.int (if k then 1 else 0)) Γ1) (hg : Gl X "int" := by rfl)
    (he : starEach [e] X.env = (false, eval e X.env) :: starEach [] X.env := by rfl) (hpl : (backTo pos (starEach [] X.env)).any (·.1) = false := by rfl) : WE X (.Call (.Name "int" p) [e] [] pos) Γ Q :=
  we_callTy (rp := fun ds Γ Q => ∃ d, ds = [d] ∧ ((∃ i, d = .int i ∧ Q (.int i) Γ) ∨ ∃ k, d = .bl k ∧ Q (.int (if k then 1 else 0)) Γ)) call_int1 (pa1 (by
    rintro d Γ Q q σ F H v k rv Q' po
    rcases q with ⟨i, rfl, q⟩ | ⟨c, rfl, q⟩
    · cases rv
      exact .inl ⟨i, rfl, po.now k (.int _) q⟩
    · cases rv
      exact .inr ⟨c, rfl, po.now k (.int _) q⟩)) hm (wa_cons (h.mono fun d Γ1 q => wa_nil ⟨d, rfl, q⟩) he) hg (he := he) (hpl := hpl)
theorem we_lenS (hm : X.mg "len" = none) (h : WE X e Γ fun d Γ1 => ∃ z : Str, d = .str z ∧ z.length ≤ sizeLine ∧ Q (.int z.length) Γ1) (hg : Gl X "len" := by rfl)
    (he : starEach [e] X.env = (false, eval e X.env) :: starEach [] X.env := by rfl) (hpl : (backTo pos (starEach [] X.env)).any (·.1) = false := by rfl) : WE X (.Call (.Name "len" p) [e] [] pos) Γ Q :=
  we_callB (rp := fun ds Γ Q => ∃ d, ds = [d] ∧ ∃ z : Str, d = .str z ∧ z.length ≤ sizeLine ∧ Q (.int z.length) Γ) call_len_str (pa1 (by
    rintro d Γ Q ⟨z, rfl, l, q⟩ σ F H v k rv Q' po
    cases rv
    exact ⟨z, rfl, l, po.now k (.int _) q⟩)) hm (wa_cons (h.mono fun d Γ1 q => wa_nil ⟨d, rfl, q⟩) he) hg (he := he) (hpl := hpl)
theorem we_min2 (hm : X.mg "min" = none) (h : WE X a Γ fun d Γ1 => WE X b Γ1 fun d2 Γ2 => ∃ i j, d = .int i ∧ d2 = .int j ∧ Q (.int (if j < i then j else i)) Γ2) (hc : X.calm = true := by rfl) (hg : Gl X "min" := by rfl)
    (he : starEach [a, b] X.env = (false, eval a X.env) :: starEach [b] X.env := by rfl) (he2 : starEach [b] X.env = (false, eval b X.env) :: starEach [] X.env := by rfl) (hpl : (backTo pos (starEach [b] X.env)).any (·.1) = false := by rfl) : WE X (.Call (.Name "min" p) [a, b] [] pos) Γ Q :=
  we_callB (rp := fun ds Γ Q => ∃ i j, ds = [.int i, .int j] ∧ Q (.int (if j < i then j else i)) Γ) (call_min2 hc) (by
    rintro ds Γ Q ⟨i, j, rfl, q⟩ σ F H vs k r Q' po
    obtain ⟨v, u, rfl, r1, r2⟩ := reA2 r
    cases r1; cases r2
    exact ⟨i, j, rfl, po.now k (.int _) q⟩) hm (wa_cons (h.mono fun d Γ1 q => wa_cons (q.mono fun d2 Γ2 ⟨i, j, e1, e2, q⟩ => wa_nil ⟨i, j, by rw [e1, e2], q⟩) he2) he) hg (he := he) (hpl := hpl)
theorem we_max2 (hm : X.mg "max" = none) (h : WE X a Γ fun d Γ1 => WE X b Γ1 fun d2 Γ2 => ∃ i j, d = .int i ∧ d2 = .int j ∧ Q (.int (if j > i then j else i)) Γ2) (hc : X.calm = true := by rfl) (hg : Gl X "max" := by rfl)
    (he : starEach [a, b] X.env = (false, eval a X.env) :: starEach [b] X.env := by rfl) (he2 : starEach [b] X.env = (false, eval b X.env) :: starEach [] X.env := by rfl) (hpl : (backTo pos (starEach [b] X.env)).any (·.1) = false := by rfl) : WE X (.Call (.Name "max" p) [a, b] [] pos) Γ Q :=
  we_callB (rp := fun ds Γ Q => ∃ i j, ds = [.int i, .int j] ∧ Q (.int (if j > i then j else i)) Γ) (call_max2 hc) (by
    rintro ds Γ Q ⟨i, j, rfl, q⟩ σ F H vs k r Q' po
    obtain ⟨v, u, rfl, r1, r2⟩ := reA2 r
    cases r1; cases r2
    exact ⟨i, j, rfl, po.now k (.int _) q⟩) hm (wa_cons (h.mono fun d Γ1 q => wa_cons (q.mono fun d2 Γ2 ⟨i, j, e1, e2, q⟩ => wa_nil ⟨i, j, by rw [e1, e2], q⟩) he2) he) hg (he := he) (hpl := hpl)
/-- repr of data -/
theorem we_repr {k : Nat} (hr : RmG k X.A) (hm : X.mg "repr" = none) (h : WE X e Γ fun d Γ1 => Fn d ∧ (∃ l, d = .tup l ∨ d = .lst l) ∧ Q (.str (py d).shown) Γ1) (hg : Gl X "repr" := by rfl)
    (he : starEach [e] X.env = (false, eval e X.env) :: starEach [] X.env := by rfl) (hpl : (backTo pos (starEach [] X.env)).any (·.1) = false := by rfl) : WE X (.Call (.Name "repr" p) [e] [] pos) Γ Q :=
  we_callB (rp := fun ds Γ Q => ∃ d, ds = [d] ∧ Fn d ∧ (∃ l, d = .tup l ∨ d = .lst l) ∧ Q (.str (py d).shown) Γ) (call_reprF hr.gd hr.rm.units) (pa1 (by
    rintro d Γ Q ⟨f, ⟨l, hl⟩, q⟩ σ F H v k rv Q' po
    have z := dp_same k.same _ _ (re_dp d v f.p rv)
    obtain ⟨a, rfl⟩ : ∃ a, v = .ref a := by
      rcases hl with rfl | rfl <;> cases rv <;> exact ⟨_, rfl⟩
    exact ⟨a, _, rfl, z, f.f, f.dp, f.c, po.now k (.str _) q⟩)) hm (wa_cons (h.mono fun d Γ1 q => wa_nil ⟨d, rfl, q⟩) he) hg (he := he) (hpl := hpl)
theorem we_reprB (hm : X.mg "repr" = none) (h : WE X e Γ fun d Γ1 => ∃ c, d = .bl c ∧ Q (.str (if c then "True" else "False")) Γ1) (hg : Gl X "repr" := by rfl)
    (he : starEach [e] X.env = (false, eval e X.env) :: starEach [] X.env := by rfl) (hpl : (backTo pos (starEach [] X.env)).any (·.1) = false := by rfl) : WE X (.Call (.Name "repr" p) [e] [] pos) Γ Q :=
  we_callB (rp := fun ds Γ Q => ∃ d, ds = [d] ∧ ∃ c, d = .bl c ∧ Q (.str (if c then "True" else "False")) Γ) call_reprB (pa1 (by
    rintro d Γ Q ⟨c, rfl, q⟩ σ F H v k rv Q' po
    cases rv
    exact ⟨c, rfl, po.now k (.str _) q⟩)) hm (wa_cons (h.mono fun d Γ1 q => wa_nil ⟨d, rfl, q⟩) he) hg (he := he) (hpl := hpl)
end
/-! ### comprehensions by what they give -/
section
variable {X : Cx} {Γ : List Ent} {tg iter elt c : Expr} {pos : Pos} {QA : List D → List Ent → Prop} {scope : Scope} {own : List (Str × Nat)} {g : TG} {ifs : List Expr}
theorem take_snoc {α : Type} {xs : List α} {i : Nat} {x : α} (h : xs[i]? = some x) : xs.take (i + 1) = xs.take i ++ [x] := by rw [List.take_add_one, h]; rfl
/-- tests p, items f, of the things xs; nothing is changed meanwhile -/
theorem lcf {α : Type} (enc : α → D) (p : α → Bool) (f : α → D)
    (h : WI X tg iter Γ fun ds P Γ1 => ∃ xs : List α, ds = xs.map enc ∧ wipeE Γ1 (own.map (·.2)) = Γ1 ∧ P Γ1 ∧ xs.length ≤ 100000 ∧
      (∀ (i : Nat) x, xs[i]? = some x → ∃ Γ2, TgS X.K (own.map (·.2)) g (enc x) Γ1 Γ2 ∧ wipeE Γ2 (own.map (·.2)) = Γ1 ∧ InB X scope fun Y => WTs Y ifs Γ2 fun b Γ3 => Γ3 = Γ2 ∧ b = p x ∧ (p x = true → InB X scope fun Y => WE Y elt Γ2 fun y Γ4 => Γ4 = Γ2 ∧ y = f x)) ∧
      QA ((xs.filter p).map f) Γ1) : LcP X tg iter elt ifs scope own g Γ QA := by
  refine (fun σ F H k R' po => h σ F H k R' fun J ds P Γ1 F1 H1 q => po J ds P Γ1 F1 H1 ?_)
  obtain ⟨xs, rfl, w, hP, hl, turn, q⟩ := q
  refine ⟨fun i acc Γ => Γ = Γ1 ∧ acc = ((xs.take i).filter p).map f, ⟨rfl, rfl⟩, fun i acc Γ hi ⟨e1, e2⟩ => ?_, fun i acc d Γ hd ⟨e1, e2⟩ => ?_, fun acc Γ ⟨e1, e2⟩ => ?_⟩
  · subst e1 e2
    refine ⟨hP, ?_⟩
    rw [List.length_map]
    have := List.length_filter_le p (xs.take i)
    rw [List.length_take] at this
    omega
  · subst e1 e2
    rw [List.getElem?_map] at hd
    cases hx : xs[i]? with
    | none => rw [hx] at hd; cases hd
    | some x =>
      rw [hx] at hd
      cases hd
      obtain ⟨Γ2, T, w2, b⟩ := turn i x hx
      rw [w]
      refine ⟨Γ2, T, fun s H C cl fp σ F H2 k Q' po => b s H C cl fp σ F H2 k Q' fun bb Γ3 F3 H3 ⟨e3, e4, q5⟩ => po bb Γ3 F3 H3 ⟨fun hb => ?_, fun hb => ?_⟩⟩
      · subst e3
        rw [hb] at e4
        intro s H C cl fp
        refine (q5 e4.symm s H C cl fp).mono fun y Γ4 ⟨e5, e6⟩ => ?_
        subst e5 e6
        refine ⟨w2, ?_⟩
        rw [take_snoc hx, List.filter_append, List.map_append]
        show _ = _ ++ (List.filter p [x]).map f
        rw [List.filter_cons_of_pos e4.symm]
        rfl
      · subst e3
        rw [hb] at e4
        refine ⟨w2, ?_⟩
        rw [take_snoc hx, List.filter_append, List.map_append]
        show _ = _ ++ (List.filter p [x]).map f
        rw [List.filter_cons_of_neg (by rw [← e4]; exact Bool.false_ne_true)]
        simp
  · subst e1 e2
    rw [List.length_map, List.take_length]
    exact q
/-- items f of the things xs -/
theorem lcm {α : Type} (enc : α → D) (f : α → D)
    (h : WI X tg iter Γ fun ds P Γ1 => ∃ xs : List α, ds = xs.map enc ∧ wipeE Γ1 (own.map (·.2)) = Γ1 ∧ P Γ1 ∧ xs.length ≤ 100000 ∧
      (∀ (i : Nat) x, xs[i]? = some x → ∃ Γ2, TgS X.K (own.map (·.2)) g (enc x) Γ1 Γ2 ∧ wipeE Γ2 (own.map (·.2)) = Γ1 ∧ InB X scope fun Y => WE Y elt Γ2 fun y Γ4 => Γ4 = Γ2 ∧ y = f x) ∧
      QA (xs.map f) Γ1) : LcP X tg iter elt [] scope own g Γ QA := by
  refine lcf enc (fun _ => true) f (fun σ F H k R' po => h σ F H k R' fun J ds P Γ1 F1 H1 q => po J ds P Γ1 F1 H1 ?_)
  obtain ⟨xs, e, w, hP, hl, turn, q⟩ := q
  refine ⟨xs, e, w, hP, hl, fun i x hx => ?_, by rw [List.filter_eq_self.mpr fun _ _ => rfl]; exact q⟩
  obtain ⟨Γ2, T, w2, b⟩ := turn i x hx
  exact ⟨Γ2, T, w2, fun s H C cl fp => wts_nil ⟨rfl, rfl, fun _ => b⟩⟩
end
end Pu
/-! Several targets at once, with new lists among the values; stores to places. -/
namespace Pu
open PySem PySem.Spec PyProof.Rows L2 Gd
inductive New where
  | v (d : D) | l (ds : List D)
def New.ent : New → Addr → Ent
  | .v d, _ => .v d
  | .l ds, a => .l a ds
structure Frs (H0 F H : Hp) (Γ : List Ent) (a : Addr) : Prop where
  h0 : H0 a = none
  f : F a = none
  m : a ∉ foots Γ
inductive NewsOk (K : PySem.W.Frag) (H0 F H : Hp) (Γ : List Ent) : List New → List V → List Addr → Prop
  | nil : NewsOk K H0 F H Γ [] [] []
  | v {d : D} {v : V} {ns : List New} {vs : List V} {as : List Addr} (r : Re K F d v) (t : NewsOk K H0 F H Γ ns vs as) : NewsOk K H0 F H Γ (.v d :: ns) (v :: vs) as
  | l {ds : List D} {a : Addr} {us : List V} {ns : List New} {vs : List V} {as : List Addr} (fr : Frs H0 F H Γ a) (h : H a = some (.lst us)) (r : ReA K F ds us) (n : a ∉ as) (t : NewsOk K H0 F H Γ ns vs as) : NewsOk K H0 F H Γ (.l ds :: ns) (.ref a :: vs) (a :: as)
def PostX (K : PySem.W.Frag) (F H : Hp) (σ : L2.St) (Γ : List Ent) (Q : New → List Ent → Prop) (Q' : VK) : Prop :=
  ∀ n Γ' v as F' H', Q n Γ' → Step F H (foots Γ) F' H' (foots Γ') → Ok K F' H' σ Γ' → NewsOk K H F' H' Γ' [n] [v] as → Q' v H'
def PostXs (K : PySem.W.Frag) (F H : Hp) (σ : L2.St) (Γ : List Ent) (Q : List New → List Ent → Prop) (Q' : List V → Hp → Prop) : Prop :=
  ∀ ns Γ' vs as F' H', Q ns Γ' → Step F H (foots Γ) F' H' (foots Γ') → Ok K F' H' σ Γ' → NewsOk K H F' H' Γ' ns vs as → Q' vs H'
def WX (X : Cx) (e : Expr) (Γ : List Ent) (Q : New → List Ent → Prop) : Prop := ∀ σ F H, Ok X.K F H σ Γ → ∀ Q', PostX X.K F H σ Γ Q Q' → sE X e σ H Q'
def WXs (X : Cx) (es : List Expr) (Γ : List Ent) (Q : List New → List Ent → Prop) : Prop := ∀ σ F H, Ok X.K F H σ Γ → ∀ Q', PostXs X.K F H σ Γ Q Q' → sA X es σ H Q'
theorem NewsOk.lower {K : PySem.W.Frag} {H0 H1 F H : Hp} {Γ : List Ent} (e : ∀ a, H1 a = none → H0 a = none) : ∀ {ns : List New} {vs : List V} {as : List Addr}, NewsOk K H1 F H Γ ns vs as → NewsOk K H0 F H Γ ns vs as
  | _, _, _, .nil => .nil
  | _, _, _, .v r t => .v r (NewsOk.lower e t)
  | _, _, _, .l fr h r n t => .l ⟨e _ fr.h0, fr.f, fr.m⟩ h r n (NewsOk.lower e t)
theorem NewsOk.as {K : PySem.W.Frag} {H0 F H : Hp} {Γ : List Ent} : ∀ {ns : List New} {vs : List V} {as : List Addr}, NewsOk K H0 F H Γ ns vs as → ∀ a ∈ as, H0 a = none
  | _, _, _, .nil => nofun
  | _, _, _, .v r t => NewsOk.as t
  | _, _, _, .l fr h r n t => fun b m => (List.mem_cons.mp m).elim (fun e => by rw [e]; exact fr.h0) (NewsOk.as t b)
section
variable {X : Cx} {Γ : List Ent} {E : Eds} {Q : New → List Ent → Prop} {Qs : List New → List Ent → Prop} {a b c e : Expr} {es : List Expr} {pos : Pos} {x y z : Str}
theorem wx_v (h : WE X e Γ fun d Γ1 => Q (.v d) Γ1) : WX X e Γ Q := fun σ F H k Q' po => h σ F H k Q' fun d Γ1 v F1 H1 q s1 k1 r => po _ Γ1 v [] F1 H1 q s1 k1 (.v r .nil)
theorem wx_l (h : WN X e Γ fun ds Γ1 => Q (.l ds) Γ1) : WX X e Γ Q := fun σ F H k Q' po => h σ F H k Q' fun ds Γ1 a vs F1 H1 q s1 k1 n f m ha r => po _ Γ1 _ [a] F1 H1 q s1 k1 (.l ⟨n, f, m⟩ ha r nofun .nil)
theorem wxs_nil (q : Qs [] Γ) : WXs X [] Γ Qs := fun σ F H k Q' po => sA_of pa_nil (po [] Γ [] [] F H q (.refl _ _ _) k .nil)
theorem wxs_cons (h : WX X e Γ fun n Γ1 => WXs X es Γ1 fun ns Γ2 => Qs (n :: ns) Γ2) (hs : starEach (e :: es) X.env = (false, eval e X.env) :: starEach es X.env := by rfl) : WXs X (e :: es) Γ Qs := fun σ F H k Q' po => by
  refine sA_of (pa_cons pe_s pa_s hs) (h σ F H k _ fun n Γ1 v as F1 H1 q1 s1 k1 r1 => ?_)
  refine q1 σ F1 H1 k1 _ fun ns Γ2 vs bs F2 H2 q2 s2 k2 r2 => ?_
  have low : ∀ a, H1 a = none → H a = none := fun a h1 => by
    cases e : H a with
    | none => rfl
    | some o => exact absurd h1 (s1.ne a (by rw [e]; exact nofun))
  cases r1 with
  | v r t =>
    cases t
    exact po _ Γ2 _ bs F2 H2 q2 (s1.trans s2) k2 (.v (r.same s2.sf) (r2.lower low))
  | l fr ha r nn t =>
    cases t
    rename_i l us
    refine po _ Γ2 _ (l :: bs) F2 H2 q2 (s1.trans s2) k2 (.l ⟨fr.h0, s2.fr _ fr.m (by rw [ha]; exact nofun) fr.f, fun m => ?_⟩ (s2.kh _ _ fr.m ha) (r.same s2.sf) (fun m => ?_) (r2.lower low))
    · rcases s2.ow _ m with z | z
      · exact fr.m z
      · rw [ha] at z; cases z
    · have := r2.as _ m
      rw [ha] at this
      cases this
/-- slots filled with values and new lists -/
theorem set_new {K : PySem.W.Frag} {H0 F H : Hp} {σ : L2.St} {Γ : List Ent} {n : New} {ns : List New} {v : V} {vs : List V} {as : List Addr} (k : Ok K F H σ Γ) (i : Nat) (r : NewsOk K H0 F H Γ (n :: ns) (v :: vs) as) :
    ∃ a bs, Ok K F H (σ.set i (some v)) (Γ.set i (n.ent a)) ∧ NewsOk K H0 F H (Γ.set i (n.ent a)) ns vs bs ∧ ∀ b ∈ foots (Γ.set i (n.ent a)), b ∈ foots Γ ∨ H0 b = none := by
  have key : ∀ {e : Ent} {ns : List New} {vs : List V} {as : List Addr}, NewsOk K H0 F H Γ ns vs as → (∀ b ∈ foot e, b ∉ as) → NewsOk K H0 F H (Γ.set i e) ns vs as := by
    intro e ns vs as r
    induction r with
    | nil => intro _; exact .nil
    | v r t ih => intro h; exact .v r (ih h)
    | l fr ha r n t ih =>
      intro h
      refine .l ⟨fr.h0, fr.f, fun m => ?_⟩ ha r n (ih fun b hb m => h b hb (List.mem_cons_of_mem _ m))
      rcases foots_set_mem m with z | z
      · exact h _ z List.mem_cons_self
      · exact fr.m z
  cases r with
  | v r t => exact ⟨0, as, k.setV r, key t nofun, fun b m => (foots_set_mem m).elim nofun .inl⟩
  | @l ds l us _ _ bs fr ha r nn t =>
    refine ⟨l, bs, k.set (e := .l l ds) ⟨rfl, fr.f, us, ha, r⟩ (List.nodup_cons.mpr ⟨nofun, List.nodup_nil⟩) (fun b m => by cases List.mem_singleton.mp m; exact fr.m), key t fun b m => by cases List.mem_singleton.mp m; exact nn, fun b m => ?_⟩
    rcases foots_set_mem m with z | z
    · cases List.mem_singleton.mp z
      exact .inr fr.h0
    · exact .inl z
theorem step_ow {F H F1 H1 : Hp} {W W1 W2 : List Addr} (s : Step F H W F1 H1 W1) (h : ∀ b ∈ W2, b ∈ W1 ∨ H b = none) : Step F H W F1 H1 W2 := ⟨s.sf, s.kh, s.ne, s.fr, fun b m => (h b m).elim (s.ow b) .inr⟩
/-- x, y = a, b: plain local names -/
theorem ws_par2 (i j : Nat) {px py pt : Pos} {kt k2 pt2} (hN : X.N.Nodup) (h : WXs X [a, b] Γ fun ns Γ1 => ∃ n m, ns = [n, m] ∧ ∀ u v, E.nx ((Γ1.set i (n.ent u)).set j (m.ent v))) (hi : X.N[i]? = some x := by rfl) (hj : X.N[j]? = some y := by rfl) (hij : i ≠ j := by decide)
    (hx : X.env.scope.names.lookup x = some .local := by rfl) (hy : X.env.scope.names.lookup y = some .local := by rfl) (hw : swappedStores [.Tuple [.Name x px, .Name y py] kt pt] (.Tuple [a, b] k2 pt2) X.env = pure (some [x, y]) := by rfl) (hc : X.calm = true := by rfl)
    (hs : swapsWithSole [.Tuple [.Name x px, .Name y py] kt pt] (.Tuple [a, b] k2 pt2) pos.line X.env = pure false := by rfl) : WS X (.Assign [.Tuple [.Name x px, .Name y py] kt pt] (.Tuple [a, b] k2 pt2) pos) Γ E := fun σ F H k Dn po => by
  refine sS_of (ps_par hc hN hi hj hij hx hy pa_s hw hs) (h σ F H k _ fun ns Γ1 vs as F1 H1 q1 s1 k1 r1 => ?_)
  obtain ⟨n, m, rfl, q⟩ := q1
  obtain ⟨v, u, rfl⟩ : ∃ v u, vs = [v, u] := by
    cases r1 with
    | v _ t => cases t with | v _ t => cases t; exact ⟨_, _, rfl⟩ | l _ _ _ _ t => cases t; exact ⟨_, _, rfl⟩
    | l _ _ _ _ t => cases t with | v _ t => cases t; exact ⟨_, _, rfl⟩ | l _ _ _ _ t => cases t; exact ⟨_, _, rfl⟩
  obtain ⟨l1, bs, k2', r2, w2⟩ := set_new k1 i r1
  obtain ⟨l2, cs, k3, r3, w3⟩ := set_new k2' j r2
  exact ⟨v, u, rfl, po.nx _ _ F1 H1 (q l1 l2) (step_ow s1 fun b z => (w3 b z).elim (w2 b) .inr) k3⟩
theorem ws_par3 (i j l : Nat) {px py pz pt : Pos} {kt k2 pt2} (hN : X.N.Nodup) (h : WXs X [a, b, c] Γ fun ns Γ1 => ∃ n m o, ns = [n, m, o] ∧ ∀ u v w, E.nx (((Γ1.set i (n.ent u)).set j (m.ent v)).set l (o.ent w))) (hi : X.N[i]? = some x := by rfl) (hj : X.N[j]? = some y := by rfl) (hl : X.N[l]? = some z := by rfl) (hij : i ≠ j := by decide) (hil : i ≠ l := by decide) (hjl : j ≠ l := by decide)
    (hx : X.env.scope.names.lookup x = some .local := by rfl) (hy : X.env.scope.names.lookup y = some .local := by rfl) (hz : X.env.scope.names.lookup z = some .local := by rfl) (hw : swappedStores [.Tuple [.Name x px, .Name y py, .Name z pz] kt pt] (.Tuple [a, b, c] k2 pt2) X.env = pure (some [x, y, z]) := by rfl) (hc : X.calm = true := by rfl)
    (hs : swapsWithSole [.Tuple [.Name x px, .Name y py, .Name z pz] kt pt] (.Tuple [a, b, c] k2 pt2) pos.line X.env = pure false := by rfl) : WS X (.Assign [.Tuple [.Name x px, .Name y py, .Name z pz] kt pt] (.Tuple [a, b, c] k2 pt2) pos) Γ E := fun σ F H k Dn po => by
  refine sS_of (ps_par3 hc hN hi hj hl hij hil hjl hx hy hz pa_s hw hs) (h σ F H k _ fun ns Γ1 vs as F1 H1 q1 s1 k1 r1 => ?_)
  obtain ⟨n, m, o, rfl, q⟩ := q1
  have tl : ∀ {n : New} {ns : List New} {vs : List V} {as : List Addr}, NewsOk X.K H F1 H1 Γ1 (n :: ns) vs as → ∃ v us bs, vs = v :: us ∧ NewsOk X.K H F1 H1 Γ1 ns us bs := by
    intro n ns vs as r
    cases r with
    | v _ t => exact ⟨_, _, _, rfl, t⟩
    | l _ _ _ _ t => exact ⟨_, _, _, rfl, t⟩
  obtain ⟨v, us, bs, rfl, t1⟩ := tl r1
  obtain ⟨u, us, bs, rfl, t2⟩ := tl t1
  obtain ⟨w, us, bs, rfl, t3⟩ := tl t2
  cases t3
  obtain ⟨l1, bs, k2', r2, w2⟩ := set_new k1 i r1
  obtain ⟨l2, cs, k3, r3, w3⟩ := set_new k2' j r2
  obtain ⟨l3, ds, k4, r4, w4⟩ := set_new k3 l r3
  exact ⟨v, u, w, rfl, po.nx _ _ F1 H1 (q l1 l2 l3) (step_ow s1 fun b z => (w4 b z).elim (fun z => (w3 b z).elim (w2 b) .inr) .inr) k4⟩
/-- x, y = a, b where one of the names is a cell -/
theorem newsOk_own {K : PySem.W.Frag} {H0 F H : Hp} {Γ : List Ent} {p : Addr} {o : HO} (n : H p = none) : ∀ {ns : List New} {vs : List V} {as : List Addr}, NewsOk K H0 F H Γ ns vs as → NewsOk K H0 F (upd H p o) Γ ns vs as
  | _, _, _, .nil => .nil
  | _, _, _, .v r t => .v r (newsOk_own n t)
  | _, _, _, .l fr h r nn t => .l ⟨fr.h0, fr.f, fr.m⟩ ((upd_ne (ne_of_none h n)).trans h) r nn (newsOk_own n t)
theorem NewsOk.len {K : PySem.W.Frag} {H0 F H : Hp} {Γ : List Ent} : ∀ {ns : List New} {vs : List V} {as : List Addr}, NewsOk K H0 F H Γ ns vs as → ns.length = vs.length
  | _, _, _, .nil => rfl
  | _, _, _, .v r t => congrArg (· + 1) (NewsOk.len t)
  | _, _, _, .l fr h r n t => congrArg (· + 1) (NewsOk.len t)
theorem ws_tup2 (i j : Nat) {px py pt : Pos} {kt k2 pt2} (hN : X.N.Nodup) (h : WXs X [a, b] Γ fun ns Γ1 => ∃ n m, ns = [n, m] ∧ ∀ u v, E.nx ((Γ1.set i (n.ent u)).set j (m.ent v))) (hi : X.N[i]? = some x := by rfl) (hj : X.N[j]? = some y := by rfl)
    (hx : Loc X.env.scope x := by first | exact .inl rfl | exact .inr rfl) (hy : Loc X.env.scope y := by first | exact .inl rfl | exact .inr rfl) (hfx : X.fn x = true ∨ X.env.scope.names.lookup x = some .local := by first | exact .inl rfl | exact .inr rfl) (hfy : X.fn y = true ∨ X.env.scope.names.lookup y = some .local := by first | exact .inl rfl | exact .inr rfl) (hc : X.calm = true := by rfl)
    (hs : swapsWithSole [.Tuple [.Name x px, .Name y py] kt pt] (.Tuple [a, b] k2 pt2) pos.line X.env = pure false := by rfl) (hw : swappedStores [.Tuple [.Name x px, .Name y py] kt pt] (.Tuple [a, b] k2 pt2) X.env = pure none := by rfl)
    (h1 : (assignEach [.Tuple [.Name x px, .Name y py] kt pt] X.env).map (·.2) = [assign (.Tuple [.Name x px, .Name y py] kt pt) X.env] := by rfl)
    (ha1 : (assignEach [.Name x px, .Name y py] X.env).map (·.2) = assign (.Name x px) X.env :: (assignEach [.Name y py] X.env).map (·.2) := by rfl) (ha2 : (assignEach [.Name y py] X.env).map (·.2) = assign (.Name y py) X.env :: (assignEach [] X.env).map (·.2) := by rfl)
    (hn : (assignEach [.Name x px, .Name y py] X.env).length = 2 := by rfl) (hst : (assignEach [.Name x px, .Name y py] X.env).findIdx? (·.1) = none := by rfl) :
    WS X (.Assign [.Tuple [.Name x px, .Name y py] kt pt] (.Tuple [a, b] k2 pt2) pos) Γ E := fun σ F H k Dn po => by
  refine sS_of (ps_asg (pe_tup pa_s) (pg_tup hc (pgs_cons (pg_name hN hi hx hfx) (pgs_cons (pg_name hN hj hy hfy) pgs_nil ha2) ha1) hn hst) hs hw h1) (h σ F H k _ fun ns Γ1 vs as F1 H1 q1 s1 k1 r1 => ⟨?_, fun p np => ?_⟩)
  · obtain ⟨n, m, rfl, _⟩ := q1
    rw [← r1.len]
    show 2 ≤ sizeLine
    decide
  · obtain ⟨n, m, rfl, q⟩ := q1
    obtain ⟨v, u, rfl⟩ : ∃ v u, vs = [v, u] := by
      cases r1 with
      | v _ t => cases t with | v _ t => cases t; exact ⟨_, _, rfl⟩ | l _ _ _ _ t => cases t; exact ⟨_, _, rfl⟩
      | l _ _ _ _ t => cases t with | v _ t => cases t; exact ⟨_, _, rfl⟩ | l _ _ _ _ t => cases t; exact ⟨_, _, rfl⟩
    have r1' := newsOk_own (o := .tup [v, u]) np r1
    obtain ⟨l1, bs, k2', r2, w2⟩ := set_new (k1.own (o := .tup [v, u]) np) i r1'
    obtain ⟨l2, cs, k3, r3, w3⟩ := set_new k2' j r2
    refine ⟨p, _, rfl, sqT upd_same, rfl, _, _, rfl, _, _, rfl, rfl, po.nx _ _ F1 _ (q l1 l2) (step_ow (s1.trans (.own np)) fun b z => (w3 b z).elim (w2 b) .inr) k3⟩
/-- x, y, z = a, b, c where one of the names is a cell -/
theorem ws_tup3 (i j l : Nat) {px py pz pt : Pos} {kt k2 pt2} (hN : X.N.Nodup) (h : WXs X [a, b, c] Γ fun ns Γ1 => ∃ n m o, ns = [n, m, o] ∧ ∀ u v w, E.nx (((Γ1.set i (n.ent u)).set j (m.ent v)).set l (o.ent w))) (hi : X.N[i]? = some x := by rfl) (hj : X.N[j]? = some y := by rfl) (hl : X.N[l]? = some z := by rfl)
    (hx : Loc X.env.scope x := by first | exact .inl rfl | exact .inr rfl) (hy : Loc X.env.scope y := by first | exact .inl rfl | exact .inr rfl) (hz : Loc X.env.scope z := by first | exact .inl rfl | exact .inr rfl) (hfx : X.fn x = true ∨ X.env.scope.names.lookup x = some .local := by first | exact .inl rfl | exact .inr rfl) (hfy : X.fn y = true ∨ X.env.scope.names.lookup y = some .local := by first | exact .inl rfl | exact .inr rfl) (hfz : X.fn z = true ∨ X.env.scope.names.lookup z = some .local := by first | exact .inl rfl | exact .inr rfl) (hc : X.calm = true := by rfl)
    (hs : swapsWithSole [.Tuple [.Name x px, .Name y py, .Name z pz] kt pt] (.Tuple [a, b, c] k2 pt2) pos.line X.env = pure false := by rfl) (hw : swappedStores [.Tuple [.Name x px, .Name y py, .Name z pz] kt pt] (.Tuple [a, b, c] k2 pt2) X.env = pure none := by rfl)
    (h1 : (assignEach [.Tuple [.Name x px, .Name y py, .Name z pz] kt pt] X.env).map (·.2) = [assign (.Tuple [.Name x px, .Name y py, .Name z pz] kt pt) X.env] := by rfl)
    (ha1 : (assignEach [.Name x px, .Name y py, .Name z pz] X.env).map (·.2) = assign (.Name x px) X.env :: (assignEach [.Name y py, .Name z pz] X.env).map (·.2) := by rfl) (ha2 : (assignEach [.Name y py, .Name z pz] X.env).map (·.2) = assign (.Name y py) X.env :: (assignEach [.Name z pz] X.env).map (·.2) := by rfl) (ha3 : (assignEach [.Name z pz] X.env).map (·.2) = assign (.Name z pz) X.env :: (assignEach [] X.env).map (·.2) := by rfl)
    (hn : (assignEach [.Name x px, .Name y py, .Name z pz] X.env).length = 3 := by rfl) (hst : (assignEach [.Name x px, .Name y py, .Name z pz] X.env).findIdx? (·.1) = none := by rfl) :
    WS X (.Assign [.Tuple [.Name x px, .Name y py, .Name z pz] kt pt] (.Tuple [a, b, c] k2 pt2) pos) Γ E := fun σ F H k Dn po => by
  refine sS_of (ps_asg (pe_tup pa_s) (pg_tup hc (pgs_cons (pg_name hN hi hx hfx) (pgs_cons (pg_name hN hj hy hfy) (pgs_cons (pg_name hN hl hz hfz) pgs_nil ha3) ha2) ha1) hn hst) hs hw h1) (h σ F H k _ fun ns Γ1 vs as F1 H1 q1 s1 k1 r1 => ⟨?_, fun p np => ?_⟩)
  · obtain ⟨n, m, o, rfl, _⟩ := q1
    rw [← r1.len]
    show 3 ≤ sizeLine
    decide
  · obtain ⟨n, m, o, rfl, q⟩ := q1
    have tl : ∀ {n : New} {ns : List New} {vs : List V} {as : List Addr}, NewsOk X.K H F1 H1 Γ1 (n :: ns) vs as → ∃ v us bs, vs = v :: us ∧ NewsOk X.K H F1 H1 Γ1 ns us bs := by
      intro n ns vs as r
      cases r with
      | v _ t => exact ⟨_, _, _, rfl, t⟩
      | l _ _ _ _ t => exact ⟨_, _, _, rfl, t⟩
    obtain ⟨v, us, bs, rfl, t1⟩ := tl r1
    obtain ⟨u, us, bs, rfl, t2⟩ := tl t1
    obtain ⟨w, us, bs, rfl, t3⟩ := tl t2
    cases t3
    have r1' := newsOk_own (o := .tup [v, u, w]) np r1
    obtain ⟨l1, bs, k2', r2, w2⟩ := set_new (k1.own (o := .tup [v, u, w]) np) i r1'
    obtain ⟨l2, cs, k3, r3, w3⟩ := set_new k2' j r2
    obtain ⟨l3, ds, k4, r4, w4⟩ := set_new k3 l r3
    refine ⟨p, _, rfl, sqT upd_same, rfl, _, _, rfl, _, _, rfl, _, _, rfl, rfl, po.nx _ _ F1 _ (q l1 l2 l3) (step_ow (s1.trans (.own np)) fun b z => (w4 b z).elim (fun z => (w3 b z).elim (w2 b) .inr) .inr) k4⟩
/-- a, b = e of a pair's value -/
theorem ws_un (vs : List Nat) {tg e : Expr} {g : TG} (hg : PG X tg g) (h : WE X e Γ fun d Γ1 => ∃ Γ2, TgS X.K vs g d Γ1 Γ2 ∧ E.nx Γ2) (hs : swapsWithSole [tg] e pos.line X.env = pure false := by rfl) (hw : swappedStores [tg] e X.env = pure none := by rfl)
    (h1 : (assignEach [tg] X.env).map (·.2) = [assign tg X.env] := by rfl) : WS X (.Assign [tg] e pos) Γ E := fun σ F H k Dn po => by
  refine sS_of (ps_asg pe_s hg hs hw h1) (h σ F H k _ fun d Γ1 v F1 H1 q1 s1 k1 r1 => ?_)
  obtain ⟨Γ2, T, q⟩ := q1
  exact T.go σ F1 H1 v k1 r1 _ fun σ2 k2 _ => po.nx _ _ F1 H1 q (step_ow s1 fun b m => .inl (T.ft m)) k2
/-- x[i] = e, x a list of one's own -/
theorem ws_put (i : Nat) {px : Pos} {ix : Expr} {spos : Pos} (h : WE X e Γ fun d Γ1 => (∃ l ds, Γ1[i]? = some (Ent.l l ds)) ∧ WE X ix Γ1 fun d2 Γ2 => ∃ l ds n j, Γ2[i]? = some (Ent.l l ds) ∧ d2 = .int n ∧ ixN ds.length n = some j ∧ E.nx (Γ2.set i (.l l (ds.set j d)))) (hN : X.N[i]? = some x := by rfl) (hv : Vis X.env.scope x := by first | exact Or.inl rfl | exact Or.inr (Or.inl rfl) | exact Or.inr (Or.inr rfl)) (hd : (x == ("__debug__" : Str)) = false := by decide)
    (hcd : (x == ("__classdict__" : Str)) = false := by decide)
    (hs : swapsWithSole [.Subscript (.Name x px) ix spos] e pos.line X.env = pure false := by rfl) (hw : swappedStores [.Subscript (.Name x px) ix spos] e X.env = pure none := by rfl)
    (h1 : (assignEach [.Subscript (.Name x px) ix spos] X.env).map (·.2) = [assign (.Subscript (.Name x px) ix spos) X.env] := by rfl)
    (ha : ∀ v, assign (.Subscript (.Name x px) ix spos) X.env v = (do
      let ov ← holding [v] (eval (.Name x px) X.env)
      let iv ← holding [v, ov] (eval ix X.env)
      standAt spos
      holding [v, ov, iv] (setItem ov iv v)
      release [v, ov, iv] []) := by intro _; rfl) : WS X (.Assign [.Subscript (.Name x px) ix spos] e pos) Γ E := fun σ F H k Dn po => by
  refine sS_of (ps_asg pe_s (pg_sub (pe_var hN hv hd hcd) pe_s set_list ha) hs hw h1) (h σ F H k _ fun d Γ1 v F1 H1 q1 s1 k1 r1 => ?_)
  obtain ⟨⟨l0, ds0, hi0⟩, q1⟩ := q1
  obtain ⟨o, ho, rfl, _⟩ := k1.get hi0
  refine ⟨_, ho, q1 σ F1 H1 k1 _ fun d2 Γ2 v2 F2 H2 q2 s2 k2 r2 => ?_⟩
  obtain ⟨l, ds, n, j, hi, rfl, hj, q⟩ := q2
  obtain ⟨o2, ho2, rfl, fl, us, hl, ra⟩ := k2.get hi
  rw [ho] at ho2
  cases ho2
  cases r2
  obtain ⟨k3, s3⟩ := k2.putL hi (ra.set j (r1.same s2.sf))
  exact ⟨_, us, n, j, rfl, rfl, hl, by rw [← ra.len]; exact hj, po.nx _ σ F2 _ q ((s1.trans s2).trans s3) k3⟩
end
end Pu
/-! Draws. -/
namespace Pu
open PySem PySem.Spec PyProof.Rows L2 Gd
theorem _root_.Gd.FnG.imp {P : Program} {w : World} {K : PySem.W.Frag} {mg : Str → Option Value} {base : Heap} {k : Nat} {f : Addr} {fd : FuncData} {ps : List Str} {sp sp' : Sp} (F : FnG P w K mg base k f fd ps sp) (h : ∀ vs H Q E, sp' vs H Q E → sp vs H Q E) : FnG P w K mg base k f fd ps sp' :=
  ⟨fun vs H Q E q => F.len vs H Q E (h _ _ _ _ q), fun A out s H ar us xs Q E hr he hb hv hs => F.go A out s H ar us xs Q E hr he hb hv (h _ _ _ _ hs)⟩
/-- a number below m -/
def dDraw : List Int → Int → List D → (D → List Int → Int → Prop) → Prop := fun _ _ ds Q => ∃ m : Int, ds = [.int m] ∧ 0 < m ∧ m < 1000000000 ∧ ∀ r L' st', 0 ≤ r → r < m → Q (.int r) L' st'
def dPick : List Int → Int → List D → (D → List Int → Int → Prop) → Prop := fun _ _ ds Q => ∃ d its, ds = [d] ∧ Sq [] d its ∧ 0 < its.length ∧ its.length < 1000 ∧ ∀ (i : Nat) x L' st', its[i]? = some x → Q x L' st'
theorem but_same {F H G : Hp} {h l : Addr} (s : Same F H) (fh : F h = none) (fl : F l = none) (b : But h l H G) : Same F G := fun a o e => b a o (fun z => by rw [z, fh] at e; cases e) (fun z => by rw [z, fl] at e; cases e) (s _ _ e)
theorem but_step {F H G : Hp} {h l : Addr} {L L' : List Int} {st st' : Int} (hv : Hv H h l L st) (hv' : Hv G h l L' st') (b : But h l H G) : Step F H [h, l] F G [h, l] := by
  refine ⟨.refl _, fun a o n e => b a o (fun z => n (by rw [z]; exact List.mem_cons_self)) (fun z => n (by rw [z]; exact List.mem_cons_of_mem _ List.mem_cons_self)) e, fun a n => ?_, fun _ _ _ e => e, fun _ z => .inl z⟩
  by_cases e1 : a = h
  · rw [e1, hv'.top]; exact nofun
  · by_cases e2 : a = l
    · rw [e2, hv'.bot]; exact nofun
    · cases q : H a with
      | none => exact absurd q n
      | some o => rw [b a o e1 e2 q]; exact nofun
theorem draw_imp {K : PySem.W.Frag} {vs : List V} {H : Hp} {Q : VK} {E : XK} (h : spS K dDraw vs H Q E) : ∃ (h l : Addr) (L : List Int) (st m : Int), vs = [.ref h, .int m] ∧ Hv H h l L st ∧ 0 < m ∧ m < 1000000000 ∧
    ∀ G L' st' r, But h l H G → Hv G h l L' st' → 0 ≤ r → r < m → Q (.int r) G := by
  obtain ⟨F, ds, Qp, h, l, L, st, vs', rfl, sm, fh, fl, hv, r, ⟨m, rfl, m0, m1, q⟩, po⟩ := h
  obtain ⟨v, rfl, rv⟩ := reA1 r
  cases rv
  exact ⟨h, l, L, st, m, rfl, hv, m0, m1, fun G L' st' r b hv' r0 r1 => po _ L' st' _ F G (q r L' st' r0 r1) (but_step hv hv' b) (but_same sm fh fl b) fh fl hv' (.int r)⟩
end Pu
/-! Data with lists of one's own; ranges as values; sets; own ==. -/
namespace Pu
open PySem PySem.Spec PyProof.Rows L2 Gd
/-- a value, a list of one's own told by its items -/
inductive Vw (Γ : List Ent) : D → D → Prop
  | same (d : D) : Vw Γ d d
  | own {i : Nat} {a : Addr} {ds : List D} (h : Γ[i]? = some (.l a ds)) : Vw Γ (.adr a) (.lst ds)
theorem Vw.dp {K : PySem.W.Frag} {F H : Hp} {σ : L2.St} {Γ : List Ent} {d e : D} {v : V} (h : Vw Γ d e) (k : Ok K F H σ Γ) (r : Re K F d v) (p : isP e = true) : Dp K H v (py e) := by
  cases h with
  | same => exact dp_same k.same _ _ (re_dp d v p r)
  | @own i a ds hi =>
    cases r
    obtain ⟨o, _, _, fa, vs, ha, ra⟩ := k.get hi
    rw [py]
    exact .lst (sqL ha) (dpAll_same k.same _ _ (reA_dp ds vs (by simpa [isP] using p) ra))
/-- data that == serves -/
structure Sh (d : D) : Prop where
  p : isP d = true
  f : fine (py d) = true
  dp : (py d).depth ≤ 60
theorem Sh.sh {d : D} (h : Sh d) : SeqAt.shaped (py d) = true := fine_shaped h.f h.dp
theorem pu_eqV {K : PySem.W.Frag} : Pu2 K (rEqD K) (fun d1 d2 Γ Q => ∃ e1 e2, Vw Γ d1 e1 ∧ Vw Γ d2 e2 ∧ Sh e1 ∧ Sh e2 ∧ Q (.bl (PyData.eqv (py e1) (py e2))) Γ) := by
  rintro d1 d2 Γ Q ⟨e1, e2, w1, w2, f1, f2, q⟩ σ F H v1 v2 k r1 r2 Q' po
  exact ⟨_, _, w1.dp k r1 f1.p, w2.dp k r2 f2.p, f1.sh, f2.sh, po.now k (.bl _) q⟩
theorem pu_neV {K : PySem.W.Frag} : Pu2 K (rNeD K) (fun d1 d2 Γ Q => ∃ e1 e2, Vw Γ d1 e1 ∧ Vw Γ d2 e2 ∧ Sh e1 ∧ Sh e2 ∧ Q (.bl (!PyData.eqv (py e1) (py e2))) Γ) := by
  rintro d1 d2 Γ Q ⟨e1, e2, w1, w2, f1, f2, q⟩ σ F H v1 v2 k r1 r2 Q' po
  exact ⟨_, _, w1.dp k r1 f1.p, w2.dp k r2 f2.p, f1.sh, f2.sh, po.now k (.bl _) q⟩
theorem pu_inV {K : PySem.W.Frag} : Pu2 K (rInD K) (fun d1 d2 Γ Q => ∃ e1 es, Vw Γ d1 e1 ∧ Vw Γ d2 (.lst es) ∧ Sh e1 ∧ Sh (.lst es) ∧ Q (.bl ((pyA es).any fun z => PyData.eqv z (py e1))) Γ) := by
  rintro d1 d2 Γ Q ⟨e1, es, w1, w2, f1, f2, q⟩ σ F H v1 v2 k r1 r2 Q' po
  have h1 := w1.dp k r1 f1.p
  have h2 := w2.dp k r2 f2.p
  have s2 := f2.sh
  rw [py] at h2 s2
  exact ⟨_, _, h1, h2, f1.sh, s2, po.now k (.bl _) q⟩
theorem pu_ninV {K : PySem.W.Frag} : Pu2 K (rNotInD K) (fun d1 d2 Γ Q => ∃ e1 es, Vw Γ d1 e1 ∧ Vw Γ d2 (.lst es) ∧ Sh e1 ∧ Sh (.lst es) ∧ Q (.bl (!(pyA es).any fun z => PyData.eqv z (py e1))) Γ) := by
  rintro d1 d2 Γ Q ⟨e1, es, w1, w2, f1, f2, q⟩ σ F H v1 v2 k r1 r2 Q' po
  have h1 := w1.dp k r1 f1.p
  have h2 := w2.dp k r2 f2.p
  have s2 := f2.sh
  rw [py] at h2 s2
  exact ⟨_, _, h1, h2, f1.sh, s2, po.now k (.bl _) q⟩
/-- a value's truth -/
inductive Tru (Γ : List Ent) : D → Bool → Prop
  | sq {d : D} {ds : List D} (h : Sq Γ d ds) : Tru Γ d (!ds.isEmpty)
  | bl (b : Bool) : Tru Γ (.bl b) b
  | non : Tru Γ .non false
  | int (i : Int) : Tru Γ (.int i) (i != 0)
theorem ReA.emp {K : PySem.W.Frag} {F : Hp} {ds : List D} {vs : List V} (r : ReA K F ds vs) : (!ds.isEmpty) = !vs.isEmpty := by cases r <;> rfl
theorem Tru.real {K : PySem.W.Frag} {F H : Hp} {σ : L2.St} {Γ : List Ent} {d : D} {c : Bool} {v : V} (h : Tru Γ d c) (k : Ok K F H σ Γ) (r : Re K F d v) : TruV K v H c := by
  cases h with
  | sq h =>
    obtain ⟨a, vs, rfl, hv, ra⟩ := h.real k r
    rw [ra.emp]
    rcases hv with hv | hv
    · exact .inl ⟨vs, hv, rfl⟩
    · exact .inr (.inl ⟨vs, hv, rfl⟩)
  | bl b => cases r; exact rfl
  | non => cases r; exact rfl
  | int i => cases r; exact rfl
section
variable {X : Cx} {Γ : List Ent} {Q : D → List Ent → Prop} {QB : Bool → List Ent → Prop} {QA : List D → List Ent → Prop} {a b c e : Expr} {es rest : List Expr} {pos p2 p p3 pos2 : Pos} {x : Str}
theorem wt_tru (h : WE X e Γ fun d Γ1 => ∃ k, Tru Γ1 d k ∧ QB k Γ1) (he : ∀ whole, isTrue e X.env whole = (do let v ← whole; standAt e.pos; holding [v] (truthy v)) := by intro _; rfl) : WT X e Γ QB := fun σ F H k Q' po => by
  refine sT_of (pt_truth pe_s he) (h σ F H k _ fun d Γ1 v F1 H1 q1 s1 k1 r1 => ?_)
  obtain ⟨c, t, q⟩ := q1
  exact ⟨c, t.real k1 r1, po c Γ1 F1 H1 q s1 k1⟩
theorem we_notT (h : WE X a Γ fun d Γ1 => ∃ k, Tru Γ1 d k ∧ Q (.bl (!k)) Γ1) : WE X (.UnaryOp .Not a pos) Γ Q := fun σ F H k Q' po => by
  refine sE_of (pe_notT pe_s) (h σ F H k _ fun d Γ1 v F1 H1 q1 s1 k1 r1 => ?_)
  obtain ⟨c, t, q⟩ := q1
  exact ⟨c, t.real k1 r1, (po.step s1).now k1 (.bl _) q⟩
theorem we_neg (h : WE X a Γ fun d Γ1 => ∃ i, d = .int i ∧ Q (.int (-i)) Γ1) : WE X (.UnaryOp .USub a pos) Γ Q := fun σ F H k Q' po => by
  refine sE_of (pe_un un_neg pe_s) (h σ F H k _ fun d Γ1 v F1 H1 q1 s1 k1 r1 => ?_)
  obtain ⟨i, rfl, q⟩ := q1
  cases r1
  exact ⟨i, rfl, (po.step s1).now k1 (.int _) q⟩
theorem reA_rng {K : PySem.W.Frag} {F : Hp} {a b : Int} : ReA K F (rngD a (b - a).toNat) (rgV a b) := by
  unfold rngD rgV
  generalize (b - a).toNat = n
  have : ∀ l : List Nat, ReA K F (l.map fun i : Nat => D.int (a + i)) (l.map fun i => V.int (a + (i : Nat))) := fun l => by
    induction l with
    | nil => exact .nil
    | cons x r ih => exact .cons (.int _) ih
  exact this _
theorem prg_s1 (hm : X.mg "range" = none) (hg : Gl X "range" := by rfl) (na : starEach [a] X.env = (false, eval a X.env) :: starEach [] X.env := by rfl) : PRg X (.Call (.Name "range" p2) [a] [] pos2) (tRg1 (sE X a)) := prg_1 hg hm pe_s na
/-- tuple(range(n)), list(range(n)) -/
theorem we_tupR (hm : X.mg "tuple" = none) (hm2 : X.mg "range" = none) (h : WE X a Γ fun d Γ1 => ∃ n : Int, d = .int n ∧ (0 ≤ n ∧ n ≤ 100000) ∧ Q (.tup (rngD 0 n.toNat)) Γ1) (hc : X.calm = true := by rfl) (hg : Gl X "tuple" := by rfl) (hg2 : Gl X "range" := by rfl) (na : starEach [a] X.env = (false, eval a X.env) :: starEach [] X.env := by rfl)
    (na2 : starEach [.Call (.Name "range" p2) [a] [] pos2] X.env = (false, eval (.Call (.Name "range" p2) [a] [] pos2) X.env) :: starEach [] X.env := by rfl) : WE X (.Call (.Name "tuple" p) [.Call (.Name "range" p2) [a] [] pos2] [] pos) Γ Q := fun σ F H k Q' po => by
  refine sE_of (pe_tupRg hc hg hm (prg_1 hg2 hm2 pe_s na) na2) (h σ F H k _ fun d Γ1 v F1 H1 q1 s1 k1 r1 => ?_)
  obtain ⟨n, rfl, ⟨n0, n1⟩, q⟩ := q1
  cases r1
  refine ⟨n, rfl, .of_le (by omega) (by omega) (by omega) (by omega), fun p np => (po.step s1).new k1 np (.tup (sqT upd_same) ?_) q⟩
  have z := reA_rng (K := X.K) (F := upd F1 p (.tup (rgV 0 n))) (a := 0) (b := n)
  rwa [Int.sub_zero] at z
theorem wn_lstR (hm : X.mg "list" = none) (hm2 : X.mg "range" = none) (h : WE X a Γ fun d Γ1 => ∃ n : Int, d = .int n ∧ (0 ≤ n ∧ n ≤ 100000) ∧ QA (rngD 0 n.toNat) Γ1) (hc : X.calm = true := by rfl) (hg : Gl X "list" := by rfl) (hg2 : Gl X "range" := by rfl) (na : starEach [a] X.env = (false, eval a X.env) :: starEach [] X.env := by rfl)
    (na2 : starEach [.Call (.Name "range" p2) [a] [] pos2] X.env = (false, eval (.Call (.Name "range" p2) [a] [] pos2) X.env) :: starEach [] X.env := by rfl) : WN X (.Call (.Name "list" p) [.Call (.Name "range" p2) [a] [] pos2] [] pos) Γ QA := fun σ F H k Q' po => by
  refine sE_of (pe_listRg hc hg hm (prg_1 hg2 hm2 pe_s na) na2) (h σ F H k _ fun d Γ1 v F1 H1 q1 s1 k1 r1 => ?_)
  obtain ⟨n, rfl, ⟨n0, n1⟩, q⟩ := q1
  cases r1
  refine ⟨n, rfl, .of_le (by omega) (by omega) (by omega) (by omega), fun p np => (po.step s1).now k1 np ?_ q⟩
  have z := reA_rng (K := X.K) (F := F1) (a := 0) (b := n)
  rwa [Int.sub_zero] at z
/-! ### sorted(set(..)) -/
/-- of ints -/
theorem wn_sset (hm : X.mg "sorted" = none) (hm2 : X.mg "set" = none) (h : WE X a Γ fun d Γ1 => ∃ ns : List Int, Sq Γ1 d (ns.map .int) ∧ ns.length < 64 ∧ ∀ ms : List Int, ms.Pairwise (· < ·) → (∀ x, x ∈ ms ↔ x ∈ ns) → QA (ms.map .int) Γ1) (hc : X.calm = true := by rfl) (hg : Gl X "sorted" := by rfl) (hg2 : Gl X "set" := by rfl)
    (he : starEach [.Call (.Name "set" p2) [a] [] pos2] X.env = (false, eval (.Call (.Name "set" p2) [a] [] pos2) X.env) :: starEach [] X.env := by rfl) (he2 : starEach [a] X.env = (false, eval a X.env) :: starEach [] X.env := by rfl) (hpl : (backTo pos (starEach [] X.env)).any (·.1) = false := by rfl) (hpl2 : (backTo pos2 (starEach [] X.env)).any (·.1) = false := by rfl) :
    WN X (.Call (.Name "sorted" p) [.Call (.Name "set" p2) [a] [] pos2] [] pos) Γ QA := fun σ F H k Q' po => by
  have both : CallR X (.type "set") (fun xs H Q => rSetTI X.w X.K xs H Q ∨ rSetLI X.w X.K xs H Q) := fun pins s σ H xs us Q I r h => h.elim (cr_setTI hc pins s σ H xs us Q I r) (cr_setLI hc pins s σ H xs us Q I r)
  refine sE_of (pe_callB (cr_sortedSet hc) hg hm (by decide +kernel) (pa_cons (pe_callTy both hg2 hm2 (by decide +kernel) (pa_cons pe_s pa_nil he2) (he := he2) (hpl := hpl2)) pa_nil he) (he := he) (hpl := hpl)) (h σ F H k _ fun d Γ1 v F1 H1 q1 s1 k1 r1 => ?_)
  obtain ⟨ns, sq, l64, q⟩ := q1
  obtain ⟨l, vs, rfl, hv, ra⟩ := sq.real k1 r1
  have e := ra.ints
  subst e
  have fin : ∀ (p : Addr) (c : Nat), H1 p = none → c ≤ ns.length → rSortedSet X.w [.ref p] (upd H1 p (SetO X.w p (fun j => decide (j ∈ ns)) c)) Q' := fun p c np cn => by
    refine ⟨p, _, c, rfl, upd_same, by omega, fun ms r hp hm _ nr => ?_⟩
    have kp := k1.own (o := SetO X.w p (fun j => decide (j ∈ ns)) c) np
    exact (po.step (s1.trans (.own np))).now kp nr (.ofInts ms) (q ms hp fun x => by rw [hm x, decide_eq_true_eq])
  rcases hv with hv | hv
  · exact .inr ⟨l, ns, rfl, hv, by omega, fin⟩
  · exact .inl ⟨l, ns, rfl, hv, by omega, fin⟩
/-- the pairs below B, ascending by their code -/
theorem wn_ssetT {k0 : Nat} (hr : RmG k0 X.A) (hm : X.mg "sorted" = none) (hm2 : X.mg "set" = none) (h : WE X a Γ fun d Γ1 => ∃ (ns : List (List Int)) (n : Nat) (B : Int), Ls Γ1 d (ns.map fun l => .tup (l.map .int)) ∧ ns.length < 64 ∧ 1 ≤ n ∧ (∀ l ∈ ns, l.length = n ∧ TS.Bd B l) ∧
    ∀ ms : List (List Int), ms.Nodup → ms.Pairwise (fun a b => TS.code B a ≤ TS.code B b) → (∀ x, x ∈ ms ↔ x ∈ ns) → QA (ms.map fun l => .tup (l.map .int)) Γ1) (hc : X.calm = true := by rfl) (hg : Gl X "sorted" := by rfl) (hg2 : Gl X "set" := by rfl)
    (he : starEach [.Call (.Name "set" p2) [a] [] pos2] X.env = (false, eval (.Call (.Name "set" p2) [a] [] pos2) X.env) :: starEach [] X.env := by rfl) (he2 : starEach [a] X.env = (false, eval a X.env) :: starEach [] X.env := by rfl) (hpl : (backTo pos (starEach [] X.env)).any (·.1) = false := by rfl) (hpl2 : (backTo pos2 (starEach [] X.env)).any (·.1) = false := by rfl) :
    WN X (.Call (.Name "sorted" p) [.Call (.Name "set" p2) [a] [] pos2] [] pos) Γ QA := fun σ F H k Q' po => by
  refine sE_of (pe_callB (cr_sortedT hc) hg hm (by decide +kernel) (pa_cons (pe_callTy (cr_setOfT hc hr.rm.units) hg2 hm2 (by decide +kernel) (pa_cons pe_s pa_nil he2) (he := he2) (hpl := hpl2)) pa_nil he) (he := he) (hpl := hpl)) (h σ F H k _ fun d Γ1 v F1 H1 q1 s1 k1 r1 => ?_)
  obtain ⟨ns, n, B, ls, l64, n1, hB, q⟩ := q1
  obtain ⟨l, vs, rfl, hv, ra⟩ := ls.real k1 r1
  have key : ∀ {ns : List (List Int)} {vs : List V}, ReA X.K F1 (ns.map fun l => D.tup (l.map .int)) vs → ∃ ks : List (Addr × List Int), vs = ks.map (fun p => V.ref p.1) ∧ ns = ks.map (·.2) ∧ ∀ p ∈ ks, SqT X.K F1 p.1 (p.2.map V.int) := by
    intro ns
    induction ns with
    | nil => intro vs r; cases r; exact ⟨[], rfl, rfl, nofun⟩
    | cons x r ih =>
      intro vs ra
      cases ra with
      | cons h t =>
        obtain ⟨ks, e1, e2, e3⟩ := ih t
        cases h with
        | @tup b us _ hs ra2 =>
          have e := ra2.ints
          subst e
          exact ⟨(b, x) :: ks, by rw [e1]; rfl, by rw [e2]; rfl, fun p m => by
            rcases List.mem_cons.mp m with rfl | m
            · exact hs
            · exact e3 p m⟩
  obtain ⟨ks, rfl, rfl, e3⟩ := key ra
  refine ⟨l, ks, rfl, sqL hv, fun p m => same_seqT k1.same (e3 p m), by simpa using l64, fun p L np hL1 hL2 => ?_⟩
  have mem2 : ∀ x, x ∈ L.map (·.2) ↔ x ∈ ks.map (·.2) := fun x => ⟨fun m => by
    obtain ⟨y, hy, rfl⟩ := List.mem_map.mp m
    exact List.mem_map.mpr ⟨y, hL1 y hy, rfl⟩, fun m => by
    obtain ⟨y, hy, rfl⟩ := List.mem_map.mp m
    exact hL2 y hy⟩
  refine ⟨p, L, n, B, rfl, upd_same, fun y hy => same_seqT (same_new np) (same_seqT k1.same (e3 y (hL1 y hy))), n1, fun y hy => hB y.2 (List.mem_map.mpr ⟨y, hL1 y hy, rfl⟩), fun L' r hp nd l64' hpw nr => ?_⟩
  have kp := k1.own (o := SetTO X.prog X.w p L) np
  refine (po.step (s1.trans (.own np))).now (ds := (L'.map (·.2)).map fun l => D.tup (l.map .int)) kp nr ?_ (q (L'.map (·.2)) nd (List.pairwise_map.mpr hpw) fun x => by rw [(hp.map (·.2)).mem_iff, mem2])
  have sub : ∀ y ∈ L', y ∈ ks := fun y hy => hL1 y (hp.mem_iff.mp hy)
  clear hp nd hpw l64'
  induction L' with
  | nil => exact .nil
  | cons y r ih => exact .cons (.tup (e3 y (sub y List.mem_cons_self)) (.ofInts _)) (ih fun z hz => sub z (List.mem_cons_of_mem _ hz))
/-! ### == by the class's own -/
/-- what the right side is: an instance, or a tuple -/
inductive Rgt (K : PySem.W.Frag) (C : Addr) : D → Prop
  | ins (C2 : Addr) (fs : List (Str × D)) (h : PySem.W.notFirst K C (.ref C2) = true) : Rgt K C (.ins C2 fs)
  | tup (ds : List D) (h : PySem.W.notFirst K C (.type "tuple") = true) : Rgt K C (.tup ds)
theorem Rgt.look {K : PySem.W.Frag} {F H : Hp} {σ : L2.St} {Γ : List Ent} {C : Addr} {d : D} {v : V} (h : Rgt X.K C d) {pins : List (Addr × Obj)} {s : Shared} (I : Inv X pins σ H s) (k : Ok X.K F H σ Γ) (r : Re X.K F d v) {u : Value} (ru : RelV v u) : ∃ tb, PySem.W.Looks (model X.prog X.w) s.heap (typeOf u) tb ∧ PySem.W.notFirst X.K C tb = true := by
  cases h with
  | ins C2 fs h =>
    cases r with
    | ins hp _ =>
      cases ru
      obtain ⟨mA, J, _⟩ := ins_get I.hok (k.same _ _ hp)
      obtain ⟨od, J, _⟩ := J.look
      exact ⟨_, J.type, h⟩
  | tup ds h =>
    cases r with
    | @tup l _ _ hs _ =>
      cases ru
      obtain ⟨its, _, ⟨o, ho, hc, _⟩, _⟩ := I.tuple (same_seqT k.same hs)
      exact ⟨.type "tuple", fun A Q E s2 kp q => wpAny_typeOf (show s2.TypeIs (.ref l) "tuple" from ⟨o, kp _ _ ho, hc⟩) q, h⟩
def puOwn (C : Addr) (sp : List D → (D → Prop) → Prop) : D → D → List Ent → (D → List Ent → Prop) → Prop := fun d1 d2 Γ Q => ∃ fs c, d1 = .ins C fs ∧ sp [d1, d2] (fun d => d = .bl c) ∧ Q (.bl c) Γ
theorem own_eq {k : Nat} {f C : Addr} {fd : FuncData} {sp : List D → (D → Prop) → Prop} (G : FnG X.prog X.w X.K X.mg X.base k f fd ["self", "other"] (spD X.K sp)) (hr : RmG k X.A) (hs : PySem.W.findIn X.K (.ref C) "__eq__" = some (some (.ref f))) (hf : PySem.W.isFn X.K (.ref f) = true) (hb : Binds X.K fd ["self", "other"] [])
    {F H : Hp} {σ : L2.St} {Γ : List Ent} {fs : List (Str × D)} {d2 : D} {c : Bool} (ok : Ok X.K F H σ Γ) (hR : Rgt X.K C d2) (q : sp [.ins C fs, d2] (fun d => d = .bl c)) {v1 v2 : V} (r1 : Re X.K F (.ins C fs) v1) (r2 : Re X.K F d2 v2) {Q' : VK} (po : Post X.K F H σ Γ (fun d Γ' => d = .bl c ∧ Γ' = Γ) Q')
    (pins : List (Addr × Obj)) (s : Shared) (I : Inv X pins σ H s) (u1 u2 : Value) (e1 : RelV v1 u1) (e2 : RelV v2 u2) : wpAny (model X.prog X.w) X.A (richCompare .Eq u1 u2) (EP X pins σ Q') X.xe s := by
  obtain ⟨tb, lk, nf⟩ := hR.look (K := X.K) I ok r2 e2
  cases r1 with
  | @ins p _ dx fv _ hp rf =>
    cases e1
    obtain ⟨mA, J, _⟩ := ins_get I.hok (ok.same _ _ hp)
    obtain ⟨od, J, _⟩ := J.look
    obtain ⟨m, hF⟩ := I.fr
    refine PySem.W.cmp_K (op := .Eq) hr.rm.units0 hF I.ok.mod.kin J lk nf hs hf ?_
    have hsp : spD X.K sp [.ref p, v2] H (fun v H' => v = .bl c ∧ Q' v H') (fun _ _ _ => False) := ⟨F, [.ins C fs, d2], _, ok.same, .cons (.ins hp rf) (.cons r2 .nil), q, fun d v F' H' ed st sm rd => by
      subst ed
      cases rd
      exact ⟨rfl, po _ Γ _ F' H' ⟨rfl, rfl⟩ (st.wide fun _ z => nomatch z) (ok.call st sm) (.bl c)⟩⟩
    have hl := G.len _ _ _ _ hsp
    refine wpAny_call (codeAny_mono (run_G G hr I (by
      have := hb s [.ref p, u2] I.kIn rfl
      simpa using this) (.cons (show L2.RelV (.ref p) (.ref p) from rfl) (.cons e2 .nil)) hsp) fun r s' hq => ?_)
    obtain ⟨w2, rfl, v, H', I', rv, ev, q2⟩ := hq
    subst ev
    cases rv
    exact ⟨.bl c, H', I', rfl, q2⟩
theorem we_eqO {k : Nat} {f C : Addr} {fd : FuncData} {sp : List D → (D → Prop) → Prop} (G : FnG X.prog X.w X.K X.mg X.base k f fd ["self", "other"] (spD X.K sp)) (hr : RmG k X.A) (hs : PySem.W.findIn X.K (.ref C) "__eq__" = some (some (.ref f))) (hf : PySem.W.isFn X.K (.ref f) = true) (hb : Binds X.K fd ["self", "other"] [])
    (h : WE X a Γ fun d1 Γ1 => WE X b Γ1 fun d2 Γ2 => ∃ fs c, d1 = .ins C fs ∧ Rgt X.K C d2 ∧ sp [d1, d2] (fun d => d = .bl c) ∧ Q (.bl c) Γ2) (hm : behindInMarks .Eq b = false := by exact nomark _) : WE X (.Compare a [.Eq] [b] pos) Γ Q := fun σ F H k Q' po => by
  have ho : OpR X (compareOp .Eq) (fun x y H Q => ∀ pins s, Inv X pins σ H s → ∀ u1 u2, RelV x u1 → RelV y u2 → wpAny (model X.prog X.w) X.A (richCompare .Eq u1 u2) (EP X pins σ Q) X.xe s) → True := fun _ => trivial
  intro pins s I
  refine wpAny_Compare1 ?_ hm
  refine h σ F H k (fun x H1 => ∀ pins' s1, Inv X pins' σ H1 s1 → ∀ u1, RelV x u1 → wpAny (model X.prog X.w) X.A (eval b X.env) (fun u s2 => wpAny (model X.prog X.w) X.A (compareOp .Eq u1 u) (EP X pins' σ Q') X.xe s2) X.xe s1) (fun d1 Γ1 v1 F1 H1 q1 s1 k1 r1 => ?_) pins s I |> fun z => thn z fun u1 s1 ⟨x, H1, I1, rx, q1⟩ => q1 pins s1 I1 u1 rx
  intro pins' z1 I1 u1 rx
  refine thn (q1 σ F1 H1 k1 (fun y H2 => ∀ pins' z2, Inv X pins' σ H2 z2 → ∀ u2, RelV y u2 → wpAny (model X.prog X.w) X.A (richCompare .Eq u1 u2) (EP X pins' σ Q') X.xe z2) (fun d2 Γ2 v2 F2 H2 q2 s2 k2 r2 => ?_) pins' z1 I1) fun u2 z2 ⟨y, H2, I2, ry, q2⟩ => q2 pins' z2 I2 u2 ry
  intro pins2 z2 I2 u2 ry
  obtain ⟨fs, c, rfl, hR, sq, q⟩ := q2
  exact own_eq G hr hs hf hb k2 hR sq (r1.same s2.sf) r2 (fun d Γ' v F' H' ⟨e1, e2⟩ st ok' rd => by subst e1 e2; exact (po.step (s1.trans s2)) _ _ _ _ _ q st ok' rd) pins2 z2 I2 u1 u2 rx ry
end
end Pu
/-! Types of values, pairs in tuples, two clauses. -/
namespace Pu
open PySem PySem.Spec PyProof.Rows L2 Gd
theorem map_get {α β : Type} {f : α → β} {l : List α} {i : Nat} {x : β} (h : (l.map f)[i]? = some x) : ∃ a, l[i]? = some a ∧ f a = x := by
  rw [List.getElem?_map] at h
  cases e : l[i]? with
  | none => rw [e] at h; cases h
  | some a => rw [e] at h; exact ⟨a, rfl, Option.some.inj h⟩
theorem get_map {α β : Type} {f : α → β} {l : List α} {i : Nat} {a : α} (h : l[i]? = some a) : (l.map f)[i]? = some (f a) := by rw [List.getElem?_map, h]; rfl
/-- the name of a value's built-in type -/
def tyOf : D → Option String
  | .non => some "NoneType"
  | .bl _ => some "bool"
  | .int _ => some "int"
  | .str _ => some "str"
  | .tup _ => some "tuple"
  | .lst _ => some "list"
  | .dk _ => some "dict"
  | _ => none
theorem tyOf_real {K : PySem.W.Frag} {F H : Hp} {σ : L2.St} {Γ : List Ent} {d : D} {n : String} {v : V} (h : tyOf d = some n) (k : Ok K F H σ Γ) (r : Re K F d v) : TyN K H v n := by
  cases r with
  | non => cases h; exact .non
  | bl b => cases h; exact .bl b
  | int i => cases h; exact .int i
  | str x => cases h; exact .str x
  | tup hs _ => cases h; exact tyT (same_seqT k.same hs)
  | lst hs _ => cases h; exact .base (.lst (k.same _ _ hs))
  | dk hs _ => cases h; exact .base (.dK (k.same _ _ hs))
  | ins _ _ => cases h
  | adr _ => cases h
  | scr _ _ => cases h
  | ty _ => cases h
section
variable {X : Cx} {Γ : List Ent} {Q : D → List Ent → Prop} {QB : Bool → List Ent → Prop} {QA : List D → List Ent → Prop} {a b c e : Expr} {es rest : List Expr} {pos p2 p p3 pos2 : Pos} {x : Str}
/-- isinstance(e, T), T a built-in type; the value is told by its type -/
theorem we_isT {T : String} {y : Str} {py0 : Pos} (hm : X.mg "isinstance" = none) (hmy : X.mg y = none) (hvy : bootBuiltins y = some (.type T)) (h : WE X a Γ fun d Γ1 => ∃ n c, tyOf d = some n ∧ kitB n T = some c ∧ Q (.bl c) Γ1) (hg : Gl X "isinstance" := by rfl) (hgy : Gl X y := by rfl) (hny : y ≠ "__name__" := by decide) (hdy : (y == ("__debug__" : Str)) = false := by decide)
    (he : starEach [a, .Name y py0] X.env = (false, eval a X.env) :: starEach [.Name y py0] X.env := by rfl) (he2 : starEach [.Name y py0] X.env = (false, eval (.Name y py0) X.env) :: starEach [] X.env := by rfl) (hpl : (backTo pos (starEach [.Name y py0] X.env)).any (·.1) = false := by rfl) :
    WE X (.Call (.Name "isinstance" p) [a, .Name y py0] [] pos) Γ Q := fun σ F H k Q' po => by
  refine sE_of (pe_callB call_isi hg hm (by decide +kernel) (pa_cons pe_s (pa_cons (pe_bltn (v := .ty T) hgy hmy hvy rfl hny hdy) pa_nil he2) he) (he := he) (hpl := hpl)) (h σ F H k _ fun d Γ1 v F1 H1 q1 s1 k1 r1 => ?_)
  obtain ⟨n, c, ht, hk, q⟩ := q1
  exact ⟨v, .ty T, .type n, .type T, c, rfl, .ty T, tyOf_real ht k1 r1, kit_ty hk, (po.step s1).now k1 (.bl c) q⟩
/-- data in a tuple -/
def rInT (K : PySem.W.Frag) (neg : Bool) : R2 := fun x y H Q => ∃ d ds, Dp K H x d ∧ Dp K H y (.tuple ds) ∧ SeqAt.shaped d = true ∧ SeqAt.shaped (.tuple ds) = true ∧ Q (.bl (if neg then !ds.any fun z => PyData.eqv z d else ds.any fun z => PyData.eqv z d)) H
theorem op_inT (hu : X.A.units + 65 < cLine) : OpR X (compareOp .In) (rInT X.K false) := by
  intro pins s σ H x y v u Q I rx ry h
  obtain ⟨d, ds, hd, he, sd, se, q⟩ := h
  obtain ⟨as, r1⟩ := Dp.reads I d x v hd rx
  obtain ⟨bs, r2⟩ := Dp.reads I (.tuple ds) y u he ry
  have z := room_in_shaped (xs := ds) sd hu
  exact SeqAt.in_tuple_reads r2 r1 (SeqAt.canLay_of_shaped se) (SeqAt.canLay_of_shaped sd) z ⟨.bl _, H, I, rfl, q⟩
theorem op_notInT (hu : X.A.units + 65 < cLine) : OpR X (compareOp .NotIn) (rInT X.K true) := by
  intro pins s σ H x y v u Q I rx ry h
  obtain ⟨d, ds, hd, he, sd, se, q⟩ := h
  obtain ⟨as, r1⟩ := Dp.reads I d x v hd rx
  obtain ⟨bs, r2⟩ := Dp.reads I (.tuple ds) y u he ry
  have z := room_in_shaped (xs := ds) sd hu
  exact SeqAt.notIn_tuple_reads r2 r1 (SeqAt.canLay_of_shaped se) (SeqAt.canLay_of_shaped sd) z ⟨.bl _, H, I, rfl, q⟩
end
theorem u65 {k : Nat} {A : Around} (r : RmG k A) : A.units + 65 < cLine := by
  have := r.rm.un
  omega
theorem pu_inT {K : PySem.W.Frag} {neg : Bool} : Pu2 K (rInT K neg) (fun d1 d2 Γ Q => ∃ es, d2 = .tup es ∧ Sh d1 ∧ Sh (.tup es) ∧ Q (.bl (if neg then !(pyA es).any fun z => PyData.eqv z (py d1) else (pyA es).any fun z => PyData.eqv z (py d1))) Γ) := by
  rintro d1 d2 Γ Q ⟨es, rfl, f1, f2, q⟩ σ F H v1 v2 k r1 r2 Q' po
  have h1 := dp_same k.same _ _ (re_dp d1 v1 f1.p r1)
  have h2 := dp_same k.same _ _ (re_dp _ v2 f2.p r2)
  have s2 := f2.sh
  rw [py] at h2 s2
  exact ⟨_, _, h1, h2, f1.sh, s2, po.now k (.bl _) q⟩
/-- tuples of ints, one below the other -/
theorem pu_ltT {K : PySem.W.Frag} : Pu2 K (rLtT K) (fun d1 d2 Γ Q => ∃ ns ms : List Int, d1 = .tup (ns.map .int) ∧ d2 = .tup (ms.map .int) ∧ Q (.bl (HT.lexLt ns ms)) Γ) := by
  rintro d1 d2 Γ Q ⟨ns, ms, rfl, rfl, q⟩ σ F H v1 v2 k r1 r2 Q' po
  cases r1 with
  | tup h1 a1 =>
    cases r2 with
    | tup h2 a2 =>
      have e1 := a1.ints
      have e2 := a2.ints
      subst e1 e2
      exact ⟨_, _, ns, ms, rfl, rfl, same_seqT k.same h1, same_seqT k.same h2, po.now k (.bl _) q⟩
section
variable {X : Cx} {Γ : List Ent} {E : Eds} {tg iter tg1 iter1 elt : Expr} {pos : Pos} {QA : List D → List Ent → Prop} {scope : Scope} {own : List (Str × Nat)} {g g1 : TG} {ifs ifs1 : List Expr}
theorem wipe_idem : ∀ (vs : List Nat) (σ : L2.St), wipe (wipe σ vs) vs = wipe σ vs := by
  intro vs
  induction vs with
  | nil => intro σ; rfl
  | cons v vs ih =>
    intro σ
    show (wipe ((wipe σ vs).set v none) vs).set v none = (wipe σ vs).set v none
    by_cases e : v ∈ vs
    · rw [wipe_set e, ih]
    · have : ∀ {vs : List Nat} {σ : L2.St} {o : Option V}, v ∉ vs → wipe (σ.set v o) vs = (wipe σ vs).set v o := by
        intro vs
        induction vs with
        | nil => intro σ o _; rfl
        | cons y ys ih =>
          intro σ o n
          unfold wipe
          rw [ih fun z => n (List.mem_cons_of_mem _ z), List.set_comm _ _ fun z => n (by rw [← z]; exact List.mem_cons_self)]
      rw [this e, ih, List.set_set]
theorem ok_back {K : PySem.W.Frag} {F H : Hp} {σ σ2 : L2.St} {Γ : List Ent} {vs : List Nat} (w : wipe σ2 vs = wipe σ vs) (k : Ok K F H σ2 Γ) : Ok K F H σ (wipeE Γ vs) := by
  have z := ok_wipe k vs
  rw [w] at z
  exact ok_unwipe z
/-- what a comprehension's list is while it is made -/
structure Mk2 (K : PySem.W.Frag) (F1 H1 : Hp) (Γ1 : List Ent) (σ : L2.St) (D0 : Addr) (acc : List D) (F H : Hp) : Prop where
  ok : Ok K F H σ Γ1
  st : Step F1 H1 (foots Γ1) F H (foots Γ1)
  ex : ∃ av, H D0 = some (.lst av) ∧ ReA K F acc av
  fd : F D0 = none
  nm : D0 ∉ foots Γ1
/-- two clauses: for each first item x its own items, each with a value; nothing is changed meanwhile -/
theorem wn_lc2 {α β : Type} (enc : α → D) (enc1 : β → D) (sub : α → List β) (f : α → β → D) {vs1 : List Nat} (hN : X.N.Nodup) (ok : BlkOk X.N X.env.scope scope own) (hv : ∀ i ∈ vs1, i ∈ own.map (·.2)) (hg : InB X scope fun Y => PG Y tg g) (hg1 : InB X scope fun Y => PG Y tg1 g1)
    (h : WI X tg iter Γ fun ds P Γ1 => ∃ xs : List α, ds = xs.map enc ∧ wipeE Γ1 (own.map (·.2)) = Γ1 ∧ P Γ1 ∧ (xs.flatMap sub).length ≤ 100000 ∧
      (∀ (i : Nat) x, xs[i]? = some x → ∃ Γ2, TgS X.K (own.map (·.2)) g (enc x) Γ1 Γ2 ∧ wipeE Γ2 (own.map (·.2)) = Γ1 ∧ InB X scope fun Y => WI Y tg1 iter1 Γ2 fun ds1 P1 Γ3 => Γ3 = Γ2 ∧ ds1 = (sub x).map enc1 ∧ P1 Γ2 ∧
        ∀ (j : Nat) y, (sub x)[j]? = some y → ∃ Γ4, TgS X.K vs1 g1 (enc1 y) (wipeE Γ2 vs1) Γ4 ∧ wipeE Γ4 vs1 = Γ2 ∧ InB X scope fun Y => WE Y elt Γ4 fun z Γ5 => Γ5 = Γ4 ∧ z = f x y) ∧
      QA (xs.flatMap fun x => (sub x).map (f x)) Γ1) (hc : X.calm = true := by rfl) (hs : ∀ x, foldedSetIterable iter X.env x = pure x := by intro _; rfl) (hs1 : ∀ env x, foldedSetIterable iter1 env x = pure x := by intro _ _; rfl) :
    WN X (.ListComp elt [⟨tg, iter, [], 0⟩, ⟨tg1, iter1, [], 0⟩] scope pos) Γ QA := fun σ F H k Q' po => by
  refine sE_of (pe_lc2 (vs1 := vs1) (wi1 := fun σ H R => InB X scope fun Y => sI Y tg1 iter1 σ H R) (te := teB X scope elt) hc hN pi_s ok hv hg (fun _ _ _ _ _ => pts_nil) (fun s H0 C cl fp => ⟨fun pins s2 σ H R I h => h s H0 C cl fp pins s2 I⟩) hg1 (fun _ _ _ _ _ => pts_nil) (fun s H0 C cl fp => ⟨fun pins s2 σ H Q I h => h s H0 C cl fp pins s2 I⟩) hs hs1) ?_
  refine h σ F H k _ fun J ds P Γ1 F1 H1 q1 s1 k1 y => ?_
  obtain ⟨xs, rfl, w, hP, hl, turn, fin⟩ := q1
  have po1 := po.step s1
  intro D0 nD
  have hlen : ∀ i, ((xs.take i).flatMap sub).length ≤ 100000 := fun i => by
    have e : xs.flatMap sub = (xs.take i).flatMap sub ++ (xs.drop i).flatMap sub := by rw [← List.flatMap_append, List.take_append_drop]
    rw [e, List.length_append] at hl
    omega
  have flen : ∀ l : List α, (l.flatMap fun x => (sub x).map (f x)).length = (l.flatMap sub).length := fun l => by
    induction l with
    | nil => rfl
    | cons a r ih => rw [List.flatMap_cons, List.flatMap_cons, List.length_append, List.length_append, ih, List.length_map]
  refine ⟨fun i m H => m = xs.length - i ∧ i ≤ xs.length ∧ ∃ F, Mk2 X.K F1 H1 Γ1 σ D0 ((xs.take i).flatMap fun x => (sub x).map (f x)) F H,
    ⟨_, rfl, Nat.zero_le _, F1, k1.own nD, .own nD, ⟨[], upd_same, .nil⟩, k1.same.free nD, fun m => (k1.has m).2 nD⟩, fun i m H2 hw => ?_⟩
  obtain ⟨rfl, hi, F2, S2⟩ := hw
  obtain ⟨y1, y2⟩ := y i σ F2 H2 Γ1 S2.st.sf S2.ok hP
  by_cases hlt : i < xs.length
  · have hx := List.getElem?_eq_getElem hlt
    obtain ⟨hgo, hy⟩ := y1 _ (get_map hx)
    refine .inr ⟨hgo, fun H' => ∃ F, Mk2 X.K F1 H1 Γ1 σ D0 ((xs.take (i + 1)).flatMap fun x => (sub x).map (f x)) F H', fun H' z => ⟨_, by omega, rfl, hlt, z⟩, fun v H' hv' => ?_⟩
    obtain ⟨F3, s3, k3, r3⟩ := hy v H' hv'
    obtain ⟨Γ2, T, w2, inner⟩ := turn i _ hx
    obtain ⟨av, hD, ra⟩ := S2.ex
    have hD3 := s3.kh _ _ S2.nm hD
    have fD3 := s3.fr _ S2.nm (by rw [hD]; exact nofun) S2.fd
    have k3' := ok_wipe k3 (own.map (·.2))
    rw [w] at k3'
    refine T.go _ F3 H' v k3' r3 _ fun σ4 k4 w4 => ⟨by rw [w4, wipe_idem], ?_⟩
    dsimp only [tYes]
    rw [if_pos rfl]
    have w5 : wipe σ4 (own.map (·.2)) = wipe σ (own.map (·.2)) := by rw [w4, wipe_idem]
    have sub2 : ∀ b ∈ foots Γ2, b ∈ foots Γ1 := fun b m => T.ft m
    intro s5 H5 C5 cl5 fp5
    refine inner s5 H5 C5 cl5 fp5 σ4 F3 H' k4 _ fun J1 ds1 P1 Γ3 F4 H4 q4 st4 k5 y4 => ?_
    obtain ⟨rfl, rfl, hP1, turn1⟩ := q4
    have back : ∀ {F H}, Ok X.K F H σ4 Γ3 → Ok X.K F H σ Γ1 := fun {F H} k => by
      have z := ok_back w5 k
      rwa [w2] at z
    have st14 : Step F1 H1 (foots Γ1) F4 H4 (foots Γ1) := (S2.st.trans s3).trans (st4.wide sub2)
    have nm3 : D0 ∉ foots Γ3 := fun m => S2.nm (sub2 _ m)
    have S4 : Mk2 X.K F1 H1 Γ1 σ D0 ((xs.take i).flatMap (fun x => (sub x).map (f x)) ++ ((sub xs[i]).take 0).map (f xs[i])) F4 H4 := ⟨back k5, st14, ⟨av, st4.kh _ _ nm3 hD3, by rw [List.take_zero, List.map_nil, List.append_nil]; exact (ra.same s3.sf).same st4.sf⟩, st4.fr _ nm3 (by rw [hD3]; exact nofun) fD3, S2.nm⟩
    refine ⟨fun j n H => n = (sub xs[i]).length - j ∧ j ≤ (sub xs[i]).length ∧ ∃ F, Ok X.K F H σ4 Γ3 ∧ Same F4 F ∧ Mk2 X.K F1 H1 Γ1 σ D0 ((xs.take i).flatMap (fun x => (sub x).map (f x)) ++ ((sub xs[i]).take j).map (f xs[i])) F H, ⟨_, rfl, Nat.zero_le _, F4, k5, .refl _, S4⟩, fun j n H6 hw1 => ?_⟩
    obtain ⟨rfl, hj, F6, k6, sm6, S6⟩ := hw1
    obtain ⟨z1, z2⟩ := y4 j σ4 F6 H6 Γ3 sm6 k6 hP1
    by_cases hjt : j < (sub xs[i]).length
    · have hyj := List.getElem?_eq_getElem hjt
      obtain ⟨go1, hy1⟩ := z1 _ (get_map hyj)
      refine .inr ⟨go1, fun H => ∃ F, Ok X.K F H σ4 Γ3 ∧ Same F4 F ∧ Mk2 X.K F1 H1 Γ1 σ D0 ((xs.take i).flatMap (fun x => (sub x).map (f x)) ++ ((sub xs[i]).take (j + 1)).map (f xs[i])) F H, fun H' z => ⟨_, by omega, rfl, hjt, z⟩, fun u H7 hu => ?_⟩
      obtain ⟨F7, s7, k7, r7⟩ := hy1 u H7 hu
      obtain ⟨Γ4, T1, w8, elt1⟩ := turn1 j _ hyj
      obtain ⟨bv, hD6, rb⟩ := S6.ex
      refine T1.go _ F7 H7 u (ok_wipe k7 vs1) r7 _ fun σ8 k8 w9 => ⟨by rw [w9, wipe_idem], ?_⟩
      dsimp only [tYes]
      rw [if_pos rfl]
      have sub4 : ∀ b ∈ foots Γ4, b ∈ foots Γ1 := fun b m => sub2 _ (foots_wipeE (T1.ft m))
      intro s9 H9 C9 cl9 fp9
      refine elt1 s9 H9 C9 cl9 fp9 σ8 F7 H7 k8 _ fun z Γ5 zv F10 H10 q10 s10 k10 r10 => ?_
      obtain ⟨rfl, rfl⟩ := q10
      have w10 : wipe σ8 vs1 = wipe σ4 vs1 := by rw [w9, wipe_idem]
      have k11 : Ok X.K F10 H10 σ4 Γ3 := by
        have z := ok_back w10 k10
        rwa [w8] at z
      have hD7 := s7.kh _ _ nm3 hD6
      have fD7 := s7.fr _ nm3 (by rw [hD6]; exact nofun) S6.fd
      have nm4 : D0 ∉ foots Γ5 := fun m => S2.nm (sub4 _ m)
      have hD10 := s10.kh _ _ nm4 hD7
      have fD10 := s10.fr _ nm4 (by rw [hD7]; exact nofun) fD7
      have rl := rb.len
      have l1 := hlen (i + 1)
      rw [take_snoc hx, List.flatMap_append, List.flatMap_singleton, List.length_append] at l1
      have fl := flen (xs.take i)
      have rl2 : bv.length = ((xs.take i).flatMap sub).length + j := by
        rw [← rl, List.length_append, fl, List.length_map, List.length_take, Nat.min_eq_left (by omega)]
      have keep : ∀ {τ : L2.St} {Δ : List Ent}, (D0 ∉ foots Δ) → Ok X.K F10 H10 τ Δ → Ok X.K F10 (upd H10 D0 (.lst (bv ++ [zv]))) τ Δ := fun {τ Δ} nm kb => kb.keep (.refl _) (fun b o z => (upd_ne fun e => by rw [e, fD10] at z; cases z).trans (kb.same _ _ z)) fun b m => ⟨(kb.has m).1, fun o z => (upd_ne fun e => nm (by rw [← e]; exact m)).trans z⟩
      have st := ((S6.st.trans (s7.wide sub2)).trans (s10.wide sub4))
      refine ⟨bv, hD10, by rw [sizeLine_eq]; omega, F10, keep nm3 k11, sm6.trans (s7.sf.trans s10.sf), keep S2.nm (back k11), ⟨st.sf, fun b o n e => ?_, fun b h => ?_, st.fr, fun b m => .inl m⟩, ⟨_, upd_same, ?_⟩, fD10, S2.nm⟩
      · exact (upd_ne (ne_of_none e nD)).trans (st.kh b o n e)
      · by_cases e : b = D0
        · rw [e, upd_same]; exact nofun
        · rw [upd_ne e]; exact st.ne b h
      · rw [take_snoc hyj, List.map_append, ← List.append_assoc]
        exact ((rb.same s7.sf).same s10.sf).app (.cons r10 .nil)
    · have e : j = (sub xs[i]).length := by omega
      subst e
      refine .inl ⟨z2 (by rw [List.length_map]; exact Nat.le_refl _), F6, ?_⟩
      rw [take_snoc hx, List.flatMap_append, List.flatMap_singleton]
      rw [List.take_length] at S6
      exact S6
  · have e : i = xs.length := by omega
    subst e
    rw [List.take_length] at S2
    obtain ⟨av, hD, ra⟩ := S2.ex
    exact .inl ⟨y2 (by rw [List.length_map]; exact Nat.le_refl _), po1 _ Γ1 D0 av F2 H2 fin S2.st S2.ok nD S2.fd S2.nm hD ra⟩
end
end Pu
/-! Names, lots, tables as values. -/
namespace Pu
open PySem PySem.Spec PyProof.Rows L2 Gd
abbrev tS (l : List Str) : D := .tup (l.map .str)
abbrev tI (l : List Int) : D := .tup (l.map .int)
abbrev typeP (p : Str × List Int) : D := .tup [.str p.1, tI p.2]
abbrev typesP (l : List (Str × List Int)) : D := .tup (l.map typeP)
def dNames : List Int → Int → List D → (D → List Int → Int → Prop) → Prop := fun _ _ ds Q => ∃ n : Nat, ds = [.int (n : Int)] ∧ n ≤ 12 ∧ ∀ ss L' st', GoodN n ss → AscS ss → Q (tS ss) L' st'
theorem mem_lit {d : D} {l : List D} {i : Nat} (h : l[i]? = some d) : d ∈ l := List.mem_of_getElem? h
/-- a lot of numbers below n -/
def LotOk (n : Nat) (l : List Int) : Prop := AscI l ∧ ∀ x ∈ l, 0 ≤ x ∧ x < (n : Int)
theorem LotOk.nil (n : Nat) : LotOk n [] := ⟨.nil, nofun⟩
theorem LotOk.snoc {n : Nat} {l : List Int} (h : LotOk n l) : LotOk (n + 1) (l ++ [(n : Int)]) := by
  refine ⟨List.pairwise_append.mpr ⟨h.1, List.pairwise_singleton _ _, fun a ha b hb => ?_⟩, fun x hx => ?_⟩
  · cases List.mem_singleton.mp hb
    exact (h.2 a ha).2
  · rcases List.mem_append.mp hx with m | m
    · have := h.2 x m
      omega
    · cases List.mem_singleton.mp m
      omega
theorem LotOk.up {n m : Nat} {l : List Int} (h : LotOk n l) (e : n ≤ m) : LotOk m l := ⟨h.1, fun x hx => by have := h.2 x hx; omega⟩
theorem LotOk.len {n : Nat} {l : List Int} (h : LotOk n l) : l.length ≤ n := asc_len h.1 h.2
theorem LotOk.filter {n : Nat} {l : List Int} (h : LotOk n l) (p : Int → Bool) : LotOk n (l.filter p) := ⟨h.1.filter p, fun x hx => h.2 x (List.mem_filter.mp hx).1⟩
/-- all numbers below n, and some of them -/
def numsN (n : Nat) : List Int := (List.range n).map fun i : Nat => (i : Int)
theorem numsN_succ (n : Nat) : numsN (n + 1) = numsN n ++ [(n : Int)] := by unfold numsN; rw [List.range_succ, List.map_append]; rfl
theorem numsN_ok : ∀ n, LotOk n (numsN n)
  | 0 => .nil 0
  | n + 1 => by rw [numsN_succ]; exact (numsN_ok n).snoc
theorem mem_numsN {n : Nat} {x : Int} : x ∈ numsN n ↔ 0 ≤ x ∧ x < (n : Int) := by
  unfold numsN
  rw [List.mem_map]
  exact ⟨fun ⟨i, hi, e⟩ => by have := List.mem_range.mp hi; omega, fun ⟨h0, h1⟩ => ⟨x.toNat, List.mem_range.mpr (by omega), by omega⟩⟩
theorem rngD_eq (n : Nat) : rngD 0 n = (numsN n).map .int := by
  unfold rngD numsN
  rw [List.map_map]
  exact List.map_congr_left fun i _ => by show D.int (0 + (i : Int)) = D.int (i : Int); rw [Int.zero_add]
theorem rng_get {i m x : Nat} (hx : (List.range m)[i]? = some x) : i < m ∧ i = x := by
  have e : i < m := by
    have := (List.getElem?_eq_some_iff.mp hx).1
    simpa using this
  rw [List.getElem?_range (by simpa using e)] at hx
  exact ⟨e, Option.some.inj hx⟩
theorem rngD_get {i n : Nat} {lo : Int} {d : D} (h : (rngD lo n)[i]? = some d) : i < n ∧ d = .int (lo + (i : Int)) := by
  obtain ⟨a, ha, e⟩ := map_get h
  obtain ⟨h1, h2⟩ := rng_get ha
  subst h2
  exact ⟨h1, e.symm⟩
theorem rngD_len (lo : Int) (n : Nat) : (rngD lo n).length = n := by unfold rngD; rw [List.length_map, List.length_range]
structure PartsOk (kk tt : Nat) (ks : List Str) (ts : List (Str × List Int)) : Prop where
  kg : GoodN kk ks
  ka : AscS ks
  tg : GoodN tt (ts.map (·.1))
  ta : AscS (ts.map (·.1))
  lo : ∀ p ∈ ts, LotOk kk p.2
theorem PartsOk.tl {kk tt : Nat} {ks : List Str} {ts : List (Str × List Int)} (h : PartsOk kk tt ks ts) : ts.length = tt := by
  have := h.tg.1
  rwa [List.length_map] at this
theorem fine_int {i : Int} (h : i.natAbs < 10 ^ 9) : fine (.int i) = true := decide_eq_true h
theorem py_tI (l : List Int) : py (tI l) = .tuple (l.map .int) := by
  rw [py, pyA_map, List.map_map]
  rfl
theorem isP_tI (l : List Int) : isP (tI l) = true := by
  rw [isP]
  exact isPA_mem fun d hd => by obtain ⟨x, _, rfl⟩ := List.mem_map.mp hd; rfl
theorem py_typeP (p : Str × List Int) : py (typeP p) = typeD p := by
  unfold typeP typeD
  rw [py, pyA, pyA, pyA, py_tI]
  rfl
theorem isP_typeP (p : Str × List Int) : isP (typeP p) = true := by
  show isPA [.str p.1, tI p.2] = true
  rw [isPA, isPA, isPA, isP_tI]
  rfl
theorem sh_typesL {kk : Nat} {ts : List (Str × List Int)} (hk : kk ≤ 8) (hn : ∀ p ∈ ts, Nm p.1) (hl : ∀ p ∈ ts, LotOk kk p.2) : Sh (.lst (ts.map typeP)) := by
  refine ⟨?_, ?_, ?_⟩
  · rw [isP]
    exact isPA_mem fun d hd => by obtain ⟨x, _, rfl⟩ := List.mem_map.mp hd; exact isP_typeP x
  · rw [py, fine, pyA_map]
    exact fineAll_mem fun d hd => by
      obtain ⟨e, he, rfl⟩ := List.mem_map.mp hd
      obtain ⟨x, hx, rfl⟩ := List.mem_map.mp he
      rw [py_typeP]
      exact type_fine (hn x hx) (hl x hx).2 hk
  · rw [py, pyA_map, PyData.depth]
    have : PyData.depthAll ((ts.map typeP).map py) ≤ 3 := depthAll_mem fun d hd => by
      obtain ⟨e, he, rfl⟩ := List.mem_map.mp hd
      obtain ⟨p, hp, rfl⟩ := List.mem_map.mp he
      rw [py_typeP]
      have e : PyData.depthAll (p.2.map .int) ≤ 1 := depthAll_mem fun d hd => by
        obtain ⟨x, _, rfl⟩ := List.mem_map.mp hd
        simp [PyData.depth]
      simp only [typeD, PyData.depth, PyData.depthAll]
      omega
    omega
theorem sh_nil : Sh (.lst []) := ⟨by rfl, by rfl, by rw [py, pyA, PyData.depth, PyData.depthAll]; decide⟩
theorem eqv_nilL (ds : List D) : PyData.eqv (py (.lst ds)) (py (.lst [])) = ds.isEmpty := by
  rw [py, py, pyA]
  cases ds with
  | nil => rw [pyA]; rfl
  | cons d r => rw [pyA]; rfl
def dLot : List Int → Int → List D → (D → List Int → Int → Prop) → Prop := fun _ _ ds Q => ∃ (n : Nat) (m : Int), ds = [.int (n : Int), .int m] ∧ n ≤ 1000 ∧ 0 < m ∧ m < 1000000000 ∧ ∀ ns L' st', LotOk n ns → Q (tI ns) L' st'
def dParts : List Int → Int → List D → (D → List Int → Int → Prop) → Prop := fun _ _ ds Q => ∃ kk tt : Nat, ds = [.int (kk : Int), .int (tt : Int)] ∧ 1 ≤ kk ∧ kk ≤ 8 ∧ tt ≤ 12 ∧ ∀ ks ts L' st', PartsOk kk tt ks ts → Q (.tup [tS ks, typesP ts]) L' st'
theorem lk {n : Nat} (h : Nat.ble n 1000 = true := by rfl) : n ≤ 1000 := Nat.le_of_ble_eq_true h
theorem good_mem {n : Nat} {l : List Str} (h : GoodN n l) {z : Str} (hz : z ∈ l) : Nm z := h.2.1 z hz
theorem last_D {α : Type} {f : α → D} {l : List α} (h : l ≠ []) : atI (l.map f) (-1) = some (f (l.getLast h)) := by
  have e : l.map f = (l.dropLast).map f ++ [f (l.getLast h)] := by
    rw [← List.map_singleton, ← List.map_append, List.dropLast_concat_getLast]
  rw [e]
  exact atI_last _ _
theorem fst_take {ts : List (Str × List Int)} {ss : List Str} {i : Nat} {z : Str} {l : List Int} (h : ts.map (·.1) = ss.take i) (e : ss[i]? = some z) : (ts ++ [(z, l)]).map (·.1) = ss.take (i + 1) := by
  rw [List.map_append, h, take_snoc e]
  rfl
/-- the parts' rows, so far -/
def PInv (h l a : Addr) (kk tt : Nat) (ss : List Str) (i : Nat) (Γ : List Ent) : Prop := ∃ (L : List Int) (st : Int) (ts : List (Str × List Int)) (y5 y6 y7 : Ent), Γ = [.src h l L st, .v (.int kk), .v (.int tt), .v (tS ss), .l a (ts.map typeP), y5, y6, y7] ∧ ts.map (·.1) = ss.take i ∧ ∀ p ∈ ts, LotOk kk p.2
def FInv (h l a4 a5 a7 : Addr) (kk tt many : Nat) (ab sp : List Int) (ss : List Str) (i : Nat) (Γ : List Ent) : Prop := ∃ (L : List Int) (st : Int) (ts : List (Str × List Int)) (y8 y9 y10 y11 : Ent), Γ = [.src h l L st, .v (.int kk), .v (.int tt), .v (.int (many : Int)), .l a4 (ab.map .int), .l a5 (sp.map .int), .v (tS ss), .l a7 (ts.map typeP), y8, y9, y10, y11, .no, .no] ∧ ts.map (·.1) = ss.take i ∧ ∀ p ∈ ts, LotOk kk p.2
def HInv (h l a4 a5 a7 a10 : Addr) (kk tt many : Nat) (ab sp : List Int) (ss : List Str) (L : List Int) (st : Int) (ts : List (Str × List Int)) (z : Str) (j : Nat) (Γ : List Ent) : Prop := ∃ (home : Int) (wy : List Int) (y11 : Ent), Γ = [.src h l L st, .v (.int kk), .v (.int tt), .v (.int (many : Int)), .l a4 (ab.map .int), .l a5 (sp.map .int), .v (tS ss), .l a7 (ts.map typeP), .v (.str z), .v (.int home), .l a10 (wy.map .int), y11, .no, .no] ∧ home < (many : Int) ∧ wy.length ≤ j
theorem numsN_at {i n : Nat} (h : i < n) : (numsN n)[i]? = some (i : Int) := by
  unfold numsN
  rw [List.getElem?_map, List.getElem?_range h]
  rfl
theorem numsN_get {i n : Nat} {x : Int} (h : (numsN n)[i]? = some x) : i < n ∧ x = (i : Int) := by
  obtain ⟨a, ha, e⟩ := map_get (f := fun i : Nat => (i : Int)) h
  obtain ⟨h1, h2⟩ := rng_get ha
  subst h2
  exact ⟨h1, e.symm⟩
theorem numsN_len (n : Nat) : (numsN n).length = n := by unfold numsN; rw [List.length_map, List.length_range]
theorem set_parts {kk tt : Nat} {ks : List Str} {ts : List (Str × List Int)} {a : Nat} {lot : List Int} (h : PartsOk kk tt ks ts) (ha : a < ts.length) (hl : LotOk kk lot) : PartsOk kk tt ks (ts.take a ++ [((ts[a]).1, lot)] ++ ts.drop (a + 1)) := by
  have e : (ts.take a ++ [((ts[a]).1, lot)] ++ ts.drop (a + 1)).map (·.1) = ts.map (·.1) := by
    have e2 : ts = ts.take a ++ [ts[a]] ++ ts.drop (a + 1) := by
      rw [List.append_assoc, List.singleton_append, ← List.drop_eq_getElem_cons ha, List.take_append_drop]
    conv => rhs; rw [e2]
    rw [List.map_append, List.map_append, List.map_append, List.map_append]
    rfl
  refine ⟨h.kg, h.ka, by rw [e]; exact h.tg, by rw [e]; exact h.ta, fun p hp => ?_⟩
  rcases List.mem_append.mp hp with m | m
  · rcases List.mem_append.mp m with m | m
    · exact h.lo p (List.mem_of_mem_take m)
    · cases List.mem_singleton.mp m
      exact hl
  · exact h.lo p (List.mem_of_mem_drop m)
theorem asc_of {l : List Int} (h : l.Pairwise (· < ·)) : AscI l := h
theorem py_typesP (l : List (Str × List Int)) : py (typesP l) = .tuple (l.map typeD) := by
  rw [py, pyA_map, List.map_map]
  congr 1
  exact List.map_congr_left fun p _ => py_typeP p
theorem isP_typesP (l : List (Str × List Int)) : isP (typesP l) = true := by
  rw [isP]
  exact isPA_mem fun d hd => by obtain ⟨x, _, rfl⟩ := List.mem_map.mp hd; exact isP_typeP x
theorem sh_typesT {kk : Nat} {ts : List (Str × List Int)} (hk : kk ≤ 8) (hn : ∀ p ∈ ts, Nm p.1) (hl : ∀ p ∈ ts, LotOk kk p.2) : Sh (typesP ts) := by
  have h := sh_typesL hk hn hl
  refine ⟨isP_typesP ts, ?_, ?_⟩
  · have := h.f
    rw [py, fine] at this
    rw [py, fine]
    exact this
  · have := h.dp
    rw [py, PyData.depth] at this
    rw [py, PyData.depth]
    exact this
theorem sh_tup0 : Sh (.tup []) := ⟨by rfl, by rfl, by rw [py, pyA, PyData.depth, PyData.depthAll]; decide⟩
theorem eqv_nilT (ds : List D) : PyData.eqv (py (.tup ds)) (py (.tup [])) = ds.isEmpty := by
  rw [py, py, pyA]
  cases ds with
  | nil => rw [pyA]; rfl
  | cons d r => rw [pyA]; rfl
theorem PartsOk.nm {kk tt : Nat} {ks : List Str} {ts : List (Str × List Int)} (h : PartsOk kk tt ks ts) : ∀ p ∈ ts, Nm p.1 := fun p hp => h.tg.2.1 _ (List.mem_map.mpr ⟨p, hp, rfl⟩)
abbrev tblD (C : Addr) (ks : List Str) (ts : List (Str × List Int)) : D := .ins C [("kinds", tS ks), ("types", typesP ts)]
theorem lk_k {x y : D} : ([(("kinds" : Str), x), ("types", y)] : List (Str × D)).lookup (("kinds" : Str)) = some x := by
  rw [List.lookup_cons, show ((("kinds" : Str)) == ("kinds" : Str)) = true by decide +kernel]
theorem lk_t {x y : D} : ([(("kinds" : Str), x), ("types", y)] : List (Str × D)).lookup (("types" : Str)) = some y := by
  rw [List.lookup_cons, show ((("types" : Str)) == ("kinds" : Str)) = false by decide +kernel]
  show List.lookup _ _ = _
  rw [List.lookup_cons, show ((("types" : Str)) == ("types" : Str)) = true by decide +kernel]
theorem tf_eq (pk pt : Addr) : tf pk pt = ([((("kinds" : Str)), V.ref pk), ((("types" : Str)), V.ref pt)] : List (Str × V)) := by
  show (if (("kinds" : Str)) = "types" then ([(("kinds" : Str), V.ref pt)] : List (Str × V)) else [(("kinds" : Str), V.ref pk), (("types" : Str), V.ref pt)]) = _
  rw [if_neg kt_]
/-- Table(kinds, types), of parts -/
theorem tinit_imp {K : PySem.W.Frag} {C : Addr} {spT : Sp} (hT : spT = fun vs H Q _ => ∃ (p dx pk pt : Addr) (t : TD), vs = [.ref p, .ref pk, .ref pt] ∧ H p = some (.ins C dx []) ∧ Dp K H (.ref pk) (kindsD t) ∧ Dp K H (.ref pt) (typesD t) ∧ TOk t ∧
    ∀ G, (∀ b o, b ≠ p → H b = some o → G b = some o) → TblAt K C G p dx pk pt t → Q .non G) {vs : List V} {H : Hp} {Q : VK} {E : XK}
    (h : spI K C (fun ds => ∃ ks ts, ds = [tS ks, typesP ts] ∧ TOk ⟨ks, ts⟩) (fun ds => [("kinds", ds.getD 0 .non), ("types", ds.getD 1 .non)]) vs H Q E) : spT vs H Q E := by
  subst hT
  obtain ⟨F, p, dx, ds, us, rfl, sm, fp, hp, ra, ⟨ks, ts, rfl, ok⟩, q⟩ := h
  obtain ⟨v1, v2, rfl, r1, r2⟩ := reA2 ra
  have isS : isP (tS ks) = true := by
    rw [isP]
    exact isPA_mem fun d hd => by obtain ⟨x, _, rfl⟩ := List.mem_map.mp hd; rfl
  have d1 := dp_same sm _ _ (re_dp _ _ isS r1)
  have d2 := dp_same sm _ _ (re_dp _ _ (isP_typesP ts) r2)
  rw [py_typesP] at d2
  have e1 : py (tS ks) = kindsD ⟨ks, ts⟩ := by
    rw [py, pyA_map, List.map_map]
    rfl
  rw [e1] at d1
  obtain ⟨pk, rfl⟩ : ∃ a, v1 = .ref a := by cases r1; exact ⟨_, rfl⟩
  obtain ⟨pt, rfl⟩ : ∃ a, v2 = .ref a := by cases r2; exact ⟨_, rfl⟩
  refine ⟨p, dx, pk, pt, ⟨ks, ts⟩, rfl, hp, d1, d2, ok, fun G kp tb => q G kp ⟨_, tb.obj, ?_⟩⟩
  rw [tf_eq]
  exact .cons r1 (.cons r2 .nil)
theorem PartsOk.tok {kk tt : Nat} {ks : List Str} {ts : List (Str × List Int)} (h : PartsOk kk tt ks ts) (k1 : 1 ≤ kk) (k8 : kk ≤ 8) (t12 : tt ≤ 12) : TOk ⟨ks, ts⟩ := by
  have hk := h.kg.1
  exact ⟨by show 1 ≤ ks.length; omega, by show ks.length ≤ 8; omega, h.kg.2.1, h.ka, by have := h.tl; show ts.length ≤ 12; omega, h.nm, h.ta, fun p hp => (h.lo p hp).1, fun p hp x hx => by have := (h.lo p hp).2 x hx; rw [hk]; exact this⟩
/-- the lot of the type at r -/
def lotT (ts : List (Str × List Int)) (r : Int) : List Int := (ts.getD r.toNat ("", [])).2
/-- the types that accept some of the kinds -/
def tkF (ts : List (Str × List Int)) (ns : List Int) : List Int := (numsN ts.length).filter fun r => ns.any fun k => decide (k ∈ lotT ts r)
theorem tkF_ok (ts : List (Str × List Int)) (ns : List Int) : LotOk ts.length (tkF ts ns) := (numsN_ok _).filter _
theorem lotT_at {ts : List (Str × List Int)} {i : Nat} {p : Str × List Int} (h : ts[i]? = some p) : lotT ts (i : Int) = p.2 := by
  unfold lotT
  rw [Int.toNat_natCast, List.getD_eq_getElem?_getD, h]
  rfl
theorem enum_get {ds : List D} {i : Nat} {d : D} (h : (enumD ds)[i]? = some d) : ∃ e, ds[i]? = some e ∧ d = .tup [.int (i : Nat), e] := by
  unfold enumD at h
  rw [List.getElem?_mapIdx] at h
  cases e : ds[i]? with
  | none => rw [e] at h; cases h
  | some x => rw [e] at h; exact ⟨x, rfl, (Option.some.inj h).symm⟩
theorem enum_len (ds : List D) : (enumD ds).length = ds.length := by unfold enumD; rw [List.length_mapIdx]
/-- (a, (b, c)) -/
theorem tg_12 {K : PySem.W.Frag} {vs : List Nat} {d e f : D} {Γ : List Ent} (i j l : Nat) (h : i ∈ vs := by decide) (h2 : j ∈ vs := by decide) (h3 : l ∈ vs := by decide) : TgS K vs (gTup K 2 (gCons (gName i) (gCons (gTup K 2 (gCons (gName j) (gCons (gName l) gNil))) gNil))) (.tup [d, .tup [e, f]]) Γ (((Γ.set i (.v d)).set j (.v e)).set l (.v f)) := by
  refine ⟨fun σ F H v k r Q q => ?_, fun b m => foots_setV (foots_setV (foots_setV m))⟩
  cases r with
  | tup hs ra =>
    obtain ⟨v1, v2, rfl, r1, r2⟩ := reA2 ra
    cases r2 with
    | tup hs2 ra2 =>
      obtain ⟨v3, v4, rfl, r3, r4⟩ := reA2 ra2
      exact ⟨_, _, rfl, same_seqT k.same hs, rfl, _, _, rfl, _, _, rfl, ⟨_, _, rfl, same_seqT k.same hs2, rfl, _, _, rfl, _, _, rfl, rfl, rfl, q _ (((k.setV r1).setV r3).setV r4) (by rw [wipe_set h3, wipe_set h2, wipe_set h])⟩⟩
theorem filt_snoc (p : Int → Bool) (n : Nat) : (numsN (n + 1)).filter p = (numsN n).filter p ++ (if p (n : Int) = true then [(n : Int)] else []) := by
  rw [numsN_succ, List.filter_append]
  congr 1
  by_cases h : p (n : Int) = true
  · rw [if_pos h, List.filter_cons_of_pos h]; rfl
  · rw [if_neg h, List.filter_cons_of_neg h]; rfl
/-- what tables' functions ask of a table -/
structure Tb (ks : List Str) (ts : List (Str × List Int)) : Prop where
  k8 : ks.length ≤ 8
  t12 : ts.length ≤ 12
  lo : ∀ p ∈ ts, LotOk ks.length p.2
def dAcc (C : Addr) : List D → (D → Prop) → Prop := fun ds Q => ∃ ks ts r, ds = [tblD C ks ts, .int r] ∧ 0 ≤ r ∧ r < (ts.length : Int) ∧ Q (tI (lotT ts r))
def dTok (C : Addr) : List D → (D → Prop) → Prop := fun ds Q => ∃ ks ts ns, ds = [tblD C ks ts, tI ns] ∧ Tb ks ts ∧ ns.length ≤ 100 ∧ Q (tI (tkF ts ns))
def dTak (C : Addr) : List D → (D → Prop) → Prop := fun ds Q => ∃ ks ts k, ds = [tblD C ks ts, .int k] ∧ Tb ks ts ∧ Q (tI (tkF ts [k]))
def TKInv (C : Addr) (ks : List Str) (ts : List (Str × List Int)) (ns : List Int) (a : Addr) (i : Nat) (Γ : List Ent) : Prop := ∃ y3 y4 y5 : Ent, Γ = [.v (tblD C ks ts), .v (tI ns), .l a (((numsN i).filter fun r => ns.any fun k => decide (k ∈ lotT ts r)).map .int), y3, y4, y5, .no]
def bothF (ts : List (Str × List Int)) (a b : Int) : List Int := (tkF ts [a]).filter fun r => decide (r ∈ tkF ts [b])
def onlyF (ts : List (Str × List Int)) (a b : Int) : List Int := (tkF ts [a]).filter fun r => !decide (r ∈ tkF ts [b])
def crossB (ts : List (Str × List Int)) (a b : Int) : Bool := !(bothF ts a b).isEmpty && (!(onlyF ts a b).isEmpty && !(onlyF ts b a).isEmpty)
abbrev tL (l : List Int) : D := .lst (l.map .int)
def dSh (C : Addr) : List D → (D → Prop) → Prop := fun ds Q => ∃ ks ts a b, ds = [tblD C ks ts, .int a, .int b] ∧ Tb ks ts ∧ Q (.tup [tL (bothF ts a b), tL (onlyF ts a b), tL (onlyF ts b a)])
def dCr (C : Addr) : List D → (D → Prop) → Prop := fun ds Q => ∃ ks ts a b, ds = [tblD C ks ts, .int a, .int b] ∧ Tb ks ts ∧ Q (.bl (crossB ts a b))
/-- pairs i < j of which p holds -/
def rowP (p : Int → Int → Bool) (i m : Nat) : List (List Int) := ((List.range m).filter fun t => p (i : Int) ((i + 1 + t : Nat) : Int)).map fun t => [(i : Int), ((i + 1 + t : Nat) : Int)]
def pairsP (p : Int → Int → Bool) (n i : Nat) : List (List Int) := (List.range i).flatMap fun i => rowP p i (n - (i + 1))
theorem rowP_succ (p : Int → Int → Bool) (i m : Nat) : rowP p i (m + 1) = rowP p i m ++ (if p (i : Int) ((i + 1 + m : Nat) : Int) = true then [[(i : Int), ((i + 1 + m : Nat) : Int)]] else []) := by
  unfold rowP
  rw [List.range_succ, List.filter_append, List.map_append]
  congr 1
  by_cases h : p (i : Int) ((i + 1 + m : Nat) : Int) = true
  · rw [if_pos h, List.filter_cons_of_pos (p := fun t : Nat => p (i : Int) ((i + 1 + t : Nat) : Int)) h]; rfl
  · rw [if_neg h, List.filter_cons_of_neg (p := fun t : Nat => p (i : Int) ((i + 1 + t : Nat) : Int)) h]; rfl
theorem pairsP_succ (p : Int → Int → Bool) (n i : Nat) : pairsP p n (i + 1) = pairsP p n i ++ rowP p i (n - (i + 1)) := by
  unfold pairsP
  rw [List.range_succ, List.flatMap_append, List.flatMap_singleton]
theorem rowP_len (p : Int → Int → Bool) (i m : Nat) : (rowP p i m).length ≤ m := by
  unfold rowP
  rw [List.length_map]
  have := List.length_filter_le (fun t => p (i : Int) ((i + 1 + t : Nat) : Int)) (List.range m)
  rwa [List.length_range] at this
theorem pairsP_len (p : Int → Int → Bool) (n : Nat) : ∀ i, (pairsP p n i).length ≤ i * n
  | 0 => Nat.zero_le _
  | i + 1 => by
    rw [pairsP_succ, List.length_append, Nat.succ_mul]
    have := pairsP_len p n i
    have := rowP_len p i (n - (i + 1))
    omega
theorem mem_rowP {p : Int → Int → Bool} {i m : Nat} {l : List Int} : l ∈ rowP p i m ↔ ∃ j : Nat, i < j ∧ j < i + 1 + m ∧ p (i : Int) (j : Int) = true ∧ l = [(i : Int), (j : Int)] := by
  unfold rowP
  rw [List.mem_map]
  constructor
  · rintro ⟨t, ht, rfl⟩
    obtain ⟨h1, h2⟩ := List.mem_filter.mp ht
    have := List.mem_range.mp h1
    exact ⟨i + 1 + t, by omega, by omega, h2, rfl⟩
  · rintro ⟨j, h1, h2, h3, rfl⟩
    refine ⟨j - (i + 1), List.mem_filter.mpr ⟨List.mem_range.mpr (by omega), ?_⟩, ?_⟩
    · rw [show i + 1 + (j - (i + 1)) = j by omega]; exact h3
    · rw [show i + 1 + (j - (i + 1)) = j by omega]
theorem mem_pairsP {p : Int → Int → Bool} {n : Nat} {l : List Int} : l ∈ pairsP p n n ↔ ∃ i j : Nat, i < j ∧ j < n ∧ p (i : Int) (j : Int) = true ∧ l = [(i : Int), (j : Int)] := by
  unfold pairsP
  rw [List.mem_flatMap]
  constructor
  · rintro ⟨i, hi, h⟩
    obtain ⟨j, h1, h2, h3, h4⟩ := mem_rowP.mp h
    have := List.mem_range.mp hi
    exact ⟨i, j, h1, by omega, h3, h4⟩
  · rintro ⟨i, j, h1, h2, h3, h4⟩
    exact ⟨i, List.mem_range.mpr (by omega), mem_rowP.mpr ⟨j, h1, by omega, h3, h4⟩⟩
def dPairs (C : Addr) : List D → (D → Prop) → Prop := fun ds Q => ∃ ks ts, ds = [tblD C ks ts] ∧ Tb ks ts ∧ Q (.tup ((pairsP (crossB ts) ks.length ks.length).map tI))
def dFor (C : Addr) : List D → (D → Prop) → Prop := fun ds Q => ∃ ks ts, ds = [tblD C ks ts] ∧ Tb ks ts ∧ Q (.bl (pairsP (crossB ts) ks.length ks.length).isEmpty)
def CP1 (C : Addr) (ks : List Str) (ts : List (Str × List Int)) (a : Addr) (i : Nat) (Γ : List Ent) : Prop := ∃ y2 y3 : Ent, Γ = [.v (tblD C ks ts), .l a ((pairsP (crossB ts) ks.length i).map tI), y2, y3]
def CP2 (C : Addr) (ks : List Str) (ts : List (Str × List Int)) (a : Addr) (i m : Nat) (Γ : List Ent) : Prop := ∃ y3 : Ent, Γ = [.v (tblD C ks ts), .l a ((pairsP (crossB ts) ks.length i ++ rowP (crossB ts) i m).map tI), .v (.int (i : Int)), y3]
theorem emp_len {α : Type} (l : List α) : decide ((0 : Int) < (l.length : Int)) = !l.isEmpty := by
  cases l with
  | nil => rfl
  | cons x r => exact decide_eq_true (by rw [List.length_cons]; omega)
end Pu
/-! Plain values of any kind; striking. -/
namespace Pu
open PySem PySem.Spec PyProof.Rows L2 Gd
mutual
/-- a value of built-in types alone -/
def plain : D → Bool
  | .non | .bl _ | .int _ | .str _ => true
  | .tup l | .lst l => plainA l
  | .dk l => l.isEmpty
  | _ => false
def plainA : List D → Bool
  | [] => true
  | d :: ds => plain d && plainA ds
end
theorem plainA_mem : ∀ {l : List D}, plainA l = true → ∀ d ∈ l, plain d = true
  | [], _, _, m => nomatch m
  | x :: l, h, d, m => by
    rw [plainA, Bool.and_eq_true] at h
    rcases List.mem_cons.mp m with rfl | m
    · exact h.1
    · exact plainA_mem h.2 d m
theorem plainA_of : ∀ {l : List D}, (∀ d ∈ l, plain d = true) → plainA l = true
  | [], _ => by rw [plainA]
  | x :: l, h => by rw [plainA, h x List.mem_cons_self, plainA_of fun d m => h d (List.mem_cons_of_mem _ m)]; rfl
theorem plain_ty {d : D} (h : plain d = true) : ∃ n, tyOf d = some n := by
  cases d <;> first | exact ⟨_, rfl⟩ | (simp [plain] at h)
def numB (m : Int) : D → Bool
  | .int i => decide (0 ≤ i) && decide (i < m)
  | _ => false
def num0 : D → Bool
  | .int i => decide (0 ≤ i)
  | _ => false
theorem kit_int {d : D} {n : String} (h : tyOf d = some n) : ∃ c, kitB n "int" = some c ∧ (c = false → num0 d = false) ∧ (c = true → (∃ i, d = .int i) ∨ ∃ b, d = .bl b) := by
  cases d with
  | non => cases h; exact ⟨false, by decide +kernel, fun _ => rfl, nofun⟩
  | bl b => cases h; exact ⟨true, by decide +kernel, nofun, fun _ => .inr ⟨b, rfl⟩⟩
  | int i => cases h; exact ⟨true, by decide +kernel, nofun, fun _ => .inl ⟨i, rfl⟩⟩
  | str x => cases h; exact ⟨false, by decide +kernel, fun _ => rfl, nofun⟩
  | tup l => cases h; exact ⟨false, by decide +kernel, fun _ => rfl, nofun⟩
  | lst l => cases h; exact ⟨false, by decide +kernel, fun _ => rfl, nofun⟩
  | dk l => cases h; exact ⟨false, by decide +kernel, fun _ => rfl, nofun⟩
  | _ => cases h
theorem kit_tup {d : D} {n : String} (h : tyOf d = some n) : ∃ c, kitB n "tuple" = some c ∧ (c = false → ∀ l, d ≠ .tup l) ∧ (c = true → ∃ l, d = .tup l) := by
  cases d with
  | non => cases h; exact ⟨false, by decide +kernel, fun _ _ => nofun, nofun⟩
  | bl b => cases h; exact ⟨false, by decide +kernel, fun _ _ => nofun, nofun⟩
  | int i => cases h; exact ⟨false, by decide +kernel, fun _ _ => nofun, nofun⟩
  | str x => cases h; exact ⟨false, by decide +kernel, fun _ _ => nofun, nofun⟩
  | tup l => cases h; exact ⟨true, by decide +kernel, nofun, fun _ => ⟨l, rfl⟩⟩
  | lst l => cases h; exact ⟨false, by decide +kernel, fun _ _ => nofun, nofun⟩
  | dk l => cases h; exact ⟨false, by decide +kernel, fun _ _ => nofun, nofun⟩
  | _ => cases h
theorem kit_str {d : D} {n : String} (h : tyOf d = some n) : ∃ c, kitB n "str" = some c ∧ (c = false → ∀ l, d ≠ .str l) ∧ (c = true → ∃ l, d = .str l) := by
  cases d with
  | non => cases h; exact ⟨false, by decide +kernel, fun _ _ => nofun, nofun⟩
  | bl b => cases h; exact ⟨false, by decide +kernel, fun _ _ => nofun, nofun⟩
  | int i => cases h; exact ⟨false, by decide +kernel, fun _ _ => nofun, nofun⟩
  | str x => cases h; exact ⟨true, by decide +kernel, nofun, fun _ => ⟨x, rfl⟩⟩
  | tup l => cases h; exact ⟨false, by decide +kernel, fun _ _ => nofun, nofun⟩
  | lst l => cases h; exact ⟨false, by decide +kernel, fun _ _ => nofun, nofun⟩
  | dk l => cases h; exact ⟨false, by decide +kernel, fun _ _ => nofun, nofun⟩
  | _ => cases h
def dNum : List D → (D → Prop) → Prop := fun ds Q => ∃ d, ds = [d] ∧ plain d = true ∧ Q (.bl (num0 d))
def dNumB : List D → (D → Prop) → Prop := fun ds Q => ∃ d m, ds = [d, .int m] ∧ plain d = true ∧ Q (.bl (numB m d))
/-- tuples of a length -/
def tupN (m : Int) : D → Bool
  | .tup l => decide ((l.length : Int) = m)
  | _ => false
def dTupOf : List D → (D → Prop) → Prop := fun ds Q => ∃ d m, ds = [d, .int m] ∧ plain d = true ∧ Q (.bl (tupN m d))
def numsB (m : Int) : D → Bool
  | .tup l => l.all (numB m)
  | _ => false
def dNums : List D → (D → Prop) → Prop := fun ds Q => ∃ d m, ds = [d, .int m] ∧ plain d = true ∧ (∀ l, d = .tup l → l.length ≤ 1000) ∧ Q (.bl (numsB m d))
/-- one below the next -/
def ascB : List Int → Bool
  | x :: y :: r => decide (x < y) && ascB (y :: r)
  | _ => true
def toI : D → Int
  | .int i => i
  | _ => 0
theorem numB_int {m : Int} {d : D} (h : numB m d = true) : ∃ i, d = .int i ∧ 0 ≤ i ∧ i < m := by
  cases d with
  | int i =>
    rw [numB, Bool.and_eq_true, decide_eq_true_eq, decide_eq_true_eq] at h
    exact ⟨i, rfl, h⟩
  | _ => cases h
theorem nums_ints {m : Int} : ∀ {l : List D}, l.all (numB m) = true → l = (l.map toI).map .int ∧ ∀ x ∈ l.map toI, 0 ≤ x ∧ x < m
  | [], _ => ⟨rfl, nofun⟩
  | d :: l, h => by
    rw [List.all_cons, Bool.and_eq_true] at h
    obtain ⟨i, rfl, h1⟩ := numB_int h.1
    obtain ⟨e, h2⟩ := nums_ints h.2
    refine ⟨?_, fun x hx => ?_⟩
    · rw [List.map_cons, List.map_cons, ← e]
      rfl
    · rw [List.map_cons] at hx
      rcases List.mem_cons.mp hx with rfl | hx
      · exact h1
      · exact h2 x hx
theorem ascB_all : ∀ l : List Int, ascB l = ((List.range (l.length - 1)).map fun i => decide (l.getD i 0 < l.getD (i + 1) 0)).all id
  | [] => rfl
  | [x] => rfl
  | x :: y :: r => by
    rw [ascB, ascB_all (y :: r)]
    show _ = ((List.range (r.length + 1)).map _).all id
    rw [List.range_succ_eq_map, List.map_cons, List.map_map, List.all_cons]
    rfl
theorem ascB_iff : ∀ {l : List Int}, ascB l = true ↔ AscI l
  | [] => ⟨fun _ => .nil, fun _ => rfl⟩
  | [x] => ⟨fun _ => List.pairwise_singleton _ _, fun _ => rfl⟩
  | x :: y :: r => by
    rw [ascB, Bool.and_eq_true, decide_eq_true_eq, ascB_iff (l := y :: r)]
    constructor
    · rintro ⟨h1, h2⟩
      refine List.pairwise_cons.mpr ⟨fun z hz => ?_, h2⟩
      rcases List.mem_cons.mp hz with rfl | hz
      · exact h1
      · exact Int.lt_trans h1 ((List.pairwise_cons.mp h2).1 z hz)
    · intro h
      obtain ⟨h1, h2⟩ := List.pairwise_cons.mp h
      exact ⟨h1 y List.mem_cons_self, h2⟩
def lotB (m : Int) (d : D) : Bool := match d with
  | .tup l => l.all (numB m) && ascB (l.map toI)
  | _ => false
def dLotB : List D → (D → Prop) → Prop := fun ds Q => ∃ d m, ds = [d, .int m] ∧ plain d = true ∧ (∀ l, d = .tup l → l.length ≤ 1000) ∧ Q (.bl (lotB m d))
/-- ints, or lists of ints, one below the next -/
def ascT : List (List Int) → Bool
  | x :: y :: r => HT.lexLt x y && ascT (y :: r)
  | _ => true
theorem ascT_all : ∀ l : List (List Int), ascT l = ((List.range (l.length - 1)).map fun i => HT.lexLt (l.getD i []) (l.getD (i + 1) [])).all id
  | [] => rfl
  | [x] => rfl
  | x :: y :: r => by
    rw [ascT, ascT_all (y :: r)]
    show _ = ((List.range (r.length + 1)).map _).all id
    rw [List.range_succ_eq_map, List.map_cons, List.map_map, List.all_cons]
    rfl
def dAsc : List D → (D → Prop) → Prop := fun ds Q => (∃ ns : List Int, ds = [tI ns] ∧ ns.length ≤ 1000 ∧ Q (.bl (ascB ns))) ∨ ∃ ps : List (List Int), ds = [.tup (ps.map tI)] ∧ ps.length ≤ 1000 ∧ Q (.bl (ascT ps))
end Pu
/-! Striking: ways, items, tables without them. -/
namespace Pu
open PySem PySem.Spec PyProof.Rows L2 Gd
section
variable {X : Cx} {e : Expr} {x : Str} {pos : Pos} {Γ : List Ent} {Q : D → List Ent → Prop}
/-- a tuple of the module -/
theorem we_gtup {a : Addr} {ds : List D} {vs : List V} (hm : X.mg x = some (.ref a)) (h : ∀ F, SqT X.K F a vs) (r : ∀ F, ReA X.K F ds vs) (q : Q (.tup ds) Γ) (hg : Gl X x := by rfl) (hd : (x == ("__debug__" : Str)) = false := by decide) : WE X (.Name x pos) Γ Q :=
  fun σ F H k Q' po => sE_of (pe_glob (v := .ref a) hg hm rfl hd) (po.now k (.tup (h F) (r F)) q)
theorem ws_expr {E : Eds} (h : WE X e Γ fun _ Γ1 => E.nx Γ1) (hs : swapsWith e none pos.line X.env = pure false := by rfl) : WS X (.Expr e pos) Γ E := fun σ F H k Dn po =>
  sS_of (ps_expr pe_s hs) (h σ F H k _ fun d Γ1 v F1 H1 q1 s1 k1 r1 => po.nx Γ1 σ F1 H1 q1 s1 k1)
end
inductive Way where
  | kinds | types | acc
deriving DecidableEq
def wayS : Way → Str
  | .kinds => "kinds"
  | .types => "types"
  | .acc => "accepted"
def waysL : List Str := ["kinds", "types", "accepted"]
def keyW : Way → Int → Int → List Int
  | .kinds, _, k => [k]
  | .types, r, _ => [r]
  | .acc, r, k => [r, k]
def itE : Way → List Int → D
  | .acc, l => tI l
  | _, l => .int (l.getD 0 0)
def accF (ts : List (Str × List Int)) (n : Nat) : List (List Int) := (List.range n).flatMap fun i : Nat => (lotT ts (i : Int)).map fun k => [(i : Int), k]
def itemsF (w : Way) (kk : Nat) (ts : List (Str × List Int)) : List (List Int) := match w with
  | .kinds => (numsN kk).map ([·])
  | .types => (numsN ts.length).map ([·])
  | .acc => accF ts ts.length
def isStr (w : Way) (its : List (List Int)) (r k : Int) : Bool := decide (keyW w r k ∈ its)
def nmT (ts : List (Str × List Int)) (r : Int) : Str := (ts.getD r.toNat ("", [])).1
def strT (w : Way) (its : List (List Int)) (ts : List (Str × List Int)) (i : Nat) : Str × List Int := (nmT ts i, (lotT ts i).filter fun k => !isStr w its i k)
def struckN (w : Way) (its : List (List Int)) (ts : List (Str × List Int)) (n : Nat) : List (Str × List Int) := (List.range n).map (strT w its ts)
def struckF (w : Way) (its : List (List Int)) (ts : List (Str × List Int)) : List (Str × List Int) := struckN w its ts ts.length
theorem accF_succ (ts : List (Str × List Int)) (n : Nat) : accF ts (n + 1) = accF ts n ++ (lotT ts n).map fun k => [(n : Int), k] := by
  unfold accF
  rw [List.range_succ, List.flatMap_append, List.flatMap_cons, List.flatMap_nil, List.append_nil]
theorem struckN_succ (w : Way) (its : List (List Int)) (ts : List (Str × List Int)) (n : Nat) : struckN w its ts (n + 1) = struckN w its ts n ++ [strT w its ts n] := by
  unfold struckN
  rw [List.range_succ, List.map_append]
  rfl
theorem struckN_len (w : Way) (its : List (List Int)) (ts : List (Str × List Int)) (n : Nat) : (struckN w its ts n).length = n := by
  unfold struckN
  rw [List.length_map, List.length_range]
theorem struckF_len (w : Way) (its : List (List Int)) (ts : List (Str × List Int)) : (struckF w its ts).length = ts.length := struckN_len ..
theorem nmT_at {ts : List (Str × List Int)} {i : Nat} {p : Str × List Int} (h : ts[i]? = some p) : nmT ts (i : Int) = p.1 := by
  unfold nmT
  rw [Int.toNat_natCast, List.getD_eq_getElem?_getD, h]
  rfl
theorem lotT_in {ts : List (Str × List Int)} {n : Nat} (h : ∀ p ∈ ts, LotOk n p.2) (i : Nat) : LotOk n (lotT ts i) := by
  cases e : ts[i]? with
  | none =>
    unfold lotT
    rw [Int.toNat_natCast, List.getD_eq_getElem?_getD, e]
    exact .nil n
  | some p =>
    rw [lotT_at e]
    exact h p (List.mem_of_getElem? e)
theorem struckF_names (w : Way) (its : List (List Int)) (ts : List (Str × List Int)) : (struckF w its ts).map (·.1) = ts.map (·.1) := by
  refine List.ext_getElem? fun i => ?_
  unfold struckF struckN
  rw [List.map_map, List.getElem?_map, List.getElem?_map]
  by_cases h : i < ts.length
  · rw [List.getElem?_range h, List.getElem?_eq_getElem h]
    show some (nmT ts (i : Int)) = _
    rw [nmT_at (List.getElem?_eq_getElem h)]
    rfl
  · rw [List.getElem?_eq_none (by rw [List.length_range]; omega), List.getElem?_eq_none (by omega)]
    rfl
/-- the parts of a table, and how many -/
structure Tk (ks : List Str) (ts : List (Str × List Int)) : Prop where
  k1 : 1 ≤ ks.length
  k8 : ks.length ≤ 8
  t12 : ts.length ≤ 12
  po : PartsOk ks.length ts.length ks ts
theorem Tk.tb {ks : List Str} {ts : List (Str × List Int)} (h : Tk ks ts) : Tb ks ts := ⟨h.k8, h.t12, h.po.lo⟩
theorem Tk.tok {ks : List Str} {ts : List (Str × List Int)} (h : Tk ks ts) : TOk ⟨ks, ts⟩ := h.po.tok h.k1 h.k8 h.t12
theorem Tk.struck {ks : List Str} {ts : List (Str × List Int)} (h : Tk ks ts) (w : Way) (its : List (List Int)) : Tk ks (struckF w its ts) := by
  refine ⟨h.k1, h.k8, by rw [struckF_len]; exact h.t12, h.po.kg, h.po.ka, by rw [struckF_names, struckF_len]; exact h.po.tg, by rw [struckF_names]; exact h.po.ta, fun p hp => ?_⟩
  unfold struckF struckN at hp
  obtain ⟨i, _, rfl⟩ := List.mem_map.mp hp
  exact (lotT_in h.po.lo i).filter _
theorem mem_accF {ts : List (Str × List Int)} {n : Nat} {l : List Int} : l ∈ accF ts n ↔ ∃ (i : Nat) (k : Int), i < n ∧ k ∈ lotT ts i ∧ l = [(i : Int), k] := by
  unfold accF
  rw [List.mem_flatMap]
  constructor
  · rintro ⟨i, hi, m⟩
    obtain ⟨k, hk, rfl⟩ := List.mem_map.mp m
    exact ⟨i, k, List.mem_range.mp hi, hk, rfl⟩
  · rintro ⟨i, k, hi, hk, rfl⟩
    exact ⟨i, List.mem_range.mpr hi, List.mem_map.mpr ⟨k, hk, rfl⟩⟩
/-- the numbers of an item -/
theorem it_shape {w : Way} {kk : Nat} {ts : List (Str × List Int)} (h8 : kk ≤ 8) (t12 : ts.length ≤ 12) (lo : ∀ p ∈ ts, LotOk kk p.2) {l : List Int} (h : l ∈ itemsF w kk ts) : (w = .acc → l.length = 2) ∧ (w ≠ .acc → l.length = 1) ∧ ∀ x ∈ l, 0 ≤ x ∧ x < 100 := by
  cases w with
  | kinds =>
    obtain ⟨k, hk, rfl⟩ := List.mem_map.mp h
    obtain ⟨h1, h2⟩ := mem_numsN.mp hk
    exact ⟨nofun, fun _ => rfl, fun x hx => by rw [List.mem_singleton] at hx; omega⟩
  | types =>
    obtain ⟨k, hk, rfl⟩ := List.mem_map.mp h
    obtain ⟨h1, h2⟩ := mem_numsN.mp hk
    exact ⟨nofun, fun _ => rfl, fun x hx => by rw [List.mem_singleton] at hx; omega⟩
  | acc =>
    obtain ⟨i, k, hi, hk, rfl⟩ := mem_accF.mp h
    have := (lotT_in lo i).2 k hk
    refine ⟨fun _ => rfl, fun z => absurd rfl z, fun x hx => ?_⟩
    rcases List.mem_cons.mp hx with rfl | hx
    · omega
    · rw [List.mem_singleton] at hx; omega
/-- items of a way: as many numbers, none great -/
structure Its (w : Way) (its : List (List Int)) : Prop where
  a : w = .acc → ∀ l ∈ its, l.length = 2
  n : w ≠ .acc → ∀ l ∈ its, l.length = 1
  b : ∀ l ∈ its, ∀ x ∈ l, 0 ≤ x ∧ x < 100
  len : its.length ≤ 1000
theorem Its.of {w : Way} {kk : Nat} {ts : List (Str × List Int)} {its : List (List Int)} (h8 : kk ≤ 8) (t12 : ts.length ≤ 12) (lo : ∀ p ∈ ts, LotOk kk p.2) (h : ∀ l ∈ its, l ∈ itemsF w kk ts) (hl : its.length ≤ 1000) : Its w its :=
  ⟨fun e l m => (it_shape h8 t12 lo (h l m)).1 e, fun e l m => (it_shape h8 t12 lo (h l m)).2.1 e, fun l m => (it_shape h8 t12 lo (h l m)).2.2, hl⟩
/-- ints of items -/
theorem Its.ints {w : Way} {its : List (List Int)} (h : Its w its) (hw : w ≠ .acc) : its.map (itE w) = (its.map fun l => l.getD 0 0).map .int ∧ ∀ k : Int, k ∈ (its.map fun l => l.getD 0 0) ↔ [k] ∈ its := by
  refine ⟨?_, fun k => ?_⟩
  · rw [List.map_map]
    refine List.map_congr_left fun l _ => ?_
    cases w with
    | acc => exact absurd rfl hw
    | _ => rfl
  · constructor
    · intro m
      obtain ⟨l, ml, e⟩ := List.mem_map.mp m
      have := h.n hw l ml
      match l, this with
      | [x], _ => cases e; exact ml
    · intro m
      exact List.mem_map.mpr ⟨[k], m, rfl⟩
theorem py_tIs (l : List (List Int)) : py (.tup (l.map tI)) = .tuple (l.map fun x => .tuple (x.map .int)) := by
  rw [py, pyA_map, List.map_map]
  congr 1
  exact List.map_congr_left fun x _ => py_tI x
theorem noB_ints (l : List Int) : noB (.tuple (l.map .int)) = true := by
  rw [noB]
  induction l with
  | nil => rfl
  | cons x r ih => rw [List.map_cons, noBA, ih]; rfl
theorem eqv_ints (a b : List Int) : PyData.eqv (.tuple (a.map .int)) (.tuple (b.map .int)) = decide (a = b) := by
  have h := eqv_iff _ _ (noB_ints a) (noB_ints b)
  by_cases e : a = b
  · rw [h.mpr (by rw [e])]
    exact (decide_eq_true e).symm
  · cases c : PyData.eqv (.tuple (a.map .int)) (.tuple (b.map .int)) with
    | false => exact (decide_eq_false e).symm
    | true =>
      have := h.mp c
      refine absurd ?_ e
      have i := PyData.tuple.inj this
      exact (List.map_inj_right fun _ _ => PyData.int.inj).mp i
theorem any_ints (its : List (List Int)) (l : List Int) : (pyA (its.map tI)).any (fun z => PyData.eqv z (py (tI l))) = decide (l ∈ its) := by
  rw [pyA_map, List.map_map, List.any_map, Bool.eq_iff_iff, List.any_eq_true, decide_eq_true_eq]
  constructor
  · rintro ⟨x, hx, e⟩
    change PyData.eqv (py (tI x)) (py (tI l)) = true at e
    rw [py_tI, py_tI, eqv_ints, decide_eq_true_eq] at e
    exact e ▸ hx
  · intro h
    refine ⟨l, h, ?_⟩
    show PyData.eqv (py (tI l)) (py (tI l)) = true
    rw [py_tI, eqv_ints]
    exact decide_eq_true rfl
theorem sh_tI {l : List Int} (h : ∀ x ∈ l, 0 ≤ x ∧ x < 100) : Sh (tI l) := by
  refine ⟨isP_tI l, ?_, ?_⟩
  · rw [py_tI, fine]
    exact fineAll_mem fun d hd => by
      obtain ⟨x, hx, rfl⟩ := List.mem_map.mp hd
      have := h x hx
      exact fine_int (Nat.lt_trans (show x.natAbs < 100 by omega) (by decide))
  · rw [py_tI, PyData.depth]
    have e : PyData.depthAll (l.map .int) ≤ 1 := depthAll_mem fun d hd => by
      obtain ⟨x, _, rfl⟩ := List.mem_map.mp hd
      simp [PyData.depth]
    omega
theorem sh_tIs {its : List (List Int)} (h : ∀ l ∈ its, ∀ x ∈ l, 0 ≤ x ∧ x < 100) : Sh (.tup (its.map tI)) := by
  refine ⟨?_, ?_, ?_⟩
  · rw [isP]
    exact isPA_mem fun d hd => by obtain ⟨x, _, rfl⟩ := List.mem_map.mp hd; exact isP_tI x
  · rw [py, fine, pyA_map]
    exact fineAll_mem fun d hd => by
      obtain ⟨e, he, rfl⟩ := List.mem_map.mp hd
      obtain ⟨l, hl, rfl⟩ := List.mem_map.mp he
      exact (sh_tI (h l hl)).f
  · rw [py, pyA_map, PyData.depth]
    have : PyData.depthAll ((its.map tI).map py) ≤ 3 := depthAll_mem fun d hd => by
      obtain ⟨e, he, rfl⟩ := List.mem_map.mp hd
      obtain ⟨l, hl, rfl⟩ := List.mem_map.mp he
      rw [py_tI, PyData.depth]
      have e : PyData.depthAll (l.map .int) ≤ 1 := depthAll_mem fun d hd => by
        obtain ⟨x, _, rfl⟩ := List.mem_map.mp hd
        simp [PyData.depth]
      omega
    omega
/-- what is plain of a way -/
def isWay (d : D) : Bool := match d with
  | .str z => decide (z ∈ waysL)
  | _ => false
def dIsWay : List D → (D → Prop) → Prop := fun ds Q => ∃ d, ds = [d] ∧ plain d = true ∧ Q (.bl (isWay d))
def dChk : List D → (D → Prop) → Prop := fun ds Q => ∃ w, ds = [.str (wayS w)] ∧ Q .non
def dItems (C : Addr) : List D → (D → Prop) → Prop := fun ds Q => ∃ ks ts w, ds = [tblD C ks ts, .str (wayS w)] ∧ Tk ks ts ∧ Q (.tup ((itemsF w ks.length ts).map (itE w)))
def dIsStr : List D → (D → Prop) → Prop := fun ds Q => ∃ w its r k, ds = [.str (wayS w), .tup (its.map (itE w)), .int r, .int k] ∧ Its w its ∧ 0 ≤ r ∧ r < 100 ∧ 0 ≤ k ∧ k < 100 ∧ Q (.bl (isStr w its r k))
def dStT (C : Addr) : List D → (D → Prop) → Prop := fun ds Q => ∃ ks ts w its, ds = [tblD C ks ts, .str (wayS w), .tup (its.map (itE w))] ∧ Tk ks ts ∧ Its w its ∧ Q (tblD C ks (struckF w its ts))
/-- a pair of a type and a kind that it accepts -/
def accB (kk : Nat) (ts : List (Str × List Int)) (d : D) : Bool := match d with
  | .tup [x, y] => numB (ts.length : Int) x && (numB (kk : Int) y && decide (toI y ∈ lotT ts (toI x)))
  | _ => false
def toL : D → List Int
  | .tup l => l.map toI
  | _ => []
def accsB (kk : Nat) (ts : List (Str × List Int)) (d : D) : Bool := match d with
  | .tup l => l.all (accB kk ts) && ascT (l.map toL)
  | _ => false
def areB (w : Way) (kk : Nat) (ts : List (Str × List Int)) (d : D) : Bool := match w with
  | .kinds => lotB (kk : Int) d
  | .types => lotB (ts.length : Int) d
  | .acc => accsB kk ts d
def dIsAcc (C : Addr) : List D → (D → Prop) → Prop := fun ds Q => ∃ ks ts d, ds = [tblD C ks ts, d] ∧ plain d = true ∧ Q (.bl (accB ks.length ts d))
def dAre (C : Addr) : List D → (D → Prop) → Prop := fun ds Q => ∃ ks ts w d, ds = [tblD C ks ts, .str (wayS w), d] ∧ Tk ks ts ∧ plain d = true ∧ (∀ l, d = .tup l → l.length ≤ 1000) ∧ Q (.bl (areB w ks.length ts d))
def decW (w : Way) (d : D) : List (List Int) := match d with
  | .tup l => match w with
    | .acc => l.map toL
    | _ => (l.map toI).map ([·])
  | _ => []
def repB (w : Way) (ks : List Str) (ts : List (Str × List Int)) (d : D) : Bool := areB w ks.length ts d && (pairsP (crossB (struckF w (decW w d) ts)) ks.length ks.length).isEmpty
def dRep (C : Addr) : List D → (D → Prop) → Prop := fun ds Q => ∃ ks ts w d, ds = [tblD C ks ts, .str (wayS w), d] ∧ Tk ks ts ∧ plain d = true ∧ (∀ l, d = .tup l → l.length ≤ 1000) ∧ Q (.bl (repB w ks ts d))
def dCost (C : Addr) : List D → (D → Prop) → Prop := fun ds Q => ∃ ks ts w cs its, ds = [tblD C ks ts, .str (wayS w), tI cs, .tup (its.map (itE w))] ∧ Tk ks ts ∧ Its w its ∧ cs.length = (itemsF w ks.length ts).length ∧ (∀ c ∈ cs, 0 ≤ c ∧ c < 1000) ∧ Q (.int ((((itemsF w ks.length ts).zip cs).filter fun p => decide (p.1 ∈ its)).map (·.2)).sum)
/-- what a lot of items tells -/
theorem areB_dec {w : Way} {kk : Nat} {ts : List (Str × List Int)} {d : D} (h : areB w kk ts d = true) : d = .tup ((decW w d).map (itE w)) ∧ ∀ l ∈ decW w d, l ∈ itemsF w kk ts := by
  have lots : ∀ m : Nat, lotB (m : Int) d = true → ∃ l, d = .tup l ∧ l = (l.map toI).map .int ∧ ∀ x ∈ l.map toI, x ∈ numsN m := fun m h => by
    cases d with
    | tup l =>
      rw [lotB, Bool.and_eq_true] at h
      obtain ⟨e, b⟩ := nums_ints h.1
      exact ⟨l, rfl, e, fun x hx => mem_numsN.mpr (b x hx)⟩
    | _ => cases h
  cases w with
  | kinds =>
    obtain ⟨l, rfl, e, b⟩ := lots kk h
    refine ⟨?_, fun y hy => ?_⟩
    · show D.tup l = .tup (((l.map toI).map ([·])).map (itE .kinds))
      rw [List.map_map, show (itE .kinds ∘ fun x => [x]) = D.int from rfl, ← e]
    · obtain ⟨x, hx, rfl⟩ := List.mem_map.mp hy
      exact List.mem_map.mpr ⟨x, b x hx, rfl⟩
  | types =>
    obtain ⟨l, rfl, e, b⟩ := lots ts.length h
    refine ⟨?_, fun y hy => ?_⟩
    · show D.tup l = .tup (((l.map toI).map ([·])).map (itE .types))
      rw [List.map_map, show (itE .types ∘ fun x => [x]) = D.int from rfl, ← e]
    · obtain ⟨x, hx, rfl⟩ := List.mem_map.mp hy
      exact List.mem_map.mpr ⟨x, b x hx, rfl⟩
  | acc =>
    change accsB kk ts d = true at h
    cases d with
    | tup l =>
      rw [accsB, Bool.and_eq_true, List.all_eq_true] at h
      have one : ∀ x ∈ l, x = tI (toL x) ∧ toL x ∈ accF ts ts.length := fun x hx => by
        have a := h.1 x hx
        match x, a with
        | .tup [x, y], a =>
          rw [accB, Bool.and_eq_true, Bool.and_eq_true, decide_eq_true_eq] at a
          obtain ⟨a1, a2, a3⟩ := a
          obtain ⟨i, rfl, i0, i1⟩ := numB_int a1
          obtain ⟨j, rfl, j0, j1⟩ := numB_int a2
          obtain ⟨n, rfl⟩ := Int.eq_ofNat_of_zero_le i0
          exact ⟨rfl, mem_accF.mpr ⟨n, j, by omega, a3, rfl⟩⟩
      refine ⟨?_, fun y hy => ?_⟩
      · show D.tup l = .tup ((l.map toL).map tI)
        rw [List.map_map]
        congr 1
        exact ((List.map_congr_left fun x hx => (one x hx).1.symm).trans (List.map_id _)).symm
      · obtain ⟨x, hx, rfl⟩ := List.mem_map.mp hy
        exact (one x hx).2
    | _ => cases h
end Pu
namespace Pu
open PySem PySem.Spec PyProof.Rows L2 Gd RZ
section
variable {X : Cx} {tg e e2 : Expr} {p pos tp : Pos} {Γ : List Ent} {R : List D → (List Ent → Prop) → List Ent → Prop}
def zipD (ds es : List D) : List D := (ds.zip es).map fun p => .tup [p.1, p.2]
theorem wi_zipT {ts : List Expr} {kk : Nat} (hm : X.mg "zip" = none) (h : WE X e Γ fun d Γ1 => WE X e2 Γ1 fun d2 Γ2 => ∃ ds es, d = .tup ds ∧ d2 = .tup es ∧ R (zipD ds es) (fun _ => True) Γ2) (hg : Gl X "zip" := by rfl)
    (hs : starEach [e, e2] X.env = (false, eval e X.env) :: starEach [e2] X.env := by rfl) (hs2 : starEach [e2] X.env = (false, eval e2 X.env) :: starEach [] X.env := by rfl) (hpl : (backTo pos (starEach [e2] X.env)).any (·.1) = false := by rfl) : WI X (.Tuple ts kk tp) (.Call (.Name "zip" p) [e, e2] [] pos) Γ R := fun σ F H k R' po => by
  refine sI_of (pi_zipA hg hm (pa_cons pe_s (pa_cons pe_s pa_nil hs2) hs) hs hpl) (h σ F H k _ fun d Γ1 v F1 H1 q1 s1 k1 r1 => ?_)
  refine q1 σ F1 H1 k1 _ fun d2 Γ2 v2 F2 H2 q2 s2 k2 r2 => ?_
  obtain ⟨ds, es, rfl, rfl, q⟩ := q2
  cases r1 with
  | tup ha ra =>
    cases r2 with
    | tup hb rb =>
      have ha := same_seqT s2.sf ha
      have ra := ra.same s2.sf
      refine ⟨_, _, _, _, rfl, .inr ⟨same_seqT k2.same ha, same_seqT k2.same hb, po _ _ _ Γ2 F2 H2 q (s1.trans s2) k2 fun i σ F H Γ sm k _ => ?_⟩⟩
      have qa := same_seqT k.same (same_seqT sm ha)
      have qb := same_seqT k.same (same_seqT sm hb)
      refine ⟨fun d hd => ?_, fun hi => ⟨_, _, qa, qb, ?_⟩⟩
      · obtain ⟨⟨x, y⟩, hxy, rfl⟩ := map_get hd
        obtain ⟨hx, hy⟩ := List.getElem?_zip_eq_some.mp hxy
        obtain ⟨v, hv, rv⟩ := ra.get hx
        obtain ⟨u, hu, ru⟩ := rb.get hy
        refine ⟨⟨_, _, v, u, qa, qb, hv, hu⟩, fun z H' ⟨T, x', y', e1, nT, e2, e3, e4⟩ => ?_⟩
        subst e1 e2
        obtain rfl : x' = v := Option.some.inj ((e3 _ qa).symm.trans hv)
        obtain rfl : y' = u := Option.some.inj ((e4 _ qb).symm.trans hu)
        exact ⟨upd F T (.tup [x', y']), .new k.same nT, k.new nT, .tup (sqT upd_same) (.cons ((rv.same sm).same (same_new (k.same.free nT))) (.cons ((ru.same sm).same (same_new (k.same.free nT))) .nil))⟩
      · rw [← ra.len, ← rb.len]
        unfold zipD at hi
        rw [List.length_map, List.length_zip] at hi
        omega
end
end Pu
/-! Crossings as the law tells them. -/
namespace Pu
open PySem PySem.Spec PyProof.Rows L2 Gd
theorem fm_len {α β : Type} {f : α → List β} {b : Nat} : ∀ {l : List α}, (∀ x ∈ l, (f x).length ≤ b) → (l.flatMap f).length ≤ l.length * b
  | [], _ => Nat.zero_le _
  | x :: l, h => by
    have h1 := h x List.mem_cons_self
    have h2 := fm_len (l := l) fun y m => h y (List.mem_cons_of_mem _ m)
    rw [List.flatMap_cons, List.length_append, List.length_cons, Nat.succ_mul]
    omega
theorem fm_take {α β : Type} {f : α → List β} {l : List α} {i : Nat} {x : α} (h : l[i]? = some x) : (l.take (i + 1)).flatMap f = (l.take i).flatMap f ++ f x := by
  rw [List.take_succ, h, List.flatMap_append]
  congr 1
  simp
theorem fm_range {β : Type} {f : Nat → List β} (n : Nat) : (List.range (n + 1)).flatMap f = (List.range n).flatMap f ++ f n := by
  rw [List.range_succ, List.flatMap_append, List.flatMap_cons, List.flatMap_nil, List.append_nil]
abbrev crE (c : List Int) : D := .tup [tI (c.take 2), tI (c.drop 2)]
def lotsD2 (ts : List (Str × List Int)) (n : Nat) : D := .lst ((numsN n).map fun k => tI (tkF ts [k]))
def bothQ (ts : List (Str × List Int)) (a b r : Int) : Bool := decide (r ∈ tkF ts [a]) && decide (r ∈ tkF ts [b])
def cr4 (ts : List (Str × List Int)) (a b r : Int) (ms : List Int) : List (List Int) := ms.flatMap fun m => (onlyF ts b a).map fun y => [a, b, r, m, y]
def cr3 (ts : List (Str × List Int)) (a b : Int) (n : Nat) : List (List Int) := (List.range n).flatMap fun r : Nat => if bothQ ts a b (r : Int) = true then cr4 ts a b (r : Int) (onlyF ts a b) else []
def cr2 (ts : List (Str × List Int)) (i m : Nat) : List (List Int) := (List.range m).flatMap fun t : Nat => cr3 ts (i : Int) ((i + 1 + t : Nat) : Int) ts.length
def cr1 (ts : List (Str × List Int)) (n i : Nat) : List (List Int) := (List.range i).flatMap fun i : Nat => cr2 ts i (n - (i + 1))
theorem onlyF_len (ts : List (Str × List Int)) (a b : Int) : (onlyF ts a b).length ≤ ts.length := Nat.le_trans (List.length_filter_le _ _) (tkF_ok ts [a]).len
theorem cr4_len {ts : List (Str × List Int)} (h : ts.length ≤ 9) (a b r : Int) (ms : List Int) : (cr4 ts a b r ms).length ≤ ms.length * 9 := fm_len fun m _ => by
  rw [List.length_map]
  exact Nat.le_trans (onlyF_len ts b a) h
theorem cr3_len {ts : List (Str × List Int)} (h : ts.length ≤ 9) (a b : Int) (n : Nat) : (cr3 ts a b n).length ≤ n * 81 := by
  have := fm_len (f := fun r : Nat => if bothQ ts a b (r : Int) = true then cr4 ts a b (r : Int) (onlyF ts a b) else []) (b := 81) (l := List.range n) fun r _ => by
    show (if bothQ ts a b (r : Int) = true then cr4 ts a b (r : Int) (onlyF ts a b) else []).length ≤ 81
    split
    · have h1 := cr4_len h a b r (onlyF ts a b)
      have h2 := onlyF_len ts a b
      omega
    · exact Nat.zero_le _
  rw [List.length_range] at this
  exact this
theorem cr2_len {ts : List (Str × List Int)} (h : ts.length ≤ 9) (i m : Nat) : (cr2 ts i m).length ≤ m * 729 := by
  have := fm_len (f := fun t : Nat => cr3 ts (i : Int) ((i + 1 + t : Nat) : Int) ts.length) (b := 729) (l := List.range m) fun r _ => by
    have := cr3_len h (i : Int) ((i + 1 + r : Nat) : Int) ts.length
    show (cr3 ts (i : Int) ((i + 1 + r : Nat) : Int) ts.length).length ≤ 729
    omega
  rw [List.length_range] at this
  exact this
theorem cr1_len {ts : List (Str × List Int)} (h : ts.length ≤ 9) {n i : Nat} (hn : n ≤ 8) : (cr1 ts n i).length ≤ i * 5832 := by
  have := fm_len (f := fun i : Nat => cr2 ts i (n - (i + 1))) (b := 5832) (l := List.range i) fun r _ => by
    have := cr2_len h r (n - (r + 1))
    show (cr2 ts r (n - (r + 1))).length ≤ 5832
    omega
  rw [List.length_range] at this
  exact this
theorem tk1 (ts : List (Str × List Int)) (k : Int) : tkF ts [k] = (numsN ts.length).filter fun r => decide (k ∈ lotT ts r) := by
  unfold tkF
  congr 1
  funext r
  rw [List.any_cons, List.any_nil, Bool.or_false]
def dLTk : List D → (D → Prop) → Prop := fun ds Q => ∃ ks ts, ds = [tS ks, typesP ts] ∧ ks.length ≤ 8 ∧ ts.length ≤ 12 ∧ Q (lotsD2 ts ks.length)
def dLCr : List D → (D → Prop) → Prop := fun ds Q => ∃ ks ts, ds = [tS ks, typesP ts] ∧ ks.length ≤ 8 ∧ ts.length ≤ 9 ∧ Q (.lst ((cr1 ts ks.length ks.length).map crE))
def dLIt : List D → (D → Prop) → Prop := fun ds Q => ∃ ks ts w, ds = [tS ks, typesP ts, .str (wayS w)] ∧ Tk ks ts ∧ Q (.lst ((itemsF w ks.length ts).map (itE w)))
/-- a lot of items: a list, a tuple -/
def dLSt : List D → (D → Prop) → Prop := fun ds Q => ∃ ks ts w its d, ds = [typesP ts, .str (wayS w), d] ∧ Sq [] d (its.map (itE w)) ∧ Tk ks ts ∧ Its w its ∧ Q (typesP (struckF w its ts))
def CI1 (ks : List Str) (ts : List (Str × List Int)) (i : Nat) (Γ : List Ent) : Prop := ∃ (a : Addr) (y4 y5 y6 y7 : Ent), Γ = [.v (tS ks), .v (typesP ts), .v (lotsD2 ts ks.length), .l a ((cr1 ts ks.length i).map crE), y4, y5, y6, y7, .no, .no]
def CI2 (ks : List Str) (ts : List (Str × List Int)) (i m : Nat) (Γ : List Ent) : Prop := ∃ (a : Addr) (y5 y6 y7 : Ent), Γ = [.v (tS ks), .v (typesP ts), .v (lotsD2 ts ks.length), .l a ((cr1 ts ks.length i ++ cr2 ts i m).map crE), .v (.int (i : Int)), y5, y6, y7, .no, .no]
def CI3 (ks : List Str) (ts : List (Str × List Int)) (i m r : Nat) (Γ : List Ent) : Prop := ∃ (a : Addr) (y6 y7 : Ent), Γ = [.v (tS ks), .v (typesP ts), .v (lotsD2 ts ks.length), .l a ((cr1 ts ks.length i ++ cr2 ts i m ++ cr3 ts (i : Int) ((i + 1 + m : Nat) : Int) r).map crE), .v (.int (i : Int)), .v (.int ((i + 1 + m : Nat) : Int)), y6, y7, .no, .no]
def CI4 (ks : List Str) (ts : List (Str × List Int)) (i m r j : Nat) (Γ : List Ent) : Prop := ∃ (a : Addr) (y7 : Ent), Γ = [.v (tS ks), .v (typesP ts), .v (lotsD2 ts ks.length), .l a ((cr1 ts ks.length i ++ cr2 ts i m ++ cr3 ts (i : Int) ((i + 1 + m : Nat) : Int) r ++ cr4 ts (i : Int) ((i + 1 + m : Nat) : Int) (r : Int) ((onlyF ts (i : Int) ((i + 1 + m : Nat) : Int)).take j)).map crE), .v (.int (i : Int)), .v (.int ((i + 1 + m : Nat) : Int)), .v (.int (r : Int)), y7, .no, .no]
theorem lots_get {ts : List (Str × List Int)} {n i : Nat} (h : i < n) : ((numsN n).map fun k => tI (tkF ts [k]))[i]? = some (tI (tkF ts [(i : Int)])) := get_map (f := fun k => tI (tkF ts [k])) (numsN_at h)
end Pu
/-! A list of one's own lent to a function that reads it. -/
namespace Pu
open PySem PySem.Spec PyProof.Rows L2 Gd
/-- a def on values, one of them a list that is lent -/
def spO (K : PySem.W.Frag) (j : Nat) (sp : List D → List D → (D → Prop) → Prop) : Sp := fun vs H Q _ => ∃ F ds Qp a ls us, Same F H ∧ ReA K F ds vs ∧ ds[j]? = some (.adr a) ∧ F a = none ∧ H a = some (.lst us) ∧ ReA K F ls us ∧ sp ls ds Qp ∧
  ∀ d v F' H', Qp d → Step F H [a] F' H' [a] → Same F' H' → F' a = none → (∃ us', H' a = some (.lst us') ∧ ReA K F' ls us') → Re K F' d v → Q v H'
theorem set_self {α : Type} {l : List α} {i : Nat} {e : α} (h : l[i]? = some e) : l.set i e = l := by
  refine List.ext_getElem? fun n => ?_
  by_cases c : i = n
  · subst c
    rw [List.getElem?_set_self (List.getElem?_eq_some_iff.mp h).1, h]
  · rw [List.getElem?_set_ne c]
theorem foots_set_nil {a : Addr} {ls : List D} : ∀ {G : List Ent} {j : Nat}, foots G = [] → j < G.length → foots (G.set j (.l a ls)) = [a]
  | [], _, _, h => absurd h (by simp)
  | y :: ys, j, f0, hl => by
    rw [foots_cons] at f0
    obtain ⟨e1, e2⟩ := List.append_eq_nil_iff.mp f0
    cases j with
    | zero =>
      rw [List.set_cons_zero, foots_cons, e2]
      rfl
    | succ j =>
      rw [List.set_cons_succ, foots_cons, e1, List.nil_append]
      exact foots_set_nil e2 (by simpa using hl)
section
variable {X : Cx} {e : Expr} {es : List Expr} {x : Str} {p pos : Pos} {Γ : List Ent} {Q : D → List Ent → Prop} {f : Addr} {fd : FuncData} {ps : List Str} {k : Nat}
theorem we_callO (i j : Nat) {sp : List D → List D → (D → Prop) → Prop} (G : FnG X.prog X.w X.K X.mg X.base k f fd ps (spO X.K j sp)) (hr : RmG k X.A) (hm : X.mg x = some (.ref f)) (hk : PySem.W.keepIn X.K (.ref f) = true) (hb : Binds X.K fd ps [])
    (h : WA X (e :: es) Γ fun ds Γ1 => ∃ a ls, ds[j]? = some (.adr a) ∧ Γ1[i]? = some (Ent.l a ls) ∧ sp ls ds fun d => Q d Γ1) (hg : Gl X x := by rfl) (h1 : (x == ("__debug__" : Str)) = false := by decide)
    (h2 : starEach (e :: es) X.env = (false, eval e X.env) :: starEach es X.env := by rfl) (h3 : (backTo pos (starEach es X.env)).any (·.1) = false := by rfl) : WE X (.Call (.Name x p) (e :: es) [] pos) Γ Q := fun σ F H k Q' po => by
  refine sE_of (pe_callG (E := fun _ _ _ => False) G hr hg hm hk hb .nil pa_s h1 h2 h3) (h σ F H k _ fun ds Γ1 vs F1 H1 q1 s1 k1 r1 => ?_)
  rw [List.append_nil]
  obtain ⟨a, ls, hj, hi, q⟩ := q1
  obtain ⟨o, ho, rfl, fa, us, ha, ra⟩ := k1.get hi
  refine ⟨F1, ds, _, a, ls, us, k1.same, r1, hj, fa, ha, ra, q, fun d v F' H' qd st2 sm fa' ⟨us', ha', ra'⟩ rd => ?_⟩
  have ms : ∀ b ∈ [a], b ∈ foots Γ1 := fun b m => mem_foots (e := .l a ls) (List.mem_of_getElem? hi) m
  have kk := k1.put (e := .l a ls) hi rfl st2.sf sm (fun o2 h2 => ?_) fun b n f0 h0 => ⟨st2.fr b n h0 f0, fun y z => st2.kh b y n z⟩
  · rw [set_self hi] at kk
    exact po d Γ1 v F' H' qd (s1.trans (st2.wide ms)) kk rd
  · rw [ho] at h2
    cases h2
    exact ⟨rfl, fa', us', ha', ra'⟩
end
section
variable {K : PySem.W.Frag} {P : Program} {w : World} {mg : Str → Option Value} {base : Heap}
theorem okO {x qual : Str} {st : Stmt} {f : Addr} {fd : FuncData} {N ps : List Str} {k j : Nat} {sp : List D → List D → (D → Prop) → Prop} (F : Fun K x qual st f fd) (S : FnScope N ps (defScope st))
    (len : ∀ ls ds Qp, sp ls ds Qp → ds.length = ps.length) (hN : ps.length ≤ N.length)
    (body : ∀ (cdv : Value) (A : Around) (out : List Env) (s : Shared) (H : Hp) (E : XK), RmG k (A.deeper (envOfC qual (defScope st) s.heap.objs.size f cdv)) → ∀ a ls ds Qp, sp ls ds Qp → ds[j]? = some (.adr a) →
      WB (cxOf CX0 P w K mg base N qual (defScope st) f cdv A out s H E).nox (defBody st) ((ds.map Ent.v ++ List.replicate (N.length - ds.length) Ent.no).set j (.l a ls)) ⟨fun Γ' => Γ'[j]? = some (.l a ls) ∧ Qp .non, fun d Γ' => Γ'[j]? = some (.l a ls) ∧ Qp d, fun _ => False, fun _ => False⟩) :
    FnG P w K mg base (k + 1) f fd ps (spO K j sp) := by
  refine okG F S (fun vs H Q E h => ?_) fun cdv A out s H vs Q E hr h => ?_
  · obtain ⟨F, ds, Qp, a, ls, us, _, r, _, _, _, _, h, _⟩ := h
    exact r.len.symm.trans (len _ _ _ h)
  · obtain ⟨F, ds, Qp, a, ls, us, sm, r, hj, fa, ha, ra, h, q⟩ := h
    refine ⟨_, pb_s, ?_⟩
    have k0 := ok_start (N := N) (H := H) sm r
    have hj0 : (ds.map Ent.v ++ List.replicate (N.length - ds.length) Ent.no)[j]? = some (.v (.adr a)) := by
      have hl := (List.getElem?_eq_some_iff.mp hj).1
      rw [List.getElem?_append_left (by rw [List.length_map]; exact hl), List.getElem?_map, hj]
      rfl
    obtain ⟨o, ho, v, rfl, rv⟩ := k0.get hj0
    cases rv
    have f0 : foots (ds.map Ent.v ++ List.replicate (N.length - ds.length) Ent.no) = [] := foots_start ..
    have k1 := k0.set (i := j) (o := some (.ref a)) (e := .l a ls) ⟨rfl, fa, us, ha, ra⟩ (List.nodup_cons.mpr ⟨nofun, List.nodup_nil⟩) (by rw [f0]; intro b _; exact nofun)
    rw [set_self ho] at k1
    have ft : foots ((ds.map Ent.v ++ List.replicate (N.length - ds.length) Ent.no).set j (.l a ls)) = [a] := by
      exact foots_set_nil f0 (List.getElem?_eq_some_iff.mp hj0).1
    refine body cdv A out s H E hr a ls ds Qp h hj (L2.start N vs) F H k1 _ ⟨fun Γ' σ' F' H' q1 s1 k2 => ?_, fun d Γ' σ' v F' H' q1 s1 k2 r1 => ?_, fun _ _ _ _ z => z.elim, fun _ _ _ _ z => z.elim⟩
    · rw [ft] at s1
      obtain ⟨hi, q1⟩ := q1
      obtain ⟨o, _, _, fa', us', ha', ra'⟩ := k2.get hi
      exact q _ _ F' H' q1 ⟨s1.sf, s1.kh, s1.ne, s1.fr, fun _ z => .inl z⟩ k2.same fa' ⟨us', ha', ra'⟩ .non
    · rw [ft] at s1
      obtain ⟨hi, q1⟩ := q1
      obtain ⟨o, _, _, fa', us', ha', ra'⟩ := k2.get hi
      exact q _ _ F' H' q1 ⟨s1.sf, s1.kh, s1.ne, s1.fr, fun _ z => .inl z⟩ k2.same fa' ⟨us', ha', ra'⟩ r1
end
/-- a slot that holds a sequence: a tuple, a list of one's own -/
inductive RdE : Ent → List D → Prop
  | t (l : List D) : RdE (.v (.tup l)) l
  | l (a : Addr) (ds : List D) : RdE (.l a ds) ds
  | vl (l : List D) : RdE (.v (.lst l)) l
theorem sh_tIsL {its : List (List Int)} (h : ∀ l ∈ its, ∀ x ∈ l, 0 ≤ x ∧ x < 100) : Sh (.lst (its.map tI)) := by
  have z := sh_tIs h
  refine ⟨?_, ?_, ?_⟩
  · have := z.p
    rw [isP] at this
    rw [isP]
    exact this
  · have := z.f
    rw [py, fine] at this
    rw [py, fine]
    exact this
  · have := z.dp
    rw [py, PyData.depth] at this
    rw [py, PyData.depth]
    exact this
section
variable {X : Cx} {x : Str} {pos : Pos} {Γ : List Ent} {Q : D → List Ent → Prop}
theorem we_rd (i : Nat) {e : Ent} {its : List D} (he : RdE e its) (h : Γ[i]? = some e) (q : ∀ d, Sq Γ d its → Q d Γ) (hN : X.N[i]? = some x := by rfl) (hv : Vis X.env.scope x := by first | exact Or.inl rfl | exact Or.inr (Or.inl rfl) | exact Or.inr (Or.inr rfl)) (hd : (x == ("__debug__" : Str)) = false := by decide) (hcd : (x == ("__classdict__" : Str)) = false := by decide) : WE X (.Name x pos) Γ Q := by
  cases he with
  | t => exact we_var i h (q _ (.tup _)) hN hv hd hcd
  | l => exact we_own i h (q _ (.own h)) hN hv hd hcd
  | vl => exact we_var i h (q _ (.lst _)) hN hv hd hcd
theorem wt_ninI (i : Nat) {a : Expr} {e : Ent} {its : List (List Int)} (hu : X.A.units + 65 < cLine) (he : RdE e (its.map tI)) (hb : ∀ l ∈ its, ∀ x ∈ l, 0 ≤ x ∧ x < 100) {QB : Bool → List Ent → Prop} {px pos : Pos}
    (h : WE X a Γ fun d Γ1 => Γ1[i]? = some e ∧ ∃ l, d = tI l ∧ (∀ x ∈ l, 0 ≤ x ∧ x < 100) ∧ QB (!decide (l ∈ its)) Γ1) (hN : X.N[i]? = some x := by rfl) (hv : Vis X.env.scope x := by first | exact Or.inl rfl | exact Or.inr (Or.inl rfl) | exact Or.inr (Or.inr rfl)) (hd : (x == ("__debug__" : Str)) = false := by decide) (hcd : (x == ("__classdict__" : Str)) = false := by decide) : WT X (.Compare a [.NotIn] [.Name x px] pos) Γ QB := by
  cases he with
  | t =>
    refine wt_cmp (op_notInT hu) pu_inT (WE.mono h ?_)
    rintro d Γ1 ⟨hi, l, rfl, lb, q⟩
    refine we_var i hi ⟨_, rfl, sh_tI lb, sh_tIs hb, _, rfl, ?_⟩ hN hv hd hcd
    rw [any_ints]
    exact q
  | l b =>
    refine wt_cmp (op_notInD hu) pu_ninV (WE.mono h ?_)
    rintro d Γ1 ⟨hi, l, rfl, lb, q⟩
    refine we_own i hi ⟨_, _, .same _, .own hi, sh_tI lb, sh_tIsL hb, _, rfl, ?_⟩ hN hv hd hcd
    rw [any_ints]
    exact q
  | vl =>
    refine wt_cmp (op_notInD hu) pu_ninV (WE.mono h ?_)
    rintro d Γ1 ⟨hi, l, rfl, lb, q⟩
    refine we_var i hi ⟨_, _, .same _, .same _, sh_tI lb, sh_tIsL hb, _, rfl, ?_⟩ hN hv hd hcd
    rw [any_ints]
    exact q
end
end Pu
/-! sorted of pairs of ints, in their order; a dict told in one go. -/
namespace Pu
open PySem PySem.Spec PyProof.Rows L2 Gd
abbrev prV (p : Addr × Int × Int) : V := .ref p.1
/-- sorted(xs), pairs of ints, any number of them -/
def rSortedPO (K : PySem.W.Frag) : List V → Hp → VK → Prop := fun vs H Q => ∃ (a : Addr) (ks : List (Addr × Int × Int)), vs = [.ref a] ∧ SqL K H a (ks.map prV) ∧ (∀ p ∈ ks, SqT K H p.1 [.int p.2.1, .int p.2.2]) ∧
  ∀ (ks' : List (Addr × Int × Int)) (p : Addr), ks'.Perm ks → ks'.Pairwise (fun a b => SrtO.lexB b.2 a.2 = false) → H p = none → Q (.ref p) (upd H p (.lst (ks'.map prV)))
def adV : V → Addr
  | .ref a => a
  | _ => 0
def kOf (ks : List (Addr × Int × Int)) (v : V) : Int × Int := match ks.find? fun p => decide (p.1 = adV v) with
  | some p => p.2
  | none => (0, 0)
section
variable {X : Cx}
theorem cr_sortedPO : CallR X (.builtin "sorted") (rSortedPO X.K) := by
  intro pins s σ H vs us Q I r h
  obtain ⟨a, ks, rfl, hs, hx, q⟩ := h
  obtain ⟨its, rv, hl, hz⟩ := I.list hs
  obtain ⟨u, rfl, ru⟩ := vals1 r
  obtain rfl : u = Value.ref a := ru
  have uq : ∀ p ∈ ks, kOf ks (prV p) = p.2 := fun p hp => by
    unfold kOf
    cases e : ks.find? fun q => decide (q.1 = adV (prV p)) with
    | none =>
      have := List.find?_eq_none.mp e p hp
      exact absurd (decide_eq_true (rfl : p.1 = p.1)) this
    | some q' =>
      have m := List.mem_of_find?_eq_some e
      have ea : q'.1 = p.1 := of_decide_eq_true (p := q'.1 = adV (prV p)) (List.find?_some (p := fun q : Addr × Int × Int => decide (q.1 = adV (prV p))) e)
      have h1 := hx q' m
      rw [ea] at h1
      have := I.tuple_inj h1 (hx p hp)
      show q'.2 = p.2
      injection this with e1 e2
      injection e2 with e2 e3
      exact Prod.ext (V.int.inj e1) (V.int.inj e2)
  obtain ⟨e1, e2⟩ := refs_back rv fun x m => by
    obtain ⟨p, _, rfl⟩ := List.mem_map.mp m
    exact ⟨p.1, rfl⟩
  have back : ∀ v ∈ its, ∃ p ∈ ks, v = Value.ref p.1 := fun v hv => by
    obtain ⟨t, rfl⟩ := e2 v hv
    have hm : V.ref t ∈ ks.map prV := by rw [e1]; exact List.mem_map.mpr ⟨_, hv, rfl⟩
    obtain ⟨p, hp, e⟩ := List.mem_map.mp hm
    cases e
    exact ⟨p, hp, rfl⟩
  refine SrtO.sorted_pairsO (k := fun v => kOf ks (backV v)) hl.isList (by rw [← rv.length]; exact hz) (fun v hv => ?_) fun h' d out hsr hb k hd hn => ?_
  · obtain ⟨p, hp, rfl⟩ := back v hv
    obtain ⟨its2, r2, tp, _⟩ := I.tuple (hx p hp)
    obtain ⟨o, ho, hc, n, hd⟩ := id tp
    obtain ⟨u1, u2, rfl, ri, rj⟩ := vals2 r2
    obtain ⟨t1, rfl⟩ := ri
    obtain ⟨t2, rfl⟩ := rj
    have := uq p hp
    show Srt.IsPair s.heap (Value.ref p.1) (kOf ks (prV p)).1 (kOf ks (prV p)).2
    rw [this]
    exact ⟨p.1, o, t1, t2, n, rfl, ho, hc, hd⟩
  · have h3 : ∀ u ∈ out, ∃ p ∈ ks, u = Value.ref p.1 := fun u hu => back u (hb.perm.mem_iff.mp hu)
    obtain ⟨n, hn⟩ := hn
    let g : Value → Addr × Int × Int := fun v => (adV (backV v), kOf ks (backV v))
    have eg : its.map g = ks := by
      have : its.map g = (its.map backV).map fun x => (adV x, kOf ks x) := by rw [List.map_map]; rfl
      rw [this, ← e1, List.map_map]
      refine (List.map_congr_left fun p hp => ?_).trans (List.map_id _)
      show (p.1, kOf ks (prV p)) = p
      rw [uq p hp]
    have eo : (out.map g).map prV = out.map backV := by
      rw [List.map_map]
      refine List.map_congr_left fun v hv => ?_
      obtain ⟨p, _, rfl⟩ := h3 v hv
      rfl
    have z := q (out.map g) d (by rw [← eg]; exact hb.perm.map g) (List.pairwise_map.mpr (hsr.imp fun h => h)) (I.hok.fresh hd)
    rw [eo] at z
    refine ⟨.ref d, upd H d (.lst (out.map backV)), I.laid (t' := s.toks) k hd ⟨?_, out, n, vals_back (fun u hu => by obtain ⟨p, _, e⟩ := h3 u hu; exact ⟨p.1, e⟩), hn⟩, rfl, z⟩
    rw [List.length_map, hb.perm.length_eq, ← rv.length]
    exact hz
end
abbrev prD (p : Int × Int) : D := tI [p.1, p.2]
section
variable {X : Cx} {e : Expr} {p pos : Pos} {Γ : List Ent} {QA : List D → List Ent → Prop}
theorem reA_pairs {K : PySem.W.Frag} {F : Hp} : ∀ {ps : List (Int × Int)} {vs : List V}, ReA K F (ps.map prD) vs → ∃ ks : List (Addr × Int × Int), vs = ks.map prV ∧ ps = ks.map (·.2) ∧ ∀ q ∈ ks, SqT K F q.1 [.int q.2.1, .int q.2.2]
  | [], _, r => by cases r; exact ⟨[], rfl, rfl, nofun⟩
  | x :: ps, _, r => by
    cases r with
    | cons h t =>
      obtain ⟨ks, rfl, rfl, hk⟩ := reA_pairs t
      cases h with
      | @tup a us _ hs ra =>
        have := ra.ints (ns := [x.1, x.2])
        subst this
        exact ⟨(a, x) :: ks, rfl, rfl, fun q hq => (List.mem_cons.mp hq).elim (fun e => by rw [e]; exact hs) (hk q)⟩
theorem pairs_reA {K : PySem.W.Frag} {F : Hp} : ∀ {ks : List (Addr × Int × Int)}, (∀ q ∈ ks, SqT K F q.1 [.int q.2.1, .int q.2.2]) → ReA K F ((ks.map (·.2)).map prD) (ks.map prV)
  | [], _ => .nil
  | q :: ks, h => .cons (.tup (h q List.mem_cons_self) (.ofInts [q.2.1, q.2.2])) (pairs_reA fun x m => h x (List.mem_cons_of_mem _ m))
theorem wn_sortedP (hm : X.mg "sorted" = none) (h : WE X e Γ fun d Γ1 => ∃ ps : List (Int × Int), Ls Γ1 d (ps.map prD) ∧ ∀ qs : List (Int × Int), qs.Perm ps → qs.Pairwise (fun a b => SrtO.lexB b a = false) → QA (qs.map prD) Γ1) (hg : Gl X "sorted" := by rfl)
    (he : starEach [e] X.env = (false, eval e X.env) :: starEach [] X.env := by rfl) (hpl : (backTo pos (starEach [] X.env)).any (·.1) = false := by rfl) : WN X (.Call (.Name "sorted" p) [e] [] pos) Γ QA :=
  wn_callB (rp := fun ds Γ Q => ∃ d, ds = [d] ∧ ∃ ps : List (Int × Int), Ls Γ d (ps.map prD) ∧ ∀ qs : List (Int × Int), qs.Perm ps → qs.Pairwise (fun a b => SrtO.lexB b a = false) → Q (qs.map prD) Γ) cr_sortedPO (pn1 (by
    rintro d Γ Q ⟨ps, ls, q⟩ σ F H v k rv Q' po
    obtain ⟨l, us, rfl, hl, rs⟩ := ls.real k rv
    obtain ⟨ks, rfl, rfl, hk⟩ := reA_pairs rs
    refine ⟨l, ks, rfl, sqL hl, fun q hq => same_seqT k.same (hk q hq), fun ks' p h1 h2 n => ?_⟩
    exact po.now k n (pairs_reA fun q hq => hk q (h1.mem_iff.mp hq)) (q (ks'.map (·.2)) (h1.map _) (List.pairwise_map.mpr h2)))) hm (wa_cons (h.mono fun d Γ1 q => wa_nil ⟨d, rfl, q⟩) he) hg (he := he) (hpl := hpl)
end
end Pu
/-! A dict told in one go, its values by their keys. -/
namespace Pu
open PySem PySem.Spec PyProof.Rows L2 Gd
def valD (ds : List (Key × D)) (k : Key) : Option D := (ds.find? fun kv => decide (kv.1 = k)).map (·.2)
section
variable {X : Cx} {Γ : List Ent} {Q : D → List Ent → Prop} {pos p1 p2 p3 : Pos} {s1 s2 s3 : Str} {t1 t2 t3 : Nat} {v1 v2 v3 o i : Expr}
theorem reK_get {K : PySem.W.Frag} {F : Hp} : ∀ {ds : List (Key × D)} {vs : List (Key × V)} {k : Key} {d : D}, ReK K F ds vs → valD ds k = some d → ∃ v, valV vs k = some v ∧ Re K F d v
  | _, _, k, d, .nil, h => by cases h
  | _, _, k, d, .cons (n := n) (d := d') (v := v') h t, e => by
    unfold valD at e
    rw [List.find?_cons] at e
    by_cases c : n = k
    · rw [decide_eq_true c] at e
      cases e
      exact ⟨v', valV_pos c, h⟩
    · rw [decide_eq_false c] at e
      obtain ⟨v, e1, r⟩ := reK_get t e
      exact ⟨v, by rw [valV_neg (p := (n, v')) c]; exact e1, r⟩
/-- {"a": x, "b": y, "c": z} -/
theorem we_dict3 (h : WE X v1 Γ fun d1 Γ1 => WE X v2 Γ1 fun d2 Γ2 => WE X v3 Γ2 fun d3 Γ3 => Q (.dk [(.inr s1, d1), (.inr s2, d2), (.inr s3, d3)]) Γ3) (n12 : s1 ≠ s2 := by decide +kernel) (n13 : s1 ≠ s3 := by decide +kernel) (n23 : s2 ≠ s3 := by decide +kernel) :
    WE X (.Dict [some (.Constant (.str s1) t1 p1), some (.Constant (.str s2) t2 p2), some (.Constant (.str s3) t3 p3)] [v1, v2, v3] pos) Γ Q := fun σ F H k Q' po => by
  refine sE_of (pe_disp (pps_cons pe_str pe_s (pps_cons pe_str pe_s (pps_cons pe_str pe_s pps_nil))) rfl rfl nofun (show 3 ≤ 15 by decide)) ?_
  intro p np
  have k0 : Ok X.K F (upd H p (.dK [])) σ Γ := k.own np
  refine h σ F _ k0 _ fun d1 Γ1 u1 F1 H1 q1 st1 k1 r1 => ?_
  refine q1 σ F1 H1 k1 _ fun d2 Γ2 u2 F2 H2 q2 st2 k2 r2 => ?_
  refine q2 σ F2 H2 k2 _ fun d3 Γ3 u3 F3 H3 q3 st3 k3 r3 => ?_
  have st := (st1.trans st2).trans st3
  have np0 : upd H p (.dK []) p ≠ none := by rw [upd_same]; exact nofun
  have pm : p ∉ foots Γ := fun m => (k.has m).2 np
  have hp3 : H3 p = some (.dK []) := st.kh p _ pm upd_same
  have fp : F p = none := k.same.free np
  have fp3 : F3 p = none := st.fr p pm np0 fp
  have pm3 : p ∉ foots Γ3 := fun m => (st.ow p m).elim pm np0
  refine ⟨hp3, [(.inr s1, u1), (.inr s2, u2), (.inr s3, u3)], rfl, (show 3 ≤ 15 by decide), ?_⟩
  have em : mergeK [] [((.inr s1 : Key), u1), (.inr s2, u2), (.inr s3, u3)] = [(.inr s1, u1), (.inr s2, u2), (.inr s3, u3)] := by
    have e12 : ((.inr s1 : Key) = .inr s2) ↔ False := ⟨fun z => n12 (Sum.inr.inj z), False.elim⟩
    have e13 : ((.inr s1 : Key) = .inr s3) ↔ False := ⟨fun z => n13 (Sum.inr.inj z), False.elim⟩
    have e23 : ((.inr s2 : Key) = .inr s3) ↔ False := ⟨fun z => n23 (Sum.inr.inj z), False.elim⟩
    simp [mergeK, putK, n12, n13, n23]
  rw [em]
  have sm : Same F3 (upd F3 p (.dK [(.inr s1, u1), (.inr s2, u2), (.inr s3, u3)])) := same_new fp3
  have sm2 : Same (upd F3 p (.dK [(.inr s1, u1), (.inr s2, u2), (.inr s3, u3)])) (upd H3 p (.dK [(.inr s1, u1), (.inr s2, u2), (.inr s3, u3)])) := fun b o e => by
    by_cases c : b = p
    · subst c
      rw [upd_same] at e ⊢
      exact e
    · rw [upd_ne c] at e ⊢
      exact k3.same _ _ e
  have kn : Ok X.K (upd F3 p (.dK [(.inr s1, u1), (.inr s2, u2), (.inr s3, u3)])) (upd H3 p (.dK [(.inr s1, u1), (.inr s2, u2), (.inr s3, u3)])) σ Γ3 := k3.keep sm sm2 fun b m => by
    have c : b ≠ p := fun z => pm3 (z ▸ m)
    rw [upd_ne c, upd_ne c]
    exact ⟨(k3.has m).1, fun _ e => e⟩
  have stn : Step F H (foots Γ) (upd F3 p (.dK [(.inr s1, u1), (.inr s2, u2), (.inr s3, u3)])) (upd H3 p (.dK [(.inr s1, u1), (.inr s2, u2), (.inr s3, u3)])) (foots Γ3) := by
    refine ⟨st.sf.trans sm, fun b x n e => ?_, fun b e => ?_, fun b n e f => ?_, fun b m => ?_⟩
    · have c : b ≠ p := fun z => by rw [z, np] at e; cases e
      rw [upd_ne c]
      exact st.kh b x n ((upd_ne c).trans e)
    · by_cases c : b = p
      · rw [c, upd_same]; exact nofun
      · rw [upd_ne c]
        exact st.ne b (by rw [upd_ne c]; exact e)
    · have c : b ≠ p := fun z => e (by rw [z]; exact np)
      rw [upd_ne c]
      exact st.fr b n (by rw [upd_ne c]; exact e) f
    · rcases st.ow b m with z | z
      · exact .inl z
      · have c : b ≠ p := fun y => pm3 (y ▸ m)
        rw [upd_ne c] at z
        exact .inr z
  exact po _ Γ3 _ _ _ q3 stn kn (.dk upd_same (.cons ((r1.same (st2.trans st3).sf).same sm) (.cons ((r2.same st3.sf).same sm) (.cons (r3.same sm) .nil))))
theorem we_dget (hu : X.A.units + 1 < cLine) (h : WE X o Γ fun d1 Γ1 => WE X i Γ1 fun d2 Γ2 => ∃ kvs z d, d1 = .dk kvs ∧ d2 = .str z ∧ valD kvs (.inr z) = some d ∧ Q d Γ2) (hs : NoSl i) : WE X (.Subscript o i pos) Γ Q := fun σ F H k Q' po => by
  refine sE_of (pe_dget hu pe_s pe_s hs) (h σ F H k _ fun d1 Γ1 u1 F1 H1 q1 st1 k1 r1 => ?_)
  refine q1 σ F1 H1 k1 _ fun d2 Γ2 u2 F2 H2 q2 st2 k2 r2 => ?_
  obtain ⟨kvs, z, d, rfl, rfl, hl, q⟩ := q2
  cases r2
  cases r1 with
  | dk ha ra =>
    obtain ⟨v, hv, rv⟩ := reK_get ra hl
    refine ⟨_, v, rfl, .inl ⟨_, .inr z, .inl (k2.same _ _ (st2.sf _ _ ha)), rfl, hv.symm⟩, ?_⟩
    exact (po.step (st1.trans st2)).now k2 (rv.same st2.sf) q
end
end Pu
/-! Crossings and striking, the mathematics. -/
namespace Pu
open PySem PySem.Spec PyProof.Rows L2 Gd
theorem mem_tk {ts : List (Str × List Int)} {k r : Int} : r ∈ tkF ts [k] ↔ (0 ≤ r ∧ r < (ts.length : Int)) ∧ k ∈ lotT ts r := by
  rw [tk1, List.mem_filter, mem_numsN, decide_eq_true_eq]
theorem mem_both {ts : List (Str × List Int)} {a b r : Int} : r ∈ bothF ts a b ↔ r ∈ tkF ts [a] ∧ r ∈ tkF ts [b] := by
  unfold bothF
  rw [List.mem_filter, decide_eq_true_eq]
theorem mem_only {ts : List (Str × List Int)} {a b r : Int} : r ∈ onlyF ts a b ↔ r ∈ tkF ts [a] ∧ r ∉ tkF ts [b] := by
  unfold onlyF
  rw [List.mem_filter, Bool.not_eq_true', decide_eq_false_iff_not]
theorem mem_cr1 {ts : List (Str × List Int)} {n : Nat} {c : List Int} : c ∈ cr1 ts n n ↔ ∃ (i j : Nat) (r m y : Int), i < j ∧ j < n ∧ r ∈ bothF ts i j ∧ m ∈ onlyF ts i j ∧ y ∈ onlyF ts j i ∧ c = [(i : Int), (j : Int), r, m, y] := by
  unfold cr1 cr2 cr3 cr4
  constructor
  · intro h
    obtain ⟨i, hi, h⟩ := List.mem_flatMap.mp h
    obtain ⟨t, ht, h⟩ := List.mem_flatMap.mp h
    obtain ⟨r, hr, h⟩ := List.mem_flatMap.mp h
    rw [List.mem_range] at hi ht hr
    by_cases hb : bothQ ts (i : Int) ((i + 1 + t : Nat) : Int) (r : Int) = true
    · rw [if_pos hb] at h
      obtain ⟨m, hm, h⟩ := List.mem_flatMap.mp h
      obtain ⟨y, hy, rfl⟩ := List.mem_map.mp h
      unfold bothQ at hb
      rw [Bool.and_eq_true, decide_eq_true_eq, decide_eq_true_eq] at hb
      exact ⟨i, i + 1 + t, r, m, y, by omega, by omega, mem_both.mpr hb, hm, hy, rfl⟩
    · rw [if_neg hb] at h
      cases h
  · rintro ⟨i, j, r, m, y, h1, h2, hr, hm, hy, rfl⟩
    obtain ⟨t, rfl⟩ : ∃ t, j = i + 1 + t := ⟨j - (i + 1), by omega⟩
    obtain ⟨hr1, hr2⟩ := mem_both.mp hr
    obtain ⟨⟨r0, r1⟩, _⟩ := mem_tk.mp hr1
    obtain ⟨rn, rfl⟩ := Int.eq_ofNat_of_zero_le r0
    refine List.mem_flatMap.mpr ⟨i, List.mem_range.mpr (by omega), List.mem_flatMap.mpr ⟨t, List.mem_range.mpr (by omega), List.mem_flatMap.mpr ⟨rn, List.mem_range.mpr (by omega), ?_⟩⟩⟩
    have hb : bothQ ts (i : Int) ((i + 1 + t : Nat) : Int) (rn : Int) = true := by
      unfold bothQ
      rw [Bool.and_eq_true, decide_eq_true_eq, decide_eq_true_eq]
      exact ⟨hr1, hr2⟩
    rw [if_pos hb]
    exact List.mem_flatMap.mpr ⟨m, hm, List.mem_map.mpr ⟨y, hy, rfl⟩⟩
theorem emp_iff {α : Type} {l : List α} : l.isEmpty = true ↔ ∀ x, x ∉ l := by
  rw [List.isEmpty_iff]
  exact List.eq_nil_iff_forall_not_mem
theorem nemp_iff {α : Type} {l : List α} : (!l.isEmpty) = true ↔ ∃ x, x ∈ l := by
  cases l with
  | nil => exact ⟨nofun, fun ⟨_, h⟩ => nomatch h⟩
  | cons a r => exact ⟨fun _ => ⟨a, List.mem_cons_self⟩, fun _ => rfl⟩
theorem crossB_iff {ts : List (Str × List Int)} {a b : Int} : crossB ts a b = true ↔ (∃ r, r ∈ bothF ts a b) ∧ (∃ m, m ∈ onlyF ts a b) ∧ ∃ y, y ∈ onlyF ts b a := by
  unfold crossB
  rw [Bool.and_eq_true, Bool.and_eq_true, nemp_iff, nemp_iff, nemp_iff]
/-- no crossing told, no two kinds that cross -/
theorem cr_pairs (ts : List (Str × List Int)) (n : Nat) : (cr1 ts n n).isEmpty = (pairsP (crossB ts) n n).isEmpty := by
  rw [Bool.eq_iff_iff, emp_iff, emp_iff]
  constructor
  · intro h l hl
    obtain ⟨i, j, h1, h2, hc, rfl⟩ := mem_pairsP.mp hl
    obtain ⟨⟨r, hr⟩, ⟨m, hm⟩, ⟨y, hy⟩⟩ := crossB_iff.mp hc
    exact h _ (mem_cr1.mpr ⟨i, j, r, m, y, h1, h2, hr, hm, hy, rfl⟩)
  · intro h c hc
    obtain ⟨i, j, r, m, y, h1, h2, hr, hm, hy, rfl⟩ := mem_cr1.mp hc
    exact h _ (mem_pairsP.mpr ⟨i, j, h1, h2, crossB_iff.mpr ⟨⟨r, hr⟩, ⟨m, hm⟩, ⟨y, hy⟩⟩, rfl⟩)
/-- what a struck table accepts -/
theorem lot_struck {w : Way} {its : List (List Int)} {ts : List (Str × List Int)} {r k : Int} (h0 : 0 ≤ r) (h1 : r < (ts.length : Int)) : k ∈ lotT (struckF w its ts) r ↔ k ∈ lotT ts r ∧ keyW w r k ∉ its := by
  obtain ⟨i, rfl⟩ := Int.eq_ofNat_of_zero_le h0
  have hi : i < ts.length := by omega
  have e : (struckF w its ts)[i]? = some (strT w its ts i) := by
    unfold struckF struckN
    rw [List.getElem?_map, List.getElem?_range hi]
    rfl
  rw [lotT_at e]
  unfold strT isStr
  rw [List.mem_filter, Bool.not_eq_true', decide_eq_false_iff_not]
theorem tk_struck {w : Way} {its : List (List Int)} {ts : List (Str × List Int)} {r k : Int} : r ∈ tkF (struckF w its ts) [k] ↔ r ∈ tkF ts [k] ∧ keyW w r k ∉ its := by
  rw [mem_tk, mem_tk, struckF_len]
  constructor
  · rintro ⟨h, m⟩
    obtain ⟨a, b⟩ := (lot_struck h.1 h.2).mp m
    exact ⟨⟨h, a⟩, b⟩
  · rintro ⟨⟨h, a⟩, b⟩
    exact ⟨h, (lot_struck h.1 h.2).mpr ⟨a, b⟩⟩
/-- what can be struck of a crossing -/
def pksW : Way → List Int → List (List Int)
  | .kinds, c => [[c.getD 0 0], [c.getD 1 0]]
  | .types, c => [[c.getD 2 0], [c.getD 3 0], [c.getD 4 0]]
  | .acc, c => [[c.getD 2 0, c.getD 0 0], [c.getD 2 0, c.getD 1 0], [c.getD 3 0, c.getD 0 0], [c.getD 4 0, c.getD 1 0]]
theorem key_item {w : Way} {kk : Nat} {ts : List (Str × List Int)} (lo : ∀ p ∈ ts, LotOk kk p.2) {r k : Int} (h : r ∈ tkF ts [k]) : keyW w r k ∈ itemsF w kk ts := by
  obtain ⟨⟨r0, r1⟩, hk⟩ := mem_tk.mp h
  obtain ⟨i, rfl⟩ := Int.eq_ofNat_of_zero_le r0
  have b := (lotT_in lo i).2 k hk
  cases w with
  | kinds => exact List.mem_map.mpr ⟨k, mem_numsN.mpr b, rfl⟩
  | types => exact List.mem_map.mpr ⟨(i : Int), mem_numsN.mpr ⟨by omega, r1⟩, rfl⟩
  | acc => exact mem_accF.mpr ⟨i, k, by omega, hk, rfl⟩
theorem pks_key {w : Way} {ts : List (Str × List Int)} {n : Nat} {c l : List Int} (h : c ∈ cr1 ts n n) (hl : l ∈ pksW w c) : ∃ r k, r ∈ tkF ts [k] ∧ l = keyW w r k := by
  obtain ⟨i, j, r, m, y, h1, h2, hr, hm, hy, rfl⟩ := mem_cr1.mp h
  obtain ⟨hr1, hr2⟩ := mem_both.mp hr
  have hm1 := (mem_only.mp hm).1
  have hy1 := (mem_only.mp hy).1
  cases w with
  | kinds =>
    rcases List.mem_cons.mp hl with rfl | hl
    · exact ⟨r, i, hr1, rfl⟩
    · rw [List.mem_singleton] at hl
      exact ⟨r, j, hr2, hl⟩
  | types =>
    rcases List.mem_cons.mp hl with rfl | hl
    · exact ⟨r, i, hr1, rfl⟩
    rcases List.mem_cons.mp hl with rfl | hl
    · exact ⟨m, i, hm1, rfl⟩
    · rw [List.mem_singleton] at hl
      exact ⟨y, j, hy1, hl⟩
  | acc =>
    rcases List.mem_cons.mp hl with rfl | hl
    · exact ⟨r, i, hr1, rfl⟩
    rcases List.mem_cons.mp hl with rfl | hl
    · exact ⟨r, j, hr2, rfl⟩
    rcases List.mem_cons.mp hl with rfl | hl
    · exact ⟨m, i, hm1, rfl⟩
    · rw [List.mem_singleton] at hl
      exact ⟨y, j, hy1, hl⟩
/-- an item of a crossing that is left is not struck, and can be -/
theorem pks_new {w : Way} {kk : Nat} {its : List (List Int)} {ts : List (Str × List Int)} (lo : ∀ p ∈ ts, LotOk kk p.2) {c l : List Int} (h : c ∈ cr1 (struckF w its ts) kk kk) (hl : l ∈ pksW w c) : l ∉ its ∧ l ∈ itemsF w kk ts := by
  obtain ⟨r, k, hr, rfl⟩ := pks_key h hl
  obtain ⟨h1, h2⟩ := tk_struck.mp hr
  exact ⟨h2, key_item lo h1⟩
/-- all struck, no crossing -/
theorem all_struck {w : Way} {kk : Nat} {its : List (List Int)} {ts : List (Str × List Int)} (lo : ∀ p ∈ ts, LotOk kk p.2) (h : ∀ l ∈ itemsF w kk ts, l ∈ its) : cr1 (struckF w its ts) kk kk = [] := by
  refine List.eq_nil_iff_forall_not_mem.mpr fun c hc => ?_
  obtain ⟨i, j, r, m, y, h1, h2, hr, hm, hy, rfl⟩ := mem_cr1.mp hc
  obtain ⟨h3, h4⟩ := tk_struck.mp (mem_both.mp hr).1
  exact h4 (h _ (key_item lo h3))
/-- more kinds, or more types, struck: no crossing comes about -/
theorem more_struck {w : Way} (hw : w ≠ .acc) {kk : Nat} {its more : List (List Int)} {ts : List (Str × List Int)} (h : cr1 (struckF w its ts) kk kk = []) (hs : ∀ l ∈ its, l ∈ more) : cr1 (struckF w more ts) kk kk = [] := by
  refine List.eq_nil_iff_forall_not_mem.mpr fun c hc => ?_
  obtain ⟨i, j, r, m, y, h1, h2, hr, hm, hy, rfl⟩ := mem_cr1.mp hc
  obtain ⟨hr1, hr2⟩ := mem_both.mp hr
  obtain ⟨hm1, hm2⟩ := mem_only.mp hm
  obtain ⟨hy1, hy2⟩ := mem_only.mp hy
  obtain ⟨a1, b1⟩ := tk_struck.mp hr1
  obtain ⟨a2, b2⟩ := tk_struck.mp hr2
  obtain ⟨a3, b3⟩ := tk_struck.mp hm1
  obtain ⟨a4, b4⟩ := tk_struck.mp hy1
  have up : ∀ {r k : Int}, r ∈ tkF ts [k] → keyW w r k ∉ more → r ∈ tkF (struckF w its ts) [k] := fun h1 h2 => tk_struck.mpr ⟨h1, fun z => h2 (hs _ z)⟩
  have dn : ∀ {r k k' : Int}, r ∉ tkF (struckF w more ts) [k] → keyW w r k' ∉ more → (w = .kinds → keyW w r k ∉ more) → r ∉ tkF (struckF w its ts) [k] := fun {r k k'} h1 h2 h3 z => by
    obtain ⟨z1, z2⟩ := tk_struck.mp z
    refine h1 (tk_struck.mpr ⟨z1, ?_⟩)
    cases w with
    | kinds => exact h3 rfl
    | types => exact h2
    | acc => exact absurd rfl hw
  have e : [(i : Int), (j : Int), r, m, y] ∈ cr1 (struckF w its ts) kk kk := mem_cr1.mpr ⟨i, j, r, m, y, h1, h2, mem_both.mpr ⟨up a1 b1, up a2 b2⟩, mem_only.mpr ⟨up a3 b3, dn hm2 b3 fun e => by subst e; exact b2⟩, mem_only.mpr ⟨up a4 b4, dn hy2 b4 fun e => by subst e; exact b1⟩, rfl⟩
  rw [h] at e
  cases e
theorem nodup_le {l m : List (List Int)} (hn : l.Nodup) (h : ∀ x ∈ l, x ∈ m) : l.length ≤ m.length := by
  induction l generalizing m with
  | nil => exact Nat.zero_le _
  | cons x r ih =>
    obtain ⟨h1, h2⟩ := List.nodup_cons.mp hn
    have hx := h x List.mem_cons_self
    have := ih (m := m.erase x) h2 fun y hy => (List.mem_erase_of_ne (a := y) (b := x) fun e => h1 (by rw [← e]; exact hy)).mpr (h y (List.mem_cons_of_mem _ hy))
    rw [List.length_erase_of_mem hx] at this
    have : 0 < m.length := List.length_pos_of_mem hx
    rw [List.length_cons]
    omega
/-- as many as can be are all -/
theorem nodup_all {l m : List (List Int)} (hn : l.Nodup) (h : ∀ x ∈ l, x ∈ m) (hl : m.length ≤ l.length) : ∀ x ∈ m, x ∈ l := fun x hx => by
  by_cases c : x ∈ l
  · exact c
  · have := nodup_le (l := x :: l) (m := m) (List.nodup_cons.mpr ⟨c, hn⟩) fun y hy => (List.mem_cons.mp hy).elim (fun e => e ▸ hx) (h y)
    rw [List.length_cons] at this
    omega
end Pu
/-! Lots of items, ascending. -/
namespace Pu
open PySem PySem.Spec PyProof.Rows L2 Gd
def ascD (w : Way) (l : List D) : Bool := match w with
  | .acc => ascT (l.map toL)
  | _ => ascB (l.map toI)
/-- items, each of them one, ascending -/
structure Lot (w : Way) (ks : List Str) (ts : List (Str × List Int)) (its : List (List Int)) : Prop where
  mem : ∀ l ∈ its, l ∈ itemsF w ks.length ts
  asc : ascD w (its.map (itE w)) = true
  len : its.length ≤ 1000
theorem struck_congr {w : Way} {its its' : List (List Int)} {ts : List (Str × List Int)} (h : ∀ l, l ∈ its' ↔ l ∈ its) : struckF w its' ts = struckF w its ts := by
  unfold struckF struckN strT isStr
  refine List.map_congr_left fun i _ => ?_
  congr 1
  exact List.filter_congr fun k _ => by rw [decide_eq_decide.mpr (h _)]
theorem asc_of_sorted {ms : List Int} (h : ms.Pairwise (· ≤ ·)) (n : ms.Nodup) : ascB ms = true := by
  rw [ascB_iff]
  exact (List.Pairwise.and h n).imp fun {a b} ⟨h1, h2⟩ => Int.lt_iff_le_and_ne.mpr ⟨h1, h2⟩
theorem asc_ltB {ms : List Int} (h : ms.Pairwise (· < ·)) : ascB ms = true := ascB_iff.mpr h
theorem lex_two {a b c d : Int} : HT.lexLt [a, b] [c, d] = SrtO.lexB (a, b) (c, d) := by
  unfold SrtO.lexB
  simp only [HT.lexLt]
  by_cases e : a = c
  · subst e
    simp
    by_cases e2 : b = d
    · simp [e2]
    · simp [e2]
  · simp [e]
theorem ascT_pairs : ∀ {qs : List (Int × Int)}, qs.Pairwise (fun a b => SrtO.lexB b a = false) → qs.Nodup → ascT (qs.map fun p => [p.1, p.2]) = true
  | [], _, _ => rfl
  | [_], _, _ => rfl
  | x :: y :: r, h, n => by
    obtain ⟨h1, h2⟩ := List.pairwise_cons.mp h
    obtain ⟨n1, n2⟩ := List.nodup_cons.mp n
    have z := ascT_pairs h2 n2
    show (HT.lexLt [x.1, x.2] [y.1, y.2] && ascT ((y :: r).map fun p => [p.1, p.2])) = true
    rw [z, Bool.and_true, lex_two]
    have hy := h1 y List.mem_cons_self
    have ne : x ≠ y := fun e => n1 (e ▸ List.mem_cons_self)
    have a := SrtO.lexB_no.mp hy
    refine SrtO.lexB_iff.mpr ?_
    have : x.1 ≠ y.1 ∨ x.2 ≠ y.2 := by
      by_cases c : x.1 = y.1
      · exact .inr fun c2 => ne (Prod.ext c c2)
      · exact .inl c
    show x.1 < y.1 ∨ (x.1 = y.1 ∧ x.2 < y.2)
    omega
/-- one-number items told by their numbers -/
theorem ints_back {w : Way} {kk : Nat} {ts : List (Str × List Int)} (hw : w ≠ .acc) {its : List (List Int)} (h : ∀ l ∈ its, l ∈ itemsF w kk ts) : its = (its.map fun l => l.getD 0 0).map ([·]) := by
  rw [List.map_map]
  refine ((List.map_congr_left fun l hl => ?_).trans (List.map_id _)).symm
  have := h l hl
  cases w with
  | acc => exact absurd rfl hw
  | kinds => obtain ⟨x, _, rfl⟩ := List.mem_map.mp this; rfl
  | types => obtain ⟨x, _, rfl⟩ := List.mem_map.mp this; rfl
theorem pairs_back {kk : Nat} {ts : List (Str × List Int)} {its : List (List Int)} (h : ∀ l ∈ its, l ∈ itemsF .acc kk ts) : its = (its.map fun l => (l.getD 0 0, l.getD 1 0)).map fun p => [p.1, p.2] := by
  rw [List.map_map]
  refine ((List.map_congr_left fun l hl => ?_).trans (List.map_id _)).symm
  obtain ⟨i, k, _, _, rfl⟩ := mem_accF.mp (h l hl)
  rfl
theorem itE_ints {w : Way} (hw : w ≠ .acc) (ms : List Int) : (ms.map ([·])).map (itE w) = ms.map .int := by
  rw [List.map_map]
  refine List.map_congr_left fun x _ => ?_
  cases w with
  | acc => exact absurd rfl hw
  | _ => rfl
theorem lot_ints {w : Way} (hw : w ≠ .acc) {ks : List Str} {ts : List (Str × List Int)} {ms : List Int} (h : ∀ x ∈ ms, [x] ∈ itemsF w ks.length ts) (asc : ascB ms = true) (hl : ms.length ≤ 1000) : Lot w ks ts (ms.map ([·])) := by
  refine ⟨fun l m => ?_, ?_, by rw [List.length_map]; exact hl⟩
  · obtain ⟨x, hx, rfl⟩ := List.mem_map.mp m
    exact h x hx
  · rw [itE_ints hw]
    have e : (ms.map D.int).map toI = ms := by
      rw [List.map_map]
      exact List.map_id _
    cases w with
    | acc => exact absurd rfl hw
    | _ => show ascB _ = true; rw [e]; exact asc
theorem lot_pairs {ks : List Str} {ts : List (Str × List Int)} {qs : List (Int × Int)} (h : ∀ p ∈ qs, [p.1, p.2] ∈ itemsF .acc ks.length ts) (asc : ascT (qs.map fun p => [p.1, p.2]) = true) (hl : qs.length ≤ 1000) : Lot .acc ks ts (qs.map fun p => [p.1, p.2]) := by
  refine ⟨fun l m => ?_, ?_, by rw [List.length_map]; exact hl⟩
  · obtain ⟨x, hx, rfl⟩ := List.mem_map.mp m
    exact h x hx
  · show ascT (((qs.map fun p => [p.1, p.2]).map tI).map toL) = true
    have e : ((qs.map fun p => [p.1, p.2]).map tI).map toL = qs.map fun p => [p.1, p.2] := by
      rw [List.map_map]
      refine (List.map_congr_left fun l hl => ?_).trans (List.map_id _)
      show (l.map D.int).map toI = l
      rw [List.map_map]
      exact List.map_id _
    rw [e]
    exact asc
theorem cr1_bd {ts : List (Str × List Int)} {n : Nat} (h8 : n ≤ 8) (t12 : ts.length ≤ 12) {c : List Int} (h : c ∈ cr1 ts n n) : ∀ x ∈ c, 0 ≤ x ∧ x < 100 := by
  obtain ⟨i, j, r, m, y, h1, h2, hr, hm, hy, rfl⟩ := mem_cr1.mp h
  obtain ⟨⟨a, b⟩, _⟩ := mem_tk.mp (mem_both.mp hr).1
  obtain ⟨⟨a2, b2⟩, _⟩ := mem_tk.mp (mem_only.mp hm).1
  obtain ⟨⟨a3, b3⟩, _⟩ := mem_tk.mp (mem_only.mp hy).1
  intro x hx
  simp only [List.mem_cons, List.not_mem_nil, or_false] at hx
  omega
theorem sh_crs {cs : List (List Int)} (h : ∀ c ∈ cs, ∀ x ∈ c, 0 ≤ x ∧ x < 100) : Sh (.lst (cs.map crE)) := by
  have sub : ∀ {c : List Int}, (∀ x ∈ c, 0 ≤ x ∧ x < 100) → Sh (tI (c.take 2)) ∧ Sh (tI (c.drop 2)) := fun {c} hc => ⟨sh_tI fun x m => hc x (List.mem_of_mem_take m), sh_tI fun x m => hc x (List.mem_of_mem_drop m)⟩
  refine ⟨?_, ?_, ?_⟩
  · rw [isP]
    exact isPA_mem fun d hd => by
      obtain ⟨x, _, rfl⟩ := List.mem_map.mp hd
      show isP (.tup [_, _]) = true
      rw [isP]
      exact isPA_mem fun d hd => by
        simp only [List.mem_cons, List.not_mem_nil, or_false] at hd
        rcases hd with rfl | rfl <;> exact isP_tI _
  · rw [py, fine, pyA_map]
    exact fineAll_mem fun d hd => by
      obtain ⟨e, he, rfl⟩ := List.mem_map.mp hd
      obtain ⟨c, hc, rfl⟩ := List.mem_map.mp he
      obtain ⟨s1, s2⟩ := sub (h c hc)
      show fine (py (.tup [_, _])) = true
      rw [py, fine]
      exact fineAll_mem fun d hd => by
        simp only [pyA, List.mem_cons, List.not_mem_nil, or_false] at hd
        rcases hd with rfl | rfl
        · exact s1.f
        · exact s2.f
  · rw [py, pyA_map, PyData.depth]
    have : PyData.depthAll ((cs.map crE).map py) ≤ 4 := depthAll_mem fun d hd => by
      obtain ⟨e, he, rfl⟩ := List.mem_map.mp hd
      obtain ⟨c, hc, rfl⟩ := List.mem_map.mp he
      have e : ∀ l : List Int, PyData.depthAll (l.map .int) ≤ 1 := fun l => depthAll_mem fun d hd => by
        obtain ⟨x, _, rfl⟩ := List.mem_map.mp hd
        simp [PyData.depth]
      have e1 := e (c.take 2)
      have e2 := e (c.drop 2)
      show (py (.tup [tI (c.take 2), tI (c.drop 2)])).depth ≤ 4
      rw [py, pyA, pyA, pyA, py_tI, py_tI]
      simp only [PyData.depth, PyData.depthAll]
      omega
    omega
end Pu
/-! t[::-1] of a tuple; {}. -/
namespace Pu
open PySem PySem.Spec PyProof.Rows L2 Gd HT
section
variable {prog : Program} {w : World} {A : Around} {E : Value → Shared → Prop} {s : Shared}
theorem adjust_rev (n : Nat) : Builtin.Slice.sliceAdjust none none (-1) (n : Int) = ((n : Int) - 1, -1) := by
  simp [Builtin.Slice.sliceAdjust]
theorem places_rev (n : Nat) : Builtin.Slice.slicePlaces ((n : Int) - 1) (-1) (-1) = n := by
  simp [Builtin.Slice.slicePlaces]
  split <;> omega
theorem pick_rev (xs : Array Value) : ((List.range xs.size).filterMap fun (m : Nat) => xs[(((xs.size : Int) - 1) + (m : Int) * (-1)).toNat]?).toArray = xs.toList.reverse.toArray := by
  have e : (fun (m : Nat) => xs[(((xs.size : Int) - 1) + (m : Int) * (-1)).toNat]?) = (fun i : Nat => xs[i]?) ∘ fun k => xs.size - 1 - k := by
    funext m
    show xs[(((xs.size : Int) - 1) + (m : Int) * (-1)).toNat]? = xs[xs.size - 1 - m]?
    rw [show (((xs.size : Int) - 1) + (m : Int) * (-1)).toNat = xs.size - 1 - m by omega]
  rw [e, ← List.filterMap_map, PySem.W.krv_range, List.filterMap_reverse, PySem.W.krv_all]
theorem getItem_tuple_rev {t sl : Addr} {items : Array Value} {vl vu vs : Value} {Q : Value → Shared → Prop} (ht : IsTup s.heap t items) (hs : s.heap.IsSliceOf sl vl vu vs) (pl : IsPart vl none) (pu : IsPart vu none) (ps : IsPart vs (some (-1)))
    (h : Q (.ref s.heap.objs.size) { s with heap := s.heap.push { cls := .type "tuple", data := .seq items.toList.reverse.toArray } })
    (hsz : items.size ≤ sizeLine) : wpAny (model prog w) A (getItem (.ref t) (.ref sl)) Q E s := by
  have htake : sizeOk (.seq items.toList.reverse.toArray) := by
    show items.toList.reverse.toArray.size ≤ sizeLine
    rw [List.size_toArray, List.length_reverse, Array.length_toList]
    exact hsz
  obtain ⟨os, hos, hcs, hds⟩ := id hs
  have hTs : s.TypeIs (.ref sl) "slice" := ⟨os, hos, hcs⟩
  unfold getItem
  try with_reducible refine wpAny_holding ?_
  first | refine wpAny_bind (wpAny_pure ?_) | skip
  refine wpAny_bind (wpAny_sequenceKey ht.typeIs (by decide) ?_)
  refine wpAny_bind (wpAny_callSpecial?_slot (name := Str.ofString "__getitem__") ht.typeIs PyProof.Rows.slot_tuple_getitem
    (wpAny_call_entry PyProof.Rows.slot_tuple_getitem ht.typeIs entry_tuple_getitem ?_ (args_tuple_getitem _ _)))
  show wpAny _ _ (Builtin.Tuple.tupleItemsOf (.ref t) >>= _) _ _ s
  refine wpAny_bind (tupleItemsOf_ ht ?_)
  refine wpAny_bind (wpAny_typeOf hTs ?_)
  rw [if_pos (by decide)]
  refine wpAny_bind (m := Builtin.Slice.sliceApplied (.ref sl) (pure (items.size : Int))) ?_
  · unfold Builtin.Slice.sliceApplied Builtin.Slice.sliceFields
    refine wpAny_bind (wpAny_bind (wpAny_field hos hds (x := vl) rfl (wpAny_bind (wpAny_field hos hds (x := vu) rfl (wpAny_bind (wpAny_field hos hds (x := vs) rfl (wpAny_pure ?_)))))))
    refine wpAny_bind (slicePart_ ps ?_)
    show wpAny _ _ (if ((-1 : Int) == 0) = true then _ else _) _ _ s
    rw [if_neg (by decide)]
    refine wpAny_bind (slicePart_ pl (wpAny_bind (slicePart_ pu (wpAny_bind (wpAny_pure ?_)))))
    show wpAny _ _ (match Builtin.Slice.sliceAdjust none none (-1) (items.size : Int) with | (lo, hi) => pure (lo, (-1 : Int), Builtin.Slice.slicePlaces lo hi (-1))) _ _ s
    rw [adjust_rev]
    show wpAny _ _ (pure ((items.size : Int) - 1, (-1 : Int), Builtin.Slice.slicePlaces ((items.size : Int) - 1) (-1) (-1))) _ _ s
    rw [places_rev]
    refine wpAny_pure ?_
    show wpAny _ _ (if (((items.size : Int) - 1 == 0) && (-1 : Int) == 1 && items.size == items.size) = true then _ else _) _ _ s
    rw [if_neg (by rw [show ((-1 : Int) == 1) = false from rfl, Bool.and_false, Bool.false_and]; exact Bool.false_ne_true), pick_rev]
    first
      | exact wpAny_bind (m := Builtin.Tuple.tupleExact _) (wpAny_newObj_type (wpAny_pure ⟨_, rfl, wpAny_pure h⟩) htake)
      | exact wpAny_bind (m := Builtin.Tuple.tupleExact _) (wpAny_newObj_type (wpAny_bind (wpAny_pure (wpAny_pure ⟨_, rfl, wpAny_pure h⟩))) htake)
      | exact wpAny_bind (wpAny_bind (m := Builtin.Tuple.tupleExact _) (wpAny_newObj_type (wpAny_pure (wpAny_pure ⟨_, rfl, wpAny_pure h⟩)) htake))
      | exact wpAny_bind (wpAny_bind (m := Builtin.Tuple.tupleExact _) (wpAny_newObj_type (wpAny_pure ⟨_, rfl, wpAny_pure h⟩) htake))
end
section
variable {X : Cx} {e : Expr} {p1 p2 p3 pos : Pos} {Γ : List Ent} {Q : D → List Ent → Prop} {k : Nat}
/-- the tuple the other way round -/
def tRevT (K : PySem.W.Frag) (te : TE) : TE := fun σ H Q => te σ H fun v H1 => ∃ (a : Addr) (xs : List V), v = .ref a ∧ SqT K H1 a xs ∧ ∀ q, H1 q = none → Q (.ref q) (upd H1 q (.tup xs.reverse))
theorem pe_revT {te : TE} (he : PE X e te) : PE X (.Subscript e (.Slice none none (some (.UnaryOp .USub (.Constant (.int 1) k p1) p2)) p3) pos) (tRevT X.K te) := by
  refine ⟨fun pins s σ H Q I h => ?_⟩
  refine Subscript_ (thn (he.run pins s σ H _ I h) fun v s1 ⟨x, H1, I1, r1, q1⟩ => ?_)
  obtain ⟨a, xs, ex, hx, q⟩ := q1
  subst ex
  cases r1
  have hst : PO X (some (.UnaryOp .USub (.Constant (.int 1) k p1) p2)) (tPart (tUn (rU fun i => .int (-i)) (tC (.int 1)))) := po_some (pe_un un_neg pe_int)
  refine wpAny_Slice (thn (po_none.run pins s1 σ H1 (fun o H2 => o = none ∧ H2 = H1) I1 ⟨rfl, rfl⟩) fun vl s2 ⟨l, H2, I2, pl, el, e2⟩ => ?_)
  subst el e2
  refine thn (po_none.run pins s2 σ H2 (fun o H3 => o = none ∧ H3 = H2) I2 ⟨rfl, rfl⟩) fun vu s3 ⟨u, H3, I3, pu, eu, e3⟩ => ?_
  subst eu e3
  refine thn (hst.run pins s3 σ H3 (fun o H4 => o = some (-1) ∧ H4 = H3) I3 ⟨1, rfl, -1, rfl, rfl, rfl⟩) fun vs s4 ⟨o, H4, I4, ps, eo, e4⟩ => ?_
  subst eo e4
  have I5 : Inv X pins σ H4 { s4 with heap := s4.heap.push { cls := .type "slice", data := .fields #[vl, vu, vs] } } := I4.kept (t' := s4.toks) fun b ob q => Heap.get?_push_of_some _ q
  obtain ⟨its, r, ht, hz⟩ := I5.tuple hx
  have hlen := r.length
  show wpAny (model X.prog X.w) X.A (subscriptTail e (.Slice none none (some (.UnaryOp .USub (.Constant (.int 1) k p1) p2)) p3) (.ref a) (.ref s4.heap.objs.size)) (EP X pins σ Q) X.xe { s4 with heap := s4.heap.push { cls := .type "slice", data := .fields #[vl, vu, vs] } }
  refine tail_any (ops := [.ref a, .ref s4.heap.objs.size]) ht.typeIs (PyProof.Rows.slot_tuple_getitem.lookup) ?_ (by with_unfolding_all rfl)
  refine getItem_tuple_rev ht (Heap.IsSliceOf.new _ vl vu vs) pl pu ps ?_ (by rw [List.size_toArray]; omega)
  refine ⟨.ref _, _, I5.laid (t' := s4.toks) (o := .tup xs.reverse) (fun b ob q => Heap.get?_push_of_some _ q) (Nat.le_refl _) ?_, rfl, q _ (I5.hok.fresh (Nat.le_refl _))⟩
  exact ⟨by rw [List.length_reverse]; exact hz, _, r.reverse, IsTup.new _ _⟩
theorem we_revT (h : WE X e Γ fun d Γ1 => ∃ ds, d = .tup ds ∧ Q (.tup ds.reverse) Γ1) : WE X (.Subscript e (.Slice none none (some (.UnaryOp .USub (.Constant (.int 1) k p1) p2)) p3) pos) Γ Q := fun σ F H k Q' po => by
  refine sE_of (pe_revT pe_s) (h σ F H k _ fun d Γ1 v F1 H1 q1 s1 k1 r1 => ?_)
  obtain ⟨ds, rfl, q⟩ := q1
  cases r1 with
  | tup hs ra =>
    exact ⟨_, _, rfl, same_seqT k1.same hs, fun p n => (po.step s1).new k1 n (.tup (sqT upd_same) ((ra.rev).same (same_new (k1.same.free n)))) q⟩
/-- {} -/
theorem we_dict0 (q : Q (.dk []) Γ) : WE X (.Dict [] [] pos) Γ Q := fun σ F H k Q' po => by
  refine sE_of pe_dnewK ?_
  intro p n
  exact po.new k n (.dk upd_same .nil) q
end
end Pu
namespace Pu
open PySem PySem.Spec PyProof.Rows L2 Gd
section
variable {X : Cx} {a b : Expr} {pos : Pos} {Γ : List Ent} {QA : List D → List Ent → Prop}
theorem reA_rep {K : PySem.W.Frag} {F : Hp} {ds : List D} {vs : List V} (r : ReA K F ds vs) : ∀ n : Nat, ReA K F (List.replicate n ds).flatten (List.replicate n vs).flatten
  | 0 => .nil
  | n + 1 => by
    rw [List.replicate_succ, List.replicate_succ, List.flatten_cons, List.flatten_cons]
    exact r.app (reA_rep r n)
theorem wn_rep (h : WE X a Γ fun d1 Γ1 => WE X b Γ1 fun d2 Γ2 => ∃ ds n, Ls Γ2 d1 ds ∧ d2 = .int n ∧ 0 ≤ n ∧ n ≤ 100 ∧ ds.length ≤ 1000 ∧ QA (List.replicate n.toNat ds).flatten Γ2) : WN X (.BinOp a .Mult b pos) Γ QA := fun σ F H k Q' po => by
  refine sE_of (pe_op op_rep pe_s pe_s) (h σ F H k _ fun d1 Γ1 v1 F1 H1 q1 s1 k1 r1 => ?_)
  refine q1 σ F1 H1 k1 _ fun d2 Γ2 v2 F2 H2 q2 s2 k2 r2 => ?_
  obtain ⟨ds, n, ls, rfl, n0, n1, dl, q⟩ := q2
  cases r2
  obtain ⟨l, us, rfl, hl, ra⟩ := ls.real k2 (r1.same s2.sf)
  have ul := ra.len
  refine ⟨l, n, us, rfl, rfl, hl, by omega, by omega, ?_, fun p np => (po.step (s1.trans s2)).now k2 np (reA_rep ra n.toNat) q⟩
  have h1 : n.toNat ≤ 100 := by omega
  have h2 : us.length ≤ 1000 := by omega
  have h3 := Nat.mul_le_mul h2 h1
  rw [PySem.sizeLine_eq]
  omega
end
/-- sorted(set(..)) of pairs of ints, as many as there may be -/
def SsetP (X : Cx) : Prop := ∀ (a : Expr) (Γ : List Ent) (QA : List D → List Ent → Prop) (p p2 pos pos2 : Pos), X.mg "sorted" = none → X.mg "set" = none → Gl X "sorted" → Gl X "set" → X.calm = true →
  starEach [.Call (.Name "set" p2) [a] [] pos2] X.env = (false, eval (.Call (.Name "set" p2) [a] [] pos2) X.env) :: starEach [] X.env → starEach [a] X.env = (false, eval a X.env) :: starEach [] X.env → (backTo pos (starEach [] X.env)).any (·.1) = false → (backTo pos2 (starEach [] X.env)).any (·.1) = false →
  (WE X a Γ fun d Γ1 => ∃ ps us : List (Int × Int), Ls Γ1 d (ps.map Pu.prD) ∧ ps.length ≤ 1000 ∧ us.length ≤ 76 ∧ (∀ q ∈ ps, q ∈ us) ∧ (∀ q ∈ ps, 0 ≤ q.1 ∧ q.1 < 100 ∧ 0 ≤ q.2 ∧ q.2 < 100) ∧
    ∀ qs : List (Int × Int), qs.Nodup → qs.Pairwise (fun x y => SrtO.lexB y x = false) → (∀ x, x ∈ qs ↔ x ∈ ps) → QA (qs.map Pu.prD) Γ1) →
  WN X (.Call (.Name "sorted" p) [.Call (.Name "set" p2) [a] [] pos2] [] pos) Γ QA
/-- other values than lots -/
def OddOk (d : D) : Prop := plain d = true ∧ ∀ l, d = .tup l → l.length ≤ 1000
theorem plain_its (w : Way) (its : List (List Int)) : plainA (its.map (itE w)) = true := plainA_of fun d hd => by
  obtain ⟨l, _, rfl⟩ := List.mem_map.mp hd
  cases w with
  | acc =>
    show plain (.tup (l.map .int)) = true
    rw [plain]
    exact plainA_of fun d hd => by obtain ⟨x, _, rfl⟩ := List.mem_map.mp hd; rfl
  | _ => rfl
theorem odd_tup {l : List D} (h : plainA l = true) (hl : l.length ≤ 1000) : OddOk (.tup l) := ⟨by rw [plain]; exact h, fun l' e => by cases e; exact hl⟩
theorem plainA_app {l m : List D} (h : plainA l = true) (h2 : plainA m = true) : plainA (l ++ m) = true := plainA_of fun d hd => (List.mem_append.mp hd).elim (plainA_mem h d) (plainA_mem h2 d)
theorem plainA_sub {l m : List D} (h : plainA m = true) (s : ∀ d ∈ l, d ∈ m) : plainA l = true := plainA_of fun d hd => plainA_mem h d (s d hd)
def odd0 (l : List D) : List D := [.lst l, .tup l.reverse, .tup (l ++ cut l none (some 1)), .non, .int 7, .tup [.non], .tup [.tup [.int 0, .int 99]], .tup [.int 99], .tup [.int (0 - 1)], .tup [.bl true], .tup [.tup [.int 0]], .tup (cut l (some 1) none), .tup [.str "0"], .tup [.tup [.bl true, .int 0]], .dk []]
theorem cut_le (l : List D) (lo hi : Option Int) : (cut l lo hi).length ≤ l.length := by
  unfold Pu.cut
  rw [List.length_take, List.length_drop]
  omega
theorem odd0_ok {l : List D} (pi : plainA l = true) (l7 : l.length ≤ 100) : ∀ d ∈ odd0 l, OddOk d := by
  have cp : ∀ lo hi, plainA (cut l lo hi) = true := fun lo hi => plainA_sub pi fun d hd => List.mem_of_mem_drop (List.mem_of_mem_take hd)
  have o1 : OddOk (.lst l) := ⟨by rw [plain]; exact pi, nofun⟩
  have o2 : OddOk (.tup l.reverse) := odd_tup (plainA_sub pi fun d hd => List.mem_reverse.mp hd) (by rw [List.length_reverse]; omega)
  have o3 : OddOk (.tup (l ++ cut l none (some 1))) := odd_tup (plainA_app pi (cp _ _)) (by rw [List.length_append]; have := cut_le l none (some 1); omega)
  have o4 : OddOk .non := ⟨by rw [plain], nofun⟩
  have o5 : OddOk (.int 7) := ⟨by rw [plain], nofun⟩
  have o6 : OddOk (.tup [.non]) := odd_tup (by simp [plainA, plain]) (by decide)
  have o7 : OddOk (.tup [.tup [.int 0, .int 99]]) := odd_tup (by simp [plainA, plain]) (by decide)
  have o8 : OddOk (.tup [.int 99]) := odd_tup (by simp [plainA, plain]) (by decide)
  have o9 : OddOk (.tup [.int (0 - 1)]) := odd_tup (by simp [plainA, plain]) (by decide)
  have o10 : OddOk (.tup [.bl true]) := odd_tup (by simp [plainA, plain]) (by decide)
  have o11 : OddOk (.tup [.tup [.int 0]]) := odd_tup (by simp [plainA, plain]) (by decide)
  have o12 : OddOk (.tup (cut l (some 1) none)) := odd_tup (cp _ _) (by have := cut_le l (some 1) none; omega)
  have o13 : OddOk (.tup [.str "0"]) := odd_tup (by simp [plainA, plain]) (by decide)
  have o14 : OddOk (.tup [.tup [.bl true, .int 0]]) := odd_tup (by simp [plainA, plain]) (by decide)
  have o15 : OddOk (.dk []) := ⟨by rw [plain]; rfl, nofun⟩
  intro d hd
  unfold odd0 at hd
  rcases List.mem_cons.mp hd with e | hd
  · exact e ▸ o1
  rcases List.mem_cons.mp hd with e | hd
  · exact e ▸ o2
  rcases List.mem_cons.mp hd with e | hd
  · exact e ▸ o3
  rcases List.mem_cons.mp hd with e | hd
  · exact e ▸ o4
  rcases List.mem_cons.mp hd with e | hd
  · exact e ▸ o5
  rcases List.mem_cons.mp hd with e | hd
  · exact e ▸ o6
  rcases List.mem_cons.mp hd with e | hd
  · exact e ▸ o7
  rcases List.mem_cons.mp hd with e | hd
  · exact e ▸ o8
  rcases List.mem_cons.mp hd with e | hd
  · exact e ▸ o9
  rcases List.mem_cons.mp hd with e | hd
  · exact e ▸ o10
  rcases List.mem_cons.mp hd with e | hd
  · exact e ▸ o11
  rcases List.mem_cons.mp hd with e | hd
  · exact e ▸ o12
  rcases List.mem_cons.mp hd with e | hd
  · exact e ▸ o13
  rcases List.mem_cons.mp hd with e | hd
  · exact e ▸ o14
  rw [List.mem_singleton] at hd
  exact hd ▸ o15
theorem nodup_leG {α : Type} [DecidableEq α] {l m : List α} (hn : l.Nodup) (h : ∀ x ∈ l, x ∈ m) : l.length ≤ m.length := by
  induction l generalizing m with
  | nil => exact Nat.zero_le _
  | cons x r ih =>
    obtain ⟨h1, h2⟩ := List.nodup_cons.mp hn
    have hx := h x List.mem_cons_self
    have := ih (m := m.erase x) h2 fun y hy => (List.mem_erase_of_ne (a := y) (b := x) fun e => h1 (by rw [← e]; exact hy)).mpr (h y (List.mem_cons_of_mem _ hy))
    rw [List.length_erase_of_mem hx] at this
    have : 0 < m.length := List.length_pos_of_mem hx
    rw [List.length_cons]
    omega
end Pu
/-! What is told of lots: is_repair, costs. -/
namespace Pu
open PySem PySem.Spec PyProof.Rows L2 Gd
theorem toI_int (ms : List Int) : (ms.map D.int).map toI = ms := by
  rw [List.map_map]
  exact List.map_id _
theorem toL_tI (l : List Int) : toL (tI l) = l := toI_int l
theorem Lot.areB {w : Way} {ks : List Str} {ts : List (Str × List Int)} {its : List (List Int)} (tk : Tk ks ts) (h : Lot w ks ts its) : areB w ks.length ts (.tup (its.map (itE w))) = true ∧ decW w (.tup (its.map (itE w))) = its := by
  have nb : ∀ (m : Nat) (ms : List Int), (∀ x ∈ ms, x ∈ numsN m) → (ms.map D.int).all (numB (m : Int)) = true := fun m ms hm => by
    rw [List.all_eq_true]
    intro d hd
    obtain ⟨x, hx, rfl⟩ := List.mem_map.mp hd
    obtain ⟨h1, h2⟩ := mem_numsN.mp (hm x hx)
    rw [numB, decide_eq_true h1, decide_eq_true h2]
    rfl
  have intL : ∀ (m : Nat), w ≠ .acc → (∀ l ∈ its, ∃ x ∈ numsN m, l = [x]) → ascB ((its.map fun l => l.getD 0 0)) = true → lotB (m : Int) (.tup ((its.map fun l => l.getD 0 0).map .int)) = true := fun m hw hm ha => by
    rw [lotB, toI_int, ha, Bool.and_true]
    exact nb m _ fun x hx => by
      obtain ⟨l, hl, rfl⟩ := List.mem_map.mp hx
      obtain ⟨y, hy, rfl⟩ := hm l hl
      exact hy
  by_cases hw : w = .acc
  · subst hw
    have bk := pairs_back h.mem
    have et : (its.map (itE .acc)).map toL = its := by
      rw [List.map_map]
      exact (List.map_congr_left fun l _ => toL_tI l).trans (List.map_id _)
    refine ⟨?_, ?_⟩
    · show ((its.map (itE .acc)).all (accB ks.length ts) && ascT ((its.map (itE .acc)).map toL)) = true
      have ha : ascT ((its.map (itE .acc)).map toL) = true := h.asc
      rw [ha, Bool.and_true, List.all_eq_true]
      intro d hd
      obtain ⟨l, hl, rfl⟩ := List.mem_map.mp hd
      obtain ⟨i, k, hi, hk, rfl⟩ := mem_accF.mp (h.mem l hl)
      have b := (lotT_in tk.po.lo i).2 k hk
      show (numB (ts.length : Int) (.int (i : Int)) && (numB (ks.length : Int) (.int k) && decide (k ∈ lotT ts (i : Int)))) = true
      rw [numB, numB, decide_eq_true (show (0 : Int) ≤ (i : Int) by omega), decide_eq_true (show ((i : Nat) : Int) < (ts.length : Int) by omega), decide_eq_true b.1, decide_eq_true b.2, decide_eq_true hk]
      rfl
    · show (its.map (itE .acc)).map toL = its
      exact et
  · have bk := ints_back hw h.mem
    have e1 : its.map (itE w) = (its.map fun l => l.getD 0 0).map .int := by
      conv => lhs; rw [bk]
      exact itE_ints hw _
    have ha : ascB (its.map fun l => l.getD 0 0) = true := by
      have := h.asc
      rw [e1] at this
      rw [← toI_int (its.map fun l => l.getD 0 0)]
      cases w with
      | acc => exact absurd rfl hw
      | _ => exact this
    rw [e1]
    refine ⟨?_, ?_⟩
    · cases w with
      | acc => exact absurd rfl hw
      | kinds => exact intL ks.length nofun (fun l hl => by obtain ⟨x, hx, rfl⟩ := List.mem_map.mp (h.mem l hl); exact ⟨x, hx, rfl⟩) ha
      | types => exact intL ts.length nofun (fun l hl => by obtain ⟨x, hx, rfl⟩ := List.mem_map.mp (h.mem l hl); exact ⟨x, hx, rfl⟩) ha
    · have : decW w (.tup ((its.map fun l => l.getD 0 0).map .int)) = (((its.map fun l => l.getD 0 0).map D.int).map toI).map ([·]) := by
        cases w with
        | acc => exact absurd rfl hw
        | _ => rfl
      rw [this, toI_int, ← bk]
/-- is_repair of a lot: no crossing is left -/
theorem Lot.rep {w : Way} {ks : List Str} {ts : List (Str × List Int)} {its : List (List Int)} (tk : Tk ks ts) (h : Lot w ks ts its) : repB w ks ts (.tup (its.map (itE w))) = (cr1 (struckF w its ts) ks.length ks.length).isEmpty := by
  obtain ⟨h1, h2⟩ := h.areB tk
  rw [repB, h1, h2, Bool.true_and, cr_pairs]
/-- is_repair of any value, as the law tells it -/
theorem rep_due (w : Way) (ks : List Str) (ts : List (Str × List Int)) (d : D) : repB w ks ts d = (areB w ks.length ts d && (cr1 (struckF w (decW w d) ts) ks.length ks.length).isEmpty) := by
  rw [repB, cr_pairs]
end Pu
/-! Costs of lots, told in two ways. -/
namespace Pu
open PySem PySem.Spec PyProof.Rows L2 Gd
theorem sum_erase {f : List Int → Int} {x : List Int} : ∀ {l : List (List Int)}, x ∈ l → (l.map f).sum = f x + ((l.erase x).map f).sum
  | y :: l, h => by
    by_cases e : y = x
    · subst e
      rw [List.erase_cons_head, List.map_cons, List.sum_cons]
    · have m : x ∈ l := (List.mem_cons.mp h).elim (fun z => absurd z.symm e) id
      rw [List.erase_cons_tail (by simpa using e), List.map_cons, List.map_cons, List.sum_cons, List.sum_cons, sum_erase m]
      omega
theorem sum_lot : ∀ {items : List (List Int)} {cs : List Int} {lot : List (List Int)}, items.Nodup → cs.length = items.length → lot.Nodup → (∀ l ∈ lot, l ∈ items) →
    (((items.zip cs).filter fun p => decide (p.1 ∈ lot)).map (·.2)).sum = (lot.map fun l => cs.getD (items.idxOf l) 0).sum
  | [], cs, lot, _, _, _, hs => by
    cases lot with
    | nil => rfl
    | cons a r => exact absurd (hs a List.mem_cons_self) (by simp)
  | x :: r, [], lot, _, hl, _, _ => by simp at hl
  | x :: r, c :: cs, lot, hn, hl, ln, hs => by
    obtain ⟨n1, n2⟩ := List.nodup_cons.mp hn
    have ih := sum_lot (items := r) (cs := cs) (lot := lot.erase x) n2 (by simpa using hl) (ln.erase x) fun l m => by
      have ne : l ≠ x := fun e => (List.Nodup.not_mem_erase ln) (e ▸ m)
      rcases List.mem_cons.mp (hs l (List.mem_of_mem_erase m)) with z | z
      · exact absurd z ne
      · exact z
    have same : ((r.zip cs).filter fun p => decide (p.1 ∈ lot)) = (r.zip cs).filter fun p => decide (p.1 ∈ lot.erase x) := by
      refine List.filter_congr fun p hp => ?_
      have pr := (List.of_mem_zip hp).1
      have ne : p.1 ≠ x := fun e => n1 (e ▸ pr)
      exact decide_eq_decide.mpr ⟨fun h => (List.mem_erase_of_ne ne).mpr h, fun h => List.mem_of_mem_erase h⟩
    have tail : ∀ l ∈ lot.erase x, (c :: cs).getD ((x :: r).idxOf l) 0 = cs.getD (r.idxOf l) 0 := fun l m => by
      have ne : l ≠ x := fun e => (List.Nodup.not_mem_erase ln) (e ▸ m)
      have e : (x :: r).idxOf l = r.idxOf l + 1 := by
        rw [List.idxOf_cons]
        rw [show (x == l) = false from beq_eq_false_iff_ne.mpr fun e => ne e.symm]
        rfl
      rw [e]
      rfl
    rw [List.zip_cons_cons]
    by_cases hx : x ∈ lot
    · rw [List.filter_cons_of_pos (by simpa using hx), List.map_cons, List.sum_cons, same, ih, sum_erase hx]
      have h0 : (c :: cs).getD ((x :: r).idxOf x) 0 = c := by rw [List.idxOf_cons_self]; rfl
      rw [h0]
      congr 1
      exact congrArg List.sum (List.map_congr_left fun l m => (tail l m).symm)
    · rw [List.filter_cons_of_neg (by simpa using hx), same, ih]
      have e : lot.erase x = lot := List.erase_of_not_mem hx
      rw [e] at tail ⊢
      exact congrArg List.sum (List.map_congr_left fun l m => (tail l m).symm)
end Pu
/-! Items stand ascending; lots among them. -/
namespace Pu
open PySem PySem.Spec PyProof.Rows L2 Gd
abbrev ltP2 (a b : Int × Int) : Prop := SrtO.lexB a b = true
theorem ltP2_no {a b : Int × Int} (h : ltP2 a b) : SrtO.lexB b a = false := by
  refine SrtO.lexB_no.mpr ?_
  have := SrtO.lexB_iff.mp h
  omega
theorem ltP2_ne {a b : Int × Int} (h : ltP2 a b) : a ≠ b := fun e => by
  subst e
  have := SrtO.lexB_iff.mp h
  omega
def accP (ts : List (Str × List Int)) (n : Nat) : List (Int × Int) := (List.range n).flatMap fun i : Nat => (lotT ts (i : Int)).map fun k => ((i : Int), k)
theorem accP_F (ts : List (Str × List Int)) (n : Nat) : accF ts n = (accP ts n).map fun p => [p.1, p.2] := by
  unfold accF accP
  rw [List.map_flatMap]
  congr 1
  funext i
  rw [List.map_map]
  rfl
theorem accP_asc {kk : Nat} {ts : List (Str × List Int)} (lo : ∀ p ∈ ts, LotOk kk p.2) : ∀ n, (accP ts n).Pairwise ltP2 ∧ ∀ p ∈ accP ts n, p.1 < (n : Int)
  | 0 => ⟨.nil, nofun⟩
  | n + 1 => by
    obtain ⟨h1, h2⟩ := accP_asc lo n
    have e : accP ts (n + 1) = accP ts n ++ (lotT ts (n : Int)).map fun k => ((n : Int), k) := by
      unfold accP
      rw [List.range_succ, List.flatMap_append, List.flatMap_cons, List.flatMap_nil, List.append_nil]
    rw [e]
    refine ⟨List.pairwise_append.mpr ⟨h1, ?_, fun a ha b hb => ?_⟩, fun p hp => ?_⟩
    · refine List.pairwise_map.mpr ((lotT_in lo n).1.imp fun {a b} h => ?_)
      exact SrtO.lexB_iff.mpr (.inr ⟨rfl, h⟩)
    · obtain ⟨k, _, rfl⟩ := List.mem_map.mp hb
      exact SrtO.lexB_iff.mpr (.inl (h2 a ha))
    · rcases List.mem_append.mp hp with hp | hp
      · have := h2 p hp; omega
      · obtain ⟨k, _, rfl⟩ := List.mem_map.mp hp
        show (n : Int) < ((n + 1 : Nat) : Int)
        omega
theorem numsN_asc (n : Nat) : (numsN n).Pairwise (· < ·) := (numsN_ok n).1
theorem itemsF_nd {ks : List Str} {ts : List (Str × List Int)} (tk : Tk ks ts) (w : Way) : (itemsF w ks.length ts).Nodup := by
  have one : ∀ m, ((numsN m).map fun x : Int => [x]).Nodup := fun m => List.pairwise_map.mpr ((numsN_asc m).imp fun {a b} h e => by
    injection e with e1
    omega)
  cases w with
  | kinds => exact one _
  | types => exact one _
  | acc =>
    show (accF ts ts.length).Nodup
    rw [accP_F]
    exact List.pairwise_map.mpr ((accP_asc tk.po.lo ts.length).1.imp fun {a b} h e => by
      injection e with e1 e2
      injection e2 with e2 _
      exact ltP2_ne h (Prod.ext e1 e2))
/-- any part of the items is a lot -/
theorem lot_sub {w : Way} {ks : List Str} {ts : List (Str × List Int)} (tk : Tk ks ts) {its : List (List Int)} (h : its.Sublist (itemsF w ks.length ts)) (il : (itemsF w ks.length ts).length ≤ 1000) : Lot w ks ts its := by
  have sl := h.length_le
  have one : ∀ m, w ≠ .acc → (∀ l ∈ its, l ∈ itemsF w ks.length ts) → its.Sublist ((numsN m).map ([·])) → Lot w ks ts its := fun m hw hm hs => by
    have bk := ints_back hw hm
    have asc : (its.map fun l => l.getD 0 0).Pairwise (· < ·) := by
      have z := hs.map fun l : List Int => l.getD 0 0
      have e : ((numsN m).map ([·])).map (fun l : List Int => l.getD 0 0) = numsN m := by
        rw [List.map_map]
        exact List.map_id _
      rw [e] at z
      exact (numsN_asc m).sublist z
    rw [bk]
    refine lot_ints hw (fun x hx => ?_) (asc_ltB asc) (by rw [List.length_map]; omega)
    obtain ⟨l, hl, rfl⟩ := List.mem_map.mp hx
    have : [l.getD 0 0] ∈ its := by
      rw [bk]
      exact List.mem_map.mpr ⟨_, List.mem_map.mpr ⟨l, hl, rfl⟩, rfl⟩
    exact hm _ this
  have hm : ∀ l ∈ its, l ∈ itemsF w ks.length ts := fun l m => h.subset m
  cases w with
  | kinds => exact one ks.length nofun hm h
  | types => exact one ts.length nofun hm h
  | acc =>
    have bk := pairs_back hm
    have z : (its.map fun l => (l.getD 0 0, l.getD 1 0)).Sublist (accP ts ts.length) := by
      have z := h.map fun l : List Int => (l.getD 0 0, l.getD 1 0)
      have e : (itemsF .acc ks.length ts).map (fun l : List Int => (l.getD 0 0, l.getD 1 0)) = accP ts ts.length := by
        show (accF ts ts.length).map _ = _
        rw [accP_F, List.map_map]
        exact List.map_id _
      rw [e] at z
      exact z
    have pw := (accP_asc tk.po.lo ts.length).1.sublist z
    rw [bk]
    refine lot_pairs (fun p hp => ?_) (ascT_pairs (pw.imp fun h => ltP2_no h) (pw.imp fun h => ltP2_ne h)) (by rw [List.length_map]; omega)
    obtain ⟨l, hl, rfl⟩ := List.mem_map.mp hp
    have : [l.getD 0 0, l.getD 1 0] ∈ its := by
      rw [bk]
      exact List.mem_map.mpr ⟨_, List.mem_map.mpr ⟨l, hl, rfl⟩, rfl⟩
    exact hm _ this
end Pu
/-! l.index(x) of data. -/
namespace Pu
open PySem PySem.Spec PyProof.Rows L2 Gd
section
variable {X : Cx} {o e : Expr} {apos pos : Pos} {Γ : List Ent} {Q : D → List Ent → Prop}
theorem we_index (hu : X.A.units + 65 < cLine) (h : WE X o Γ fun d Γ1 => ∃ es, d = .lst es ∧ WE X e Γ1 fun d2 Γ2 => ∃ e1 j z, Vw Γ2 d2 e1 ∧ Sh (.lst es) ∧ Sh e1 ∧ (pyA es)[j]? = some z ∧ PyData.eqv z (py e1) = true ∧ (∀ (m : Nat) z', m < j → (pyA es)[m]? = some z' → PyData.eqv z' (py e1) = false) ∧ Q (.int (j : Nat)) Γ2)
    (hs : starEach [e] X.env = (false, eval e X.env) :: starEach [] X.env := by rfl) (hbase : attributeBase o "index" X.env (eval o X.env) = eval o X.env := by rfl)
    (hfew : ((backTo pos (starEach [e] X.env)).all (fun x => !x.1) && (backToKw pos (keywordEach [] X.env)).all (fun x => x.1.isSome)
      && decide (([e] : List Expr).length + ([] : List Keyword).length + (if ([] : List Keyword).isEmpty then 0 else 1) < 30)) = true := by rfl)
    (hline : (apos.endLine == pos.line) = true := by rfl) (hplain : (backTo pos (starEach [] X.env)).any (·.1) = false := by rfl) : WE X (.Call (.Attribute o "index" apos) [e] [] pos) Γ Q := fun σ F H k Q' po => by
  refine sE_of (pe_bm PySem.F.plainAttrs_list PySem.F.slot_list_index PySem.F.type_list_index (mt_indexD hu) pe_s (pa_cons pe_s pa_nil hs) hbase hfew hline hs hplain) (h σ F H k _ fun d Γ1 v F1 H1 q1 s1 k1 r1 => ?_)
  obtain ⟨es, rfl, q⟩ := q1
  have rl := r1
  cases r1 with
  | @lst a vs _ hF ra =>
    refine ⟨.inl ⟨rfl, vs, sqL (k1.same _ _ hF)⟩, ?_⟩
    refine q σ F1 H1 k1 _ fun d2 Γ2 v2 F2 H2 q2 s2 k2 r2 => ?_
    obtain ⟨e1, j, z, w1, f1, f2, hz, he, hno, qq⟩ := q2
    have h1 := (Vw.same (Γ := Γ2) (.lst es)).dp k2 (rl.same s2.sf) f1.p
    have h2 := w1.dp k2 r2 f2.p
    have s1' := f1.sh
    rw [py] at h1 s1'
    exact ⟨a, v2, _, _, j, z, rfl, rfl, h1, h2, s1', f2.sh, hz, he, hno, (po.step (s1.trans s2)).now k2 (.int _) qq⟩
end
end Pu
/-! An item's place among the items. -/
namespace Pu
open PySem PySem.Spec PyProof.Rows L2 Gd
theorem idx_min : ∀ {its : List (List Int)} {m : Nat} {l : List Int}, its[m]? = some l → its.idxOf l ≤ m
  | [], m, l, h => by simp at h
  | y :: r, m, l, h => by
    rw [List.idxOf_cons]
    by_cases e : y = l
    · rw [show (y == l) = true from beq_iff_eq.mpr e]
      exact Nat.zero_le _
    · rw [show (y == l) = false from beq_eq_false_iff_ne.mpr e]
      cases m with
      | zero =>
        rw [List.getElem?_cons_zero] at h
        exact absurd (Option.some.inj h) e
      | succ m =>
        rw [List.getElem?_cons_succ] at h
        exact Nat.succ_le_succ (idx_min h)
theorem item_eqv {w : Way} {its : List (List Int)} (io : Its w its) {a b : List Int} (ha : a ∈ its) (hb : b ∈ its) : PyData.eqv (py (itE w a)) (py (itE w b)) = decide (a = b) := by
  by_cases hw : w = .acc
  · subst hw
    show PyData.eqv (py (tI a)) (py (tI b)) = _
    rw [py_tI, py_tI, eqv_ints]
  · have la := io.n hw a ha
    have lb := io.n hw b hb
    match a, b, la, lb with
    | [x], [y], _, _ =>
      have e : ∀ z : Int, itE w [z] = .int z := fun z => by cases w <;> first | rfl | exact absurd rfl hw
      rw [e, e, py, py]
      have h := eqv_iff (.int x) (.int y) rfl rfl
      by_cases c : x = y
      · subst c
        rw [h.mpr rfl]
        exact (decide_eq_true rfl).symm
      · cases e2 : PyData.eqv (.int x) (.int y) with
        | false => exact (decide_eq_false fun z => c (by injection z)).symm
        | true => exact absurd (PyData.int.inj (h.mp e2)) c
theorem item_at {w : Way} {its : List (List Int)} (io : Its w its) {l : List Int} (hl : l ∈ its) : (pyA (its.map (itE w)))[its.idxOf l]? = some (py (itE w l)) ∧ PyData.eqv (py (itE w l)) (py (itE w l)) = true ∧
    ∀ (m : Nat) z', m < its.idxOf l → (pyA (its.map (itE w)))[m]? = some z' → PyData.eqv z' (py (itE w l)) = false := by
  have hlt := List.idxOf_lt_length_of_mem hl
  have hg : its[its.idxOf l]? = some l := by
    rw [List.getElem?_eq_getElem hlt, List.getElem_idxOf]
  refine ⟨?_, by rw [item_eqv io hl hl]; exact decide_eq_true rfl, fun m z' hm hz => ?_⟩
  · rw [pyA_map, List.map_map]
    exact get_map hg
  · rw [pyA_map, List.map_map] at hz
    obtain ⟨x, hx, rfl⟩ := map_get hz
    have mx := List.mem_of_getElem? hx
    show PyData.eqv (py (itE w x)) (py (itE w l)) = false
    rw [item_eqv io mx hl]
    refine decide_eq_false fun e => ?_
    subst e
    have := idx_min hx
    omega
end Pu
/-! What stands, without tables of code. -/
namespace Pu
open PySem PySem.Spec PyProof.Rows L2 Gd
/-- the heap without tables of code -/
def nt (F : Hp) : Hp := fun a => match F a with
  | some (.tbl _) => none
  | o => o
theorem nt_at {F : Hp} {a : Addr} {o : HO} (h : F a = some o) (n : ∀ ps, o ≠ .tbl ps) : nt F a = some o := by
  unfold nt
  rw [h]
  cases o with
  | tbl ps => exact absurd rfl (n ps)
  | _ => rfl
theorem nt_of {F : Hp} {a : Addr} {o : HO} (h : nt F a = some o) : F a = some o ∧ ∀ ps, o ≠ .tbl ps := by
  unfold nt at h
  split at h
  · cases h
  · rename_i x hx
    exact ⟨h, fun ps e => hx ps (by rw [h, e])⟩
theorem nt_sub (F : Hp) : Same (nt F) F := fun a o h => (nt_of h).1
theorem seqT_nt {K : PySem.W.Frag} {F : Hp} {a : Addr} {xs : List V} (h : SqT K F a xs) : SqT K (nt F) a xs := by
  rcases h with (h | ⟨o, h⟩) | h
  · exact .inl (.inl (nt_at h nofun))
  · exact .inl (.inr ⟨o, nt_at h nofun⟩)
  · exact .inr h
theorem seqL_nt {K : PySem.W.Frag} {F : Hp} {a : Addr} {xs : List V} (h : SqL K F a xs) : SqL K (nt F) a xs := by
  rcases h with (h | ⟨o, h⟩) | h
  · exact .inl (.inl (nt_at h nofun))
  · exact .inl (.inr ⟨o, nt_at h nofun⟩)
  · exact .inr h
mutual
theorem re_nt {K : PySem.W.Frag} {F : Hp} : ∀ (d : D) (v : V), Re K F d v → Re K (nt F) d v
  | .non, _, h => by cases h; exact .non
  | .bl _, _, h => by cases h; exact .bl _
  | .int _, _, h => by cases h; exact .int _
  | .str _, _, h => by cases h; exact .str _
  | .ty _, _, h => by cases h; exact .ty _
  | .adr _, _, h => by cases h; exact .adr _
  | .tup l, _, h => by cases h with | tup h r => exact .tup (seqT_nt h) (reA_nt l _ r)
  | .lst l, _, h => by cases h with | lst h r => exact .lst (nt_at h nofun) (reA_nt l _ r)
  | .scr l, _, h => by cases h with | scr h r => exact .scr (seqL_nt h) (reA_nt l _ r)
  | .dk l, _, h => by cases h with | dk h r => exact .dk (nt_at h nofun) (reK_nt l _ r)
  | .ins c l, _, h => by cases h with | ins h r => exact .ins (nt_at h nofun) (reF_nt l _ r)
theorem reA_nt {K : PySem.W.Frag} {F : Hp} : ∀ (d : List D) (v : List V), ReA K F d v → ReA K (nt F) d v
  | [], _, h => by cases h; exact .nil
  | d :: l, _, h => by cases h with | cons h t => exact .cons (re_nt d _ h) (reA_nt l _ t)
theorem reF_nt {K : PySem.W.Frag} {F : Hp} : ∀ (d : List (Str × D)) (v : List (Str × V)), ReF K F d v → ReF K (nt F) d v
  | [], _, h => by cases h; exact .nil
  | (n, d) :: l, _, h => by cases h with | cons h t => exact .cons (re_nt d _ h) (reF_nt l _ t)
theorem reK_nt {K : PySem.W.Frag} {F : Hp} : ∀ (d : List (Key × D)) (v : List (Key × V)), ReK K F d v → ReK K (nt F) d v
  | [], _, h => by cases h; exact .nil
  | (n, d) :: l, _, h => by cases h with | cons h t => exact .cons (re_nt d _ h) (reK_nt l _ t)
end
theorem EntOk.nt {K : PySem.W.Frag} {F H : Hp} {o : Option V} {e : Ent} (h : EntOk K F H o e) : EntOk K (Pu.nt F) H o e := by
  have nn : ∀ {b : Addr}, F b = none → Pu.nt F b = none := fun {b} hb => by unfold Pu.nt; rw [hb]
  cases e with
  | no => trivial
  | v d =>
    obtain ⟨v, e, r⟩ := h
    exact ⟨v, e, re_nt d v r⟩
  | l a ds =>
    obtain ⟨e, f, vs, e2, r⟩ := h
    exact ⟨e, nn f, vs, e2, reA_nt ds vs r⟩
  | src h' l L st =>
    obtain ⟨e, f1, f2, hv⟩ := h
    exact ⟨e, nn f1, nn f2, hv⟩
/-- what holds, holds without tables of code in what stands -/
theorem Ok.nt {K : PySem.W.Frag} {F H : Hp} {σ : L2.St} {Γ : List Ent} (k : Ok K F H σ Γ) : Ok K (Pu.nt F) H σ Γ :=
  ⟨(nt_sub F).trans k.same, paired_mem k.ents fun _ _ _ r => r.nt, k.nod⟩
/-- .. and when tables of code change -/
theorem Ok.ext {K : PySem.W.Frag} {F H H' : Hp} {σ : L2.St} {Γ : List Ent} (k : Ok K F H σ Γ) (e : LamX.ExtN H H') : Ok K (Pu.nt F) H' σ Γ := by
  have k := k.nt
  refine ⟨fun a o h => e a o (k.same a o h) (nt_of h).2, paired_mem k.ents fun o en m r => ?_, k.nod⟩
  cases en with
  | no => trivial
  | v d => exact r
  | l a ds =>
    obtain ⟨e1, f, vs, e2, rr⟩ := r
    exact ⟨e1, f, vs, e a _ e2 nofun, rr⟩
  | src h' l L st =>
    obtain ⟨e1, f1, f2, v⟩ := r
    exact ⟨e1, f1, f2, ⟨e _ _ v.top fun _ z => (nomatch z), e _ _ v.bot fun _ z => (nomatch z), v.ne, v.lo, v.hi, v.len⟩⟩
end Pu
/-! Statements of a def that hands lambdas over: what stands is told without steps. -/
namespace Pu
open PySem PySem.Spec PyProof.Rows L2 Gd
theorem foots_lst {K : PySem.W.Frag} {F H : Hp} {σ : L2.St} {Γ : List Ent} (k : Ok K F H σ Γ) {b : Addr} (m : b ∈ foots Γ) : ∃ xs, H b = some (.lst xs) := by
  obtain ⟨e, he, hb⟩ := List.mem_flatMap.mp m
  obtain ⟨i, hi⟩ := List.mem_iff_getElem?.mp he
  obtain ⟨o, _, r⟩ := k.get hi
  cases e with
  | no => cases hb
  | v d => cases hb
  | l a ds =>
    cases List.mem_singleton.mp hb
    obtain ⟨_, _, vs, e2, _⟩ := r
    exact ⟨vs, e2⟩
  | src h l L st =>
    obtain ⟨_, _, _, v⟩ := r
    rcases List.mem_cons.mp hb with rfl | hb
    · exact ⟨_, v.top⟩
    · cases List.mem_singleton.mp hb
      exact ⟨_, v.bot⟩
theorem tabs_step {K : PySem.W.Frag} {F H F' H' : Hp} {σ : L2.St} {Γ : List Ent} {W' : List Addr} {T : List (Addr × Str)} (k : Ok K F H σ Γ) (s : Step F H (foots Γ) F' H' W') (t : LamX.Tabs T H) : LamX.Tabs T H' := fun p hp => by
  obtain ⟨ps, e, ok, a⟩ := t p hp
  have n1 : p.1 ∉ foots Γ := fun m => by
    obtain ⟨xs, z⟩ := foots_lst k m
    rw [z] at e
    cases e
  refine ⟨ps, s.kh _ _ n1 e, ok, fun pos cv hc => ?_⟩
  obtain ⟨c, e1, e2⟩ := a pos cv hc
  refine ⟨c, e1, s.kh _ _ (fun m => ?_) e2⟩
  obtain ⟨xs, z⟩ := foots_lst k m
  rw [z] at e2
  unfold LamX.CodeO at e2
  cases e2
structure PostL (K : PySem.W.Frag) (T : List (Addr × Str)) (E : Eds) (Dn : Ends) : Prop where
  nx : ∀ Γ σ F H, E.nx Γ → Ok K F H σ Γ → LamX.Tabs T H → Dn.nx σ H
  rt : ∀ d Γ σ v F H, E.rt d Γ → Ok K F H σ Γ → Re K F d v → Dn.rt v H
  bk : ∀ Γ σ F H, E.bk Γ → Ok K F H σ Γ → LamX.Tabs T H → Dn.bk σ H
  ct : ∀ Γ σ F H, E.ct Γ → Ok K F H σ Γ → LamX.Tabs T H → Dn.ct σ H
def WSL (X : Cx) (T : List (Addr × Str)) (st : Stmt) (Γ : List Ent) (E : Eds) : Prop := ∀ σ F H, Ok X.K F H σ Γ → LamX.Tabs T H → ∀ Dn, PostL X.K T E Dn → sS X st Dn σ H
def WBL (X : Cx) (T : List (Addr × Str)) (st : List Stmt) (Γ : List Ent) (E : Eds) : Prop := ∀ σ F H, Ok X.K F H σ Γ → LamX.Tabs T H → ∀ Dn, PostL X.K T E Dn → sB X st Dn σ H
section
variable {X : Cx} {T : List (Addr × Str)} {st : Stmt} {rest : List Stmt} {Γ : List Ent} {E : Eds}
/-- a statement without lambdas -/
theorem wsl_ws (h : WS X st Γ E) : WSL X T st Γ E := fun σ F H k t Dn po => h σ F H k Dn
  ⟨fun Γ1 σ1 F1 H1 q s k1 => po.nx Γ1 σ1 F1 H1 q k1 (tabs_step k s t), fun d Γ1 σ1 v F1 H1 q s k1 r => po.rt d Γ1 σ1 v F1 H1 q k1 r, fun Γ1 σ1 F1 H1 q s k1 => po.bk Γ1 σ1 F1 H1 q k1 (tabs_step k s t), fun Γ1 σ1 F1 H1 q s k1 => po.ct Γ1 σ1 F1 H1 q k1 (tabs_step k s t)⟩
theorem wbl_nil (q : E.nx Γ) : WBL X T [] Γ E := fun σ F H k t Dn po => sB_of pss_nil (po.nx Γ σ F H q k t)
theorem wbl_cons (h : WSL X T st Γ { E with nx := fun Γ1 => WBL X T rest Γ1 E }) : WBL X T (st :: rest) Γ E := fun σ F H k t Dn po =>
  sB_of (pss_cons ps_s pb_s) (h σ F H k t _ ⟨fun Γ1 σ1 F1 H1 q k1 t1 => q σ1 F1 H1 k1 t1 Dn po, po.rt, po.bk, po.ct⟩)
theorem wbl_wb (h : WB X rest Γ E) : WBL X T rest Γ E := fun σ F H k t Dn po => h σ F H k Dn
  ⟨fun Γ1 σ1 F1 H1 q s k1 => po.nx Γ1 σ1 F1 H1 q k1 (tabs_step k s t), fun d Γ1 σ1 v F1 H1 q s k1 r => po.rt d Γ1 σ1 v F1 H1 q k1 r, fun Γ1 σ1 F1 H1 q s k1 => po.bk Γ1 σ1 F1 H1 q k1 (tabs_step k s t), fun Γ1 σ1 F1 H1 q s k1 => po.ct Γ1 σ1 F1 H1 q k1 (tabs_step k s t)⟩
end
end Pu
namespace Pu
open PySem PySem.Spec PyProof.Rows L2 Gd
section
variable {X : Cx} {tg e : Expr} {body : List Stmt} {p pos pos2 : Pos} {T : List (Addr × Str)} {Γ : List Ent} {E : Eds}
/-- for x in range(n), lambdas in its body -/
theorem wsl_rng (vs : List Nat) {g : TG} (hg : PG X tg g) (hm : X.mg "range" = none) (h : WE X e Γ fun d Γ1 => ∃ j : Int, d = .int j ∧ (-(2 ^ 62) ≤ j ∧ j < 2 ^ 62) ∧ ∃ I : Nat → List Ent → Prop, I 0 Γ1 ∧
    (∀ i d Γ, (rngD 0 j.toNat)[i]? = some d → I i Γ → ∃ Γ2, TgS X.K vs g d Γ Γ2 ∧ WBL X T body Γ2 ⟨I (i + 1), E.rt, E.nx, I (i + 1)⟩) ∧ ∀ Γ, I (rngD 0 j.toNat).length Γ → E.nx Γ) (hgr : Gl X "range" := by rfl) (hs : starEach [e] X.env = [(false, eval e X.env)] := by rfl) (hp : PassesOwn (model X.prog X.w) X.A X.env X.xe := by exact PassesOwn.never) (hc : X.calm = true := by rfl) (hf : ∀ x, foldedSetIterable (.Call (.Name "range" p) [e] [] pos2) X.env x = pure x := by intro _; rfl) :
    WSL X T (.For tg (.Call (.Name "range" p) [e] [] pos2) body [] pos) Γ E := fun σ F H k t Dn po => by
  refine sS_of (ps_for hp hc (pi_range1 hgr hm (pa_cons pe_s pa_nil hs) hs) hg pb_s hf) (h σ F H k _ fun d Γ1 v F1 H1 q1 s1 k1 r1 => ?_)
  obtain ⟨j, rfl, ⟨b1, b2⟩, I, i0, turn, fin⟩ := q1
  cases r1
  have t1 := tabs_step k s1 t
  refine ⟨j, rfl, b1, b2, ?_⟩
  refine ⟨fun i m σ H => m = (rngD 0 j.toNat).length - i ∧ i ≤ (rngD 0 j.toNat).length ∧ ∃ F Γ, I i Γ ∧ Ok X.K F H σ Γ ∧ LamX.Tabs T H, ⟨_, rfl, Nat.zero_le _, F1, Γ1, i0, k1, t1⟩, fun i m σ2 H2 hw => ?_⟩
  obtain ⟨rfl, hi, F2, Γ2, q2, k2, t2⟩ := hw
  obtain ⟨y1, y2⟩ := (yields_rng (K := X.K) (lo := 0) (n := j.toNat) (F0 := F2)) i σ2 F2 H2 Γ2 (.refl _) k2 trivial
  by_cases hlt : i < (rngD 0 j.toNat).length
  · obtain ⟨hgo, hy⟩ := y1 _ (List.getElem?_eq_getElem hlt)
    refine .inr ⟨hgo, fun σ' H' => ∃ F Γ, I (i + 1) Γ ∧ Ok X.K F H' σ' Γ ∧ LamX.Tabs T H', fun σ' H' ⟨F, Γ, q, k, s⟩ => ⟨_, by omega, rfl, hlt, F, Γ, q, k, s⟩, fun v H' hv => ?_⟩
    obtain ⟨F3, s3, k3, r3⟩ := hy v H' hv
    obtain ⟨Γ4, TG, b⟩ := turn i _ Γ2 (List.getElem?_eq_getElem hlt) q2
    refine TG.go σ2 F3 H' v k3 r3 _ fun σ4 k4 _ => ?_
    exact b σ4 F3 H' k4 (tabs_step k2 s3 t2) _ ⟨fun Γ' σ' F' H2 q k t => ⟨F', Γ', q, k, t⟩, po.rt, po.nx, fun Γ' σ' F' H2 q k t => ⟨F', Γ', q, k, t⟩⟩
  · have e : i = (rngD 0 j.toNat).length := by omega
    subst e
    exact .inl ⟨y2 (Nat.le_refl _), po.nx Γ2 σ2 F2 H2 (fin Γ2 q2) k2 t2⟩
end
end Pu
namespace Gd
open PySem PySem.Spec PyProof.Rows L2
/-- what is told of an error with a word -/
structure WTxt (K : PySem.W.Frag) (mg : Str → Option Value) (nm : Str) (CX fX : Addr) : Prop where
  ox : OexC K CX
  nW : PySem.W.findIn K (.ref CX) "word" = some none
  iC : PySem.W.findIn K (.ref CX) "__init__" = some (some (.ref fX))
  tI : PySem.W.typeIn K (.ref fX) = some (.type "function")
  gR : mg nm = some (.ref CX)
theorem blk_nox {X : Cx} {r : List Stmt} {G : TS → Prop} (h : ∃ u, PSs X.nox r u ∧ G u) : ∃ u, PSs X r u ∧ G u := h.elim fun u z => ⟨u, z.1.nox, z.2⟩
def xdS (z : Str) : HO := .xd [(("word" : Str), .str z)]
def spIRef (K : PySem.W.Frag) (C : Addr) : Sp := fun vs H Q _ => ∃ (a : Addr) (z : Str), vs = [.ref a, .str z] ∧ H a = some (exo a C none) ∧ ∀ dx, H dx = none → dx ≠ a → Q .non (upd (upd H dx (exd dx [("word", .str z)])) a (exo a C (some dx)))
/-- all but lists and instances stands as before -/
def KeepU (H G : Hp) : Prop := ∀ b o, H b = some o → (∀ xs, o ≠ .lst xs) → (∀ C dx fs, o ≠ .ins C dx fs) → G b = some o
theorem KeepU.of {H G : Hp} (e : KeepT H G) : KeepU H G := fun b o h n _ => e b o h n
theorem KeepU.trans {H G J : Hp} (a : KeepU H G) (b : KeepU G J) : KeepU H J := fun c o h n m => b c o (a c o h n m) n m
theorem KeepU.ins {H : Hp} {p C dx : Addr} {fs : List (Str × V)} {o : HO} (h : H p = some (.ins C dx fs)) : KeepU H (upd H p o) := fun b x e _ m => by
  have ne : b ≠ p := fun z => by
    subst z
    exact m _ _ _ (Option.some.inj (h.symm.trans e)).symm
  exact (upd_ne ne).trans e
theorem KeepU.seqT {K : PySem.W.Frag} {H G : Hp} {a : Addr} {xs : List V} (e : KeepU H G) (h : SqT K H a xs) : SqT K G a xs := by
  rcases h with (z | ⟨o, z⟩) | z
  · exact .inl (.inl (e _ _ z (by intro _ q; cases q) (by intro _ _ _ q; cases q)))
  · exact .inl (.inr ⟨o, e _ _ z (by intro _ q; cases q) (by intro _ _ _ q; cases q)⟩)
  · exact .inr z
theorem KeepU.dp {K : PySem.W.Frag} {H G : Hp} (e : KeepU H G) (d : PyData) (v : V) (n : noList d = true) (h : Dp K H v d) : Dp K G v d := dp_sq (fun _ _ z => e.seqT z) d v n h
theorem KeepU.dpAll {K : PySem.W.Frag} {H G : Hp} (e : KeepU H G) (ds : List PyData) (vs : List V) (n : noListAll ds = true) (h : DpAll K H vs ds) : DpAll K G vs ds := dpAll_sq (fun _ _ z => e.seqT z) ds vs n h
/-- all stands but what is in S; all but lists and instances stands -/
structure FrmU (S : List Addr) (H G : Hp) : Prop where
  ku : KeepU H G
  ks : ∀ b o, b ∉ S → H b = some o → G b = some o
theorem FrmU.of {S : List Addr} {H G : Hp} (f : Frm S H G) : FrmU S H G := ⟨.of f.kt, f.ks⟩
theorem FrmU.same {S : List Addr} {H G : Hp} (e : Same H G) : FrmU S H G := .of (.same e)
theorem FrmU.trans {S : List Addr} {H G J : Hp} (a : FrmU S H G) (b : FrmU S G J) : FrmU S H J := ⟨a.ku.trans b.ku, fun c o n h => b.ks c o n (a.ks c o n h)⟩
theorem FrmU.mono {S T : List Addr} {H G : Hp} (a : FrmU S H G) (h : ∀ x ∈ S, x ∈ T) : FrmU T H G := ⟨a.ku, fun b o n e => a.ks b o (fun z => n (h b z)) e⟩
theorem FrmU.ins {S : List Addr} {H : Hp} {p C dx : Addr} {fs : List (Str × V)} {o : HO} (h : H p = some (.ins C dx fs)) (m : p ∈ S) : FrmU S H (upd H p o) := ⟨.ins h, fun b x n e => (upd_ne fun z => n (by rw [z]; exact m)).trans e⟩
theorem Hv.frmU {h l : Addr} {S : List Addr} {H G : Hp} {L : List Int} {st : Int} (v : Hv H h l L st) (f : FrmU S H G) (n1 : h ∉ S) (n2 : l ∉ S) : Hv G h l L st :=
  ⟨f.ks _ _ n1 v.top, f.ks _ _ n2 v.bot, v.ne, v.lo, v.hi, v.len⟩
/-- for i, x in enumerate(list) -/
theorem for_enL {K : PySem.W.Frag} {a : Addr} {xs : List V} {g : TG} {tb : TS} {D : Ends} {σ : L2.St} {H : Hp} (Pv : Nat → L2.St → Hp → Prop) (h0 : Pv 0 σ H) (stay : ∀ i σ G, i ≤ xs.length → Pv i σ G → SqL K G a xs)
    (hs : ∀ i x T σ G, xs[i]? = some x → Pv i σ G → G T = none → g (.ref T) σ (upd G T (.tup [.int (i : Nat), x])) fun σ2 H2 => tb { D with nx := Pv (i + 1), ct := Pv (i + 1), bk := D.nx } σ2 H2) (hd : ∀ σ G, Pv xs.length σ G → D.nx σ G) :
    ∃ W : Nat → Nat → L2.St → Hp → Prop, (∃ m, W 0 m σ H) ∧ ∀ i m σ H, W i m σ H →
      ((Ite K a).stop i H ∧ D.nx σ H) ∨ ((Ite K a).go i H ∧ ∃ N : L2.St → Hp → Prop, (∀ σ' H', N σ' H' → ∃ m', m' < m ∧ W (i + 1) m' σ' H') ∧ ∀ v H', (Ite K a).yld i H v H' → g v σ H' fun σ2 H2 => tb { D with nx := N, ct := N, bk := D.nx } σ2 H2) := by
  refine ⟨fun i m σ G => m = xs.length - i ∧ i ≤ xs.length ∧ Pv i σ G, ⟨_, rfl, Nat.zero_le _, h0⟩, fun i m σ G hw => ?_⟩
  obtain ⟨rfl, hi, hp⟩ := hw
  have hq := stay i σ G hi hp
  by_cases hlt : i < xs.length
  · refine .inr ⟨⟨xs, xs[i], hq, List.getElem?_eq_getElem hlt⟩, Pv (i + 1), fun σ' G' hp' => ⟨_, by omega, rfl, hlt, hp'⟩, fun v G' hy => ?_⟩
    obtain ⟨T, x, rfl, hT, rfl, hx⟩ := hy
    exact hs i x T σ G (hx xs hq) hp hT
  · have e : i = xs.length := by omega
    subst e
    exact .inl ⟨⟨xs, hq, Nat.le_refl _⟩, hd σ G hp⟩
abbrev rLenQ (K : PySem.W.Frag) : List V → Hp → VK → Prop := fun xs H Q => ∃ p ys, xs = [.ref p] ∧ (SqL K H p ys ∨ SqT K H p ys) ∧ Q (.int ys.length) H
end Gd
/-! The end of a law row as in Ge, for laws that hand lambdas over: code objects and their tables. -/
namespace Gd
open PySem PySem.Spec PyProof.Rows L2
abbrev tabO : Obj := { cls := .none, data := .fields #[] }
section
variable {P : Program} {w : World} {K : PySem.W.Frag} {mg mb : Str → Option Value} {k : Nat} {fa a : Addr} {cs : List (Addr × Addr)} {fd : FuncData} {x : Str} {sp : Sp} {s : Shared} {vs : List Value} {ns : List Int}
/-- what is there of code objects and tables at the start -/
structure TabsAt (K : PySem.W.Frag) (mg : Str → Option Value) (h : Heap) (cs : List (Addr × Addr)) : Prop where
  tb : ∀ p ∈ cs, h.get? p.2 = some tabO
  nk : ∀ p ∈ cs, K.lookup p.2 = none
  hd : ∀ p ∈ cs, PySem.W.CodeHd h p.1 p.2
/-- tracked are at most the script and the tables -/
structure BareT (K : PySem.W.Frag) (a : Addr) (cs : List (Addr × Addr)) (H : Hp) : Prop where
  one : ∀ b, H b ≠ none → b = a ∨ ∃ p ∈ cs, p.2 = b
  out : H a ≠ none → K.lookup a = none
  tab : ∀ p ∈ cs, H p.2 = some (.tbl #[])
  sort : ∀ b, H b = none ∨ (∃ p ∈ cs, p.2 = b) ∨ ∃ o xs, H b = some (.frz o (.lst xs))
section
variable {H : Hp} (ha : s.heap.get? a = some { cls := .type "list", data := .seq vs.toArray }) (T : TabsAt K mg s.heap cs) (B : BareT K a cs H)
include ha T B
theorem untracked {b : Addr} {o : Obj} (e : s.heap.get? b = some o) (h1 : ∀ us m, o.data ≠ .seq us m) (h2 : o.data ≠ .fields #[]) : H b = none := by
  refine Classical.byContradiction fun q => ?_
  rcases B.one b q with z | ⟨p, hp, z⟩
  · rw [z] at e
    have u := Option.some.inj (e.symm.trans ha)
    exact h1 _ _ (congrArg Obj.data u)
  · rw [← z] at e
    have u := Option.some.inj (e.symm.trans (T.tb p hp))
    exact h2 (congrArg Obj.data u)
theorem hidT_map {b : Addr} {m : Str → Option Value} (h : s.heap.Ns b m) : (hidT s.heap H).Ns b m := by
  obtain ⟨o, es, ep, e, d, r⟩ := h
  refine ⟨o, es, ep, hidT_get e (untracked ha T B e (fun us m z => ?_) fun z => ?_), d, r⟩ <;> exact nomatch d.symm.trans z
theorem hidT_in (KX : K.In s.heap) : K.In (hidT s.heap H) := fun b o e => hidT_get (KX b o e) (by
  refine Classical.byContradiction fun q => ?_
  rcases B.one b q with z | ⟨p, hp, z⟩
  · rw [z] at e q
    exact nomatch (B.out q).symm.trans e
  · rw [← z] at e
    exact nomatch (T.nk p hp).symm.trans e)
theorem hidT_code (p : Addr × Addr) (hp : p ∈ cs) : PySem.W.CodeHd (hidT s.heap H) p.1 p.2 := by
  obtain ⟨o, us, c1, c2, c3, c4, c5, c6, c7, e, q1, q2, q3, rest⟩ := T.hd p hp
  refine ⟨o, us, c1, c2, c3, c4, c5, c6, c7, hidT_get e (untracked ha T B e (fun _ _ z => nomatch q2.symm.trans z) fun z => ?_), q1, q2, q3, rest⟩
  have u : Data.fields us = Data.fields #[] := q2.symm.trans z
  injection u with u
  rw [u] at q3
  simp at q3
theorem hidT_tab (hns : s.heap.Ns mainGlobals mg)
    (hbm : ∃ (m : Addr) (ob : Obj), mg "__builtins__" = some (.ref m) ∧ m ≠ builtinsNs ∧ s.heap.get? m = some ob ∧ ob.cls = .type "module" ∧ ob.dict = some builtinsNs ∧ ob.data = .plain) : ∀ p ∈ cs, LamX.TabB (hidT s.heap H) mg p.1 p.2 := fun p hp => by
  obtain ⟨m, ob, d1, d2, d3, d4, d5, d6⟩ := hbm
  obtain ⟨og, es, ep, eg, dg, _⟩ := hns
  have n1 : m ≠ mainGlobals := fun z => by
    rw [z] at d3
    have u := congrArg Obj.data (Option.some.inj (d3.symm.trans eg))
    rw [d6, dg] at u
    cases u
  have n2 : m ≠ p.2 := fun z => by
    rw [z] at d3
    have u := congrArg Obj.data (Option.some.inj (d3.symm.trans (T.tb p hp)))
    rw [d6] at u
    cases u
  have n3 : mainGlobals ≠ p.2 := fun z => by
    rw [z] at eg
    have u := congrArg Obj.data (Option.some.inj (eg.symm.trans (T.tb p hp)))
    rw [dg] at u
    cases u
  exact ⟨hidT_code ha T B p hp, ⟨m, ob, d1, d2, n1, n2, hidT_get d3 (untracked ha T B d3 (fun _ _ z => nomatch d6.symm.trans z) fun z => nomatch d6.symm.trans z), d4, d5, d6⟩, n3⟩
end
theorem end_coreT (KX : K.In s.heap) (hns : s.heap.Ns mainGlobals mg) (hb : s.heap.Ns builtinsNs mb) (hbb : ∀ y : Str, y ≠ "__name__" → mb y = bootBuiltins y) (hlim : s.heap.NoLimit) (hg : s.gens = #[])
    (hbm : ∃ (m : Addr) (ob : Obj), mg "__builtins__" = some (.ref m) ∧ m ≠ builtinsNs ∧ s.heap.get? m = some ob ∧ ob.cls = .type "module" ∧ ob.dict = some builtinsNs ∧ ob.data = .plain)
    (ha : s.heap.get? a = some { cls := .type "list", data := .seq vs.toArray }) (T : TabsAt K mg s.heap cs) (hr : Room k callerA)
    (F : ∀ base : Heap, K.In base → base.Ns mainGlobals mg → (∀ p ∈ cs, LamX.TabB base mg p.1 p.2) → FnG P w K mg base k fa fd [x] sp) (hbind : ∀ (t : Shared) (u : Value), BindsTo t fd ⟨[u], []⟩ [(x, u)])
    {H : Hp} (hok : HOk P w H s.heap) (B : BareT K a cs H) (h : sp [.ref a] H (fun v _ => v = .bl true) fun _ _ _ => False) :
    codeAny (model P w) callerA (.call (.ref fa) ⟨[.ref a], []⟩) (fun r s' => r = .ok (.ret (.bool true)) ∧ OldK s.heap s'.heap ∧ s'.os = s.os ∧ AllBare s'.gens) s := by
  have KB := hidT_in ha T B KX
  have NB := hidT_map ha T B hns
  have MB : Mod K mg (hidT s.heap H) := ⟨KB, NB, ⟨mb, hidT_map ha T B hb, hbb⟩, hlim.elim fun mc z => ⟨mc, hidT_map ha T B z.1, z.2⟩⟩
  have e0 : Env0 P w K mg (hidT s.heap H) callerA [] s H :=
    ⟨rfl, MB, fun b o e => of_hidT e, Nat.le_of_eq (hidT_size _ _), trivial, fun b z => (nomatch (show b ∈ ([] : List Addr) from z)), hok, .of_eq hg⟩
  refine codeAny_mono ((F _ KB NB (hidT_tab ha T B hns hbm)).go callerA [] s H ⟨[.ref a], []⟩ [.ref a] [.ref a] _ _ ⟨hr, rfl⟩ e0 (hbind s (.ref a)) (.cons rfl .nil) h) fun r s' z => ?_
  rcases r with e | fl
  · exact z.elim
  cases fl with
  | next => exact z.elim
  | brk => exact z.elim
  | cont => exact z.elim
  | ret u =>
    obtain ⟨v, G, os, bare, un, okG, ru, rfl⟩ := z
    obtain rfl : u = Value.bool true := ru
    -- a table has grown, all else stands
    have big : ∀ p ∈ cs, ∃ more : Array Value, s'.heap.get? p.2 = some { cls := .none, data := .fields more } := fun p hp => by
      obtain ⟨more, g⟩ := un.tbls p.2 #[] (B.tab p hp)
      exact ⟨_, okG p.2 _ g⟩
    have old : ∀ b o, (¬ ∃ p ∈ cs, p.2 = b) → s.heap.get? b = some o → s'.heap.get? b = some o := fun b o n e => by
      rcases B.sort b with y | y | ⟨ob, xs, y⟩
      · exact un.keep b o e y (fun g => nomatch (show b ∈ ([] : List Addr) from g)) (fun g => nomatch g)
      · exact absurd y n
      · exact ((okG b _ (un.frzs b ob _ y)).1).trans ((hok b _ y).1.symm.trans e)
    refine ⟨rfl, ⟨fun b o e => ?_, fun b o e => ?_⟩, os, bare⟩
    · by_cases y : ∃ p ∈ cs, p.2 = b
      · obtain ⟨p, hp, rfl⟩ := y
        obtain ⟨more, g⟩ := big p hp
        obtain rfl : tabO = o := Option.some.inj ((T.tb p hp).symm.trans e)
        exact .inr (.inl ⟨((T.hd p hp).tab (T.tb p hp)).isCodeTable, rfl, #[], more, rfl, by rw [Array.empty_append]; exact g⟩)
      · exact .inl (old b o y e)
    · by_cases y : ∃ p ∈ cs, p.2 = b
      · obtain ⟨p, hp, rfl⟩ := y
        obtain ⟨more, g⟩ := big p hp
        exact ⟨_, g⟩
      · exact ⟨o, old b o y e⟩
open Classical in
/-- the tables alone, over what is below -/
noncomputable def tabsOn (cs : List (Addr × Addr)) (lo : Hp) : Hp := fun b => if ∃ p ∈ cs, p.2 = b then some (.tbl #[]) else lo b
theorem tabsOn_in {lo : Hp} {p : Addr × Addr} (hp : p ∈ cs) : tabsOn cs lo p.2 = some (.tbl #[]) := if_pos ⟨p, hp, rfl⟩
theorem tabsOn_off {lo : Hp} {b : Addr} (n : ¬ ∃ p ∈ cs, p.2 = b) : tabsOn cs lo b = lo b := if_neg n
theorem end_callT (KX : K.In s.heap) (hns : s.heap.Ns mainGlobals mg) (hb : s.heap.Ns builtinsNs mb) (hbb : ∀ y : Str, y ≠ "__name__" → mb y = bootBuiltins y) (hlim : s.heap.NoLimit) (hg : s.gens = #[])
    (hbm : ∃ (m : Addr) (ob : Obj), mg "__builtins__" = some (.ref m) ∧ m ≠ builtinsNs ∧ s.heap.get? m = some ob ∧ ob.cls = .type "module" ∧ ob.dict = some builtinsNs ∧ ob.data = .plain)
    (ha : s.heap.get? a = some { cls := .type "list", data := .seq vs.toArray }) (hi : IntsAre vs ns) (hl : ns.length ≤ sizeLine) (T : TabsAt K mg s.heap cs) (hr : Room k callerA)
    (F : ∀ base : Heap, K.In base → base.Ns mainGlobals mg → (∀ p ∈ cs, LamX.TabB base mg p.1 p.2) → FnG P w K mg base k fa fd [x] sp) (hbind : ∀ (t : Shared) (u : Value), BindsTo t fd ⟨[u], []⟩ [(x, u)])
    (hsp : ∀ H : Hp, (∀ p ∈ cs, H p.2 = some (.tbl #[])) → SqL K H a (ns.map V.int) → sp [.ref a] H (fun v _ => v = .bl true) fun _ _ _ => False) :
    codeAny (model P w) callerA (.call (.ref fa) ⟨[.ref a], []⟩) (fun r s' => r = .ok (.ret (.bool true)) ∧ OldK s.heap s'.heap ∧ s'.os = s.os ∧ AllBare s'.gens) s := by
  have rv := vals_ints hi
  have aT : ¬ ∃ p ∈ cs, p.2 = a := fun ⟨p, hp, z⟩ => by
    have e := T.tb p hp
    rw [z] at e
    have u := congrArg Obj.data (Option.some.inj (ha.symm.trans e))
    cases u
  -- whatever is below, if it tracks at most the script
  have go : ∀ lo : Hp, (∀ b, b ≠ a → lo b = none) → (lo a ≠ none → K.lookup a = none) → (lo a = none ∨ ∃ o xs, lo a = some (.frz o (.lst xs))) → (∀ u, lo a = some u → ObjOk P w (tabsOn cs lo) s.heap a u) → SqL K (tabsOn cs lo) a (ns.map V.int) →
      codeAny (model P w) callerA (.call (.ref fa) ⟨[.ref a], []⟩) (fun r s' => r = .ok (.ret (.bool true)) ∧ OldK s.heap s'.heap ∧ s'.os = s.os ∧ AllBare s'.gens) s := fun lo l1 l2 l3 l4 hS => by
    refine end_coreT KX hns hb hbb hlim hg hbm ha T hr F hbind (H := tabsOn cs lo) (fun b u e => ?_) ⟨fun b n => ?_, fun n => l2 fun z => n ((tabsOn_off aT).trans z), fun p hp => tabsOn_in hp, fun b => ?_⟩ (hsp _ (fun p hp => tabsOn_in hp) hS)
    · by_cases y : ∃ p ∈ cs, p.2 = b
      · obtain ⟨p, hp, rfl⟩ := y
        obtain rfl : HO.tbl #[] = u := Option.some.inj ((tabsOn_in hp).symm.trans e)
        exact T.tb p hp
      · have e2 := (tabsOn_off y).symm.trans e
        by_cases q : b = a
        · subst q
          exact l4 u e2
        · exact nomatch (l1 b q).symm.trans e2
    · by_cases y : ∃ p ∈ cs, p.2 = b
      · exact .inr y
      · refine .inl (Classical.byContradiction fun q => n ((tabsOn_off y).trans (l1 b q)))
    · by_cases y : ∃ p ∈ cs, p.2 = b
      · exact .inr (.inl y)
      · by_cases q : b = a
        · subst q
          rcases l3 with z | ⟨o, xs, z⟩
          · exact .inl ((tabsOn_off y).trans z)
          · exact .inr (.inr ⟨o, xs, (tabsOn_off y).trans z⟩)
        · exact .inl ((tabsOn_off y).trans (l1 b q))
  cases hk : K.lookup a with
  | some o =>
    obtain rfl : ({ cls := .type "list", data := .seq vs.toArray } : Obj) = o := Option.some.inj (ha.symm.trans (KX a o hk))
    exact go (fun _ => none) (fun _ _ => rfl) (fun z => absurd rfl z) (.inl rfl) (fun u z => nomatch (show (none : Option HO) = some u from z)) (.inr ⟨_, vs.toArray, _, hk, rfl, rfl, rfl, by rw [List.size_toArray, hi.length]; exact hl, by simpa using rv⟩)
  | none =>
    let lo : Hp := fun b => if b = a then some (.frz { cls := .type "list", data := .seq vs.toArray } (.lst (ns.map V.int))) else none
    have e1 : lo a = some (.frz { cls := .type "list", data := .seq vs.toArray } (.lst (ns.map V.int))) := if_pos rfl
    refine go lo (fun b q => if_neg q) (fun _ => hk) (.inr ⟨_, _, e1⟩) (fun u z => ?_) (.inl (.inr ⟨_, (tabsOn_off aT).trans e1⟩))
    obtain rfl := Option.some.inj (e1.symm.trans z)
    exact ⟨ha, by rw [List.length_map]; exact hl, vs, _, rv, ha⟩
end
/-- what the end asks of a law's promise at the head's heap -/
def LawG (l : PySem.W.OpenLaw) (w : World) (K : PySem.W.Frag) (k n : Nat) (x : Str) (mg : Str → Option Value) (fa : Addr) (h : Heap) : Prop :=
  ∃ (fd : FuncData) (cs : List (Addr × Addr)) (sp : Sp), TabsAt K mg h cs ∧ (∀ (t : Shared) (u : Value), BindsTo t fd ⟨[u], []⟩ [(x, u)]) ∧
    (∀ (H : Hp) (a : Addr) (ns : List Int), ns.length ≤ n → (∀ p ∈ cs, H p.2 = some (.tbl #[])) → SqL K H a (ns.map V.int) → sp [.ref a] H (fun v _ => v = .bl true) fun _ _ _ => False) ∧
    ∀ base : Heap, K.In base → base.Ns mainGlobals mg → (∀ p ∈ cs, LamX.TabB base mg p.1 p.2) → FnG l.prog w K mg base k fa fd [x] sp
theorem walk_GT {l : PySem.W.OpenLaw} {n k : Nat} {q : Program} {loose : List Str} {XP : (Str → Option Value) → Heap → Prop} {YP : World → Heap → Prop} {d : DefRec} {K : Params → PySem.W.Frag} {x : Str}
    (hn : l.most = some n) (hn2 : n ≤ sizeLine) (hdf : d.params.defaults = []) (hr : Room k callerA) (hY : ∀ (w : World) (h : Heap), YP w h → (K w.params).In h)
    (F : ∀ (w : World) (mg : Str → Option Value) (fa : Addr) (h : Heap), YP w h → (K w.params).In h → h.Ns mainGlobals mg → mg d.name = some (.ref fa) → LawG l w (K w.params) k n x mg fa h) :
    PySem.W.WalkO q loose XP YP l.row.toRowW d [] (fun f vs => PySem.call f vs) := by
  refine Att.attach_callB hn hdf fun w s₀ s mg mb fa o pm cd doc a vs ns G Y ho hd hcd hm hobj hi hl hbits hg => ?_
  obtain ⟨fd, cs, sp, T, hb, hsp, hF⟩ := F w mg fa _ Y (hY w _ Y) G.T.g hm
  exact end_callT (hY w _ Y) G.T.g G.T.b G.T.builtins G.T.nolimit hg G.T.bmain hobj hi (Nat.le_trans hl hn2) T hr hF hb fun H hH hS => hsp H a ns hl hH hS
end Gd
/-! A def that calls the lambda it got and tells of an error by its name: try: action() / except x as e: .. / return z. -/
namespace Gd
open PySem PySem.Spec PyProof.Rows L2
/-- what an error finds has as many slots as the def -/
theorem takes_len {X : Cx} {W : WX} (t : Takes X W) : Takes X (fun cls d σ H => σ.length = X.N.length → W cls d σ H) := fun u s' ⟨a, B, sI, pins, σ, H, cls, d, e, I, r1, r2, r3, r4, r5, r6, w⟩ =>
  t u s' ⟨a, B, sI, pins, σ, H, cls, d, e, I, r1, r2, r3, r4, r5, r6, w I.len⟩
/-- what the def makes of the lambda: R of an error, z0 without one -/
abbrev TTh (R : Value → Option Addr → Hp → VK → Prop) (z0 : Str) : (XK → Hp → VK → Prop) → Hp → VK → Prop := fun tl H Q => tl (fun cls d H' => R cls d H' Q) H fun _ H' => Q (.str z0) H'
theorem heard_gives {X : Cx} {Ng : List Str} {xg a e x2 q z0 : Str} {sg : Scope} {g : Addr} {cdg c : Value} {i j : Nat} {b0 : Stmt} {suite : List Stmt} {ts : Addr → Value → Option Addr → TS} {R : Value → Option Addr → Hp → VK → Prop} {p1 p2 p3 p4 p5 p6 p7 p8 : Pos}
    (hsu : ∀ (s : Shared) (H : Hp) (aE : Addr) (oe : Obj) (cls : Value) (d : Option Addr) (pn : List (Addr × Obj)), Zc cls d oe → (∃ vs, oe.data = .fields vs) → PSs ((cxOf C8.CX0 X.prog X.w X.K X.mg X.base Ng xg sg g cdg X.A X.stack s H C8.E0).nox.suite aE ((aE, oe) :: pn)) (b0 :: suite) (ts aE cls d))
    (nd : Ng.Nodup) (hi : Ng[i]? = some e) (hl : sg.names.lookup e = some .local) (nm : ∀ (s : Shared) (H : Hp), Names (cxOf C8.CX0 X.prog X.w X.K X.mg X.base Ng xg sg g cdg X.A X.stack s H C8.E0).nox x2 c)
    (h0 : ∀ f : Addr, (L2.start Ng [V.ref f])[0]? = some (some (V.ref f)))
    (hR : ∀ (D : Ends) (σ : L2.St) (cls : Value) (d : Option Addr) (H : Hp), σ.length = Ng.length → R cls d H D.rt → wAs X.K c i ts (fun _ _ _ _ => False) D cls d σ H) :
    LamX.GivesTo X Ng xg sg g cdg [.Try [.Expr (.Call (.Name a p1) [] [] p2) p3] [.ExceptHandler (some (.Name x2 p4)) (some e) (b0 :: suite) p5] [] [] p6, .Return (some (.Constant (.str z0) j p7)) p8] a q (TTh R z0) := by
  intro f c' s H Q tl act hc h
  refine ⟨_, pss_cons (ps_try_as (X := (cxOf C8.CX0 X.prog X.w X.K X.mg X.base Ng xg sg g cdg X.A X.stack s H C8.E0).nox) (i := i) (Wout := fun _ _ _ _ => False)
      (tb := fun W D σ H => ∃ Ech : XK, (∀ cls d σ' H', σ'.length = Ng.length → Ech cls d H' → W cls d σ' H') ∧ σ[0]? = some (some (.ref f)) ∧ H c' = some (LamX.CodeO c' q) ∧ tl Ech H fun _ H' => D.nx σ H')
      rfl rfl nd hi hl (nm s H) LamX.takes0 (fun W pn xe tk _ => ?_) (fun aE oe cls d pn hz hf => hsu s H aE oe cls d pn hz hf)) (pss_one (ps_ret pe_str)), ?_⟩
  · refine ⟨fun pins s' σ H' D I hh => ?_⟩
    obtain ⟨Ech, hW, h1, h2, h3⟩ := hh
    have hp := act _ pn xe Ech p1 p2 (takes_len tk) fun cls d σ' H' he hl => hW cls d σ' H' hl he
    exact (pss_one (ps_expr hp)).run pins s' σ H' D I ⟨h1, h2, h3⟩
  · exact ⟨fun cls d H' => R cls d H' Q, fun cls d σ' H' hl hr => hR _ σ' cls d H' hl hr, h0 f, hc, h⟩
end Gd
/-! A try with several except clauses, each with a name, which let no error pass. -/
namespace Gd
open PySem PySem.Spec PyProof.Rows L2
/-- a clause: its class, the slot of its name, what its suite makes of an error -/
abbrev Clause := Value × Nat × (Addr → Value → Option Addr → TS)
/-- what clauses wish of an error: the first that fits gets it, and one fits -/
def wAll (K : PySem.W.Frag) (D : Ends) : List Clause → WX
  | [] => fun _ _ _ _ => False
  | c :: r => wAs K c.1 c.2.1 c.2.2 (wAll K D r) D
inductive ClsOk (X : Cx) : List ExceptHandler → List Clause → Prop
  | nil : ClsOk X [] []
  | cons {x n : Str} {c : Value} {i : Nat} {ts : Addr → Value → Option Addr → TS} {b : Stmt} {bs : List Stmt} {p q : Pos} {hs : List ExceptHandler} {l : List Clause} (nm : Names X x c) (hi : X.N[i]? = some n) (hl : X.env.kindOf n = some .local)
      (su : ∀ (a : Addr) (o : Obj) (cls : Value) (d : Option Addr) (pn : List (Addr × Obj)), Zc cls d o → (∃ vs, o.data = .fields vs) → PSs (X.suite a ((a, o) :: pn)) (b :: bs) (ts a cls d)) (r : ClsOk X hs l) :
      ClsOk X (.ExceptHandler (some (.Name x p)) (some n) (b :: bs) q :: hs) ((c, i, ts) :: l)
/-- an error that has come down to the clauses: t, the state without it -/
structure Down (X : Cx) (pins : List (Addr × Obj)) (σ : L2.St) (H : Hp) (t s : Shared) (a : Addr) (B : Heap) (cls : Value) (d : Option Addr) : Prop where
  I : Inv X pins σ H t
  nb : ∀ b o, t.heap.get? b = some o → b ∉ frs X.stack → B.get? b = some o
  up : t.heap.UpToSlots s.heap
  fl : HandSPX.FlyingZ B (X.env :: X.outer) a (Zc cls d) s.heap
  na : H a = none
  os : s.os = t.os
  ag : AllBare s.gens
section
variable {X : Cx} {pins : List (Addr × Obj)} {σ : L2.St} {H : Hp} {t s : Shared} {a : Addr} {B : Heap} {cls : Value} {d : Option Addr}
theorem Down.on (x : Down X pins σ H t s a B cls d) {h' : Heap} (fl : HandSPX.FlyingZ B (X.env :: X.outer) a (Zc cls d) h') (up : s.heap.UpToSlots h') : Down X pins σ H t { s with heap := h' } a B cls d :=
  ⟨x.I, x.nb, x.up.trans up, fl, x.na, x.os, x.ag⟩
theorem Down.inv (x : Down X pins σ H t s a B cls d) : Inv X pins σ H s := x.I.landed x.nb x.fl.1 x.up x.os x.ag
/-- the state in which the clauses look at it -/
theorem Down.held (x : Down X pins σ H t s a B cls d) (hf : X.env.frame = some X.env.locals) : ∃ o : Obj, s.heap.get? a = some o ∧ Zc cls d o ∧ (∃ vs, o.data = .fields vs) ∧ Inv (X.suite a ((a, o) :: (X.pn ++ pins))) [] σ H s := by
  obtain ⟨o, vs, e, z, dt⟩ := x.fl.there
  have off : a ∉ frs (X.env :: X.outer) := fun m => by
    obtain ⟨_, o2, e2, n⟩ := x.fl.2.2.1.mem m
    obtain rfl : o = o2 := Option.some.inj (e.symm.trans e2)
    exact n _ dt
  have at_ : ∀ {v : Env}, v ∈ X.env :: X.outer → v.frame ≠ some a := fun {v} m q => off (List.mem_filterMap.mpr ⟨v, m, q⟩)
  refine ⟨o, e, z, ⟨vs, dt⟩, x.inv.suite e dt x.na (fun q => at_ List.mem_cons_self (by rw [hf, q])) fun m => ?_⟩
  obtain ⟨v, hv, q⟩ := List.mem_filterMap.mp m
  exact at_ (List.mem_cons_of_mem _ hv) q
theorem clauses_go {hds : List ExceptHandler} {l : List Clause} {D : Ends} (hf : X.env.frame = some X.env.locals) (hN : X.N.Nodup) (ok : X.Ok) (k : ClsOk X hds l) (x : Down X pins σ H t s a B cls d) (w : wAll X.K D l cls d σ H) :
    wpAny (model X.prog X.w) X.A (handleBy (.ref a) X.env hds) (SP X pins D) X.xe s := by
  induction k with
  | nil => exact w.elim
  | @cons cn n c i ts b bs p q hs l nm hi hl su r ih =>
    obtain ⟨y, fit, yes, no⟩ := w
    obtain ⟨o, e, z, dt, S⟩ := x.held hf
    have fits := PySem.W.exm_one (M := model X.prog X.w) x.inv.kIn (fun A Q E s' k q => wpAny_typeOf_ref (k _ _ e) (by rw [z.1]; exact q)) fit
    have name : ∀ {Q E : Value → Shared → Prop}, Q c s → wpAny (model X.prog X.w) (X.A.mark (some (.ref a))) (eval (.Name cn p) X.env) Q E s := fun q => by
      rcases nm with ⟨g, g2, m | ⟨m, v, n3⟩⟩
      · exact ld_glob (X := X.suite a ((a, o) :: (X.pn ++ pins))) S g m q g2
      · exact ld_blt (X := X.suite a ((a, o) :: (X.pn ++ pins))) S g m v q n3 g2
    refine wpAny_handleBy_cons (codeAny_handlers_test (name (fits.here ?_))) (by intro q; cases q)
    cases y
    · exact ih (no rfl)
    refine codeAny_handlers_suite_as (HandSPX.lands_againZ x.fl fun h' fl up => ?_)
    have x2 := x.on fl up
    obtain ⟨o2, e2, z2, dt2, S2⟩ := x2.held hf
    refine store_ok (X := X.suite a ((a, o2) :: (X.pn ++ pins))) (v := .ref a) S2 hN hi (.inl hl) rfl (fun s3 S3 => ?_) (.inr hl)
    refine wpAny_mono ((su a o2 cls d (X.pn ++ pins) z2 dt2).run [] s3 _ H _ S3 (yes rfl a x.na)) (fun f s4 h4 => ?_) fun _ _ z => z.elim
    have away : ∀ {σ4 : L2.St} {H4 : Hp} {R : Shared → Prop}, Inv (X.suite a ((a, o2) :: (X.pn ++ pins))) [] σ4 H4 s4 → (∀ s5, Inv X pins (σ4.set i none) H4 s5 → R s5) → wpAny (model X.prog X.w) X.A (do bindName X.env n .none; unbindBehindTheSuite X.env n q) (fun _ s5 => R s5) X.xe s4 := fun S4 g => gone_ok (S4.unsuite ok) hN hi hl g
    rcases f with _ | u | _ | _
    · obtain ⟨_, _, S4, q4⟩ := h4
      exact away S4 fun _ J => ⟨_, _, J, q4⟩
    all_goals first
      | (obtain ⟨_, _, _, S4, r4, q4⟩ := h4; exact away S4 fun _ J => ⟨_, _, _, J, r4, q4⟩)
      | (obtain ⟨_, _, S4, q4⟩ := h4; exact away S4 fun _ J => ⟨_, _, J, q4⟩)
end
section
variable {X : Cx} {body : List Stmt} {hd : ExceptHandler} {hds : List ExceptHandler} {l : List Clause} {pos : Pos} {tb : WX → TS}
theorem ps_try_all (hs : X.stack = X.env :: X.outer) (hf : X.env.frame = some X.env.locals) (hN : X.N.Nodup) (k : ClsOk X (hd :: hds) l)
    (hb : ∀ (W : WX) (pn : List (Addr × Obj)) (xe : Value → Shared → Prop), Takes (X.tr pn xe) W → PassesOwn (model X.prog X.w) X.A X.env xe → PSs (X.tr pn xe) body (tb W)) :
    PS X (.Try body (hd :: hds) [] [] pos) fun D σ H => tb (wAll X.K D l) D σ H := by
  refine ⟨fun pins s σ H D I h => ?_⟩
  have ok := I.ok
  refine wpAny_Try_except (wpAny_mono ((hb (wAll X.K D l) (X.pn ++ pins) (fun e s1 => wpAny (model X.prog X.w) X.A (noteFrame e X.env) (fun _ s2 => wpAny (model X.prog X.w) X.A (setFlight e none) (fun _ s3 => wpAny (model X.prog X.w) X.A (handleBy e X.env (hd :: hds)) (SP X pins D) X.xe s3) X.xe s2) X.xe s1) ?_ PassesOwn.looking).run [] s σ H D (I.toTry _) h) ?_ fun _ _ z => z)
  · rintro u s' ⟨a, B, t, pins', σ', H', cls, d, rfl, J, nb, up, sky, na, os, ag, w⟩
    have sky' : Sky B (X.env :: X.outer) a (Zc cls d) X.env.locals s'.heap := hs ▸ sky
    have fr : X.A.frames = some (X.env :: X.outer) := ok.frames.trans (congrArg some hs)
    exact Sky.land Zc.steady fr hf sky' fun h3 fl up3 => clauses_go (t := t) hf hN ok k ⟨J.ofTry ok, nb, up.trans up3, fl, na, os, ag⟩ w
  · intro f s1 h1
    rcases f with _ | u | _ | _
    · obtain ⟨_, _, J, q⟩ := h1
      exact wpAny_execs_nil ⟨_, _, J.ofTry ok, q⟩
    all_goals first
      | (obtain ⟨_, _, _, J, r, q⟩ := h1; exact ⟨_, _, _, J.ofTry ok, r, q⟩)
      | (obtain ⟨_, _, J, q⟩ := h1; exact ⟨_, _, J.ofTry ok, q⟩)
end
end Gd
/-! A def that calls the lambda it got and tells of errors by several clauses with names: try: action() / except x as e: .. / except .. / return z. -/
namespace Gd
open PySem PySem.Spec PyProof.Rows L2
abbrev asEnds (D : Ends) (i : Nat) : Ends := { nx := fun σ' H' => D.nx (σ'.set i none) H', rt := D.rt, bk := fun σ' H' => D.bk (σ'.set i none) H', ct := fun σ' H' => D.ct (σ'.set i none) H' }
section
variable {K : PySem.W.Frag} {D : Ends} {c : Value} {i : Nat} {ts : Addr → Value → Option Addr → TS} {r : List Clause} {cls : Value} {d : Option Addr} {σ : L2.St} {H : Hp}
theorem wAll_hit (e : PySem.W.exmOne K cls c = some true) (h : ∀ a, H a = none → ts a cls d (asEnds D i) (σ.set i (some (.ref a))) H) : wAll K D ((c, i, ts) :: r) cls d σ H := ⟨true, e, fun _ => h, fun z => nomatch z⟩
theorem wAll_miss (e : PySem.W.exmOne K cls c = some false) (h : wAll K D r cls d σ H) : wAll K D ((c, i, ts) :: r) cls d σ H := ⟨false, e, fun z => (nomatch z), fun _ => h⟩
end
/-- what the def makes of the lambda: R of an error, zv without one -/
abbrev TTs (R : Value → Option Addr → Hp → VK → Prop) (zv : V) : (XK → Hp → VK → Prop) → Hp → VK → Prop := fun tl H Q => tl (fun cls d H' => R cls d H' Q) H fun _ H' => Q zv H'
theorem heards_gives {X : Cx} {Ng : List Str} {xg a q : Str} {sg : Scope} {g : Addr} {cdg : Value} {hd : ExceptHandler} {hds : List ExceptHandler} {l : List Clause} {z : Expr} {zv : V} {R : Value → Option Addr → Hp → VK → Prop} {p1 p2 p3 p6 p8 : Pos}
    (nd : Ng.Nodup) (hk : ∀ (s : Shared) (H : Hp), ClsOk (cxOf C8.CX0 X.prog X.w X.K X.mg X.base Ng xg sg g cdg X.A X.stack s H C8.E0).nox (hd :: hds) l) (hz : ∀ Y : Cx, PE Y z (tC zv))
    (h0 : ∀ f : Addr, (L2.start Ng [V.ref f])[0]? = some (some (V.ref f)))
    (hR : ∀ (D : Ends) (σ : L2.St) (cls : Value) (d : Option Addr) (H : Hp), σ.length = Ng.length → R cls d H D.rt → wAll X.K D l cls d σ H) :
    LamX.GivesTo X Ng xg sg g cdg [.Try [.Expr (.Call (.Name a p1) [] [] p2) p3] (hd :: hds) [] [] p6, .Return (some z) p8] a q (TTs R zv) := by
  intro f c' s H Q tl act hc h
  refine ⟨_, pss_cons (ps_try_all (X := (cxOf C8.CX0 X.prog X.w X.K X.mg X.base Ng xg sg g cdg X.A X.stack s H C8.E0).nox)
      (tb := fun W D σ H => ∃ En : XK, (∀ cls d σ' H', σ'.length = Ng.length → En cls d H' → W cls d σ' H') ∧ σ[0]? = some (some (.ref f)) ∧ H c' = some (LamX.CodeO c' q) ∧ tl En H fun _ H' => D.nx σ H')
      rfl rfl nd (hk s H) fun W pn xe tk _ => ⟨fun pins s' σ H' D I hh => ?_⟩) (pss_one (ps_ret (hz _))), ?_⟩
  · obtain ⟨En, hW, a1, a2, a3⟩ := hh
    exact (pss_one (ps_expr (act _ pn xe En p1 p2 (takes_len tk) fun cls d σ' H' he hl => hW cls d σ' H' hl he))).run pins s' σ H' D I ⟨a1, a2, a3⟩
  · exact ⟨fun cls d H' => R cls d H' Q, fun cls d σ' H' hl hr => hR _ σ' cls d H' hl hr, h0 f, hc, h⟩
end Gd
/-! Defs that hand lambdas over: their code object is told; what stands while tables grow. -/
namespace Gd
open PySem PySem.Spec PyProof.Rows L2
/-- a table of lambdas among those that are followed: of the code object c, its lambdas bear the name z -/
structure LamT (T : List (Addr × Str)) (base : Heap) (mg : Str → Option Value) (c P : Addr) (z : Str) : Prop where
  tb : LamX.TabB base mg c P
  mem : (P, z) ∈ T
  un : ∀ p ∈ T, p.1 = P → p.2 = z
theorem un_of {z : Str} {P : Addr} : ∀ {T : List (Addr × Str)}, (T.map (·.1)).Nodup → (P, z) ∈ T → ∀ p ∈ T, p.1 = P → p.2 = z
  | q :: r, n, m, p, hp, e => by
    rw [List.map_cons] at n
    obtain ⟨n1, n2⟩ := List.nodup_cons.mp n
    rcases List.mem_cons.mp m with m | m
    · rcases List.mem_cons.mp hp with hp | hp
      · rw [hp, ← m]
      · exact absurd (List.mem_map.mpr ⟨p, hp, by rw [e, ← m]⟩) n1
    · rcases List.mem_cons.mp hp with hp | hp
      · exact absurd (List.mem_map.mpr ⟨(P, z), m, by rw [← e, hp]⟩) n1
      · exact un_of n2 m p hp e
section
variable {P : Program} {w : World} {K : PySem.W.Frag} {mg : Str → Option Value} {base : Heap}
/-- a def of the text, by its body, its code object known -/
theorem okGC {x qual : Str} {st : Stmt} {f c : Addr} {fd : FuncData} {N ps : List Str} {k : Nat} {sp : Sp} (F : Fun K x qual st f fd) (hc : fd.code = .ref c) (S : FnScope N ps (defScope st))
    (len : ∀ xs H Q E, sp xs H Q E → xs.length = ps.length)
    (body : ∀ (A : Around) (out : List Env) (s : Shared) (H : Hp) (xs : List V) (Q : VK) (E : XK), RmG k (A.deeper (envOfC qual (defScope st) s.heap.objs.size f (.ref c))) → sp xs H Q E →
      ∃ t, PSs (cxOf CX0 P w K mg base N qual (defScope st) f (.ref c) A out s H E).nox (defBody st) t ∧ t { nx := fun _ G => Q .non G, rt := Q } (start N xs) H) : FnG P w K mg base (k + 1) f fd ps sp := by
  obtain ⟨oc, od, kV, doc, pm, an, cv, ct, osl, rfl, lk, hcd⟩ := F.ex
  obtain rfl : cv = .ref c := hc
  refine ⟨len, fun A out s H ar us xs Q E hr e0 hb rv hsp => ?_⟩
  have up : ∀ b o, base.get? b = some o → s.heap.get? b = some o := fun b o e => (e0.bs b o e).1
  have KX := e0.mod.kin.keeps up
  refine codeAny_call_function hr.rm.depth (KX _ _ lk) rfl S.co S.gen rfl (PySem.W.codeRec_of KX hcd) (hb _ _ _ _ (wpAny_newFunctionEnv_cells S.kind (fun y hy => ?_) fun env he s1 I1 => ?_))
  · exact (S.par y.1 (List.of_mem_zip hy).1).imp id fun q => ⟨q, PySem.W.cellsFrom_some _ _ _ (.inl q)⟩
  subst he
  refine ⟨(e0.mod.nolimit.keeps up).keeps I1.toInCall.keep, codeAny_func ?_⟩
  obtain ⟨t, ht, hq⟩ := body A out s H xs Q E ⟨hr.rm.deeper _, hr.gd⟩ hsp
  refine wpAny_mono (ht.nox.run [] s1 (start N xs) H _ (inv_start S hr.rm.hd e0 (len _ _ _ _ hsp) rv I1) hq) (fun fl s' hs => ?_) fun _ _ z => z
  rcases fl with _ | u | _ | _
  · obtain ⟨σ', G, J, q⟩ := hs; exact ⟨.non, G, J.os, J.bare, J.base, J.hok, rfl, q⟩
  all_goals first
    | (obtain ⟨v, σ', G, J, r1, q⟩ := hs; exact ⟨v, G, J.os, J.bare, J.base, J.hok, r1, q⟩)
    | exact (hs.choose_spec.choose_spec.2).elim
end
/-- what a lambda's body may raise is heard -/
theorem passX {X : Cx} {A : Around} {out : List Env} {s : Shared} {H : Hp} {E : XK} {sc : Scope} {f c' : Addr} : Passes (L2.CX X.prog X.w) (LamX.lamCx X A out s H E sc f c') E := passes_call (takes_of rfl rfl rfl rfl) fun _ _ _ _ h => h
/-- f(lambda: ..), f one that hears errors -/
theorem pe_lamT {X : Cx} {T : List (Addr × Str)} {TT : (XK → Hp → VK → Prop) → Hp → VK → Prop} {x a : Str} {g c P : Addr} {k : Nat} {st : Stmt} {fd : FuncData} {Ng : List Str} {params : Arguments} {body : Expr} {scope : Scope} {t : XK → TE} {p lpos pos : Pos}
    (F : Fun X.K x x st g fd) (b : Binds X.K fd [a] []) (hg : Gl X x) (hm : X.mg x = some (.ref g)) (S : FnScope Ng [a] (defScope st)) (h0 : Ng[0]? = some a) (hv : Vis (defScope st) a)
    (hG : ∀ cdv, LamX.GivesTo X Ng x (defScope st) g cdv (defBody st) a (X.env.qual ++ "<lambda>") TT) (L : LamT T X.base X.mg c P (X.env.qual ++ "<lambda>")) (hcode : X.env.code = .ref c) (hr : Room (k + 2) X.A) (hl : LamX.LamS X.env.scope scope)
    (hbody : ∀ (A : Around) (outer : List Env) (s : Shared) (H : Hp) (E : XK) (f c' : Addr), Room k (A.deeper (LamX.lamEnv X scope s.heap.objs.size f c')) → PE (LamX.lamCx X A outer s H E scope f c') body (t E))
    (hdef : defaultsOf params X.env = ([], []) := by rfl) (hbind : ∀ (q : Str) (cl : List (Str × Addr)) (pm cv ctv : Value), bindArgs (PySem.W.kla_fn "<lambda>" q params body scope cl pm cv ctv) ⟨[], []⟩ = pure [] := by intros; rfl)
    (hdb : (x == ("__debug__" : Str)) = false := by decide) (hd : (a == ("__debug__" : Str)) = false := by decide) (hcd : (a == ("__classdict__" : Str)) = false := by decide) :
    PE X (.Call (.Name x p) [.Lambda params body scope lpos] [] pos) (LamX.tLam T TT t) := by
  obtain ⟨oc, od, kV, doc, pm, an, cdv, ct, osl, rfl, lk, hc⟩ := F.ex
  exact LamX.pe_lamcall hg hm F.kp lk hc b S h0 hv (hG cdv) L.tb hcode L.mem L.un hr hl hdef hbind hbody hdb hd hcd
end Gd
/-! Sets of tuples of ints with more than 63 of them: the search. -/
namespace Pu
open PySem PySem.Spec PyProof.Rows L2
/-- the set of tuples L at a; up to 76 of them -/
structure SU (P : Program) (w : World) (h : Heap) (a : Addr) (L : List (Addr × List Int)) (es : Array (Int × Value)) (ep : Nat) (t : SetTable) : Prop where
  obj : ∃ o, (h.get? a = some o ∧ o.data = .set es ep t) ∧ o.ExactSet
  rowL : es.toList = rowsOf P w L
  tabL : TabOk t (L.map fun q => thash P w q.2)
  alone : (L.map Prod.snd).Nodup
  each : ∀ q ∈ L, IsT P w h q.2 q.1
  flat : t.plain = true
  ledU : t.led = true ∨ w.params.followText "set-order" = true
  roomU : 5 * L.length < 3 * t.mask
section
variable {P : Program} {w : World} {h : Heap} {a : Addr} {L : List (Addr × List Int)} {es : Array (Int × Value)} {ep : Nat} {t : SetTable}
theorem SU.of (R : SetTR P w h a L es ep t) : SU P w h a L es ep t := by
  obtain ⟨⟨o, b1, b2, b3⟩, r2, r3, r4, r5, r6, r7, r8, _⟩ := R
  exact ⟨⟨o, ⟨b1, b3⟩, b2⟩, r2, r3, r4, r5, r6, r7.symm, by omega⟩
theorem SU.small (R : SU P w h a L es ep t) (hl : L.length < 64) : SetTR P w h a L es ep t := by
  obtain ⟨⟨o, ⟨b1, b3⟩, b2⟩, r2, r3, r4, r5, r6, r7, r8⟩ := R
  exact ⟨⟨o, b1, b2, b3⟩, r2, r3, r4, r5, r6, r7.symm, by omega, hl⟩
theorem SU.len (R : SU P w h a L es ep t) : es.size = L.length := by
  rw [← Array.length_toList, R.rowL]
  exact List.length_map ..
theorem SU.places (R : SU P w h a L es ep t) : t.place.toList.length = L.length := by
  have := R.tabL.sz
  rw [List.length_map, ← Array.length_toList] at this
  exact this
theorem SU.fit (R : SU P w h a L es ep t) : t.fits es.size = true := by
  have h1 := R.places
  have h2 := R.len
  have h3 := R.roomU
  rw [Array.length_toList] at h1
  simp only [SetTable.fits, SetTable.fill, R.tabL.dm, Bool.and_eq_true, beq_iff_eq, decide_eq_true_eq]
  refine ⟨by omega, ?_⟩
  show t.place.size + (#[] : Array Nat).size ≤ t.mask
  have : (#[] : Array Nat).size = 0 := rfl
  omega
theorem SU.at (R : SU P w h a L es ep t) {i : Nat} {q : Addr × List Int} (e : L[i]? = some q) : es[i]? = some (thash P w q.2, .ref q.1) := by
  rw [← Array.getElem?_toList, R.rowL, show rowsOf P w L = L.map fun p => (thash P w p.2, Value.ref p.1) from rfl, List.getElem?_map, e, Option.map_some]
/-- the first probe of a hash -/
abbrev pr0 (m : Nat) (x : Int) : SetTable.Probe := runAt m (SetTable.bits x % (m + 1)) (SetTable.bits x)
theorem nth_dummy (m : Nat) : ∀ (n : Nat) (p : SetTable.Probe), p.dummy = none → (nth m p n).dummy = none
  | 0, _, e => e
  | n + 1, p, e => nth_dummy m n (adv m p) (by unfold adv; split <;> exact e)
/-- what the probe meets from the step c on -/
theorem SU.probe (R : SU P w h a L es ep t) (x : Int) {K c : Nat} (hKf : K < 10 * SetTable.turns t.mask) (hc : c ≤ K) (hn : way t.mask x K ∉ t.place.toList) (hb : ∀ d, d < K → way t.mask x d ∈ t.place.toList) :
    (∃ (d i : Nat) (q : Addr × List Int), c ≤ d ∧ d < K ∧ L[i]? = some q ∧ t.place.toList[i]? = some (way t.mask x d) ∧
      (∀ (d' i' : Nat) (q' : Addr × List Int), c ≤ d' → d' < d → t.place.toList[i']? = some (way t.mask x d') → L[i']? = some q' → thash P w q'.2 ≠ x) ∧
      t.probe (fun i => (es[i]?.map (·.1)).getD 0) x (nth t.mask (pr0 t.mask x) c) = some (.candidate (way t.mask x d) i (nth t.mask (pr0 t.mask x) (d + 1)))) ∨
    ((∀ (d' i' : Nat) (q' : Addr × List Int), c ≤ d' → d' < K → t.place.toList[i']? = some (way t.mask x d') → L[i']? = some q' → thash P w q'.2 ≠ x) ∧
      t.probe (fun i => (es[i]?.map (·.1)).getD 0) x (nth t.mask (pr0 t.mask x) c) = some (.empty (way t.mask x K) none)) := by
  have sh : ∀ r, nth t.mask (nth t.mask (pr0 t.mask x) c) r = nth t.mask (pr0 t.mask x) (c + r) := fun r => (nth_add t.mask c _ r).symm
  have wj : ∀ r, (nth t.mask (nth t.mask (pr0 t.mask x) c) r).j = way t.mask x (c + r) := fun r => by rw [sh]
  have hk : ∀ d, c ≤ d → way t.mask x d = (nth t.mask (nth t.mask (pr0 t.mask x) c) (d - c)).j := fun d hd => by rw [wj, show c + (d - c) = d by omega]
  have hh : ∀ {i : Nat} {q : Addr × List Int}, L[i]? = some q → (es[i]?.map (·.1)).getD 0 = thash P w q.2 := fun {i q} e => by rw [R.at e]; rfl
  have sp := go_spec t R.tabL.ris R.tabL.dm (fun i => (es[i]?.map (·.1)).getD 0) x (10 * SetTable.turns t.mask) (K - c) (nth t.mask (pr0 t.mask x) c) (nth_dummy _ _ _ rfl) (by omega)
    (fun r hr => by rw [wj]; exact hb _ (by omega)) (by rw [← hk K hc]; exact hn)
  rcases sp with ⟨r, i, hr, hi, _, hno, e⟩ | ⟨hno, e⟩
  · have hil : i < L.length := by
      have := (List.getElem?_eq_some_iff.mp hi).1
      rw [R.places] at this
      exact this
    rw [wj] at hi e
    refine .inl ⟨c + r, i, L[i], by omega, by omega, List.getElem?_eq_getElem hil, hi, fun d' i' q' h1 h2 h3 h4 => ?_, ?_⟩
    · rw [← hh h4]
      exact hno (d' - c) i' (by omega) (by rw [← hk d' h1]; exact h3)
    · rw [sh] at e
      exact e
  · refine .inr ⟨fun d' i' q' h1 h2 h3 h4 => ?_, by rw [hk K hc]; exact e⟩
    rw [← hh h4]
    exact hno (d' - c) i' (by omega) (by rw [← hk d' h1]; exact h3)
end
section
variable {P : Program} {w : World} {A : Around} {E : Value → Shared → Prop} {s : Shared} {a : Addr} {L : List (Addr × List Int)} {es : Array (Int × Value)} {ep : Nat} {t : SetTable}
theorem look_from (R : SU P w s.heap a L es ep t) {x : Addr} {k : List Int} (hx : IsT P w s.heap k x) (hu : A.units < cLine) {K : Nat} {Q : SetFound → Shared → Prop} (hKf : K < 10 * SetTable.turns t.mask)
    (hn : way t.mask (thash P w k) K ∉ t.place.toList) (hb : ∀ d, d < K → way t.mask (thash P w k) d ∈ t.place.toList)
    (yes : k ∈ L.map Prod.snd → Q (.there none) s) (no : k ∉ L.map Prod.snd → Q (.free (way t.mask (thash P w k) K) false) s) :
    ∀ (n c : Nat) (stand : Option SetTable.Probe), c ≤ K → K < n + c → stand.getD (t.probeStart (thash P w k)) = nth t.mask (pr0 t.mask (thash P w k)) c →
      (∀ (i : Nat) q, L[i]? = some q → q.2 = k → ∃ d, c ≤ d ∧ d < K ∧ t.place.toList[i]? = some (way t.mask (thash P w k) d)) →
      wpAny (model P w) A (setSearchFrom a (.ref x) (thash P w k) true n stand) Q E s := by
  obtain ⟨o, ⟨ho, hd⟩, _⟩ := R.obj
  intro n
  induction n with
  | zero => intro c _ h1 h2; exact absurd h2 (by omega)
  | succ n ih =>
    intro c stand h1 h2 hst hin
    rw [setSearchFrom_succ]
    refine wpAny_bind (wpAny_setState_of ho hd R.fit ?_)
    dsimp only
    have gw : ¬ t.gaveWay = true := by simp [SetTable.gaveWay, mask_odd R.tabL.mok]
    refine wp_if_neg gw ?_
    try refine wpAny_bind (wpAny_pure ?_)
    rw [hst]
    rcases R.probe (thash P w k) hKf h1 hn hb with ⟨d, i, q, d1, d2, hq, hi, bef, e⟩ | ⟨bef, e⟩
    · rw [e]
      dsimp only
      have hm := List.mem_of_getElem? hq
      have go : wpAny (model P w) A (searchRest a (.ref x) (thash P w k) true n es t (way t.mask (thash P w k) d) i (nth t.mask (pr0 t.mask (thash P w k)) (d + 1))) Q E s := by
        unfold searchRest
        rw [R.at hq]
        dsimp only
        refine wpAny_bind (wpAny_holding (wpAny_eqBool_tuple hu (R.each q hm) hx (wpAny_bind (wpAny_setState_of ho hd R.fit ?_))))
        dsimp only
        by_cases qk : q.2 = k
        · exact wp_if_pos (by simp [qk]) (wpAny_pure (yes (by rw [← qk]; exact List.mem_map_of_mem hm)))
        · refine wp_if_neg (by simp [qk]) ?_
          try refine wpAny_bind (wpAny_pure ?_)
          have sl := slot_live R.tabL.ris hi
          rw [sameMem]
          simp only [if_true, sl, R.at hq]
          refine wpAny_bind (wpAny_isSame_ref_self (wpAny_bind (wpAny_pure ?_)))
          simp only [if_true]
          refine wp_if_neg (by simp [qk]) (ih (d + 1) _ (by omega) (by omega) rfl fun i0 q0 e0 k0 => ?_)
          obtain ⟨d0, f1, f2, f3⟩ := hin i0 q0 e0 k0
          refine ⟨d0, ?_, f2, f3⟩
          rcases Nat.lt_trichotomy d0 d with z | z | z
          · exact absurd (by rw [k0]) (bef d0 i0 q0 f1 z f3 e0)
          · subst z
            have s0 := slot_live R.tabL.ris f3
            rw [sl] at s0
            injection s0 with s0
            rw [← s0, hq] at e0
            cases e0
            exact absurd k0 qk
          · exact z
      cases hl : t.led with
      | true =>
        refine wp_if_neg (by decide) ?_
        try refine wpAny_bind (wpAny_pure ?_)
        exact go
      | false =>
        refine wp_if_pos (by decide) (wpAny_bind (seen_tup hx (fun y hy => ?_) ?_))
        · obtain ⟨r, hr, rfl⟩ := List.mem_map.mp hy
          have : r ∈ es.toList := by
            have m1 : r ∈ es ∧ r.1 = thash P w k := by simpa using hr
            simpa using m1.1
          rw [R.rowL] at this
          obtain ⟨q2, m2, rfl⟩ := List.mem_map.mp this
          exact ⟨_, _, rfl, R.each q2 m2⟩
        · refine wp_if_neg (by decide) ?_
          try refine wpAny_bind (wpAny_pure ?_)
          exact go
    · rw [e]
      dsimp only
      refine wpAny_pure (no fun hm => ?_)
      obtain ⟨q, hq, qk⟩ := List.mem_map.mp hm
      obtain ⟨i, hi, e0⟩ := List.getElem_of_mem hq
      have hi' : L[i]? = some q := by rw [List.getElem?_eq_getElem hi, e0]
      obtain ⟨d, f1, f2, f3⟩ := hin i q hi' qk
      exact bef d i q f1 f2 f3 hi' (by rw [qk])
/-- the search of one that may be added -/
theorem look (R : SU P w s.heap a L es ep t) {x : Addr} {k : List Int} (hx : IsT P w s.heap k x) (hu : A.units < cLine) {Q : SetFound → Shared → Prop} (yes : k ∈ L.map Prod.snd → Q (.there none) s)
    (no : ∀ K, k ∉ L.map Prod.snd → way t.mask (thash P w k) K ∉ t.place.toList → (∀ d, d < K → way t.mask (thash P w k) d ∈ t.place.toList) → Q (.free (way t.mask (thash P w k) K) false) s) :
    wpAny (model P w) A (setSearch a (.ref x) (thash P w k) true) Q E s := by
  have hr := R.roomU
  obtain ⟨K, k1, k2, k3⟩ := R.tabL.first (by rw [List.length_map]; omega) (thash P w k)
  have big : 10 * SetTable.turns t.mask < 99999 := by
    have : t.mask ≤ 127 := by rcases R.tabL.mok with e | e | e <;> omega
    unfold SetTable.turns
    omega
  unfold setSearch
  refine look_from R hx hu k1 k2 k3 yes (fun z => no K z k2 k3) 100000 0 none (Nat.zero_le _) (by omega) rfl fun i q e ek => ?_
  have hil : i < t.place.toList.length := by
    rw [R.places]
    exact (List.getElem?_eq_some_iff.mp e).1
  have hj := List.getElem?_eq_getElem hil
  obtain ⟨d, d1, d2⟩ := R.tabL.before k2 (show (L.map fun q => thash P w q.2)[i]? = some (thash P w k) by rw [List.getElem?_map, e, ← ek]; rfl) hj
  exact ⟨d, Nat.zero_le _, d1, by rw [hj, d2]⟩
end
end Pu
/-! Sets of tuples of ints with more than 63 of them: one added, many added. -/
namespace Pu
open PySem PySem.Spec PyProof.Rows L2
section
variable {P : Program} {w : World} {A : Around} {E : Value → Shared → Prop} {s : Shared} {a : Addr} {L : List (Addr × List Int)} {es : Array (Int × Value)} {ep : Nat} {t : SetTable}
theorem add_u (R : SU P w s.heap a L es ep t) {x : Addr} {k : List Int} (hx : IsT P w s.heap k x) (hu : A.units < cLine) (h76 : L.length + 1 ≤ 76 ∨ k ∈ L.map Prod.snd) {Q : Bool → Shared → Prop}
    (hQ : ∀ b h' L' es' ep' t', Heap.SameBut a s.heap h' → SU P w h' a L' es' ep' t' → (k ∈ L.map Prod.snd → L' = L) → (k ∉ L.map Prod.snd → L'.Perm ((x, k) :: L)) → Q b { s with heap := h' }) :
    wpAny (model P w) A (setAddHashed a (.ref x) (thash P w k)) Q E s := by
  by_cases few : L.length + 1 < 64
  · exact add_at (R.small (by omega)) hx hu few fun b h' L' es' ep' t' h1 h2 h3 h4 => hQ b h' L' es' ep' t' h1 (.of h2) h3 h4
  have hr := R.roomU
  have m127 : t.mask = 127 := by rcases R.tabL.mok with e | e | e <;> omega
  obtain ⟨o, ⟨ho, hd⟩, hex⟩ := R.obj
  unfold setAddHashed
  refine wpAny_holding ?_
  have e5 : (100000 : Nat) = 99999 + 1 := rfl
  rw [e5, setAddHashedIn_succ]
  refine wpAny_bind (wpAny_setState_of ho hd R.fit ?_)
  dsimp only
  refine wp_if_neg (by simp [byScan, Value.scannable]) ?_
  try refine wpAny_bind (wpAny_pure ?_)
  refine wpAny_bind (look R hx hu (fun hm => ?_) fun K hm hn hb => ?_)
  · exact wpAny_pure (hQ false s.heap L es ep t (.refl a s.heap) R (fun _ => rfl) fun z => absurd hm z)
  dsimp only
  have l76 : L.length + 1 ≤ 76 := h76.resolve_right hm
  refine wpAny_bind (wpAny_setState_of ho hd R.fit ?_)
  dsimp only
  obtain ⟨f1, f2, f3, f4, f5, f6, _, _, f9⟩ := R.tabL.put hn hb
  have fp : (t.put (way t.mask (thash P w k) K)).1.plain = true := f6.trans R.flat
  have fb : SetTable.below t.place (way t.mask (thash P w k) K) ≤ L.length := by simpa using f2
  generalize t.put (way t.mask (thash P w k) K) = tt at f1 f3 f4 f5 f6 f9 fp ⊢
  obtain ⟨t1, j⟩ := tt
  dsimp only at f1 f3 f4 f5 f6 f9 fp ⊢
  subst f1
  first
    | (refine wpAny_bind ?_; refine wp_if_pos fp (hashBy_tup hx ?_))
    | refine wp_if_pos fp (wpAny_bind (hashBy_tup hx ?_))
  simp only [if_true]
  have ins : (SetTable.insertAt es (SetTable.below t.place (way t.mask (thash P w k) K)) (thash P w k, .ref x)).toList = rowsOf P w (L.take (SetTable.below t.place (way t.mask (thash P w k) K)) ++ (x, k) :: L.drop (SetTable.below t.place (way t.mask (thash P w k) K))) := by
    rw [rows_put, ← R.rowL, SetTable.toList_insertAt]
  generalize SetTable.below t.place (way t.mask (thash P w k) K) = j at f3 ins fb ⊢
  have pm := put_perm L j (x, k)
  have hL : (L.take j ++ (x, k) :: L.drop j).map (fun q => thash P w q.2) = (L.map fun q => thash P w q.2).take j ++ thash P w k :: (L.map fun q => thash P w q.2).drop j := by
    simp only [List.map_append, List.map_cons, List.map_take, List.map_drop]
  rw [← hL] at f3
  have nd : ((L.take j ++ (x, k) :: L.drop j).map Prod.snd).Nodup := (pm.map Prod.snd).nodup_iff.mpr (List.nodup_cons.mpr ⟨hm, R.alone⟩)
  have l1 : (SetTable.insertAt es j (thash P w k, .ref x)).size = L.length + 1 := by
    rw [← Array.length_toList, ins]
    exact (List.length_map ..).trans pm.length_eq
  generalize SetTable.insertAt es j (thash P w k, Value.ref x) = es1 at ins l1 ⊢
  have l2 := pm.length_eq
  rw [List.length_cons] at l2
  generalize L.take j ++ (x, k) :: L.drop j = L1 at pm l2 f3 nd ins
  refine wpAny_bind (wpAny_storeSet_of ho hd ?_ (by rw [l1, sizeLine_eq]; omega))
  have sb := Heap.SameBut.update s.heap a (Obj.putSet es1 t1)
  have ho1 := store_at (es' := es1) (t' := t1) ho hd
  generalize s.heap.update a (Obj.putSet es1 t1) = h1 at sb ho1 ⊢
  rw [List.length_map] at f9
  have ntf : ¬ t1.tooFull = true := by
    unfold SetTable.tooFull
    rw [decide_eq_true_eq, f9, f4, m127]
    omega
  have fin : Q true { s with heap := h1 } := hQ true h1 L1 es1 (ep + 1) t1 sb ⟨⟨_, ⟨ho1, rfl⟩, hex⟩, ins, f3, nd, fun q hq => ?_, fp, by rw [f5]; exact R.ledU, by rw [l2, f4, m127]; omega⟩ (fun z => absurd z hm) fun _ => pm
  · first
      | exact wp_if_neg (by simp [ntf]) (wpAny_pure fin)
      | exact wpAny_bind (wp_if_neg (by simp [ntf]) (wpAny_pure (wpAny_pure fin)))
  · rcases List.mem_cons.mp (pm.mem_iff.mp hq) with e | hq
    · rw [e]
      exact isT_same hx ho hd sb
    · exact isT_same (R.each q hq) ho hd sb
theorem SU.keep {h h' : Heap} (R : SU P w h a L es ep t) (ha : ∀ o, h.get? a = some o → h'.get? a = some o) (ht : ∀ q ∈ L, IsT P w h' q.2 q.1) : SU P w h' a L es ep t := by
  obtain ⟨o, ⟨ho, hd⟩, hex⟩ := R.obj
  exact ⟨⟨o, ⟨ha o ho, hd⟩, hex⟩, R.rowL, R.tabL, R.alone, ht, R.flat, R.ledU, R.roomU⟩
theorem nd_le2 {α : Type} [DecidableEq α] : ∀ {l m : List α}, l.Nodup → (∀ x ∈ l, x ∈ m) → l.length ≤ m.length
  | [], _, _, _ => Nat.zero_le _
  | x :: l, m, hn, h => by
    obtain ⟨n1, n2⟩ := List.nodup_cons.mp hn
    have mx := h x List.mem_cons_self
    have := nd_le2 (m := m.erase x) n2 fun y hy => (List.mem_erase_of_ne fun e : y = x => n1 (e ▸ hy)).mpr (h y (List.mem_cons_of_mem _ hy))
    rw [List.length_erase_of_mem mx] at this
    have := List.length_pos_of_mem mx
    rw [List.length_cons]
    omega
/-- no more unlike ones than stand in us -/
theorem got_len {ks : List (Addr × List Int)} {i : Nat} {us : List (List Int)} (g : Got ks i L) (nd : (L.map Prod.snd).Nodup) (hu : ∀ q ∈ ks, q.2 ∈ us) : ∀ k, k ∈ us → L.length + 1 ≤ us.length ∨ k ∈ L.map Prod.snd := fun k hk => by
  by_cases m : k ∈ L.map Prod.snd
  · exact .inr m
  refine .inl ?_
  have sub : ∀ y ∈ k :: L.map Prod.snd, y ∈ us := fun y hy => by
    rcases List.mem_cons.mp hy with e | hy
    · rw [e]; exact hk
    · obtain ⟨q, hq, rfl⟩ := List.mem_map.mp hy
      exact hu q (List.mem_of_mem_take (g.sub q hq))
  have hn : (k :: L.map Prod.snd).Nodup := List.nodup_cons.mpr ⟨m, nd⟩
  have := nd_le2 hn sub
  rw [List.length_cons, List.length_map] at this
  exact this
/-- the loop of set.update -/
theorem upd_loop {I : Addr} {fp wr : List Addr} {G : Array GenState → Array GenState → Prop} {Pv : Nat → Value → Prop} {St : Nat → Shared → Prop} {R : Result → Shared → Prop} (S : Addr) (ks : List (Addr × List Int)) (us : List (List Int))
    (W : WalksS P w A.in1 I fp wr G ks.length Pv St) (hSf : S ∉ fp) (hus : us.length ≤ 76) (hin : ∀ q ∈ ks, q.2 ∈ us) (hval : ∀ i v, Pv i v → ∃ q, ks[i]? = some q ∧ v = .ref q.1)
    (h0 : Heap) (hk : ∀ q ∈ ks, IsT P w h0 q.2 q.1) (hS0 : h0.get? S = none) (hw0 : ∀ b ∈ wr, h0.get? b = none) (hu : A.in1.units < cLine) :
    ∀ (m i : Nat) (s : Shared), i + m = ks.length → St i s → (∀ b o, h0.get? b = some o → s.heap.get? b = some o) → (∃ L es ep t, SU P w s.heap S L es ep t ∧ Got ks i L) →
      (∀ s' L es ep t, Moved (S :: wr) G s s' → SU P w s'.heap S L es ep t → Got ks ks.length L → (∀ b o, h0.get? b = some o → s'.heap.get? b = some o) → R (.ok (.ret .none)) s') →
      codeAny (model P w) A (.builtin "set.update.loop" ⟨[.ref S, .ref I], []⟩) R s
  | 0, i, s, hi, hst, hkp, ⟨L, es, ep, t, hS, g⟩, hR => by
    have hi' : i = ks.length := hi
    subst hi'
    refine codeAny_builtin F.entry_set_update_loop ?_
    rw [Around.under_plainId F.plain_set_update_loop]
    show wpAny _ _ (pyNext (.ref I) >>= _) _ _ _
    refine wpAny_bind (W.done _ _ _ hst fun s' hm => wpAny_pure ?_)
    have kp : ∀ b o, h0.get? b = some o → s'.heap.get? b = some o := fun b o e => hm.heap b o (fun hb => by cases (hw0 b hb).symm.trans e) (hkp b o e)
    exact hR s' L es ep t (hm.mono fun b hb => List.mem_cons_of_mem _ hb) (hS.keep (fun o e => hm.heap S o (fun z => hSf (W.sub _ z)) e) fun q hq => isT_keep (hk q (List.mem_of_mem_take (g.sub q hq))) kp) g kp
  | m + 1, i, s, hi, hst, hkp, ⟨L, es, ep, t, hS, g⟩, hR => by
    refine codeAny_builtin F.entry_set_update_loop ?_
    rw [Around.under_plainId F.plain_set_update_loop]
    show wpAny _ _ (pyNext (.ref I) >>= _) _ _ _
    refine wpAny_bind (W.item i _ _ _ (by omega) hst fun v s' hv hst' hm => ?_)
    obtain ⟨q, hq, rfl⟩ := hval i v hv
    have mq := List.mem_of_getElem? hq
    have kp : ∀ b o, h0.get? b = some o → s'.heap.get? b = some o := fun b o e => hm.heap b o (fun hb => by cases (hw0 b hb).symm.trans e) (hkp b o e)
    have hS' : SU P w s'.heap S L es ep t := hS.keep (fun o e => hm.heap S o (fun z => hSf (W.sub _ z)) e) fun q hq => isT_keep (hk q (List.mem_of_mem_take (g.sub q hq))) kp
    have hx : IsT P w s'.heap q.2 q.1 := isT_keep (hk q mq) kp
    show wpAny _ _ (holding [Value.ref q.1] (setAdd S (.ref q.1)) >>= _) _ _ _
    refine wpAny_bind (wpAny_holding ?_)
    unfold setAdd
    refine wpAny_holding (wpAny_bind (wpAny_pyHash_tuple hu hx ?_))
    refine add_u (s := { s' with toks := s'.toks + (q.2.length + 1) }) hS' hx hu ((got_len g hS.alone hin q.2 (hin q mq)).imp_left fun z => by omega) fun b h' L' es' ep' t' sb S2 c1 c2 => ?_
    have g' : Got ks (i + 1) L' := by
      by_cases c : q.2 ∈ L.map Prod.snd
      · rw [c1 c]
        exact g.same hq c
      · exact g.more hq (c2 c)
    refine wpAny_pure ⟨plainId_quiet F.plain_set_update_loop _, ?_⟩
    refine upd_loop S ks us W hSf hus hin hval h0 hk hS0 hw0 hu m (i + 1) _ (by omega) (W.frame _ s' _ _ hst' (Nat.le_add_right _ _) fun b hb o e => ?_) (fun b o e => ?_) ⟨L', es', ep', t', S2, g'⟩ fun s3 L3 es3 ep3 t3 hm3 S3 g3 kp3 => ?_
    · rw [sb.2 b fun z => hSf (z ▸ hb)]
      exact e
    · rw [sb.2 b fun z => by rw [z, hS0] at e; cases e]
      exact kp b o e
    · refine hR s3 L3 es3 ep3 t3 (Moved.trans W.gtrans ((hm.mono fun b hb => List.mem_cons_of_mem _ hb).then_heap (Nat.le_add_right _ _) fun b o hb e => ?_) hm3) S3 g3 kp3
      rw [sb.2 b fun z => hb (z ▸ List.mem_cons_self)]
      exact e
end
end Pu
/-! set(xs), xs a list of tuples of ints, up to 76 unlike ones. -/
namespace Pu
open PySem PySem.Spec PyProof.Rows L2
/-- a new set -/
abbrev nuO (w : World) : Obj := { cls := .type "set", dict := none, data := .set #[] 0 (.fresh 0 0 (!w.params.followText "set-order")) }
section
variable {P : Program} {w : World} {A : Around} {E : Value → Shared → Prop} {s : Shared}
set_option maxHeartbeats 3200000 in
theorem set_many {l : Addr} {its : Array Value} (ks : List (Addr × List Int)) (us : List (List Int)) {Q : Value → Shared → Prop} (hn : A.handled = none) (hl : s.heap.IsList l its) (hit : its.toList = ks.map fun q => Value.ref q.1)
    (hk : ∀ q ∈ ks, IsT P w s.heap q.2 q.1) (hin : ∀ q ∈ ks, q.2 ∈ us) (hus : us.length ≤ 76) (hu : A.units + 3 < cLine)
    (h : ∀ (h' : Heap) (tk : Nat) L es ep t, SU P w h' s.heap.objs.size L es ep t → Got ks ks.length L → (∀ b o, s.heap.get? b = some o → h'.get? b = some o) → Q (.ref s.heap.objs.size) { s with heap := h', toks := tk }) :
    wpAny (model P w) A (call (.type "set") [.ref l]) Q E s := by
  have ⟨c, tl, mro⟩ := F.called_set.mro
  have mde := F.called_set.made
  have sbt := F.called_set.sub
  refine wpAny_call (codeAny_of_tree ?_)
  show wpAny _ _ (callAny (.type "set") _) _ _ s
  refine wpAny_pure ⟨Code.quiet_builtin _ (by decide +kernel), codeAny_builtin F.entry_type_call ?_⟩
  rw [Around.under_plain (weight_type_call_type "set" [.ref l] []) rfl]
  have nty := F.called_set.notType
  have can := F.called_set.canCreate
  have tyc := F.typeCall_set_1 (.ref l)
  repeat (any_goals (first | assumption | wp_step))
  refine codeAny_mono (code_set_led1 (.ref l) (E := E) (Q₁ := fun x z => x = .ref s.heap.objs.size ∧ z = { s with heap := s.heap.push (nuO w) }) ⟨rfl, rfl⟩) ?_
  rintro (_ | fl) z hr
  · exact hr
  cases fl with
  | ret x =>
    obtain ⟨rfl, rfl⟩ := hr
    have hS : (s.heap.push (nuO w)).get? s.heap.objs.size = some (nuO w) := Heap.get?_push_size _ rfl
    have ti : Shared.TypeIs { s with heap := s.heap.push (nuO w) } (.ref s.heap.objs.size) "set" := ⟨_, hS, rfl⟩
    have ilk := F.called_set.init.lookup
    have ibd := F.called_set.init.bind (.ref s.heap.objs.size)
    repeat (any_goals (first | assumption | wp_step))
    refine codeAny_mono (codeAny_call_builtin (R := wants (fun r z => r = .none ∧ ∃ h' tk L es ep t, z = { s with heap := h', toks := tk } ∧ (SU P w h' s.heap.objs.size L es ep t ∧ Got ks ks.length L) ∧
        ∀ b o, s.heap.get? b = some o → h'.get? b = some o) E) F.called_set.init.plain F.entry_set_init (check_set_init_1 ti ?_)) ?_
    · obtain ⟨⟨ocls, odict, odata, oslots⟩, hol, rfl, nl, hdl⟩ := hl
      dsimp only at hdl
      subst hdl
      have hol' := Heap.get?_push_of_some (nuO w) hol
      have sb1 := F.sub_list_set
      have sb2 := F.sub_list_frozenset
      have nd : (Value.type "list" == Value.type "dict") = false := by decide
      have hl1 : (s.heap.push (nuO w)).IsList l its := ⟨_, hol', rfl, nl, rfl⟩
      unfold Builtin.«set.__init__» noKeywords Builtin.Frozenset.updateFrom
      generalize hPI : pyIter = PI
      wp_walk
      subst hPI
      refine wpAny_pyIter_list hl1 (wpAny_bind (wpAny_runValue ?_))
      have lS := Heap.lt_size hol
      have hn3 : A.in1.in1.in1.handled = none := by simp [hn]
      have zz : (s.heap.push (nuO w)).objs.size = s.heap.objs.size + 1 := Heap.size_push ..
      have hval : ∀ (i : Nat) (v : Value), its[i]? = some v → ∃ q, ks[i]? = some q ∧ v = .ref q.1 := fun i v hv => by
        have e : (ks.map fun q => Value.ref q.1)[i]? = some v := by rw [← hit, Array.getElem?_toList]; exact hv
        rw [List.getElem?_map] at e
        obtain ⟨q, e1, e2⟩ := Option.map_eq_some_iff.mp e
        exact ⟨q, e1, e2.symm⟩
      have nof : ∀ b, s.heap.objs.size ≤ b → s.heap.get? b = none := fun b hb => by
        cases e : s.heap.get? b with
        | none => rfl
        | some o => exact absurd (Heap.lt_size e) (Nat.not_lt.mpr hb)
      have isz : its.size = ks.length := by rw [← Array.length_toList, hit]; exact List.length_map ..
      have W0 := (Walks.list (prog := P) (w := w) hn3 (s.heap.push (nuO w)).objs.size l (by rw [zz]; exact Nat.ne_of_lt (Nat.lt_succ_of_lt lS)) its).toS
      rw [isz] at W0
      refine upd_loop s.heap.objs.size ks us W0 (by
        rw [zz]
        simp only [List.mem_cons, List.not_mem_nil, or_false, not_or]
        exact ⟨Nat.ne_of_lt (Nat.lt_succ_self _), Nat.ne_of_gt lS⟩) hus hin hval s.heap hk (nof _ (Nat.le_refl _)) (fun b hb => nof b (by rw [List.mem_singleton.mp hb, zz]; exact Nat.le_succ _)) hu
        ks.length 0 _ (Nat.zero_add _) ⟨⟨_, Heap.get?_push_size _ rfl, rfl, rfl⟩, hl1.push _⟩ (fun b o e => Heap.get?_push_of_some _ (Heap.get?_push_of_some _ e))
        ⟨[], #[], 0, _, .of (setTR_fresh (Heap.get?_push_of_some _ hS)), Got.zero ks⟩ fun z L es ep t hm hz hg kp => ?_
      obtain ⟨h', g2, d2, tk, o2⟩ := z
      cases (show g2 = s.gens from hm.gens)
      cases (show d2 = s.drawn from hm.drawn)
      cases (show o2 = s.os from hm.os)
      refine wpAny_pure ?_
      show wpAny _ _ (ret Value.none) _ _ _
      exact wpAny_pure ⟨rfl, h', tk, L, es, ep, t, rfl, ⟨hz, hg⟩, kp⟩
    · rintro (_ | fl2) z2 hr2
      · exact hr2
      cases fl2 with
      | ret r =>
        obtain ⟨rfl, h', tk, L, es, ep, t, rfl, ⟨hz, hg⟩, kp⟩ := hr2
        repeat (any_goals (first | assumption | wp_step))
        exact h h' tk L es ep t hz hg kp
      | _ => exact hr2.elim
  | _ => exact hr.elim
end
end Pu
/-! sorted(set of pairs of ints), up to 76 of them. -/
namespace Pu
open PySem PySem.Spec PyProof.Rows L2
/-- the key of an address -/
def keyU (L : List (Addr × List Int)) (v : Value) : Int × Int := match v with
  | .ref a => match L.find? fun q => decide (q.1 = a) with
    | some q => (q.2.getD 0 0, q.2.getD 1 0)
    | none => (0, 0)
  | _ => (0, 0)
theorem find_at {L : List (Addr × List Int)} {b : Addr} {r : Addr × List Int} (e : L.find? (fun q => decide (q.1 = b)) = some r) : r.1 = b := of_decide_eq_true (p := r.1 = b) (List.find?_some (p := fun q : Addr × List Int => decide (q.1 = b)) e)
section
variable {P : Program} {w : World} {A : Around} {E : Value → Shared → Prop} {s : Shared}
theorem pair_isT {h : Heap} {b : Addr} {x y : Int} (i : IsT P w h [x, y] b) : Srt.IsPair h (.ref b) x y := by
  obtain ⟨o, items, n, ho, hc, hd, hi⟩ := i
  have ii := ints_of_items hi
  obtain ⟨l⟩ := items
  dsimp only at ii
  cases ii with
  | cons _ t r =>
    cases r with
    | cons _ u r2 =>
      cases r2
      exact ⟨b, o, t, u, n, rfl, ho, hc, hd⟩
theorem sorted_many {a : Addr} {L : List (Addr × List Int)} {es : Array (Int × Value)} {ep : Nat} {t : SetTable} {Q : Value → Shared → Prop} (R : SU P w s.heap a L es ep t) (hn : A.handled = none) (hp : ∀ q ∈ L, ∃ x y, q.2 = [x, y])
    (hQ : ∀ s' p (out : List Value) (c : Nat) (M : List (Addr × List Int)), (∀ b o, s.heap.get? b = some o → s'.heap.get? b = some o) → s'.gens = s.gens → s'.os = s.os → s.heap.objs.size ≤ p →
      s'.heap.get? p = some (seqObj "list" out.toArray c) → out = M.map (fun q => Value.ref q.1) → M.Perm L → M.Pairwise (fun q r => SrtO.lexB (r.2.getD 0 0, r.2.getD 1 0) (q.2.getD 0 0, q.2.getD 1 0) = false) → Q (.ref p) s') :
    wpAny (model P w) A (call (.builtin "sorted") [.ref a]) Q E s := by
  obtain ⟨o, ⟨ho, hd⟩, hex⟩ := R.obj
  have h76 : L.length ≤ 76 := by
    have := R.roomU
    rcases R.tabL.mok with e | e | e <;> omega
  have hlen := R.len
  have vals : es.toList.map Prod.snd = L.map fun q => Value.ref q.1 := by
    rw [R.rowL]
    exact List.map_map ..
  -- an address stands once
  have uq : ∀ q ∈ L, ∀ r ∈ L, q.1 = r.1 → q = r := fun q hq r hr e => by
    have i1 := R.each q hq
    rw [e] at i1
    exact Prod.ext e (i1.inj (R.each r hr))
  have ky : ∀ q ∈ L, keyU L (.ref q.1) = (q.2.getD 0 0, q.2.getD 1 0) := fun q hq => by
    show (match L.find? fun r => decide (r.1 = q.1) with | some r => (r.2.getD 0 0, r.2.getD 1 0) | none => (0, 0)) = _
    cases e : L.find? fun r => decide (r.1 = q.1) with
    | none => exact absurd (decide_eq_true (rfl : q.1 = q.1)) (List.find?_eq_none.mp e q hq)
    | some r => rw [uq r (List.mem_of_find?_eq_some e) q hq (find_at e)]
  refine Calls.call_function_entry kind_sorted plain_sorted entry_sorted (args_sorted1 _) ?_
  unfold Builtin.«sorted»
  refine wpAny_bind (m := checkCount "sorted" 1 1 _) (wpAny_pure (wpAny_bind ?_))
  refine collect_set (A := A.in1) hn ⟨o, ho, hex.1, hd⟩ R.fit (by rw [hlen]; unfold scanBound; omega) R.tabL.ris R.ledU.symm fun z vs kz sz gz oz pm => ?_
  rw [vals] at pm
  have vl : vs.length = L.length := by rw [pm.length_eq]; exact List.length_map ..
  have line : vs.length ≤ sizeLine := by rw [sizeLine_eq]; omega
  refine wpAny_bind (wpAny_newList ?_ line)
  have hoL : (z.heap.push (seqObj "list" vs.toArray 0)).get? z.heap.objs.size = some (seqObj "list" vs.toArray 0) := Heap.get?_push_size _ rfl
  have each : ∀ v ∈ vs, ∃ q ∈ L, v = .ref q.1 ∧ Srt.IsPair (z.heap.push (seqObj "list" vs.toArray 0)) v (keyU L v).1 (keyU L v).2 := fun v hv => by
    obtain ⟨q, hq, rfl⟩ := List.mem_map.mp (pm.mem_iff.mp hv)
    obtain ⟨x, y, exy⟩ := hp q hq
    refine ⟨q, hq, rfl, ?_⟩
    rw [ky q hq, exy]
    have i1 := R.each q hq
    rw [exy] at i1
    exact pair_isT (isT_keep i1 fun b u e => Heap.get?_push_of_some _ (kz b u e))
  refine wpAny_bind (wpAny_holding (wpAny_call_entry slot_list_sort ⟨_, hoL, rfl⟩ entry_list_sort (SrtO.list_sort_ord (s := { z with heap := z.heap.push (seqObj "list" vs.toArray 0) }) (SrtO.swo_lex (keyU L)) hoL line
    (fun h2 => SrtO.pairs_sortableO (by omega) (fun v hv => by obtain ⟨_, _, _, h⟩ := each v hv; exact h) fun u e c => ?_) fun out hs hb => ⟨_, rfl, ?_⟩) (args_list_sort _)))
  · have e2 : u = _ := Option.some.inj (e.symm.trans hoL)
    rw [e2] at c
    exact absurd (Value.type.inj (show Value.type "list" = .type "tuple" from c)) (by decide)
  · obtain ⟨c, hc⟩ := sortedHeap_at (vs := vs) (out := out.toArray) hoL
    let g : Value → Addr × List Int := fun v => match v with
      | .ref b => (b, match L.find? fun q => decide (q.1 = b) with | some q => q.2 | none => [])
      | _ => (0, [])
    have gq : ∀ q ∈ L, g (.ref q.1) = q := fun q hq => by
      show (q.1, match L.find? fun r => decide (r.1 = q.1) with | some r => r.2 | none => []) = q
      cases e : L.find? fun r => decide (r.1 = q.1) with
      | none => exact absurd (decide_eq_true (rfl : q.1 = q.1)) (List.find?_eq_none.mp e q hq)
      | some r => rw [uq r (List.mem_of_find?_eq_some e) q hq (find_at e)]
    have oo : ∀ v ∈ out, ∃ q ∈ L, v = .ref q.1 := fun v hv => by
      obtain ⟨q, hq, e, _⟩ := each v (hb.perm.mem_iff.mp hv)
      exact ⟨q, hq, e⟩
    refine wpAny_pure ⟨_, rfl, hQ _ z.heap.objs.size out c (out.map g) (fun b u e => ?_) gz oz sz hc ?_ ?_ ?_⟩
    · have q := kz b u e
      have hlt := Heap.lt_size q
      show (sortedHeap (z.heap.push (seqObj "list" vs.toArray 0)) z.heap.objs.size vs out.toArray).get? b = some u
      rw [sortedHeap_old (Nat.ne_of_lt hlt) (by rw [size_push']; exact Nat.lt_succ_of_lt hlt)]
      exact Heap.get?_push_of_some _ q
    · rw [List.map_map]
      refine ((List.map_congr_left fun v hv => ?_).trans (List.map_id out)).symm
      obtain ⟨q, hq, rfl⟩ := oo v hv
      show Value.ref (g (.ref q.1)).1 = _
      rw [gq q hq]
      rfl
    · have p1 : (out.map g).Perm ((L.map fun q => Value.ref q.1).map g) := (hb.perm.trans pm).map g
      rw [List.map_map] at p1
      refine p1.trans (.of_eq ((List.map_congr_left fun q hq => ?_).trans (List.map_id L)))
      exact gq q hq
    · refine List.pairwise_map.mpr (List.Pairwise.imp_of_mem (fun {u v} hu hv huv => ?_) hs)
      obtain ⟨q, hq, rfl⟩ := oo u hu
      obtain ⟨r, hr, rfl⟩ := oo v hv
      rw [gq q hq, gq r hr, ← ky q hq, ← ky r hr]
      exact huv
end
end Pu
/-! SsetP holds. -/
namespace Pu
open PySem PySem.Spec PyProof.Rows L2 Gd
/-- the set at a, its tuples apart -/
def SU0 (P : Program) (w : World) (h : Heap) (a : Addr) (L : List (Addr × List Int)) : Prop :=
  ∃ es ep t, (∃ o, (h.get? a = some o ∧ o.data = .set es ep t) ∧ o.ExactSet) ∧ ∀ h', (∀ o, h.get? a = some o → h'.get? a = some o) → (∀ q ∈ L, IsT P w h' q.2 q.1) → SU P w h' a L es ep t
def SUO (P : Program) (w : World) (a : Addr) (L : List (Addr × List Int)) : HO := .ext fun h => SU0 P w h a L
theorem SU.s0 {P : Program} {w : World} {h : Heap} {a : Addr} {L : List (Addr × List Int)} {es : Array (Int × Value)} {ep : Nat} {t : SetTable} (R : SU P w h a L es ep t) : SU0 P w h a L := ⟨es, ep, t, R.obj, fun h' => R.keep⟩
theorem suO_new {P : Program} {w : World} {H : Hp} {h : Heap} {a : Addr} {L : List (Addr × List Int)} (R : SU0 P w h a L) : ObjOk P w H h a (SUO P w a L) := by
  refine ⟨R, ?_, fun h1 h2 p k => ?_⟩
  · obtain ⟨es, ep, t, ⟨o, ⟨ho, _⟩, _⟩, _⟩ := R
    exact ⟨o, ho⟩
  · obtain ⟨es, ep, t, ⟨o, ⟨ho, hd⟩, hex⟩, hk⟩ : SU0 P w h1 a L := p
    exact ⟨es, ep, t, ⟨o, ⟨k o ho, hd⟩, hex⟩, fun h' kk => hk h' fun o e => kk o (k o e)⟩
section
variable {X : Cx}
def rSetMany (K : PySem.W.Frag) (P : Program) (w : World) : List V → Hp → VK → Prop := fun xs H Q => ∃ (l : Addr) (ks : List (Addr × List Int)) (us : List (List Int)), xs = [V.ref l] ∧ SqL K H l (ks.map fun q => V.ref q.1) ∧ (∀ q ∈ ks, SqT K H q.1 (q.2.map V.int)) ∧ (∀ q ∈ ks, q.2 ∈ us) ∧ us.length ≤ 76 ∧
  ∀ a L, H a = none → (∀ q ∈ L, q ∈ ks) → (∀ q ∈ ks, q.2 ∈ L.map Prod.snd) → (L.map Prod.snd).Nodup → Q (.ref a) (upd H a (SUO P w a L))
theorem cr_setMany (hc : X.calm = true) (hu : X.A.units + 64 < cLine) : CallR X (.type "set") (rSetMany X.K X.prog X.w) := by
  rintro pins s σ H xs us Q I r ⟨l, ks, dn, rfl, hl, hk, hin, hd, q⟩
  rw [Vals.ref1 r]
  obtain ⟨its, rv, pl, hz⟩ := I.list hl
  refine set_many (P := X.prog) (w := X.w) ks dn (I.ok.hd hc) pl.isList (by simpa using refs_of_vals rv) (fun q hq => I.isT (hk q hq)) hin hd (by omega) fun h' tk L es ep t R g k => ?_
  refine ⟨.ref s.heap.objs.size, upd H s.heap.objs.size (SUO X.prog X.w s.heap.objs.size L), I.laid (t' := tk) k (Nat.le_refl _) (suO_new R.s0), rfl, q _ L (I.hok.fresh (Nat.le_refl _)) (fun q hq => List.mem_of_mem_take (g.sub q hq)) (fun q hq => g.all q (by rw [List.take_length]; exact hq)) R.alone⟩
def rSortedMany (K : PySem.W.Frag) (P : Program) (w : World) : List V → Hp → VK → Prop := fun vs H Q => ∃ (a : Addr) (L : List (Addr × List Int)), vs = [V.ref a] ∧ H a = some (SUO P w a L) ∧ (∀ q ∈ L, SqT K H q.1 (q.2.map V.int)) ∧ (∀ q ∈ L, ∃ x y, q.2 = [x, y]) ∧
  ∀ (M : List (Addr × List Int)) (p : Addr), M.Perm L → M.Pairwise (fun q r => SrtO.lexB (r.2.getD 0 0, r.2.getD 1 0) (q.2.getD 0 0, q.2.getD 1 0) = false) → H p = none → Q (.ref p) (upd H p (.lst (M.map fun q => V.ref q.1)))
theorem cr_sortedMany (hc : X.calm = true) : CallR X (.builtin "sorted") (rSortedMany X.K X.prog X.w) := by
  rintro pins s σ H vs us Q I r ⟨a, L, rfl, ha, hk, hp, q⟩
  obtain ⟨es, ep, t, _, hs⟩ : SU0 X.prog X.w s.heap a L := (I.hok a _ ha).1
  have R := hs s.heap (fun o e => e) fun q hq => I.isT (hk q hq)
  have l76 : L.length ≤ 76 := by
    have := R.roomU
    rcases R.tabL.mok with e | e | e <;> omega
  rw [Vals.ref1 r]
  refine sorted_many R (I.ok.hd hc) hp fun z p out c M k g o hpp hg hout pm pw => ?_
  subst hout
  have fr : H p = none := I.hok.fresh hpp
  have hz : (M.map fun q => V.ref q.1).length ≤ sizeLine := by
    rw [List.length_map, pm.length_eq, PySem.sizeLine_eq]
    omega
  have J : Inv X pins σ (upd H p (.lst (M.map fun q => V.ref q.1))) { s with heap := z.heap, gens := z.gens, drawn := z.drawn, toks := z.toks } := by
    refine I.call (ch := []) (Un.laid k hpp fr) (I.hok.laid k hpp ⟨hz, M.map fun q => Value.ref q.1, c, vals_of_refs M, hg⟩) ?_ (fun _ z => nomatch z)
    rw [g]
    exact I.bare
  obtain ⟨zh, zg, zd, zt, zo⟩ := z
  cases (show zo = s.os from o)
  exact ⟨.ref p, _, J, rfl, q M p pm pw fr⟩
theorem ssetP_of {k0 : Nat} (hr : RmG k0 X.A) : SsetP X := by
  intro a Γ QA p p2 pos pos2 hm hm2 hg hg2 hc he he2 hpl hpl2 h σ F H k Q' po
  refine sE_of (pe_callB (cr_sortedMany hc) hg hm (by decide +kernel) (pa_cons (pe_callTy (cr_setMany hc hr.rm.units) hg2 hm2 (by decide +kernel) (pa_cons pe_s pa_nil he2) (he := he2) (hpl := hpl2)) pa_nil he) (he := he) (hpl := hpl)) (h σ F H k _ fun d Γ1 v F1 H1 q1 s1 k1 r1 => ?_)
  obtain ⟨ps, us, ls, l1000, l76, hin, hB, q⟩ := q1
  obtain ⟨l, vs, rfl, hv, ra⟩ := ls.real k1 r1
  obtain ⟨ks, rfl, rfl, hk⟩ := reA_pairs ra
  have fin : ∀ L : List (Addr × List Int), (∀ q ∈ L, q ∈ ks.map fun q : Addr × Int × Int => (q.1, [q.2.1, q.2.2])) → ∃ L0 : List (Addr × Int × Int), L = L0.map (fun q => (q.1, [q.2.1, q.2.2])) ∧ ∀ q ∈ L0, q ∈ ks := by
    intro L
    induction L with
    | nil => intro _; exact ⟨[], rfl, nofun⟩
    | cons x L ih =>
      intro hs
      obtain ⟨L0, e1, e2⟩ := ih fun q hq => hs q (List.mem_cons_of_mem _ hq)
      obtain ⟨q, hq, rfl⟩ := List.mem_map.mp (hs x List.mem_cons_self)
      exact ⟨q :: L0, by rw [e1]; rfl, fun y hy => (List.mem_cons.mp hy).elim (fun e => by rw [e]; exact hq) (e2 y)⟩
  refine ⟨l, ks.map fun q => (q.1, [q.2.1, q.2.2]), us.map fun q => [q.1, q.2], rfl, ?_, fun q hq => ?_, fun q hq => ?_, by rw [List.length_map]; exact l76, fun b L nb hs hall nd => ?_⟩
  · rw [List.map_map]
    exact sqL hv
  · obtain ⟨r, hr, rfl⟩ := List.mem_map.mp hq
    exact same_seqT k1.same (hk r hr)
  · obtain ⟨r, hr, rfl⟩ := List.mem_map.mp hq
    exact List.mem_map.mpr ⟨r.2, hin _ (List.mem_map.mpr ⟨r, hr, rfl⟩), rfl⟩
  · obtain ⟨L0, rfl, h0⟩ := fin L hs
    have kb := k1.own (o := SUO X.prog X.w b (L0.map fun q => (q.1, [q.2.1, q.2.2]))) nb
    refine ⟨b, _, rfl, upd_same, fun q hq => ?_, fun q hq => ?_, fun M p2 pm pw np => ?_⟩
    · obtain ⟨r, hr, rfl⟩ := List.mem_map.mp hq
      exact same_seqT kb.same (hk r (h0 r hr))
    · obtain ⟨r, hr, rfl⟩ := List.mem_map.mp hq
      exact ⟨_, _, rfl⟩
    · obtain ⟨M0, rfl, m0⟩ := fin M fun q hq => hs q (pm.mem_iff.mp hq)
      have inj2 : ∀ {A B : List (Addr × Int × Int)}, (A.map fun q : Addr × Int × Int => (q.1, [q.2.1, q.2.2])).Perm (B.map fun q => (q.1, [q.2.1, q.2.2])) → A.Perm B := fun {A B} e => by
        have := e.map fun q : Addr × List Int => (q.1, q.2.getD 0 0, q.2.getD 1 0)
        simpa [List.map_map, Function.comp_def] using this
      have pm0 := inj2 pm
      have ee : (M0.map fun q : Addr × Int × Int => (q.1, [q.2.1, q.2.2])).map (fun q => V.ref q.1) = M0.map prV := by rw [List.map_map]; rfl
      rw [ee]
      refine (po.step (s1.trans (.own nb))).now kb np (pairs_reA fun q hq => hk q (m0 q hq)) (q (M0.map (·.2)) ?_ (List.pairwise_map.mpr (List.pairwise_map.mp pw)) fun x => ?_)
      · refine (pm0.map _).nodup_iff.mpr ?_
        have := nd
        rw [List.map_map] at this
        exact List.pairwise_map.mpr ((List.pairwise_map.mp this).imp fun {u v} ne e => ne (by show [u.2.1, u.2.2] = [v.2.1, v.2.2]; rw [e]))
      · rw [(pm0.map _).mem_iff]
        constructor
        · intro hx
          obtain ⟨r, hr, rfl⟩ := List.mem_map.mp hx
          exact List.mem_map.mpr ⟨r, h0 r hr, rfl⟩
        · intro hx
          obtain ⟨r, hr, rfl⟩ := List.mem_map.mp hx
          have := hall _ (List.mem_map.mpr ⟨r, hr, rfl⟩)
          rw [List.map_map] at this
          obtain ⟨r2, hr2, e⟩ := List.mem_map.mp this
          have e' : [r2.2.1, r2.2.2] = [r.2.1, r.2.2] := e
          injection e' with e1 e2
          injection e2 with e2 e3
          exact List.mem_map.mpr ⟨r2, hr2, Prod.ext e1 e2⟩
end
end Pu
namespace K65
open PySem PySem.Spec PyProof.Rows L2 Gd
def topS (i : Nat) : Stmt := PySem.Challenge.pw_neverregret_k65_whole_striking.main.body.getD i (.Pass ⟨0, 0, 0, 0⟩)
abbrev s_is_number : Stmt := topS 4
abbrev n_is_number : List Str := ["value"]
theorem sc_is_number : FnScope n_is_number ["value"] (defScope s_is_number) := ⟨rfl, rfl, rfl, by decide +kernel, rfl, by decide +kernel, by decide +kernel⟩
abbrev s_is_number_below : Stmt := topS 5
abbrev n_is_number_below : List Str := ["value", "limit"]
theorem sc_is_number_below : FnScope n_is_number_below ["value", "limit"] (defScope s_is_number_below) := ⟨rfl, rfl, rfl, by decide +kernel, rfl, by decide +kernel, by decide +kernel⟩
abbrev s_is_name : Stmt := topS 6
abbrev n_is_name : List Str := ["value", "sign"]
theorem sc_is_name : FnScope n_is_name ["value"] (defScope s_is_name) := ⟨rfl, rfl, rfl, by decide +kernel, rfl, by decide +kernel, by decide +kernel⟩
abbrev s_is_tuple_of : Stmt := topS 7
abbrev n_is_tuple_of : List Str := ["value", "length"]
theorem sc_is_tuple_of : FnScope n_is_tuple_of ["value", "length"] (defScope s_is_tuple_of) := ⟨rfl, rfl, rfl, by decide +kernel, rfl, by decide +kernel, by decide +kernel⟩
abbrev s_is_ascending : Stmt := topS 8
abbrev n_is_ascending : List Str := ["items", "at"]
theorem sc_is_ascending : FnScope n_is_ascending ["items"] (defScope s_is_ascending) := ⟨rfl, rfl, rfl, by decide +kernel, rfl, by decide +kernel, by decide +kernel⟩
abbrev s_are_numbers_below : Stmt := topS 9
abbrev n_are_numbers_below : List Str := ["value", "limit", "item"]
theorem sc_are_numbers_below : FnScope n_are_numbers_below ["value", "limit"] (defScope s_are_numbers_below) := ⟨rfl, rfl, rfl, by decide +kernel, rfl, by decide +kernel, by decide +kernel⟩
abbrev s_is_lot_below : Stmt := topS 10
abbrev n_is_lot_below : List Str := ["value", "limit"]
theorem sc_is_lot_below : FnScope n_is_lot_below ["value", "limit"] (defScope s_is_lot_below) := ⟨rfl, rfl, rfl, by decide +kernel, rfl, by decide +kernel, by decide +kernel⟩
abbrev s_is_lot_of_names : Stmt := topS 11
abbrev n_is_lot_of_names : List Str := ["value", "item"]
theorem sc_is_lot_of_names : FnScope n_is_lot_of_names ["value"] (defScope s_is_lot_of_names) := ⟨rfl, rfl, rfl, by decide +kernel, rfl, by decide +kernel, by decide +kernel⟩
abbrev s_InvalidTable_init : Stmt := inClass (topS 14) 0
abbrev n_InvalidTable_init : List Str := ["self", "at"]
theorem sc_InvalidTable_init : FnScope n_InvalidTable_init ["self", "at"] (defScope s_InvalidTable_init) := ⟨rfl, rfl, rfl, by decide +kernel, rfl, by decide +kernel, by decide +kernel⟩
abbrev s_Refused_init : Stmt := inClass (topS 15) 0
abbrev n_Refused_init : List Str := ["self", "word"]
theorem sc_Refused_init : FnScope n_Refused_init ["self", "word"] (defScope s_Refused_init) := ⟨rfl, rfl, rfl, by decide +kernel, rfl, by decide +kernel, by decide +kernel⟩
abbrev s_Table_init : Stmt := inClass (topS 17) 0
abbrev n_Table_init : List Str := ["self", "kinds", "types", "at", "item"]
theorem sc_Table_init : FnScope n_Table_init ["self", "kinds", "types"] (defScope s_Table_init) := ⟨rfl, rfl, rfl, by decide +kernel, rfl, by decide +kernel, by decide +kernel⟩
abbrev s_Table_eq : Stmt := inClass (topS 17) 1
abbrev n_Table_eq : List Str := ["self", "other"]
theorem sc_Table_eq : FnScope n_Table_eq ["self", "other"] (defScope s_Table_eq) := ⟨rfl, rfl, rfl, by decide +kernel, rfl, by decide +kernel, by decide +kernel⟩
abbrev s_is_type_pair : Stmt := topS 18
abbrev n_is_type_pair : List Str := ["value", "many_kinds"]
theorem sc_is_type_pair : FnScope n_is_type_pair ["value", "many_kinds"] (defScope s_is_type_pair) := ⟨rfl, rfl, rfl, by decide +kernel, rfl, by decide +kernel, by decide +kernel⟩
abbrev s_accepted : Stmt := topS 19
abbrev n_accepted : List Str := ["table", "request"]
theorem sc_accepted : FnScope n_accepted ["table", "request"] (defScope s_accepted) := ⟨rfl, rfl, rfl, by decide +kernel, rfl, by decide +kernel, by decide +kernel⟩
abbrev s_takers : Stmt := topS 20
abbrev n_takers : List Str := ["table", "kind"]
theorem sc_takers : FnScope n_takers ["table", "kind"] (defScope s_takers) := ⟨rfl, rfl, rfl, by decide +kernel, rfl, by decide +kernel, by decide +kernel⟩
abbrev s_types_of_kinds : Stmt := topS 21
abbrev n_types_of_kinds : List Str := ["table", "kinds", "found", "request", "_", "lot", "kind"]
theorem sc_types_of_kinds : FnScope n_types_of_kinds ["table", "kinds"] (defScope s_types_of_kinds) := ⟨rfl, rfl, rfl, by decide +kernel, rfl, by decide +kernel, by decide +kernel⟩
abbrev s_shared_takers : Stmt := topS 23
abbrev n_shared_takers : List Str := ["table", "one", "other", "ones", "others", "both", "first", "second", "request"]
theorem sc_shared_takers : FnScope n_shared_takers ["table", "one", "other"] (defScope s_shared_takers) := ⟨rfl, rfl, rfl, by decide +kernel, rfl, by decide +kernel, by decide +kernel⟩
abbrev s_do_cross : Stmt := topS 24
abbrev n_do_cross : List Str := ["table", "one", "other", "both", "first", "second"]
theorem sc_do_cross : FnScope n_do_cross ["table", "one", "other"] (defScope s_do_cross) := ⟨rfl, rfl, rfl, by decide +kernel, rfl, by decide +kernel, by decide +kernel⟩
abbrev s_crossing_pairs : Stmt := topS 25
abbrev n_crossing_pairs : List Str := ["table", "pairs", "one", "other"]
theorem sc_crossing_pairs : FnScope n_crossing_pairs ["table"] (defScope s_crossing_pairs) := ⟨rfl, rfl, rfl, by decide +kernel, rfl, by decide +kernel, by decide +kernel⟩
abbrev s_is_forest : Stmt := topS 26
abbrev n_is_forest : List Str := ["table"]
theorem sc_is_forest : FnScope n_is_forest ["table"] (defScope s_is_forest) := ⟨rfl, rfl, rfl, by decide +kernel, rfl, by decide +kernel, by decide +kernel⟩
abbrev s_is_way_to_strike : Stmt := topS 29
abbrev n_is_way_to_strike : List Str := ["value"]
theorem sc_is_way_to_strike : FnScope n_is_way_to_strike ["value"] (defScope s_is_way_to_strike) := ⟨rfl, rfl, rfl, by decide +kernel, rfl, by decide +kernel, by decide +kernel⟩
abbrev s_check_way : Stmt := topS 30
abbrev n_check_way : List Str := ["way"]
theorem sc_check_way : FnScope n_check_way ["way"] (defScope s_check_way) := ⟨rfl, rfl, rfl, by decide +kernel, rfl, by decide +kernel, by decide +kernel⟩
abbrev s_items_for : Stmt := topS 31
abbrev n_items_for : List Str := ["table", "way", "request", "_", "lot", "kind"]
theorem sc_items_for : FnScope n_items_for ["table", "way"] (defScope s_items_for) := ⟨rfl, rfl, rfl, by decide +kernel, rfl, by decide +kernel, by decide +kernel⟩
abbrev s_struck_table : Stmt := topS 32
abbrev n_struck_table : List Str := ["table", "way", "items", "types", "request", "name", "lot", "kind"]
theorem sc_struck_table : FnScope n_struck_table ["table", "way", "items"] (defScope s_struck_table) := ⟨rfl, rfl, rfl, by decide +kernel, rfl, by decide +kernel, by decide +kernel⟩
abbrev s_is_struck : Stmt := topS 33
abbrev n_is_struck : List Str := ["way", "items", "request", "kind"]
theorem sc_is_struck : FnScope n_is_struck ["way", "items", "request", "kind"] (defScope s_is_struck) := ⟨rfl, rfl, rfl, by decide +kernel, rfl, by decide +kernel, by decide +kernel⟩
abbrev s_are_items : Stmt := topS 34
abbrev n_are_items : List Str := ["table", "way", "value", "item"]
theorem sc_are_items : FnScope n_are_items ["table", "way", "value"] (defScope s_are_items) := ⟨rfl, rfl, rfl, by decide +kernel, rfl, by decide +kernel, by decide +kernel⟩
abbrev s_is_acceptance : Stmt := topS 35
abbrev n_is_acceptance : List Str := ["table", "value"]
theorem sc_is_acceptance : FnScope n_is_acceptance ["table", "value"] (defScope s_is_acceptance) := ⟨rfl, rfl, rfl, by decide +kernel, rfl, by decide +kernel, by decide +kernel⟩
abbrev s_is_repair : Stmt := topS 36
abbrev n_is_repair : List Str := ["table", "way", "value"]
theorem sc_is_repair : FnScope n_is_repair ["table", "way", "value"] (defScope s_is_repair) := ⟨rfl, rfl, rfl, by decide +kernel, rfl, by decide +kernel, by decide +kernel⟩
abbrev s_strike_cost : Stmt := topS 37
abbrev n_strike_cost : List Str := ["table", "way", "costs", "items", "item", "cost"]
theorem sc_strike_cost : FnScope n_strike_cost ["table", "way", "costs", "items"] (defScope s_strike_cost) := ⟨rfl, rfl, rfl, by decide +kernel, rfl, by decide +kernel, by decide +kernel⟩
abbrev s__law_heap : Stmt := topS 39
abbrev n__law_heap : List Str := ["script", "cell", "cells", "stir"]
theorem sc__law_heap : FnScope n__law_heap ["script"] (defScope s__law_heap) := ⟨rfl, rfl, rfl, by decide +kernel, rfl, by decide +kernel, by decide +kernel⟩
abbrev s__law_draw : Stmt := topS 40
abbrev n__law_draw : List Str := ["heap", "many", "rest"]
theorem sc__law_draw : FnScope n__law_draw ["heap", "many"] (defScope s__law_draw) := ⟨rfl, rfl, rfl, by decide +kernel, rfl, by decide +kernel, by decide +kernel⟩
abbrev s__law_pick : Stmt := topS 41
abbrev n__law_pick : List Str := ["heap", "some"]
theorem sc__law_pick : FnScope n__law_pick ["heap", "some"] (defScope s__law_pick) := ⟨rfl, rfl, rfl, by decide +kernel, rfl, by decide +kernel, by decide +kernel⟩
abbrev s__law_names : Stmt := topS 42
abbrev n__law_names : List Str := ["heap", "many", "letters", "front", "first", "at", "found"]
theorem sc__law_names : FnScope n__law_names ["heap", "many"] (defScope s__law_names) := ⟨rfl, rfl, rfl, by decide +kernel, rfl, by decide +kernel, by decide +kernel⟩
abbrev s__law_lot : Stmt := topS 43
abbrev n__law_lot : List Str := ["heap", "many", "share", "at"]
theorem sc__law_lot : FnScope n__law_lot ["heap", "many", "share"] (defScope s__law_lot) := ⟨rfl, rfl, rfl, by decide +kernel, rfl, by decide +kernel, by decide +kernel⟩
abbrev s__law_parts : Stmt := topS 44
abbrev n__law_parts : List Str := ["heap", "kinds", "types", "names", "found", "name", "kind", "lot"]
theorem sc__law_parts : FnScope n__law_parts ["heap", "kinds", "types"] (defScope s__law_parts) := ⟨rfl, rfl, rfl, by decide +kernel, rfl, by decide +kernel, by decide +kernel⟩
abbrev s__law_forest_parts : Stmt := topS 45
abbrev n__law_forest_parts : List Str := ["heap", "kinds", "types", "many", "above", "spots", "names", "found", "name", "home", "way", "turn", "place", "kind"]
theorem sc__law_forest_parts : FnScope n__law_forest_parts ["heap", "kinds", "types"] (defScope s__law_forest_parts) := ⟨rfl, rfl, rfl, by decide +kernel, rfl, by decide +kernel, by decide +kernel⟩
abbrev s__law_any_parts : Stmt := topS 46
abbrev n__law_any_parts : List Str := ["heap", "kinds", "types", "kind", "names", "found", "at", "other", "lot", "one"]
theorem sc__law_any_parts : FnScope n__law_any_parts ["heap", "kinds", "types"] (defScope s__law_any_parts) := ⟨rfl, rfl, rfl, by decide +kernel, rfl, by decide +kernel, by decide +kernel⟩
abbrev s__law_takers : Stmt := topS 47
abbrev n__law_takers : List Str := ["kinds", "types", "at", "kind"]
theorem sc__law_takers : FnScope n__law_takers ["kinds", "types"] (defScope s__law_takers) := ⟨rfl, rfl, rfl, by decide +kernel, rfl, by decide +kernel, by decide +kernel⟩
abbrev s__law_crossings : Stmt := topS 48
abbrev n__law_crossings : List Str := ["kinds", "types", "lots", "found", "one", "other", "first", "mine", "at", "yours"]
theorem sc__law_crossings : FnScope n__law_crossings ["kinds", "types"] (defScope s__law_crossings) := ⟨rfl, rfl, rfl, by decide +kernel, rfl, by decide +kernel, by decide +kernel⟩
abbrev s__law_items : Stmt := topS 49
abbrev n__law_items : List Str := ["kinds", "types", "way", "found", "at", "kind"]
theorem sc__law_items : FnScope n__law_items ["kinds", "types", "way"] (defScope s__law_items) := ⟨rfl, rfl, rfl, by decide +kernel, rfl, by decide +kernel, by decide +kernel⟩
abbrev s__law_struck : Stmt := topS 50
abbrev n__law_struck : List Str := ["types", "way", "items", "found", "at", "lot", "kind"]
theorem sc__law_struck : FnScope n__law_struck ["types", "way", "items"] (defScope s__law_struck) := ⟨rfl, rfl, rfl, by decide +kernel, rfl, by decide +kernel, by decide +kernel⟩
abbrev s__law_heard : Stmt := topS 51
abbrev n__law_heard : List Str := ["action", "error"]
theorem sc__law_heard : FnScope n__law_heard ["action"] (defScope s__law_heard) := ⟨rfl, rfl, rfl, by decide +kernel, rfl, by decide +kernel, by decide +kernel⟩
abbrev s__law_is_number : Stmt := topS 52
abbrev n__law_is_number : List Str := ["value", "many"]
theorem sc__law_is_number : FnScope n__law_is_number ["value", "many"] (defScope s__law_is_number) := ⟨rfl, rfl, rfl, by decide +kernel, rfl, by decide +kernel, by decide +kernel⟩
abbrev s__law_is_lot : Stmt := topS 53
abbrev n__law_is_lot : List Str := ["kinds", "types", "way", "value", "item", "at"]
theorem sc__law_is_lot : FnScope n__law_is_lot ["kinds", "types", "way", "value"] (defScope s__law_is_lot) := ⟨rfl, rfl, rfl, by decide +kernel, rfl, by decide +kernel, by decide +kernel⟩
abbrev s__law_greedy : Stmt := topS 54
abbrev n__law_greedy : List Str := ["heap", "kinds", "types", "way", "found", "items", "turn", "crossings", "pair", "three", "some"]
theorem sc__law_greedy : FnScope n__law_greedy ["heap", "kinds", "types", "way"] (defScope s__law_greedy) := ⟨rfl, rfl, rfl, by decide +kernel, rfl, by decide +kernel, by decide +kernel⟩
abbrev s__law_odd : Stmt := topS 55
abbrev n__law_odd : List Str := ["heap", "lot", "items", "some"]
theorem sc__law_odd : FnScope n__law_odd ["heap", "lot", "items"] (defScope s__law_odd) := ⟨rfl, rfl, rfl, by decide +kernel, rfl, by decide +kernel, by decide +kernel⟩
abbrev s__law_way_right : Stmt := topS 56
abbrev n__law_way_right : List Str := ["heap", "table", "kinds", "types", "way", "items", "lots", "costs", "lot", "less", "told", "due", "value", "more", "item", "turn"]
theorem sc__law_way_right : FnScope n__law_way_right ["heap", "table", "kinds", "types", "way"] (defScope s__law_way_right) := ⟨rfl, rfl, rfl, by decide +kernel, rfl, by decide +kernel, by decide +kernel⟩
abbrev s_law : Stmt := topS 57
abbrev n_law : List Str := ["script", "heap", "turn", "kinds", "types", "way", "heard", "both", "chain", "odd", "table"]
theorem sc_law : FnScope n_law ["script"] (defScope s_law) := ⟨rfl, rfl, rfl, by decide +kernel, rfl, by decide +kernel, by decide +kernel⟩
end K65
namespace K65
open PySem PySem.Spec PyProof.Rows L2 Gd
section
variable {P : Program} {w : World} {K : PySem.W.Frag} {mg : Str → Option Value} {base : Heap}
def spDraw : Sp := fun vs H Q _ => ∃ (h l : Addr) (L : List Int) (st m : Int), vs = [.ref h, .int m] ∧ Hv H h l L st ∧ 0 < m ∧ m < 1000000000 ∧
  ∀ G L' st' r, But h l H G → Hv G h l L' st' → 0 ≤ r → r < m → Q (.int r) G
theorem ok_draw {f : Addr} {fd : FuncData} {k : Nat} (F : Fun K "_law_draw" "_law_draw" s__law_draw f fd) (mi : mg "int" = none) : FnOk P w K mg base CX0 (k + 1) f fd ["heap", "many"] spDraw := by
  refine F.ok sc__law_draw (fun vs H Q E h => ?_) (fun cdv A outer s H vs Q E hr h => ?_)
  · obtain ⟨h, l, L, st, m, rfl, _⟩ := h
    rfl
  · obtain ⟨h, l, L, st, m, rfl, hv, h0, h1, q⟩ := h
    refine ⟨_, pss_cons (ps_while PassesOwn.never (PW.pt (pw_and (pt_cmpR (op_neD hr.units) (pe_ix ix_list (pv 0) pe_int (fun _ _ => rfl)) (pe_lst pa_nil) (nomark _))
        (pw_and1 (pt_cmpR op_eq (pe_ix ix_list (pe_ix ix_list (pv 0) pe_int (fun _ _ => rfl)) (pe_un un_neg pe_int) (fun _ _ => rfl)) pe_int (nomark _)))))
        (pss_one (ps_expr (pe_bm0 PySem.F.plainAttrs_list PySem.F.slot_list_pop PySem.F.type_list_pop mt_pop (pe_ix ix_list (pv 0) pe_int (fun _ _ => rfl))))))
      (pss_cons (ps_if (pt_cmpR (op_neD hr.units) (pe_ix ix_list (pv 0) pe_int (fun _ _ => rfl)) (pe_lst pa_nil) (nomark _))
        (pss_cons (ps_set (i := 2) sc__law_draw.nd rfl (.inl rfl) (pe_bm0 PySem.F.plainAttrs_list PySem.F.slot_list_pop PySem.F.type_list_pop mt_pop (pe_ix ix_list (pv 0) pe_int (fun _ _ => rfl))))
          (pss_cons (ps_expr (pe_bm PySem.F.plainAttrs_list PySem.F.slot_list_append PySem.F.type_list_append mt_append (pe_ix ix_list (pv 0) pe_int (fun _ _ => rfl)) (pa_cons (pe_op op_fdivN (pv 2) (pv 1)) pa_nil)))
            (pss_one (ps_ret (pe_op op_mod (pe_callTy call_int1 (by rfl) mi (by decide +kernel) (pa_cons (pv 2) pa_nil)) (pv 1)))))) pss_nil)
      (pss_cons (ps_asg (pe_op op_mod (pe_callTy call_int1 (by rfl) mi (by decide +kernel) (pa_cons (pe_op op_add (pe_op op_mul (pe_ix ix_list (pv 0) pe_int (fun _ _ => rfl)) pe_int) pe_int) pa_nil)) pe_int) (pg_sub (pv 0) pe_int set_list))
      (pss_one (ps_ret (pe_op op_mod (pe_callTy call_int1 (by rfl) mi (by decide +kernel) (pa_cons (pe_op op_fdivN (pe_ix ix_list (pv 0) pe_int (fun _ _ => rfl)) pe_int) pa_nil)) (pv 1)))))), ?_⟩
    refine ⟨fun n σ G => ∃ M, n = M.length ∧ σ = [some (.ref h), some (.int m), none] ∧ Hv G h l M st ∧ But h l H G, ⟨_, L, rfl, rfl, hv, But.refl _ _ _⟩, fun n σ G hw => ?_⟩
    obtain ⟨M, rfl, rfl, hg, bt⟩ := hw
    refine ⟨.ref h, rfl, h, _, 0, .ref l, rfl, rfl, sqL hg.top, atI_nat (j := 0) rfl, Nat.zero_le _, fun p np => ?_⟩
    refine ⟨.list (M.map .int), .list [], dp_ints (hg.new np).bot, .lst (sqL upd_same) .nil, shaped_ints M, rfl, _, rfl, ?_⟩
    have hg1 := hg.new (o := .lst []) np
    have bt1 := bt.new (o := .lst []) np
    rw [eqv_nil]
    by_cases hM : M = []
    · -- the list is empty: a new number
      subst hM
      refine iteF ?_
      refine iteF ?_
      -- if heap[0] != []
      refine ⟨.ref h, rfl, h, _, 0, .ref l, rfl, rfl, sqL hg1.top, atI_nat (j := 0) rfl, Nat.zero_le _, fun p2 np2 => ?_⟩
      refine ⟨.list (([] : List Int).map .int), .list [], dp_ints (hg1.new np2).bot, .lst (sqL upd_same) .nil, shaped_ints [], rfl, _, rfl, ?_⟩
      have hg2 := hg1.new (o := .lst []) np2
      have bt2 := bt1.new (o := .lst []) np2
      rw [eqv_nil]
      refine iteF ?_
      -- heap[1] = int(heap[1] * 48271 + 17) % 2147483647
      have hlo := hv.lo
      have hhi := hv.hi
      refine ⟨.ref h, rfl, h, _, 1, .int st, rfl, rfl, sqL hg2.top, atI_nat (j := 1) rfl, _, _, rfl, rfl, .inl ⟨by omega, by omega⟩, _, _, rfl, rfl, .inl ⟨_, rfl, _, _, rfl, rfl, (by show (0 : Int) < 2147483647; decide), ?_⟩⟩
      have n0 := Int.emod_nonneg (st * 48271 + 17) (show (2147483647 : Int) ≠ 0 by decide)
      have n1 := Int.emod_lt_of_pos (st * 48271 + 17) (show (0 : Int) < 2147483647 by decide)
      refine ⟨.ref h, rfl, h, _, 1, 1, rfl, rfl, hg2.top, rfl, ?_⟩
      have hg3 := hg2.setN n0 n1
      have bt3 : But h l H _ := bt2.atH (o := .lst [.ref l, .int ((st * 48271 + 17) % 2147483647)])
      -- return int(heap[1] // 32) % many
      refine ⟨.ref h, rfl, h, _, 1, _, rfl, rfl, sqL upd_same, atI_nat (j := 1) rfl, _, _, rfl, rfl, ⟨by decide, by decide⟩, .inl ⟨_, rfl, .int m, rfl, _, _, rfl, rfl, h0, ?_⟩⟩
      exact q _ _ _ _ bt3 hg3 (Int.emod_nonneg _ (by omega)) (Int.emod_lt_of_pos _ h0)
    · rw [decide_eq_false hM]
      refine iteT ?_
      -- heap[0][-1] == 0
      refine ⟨.ref h, rfl, h, _, 0, .ref l, rfl, rfl, sqL hg1.top, atI_nat (j := 0) rfl, 1, rfl, l, _, -1, _, rfl, rfl, sqL hg1.bot, last_map hM, rfl, _, rfl, ?_⟩
      have lt : M.dropLast.length < M.length := by
        have := List.length_pos_iff.mpr hM
        rw [List.length_dropLast]
        omega
      by_cases hz : M.getLast hM = 0
      · -- it ends in 0: pop
        rw [hz, decide_eq_true rfl]
        refine iteT ?_
        refine ⟨fun σ' G' => σ' = [some (.ref h), some (.int m), none] ∧ Hv G' h l M.dropLast st ∧ But h l H G', fun σ' G' z => ⟨_, lt, _, rfl, z.1, z.2.1, z.2.2⟩, ?_⟩
        refine ⟨.ref h, rfl, h, _, 0, .ref l, rfl, rfl, sqL hg1.top, atI_nat (j := 0) rfl, .inl ⟨rfl, _, sqL hg1.bot⟩, l, _, _, rfl, rfl, hg1.bot, last_get hM, rfl, ?_, ?_⟩
        · rw [drop_map]
          exact hg1.setL (Nat.le_trans (Nat.le_of_lt lt) hg1.len)
        · exact bt1.atL
      · -- the loop's end
        rw [decide_eq_false (show ¬ V.int (M.getLast hM) = V.int 0 from fun z => hz (V.int.inj z))]
        refine iteF ?_
        -- if heap[0] != []
        refine ⟨.ref h, rfl, h, _, 0, .ref l, rfl, rfl, sqL hg1.top, atI_nat (j := 0) rfl, Nat.zero_le _, fun p2 np2 => ?_⟩
        refine ⟨.list (M.map .int), .list [], dp_ints (hg1.new np2).bot, .lst (sqL upd_same) .nil, shaped_ints M, rfl, _, rfl, ?_⟩
        have hg2 := hg1.new (o := .lst []) np2
        have bt2 := bt1.new (o := .lst []) np2
        rw [eqv_nil, decide_eq_false hM]
        refine iteT ?_
        -- rest = heap[0].pop()
        refine ⟨.ref h, rfl, h, _, 0, .ref l, rfl, rfl, sqL hg2.top, atI_nat (j := 0) rfl, .inl ⟨rfl, _, sqL hg2.bot⟩, l, _, _, rfl, rfl, hg2.bot, last_get hM, ?_⟩
        rw [drop_map]
        have hg3 := hg2.setL (M := M.dropLast) (Nat.le_trans (Nat.le_of_lt lt) hg1.len)
        have bt3 : But h l H _ := bt2.atL (o := .lst (M.dropLast.map V.int))
        -- heap[0].append(rest // many)
        refine ⟨.ref h, rfl, h, _, 0, .ref l, rfl, rfl, sqL hg3.top, atI_nat (j := 0) rfl, .inl ⟨rfl, _, sqL hg3.bot⟩, .int (M.getLast hM), rfl, .int m, rfl, _, _, rfl, rfl, ⟨by omega, by omega⟩, l, _, _, rfl, rfl, hg3.bot, ?_, ?_⟩
        · have := hg1.len
          rw [List.length_map]
          exact small1000 (by omega)
        have e : M.dropLast.map V.int ++ [.int ((M.getLast hM).fdiv m)] = (M.dropLast ++ [(M.getLast hM).fdiv m]).map V.int := by
          rw [List.map_append]
          rfl
        rw [e]
        have hg4 := hg3.setL (M := M.dropLast ++ [(M.getLast hM).fdiv m]) (by
          have := hg1.len
          rw [List.length_append]
          show _ + 1 ≤ 63
          omega)
        have bt4 : But h l H _ := bt3.atL (o := .lst ((M.dropLast ++ [(M.getLast hM).fdiv m]).map V.int))
        -- return int(rest) % many
        refine ⟨.int (M.getLast hM), rfl, .inl ⟨_, rfl, .int m, rfl, _, _, rfl, rfl, h0, ?_⟩⟩
        exact q _ _ _ _ bt4 hg4 (Int.emod_nonneg _ (by omega)) (Int.emod_lt_of_pos _ h0)
def spPick (K : PySem.W.Frag) : Sp := fun vs H Q _ => ∃ (h l : Addr) (L : List Int) (st : Int) (p : Addr) (xs : List V), vs = [.ref h, .ref p] ∧ Hv H h l L st ∧ SqL K H p xs ∧ p ≠ h ∧ p ≠ l ∧ 0 < xs.length ∧ xs.length < 1000 ∧
  ∀ (G : Hp) (L' : List Int) (st' : Int) (i : Nat) (x : V), But h l H G → Hv G h l L' st' → xs[i]? = some x → Q x G
theorem ok_pick {f fD : Addr} {fd fdD : FuncData} {k : Nat} (F : Fun K "_law_pick" "_law_pick" s__law_pick f fd) (FD : Fun K "_law_draw" "_law_draw" s__law_draw fD fdD) (bD : Binds K fdD ["heap", "many"] []) (gD : mg "_law_draw" = some (.ref fD))
    (ml : mg "len" = none) (mi : mg "int" = none) : FnOk P w K mg base CX0 (k + 1 + 1) f fd ["heap", "some"] (spPick K) := by
  have GD : FnOk P w K mg base CX0 (k + 1) fD fdD ["heap", "many"] spDraw := ok_draw FD mi
  refine F.ok sc__law_pick (fun vs H Q E h => ?_) (fun cdv A outer s H vs Q E hr h => ?_)
  · obtain ⟨h, l, L, st, p, xs, rfl, _⟩ := h
    rfl
  · obtain ⟨h, l, L, st, p, xs, rfl, hv, hs, n1, n2, h0, h1, q⟩ := h
    refine ⟨_, pss_one (ps_ret (pe_ix ix_list (pv 1) (pe_call GD hr (by rfl) gD FD.kp bD .nil pass0 (pa_cons (pv 0) (pa_cons (pe_callB call_len_seq (by rfl) ml PySem.boot_len (pa_cons (pv 1) pa_nil)) pa_nil))) (fun _ _ => rfl))), ?_⟩
    refine ⟨.ref p, rfl, .ref h, rfl, .ref p, rfl, p, xs, rfl, .inl hs, h, l, L, st, xs.length, rfl, hv, by omega, by omega, fun G L' st' r bt hv' r0 r1 => ?_⟩
    obtain ⟨i, rfl⟩ := Int.eq_ofNat_of_zero_le r0
    have hi : i < xs.length := by omega
    exact ⟨p, xs, _, xs[i], rfl, rfl, bt.seqL n1 n2 hs, atI_nat (List.getElem?_eq_getElem hi), q G L' st' i _ bt hv' (List.getElem?_eq_getElem hi)⟩
def spHeap (K : PySem.W.Frag) : Sp := fun vs H Q _ => ∃ (a : Addr) (ns : List Int), vs = [.ref a] ∧ SqL K H a (ns.map V.int) ∧ ns.length ≤ 63 ∧
  ∀ (G : Hp) (h l : Addr) (L : List Int) (st : Int), Same H G → H h = none → H l = none → Hv G h l L st → Q (.ref h) G
theorem ok_heap {f : Addr} {fd : FuncData} {k : Nat} (F : Fun K "_law_heap" "_law_heap" s__law_heap f fd) (ma : mg "abs" = none) (mi : mg "int" = none) : FnOk P w K mg base CX0 (k + 1) f fd ["script"] (spHeap K) := by
  refine F.ok sc__law_heap (fun vs H Q E h => ?_) (fun cdv A outer s H vs Q E hr h => ?_)
  · obtain ⟨a, ns, rfl, _⟩ := h
    rfl
  · obtain ⟨a, ns, rfl, hs, hl, q⟩ := h
    refine ⟨_, pss_cons (ps_par (i := 2) (j := 3) rfl sc__law_heap.nd rfl rfl (by decide) rfl rfl (pa_cons (pe_lc (own := [("cell", 1)]) (g := gName 1) (tt := tYes) rfl sc__law_heap.nd (pi_list (pe_slice sl_list (pv 0) po_none (po_some pe_int)))
          (blkOk_by (own := [("cell", 1)]) (N := ["script", "cell", "cells", "stir"]) (sc := defScope s__law_heap) (by decide +kernel)) (fun _ _ _ _ _ => pg_name (i := 1) sc__law_heap.nd rfl (Or.inl rfl)) (fun _ _ _ _ _ => pts_nil)
          (fun _ _ _ _ _ => pe_op op_add (pe_op op_mul pe_int (pe_callB call_abs (by rfl) ma (by decide +kernel) (pa_cons (pv 1) pa_nil))) (pe_callTy call_int1 (by rfl) mi (by decide +kernel) (pa_cons (pe_cmpR op_lt (pv 1) pe_int (nomark _)) pa_nil)))) (pa_cons pe_int pa_nil)) (by rfl))
      (pss_cons (ps_for PassesOwn.never rfl (pi_list (pv 2)) (pg_name (i := 1) sc__law_heap.nd rfl (.inl rfl))
        (pss_one (ps_set (i := 3) sc__law_heap.nd rfl (.inl rfl) (pe_op op_mod (pe_callTy call_int1 (by rfl) mi (by decide +kernel) (pa_cons (pe_op op_add (pe_op op_add (pe_op op_mul (pv 3) pe_int) (pe_op op_mod (pe_callTy call_int1 (by rfl) mi (by decide +kernel) (pa_cons (pv 1) pa_nil)) pe_int)) pe_int) pa_nil)) pe_int))))
      (pss_one (ps_ret (pe_lst (pa_cons (pe_revL (pe_lc (own := [("cell", 1)]) (g := gName 1) rfl sc__law_heap.nd (pi_list (pv 2))
          (blkOk_by (own := [("cell", 1)]) (N := ["script", "cell", "cells", "stir"]) (sc := defScope s__law_heap) (by decide +kernel)) (fun _ _ _ _ _ => pg_name (i := 1) sc__law_heap.nd rfl (Or.inl rfl))
          (fun _ _ _ _ _ => pts_one (pt_cmpR op_ge (pv 1) (pe_op op_pow pe_int pe_int) (nomark _))) (fun _ _ _ _ _ => pv 1))) (pa_cons (pv 3) pa_nil)))))), ?_⟩
    -- script[:60]
    refine ⟨.ref a, rfl, 60, rfl, a, _, rfl, hs, fun p np => ⟨p, rfl, ⟨_, sqL upd_same⟩, fun D nD => ?_⟩⟩
    have s1 : Same H _ := same_new (o := .lst (cutV (ns.map V.int) none (some 60))) np
    have ecut : cutV (ns.map V.int) none (some 60) = (ns.take 60).map V.int := by
      unfold cutV
      rw [HT.sIx_none, show (some (60 : Int)) = some ((60 : Nat) : Int) from rfl, HT.sIx_nat, List.drop_zero, Nat.sub_zero, List.length_map, List.map_take]
      by_cases z : 60 ≤ ns.length
      · rw [Nat.min_eq_left z]
      · rw [Nat.min_eq_right (by omega), List.take_of_length_le (by rw [List.length_map]; exact Nat.le_refl _), List.take_of_length_le (by rw [List.length_map]; omega)]
    rw [ecut] at s1 nD ⊢
    refine lc_list (K := K) (a := p) (xs := (ns.take 60).map V.int) (fun i G => Same (upd H p (.lst ((ns.take 60).map V.int))) G ∧ ∃ cs : List Int, G D = some (.lst (cs.map V.int)) ∧ cs.length = i)
      ⟨same_new nD, [], upd_same, rfl⟩ (fun i G _ hP => sqL (hP.1 _ _ upd_same)) (fun i x G hx hP => ?_) (fun G hP => ?_)
    · obtain ⟨s2, cs, gD, cl⟩ := hP
      obtain ⟨n, hn, rfl⟩ : ∃ n, (ns.take 60)[i]? = some n ∧ V.int n = x := by
        rw [List.getElem?_map] at hx
        cases e : (ns.take 60)[i]? with
        | none => rw [e] at hx; cases hx
        | some n => rw [e] at hx; exact ⟨n, rfl, Option.some.inj hx⟩
      have hi := (List.getElem?_eq_some_iff.mp hn).1
      rw [List.length_take] at hi
      refine ⟨rfl, ?_⟩
      dsimp only [tYes]
      rw [if_pos rfl]
      refine ⟨_, rfl, n, rfl, 2, _, rfl, rfl, .inl ⟨by decide, by decide⟩, _, rfl, _, _, rfl, rfl, .inr ⟨_, rfl, _, _, rfl, rfl, cs.map V.int, gD, ?_, fun b o e => ?_, cs ++ [2 * (if n < 0 then -n else n) + (if decide (n < 0) = true then 1 else 0)], ?_, ?_⟩⟩
      · rw [List.length_map]
        exact small1000 (by omega)
      · rw [upd_ne (ne_of_none e nD)]
        exact s2 _ _ e
      · rw [upd_same, List.map_append]
        rfl
      · rw [List.length_append, cl]
        rfl
    · obtain ⟨s2, cs, gD, cl⟩ := hP
      have sG := s1.trans s2
      rw [List.length_map, List.length_take] at cl
      refine ⟨_, _, rfl, ?_⟩
      -- for cell in cells
      refine ⟨.ref D, rfl, D, rfl, ⟨_, sqL gD⟩, for_list (xs := cs.map V.int) (fun i σ G' => G' = G ∧ ∃ (st : Int) (y : Option V), σ = [some (.ref a), y, some (.ref D), some (.int st)] ∧ 0 ≤ st ∧ st < 2147483647)
        ⟨rfl, 65011, none, rfl, by decide, by decide⟩ (fun i σ G' _ hP => by rw [hP.1]; exact sqL gD) (fun i x σ G' hx hP => ?_) (fun σ G' hP => ?_)⟩
      · obtain ⟨rfl, st, y, rfl, h0, h1⟩ := hP
        obtain ⟨n, rfl⟩ : ∃ n, V.int n = x := by
          rw [List.getElem?_map] at hx
          cases e : cs[i]? with
          | none => rw [e] at hx; cases hx
          | some n => rw [e] at hx; exact ⟨n, Option.some.inj hx⟩
        refine ⟨_, rfl, _, _, rfl, rfl, .inl ⟨by omega, by omega⟩, _, rfl, .inl ⟨_, rfl, _, _, rfl, rfl, (by show (0 : Int) < 2147483563; decide), _, _, rfl, rfl, _, _, rfl, rfl, .inl ⟨_, rfl, _, _, rfl, rfl, (by show (0 : Int) < 2147483647; decide), rfl, _, _, rfl, ?_, ?_⟩⟩⟩
        · exact Int.emod_nonneg _ (by decide)
        · exact Int.emod_lt_of_pos _ (by decide)
      · obtain ⟨rfl, st, y, rfl, h0, h1⟩ := hP
        refine ⟨.ref D, rfl, D, rfl, ⟨_, sqL gD⟩, fun D2 nD2 => ?_⟩
        refine lc_list (K := K) (a := D) (xs := cs.map V.int) (fun i G2 => Same G' G2 ∧ ∃ es : List Int, G2 D2 = some (.lst (es.map V.int)) ∧ es.length ≤ i)
          ⟨same_new nD2, [], upd_same, Nat.le_refl _⟩ (fun i G2 _ hP => sqL (hP.1 _ _ gD)) (fun i x G2 hx hP => ?_) (fun G2 hP => ?_)
        · obtain ⟨s3, es, gE, el⟩ := hP
          obtain ⟨n, hn, rfl⟩ : ∃ n, cs[i]? = some n ∧ V.int n = x := by
            rw [List.getElem?_map] at hx
            cases e : cs[i]? with
            | none => rw [e] at hx; cases hx
            | some n => rw [e] at hx; exact ⟨n, rfl, Option.some.inj hx⟩
          have hi := (List.getElem?_eq_some_iff.mp hn).1
          refine ⟨rfl, _, rfl, 10, 18, rfl, rfl, ⟨by decide, by decide, by decide⟩, _, _, rfl, rfl, _, rfl, ite2 (fun _ => ?_) (fun _ => ⟨s3, es, gE, Nat.le_succ_of_le el⟩)⟩
          refine ⟨_, rfl, es.map V.int, gE, ?_, fun b o e => ?_, es ++ [n], ?_, ?_⟩
          · rw [List.length_map]
            exact small1000 (by omega)
          · rw [upd_ne (ne_of_none e nD2)]
            exact s3 _ _ e
          · rw [upd_same, List.map_append]
            rfl
          · rw [List.length_append]
            exact Nat.succ_le_succ el
        · obtain ⟨s3, es, gE, el⟩ := hP
          rw [List.length_map] at el
          refine ⟨D2, _, rfl, sqL gE, fun l nl => ?_⟩
          refine ⟨_, rfl, by show 2 ≤ sizeLine; decide, fun h nh => ?_⟩
          have s4 : Same G2 _ := same_new (o := .lst (es.map V.int).reverse) nl
          have s5 := s4.trans (same_new (o := .lst [.ref l, .int st]) nh)
          have up : ∀ b, G2 b = none → H b = none := fun b e => by
            cases z : H b with
            | none => rfl
            | some o => exact nomatch (s3 _ _ (sG _ _ z)).symm.trans e
          have nlh : l ≠ h := ne_of_none upd_same nh
          refine q _ h l es.reverse st ((sG.trans s3).trans s5) (up h ((by
            cases z : G2 h with
            | none => rfl
            | some o => exact nomatch (s4 _ _ z).symm.trans nh))) (up l nl) ⟨upd_same, ?_, nlh, h0, h1, ?_⟩
          · rw [upd_ne nlh, upd_same, List.map_reverse]
          · rw [List.length_reverse]
            omega
end
end K65
namespace K65
open PySem PySem.Spec PyProof.Rows L2 Gd Pu
section
variable {P : Program} {w : World} {K : PySem.W.Frag} {mg : Str → Option Value} {base : Heap}
theorem ok_drawS {f : Addr} {fd : FuncData} {k : Nat} (F : Fun K "_law_draw" "_law_draw" s__law_draw f fd) (mi : mg "int" = none) : FnG P w K mg base (k + 1) f fd ["heap", "many"] (spS K dDraw) :=
  (FnG.of (ok_draw F mi)).imp fun _ _ _ _ h => draw_imp h
theorem ok_pickS {f fD : Addr} {fd fdD : FuncData} {k : Nat} (F : Fun K "_law_pick" "_law_pick" s__law_pick f fd) (FD : Fun K "_law_draw" "_law_draw" s__law_draw fD fdD) (bD : Binds K fdD ["heap", "many"] []) (gD : mg "_law_draw" = some (.ref fD))
    (GD : FnG P w K mg base k fD fdD ["heap", "many"] (spS K dDraw)) (ml : mg "len" = none) : FnG P w K mg base (k + 1) f fd ["heap", "some"] (spS K dPick) := by
  refine okS F sc__law_pick (fun L st ds Q h => ?_) fun cdv A out s H E hr h l L n ds Qp hs _ _ _ => ?_
  · obtain ⟨d, its, rfl, _⟩ := h
    rfl
  · obtain ⟨d, its, rfl, sq, l0, l1, q⟩ := hs
    have sq2 : ∀ Γ, Sq Γ d its := fun Γ => by
      cases sq with
      | tup => exact .tup _
      | lst => exact .lst _
      | scr => exact .scr _
      | own h => simp at h
    refine wb_cons (ws_ret (we_ix (we_var 1 rfl (we_callS 0 GD hr gD FD.kp bD (wa_cons (we_src 0 rfl (wa_cons (we_len ml (we_var 1 rfl ⟨its, sq2 _, wa_nil ?_⟩)))))))))
    refine ⟨h, l, L, n, _, rfl, rfl, _, rfl, by omega, by omega, fun r L' st' r0 r1 => ?_⟩
    obtain ⟨j, rfl⟩ := Int.eq_ofNat_of_zero_le r0
    have hj : j < its.length := by omega
    exact ⟨its, j, its[j], sq2 _, rfl, atI_nat (List.getElem?_eq_getElem hj), L', st', rfl, q j _ L' st' (List.getElem?_eq_getElem hj)⟩
end
end K65
namespace K65
open PySem PySem.Spec PyProof.Rows L2 Gd Pu
section
variable {P : Program} {w : World} {K : PySem.W.Frag} {mg : Str → Option Value} {base : Heap}
theorem ok_names {f fD fP : Addr} {fd fdD fdP : FuncData} {k : Nat} (F : Fun K "_law_names" "_law_names" s__law_names f fd) (FD : Fun K "_law_draw" "_law_draw" s__law_draw fD fdD) (FP : Fun K "_law_pick" "_law_pick" s__law_pick fP fdP)
    (bD : Binds K fdD ["heap", "many"] []) (bP : Binds K fdP ["heap", "some"] []) (gD : mg "_law_draw" = some (.ref fD)) (gP : mg "_law_pick" = some (.ref fP))
    (GD : FnG P w K mg base k fD fdD ["heap", "many"] (spS K dDraw)) (GP : FnG P w K mg base k fP fdP ["heap", "some"] (spS K dPick))
    (ml : mg "len" = none) (mi : mg "int" = none) (mr : mg "range" = none) (mt : mg "tuple" = none) (ms : mg "sorted" = none) (mx : mg "max" = none) : FnG P w K mg base (k + 1) f fd ["heap", "many"] (spS K dNames) := by
  refine okS F sc__law_names (fun L st ds Q h => ?_) fun cdv A out s H E hr h l L n ds Qp hs _ _ _ => ?_
  · obtain ⟨n, rfl, _⟩ := h
    rfl
  · obtain ⟨m, rfl, m12, q⟩ := hs
    have nd := sc__law_names.nd
    refine wb_cons (ws_tup3 2 3 4 nd (wxs_cons (wx_v (we_str (wxs_cons (wx_v (we_callS 0 GP hr gP FP.kp bP (wa_cons (we_src 0 rfl (wa_cons (we_new (wn_lst (wa_cons (we_str (wa_cons (we_str (wa_cons (we_str (wa_cons (we_str (wa_cons (we_str (wa_nil ⟨by decide, wa_nil ?_⟩)))))))))))))))))))))))
    refine ⟨h, l, L, n, _, rfl, rfl, _, _, rfl, .lst _, by decide, by decide, fun i x L1 st1 hx => ?_⟩
    obtain ⟨z, rfl, hz⟩ : ∃ z, x = .str z ∧ Front z := by
      have := mem_lit hx
      simp only [List.mem_cons, List.not_mem_nil, or_false] at this
      rcases this with rfl | rfl | rfl | rfl | rfl <;> exact ⟨_, rfl, front_lit (by decide +kernel)⟩
    refine wxs_cons (wx_v (we_callS 0 GD hr gD FD.kp bD (wa_cons (we_src 0 rfl (wa_cons (we_int (wa_nil ?_)))))))
    refine ⟨h, l, L1, st1, _, rfl, rfl, 26, rfl, by decide, by decide, fun r L2 st2 r0 r1 => ?_⟩
    obtain ⟨first, rfl⟩ := Int.eq_ofNat_of_zero_le r0
    refine wxs_nil ⟨_, _, _, rfl, fun _ _ _ => ?_⟩
    -- found
    refine wb_cons (ws_lc 6 (own := [("at", 5)]) (g := gName 5) nd (blkOk_by (own := [("at", 5)]) (N := n__law_names) (sc := defScope s__law_names) (by decide +kernel)) (fun _ _ _ _ _ => pg_name (i := 5) nd rfl (Or.inl rfl))
      (lcm (fun i : Nat => D.int (0 + (i : Int))) (fun i => .str (nameN z first i)) (wi_rng1 mr (we_var 1 rfl ⟨_, rfl, by omega, _, rfl, rfl, trivial, by simp; omega, fun i x hx => ⟨_, tg_name 5, rfl, fun _ _ _ _ _ => ?_⟩, fun a6 => ?_⟩))))
    · obtain ⟨hi, rfl⟩ : i < m ∧ i = x := by
        have e : i < m := by
          have := (List.getElem?_eq_some_iff.mp hx).1
          simpa using this
        rw [List.getElem?_range (by simpa using e)] at hx
        exact ⟨e, Option.some.inj hx⟩
      have e : ((first : Int) + 7 * (0 + (i : Int))) % 26 = (((first + 7 * i) % 26 : Nat) : Int) := by omega
      have hz7 := hz.1
      refine we_addS (we_var 3 rfl (we_ixS (we_var 2 rfl (we_mod (we_int1 mi (we_add (we_var 4 rfl (we_mul (we_int (we_var 5 rfl ⟨_, _, rfl, rfl, .inl ⟨by decide, by decide⟩, _, _, rfl, rfl, .inl ⟨_, rfl, we_int ⟨_, _, rfl, rfl, by decide, zAbc, _, letN first i, rfl, rfl, by decide +kernel, by rw [e]; exact atI_nat (abc_at (Nat.mod_lt _ (by decide))), _, _, rfl, rfl, ?_, rfl, rfl⟩⟩⟩))))))))))
      show z.length + 1 ≤ 1000
      omega
    -- at
    refine wb_cons (ws_set 5 nd (we_callS 0 GD hr gD FD.kp bD (wa_cons (we_src 0 rfl (wa_cons (we_max2 mx (we_int (we_var 1 rfl ⟨_, _, rfl, rfl, wa_nil ?_⟩))))))))
    refine ⟨h, l, L2, st2, _, rfl, rfl, _, rfl, by split <;> omega, by split <;> omega, fun r L3 st3 r0 r1 => ?_⟩
    obtain ⟨at_, rfl⟩ := Int.eq_ofNat_of_zero_le r0
    have em : ((m : Int)).toNat = m := by omega
    rw [em]
    have e6 : (List.range m).map (fun i => D.str (nameN z first i)) = (namesN z first m).map .str := by unfold namesN; rw [List.map_map]; rfl
    rw [e6]
    -- if
    refine wb_cut (fun Γ' => ∃ (ss : List Str) (L4 : List Int) (st4 : Int) (a : Addr), Γ' = [.src h l L4 st4, .v (.int m), .v (.str zAbc), .v (.str z), .v (.int (first : Int)), .v (.int (at_ : Int)), .l a (ss.map .str)] ∧ GoodN m ss) ?_ ?_
    · refine ws_if (wt_ww (ww_and (wt_cmp op_gt (pu_B _) (we_var 1 rfl (we_int ⟨_, _, rfl, rfl, _, rfl, fun h1 => ?_, fun _ => ?_⟩)))))
      · have m0 : 0 < m := by
          have := of_decide_eq_true h1
          omega
        have ha : at_ < m := by split at r1 <;> omega
        have na := namesN_at (front := z) (first := first) ha
        refine ww_and (wt_cmp op_lt (pu_B _) (we_lenS ml (we_ix (we_own 6 rfl (we_var 5 rfl ⟨_, _, _, .own (i := 6) rfl, rfl, atI_nat (get_map na), _, rfl, ?_, we_int ⟨_, _, rfl, rfl, _, rfl, fun h8 => ?_, fun _ => ?_⟩⟩)))))
        · rw [name_len]
          have := hz.1
          exact Nat.le_trans (Nat.succ_le_succ this) (by decide)
        · have l8 : (nameN z first at_).length < 8 := by
            have := of_decide_eq_true h8
            omega
          refine ww_and1 (wt_cmp op_eq pu_eq (we_callS 0 GD hr gD FD.kp bD (wa_cons (we_src 0 rfl (wa_cons (we_int (wa_nil ?_)))))))
          refine ⟨h, l, L3, st3, _, rfl, rfl, 2, rfl, by decide, by decide, fun r L4 st4 r0 r1 => we_int ⟨_, .int _ _, _, rfl, fun _ => ?_, fun _ => ?_⟩⟩
          · refine wb_one (ws_put 6 (we_addS (we_ix (we_own 6 rfl (we_var 5 rfl ⟨_, _, _, .own (i := 6) rfl, rfl, atI_nat (get_map na), we_str ⟨_, _, rfl, rfl, ?_, ⟨_, _, rfl⟩, we_var 5 rfl ⟨_, _, _, at_, rfl, rfl, ixN_nat (by rw [List.length_map, namesN_len]; exact ha), ?_⟩⟩⟩)))))
            · rw [name_len]
              have := hz.1
              have e : (Str.ofString "o").length = 1 := by decide +kernel
              rw [e]
              omega
            · refine ⟨(namesN z first m).set at_ (nameN z first at_ ++ Str.ofString "o"), L4, st4, a6, ?_, names_o hz first m12 l8 (by decide +kernel)⟩
              rw [List.map_set]
              rfl
          · exact wb_nil ⟨_, L4, st4, a6, rfl, names_good hz first m12⟩
        · exact ⟨nofun, fun _ => wb_nil ⟨_, L3, st3, a6, rfl, names_good hz first m12⟩⟩
      · exact ⟨nofun, fun _ => wb_nil ⟨_, L3, st3, a6, rfl, names_good hz first m12⟩⟩
    · rintro Γ' ⟨ss, L4, st4, b, rfl, gs⟩
      refine wb_cons (ws_ret (we_tuple mt (we_new (wn_sortedS ms (we_own 6 rfl ⟨ss, .own (i := 6) rfl, by have := gs.1; omega, fun ys hp hs => ⟨_, .lst _, L4, st4, rfl, ?_⟩⟩)))))
      have gy := good_perm gs hp
      exact q ys L4 st4 gy (sorted_asc hs gy.2.2)
end
end K65
namespace K65
open PySem PySem.Spec PyProof.Rows L2 Gd Pu
section
variable {P : Program} {w : World} {K : PySem.W.Frag} {mg : Str → Option Value} {base : Heap}
theorem ok_lot {f fD : Addr} {fd fdD : FuncData} {k : Nat} (F : Fun K "_law_lot" "_law_lot" s__law_lot f fd) (FD : Fun K "_law_draw" "_law_draw" s__law_draw fD fdD) (bD : Binds K fdD ["heap", "many"] []) (gD : mg "_law_draw" = some (.ref fD))
    (GD : FnG P w K mg base k fD fdD ["heap", "many"] (spS K dDraw)) (mr : mg "range" = none) (mt : mg "tuple" = none) : FnG P w K mg base (k + 1) f fd ["heap", "many", "share"] (spS K dLot) := by
  refine okS F sc__law_lot (fun L st ds Q h => ?_) fun cdv A out s H E hr h l L n ds Qp hs _ _ _ => ?_
  · obtain ⟨n, m, rfl, _⟩ := h
    rfl
  · obtain ⟨nn, m, rfl, n1, m0, m1, q⟩ := hs
    have nd := sc__law_lot.nd
    refine wb_cons (ws_ret (we_tuple mt (we_new (wn_lc (own := [("at", 3)]) (g := gName 3) nd (blkOk_by (own := [("at", 3)]) (N := n__law_lot) (sc := defScope s__law_lot) (by decide +kernel)) (fun _ _ _ _ _ => pg_name (i := 3) nd rfl (Or.inl rfl))
      (wi_rng1 mr (we_var 1 rfl ⟨_, rfl, by omega, fun i acc Γ => ∃ L st ns, Γ = [.src h l L st, .v (.int nn), .v (.int m), .no] ∧ acc = ns.map .int ∧ LotOk i ns, ⟨L, n, [], rfl, rfl, .nil 0⟩, ?_, ?_, ?_⟩))))))
    · rintro i acc Γ hi ⟨L1, st1, ns, rfl, rfl, ho⟩
      refine ⟨trivial, ?_⟩
      have := ho.len
      rw [rngD_len] at hi
      rw [List.length_map]
      omega
    · rintro i acc d Γ hd ⟨L1, st1, ns, rfl, rfl, ho⟩
      obtain ⟨hi, rfl⟩ := rngD_get hd
      refine ⟨_, tg_name 3, fun _ _ _ _ _ => wts_one (wt_cmp op_eq pu_eq (we_callS 0 GD hr gD FD.kp bD (wa_cons (we_src 0 rfl (wa_cons (we_var 2 rfl (wa_nil ⟨h, l, L1, st1, _, rfl, rfl, m, rfl, m0, m1, fun r L2 st2 _ _ => we_int ⟨_, .int _ _, _, rfl, fun _ => fun _ _ _ _ _ => we_var 3 rfl ⟨L2, st2, ns ++ [(i : Int)], rfl, ?_, ho.snoc⟩, fun _ => ⟨L2, st2, ns, rfl, rfl, ho.up (Nat.le_succ _)⟩⟩⟩)))))))⟩
      rw [List.map_append, Int.zero_add]
      rfl
    · rintro acc Γ ⟨L1, st1, ns, rfl, rfl, ho⟩
      rw [rngD_len] at ho
      refine ⟨_, .lst _, L1, st1, rfl, q ns L1 st1 ?_⟩
      exact ho.up (by omega)
end
end K65
namespace K65
open PySem PySem.Spec PyProof.Rows L2 Gd Pu
section
variable {P : Program} {w : World} {K : PySem.W.Frag} {mg : Str → Option Value} {base : Heap}
theorem ok_parts {f fD fP fN fL : Addr} {fd fdD fdP fdN fdL : FuncData} {k : Nat} (F : Fun K "_law_parts" "_law_parts" s__law_parts f fd) (FD : Fun K "_law_draw" "_law_draw" s__law_draw fD fdD) (FP : Fun K "_law_pick" "_law_pick" s__law_pick fP fdP) (FN : Fun K "_law_names" "_law_names" s__law_names fN fdN) (FL : Fun K "_law_lot" "_law_lot" s__law_lot fL fdL)
    (bD : Binds K fdD ["heap", "many"] []) (bP : Binds K fdP ["heap", "some"] []) (bN : Binds K fdN ["heap", "many"] []) (bL : Binds K fdL ["heap", "many", "share"] []) (gD : mg "_law_draw" = some (.ref fD)) (gP : mg "_law_pick" = some (.ref fP)) (gN : mg "_law_names" = some (.ref fN)) (gL : mg "_law_lot" = some (.ref fL))
    (GD : FnG P w K mg base k fD fdD ["heap", "many"] (spS K dDraw)) (GP : FnG P w K mg base k fP fdP ["heap", "some"] (spS K dPick)) (GN : FnG P w K mg base k fN fdN ["heap", "many"] (spS K dNames)) (GL : FnG P w K mg base k fL fdL ["heap", "many", "share"] (spS K dLot))
    (mr : mg "range" = none) (mt : mg "tuple" = none) : FnG P w K mg base (k + 1) f fd ["heap", "kinds", "types"] (spS K dParts) := by
  refine okS F sc__law_parts (fun L st ds Q h => ?_) fun cdv A out s H E hr h l L n ds Qp hs _ _ _ => ?_
  · obtain ⟨kk, tt, rfl, _⟩ := h
    rfl
  · obtain ⟨kk, tt, rfl, k1, k8, t12, q⟩ := hs
    have nd := sc__law_parts.nd
    refine wb_cons (ws_par2 3 4 nd (wxs_cons (wx_v (we_callS 0 GN hr gN FN.kp bN (wa_cons (we_src 0 rfl (wa_cons (we_var 2 rfl (wa_nil ⟨h, l, L, n, _, rfl, rfl, tt, rfl, t12, fun ss L1 st1 gs as => wxs_cons (wx_l (wn_lst (wa_nil ⟨by decide, wxs_nil ⟨_, _, rfl, fun _ a => ?_⟩⟩)))⟩)))))))))
    refine wb_cut (PInv h l a kk tt ss ss.length) ?_ ?_
    · refine ws_for [5] (pg_name (i := 5) nd rfl (.inl rfl)) (wi_tup (we_var 3 rfl ⟨_, rfl, PInv h l a kk tt ss, ⟨L1, st1, [], .no, .no, .no, rfl, rfl, nofun⟩, fun _ _ _ _ => trivial, ?_, by rw [List.length_map]; exact fun Γ q => q⟩))
      · rintro i d Γ hd ⟨L2, st2, ts, y5, y6, y7, rfl, hf, hl⟩
        obtain ⟨z, hz, rfl⟩ := map_get hd
        have hi : i < ss.length := (List.getElem?_eq_some_iff.mp hz).1
        have tl : ts.length = i := by
          have := congrArg List.length hf
          rw [List.length_map, List.length_take] at this
          omega
        have ts12 : ts.length ≤ 12 := by have := gs.1; omega
        have hnm : ∀ p ∈ ts, Nm p.1 := fun p hp => good_mem gs (List.mem_of_mem_take (by rw [← hf]; exact List.mem_map.mpr ⟨p, hp, rfl⟩))
        refine ⟨_, tg_name 5, wb_cons (ws_set 6 nd (we_callS 0 GD hr gD FD.kp bD (wa_cons (we_src 0 rfl (wa_cons (we_int (wa_nil ⟨h, l, L2, st2, _, rfl, rfl, 6, rfl, by decide, by decide, fun r L3 st3 _ _ => ?_⟩)))))))⟩
        refine wb_cons (ws_set 7 nd (we_callS 0 GL hr gL FL.kp bL (wa_cons (we_src 0 rfl (wa_cons (we_var 1 rfl (wa_cons (we_callS 0 GP hr gP FP.kp bP (wa_cons (we_src 0 rfl (wa_cons (we_new (wn_lst (wa_cons (we_int (wa_cons (we_int (wa_cons (we_int (wa_nil ⟨by decide, wa_nil ⟨h, l, L3, st3, _, rfl, rfl, _, _, rfl, .lst _, by decide, by decide, fun j x L4 st4 hx => wa_nil ?_⟩⟩))))))))))))))))))))
        obtain ⟨sh, rfl, sh0, sh1⟩ : ∃ sh : Int, x = .int sh ∧ 0 < sh ∧ sh < 1000000000 := by
          have := mem_lit hx
          simp only [List.mem_cons, List.not_mem_nil, or_false] at this
          rcases this with rfl | rfl | rfl <;> exact ⟨_, rfl, by decide, by decide⟩
        refine ⟨h, l, L4, st4, _, rfl, rfl, kk, sh, rfl, by omega, sh0, sh1, fun ns L5 st5 hns => ?_⟩
        refine wb_cut (fun Γ => ∃ ns L st, Γ = [.src h l L st, .v (.int kk), .v (.int tt), .v (tS ss), .l a (ts.map typeP), .v (.str z), .v (.int r), .v (tI ns)] ∧ LotOk kk ns) ?_ ?_
        · refine ws_if (wt_ww (ww_and (wt_cmp op_eq pu_eq (we_var 6 rfl (we_int ⟨_, .int _ _, _, rfl, fun _ => ?_, fun _ => ⟨nofun, fun _ => wb_nil ⟨ns, L5, st5, rfl, hns⟩⟩⟩)))))
          refine ww_and1 (wt_cmp (op_neD hr.rm.units) pu_neV (we_own 4 rfl (we_new (wn_lst (wa_nil ⟨lk, ?_⟩)))))
          refine ⟨_, _, .own (i := 4) rfl, .same _, sh_typesL k8 hnm hl, sh_nil, _, rfl, fun hb => ?_, fun _ => wb_nil ⟨ns, L5, st5, rfl, hns⟩⟩
          rw [eqv_nilL] at hb
          have ne : ts ≠ [] := fun e => by rw [e] at hb; exact nomatch hb
          refine wb_one (ws_set 7 nd (we_ix (we_ix (we_own 4 rfl (we_neg (we_int ⟨_, rfl, _, _, _, .own (i := 4) rfl, rfl, last_D ne, we_int ⟨_, _, _, .tup _, rfl, atI_nat (j := 1) rfl, (ts.getLast ne).2, L5, st5, rfl, hl _ (List.getLast_mem ne)⟩⟩))))))
        · rintro Γ ⟨ms, L6, st6, rfl, hms⟩
          have fin : ∀ (us : List Int) (L7 : List Int) (st7 : Int), LotOk kk us → PInv h l a kk tt ss (i + 1) [.src h l L7 st7, .v (.int kk), .v (.int tt), .v (tS ss), .l a (ts.map typeP ++ [typeP (z, us)]), .v (.str z), .v (.int r), .v (tI ms)] := fun us L7 st7 hu => by
            refine ⟨L7, st7, ts ++ [(z, us)], _, _, _, by rw [List.map_append]; rfl, fst_take hf hz, fun p hp => ?_⟩
            rcases List.mem_append.mp hp with m | m
            · exact hl p m
            · cases List.mem_singleton.mp m
              exact hu
          have l5 : (ts.map typeP).length ≤ 100000 := by rw [List.length_map]; omega
          refine wb_one (ws_append 4 (we_tup (wa_cons (we_var 5 rfl (wa_cons (we_if (wt_ww (ww_and (wt_cmp op_eq pu_eq (we_var 6 rfl (we_int ⟨_, .int _ _, _, rfl, fun _ => ?_, fun _ => ⟨nofun, fun _ => we_var 7 rfl (wa_nil ⟨lk, a, _, rfl, l5, fin ms L6 st6 hms⟩)⟩⟩)))))))))))
          refine ww_and1 (wt_cmp op_eq pu_eq (we_callS 0 GD hr gD FD.kp bD (wa_cons (we_src 0 rfl (wa_cons (we_int (wa_nil ⟨h, l, L6, st6, _, rfl, rfl, 3, rfl, by decide, by decide, fun r2 L7 st7 _ _ => we_int ⟨_, .int _ _, _, rfl, fun _ => ?_, fun _ => we_var 7 rfl (wa_nil ⟨lk, a, _, rfl, l5, fin ms L7 st7 hms⟩)⟩⟩)))))))
          refine we_tupR mt mr (we_var 1 rfl ⟨_, rfl, ⟨by omega, by omega⟩, wa_nil ⟨lk, a, _, rfl, l5, ?_⟩⟩)
          have z7 := fin (numsN kk) L7 st7 (numsN_ok kk)
          rw [show ((kk : Int)).toNat = kk by omega, rngD_eq]
          exact z7
    · rintro Γ ⟨L2, st2, ts, y5, y6, y7, rfl, hf, hl⟩
      rw [List.take_length] at hf
      refine wb_cons (ws_ret (we_tup (wa_cons (we_callS 0 GN hr gN FN.kp bN (wa_cons (we_src 0 rfl (wa_cons (we_var 1 rfl (wa_nil ⟨h, l, L2, st2, _, rfl, rfl, kk, rfl, by omega, fun ks L3 st3 gk ak => wa_cons (we_tuple mt (we_own 4 rfl ⟨_, .own (i := 4) rfl, wa_nil ⟨lk, L3, st3, rfl, q ks ts L3 st3 ⟨gk, ak, by rw [hf]; exact gs, by rw [hf]; exact as, hl⟩⟩⟩))⟩)))))))))
end
end K65
namespace K65
open PySem PySem.Spec PyProof.Rows L2 Gd Pu
section
variable {P : Program} {w : World} {K : PySem.W.Frag} {mg : Str → Option Value} {base : Heap}
theorem ok_fparts {f fD fN : Addr} {fd fdD fdN : FuncData} {k : Nat} (F : Fun K "_law_forest_parts" "_law_forest_parts" s__law_forest_parts f fd) (FD : Fun K "_law_draw" "_law_draw" s__law_draw fD fdD) (FN : Fun K "_law_names" "_law_names" s__law_names fN fdN)
    (bD : Binds K fdD ["heap", "many"] []) (bN : Binds K fdN ["heap", "many"] []) (gD : mg "_law_draw" = some (.ref fD)) (gN : mg "_law_names" = some (.ref fN))
    (GD : FnG P w K mg base k fD fdD ["heap", "many"] (spS K dDraw)) (GN : FnG P w K mg base k fN fdN ["heap", "many"] (spS K dNames))
    (mr : mg "range" = none) (mt : mg "tuple" = none) : FnG P w K mg base (k + 1) f fd ["heap", "kinds", "types"] (spS K dParts) := by
  refine okS F sc__law_forest_parts (fun L st ds Q h => ?_) fun cdv A out s H E hr h l L n ds Qp hs _ _ _ => ?_
  · obtain ⟨kk, tt, rfl, _⟩ := h
    rfl
  · obtain ⟨kk, tt, rfl, k1, k8, t12, q⟩ := hs
    have nd := sc__law_forest_parts.nd
    refine wb_cons (ws_set 3 nd (we_add (we_int (we_callS 0 GD hr gD FD.kp bD (wa_cons (we_src 0 rfl (wa_cons (we_var 1 rfl (wa_nil ⟨h, l, L, n, _, rfl, rfl, kk, rfl, by omega, by omega, fun r L1 st1 r0 r1 => ⟨_, _, rfl, rfl, ?_⟩⟩)))))))))
    obtain ⟨many, hm⟩ : ∃ many : Nat, 1 + r = (many : Int) := ⟨(1 + r).toNat, by omega⟩
    rw [hm]
    have m1 : 1 ≤ many := by omega
    have m8 : many ≤ 8 := by omega
    -- above
    refine wb_cons (ws_lc 4 (own := [("place", 12)]) (g := gName 12) nd (blkOk_by (own := [("place", 12)]) (N := n__law_forest_parts) (sc := defScope s__law_forest_parts) (by decide +kernel)) (fun _ _ _ _ _ => pg_name (i := 12) nd rfl (Or.inl rfl))
      (wi_rng1 mr (we_var 3 rfl ⟨_, rfl, by omega, fun i acc Γ => ∃ (L : List Int) (st : Int) (ns : List Int), Γ = [.src h l L st, .v (.int kk), .v (.int tt), .v (.int (many : Int)), .no, .no, .no, .no, .no, .no, .no, .no, .no, .no] ∧ acc = ns.map .int ∧ ns.length = i ∧ ∀ x ∈ ns, x < (many : Int), ⟨L1, st1, [], rfl, rfl, rfl, nofun⟩, ?_, ?_, ?_⟩)))
    · rintro i acc Γ hi ⟨L1, st1, ns, rfl, rfl, hl, _⟩
      rw [rngD_len] at hi
      exact ⟨trivial, by rw [List.length_map]; omega⟩
    · rintro i acc d Γ hd ⟨L2, st2, ns, rfl, rfl, hl, hb⟩
      obtain ⟨hi, rfl⟩ := rngD_get hd
      refine ⟨_, tg_name 12, fun _ _ _ _ _ => wts_nil ⟨fun _ => fun _ _ _ _ _ => ?_, nofun⟩⟩
      refine we_sub (we_callS 0 GD hr gD FD.kp bD (wa_cons (we_src 0 rfl (wa_cons (we_add (we_var 12 rfl (we_int ⟨_, _, rfl, rfl, wa_nil ⟨h, l, L2, st2, _, rfl, rfl, _, rfl, by omega, by omega, fun r2 L3 st3 r20 r21 => we_int ⟨_, _, rfl, rfl, L3, st3, ns ++ [r2 - 1], rfl, by rw [List.map_append]; rfl, by rw [List.length_append, hl]; rfl, fun x hx => ?_⟩⟩⟩)))))))
      rcases List.mem_append.mp hx with m | m
      · exact hb x m
      · cases List.mem_singleton.mp m
        omega
    rintro acc Γ ⟨L2, st2, ab, rfl, rfl, abl, abb⟩ a4
    rw [rngD_len] at abl
    -- spots
    refine wb_cons (ws_own 5 nd (wn_lc (own := [("kind", 13)]) (g := gName 13) nd (blkOk_by (own := [("kind", 13)]) (N := n__law_forest_parts) (sc := defScope s__law_forest_parts) (by decide +kernel)) (fun _ _ _ _ _ => pg_name (i := 13) nd rfl (Or.inl rfl))
      (wi_rng1 mr (we_var 1 rfl ⟨_, rfl, by omega, fun i acc Γ => ∃ (L : List Int) (st : Int) (ns : List Int), Γ = [.src h l L st, .v (.int kk), .v (.int tt), .v (.int (many : Int)), .l a4 (ab.map .int), .no, .no, .no, .no, .no, .no, .no, .no, .no] ∧ acc = ns.map .int ∧ ns.length = i, ⟨L2, st2, [], rfl, rfl, rfl⟩, ?_, ?_, ?_⟩))))
    · rintro i acc Γ hi ⟨L1, st1, ns, rfl, rfl, hl⟩
      rw [rngD_len] at hi
      exact ⟨trivial, by rw [List.length_map]; omega⟩
    · rintro i acc d Γ hd ⟨L3, st3, ns, rfl, rfl, hl⟩
      obtain ⟨hi, rfl⟩ := rngD_get hd
      refine ⟨_, tg_name 13, fun _ _ _ _ _ => wts_nil ⟨fun _ => fun _ _ _ _ _ => ?_, nofun⟩⟩
      exact we_sub (we_callS 0 GD hr gD FD.kp bD (wa_cons (we_src 0 rfl (wa_cons (we_add (we_var 3 rfl (we_int ⟨_, _, rfl, rfl, wa_nil ⟨h, l, L3, st3, _, rfl, rfl, _, rfl, by omega, by omega, fun r2 L4 st4 r20 r21 => we_int ⟨_, _, rfl, rfl, L4, st4, ns ++ [r2 - 1], rfl, by rw [List.map_append]; rfl, by rw [List.length_append, hl]; rfl⟩⟩⟩)))))))
    rintro acc Γ ⟨L3, st3, sp, rfl, rfl, spl⟩ a5
    rw [rngD_len] at spl
    -- names, found
    refine wb_cons (ws_par2 6 7 nd (wxs_cons (wx_v (we_callS 0 GN hr gN FN.kp bN (wa_cons (we_src 0 rfl (wa_cons (we_var 2 rfl (wa_nil ⟨h, l, L3, st3, _, rfl, rfl, tt, rfl, t12, fun ss L4 st4 gs as => wxs_cons (wx_l (wn_lst (wa_nil ⟨by decide, wxs_nil ⟨_, _, rfl, fun _ a7 => ?_⟩⟩)))⟩)))))))))
    refine wb_cut (FInv h l a4 a5 a7 kk tt many ab sp ss ss.length) ?_ ?_
    · refine ws_for [8] (pg_name (i := 8) nd rfl (.inl rfl)) (wi_tup (we_var 6 rfl ⟨_, rfl, FInv h l a4 a5 a7 kk tt many ab sp ss, ⟨L4, st4, [], .no, .no, .no, .no, rfl, rfl, nofun⟩, fun _ _ _ _ => trivial, ?_, by rw [List.length_map]; exact fun Γ q => q⟩))
      rintro i d Γ hd ⟨L5, st5, ts, y8, y9, y10, y11, rfl, hf, hl⟩
      obtain ⟨z, hz, rfl⟩ := map_get hd
      have hi : i < ss.length := (List.getElem?_eq_some_iff.mp hz).1
      have tl : ts.length = i := by
        have := congrArg List.length hf
        rw [List.length_map, List.length_take] at this
        omega
      have ts12 : ts.length ≤ 12 := by have := gs.1; omega
      refine ⟨_, tg_name 8, wb_cons (ws_tup2 9 10 nd (wxs_cons (wx_v (we_sub (we_callS 0 GD hr gD FD.kp bD (wa_cons (we_src 0 rfl (wa_cons (we_add (we_var 3 rfl (we_int ⟨_, _, rfl, rfl, wa_nil ⟨h, l, L5, st5, _, rfl, rfl, _, rfl, by omega, by omega, fun r2 L6 st6 r20 r21 => we_int ⟨_, _, rfl, rfl, wxs_cons (wx_l (wn_lst (wa_nil ⟨by decide, wxs_nil ⟨_, _, rfl, fun _ a10 => ?_⟩⟩)))⟩⟩⟩)))))))))))⟩
      refine wb_cut (HInv h l a4 a5 a7 a10 kk tt many ab sp ss L6 st6 ts z many) ?_ ?_
      · refine ws_for [11] (pg_name (i := 11) nd rfl (.inl rfl)) (wi_rng1 mr (we_var 3 rfl ⟨_, rfl, by omega, HInv h l a4 a5 a7 a10 kk tt many ab sp ss L6 st6 ts z, ⟨r2 - 1, [], _, rfl, by omega, Nat.le_refl _⟩, fun _ _ _ _ => trivial, ?_, by rw [rngD_len]; exact fun Γ q => q⟩))
        rintro j d Γ hd ⟨home, wy, y11, rfl, h1, h2⟩
        obtain ⟨hj, rfl⟩ := rngD_get hd
        refine ⟨_, tg_name 11, wb_one (ws_if (wt_cmp op_ge (pu_B _) (we_var 9 rfl (we_int ⟨_, _, rfl, rfl, _, rfl, fun hb => ?_, fun _ => wb_nil ⟨home, wy, _, rfl, h1, by omega⟩⟩))))⟩
        have h0 := of_decide_eq_true hb
        obtain ⟨hn, rfl⟩ := Int.eq_ofNat_of_zero_le h0
        have hlt : hn < ab.length := by omega
        refine wb_cons (ws_append 10 (we_var 9 rfl ⟨a10, _, rfl, by rw [List.length_map]; omega, ?_⟩))
        refine wb_one (ws_set 9 nd (we_ix (we_own 4 rfl (we_var 9 rfl ⟨_, _, _, .own (i := 4) rfl, rfl, atI_nat (get_map (List.getElem?_eq_getElem hlt)), ?_⟩))))
        exact ⟨ab[hn], wy ++ [(hn : Int)], _, by rw [List.map_append]; rfl, abb _ (List.getElem_mem hlt), by rw [List.length_append]; exact Nat.succ_le_succ h2⟩
      · rintro Γ ⟨home, wy, y11, rfl, h1, h2⟩
        refine wb_one (ws_append 7 (we_tup (wa_cons (we_var 8 rfl (wa_cons (we_tuple mt (we_new (wn_lc (own := [("kind", 13)]) (g := gName 13) nd (blkOk_by (own := [("kind", 13)]) (N := n__law_forest_parts) (sc := defScope s__law_forest_parts) (by decide +kernel)) (fun _ _ _ _ _ => pg_name (i := 13) nd rfl (Or.inl rfl))
          (lcf (fun x : Int => D.int x) (fun x => decide (sp.getD x.toNat 0 ∈ wy)) (fun x => .int x) (wi_rng1 mr (we_var 1 rfl ⟨_, rfl, by omega, numsN kk, by rw [show ((kk : Int)).toNat = kk by omega]; exact rngD_eq kk, rfl, trivial, by rw [numsN_len]; omega, fun j x hx => ⟨_, tg_name 13, rfl, fun _ _ _ _ _ => ?_⟩, _, .lst _, wa_nil ⟨lk, a7, _, rfl, by rw [List.length_map]; omega, ?_⟩⟩)))))))))))
        · obtain ⟨hj, rfl⟩ := numsN_get hx
          have hlt : j < sp.length := by omega
          have e : sp.getD ((j : Int)).toNat 0 = sp[j] := by
            rw [Int.toNat_natCast, List.getD_eq_getElem?_getD, List.getElem?_eq_getElem hlt]
            rfl
          exact wts_one (wt_cmp op_in_seq pu_in (we_ix (we_own 5 rfl (we_var 13 rfl ⟨_, _, _, .own (i := 5) rfl, rfl, atI_nat (get_map (List.getElem?_eq_getElem hlt)), we_own 10 rfl ⟨_, .int _ wy (.own (i := 10) rfl), _, rfl, rfl, by rw [e], fun _ _ _ _ _ _ => we_var 13 rfl ⟨rfl, rfl⟩⟩⟩))))
        · refine ⟨L6, st6, ts ++ [(z, (numsN kk).filter fun x => decide (sp.getD x.toNat 0 ∈ wy))], _, _, _, _, by rw [List.map_append]; rfl, fst_take hf hz, fun p hp => ?_⟩
          rcases List.mem_append.mp hp with m | m
          · exact hl p m
          · cases List.mem_singleton.mp m
            exact (numsN_ok kk).filter _
    · rintro Γ ⟨L5, st5, ts, y8, y9, y10, y11, rfl, hf, hl⟩
      rw [List.take_length] at hf
      refine wb_cons (ws_ret (we_tup (wa_cons (we_callS 0 GN hr gN FN.kp bN (wa_cons (we_src 0 rfl (wa_cons (we_var 1 rfl (wa_nil ⟨h, l, L5, st5, _, rfl, rfl, kk, rfl, by omega, fun ks L6 st6 gk ak => wa_cons (we_tuple mt (we_own 7 rfl ⟨_, .own (i := 7) rfl, wa_nil ⟨lk, L6, st6, rfl, q ks ts L6 st6 ⟨gk, ak, by rw [hf]; exact gs, by rw [hf]; exact as, hl⟩⟩⟩))⟩)))))))))
end
end K65
namespace K65
open PySem PySem.Spec PyProof.Rows L2 Gd Pu
section
variable {P : Program} {w : World} {K : PySem.W.Frag} {mg : Str → Option Value} {base : Heap}
theorem ok_aparts {f fD fP fF : Addr} {fd fdD fdP fdF : FuncData} {k : Nat} (F : Fun K "_law_any_parts" "_law_any_parts" s__law_any_parts f fd) (FD : Fun K "_law_draw" "_law_draw" s__law_draw fD fdD) (FP : Fun K "_law_parts" "_law_parts" s__law_parts fP fdP) (FF : Fun K "_law_forest_parts" "_law_forest_parts" s__law_forest_parts fF fdF)
    (bD : Binds K fdD ["heap", "many"] []) (bP : Binds K fdP ["heap", "kinds", "types"] []) (bF : Binds K fdF ["heap", "kinds", "types"] []) (gD : mg "_law_draw" = some (.ref fD)) (gP : mg "_law_parts" = some (.ref fP)) (gF : mg "_law_forest_parts" = some (.ref fF))
    (GD : FnG P w K mg base k fD fdD ["heap", "many"] (spS K dDraw)) (GP : FnG P w K mg base k fP fdP ["heap", "kinds", "types"] (spS K dParts)) (GF : FnG P w K mg base k fF fdF ["heap", "kinds", "types"] (spS K dParts))
    (ml : mg "len" = none) (mt : mg "tuple" = none) (ms : mg "sorted" = none) (mS : mg "set" = none) (mL : mg "list" = none) : FnG P w K mg base (k + 1) f fd ["heap", "kinds", "types"] (spS K dParts) := by
  refine okS F sc__law_any_parts (fun L st ds Q h => ?_) fun cdv A out s H E hr h l L n ds Qp hs _ _ _ => ?_
  · obtain ⟨kk, tt, rfl, _⟩ := h
    rfl
  · obtain ⟨kk, tt, rfl, k1, k8, t12, q⟩ := hs
    have nd := sc__law_any_parts.nd
    refine wb_cons (ws_set 3 nd (we_callS 0 GD hr gD FD.kp bD (wa_cons (we_src 0 rfl (wa_cons (we_int (wa_nil ⟨h, l, L, n, _, rfl, rfl, 3, rfl, by decide, by decide, fun r L1 st1 r0 r1 => ?_⟩)))))))
    refine wb_cons (ws_if (wt_cmp op_eq pu_eq (we_var 3 rfl (we_int ⟨_, .int _ _, _, rfl, fun _ => ?_, fun _ => ?_⟩))))
    · exact wb_one (ws_ret (we_callS 0 GP hr gP FP.kp bP (wa_cons (we_src 0 rfl (wa_cons (we_var 1 rfl (wa_cons (we_var 2 rfl (wa_nil ⟨h, l, L1, st1, _, rfl, rfl, kk, tt, rfl, k1, k8, t12, fun ks ts L2 st2 po => ⟨L2, st2, rfl, q ks ts L2 st2 po⟩⟩)))))))))
    refine wb_nil (wb_cons (ws_un [4, 5] (pg_tup rfl (pgs_cons (pg_name (i := 4) nd rfl (.inl rfl)) (pgs_cons (pg_name (i := 5) nd rfl (.inl rfl)) pgs_nil))) (we_callS 0 GF hr gF FF.kp bF (wa_cons (we_src 0 rfl (wa_cons (we_var 1 rfl (wa_cons (we_var 2 rfl (wa_nil ⟨h, l, L1, st1, _, rfl, rfl, kk, tt, rfl, k1, k8, t12, fun ks ts L2 st2 po => ⟨_, tg_two 4 5, ?_⟩⟩))))))))))
    have tl := po.tl
    refine wb_cut (fun Γ => ∃ (ts : List (Str × List Int)) (L : List Int) (st : Int) (y6 y7 y8 y9 : Ent), Γ = [.src h l L st, .v (.int kk), .v (.int tt), .v (.int r), .v (tS ks), .v (typesP ts), y6, y7, y8, y9] ∧ PartsOk kk tt ks ts) ?_ ?_
    · refine ws_if (wt_ww (ww_and (wt_cmp op_eq pu_eq (we_var 3 rfl (we_int ⟨_, .int _ _, _, rfl, fun _ => ?_, fun _ => ⟨nofun, fun _ => wb_nil ⟨ts, L2, st2, _, _, _, _, rfl, po⟩⟩⟩)))))
      refine ww_and1 (wt_cmp (op_neD hr.rm.units) pu_neV (we_var 5 rfl (we_tup0 ⟨_, _, .same _, .same _, sh_typesT k8 po.nm po.lo, sh_tup0, _, rfl, fun hb => ?_, fun _ => wb_nil ⟨ts, L2, st2, _, _, _, _, rfl, po⟩⟩)))
      rw [eqv_nilT] at hb
      have ne : 0 < ts.length := by
        cases ts with
        | nil => exact nomatch hb
        | cons x r => exact Nat.succ_pos _
      refine wb_cons (ws_tup2 6 7 nd (wxs_cons (wx_v (we_callS 0 GD hr gD FD.kp bD (wa_cons (we_src 0 rfl (wa_cons (we_len ml (we_var 5 rfl ⟨_, .tup _, wa_nil ⟨h, l, L2, st2, _, rfl, rfl, _, rfl, ?_, ?_, fun r2 L3 st3 r20 r21 => wxs_cons (wx_v (we_callS 0 GD hr gD FD.kp bD (wa_cons (we_src 0 rfl (wa_cons (we_var 1 rfl (wa_nil ⟨h, l, L3, st3, _, rfl, rfl, _, rfl, by omega, by omega, fun r3 L4 st4 r30 r31 => wxs_nil ⟨_, _, rfl, fun _ _ => ?_⟩⟩)))))))⟩⟩)))))))))
      · rw [List.length_map]; omega
      · rw [List.length_map]; omega
      rw [List.length_map] at r21
      obtain ⟨at_, rfl⟩ := Int.eq_ofNat_of_zero_le r20
      have ha : at_ < ts.length := by omega
      have gt := get_map (f := typeP) (List.getElem?_eq_getElem ha)
      have hlo := po.lo _ (List.getElem_mem ha)
      have hll := hlo.len
      refine wb_cut (fun Γ => ∃ (lot : List Int) (y9 : Ent), Γ = [.src h l L4 st4, .v (.int kk), .v (.int tt), .v (.int r), .v (tS ks), .v (typesP ts), .v (.int (at_ : Int)), .v (.int r3), .v (tI lot), y9] ∧ LotOk kk lot) ?_ ?_
      · refine ws_set 8 nd (we_if (wt_cmp op_notIn_seq pu_nin (we_var 7 rfl (we_ix (we_ix (we_var 5 rfl (we_var 6 rfl ⟨_, _, _, .tup _, rfl, atI_nat gt, we_int ⟨_, _, _, .tup _, rfl, atI_nat (j := 1) rfl, _, .int _ _ (.tup _), _, rfl, fun _ => ?_, fun _ => ?_⟩⟩)))))))
        · refine we_tuple mt (we_new (wn_sset ms mS (we_new (wn_addL (we_new (wn_list mL (we_ix (we_ix (we_var 5 rfl (we_var 6 rfl ⟨_, _, _, .tup _, rfl, atI_nat gt, we_int ⟨_, _, _, .tup _, rfl, atI_nat (j := 1) rfl, _, .tup _, we_new (wn_lst (wa_cons (we_var 7 rfl (wa_nil ⟨lk, _, _, .lst _, .lst _, ?_, (ts[at_]).2 ++ [r3], ?_, ?_, fun ms' hp hm => ⟨_, .lst _, ms', _, rfl, hp, fun x hx => ?_⟩⟩))))⟩⟩))))))))))
          · rw [List.length_map]; show (ts[at_]).2.length + 1 ≤ 100000; omega
          · rw [List.map_append]; exact .lst _
          · rw [List.length_append]; show (ts[at_]).2.length + 1 < 64; omega
          · rcases List.mem_append.mp ((hm x).mp hx) with m | m
            · exact hlo.2 x m
            · cases List.mem_singleton.mp m
              exact ⟨r30, r31⟩
        · refine we_tuple mt (we_new (wn_lc (own := [("one", 9)]) (g := gName 9) nd (blkOk_by (own := [("one", 9)]) (N := n__law_any_parts) (sc := defScope s__law_any_parts) (by decide +kernel)) (fun _ _ _ _ _ => pg_name (i := 9) nd rfl (Or.inl rfl))
            (lcf (fun x : Int => D.int x) (fun x => !decide (x = r3)) (fun x => .int x) (wi_tup (we_ix (we_ix (we_var 5 rfl (we_var 6 rfl ⟨_, _, _, .tup _, rfl, atI_nat gt, we_int ⟨_, _, _, .tup _, rfl, atI_nat (j := 1) rfl, _, rfl, (ts[at_]).2, rfl, rfl, trivial, by omega, fun j x hx => ⟨_, tg_name 9, rfl, fun _ _ _ _ _ => ?_⟩, _, .lst _, _, _, rfl, hlo.filter _⟩⟩))))))))
          exact wts_one (wt_cmp op_ne pu_ne (we_var 9 rfl (we_var 7 rfl ⟨_, .int _ _, _, rfl, rfl, rfl, fun _ _ _ _ _ _ => we_var 9 rfl ⟨rfl, rfl⟩⟩)))
      · rintro Γ ⟨lot, y9, rfl, hlot⟩
        refine wb_one (ws_set 5 nd (we_addT (we_addT (we_slT (we_var 5 rfl (wo_none (wo_some (we_var 6 rfl ⟨_, rfl, _, rfl, we_tup (wa_cons (we_tup (wa_cons (we_ix (we_ix (we_var 5 rfl (we_var 6 rfl ⟨_, _, _, .tup _, rfl, atI_nat gt, we_int ⟨_, _, _, .tup _, rfl, atI_nat (j := 0) rfl, wa_cons (we_var 8 rfl (wa_nil ⟨lk, wa_nil ⟨lk, _, _, rfl, rfl, ?_, we_slT (we_var 5 rfl (wo_some (we_add (we_var 6 rfl (we_int ⟨_, _, rfl, rfl, _, rfl, wo_none ⟨_, rfl, _, _, rfl, rfl, ?_, ?_⟩⟩)))))⟩⟩))⟩⟩)))))))⟩))))))))
        · rw [cut_pre (by rw [List.length_map]; omega), List.length_take, List.length_map]
          show min at_ ts.length + 1 ≤ 5000
          omega
        · rw [cut_pre (by rw [List.length_map]; omega), show ((at_ : Int) + 1) = ((at_ + 1 : Nat) : Int) by omega, cut_suf (by rw [List.length_map]; omega), List.length_append, List.length_take, List.length_map, List.length_drop, List.length_map]
          show min at_ ts.length + 1 + (ts.length - (at_ + 1)) ≤ 5000
          omega
        · refine ⟨_, L4, st4, .v (.int (at_ : Int)), .v (.int r3), .v (tI lot), y9, ?_, set_parts po ha hlot⟩
          rw [cut_pre (by rw [List.length_map]; omega), show ((at_ : Int) + 1) = ((at_ + 1 : Nat) : Int) by omega, cut_suf (by rw [List.length_map]; omega)]
          show _ = ([.src h l L4 st4, .v (.int kk), .v (.int tt), .v (.int r), .v (tS ks), .v (.tup ((ts.take at_ ++ [((ts[at_]).1, lot)] ++ ts.drop (at_ + 1)).map typeP)), .v (.int (at_ : Int)), .v (.int r3), .v (tI lot), y9] : List Ent)
          rw [List.map_append, List.map_append, List.map_take, List.map_drop]
          rfl
    · rintro Γ ⟨ts, L3, st3, y6, y7, y8, y9, rfl, po2⟩
      exact wb_cons (ws_ret (we_tup (wa_cons (we_var 4 rfl (wa_cons (we_var 5 rfl (wa_nil ⟨lk, L3, st3, rfl, q ks ts L3 st3 po2⟩)))))))
end
end K65
namespace K65
open PySem PySem.Spec PyProof.Rows L2 Gd
section
variable {P : Program} {w : World} {K : PySem.W.Frag} {mg : Str → Option Value} {base : Heap}
def spNumB (K : PySem.W.Frag) : Sp := fun vs H Q _ => ∃ (x : V) (lim : Int) (b : Bool), vs = [x, .int lim] ∧ NumV K H lim x b ∧ Q (.bl b) H
def spNum (K : PySem.W.Frag) : Sp := fun vs H Q _ => ∃ x : V, vs = [x] ∧ ((∃ i, x = .int i ∧ Q (.bl (decide (0 ≤ i))) H) ∨ (∃ y, x = .bl y ∧ Q (.bl false) H) ∨ (∃ n, TyN K H x n ∧ kitB n "int" = some false ∧ Q (.bl false) H))
theorem ok_num {f : Addr} {fd : FuncData} {k : Nat} (F : Fun K "is_number" "is_number" s_is_number f fd) (mI : mg "isinstance" = none) (mi : mg "int" = none) (mb : mg "bool" = none) : FnOk P w K mg base CX0 (k + 1) f fd ["value"] (spNum K) := by
  refine F.ok sc_is_number (fun vs H Q E h => ?_) (fun cdv A outer s H vs Q E hr h => ?_)
  · obtain ⟨x, rfl, _⟩ := h
    rfl
  · obtain ⟨x, rfl, q⟩ := h
    refine blk_cons (ps_ret (pe_and (pe_callB call_isi (by rfl) mI (by decide +kernel) (pa_cons (pv 0) (pa_cons (pe_bltn (v := .ty "int") (by rfl) mi (by decide +kernel) rfl) pa_nil)))
      (pe_and (pe_not (pe_callB call_isi (by rfl) mI (by decide +kernel) (pa_cons (pv 0) (pa_cons (pe_bltn (v := .ty "bool") (by rfl) mb (by decide +kernel) rfl) pa_nil)))) (pe_one (pe_cmpR op_ge (pv 0) pe_int (nomark _)))))) ?_
    refine blk_nil ?_
    rcases q with ⟨i, rfl, q⟩ | ⟨y, rfl, q⟩ | ⟨n, t, kk, q⟩
    · refine ⟨_, rfl, _, _, _, _, true, rfl, .ty "int", TyN.int i, kit_ty (by decide +kernel), _, rfl, iteT ?_⟩
      refine ⟨_, rfl, _, _, _, _, false, rfl, .ty "bool", TyN.int i, kit_ty (by decide +kernel), _, rfl, _, rfl, iteT ?_⟩
      exact ⟨_, rfl, _, _, rfl, rfl, q⟩
    · refine ⟨_, rfl, _, _, _, _, true, rfl, .ty "int", TyN.bl y, kit_ty (by decide +kernel), _, rfl, iteT ?_⟩
      exact ⟨_, rfl, _, _, _, _, true, rfl, .ty "bool", TyN.bl y, kit_ty (by decide +kernel), _, rfl, _, rfl, iteF q⟩
    · exact ⟨_, rfl, _, _, _, _, false, rfl, .ty "int", t, kit_ty kk, _, rfl, iteF q⟩
theorem ok_numB {f fN : Addr} {fd fdN : FuncData} {k : Nat} (F : Fun K "is_number_below" "is_number_below" s_is_number_below f fd) (FN : Fun K "is_number" "is_number" s_is_number fN fdN) (bN : Binds K fdN ["value"] []) (gN : mg "is_number" = some (.ref fN))
    (mI : mg "isinstance" = none) (mi : mg "int" = none) (mb : mg "bool" = none) : FnOk P w K mg base CX0 (k + 1 + 1) f fd ["value", "limit"] (spNumB K) := by
  have GN : FnOk P w K mg base CX0 (k + 1) fN fdN ["value"] (spNum K) := ok_num FN mI mi mb
  refine F.ok sc_is_number_below (fun vs H Q E h => ?_) (fun cdv A outer s H vs Q E hr h => ?_)
  · obtain ⟨x, lim, b, rfl, _⟩ := h
    rfl
  · obtain ⟨x, lim, b, rfl, hx, q⟩ := h
    refine blk_cons (ps_ret (pe_and (pe_call GN hr (by rfl) gN FN.kp bN .nil pass0 (pa_cons (pv 0) pa_nil)) (pe_one (pe_cmpR op_lt (pv 0) (pv 1) (nomark _))))) ?_
    refine blk_nil ?_
    rcases hx with ⟨i, rfl, rfl⟩ | ⟨y, rfl, rfl⟩ | ⟨n, t, kk, rfl⟩
    · refine ⟨_, rfl, _, rfl, .inl ⟨i, rfl, _, rfl, ?_⟩⟩
      by_cases h0 : 0 ≤ i
      · rw [decide_eq_true h0]
        refine iteT ⟨_, rfl, _, rfl, _, _, rfl, rfl, ?_⟩
        have e : decide (0 ≤ i ∧ i < lim) = decide (i < lim) := decide_eq_decide.mpr ⟨fun z => z.2, fun z => ⟨h0, z⟩⟩
        rw [e] at q
        exact q
      · rw [decide_eq_false h0]
        refine iteF ?_
        rw [decide_eq_false fun z => h0 z.1] at q
        exact q
    · exact ⟨_, rfl, _, rfl, .inr (.inl ⟨y, rfl, _, rfl, iteF q⟩)⟩
    · exact ⟨_, rfl, _, rfl, .inr (.inr ⟨n, t, kk, _, rfl, iteF q⟩)⟩
/-! ### is_name, of a name -/
def spName : Sp := fun vs H Q _ => ∃ z : Str, vs = [.str z] ∧ Nm z ∧ ∀ G, Same H G → Q (.bl true) G
theorem ok_name {f : Addr} {fd : FuncData} {k : Nat} {t : Tok} (F : Fun K "is_name" "is_name" s_is_name f fd) (gL : mg "MOST_LETTERS" = some (.int 8 t)) (mI : mg "isinstance" = none) (ms : mg "str" = none) (ml : mg "len" = none) (ma : mg "all" = none) : FnOk P w K mg base CX0 (k + 1) f fd ["value"] spName := by
  refine F.ok sc_is_name (fun vs H Q E h => ?_) (fun cdv A outer s H vs Q E hr h => ?_)
  · obtain ⟨z, rfl, _⟩ := h
    rfl
  · obtain ⟨z, rfl, hz, q⟩ := h
    refine blk_cons (ps_if (PW.pt (pw_or (pt_not (pt_val (pe_callB call_isi (by rfl) mI (by decide +kernel) (pa_cons (pv 0) (pa_cons (pe_bltn (v := .ty "str") (by rfl) ms (by decide +kernel) rfl) pa_nil)))))
      (pw_or1 (pt_not (pt_chain op_le op_le pe_int (pe_callB call_len_str (by rfl) ml PySem.boot_len (pa_cons (pv 0) pa_nil)) (pe_glob (v := .int 8) (by rfl) gL ⟨_, rfl⟩)))))) (pss_one (ps_ret pe_bl)) pss_nil) ?_
    refine blk_cons (ps_ret (pe_callB (cr_all rfl) (by rfl) ma (by decide +kernel) (pa_cons (pe_lc (own := [("sign", 1)]) (g := gName 1) (tt := tYes) rfl sc_is_name.nd (pi_str (pv 0)) (blkOk_by (own := [("sign", 1)]) (N := n_is_name) (sc := defScope s_is_name) (by decide +kernel))
      (fun _ _ _ _ _ => pg_name (i := 1) sc_is_name.nd rfl (Or.inl rfl)) (fun _ _ _ _ _ => pts_nil) (fun _ _ _ _ _ => pe_chain op_le_str op_le_str pe_str (pv 1) pe_str)) pa_nil))) ?_
    refine blk_nil ?_
    obtain ⟨⟨z1, z8⟩, zc⟩ := hz
    refine ⟨_, rfl, _, _, _, _, true, rfl, .ty "str", TyN.str z, kit_ty (by decide +kernel), _, rfl, iteF ?_⟩
    refine ⟨_, rfl, z, rfl, Nat.le_trans z8 (by decide), _, _, rfl, rfl, _, rfl, ?_⟩
    rw [decide_eq_true (show (1 : Int) ≤ (z.length : Int) by omega)]
    refine iteT ⟨_, _, rfl, rfl, _, rfl, ?_⟩
    rw [decide_eq_true (show (z.length : Int) ≤ 8 by omega)]
    refine iteF ?_
    refine ⟨_, rfl, z, rfl, fun D nD => lc_str (fun i G => Same H G ∧ G D = some (.lst ((List.replicate i true).map V.bl))) ⟨same_new nD, upd_same⟩ (fun i c G hc hP => ?_) (fun G hP => ?_)⟩
    · obtain ⟨s1, gD⟩ := hP
      have hm := zc c (List.mem_of_getElem? hc)
      have hi : i < z.cps.toList.length := (List.getElem?_eq_some_iff.mp hc).1
      have hi8 : i < 8 := Nat.lt_of_lt_of_le hi z8
      refine ⟨rfl, ?_⟩
      dsimp only [tYes]
      rw [if_pos rfl]
      refine ⟨_, rfl, _, _, rfl, rfl, _, rfl, ?_⟩
      have e1 : decide ((⟨#[c]⟩ : Str).cps.toList < (Str.ofString "a").cps.toList) = false := by
        show decide (([c] : List Nat) < [97]) = false
        rw [lt_one]
        exact decide_eq_false (by omega)
      have e2 : decide ((Str.ofString "z").cps.toList < (⟨#[c]⟩ : Str).cps.toList) = false := by
        show decide (([122] : List Nat) < [c]) = false
        rw [lt_one]
        exact decide_eq_false (by omega)
      rw [e1]
      refine iteT ⟨_, _, rfl, rfl, ?_⟩
      rw [e2]
      refine ⟨_, gD, ?_, fun b ob e => ?_, ?_⟩
      · rw [List.length_map, List.length_replicate]
        exact small1000 (by omega)
      · rw [upd_ne (ne_of_none e nD)]
        exact s1 _ _ e
      · rw [upd_same, List.replicate_succ', List.map_append]
        rfl
    · obtain ⟨s1, gD⟩ := hP
      refine ⟨D, _, rfl, sqL gD, ?_⟩
      rw [show (List.replicate z.cps.toList.length true).all id = true from List.all_eq_true.mpr fun x hx => by rw [List.eq_of_mem_replicate hx]; rfl]
      exact q _ s1
end
end K65
namespace Gd
open PySem PySem.Spec PyProof.Rows L2
/-- x < y, ints or texts -/
def rLt2 : V → V → Hp → VK → Prop := fun x y H Q => (∃ i j : Int, x = .int i ∧ y = .int j ∧ Q (.bl (decide (i < j))) H) ∨ (∃ i j : Str, x = .str i ∧ y = .str j ∧ Q (.bl (decide (i.cps.toList < j.cps.toList))) H)
theorem op_lt2 {X : Cx} : OpR X (compareOp .Lt) rLt2 := by
  intro pins s σ H x y v u Q I rx ry h
  rcases h with ⟨i, j, hx, hy, q⟩ | ⟨i, j, hx, hy, q⟩
  · exact op_lt pins s σ H x y v u Q I rx ry ⟨i, j, hx, hy, q⟩
  · exact op_lt_str pins s σ H x y v u Q I rx ry ⟨i, j, hx, hy, q⟩
theorem numV_of {K : PySem.W.Frag} {H : Hp} {lim n : Int} (h : 0 ≤ n ∧ n < lim) : NumV K H lim (.int n) true := .inl ⟨n, rfl, (decide_eq_true h).symm⟩
theorem numsV_ints {K : PySem.W.Frag} {H : Hp} {lim : Int} {p : Addr} {ns : List Int} (h : SqT K H p (ns.map V.int)) (b : ∀ n ∈ ns, 0 ≤ n ∧ n < lim) (l : ns.length ≤ 1000) : NumsV K H lim (.ref p) true := by
  have key : ∀ l : List Int, (∀ n ∈ l, 0 ≤ n ∧ n < lim) → NumVs K H lim (l.map V.int) (l.map fun _ => true) ∧ (l.map fun _ => true).all id = true := fun l hl => by
    induction l with
    | nil => exact ⟨.nil, rfl⟩
    | cons x r ih =>
      obtain ⟨i1, i2⟩ := ih fun n hn => hl n (List.mem_cons_of_mem _ hn)
      exact ⟨.cons (numV_of (hl x List.mem_cons_self)) i1, i2⟩
  obtain ⟨k1, k2⟩ := key ns b
  exact .inr ⟨p, _, _, rfl, h, by rw [List.length_map]; exact l, k1, k2.symm⟩
end Gd
namespace K65
open PySem PySem.Spec PyProof.Rows L2 Gd
section
variable {P : Program} {w : World} {K : PySem.W.Frag} {mg : Str → Option Value} {base : Heap}
def spTupOf (K : PySem.W.Frag) : Sp := fun vs H Q _ => ∃ (x : V) (n : Int), vs = [x, .int n] ∧ ((∃ m, TyN K H x m ∧ kitB m "tuple" = some false ∧ Q (.bl false) H) ∨ (∃ (p : Addr) (xs : List V), x = .ref p ∧ SqT K H p xs ∧ Q (.bl (decide ((xs.length : Int) = n))) H))
theorem ok_tupOf {f : Addr} {fd : FuncData} {k : Nat} (F : Fun K "is_tuple_of" "is_tuple_of" s_is_tuple_of f fd) (mI : mg "isinstance" = none) (mt : mg "tuple" = none) (ml : mg "len" = none) : FnOk P w K mg base CX0 (k + 1) f fd ["value", "length"] (spTupOf K) := by
  refine F.ok sc_is_tuple_of (fun vs H Q E h => ?_) (fun cdv A outer s H vs Q E hr h => ?_)
  · obtain ⟨x, n, rfl, _⟩ := h
    rfl
  · obtain ⟨x, n, rfl, q⟩ := h
    refine blk_cons (ps_ret (pe_and (pe_callB call_isi (by rfl) mI (by decide +kernel) (pa_cons (pv 0) (pa_cons (pe_bltn (v := .ty "tuple") (by rfl) mt (by decide +kernel) rfl) pa_nil)))
      (pe_one (pe_cmpR op_eq (pe_callB call_len_seq (by rfl) ml PySem.boot_len (pa_cons (pv 0) pa_nil)) (pv 1) (nomark _))))) ?_
    refine blk_nil ?_
    rcases q with ⟨m, t, kk, q⟩ | ⟨p, xs, rfl, ht, q⟩
    · exact ⟨_, rfl, _, _, _, _, false, rfl, .ty "tuple", t, kit_ty kk, _, rfl, iteF q⟩
    · refine ⟨_, rfl, _, _, _, _, true, rfl, .ty "tuple", tyT ht, kit_ty (by decide +kernel), _, rfl, iteT ⟨_, rfl, p, xs, rfl, .inr ht, _, rfl, rfl, ?_⟩⟩
      have e : decide (V.int (xs.length : Int) = V.int n) = decide ((xs.length : Int) = n) := decide_eq_decide.mpr ⟨fun z => V.int.inj z, fun z => congrArg V.int z⟩
      rw [e]
      exact q
/-! ### is_ascending, of what is -/
def spAsc (K : PySem.W.Frag) : Sp := fun vs H Q _ => ∃ (p : Addr) (xs : List V), vs = [.ref p] ∧ SqT K H p xs ∧ xs.length ≤ 1000 ∧ ((∃ ns : List Int, xs = ns.map V.int ∧ AscI ns) ∨ (∃ ss : List Str, xs = ss.map V.str ∧ AscS ss)) ∧ ∀ G, Same H G → Q (.bl true) G
theorem ok_asc {f : Addr} {fd : FuncData} {k : Nat} (F : Fun K "is_ascending" "is_ascending" s_is_ascending f fd) (mr : mg "range" = none) (ml : mg "len" = none) (ma : mg "all" = none) : FnOk P w K mg base CX0 (k + 1) f fd ["items"] (spAsc K) := by
  refine F.ok sc_is_ascending (fun vs H Q E h => ?_) (fun cdv A outer s H vs Q E hr h => ?_)
  · obtain ⟨p, xs, rfl, _⟩ := h
    rfl
  · obtain ⟨p, xs, rfl, ht, hl, hx, q⟩ := h
    refine blk_cons (ps_ret (pe_callB (cr_all rfl) (by rfl) ma (by decide +kernel) (pa_cons (pe_lc (own := [("at", 1)]) (g := gName 1) (tt := tYes) rfl sc_is_ascending.nd (pi_range1 (by rfl) mr (pa_cons (pe_op op_sub (pe_callB call_len_seq (by rfl) ml PySem.boot_len (pa_cons (pv 0) pa_nil)) pe_int) pa_nil))
      (blkOk_by (own := [("at", 1)]) (N := n_is_ascending) (sc := defScope s_is_ascending) (by decide +kernel)) (fun _ _ _ _ _ => pg_name (i := 1) sc_is_ascending.nd rfl (Or.inl rfl)) (fun _ _ _ _ _ => pts_nil)
      (fun _ _ _ _ _ => pe_cmpR op_lt2 (pe_ix (r := rIxT K) ix_tup (pv 0) (pv 1) (fun _ _ => rfl)) (pe_ix (r := rIxT K) ix_tup (pv 0) (pe_op op_add (pv 1) pe_int) (fun _ _ => rfl)) (nomark _))) pa_nil))) ?_
    refine blk_nil ?_
    refine ⟨_, rfl, p, xs, rfl, .inr ht, _, _, rfl, rfl, _, rfl, by omega, by omega, fun D nD => lc_range (lo := 0) (fun i G => Same H G ∧ G D = some (.lst ((List.replicate i true).map V.bl))) ⟨same_new nD, upd_same⟩ (fun i G hi hP => ?_) (fun G hP => ?_)⟩
    · obtain ⟨s1, gD⟩ := hP
      have h1 : i < xs.length := by omega
      have h2 : i + 1 < xs.length := by omega
      have ht1 := same_seqT s1 ht
      refine ⟨rfl, ?_⟩
      dsimp only [tYes]
      rw [if_pos rfl]
      refine ⟨_, rfl, _, rfl, p, xs, _, xs[i], rfl, rfl, ht1, at_of (j := i) (by omega) (List.getElem?_eq_getElem h1), _, rfl, _, rfl, _, _, rfl, rfl, p, xs, _, xs[i + 1], rfl, rfl, ht1, at_of (j := i + 1) (by omega) (List.getElem?_eq_getElem h2), ?_⟩
      have fin : ∃ acc, G D = some (.lst acc) ∧ acc.length < sizeLine ∧ Same H (upd G D (.lst (acc ++ [.bl true]))) ∧ (upd G D (.lst (acc ++ [.bl true]))) D = some (.lst ((List.replicate (i + 1) true).map V.bl)) := by
        refine ⟨_, gD, ?_, fun b ob e => ?_, ?_⟩
        · rw [List.length_map, List.length_replicate]
          exact small1000 (by omega)
        · rw [upd_ne (ne_of_none e nD)]
          exact s1 _ _ e
        · rw [upd_same, List.replicate_succ', List.map_append]
          rfl
      rcases hx with ⟨ns, rfl, ha⟩ | ⟨ss, rfl, ha⟩
      · rw [List.length_map] at h1 h2
        have e := pw_next ha (List.getElem?_eq_getElem h1) (List.getElem?_eq_getElem h2)
        refine .inl ⟨ns[i], ns[i + 1], by rw [List.getElem_map], by rw [List.getElem_map], ?_⟩
        rw [decide_eq_true e]
        exact fin
      · rw [List.length_map] at h1 h2
        have e := pw_next ha (List.getElem?_eq_getElem h1) (List.getElem?_eq_getElem h2)
        refine .inr ⟨ss[i], ss[i + 1], by rw [List.getElem_map], by rw [List.getElem_map], ?_⟩
        rw [decide_eq_true e]
        exact fin
    · obtain ⟨s1, gD⟩ := hP
      refine ⟨D, _, rfl, sqL gD, ?_⟩
      rw [show (List.replicate _ true).all id = true from List.all_eq_true.mpr fun x hx => by rw [List.eq_of_mem_replicate hx]; rfl]
      exact q _ s1
/-! ### are_numbers_below -/
def spNums (K : PySem.W.Frag) : Sp := fun vs H Q _ => ∃ (x : V) (lim : Int) (b : Bool), vs = [x, .int lim] ∧ NumsV K H lim x b ∧ ∀ G, Same H G → Q (.bl b) G
theorem ok_nums {f fB fN : Addr} {fd fdB fdN : FuncData} {k : Nat} (F : Fun K "are_numbers_below" "are_numbers_below" s_are_numbers_below f fd) (FB : Fun K "is_number_below" "is_number_below" s_is_number_below fB fdB) (FN : Fun K "is_number" "is_number" s_is_number fN fdN) (bN : Binds K fdN ["value"] []) (bB : Binds K fdB ["value", "limit"] []) (gN : mg "is_number" = some (.ref fN)) (gB : mg "is_number_below" = some (.ref fB))
    (mI : mg "isinstance" = none) (mi : mg "int" = none) (mb : mg "bool" = none) (mt : mg "tuple" = none) (ma : mg "all" = none) : FnOk P w K mg base CX0 (k + 1 + 1 + 1) f fd ["value", "limit"] (spNums K) := by
  have GB : FnOk P w K mg base CX0 (k + 1 + 1) fB fdB ["value", "limit"] (spNumB K) := ok_numB FB FN bN gN mI mi mb
  refine F.ok sc_are_numbers_below (fun vs H Q E h => ?_) (fun cdv A outer s H vs Q E hr h => ?_)
  · obtain ⟨x, lim, b, rfl, _⟩ := h
    rfl
  · obtain ⟨x, lim, b, rfl, hx, q⟩ := h
    refine blk_cons (ps_ret (pe_and (pe_callB call_isi (by rfl) mI (by decide +kernel) (pa_cons (pv 0) (pa_cons (pe_bltn (v := .ty "tuple") (by rfl) mt (by decide +kernel) rfl) pa_nil)))
      (pe_one (pe_callB (cr_all rfl) (by rfl) ma (by decide +kernel) (pa_cons (pe_lc (own := [("item", 2)]) (g := gName 2) (tt := tYes) rfl sc_are_numbers_below.nd (pi_tup (pv 0)) (blkOk_by (own := [("item", 2)]) (N := n_are_numbers_below) (sc := defScope s_are_numbers_below) (by decide +kernel))
        (fun _ _ _ _ _ => pg_name (i := 2) sc_are_numbers_below.nd rfl (Or.inl rfl)) (fun _ _ _ _ _ => pts_nil) (fun _ _ _ _ _ => pe_call GB hr (by rfl) gB FB.kp bB .nil pass0 (pa_cons (pv 2) (pa_cons (pv 1) pa_nil)))) pa_nil))))) ?_
    refine blk_nil ?_
    rcases hx with ⟨n, t, kk, rfl⟩ | ⟨p, xs, bs, rfl, ht, hl, hb, rfl⟩
    · exact ⟨_, rfl, _, _, _, _, false, rfl, .ty "tuple", t, kit_ty kk, _, rfl, iteF (q _ (Same.refl _))⟩
    · have hbl : bs.length = xs.length := (Paired.length hb).symm
      refine ⟨_, rfl, _, _, _, _, true, rfl, .ty "tuple", tyT ht, kit_ty (by decide +kernel), _, rfl, iteT ?_⟩
      refine ⟨.ref p, rfl, p, rfl, ⟨_, ht⟩, fun D nD => lc_tup (K := K) (a := p) (xs := xs) (fun i G => Same H G ∧ G D = some (.lst ((bs.take i).map V.bl))) ⟨same_new nD, upd_same⟩ (fun i G _ hP => same_seqT hP.1 ht) (fun i x G hxi hP => ?_) (fun G hP => ?_)⟩
      · obtain ⟨s1, gD⟩ := hP
        obtain ⟨b0, hb0, hn⟩ := paired_at hb hxi
        refine ⟨rfl, ?_⟩
        dsimp only [tYes]
        rw [if_pos rfl]
        refine ⟨x, rfl, _, rfl, x, lim, b0, rfl, hn.same s1, (bs.take i).map V.bl, gD, ?_, fun b o e => ?_, ?_⟩
        · rw [List.length_map, List.length_take]
          exact small1000 (by omega)
        · rw [upd_ne (ne_of_none e nD)]
          exact s1 _ _ e
        · rw [upd_same, List.take_add_one, hb0, List.map_append]
          rfl
      · obtain ⟨s1, gD⟩ := hP
        rw [← hbl, List.take_length] at gD
        exact ⟨D, bs, rfl, sqL gD, q G s1⟩
/-! ### is_lot_below, is_lot_of_names: of what is -/
def spLot (K : PySem.W.Frag) : Sp := fun vs H Q _ => ∃ (p : Addr) (ns : List Int) (lim : Int), vs = [.ref p, .int lim] ∧ SqT K H p (ns.map V.int) ∧ ns.length ≤ 1000 ∧ AscI ns ∧ (∀ n ∈ ns, 0 ≤ n ∧ n < lim) ∧ ∀ G, Same H G → Q (.bl true) G
theorem ok_lotB {f fS fA fB fN : Addr} {fd fdS fdA fdB fdN : FuncData} {k : Nat} (F : Fun K "is_lot_below" "is_lot_below" s_is_lot_below f fd) (FS : Fun K "are_numbers_below" "are_numbers_below" s_are_numbers_below fS fdS) (FA : Fun K "is_ascending" "is_ascending" s_is_ascending fA fdA)
    (FB : Fun K "is_number_below" "is_number_below" s_is_number_below fB fdB) (FN : Fun K "is_number" "is_number" s_is_number fN fdN) (bS : Binds K fdS ["value", "limit"] []) (bA : Binds K fdA ["items"] []) (bN : Binds K fdN ["value"] []) (bB : Binds K fdB ["value", "limit"] []) (gS : mg "are_numbers_below" = some (.ref fS)) (gA : mg "is_ascending" = some (.ref fA)) (gN : mg "is_number" = some (.ref fN)) (gB : mg "is_number_below" = some (.ref fB))
    (mI : mg "isinstance" = none) (mi : mg "int" = none) (mb : mg "bool" = none) (mt : mg "tuple" = none) (ma : mg "all" = none) (mr : mg "range" = none) (ml : mg "len" = none) : FnOk P w K mg base CX0 (k + 1 + 1 + 1 + 1) f fd ["value", "limit"] (spLot K) := by
  have GS : FnOk P w K mg base CX0 (k + 1 + 1 + 1) fS fdS ["value", "limit"] (spNums K) := ok_nums FS FB FN bN bB gN gB mI mi mb mt ma
  have GA : FnOk P w K mg base CX0 (k + 1 + 1 + 1) fA fdA ["items"] (spAsc K) := ok_asc FA mr ml ma
  refine F.ok sc_is_lot_below (fun vs H Q E h => ?_) (fun cdv A outer s H vs Q E hr h => ?_)
  · obtain ⟨p, ns, lim, rfl, _⟩ := h
    rfl
  · obtain ⟨p, ns, lim, rfl, ht, hl, ha, hb, q⟩ := h
    refine blk_cons (ps_ret (pe_and (pe_call GS hr (by rfl) gS FS.kp bS .nil pass0 (pa_cons (pv 0) (pa_cons (pv 1) pa_nil))) (pe_one (pe_call GA hr (by rfl) gA FA.kp bA .nil pass0 (pa_cons (pv 0) pa_nil))))) ?_
    refine blk_nil ?_
    refine ⟨_, rfl, _, rfl, .ref p, lim, true, rfl, numsV_ints ht hb hl, fun G s1 => ⟨_, rfl, iteT ⟨_, rfl, p, _, rfl, same_seqT s1 ht, by rw [List.length_map]; exact hl, .inl ⟨ns, rfl, ha⟩, fun G2 s2 => q _ (s1.trans s2)⟩⟩⟩
def spLotN (K : PySem.W.Frag) : Sp := fun vs H Q _ => ∃ (p : Addr) (ss : List Str), vs = [.ref p] ∧ SqT K H p (ss.map V.str) ∧ ss.length ≤ 1000 ∧ AscS ss ∧ (∀ z ∈ ss, Nm z) ∧ ∀ G, Same H G → Q (.bl true) G
theorem ok_lotN {f fM fA : Addr} {fd fdM fdA : FuncData} {k : Nat} {t : Tok} (F : Fun K "is_lot_of_names" "is_lot_of_names" s_is_lot_of_names f fd) (FM : Fun K "is_name" "is_name" s_is_name fM fdM) (FA : Fun K "is_ascending" "is_ascending" s_is_ascending fA fdA)
    (bM : Binds K fdM ["value"] []) (bA : Binds K fdA ["items"] []) (gM : mg "is_name" = some (.ref fM)) (gA : mg "is_ascending" = some (.ref fA)) (gL : mg "MOST_LETTERS" = some (.int 8 t))
    (mI : mg "isinstance" = none) (ms : mg "str" = none) (mt : mg "tuple" = none) (ma : mg "all" = none) (mr : mg "range" = none) (ml : mg "len" = none) : FnOk P w K mg base CX0 (k + 1 + 1) f fd ["value"] (spLotN K) := by
  have GM : FnOk P w K mg base CX0 (k + 1) fM fdM ["value"] spName := ok_name FM gL mI ms ml ma
  have GA : FnOk P w K mg base CX0 (k + 1) fA fdA ["items"] (spAsc K) := ok_asc FA mr ml ma
  refine F.ok sc_is_lot_of_names (fun vs H Q E h => ?_) (fun cdv A outer s H vs Q E hr h => ?_)
  · obtain ⟨p, ss, rfl, _⟩ := h
    rfl
  · obtain ⟨p, ss, rfl, ht, hl, ha, hb, q⟩ := h
    refine blk_cons (ps_ret (pe_and (pe_callB call_isi (by rfl) mI (by decide +kernel) (pa_cons (pv 0) (pa_cons (pe_bltn (v := .ty "tuple") (by rfl) mt (by decide +kernel) rfl) pa_nil)))
      (pe_and (pe_callB (cr_all rfl) (by rfl) ma (by decide +kernel) (pa_cons (pe_lc (own := [("item", 1)]) (g := gName 1) (tt := tYes) rfl sc_is_lot_of_names.nd (pi_tup (pv 0)) (blkOk_by (own := [("item", 1)]) (N := n_is_lot_of_names) (sc := defScope s_is_lot_of_names) (by decide +kernel))
        (fun _ _ _ _ _ => pg_name (i := 1) sc_is_lot_of_names.nd rfl (Or.inl rfl)) (fun _ _ _ _ _ => pts_nil) (fun _ _ _ _ _ => pe_call GM hr (by rfl) gM FM.kp bM .nil pass0 (pa_cons (pv 1) pa_nil))) pa_nil))
      (pe_one (pe_call GA hr (by rfl) gA FA.kp bA .nil pass0 (pa_cons (pv 0) pa_nil)))))) ?_
    refine blk_nil ?_
    refine ⟨_, rfl, _, _, _, _, true, rfl, .ty "tuple", tyT ht, kit_ty (by decide +kernel), _, rfl, iteT ?_⟩
    refine ⟨.ref p, rfl, p, rfl, ⟨_, ht⟩, fun D nD => lc_tup (K := K) (a := p) (xs := ss.map V.str) (fun i G => Same H G ∧ G D = some (.lst ((List.replicate i true).map V.bl))) ⟨same_new nD, upd_same⟩ (fun i G _ hP => same_seqT hP.1 ht) (fun i x G hxi hP => ?_) (fun G hP => ?_)⟩
    · obtain ⟨s1, gD⟩ := hP
      rw [List.getElem?_map] at hxi
      obtain ⟨z, hz, rfl⟩ := Option.map_eq_some_iff.mp hxi
      have hi : i < ss.length := (List.getElem?_eq_some_iff.mp hz).1
      refine ⟨rfl, ?_⟩
      dsimp only [tYes]
      rw [if_pos rfl]
      refine ⟨_, rfl, z, rfl, hb z (List.mem_of_getElem? hz), fun G2 s2 => ⟨_, s2 _ _ gD, ?_, fun b o e => ?_, ?_⟩⟩
      · rw [List.length_map, List.length_replicate]
        exact small1000 (by omega)
      · rw [upd_ne (ne_of_none e nD)]
        exact s2 _ _ (s1 _ _ e)
      · rw [upd_same, List.replicate_succ', List.map_append]
        rfl
    · obtain ⟨s1, gD⟩ := hP
      refine ⟨D, _, rfl, sqL gD, ?_⟩
      rw [show (List.replicate _ true).all id = true from List.all_eq_true.mpr fun x hx => by rw [List.eq_of_mem_replicate hx]; rfl]
      refine ⟨_, rfl, iteT ⟨_, rfl, p, _, rfl, same_seqT s1 ht, by rw [List.length_map]; exact hl, .inr ⟨ss, rfl, ha⟩, fun G2 s2 => q _ (s1.trans s2)⟩⟩
end
end K65
namespace K65
open PySem PySem.Spec PyProof.Rows L2 Gd
section
variable {P : Program} {w : World} {K : PySem.W.Frag} {mg : Str → Option Value} {base : Heap}
/-! ### is_type_pair, of what is -/
def spPair (K : PySem.W.Frag) : Sp := fun vs H Q _ => ∃ (v : V) (p : Str × List Int) (lim : Int), vs = [v, .int lim] ∧ Dp K H v (typeD p) ∧ Nm p.1 ∧ AscI p.2 ∧ (∀ n ∈ p.2, 0 ≤ n ∧ n < lim) ∧ p.2.length ≤ 1000 ∧ ∀ G, Same H G → Q (.bl true) G
theorem ok_pair {f fT fM fL : Addr} {fd fdT fdM fdL : FuncData} {k : Nat} (F : Fun K "is_type_pair" "is_type_pair" s_is_type_pair f fd) (FT : Fun K "is_tuple_of" "is_tuple_of" s_is_tuple_of fT fdT) (FM : Fun K "is_name" "is_name" s_is_name fM fdM) (FL : Fun K "is_lot_below" "is_lot_below" s_is_lot_below fL fdL)
    (bT : Binds K fdT ["value", "length"] []) (bM : Binds K fdM ["value"] []) (bL : Binds K fdL ["value", "limit"] []) (gT : mg "is_tuple_of" = some (.ref fT)) (gM : mg "is_name" = some (.ref fM)) (gL : mg "is_lot_below" = some (.ref fL))
    (GT : FnOk P w K mg base CX0 k fT fdT ["value", "length"] (spTupOf K)) (GM : FnOk P w K mg base CX0 k fM fdM ["value"] spName) (GL : FnOk P w K mg base CX0 k fL fdL ["value", "limit"] (spLot K)) :
    FnOk P w K mg base CX0 (k + 1) f fd ["value", "many_kinds"] (spPair K) := by
  refine F.ok sc_is_type_pair (fun vs H Q E h => ?_) (fun cdv A outer s H vs Q E hr h => ?_)
  · obtain ⟨v, p, lim, rfl, _⟩ := h
    rfl
  · obtain ⟨v, p, lim, rfl, hd, hn, ha, hb, hl, q⟩ := h
    refine blk_cons (ps_ret (pe_and (pe_call GT hr (by rfl) gT FT.kp bT .nil pass0 (pa_cons (pv 0) (pa_cons pe_int pa_nil))) (pe_and (pe_call GM hr (by rfl) gM FM.kp bM .nil pass0 (pa_cons (pe_ix ix_tup (pv 0) pe_int (fun _ _ => rfl)) pa_nil))
      (pe_one (pe_call GL hr (by rfl) gL FL.kp bL .nil pass0 (pa_cons (pe_ix ix_tup (pv 0) pe_int (fun _ _ => rfl)) (pa_cons (pv 1) pa_nil))))))) ?_
    refine blk_nil ?_
    obtain ⟨a, l, rfl, hq, hlq⟩ := type_inv hd
    refine ⟨_, rfl, _, 2, rfl, .inr ⟨a, _, rfl, hq, _, rfl, iteT ?_⟩⟩
    refine ⟨_, rfl, a, _, 0, _, rfl, rfl, hq, atI_nat (j := 0) rfl, p.1, rfl, hn, fun G s1 => ⟨_, rfl, iteT ?_⟩⟩
    exact ⟨_, rfl, a, _, 1, _, rfl, rfl, same_seqT s1 hq, atI_nat (j := 1) rfl, _, rfl, l, p.2, lim, rfl, same_seqT s1 hlq, hl, ha, hb, fun G2 s2 => q _ (s1.trans s2)⟩
/-! ### Table(kinds, types), of what is -/
def spTInit (K : PySem.W.Frag) (C : Addr) : Sp := fun vs H Q _ => ∃ (p dx pk pt : Addr) (t : TD), vs = [.ref p, .ref pk, .ref pt] ∧ H p = some (.ins C dx []) ∧ Dp K H (.ref pk) (kindsD t) ∧ Dp K H (.ref pt) (typesD t) ∧ TOk t ∧
  ∀ G, (∀ b o, b ≠ p → H b = some o → G b = some o) → TblAt K C G p dx pk pt t → Q .non G
theorem ok_tinit {f C fN fP : Addr} {fd fdN fdP : FuncData} {k : Nat} {t1 t2 : Tok} (F : Fun K "__init__" "Table.__init__" s_Table_init f fd) (T : TTxt K mg C) (FN : Fun K "is_lot_of_names" "is_lot_of_names" s_is_lot_of_names fN fdN) (FP : Fun K "is_type_pair" "is_type_pair" s_is_type_pair fP fdP)
    (bN : Binds K fdN ["value"] []) (bP : Binds K fdP ["value", "many_kinds"] []) (gN : mg "is_lot_of_names" = some (.ref fN)) (gP : mg "is_type_pair" = some (.ref fP)) (gK : mg "MOST_KINDS" = some (.int 8 t1)) (gT : mg "MOST_TYPES" = some (.int 12 t2))
    (GN : FnOk P w K mg base CX0 k fN fdN ["value"] (spLotN K)) (GP : FnOk P w K mg base CX0 k fP fdP ["value", "many_kinds"] (spPair K)) (mI : mg "isinstance" = none) (mt : mg "tuple" = none) (ml : mg "len" = none) (mE : mg "enumerate" = none) :
    FnOk P w K mg base CX0 (k + 1) f fd ["self", "kinds", "types"] (spTInit K C) := by
  refine F.ok sc_Table_init (fun vs H Q E h => ?_) (fun cdv A outer s H vs Q E hr h => ?_)
  · obtain ⟨p, dx, pk, pt, t, rfl, _⟩ := h
    rfl
  · obtain ⟨p, dx, pk, pt, t, rfl, hp, hk, ht, ok, q⟩ := h
    refine blk_cons (ps_if (PW.pt (pw_or (pt_not (pt_val (pe_call GN hr (by rfl) gN FN.kp bN .nil pass0 (pa_cons (pv 1) pa_nil)))) (pw_or1 (pt_not (pt_chain op_le op_le pe_int (pe_callB call_len_seq (by rfl) ml PySem.boot_len (pa_cons (pv 1) pa_nil)) (pe_glob (v := .int 8) (by rfl) gK ⟨_, rfl⟩)))))) (pss_one ps_never) pss_nil) ?_
    refine blk_cons (ps_if (PW.pt (pw_or (pt_not (pt_val (pe_callB call_isi (by rfl) mI (by decide +kernel) (pa_cons (pv 2) (pa_cons (pe_bltn (v := .ty "tuple") (by rfl) mt (by decide +kernel) rfl) pa_nil)))))
      (pw_or1 (pt_cmpR op_gt (pe_callB call_len_seq (by rfl) ml PySem.boot_len (pa_cons (pv 2) pa_nil)) (pe_glob (v := .int 12) (by rfl) gT ⟨_, rfl⟩) (nomark _))))) (pss_one ps_never) pss_nil) ?_
    refine blk_cons (ps_for PassesOwn.never rfl (pi_enT (by rfl) mE (pa_cons (pv 2) pa_nil)) (pg_tup rfl (pgs_cons (pg_name (i := 3) sc_Table_init.nd rfl (.inl rfl)) (pgs_cons (pg_name (i := 4) sc_Table_init.nd rfl (.inl rfl)) pgs_nil)))
      (pss_one (ps_if (PW.pt (pw_or (pt_not (pt_val (pe_call GP hr (by rfl) gP FP.kp bP .nil pass0 (pa_cons (pv 4) (pa_cons (pe_callB call_len_seq (by rfl) ml PySem.boot_len (pa_cons (pv 1) pa_nil)) pa_nil)))))
        (pw_or1 (PW.pt (pw_and (pt_cmpR op_gt (pv 3) pe_int (nomark _)) (pw_and1 (pt_cmpR op_le_str (pe_ix ix_tup (pv 4) pe_int (fun _ _ => rfl)) (pe_ix ix_tup (pe_ix ix_tup (pv 2) (pe_op op_sub (pv 3) pe_int) (fun _ _ => rfl)) pe_int (fun _ _ => rfl)) (nomark _)))))))) (pss_one ps_never) pss_nil))) ?_
    refine blk_cons (ps_fld (pv 0) (pv 1) rfl) ?_
    refine blk_cons (ps_fld (pv 0) (pv 2) rfl) ?_
    refine blk_nil ?_
    have k1 := ok.k1
    have k8 := ok.k8
    have t12 := ok.t12
    have hks := kinds_sq hk
    obtain ⟨us, hts, hda⟩ := types_sq ht
    have hlu := dpAll_len hda
    rw [List.length_map] at hlu
    refine ⟨_, rfl, pk, t.kinds, rfl, hks, by omega, ok.ka, ok.kn, fun G1 s1 => ⟨_, rfl, iteF ?_⟩⟩
    refine ⟨_, rfl, pk, _, rfl, .inr (same_seqT s1 hks), _, _, rfl, rfl, _, rfl, ?_⟩
    rw [List.length_map, decide_eq_true (show (1 : Int) ≤ (t.kinds.length : Int) by omega)]
    refine iteT ⟨_, _, rfl, rfl, _, rfl, ?_⟩
    rw [decide_eq_true (show (t.kinds.length : Int) ≤ 8 by omega)]
    refine iteF ?_
    refine ⟨_, rfl, _, _, _, _, true, rfl, .ty "tuple", tyT (same_seqT s1 hts), kit_ty (by decide +kernel), _, rfl, iteF ?_⟩
    refine ⟨_, rfl, pt, _, rfl, .inr (same_seqT s1 hts), _, _, rfl, rfl, _, rfl, ?_⟩
    rw [decide_eq_false (show ¬ (us.length : Int) > 12 by omega)]
    refine iteF ?_
    dsimp only [tNext]
    refine seq_out (t := tFor _ _ _) (fun σ' G' => Same H G' ∧ ∃ y3 y4 : Option V, σ' = [some (.ref p), some (.ref pk), some (.ref pt), y3, y4]) (fun N hN => ?_) (fun σ' G2 hR => ?_)
    · refine ⟨_, rfl, pt, us, rfl, same_seqT s1 hts, for_en (xs := us) (fun i σ G => Same H G ∧ ∃ y3 y4 : Option V, σ = [some (.ref p), some (.ref pk), some (.ref pt), y3, y4]) ⟨s1, _, _, rfl⟩ (fun i σ G _ hP => same_seqT hP.1 hts) (fun i x Tp σ G hx hP nT => ?_) (fun σ G hP => hN _ _ hP)⟩
      obtain ⟨s2, y3, y4, rfl⟩ := hP
      have s3 := s2.trans (same_new (o := .tup [.int (i : Nat), x]) nT)
      have gT' := sqT (K := K) (upd_same (H := G) (a := Tp) (o := .tup [.int (i : Nat), x]))
      generalize upd G Tp (.tup [.int (i : Nat), x]) = G3 at s3 gT' ⊢
      obtain ⟨c, hc, dx1⟩ := type_at hda hx
      have hm := List.mem_of_getElem? hc
      refine ⟨Tp, _, rfl, gT', rfl, _, _, rfl, _, _, rfl, rfl, ?_⟩
      refine ⟨_, rfl, _, rfl, pk, _, rfl, .inr (same_seqT s3 hks), x, c, _, rfl, dp_same s3 _ _ dx1, ok.tn c hm, ok.la c hm, fun n hn => by rw [List.length_map]; exact ok.lb c hm n hn, Nat.le_trans (ok.lot8 hm) (by decide), fun G4 s4 => ⟨_, rfl, iteF ?_⟩⟩
      have s5 := s3.trans s4
      refine ⟨_, rfl, _, _, rfl, rfl, _, rfl, ite2 (fun h0 => ?_) (fun _ => iteF ⟨s5, _, _, rfl⟩)⟩
      have i0 : 0 < i := by
        have := of_decide_eq_true h0
        omega
      obtain ⟨j, rfl⟩ : ∃ j, i = j + 1 := ⟨i - 1, by omega⟩
      obtain ⟨a1, l1, rfl, hq1, _⟩ := type_inv (dp_same s5 _ _ dx1)
      have hj : j < t.types.length := by
        have := (List.getElem?_eq_some_iff.mp hc).1
        omega
      have hcj := List.getElem?_eq_getElem hj
      obtain ⟨v0, hv0, dv0⟩ := types_at hda hcj
      obtain ⟨a0, l0, rfl, hq0, _⟩ := type_inv (dp_same s5 _ _ dv0)
      refine ⟨_, rfl, a1, _, 0, _, rfl, rfl, hq1, atI_nat (j := 0) rfl, _, rfl, _, rfl, _, _, rfl, rfl, pt, us, _, _, rfl, rfl, same_seqT s5 hts, at_of (j := j) (by omega) hv0, a0, _, 0, _, rfl, rfl, hq0, atI_nat (j := 0) rfl, _, _, rfl, rfl, _, rfl, ?_⟩
      have lt := pw_next ok.ta (i := j) (by rw [List.getElem?_map, hcj]; rfl) (by rw [List.getElem?_map, hc]; rfl)
      rw [decide_eq_true lt]
      exact iteF ⟨s5, _, _, rfl⟩
    obtain ⟨s2, y3, y4, rfl⟩ := hR
    have hp2 := s2 _ _ hp
    refine ⟨_, rfl, _, rfl, p, C, dx, _, rfl, hp2, T.cl, T.nK, by show 0 < 1000; decide, ?_⟩
    refine ⟨_, rfl, _, rfl, p, C, dx, _, rfl, upd_same, T.cl, T.nT, Nat.lt_of_le_of_lt (len_putF2 _ _ _) (by show 1 < 1000; decide), ?_⟩
    have keep : ∀ b o, b ≠ p → H b = some o → (upd (upd G2 p (.ins C dx (putF "kinds" (.ref pk) []))) p (.ins C dx (tf pk pt))) b = some o := fun b o hb e => (upd_ne hb).trans ((upd_ne hb).trans (s2 _ _ e))
    have ks : ∀ a xs, SqT K H a xs → SqT K (upd (upd G2 p (.ins C dx (putF "kinds" (.ref pk) []))) p (.ins C dx (tf pk pt))) a xs := sqT_ins hp keep
    exact q _ keep ⟨upd_same, dp_sq ks _ _ (noList_kinds t) hk, dp_sq ks _ _ (noList_types t) ht⟩
end
end K65
namespace K65
open PySem PySem.Spec PyProof.Rows L2 Gd Pu
section
variable {P : Program} {w : World} {K : PySem.W.Frag} {mg : Str → Option Value} {base : Heap}
theorem ok_acc {f C : Addr} {fd : FuncData} {k : Nat} (F : Fun K "accepted" "accepted" s_accepted f fd) (T : TTxt K mg C) : FnG P w K mg base (k + 1) f fd ["table", "request"] (spD K (dAcc C)) := by
  refine okD F sc_accepted (fun ds Q h => ?_) fun cdv A out s H E hr ds Qp hs => ?_
  · obtain ⟨ks, ts, r, rfl, _⟩ := h
    rfl
  · obtain ⟨ks, ts, r, rfl, r0, r1, q⟩ := hs
    obtain ⟨i, rfl⟩ := Int.eq_ofNat_of_zero_le r0
    have hi : i < ts.length := by omega
    refine wb_cons (ws_ret (we_ix (we_ix (we_fld (we_var 0 rfl ⟨C, _, _, rfl, T.cl, T.nT, lk_t, we_var 1 rfl ⟨_, _, _, .tup _, rfl, atI_nat (get_map (List.getElem?_eq_getElem hi)), we_int ⟨_, _, _, .tup _, rfl, atI_nat (j := 1) rfl, ?_⟩⟩⟩)))))
    rw [lotT_at (List.getElem?_eq_getElem hi)] at q
    exact q
theorem ok_tok {f C : Addr} {fd : FuncData} {k : Nat} (F : Fun K "types_of_kinds" "types_of_kinds" s_types_of_kinds f fd) (T : TTxt K mg C) (mE : mg "enumerate" = none) (ma : mg "any" = none) (mt : mg "tuple" = none) : FnG P w K mg base (k + 1) f fd ["table", "kinds"] (spD K (dTok C)) := by
  refine okD F sc_types_of_kinds (fun ds Q h => ?_) fun cdv A out s H E hr ds Qp hs => ?_
  · obtain ⟨ks, ts, ns, rfl, _⟩ := h
    rfl
  · obtain ⟨ks, ts, ns, rfl, tb, nl, q⟩ := hs
    have nd := sc_types_of_kinds.nd
    refine wb_cons (ws_own 2 nd (wn_lst (wa_nil ⟨by decide, fun a => ?_⟩)))
    refine wb_cut (TKInv C ks ts ns a ts.length) ?_ ?_
    · refine ws_for [3, 4, 5] (pg_tup rfl (pgs_cons (pg_name (i := 3) nd rfl (.inl rfl)) (pgs_cons (pg_tup rfl (pgs_cons (pg_name (i := 4) nd rfl (.inl rfl)) (pgs_cons (pg_name (i := 5) nd rfl (.inr rfl)) pgs_nil))) pgs_nil))) (wi_en mE (we_fld (we_var 0 rfl ⟨C, _, _, rfl, T.cl, T.nT, lk_t, _, rfl, TKInv C ks ts ns a, ⟨_, _, _, rfl⟩, fun _ _ _ _ => trivial, ?_, by rw [enum_len, List.length_map]; exact fun Γ q => q⟩)))
      rintro i d Γ hd ⟨y3, y4, y5, rfl⟩
      obtain ⟨e, he, rfl⟩ := enum_get hd
      obtain ⟨p, hp, rfl⟩ := map_get he
      have hi := (List.getElem?_eq_some_iff.mp hp).1
      have t12 := tb.t12
      refine ⟨_, tg_12 3 4 5, wb_one (ws_if (wt_val (we_any ma (we_new (wn_lc (own := [("kind", 6)]) (g := gName 6) nd (blkOk_by (own := [("kind", 6)]) (N := n_types_of_kinds) (sc := defScope s_types_of_kinds) (by decide +kernel)) (fun _ _ _ _ _ => pg_name (i := 6) nd rfl (Or.inl rfl))
        (lcm (fun x : Int => D.int x) (fun x => .bl (decide (x ∈ p.2))) (wi_tup (we_var 1 rfl ⟨_, rfl, ns, rfl, rfl, trivial, by omega, fun j x hx => ⟨_, tg_name 6, rfl, fun _ _ _ _ _ => we_cmp op_in_seq pu_in (we_var 6 rfl (we_var 5 rfl ⟨_, .int _ _ (.tup _), rfl, rfl⟩))⟩, ns.map fun x => decide (x ∈ p.2), by rw [List.map_map]; exact .lst _, _, rfl, fun hb => ?_, fun hb => ?_⟩))))))))⟩
      · refine wb_one (ws_append 2 (we_var 3 rfl ⟨a, _, rfl, ?_, .v (.int (i : Nat)), .v (.str p.1), .v (tI p.2), ?_⟩))
        · rw [List.length_map]
          have := List.length_filter_le (fun r => ns.any fun k => decide (k ∈ lotT ts r)) (numsN i)
          rw [numsN_len] at this
          omega
        · rw [filt_snoc, lotT_at hp, if_pos (by rw [List.any_map] at hb; exact hb), List.map_append]
          rfl
      · refine wb_nil ⟨.v (.int (i : Nat)), .v (.str p.1), .v (tI p.2), ?_⟩
        rw [filt_snoc, lotT_at hp, if_neg (by rw [List.any_map] at hb; exact fun z => by rw [show (ns.any fun k => decide (k ∈ p.2)) = false from hb] at z; cases z), List.append_nil]
        rfl
    · rintro Γ ⟨y3, y4, y5, rfl⟩
      exact wb_cons (ws_ret (we_tuple mt (we_own 2 rfl ⟨_, .own (i := 2) rfl, q⟩)))
theorem ok_tak {f fT C : Addr} {fd fdT : FuncData} {k : Nat} (F : Fun K "takers" "takers" s_takers f fd) (FT : Fun K "types_of_kinds" "types_of_kinds" s_types_of_kinds fT fdT) (bT : Binds K fdT ["table", "kinds"] []) (gT : mg "types_of_kinds" = some (.ref fT)) (GT : FnG P w K mg base k fT fdT ["table", "kinds"] (spD K (dTok C))) : FnG P w K mg base (k + 1) f fd ["table", "kind"] (spD K (dTak C)) := by
  refine okD F sc_takers (fun ds Q h => ?_) fun cdv A out s H E hr ds Qp hs => ?_
  · obtain ⟨ks, ts, r, rfl, _⟩ := h
    rfl
  · obtain ⟨ks, ts, r, rfl, tb, q⟩ := hs
    exact wb_cons (ws_ret (we_call GT hr gT FT.kp bT (wa_cons (we_var 0 rfl (wa_cons (we_tup (wa_cons (we_var 1 rfl (wa_nil ⟨lk, wa_nil ⟨ks, ts, [r], rfl, tb, by show 1 ≤ 100; decide, q⟩⟩)))))))))
end
end K65
namespace K65
open PySem PySem.Spec PyProof.Rows L2 Gd Pu
section
variable {P : Program} {w : World} {K : PySem.W.Frag} {mg : Str → Option Value} {base : Heap}
theorem ok_sh {f fT C : Addr} {fd fdT : FuncData} {k : Nat} (F : Fun K "shared_takers" "shared_takers" s_shared_takers f fd) (FT : Fun K "takers" "takers" s_takers fT fdT) (bT : Binds K fdT ["table", "kind"] []) (gT : mg "takers" = some (.ref fT)) (GT : FnG P w K mg base k fT fdT ["table", "kind"] (spD K (dTak C))) : FnG P w K mg base (k + 1) f fd ["table", "one", "other"] (spD K (dSh C)) := by
  refine okD F sc_shared_takers (fun ds Q h => ?_) fun cdv A out s H E hr ds Qp hs => ?_
  · obtain ⟨ks, ts, a, b, rfl, _⟩ := h
    rfl
  · obtain ⟨ks, ts, a, b, rfl, tb, q⟩ := hs
    have nd := sc_shared_takers.nd
    have t12 := tb.t12
    have len : ∀ x, (tkF ts [x]).length ≤ 100000 := fun x => by have := (tkF_ok ts [x]).len; omega
    refine wb_cons (ws_set 3 nd (we_call GT hr gT FT.kp bT (wa_cons (we_var 0 rfl (wa_cons (we_var 1 rfl (wa_nil ⟨ks, ts, a, rfl, tb, ?_⟩)))))))
    refine wb_cons (ws_set 4 nd (we_call GT hr gT FT.kp bT (wa_cons (we_var 0 rfl (wa_cons (we_var 2 rfl (wa_nil ⟨ks, ts, b, rfl, tb, ?_⟩)))))))
    refine wb_cons (ws_lc 5 (own := [("request", 8)]) (g := gName 8) nd (blkOk_by (own := [("request", 8)]) (N := n_shared_takers) (sc := defScope s_shared_takers) (by decide +kernel)) (fun _ _ _ _ _ => pg_name (i := 8) nd rfl (Or.inl rfl))
        (lcf (fun x : Int => D.int x) (fun r => decide (r ∈ tkF ts [b])) (fun x => .int x) (wi_tup (we_var 3 rfl ⟨_, rfl, tkF ts [a], rfl, rfl, trivial, len a, fun j x hx => ⟨_, tg_name 8, rfl, fun _ _ _ _ _ => wts_one (wt_cmp op_in_seq pu_in (we_var 8 rfl (we_var 4 rfl ⟨_, .int _ _ (.tup _), _, rfl, rfl, rfl, fun _ _ _ _ _ _ => we_var 8 rfl ⟨rfl, rfl⟩⟩)))⟩, fun a5 => ?_⟩))))
    refine wb_cons (ws_lc 6 (own := [("request", 8)]) (g := gName 8) nd (blkOk_by (own := [("request", 8)]) (N := n_shared_takers) (sc := defScope s_shared_takers) (by decide +kernel)) (fun _ _ _ _ _ => pg_name (i := 8) nd rfl (Or.inl rfl))
        (lcf (fun x : Int => D.int x) (fun r => !decide (r ∈ tkF ts [b])) (fun x => .int x) (wi_tup (we_var 3 rfl ⟨_, rfl, tkF ts [a], rfl, rfl, trivial, len a, fun j x hx => ⟨_, tg_name 8, rfl, fun _ _ _ _ _ => wts_one (wt_cmp op_notIn_seq pu_nin (we_var 8 rfl (we_var 4 rfl ⟨_, .int _ _ (.tup _), _, rfl, rfl, rfl, fun _ _ _ _ _ _ => we_var 8 rfl ⟨rfl, rfl⟩⟩)))⟩, fun a6 => ?_⟩))))
    refine wb_cons (ws_lc 7 (own := [("request", 8)]) (g := gName 8) nd (blkOk_by (own := [("request", 8)]) (N := n_shared_takers) (sc := defScope s_shared_takers) (by decide +kernel)) (fun _ _ _ _ _ => pg_name (i := 8) nd rfl (Or.inl rfl))
        (lcf (fun x : Int => D.int x) (fun r => !decide (r ∈ tkF ts [a])) (fun x => .int x) (wi_tup (we_var 4 rfl ⟨_, rfl, tkF ts [b], rfl, rfl, trivial, len b, fun j x hx => ⟨_, tg_name 8, rfl, fun _ _ _ _ _ => wts_one (wt_cmp op_notIn_seq pu_nin (we_var 8 rfl (we_var 3 rfl ⟨_, .int _ _ (.tup _), _, rfl, rfl, rfl, fun _ _ _ _ _ _ => we_var 8 rfl ⟨rfl, rfl⟩⟩)))⟩, fun a7 => ?_⟩))))
    exact wb_cons (ws_ret (we_tup (wa_cons (we_mv 5 rfl (wa_cons (we_mv 6 rfl (wa_cons (we_mv 7 rfl (wa_nil ⟨lk, q⟩)))))))))
theorem ok_cr {f fT C : Addr} {fd fdT : FuncData} {k : Nat} (F : Fun K "do_cross" "do_cross" s_do_cross f fd) (FT : Fun K "shared_takers" "shared_takers" s_shared_takers fT fdT) (bT : Binds K fdT ["table", "one", "other"] []) (gT : mg "shared_takers" = some (.ref fT)) (GT : FnG P w K mg base k fT fdT ["table", "one", "other"] (spD K (dSh C))) (ml : mg "len" = none) : FnG P w K mg base (k + 1) f fd ["table", "one", "other"] (spD K (dCr C)) := by
  refine okD F sc_do_cross (fun ds Q h => ?_) fun cdv A out s H E hr ds Qp hs => ?_
  · obtain ⟨ks, ts, a, b, rfl, _⟩ := h
    rfl
  · obtain ⟨ks, ts, a, b, rfl, tb, q⟩ := hs
    have nd := sc_do_cross.nd
    refine wb_cons (ws_un [3, 4, 5] (pg_tup rfl (pgs_cons (pg_name (i := 3) nd rfl (.inl rfl)) (pgs_cons (pg_name (i := 4) nd rfl (.inl rfl)) (pgs_cons (pg_name (i := 5) nd rfl (.inl rfl)) pgs_nil)))) (we_call GT hr gT FT.kp bT (wa_cons (we_var 0 rfl (wa_cons (we_var 1 rfl (wa_cons (we_var 2 rfl (wa_nil ⟨ks, ts, a, b, rfl, tb, _, tg_three 3 4 5, ?_⟩)))))))))
    refine wb_cons (ws_ret (we_and (we_cmp op_gt (pu_B _) (we_len ml (we_var 3 rfl ⟨_, .lst _, we_int ⟨_, _, rfl, rfl, _, rfl, fun h1 => ?_, fun h1 => ?_⟩⟩)))))
    · refine we_and (we_cmp op_gt (pu_B _) (we_len ml (we_var 4 rfl ⟨_, .lst _, we_int ⟨_, _, rfl, rfl, _, rfl, fun h2 => ?_, fun h2 => ?_⟩⟩)))
      · refine we_one (we_cmp op_gt (pu_B _) (we_len ml (we_var 5 rfl ⟨_, .lst _, we_int ⟨_, _, rfl, rfl, ?_⟩⟩)))
        change decide ((0 : Int) < (((bothF ts a b).map D.int).length : Int)) = _ at h1
        change decide ((0 : Int) < (((onlyF ts a b).map D.int).length : Int)) = _ at h2
        rw [List.length_map, emp_len] at h1 h2
        change Qp (.bl (decide ((0 : Int) < (((onlyF ts b a).map D.int).length : Int))))
        rw [List.length_map, emp_len]
        unfold crossB at q
        rw [h1, h2] at q
        exact q
      · change decide ((0 : Int) < (((bothF ts a b).map D.int).length : Int)) = _ at h1
        change decide ((0 : Int) < (((onlyF ts a b).map D.int).length : Int)) = _ at h2
        rw [List.length_map, emp_len] at h1 h2
        unfold crossB at q
        rw [h1, h2] at q
        exact q
    · change decide ((0 : Int) < (((bothF ts a b).map D.int).length : Int)) = _ at h1
      rw [List.length_map, emp_len] at h1
      unfold crossB at q
      rw [h1] at q
      exact q
theorem ok_cps {f fT C : Addr} {fd fdT : FuncData} {k : Nat} (F : Fun K "crossing_pairs" "crossing_pairs" s_crossing_pairs f fd) (T : TTxt K mg C) (FT : Fun K "do_cross" "do_cross" s_do_cross fT fdT) (bT : Binds K fdT ["table", "one", "other"] []) (gT : mg "do_cross" = some (.ref fT)) (GT : FnG P w K mg base k fT fdT ["table", "one", "other"] (spD K (dCr C))) (ml : mg "len" = none) (mr : mg "range" = none) (mt : mg "tuple" = none) : FnG P w K mg base (k + 1) f fd ["table"] (spD K (dPairs C)) := by
  refine okD F sc_crossing_pairs (fun ds Q h => ?_) fun cdv A out s H E hr ds Qp hs => ?_
  · obtain ⟨ks, ts, rfl, _⟩ := h
    rfl
  · obtain ⟨ks, ts, rfl, tb, q⟩ := hs
    have nd := sc_crossing_pairs.nd
    have k8 := tb.k8
    refine wb_cons (ws_own 1 nd (wn_lst (wa_nil ⟨by decide, fun a => ?_⟩)))
    refine wb_cut (CP1 C ks ts a ks.length) ?_ ?_
    · refine ws_for [2] (pg_name (i := 2) nd rfl (.inl rfl)) (wi_rng1 mr (we_len ml (we_fld (we_var 0 rfl ⟨C, _, _, rfl, T.cl, T.nK, lk_k, _, .tup _, _, rfl, by rw [List.length_map]; omega, CP1 C ks ts a, ⟨_, _, rfl⟩, fun _ _ _ _ => trivial, ?_, by rw [rngD_len, List.length_map]; exact fun Γ q => q⟩))))
      rintro i d Γ hd ⟨y2, y3, rfl⟩
      obtain ⟨hi, rfl⟩ := rngD_get hd
      rw [List.length_map] at hi
      have hi8 : i < ks.length := by omega
      refine ⟨_, tg_name 2, wb_cut (CP2 C ks ts a i (ks.length - (i + 1))) ?_ ?_⟩
      · rw [Int.zero_add]
        refine ws_for [3] (pg_name (i := 3) nd rfl (.inl rfl)) (wi_rng2 mr (we_add (we_var 2 rfl (we_int ⟨_, _, rfl, rfl, we_len ml (we_fld (we_var 0 rfl ⟨C, _, _, rfl, T.cl, T.nK, lk_k, _, .tup _, _, _, rfl, rfl, by rw [List.length_map]; omega, CP2 C ks ts a i, ⟨y3, ?_⟩, fun _ _ _ _ => trivial, ?_, ?_⟩))⟩))))
        · show _ = ([.v (tblD C ks ts), .l a ((pairsP (crossB ts) ks.length i ++ rowP (crossB ts) i 0).map tI), .v (.int (i : Int)), y3] : List Ent)
          rw [show rowP (crossB ts) i 0 = [] from rfl, List.append_nil]
          rfl
        · rintro m d Γ hd ⟨y3, rfl⟩
          obtain ⟨hm, rfl⟩ := rngD_get hd
          rw [List.length_map] at hm
          have em : ((i : Int) + 1 + (m : Int)) = ((i + 1 + m : Nat) : Int) := by omega
          rw [em]
          have l1 := pairsP_len (crossB ts) ks.length i
          have l2 := rowP_len (crossB ts) i m
          have l3 : i * ks.length ≤ 64 := Nat.le_trans (Nat.mul_le_mul (Nat.le_trans (Nat.le_of_lt hi8) k8) k8) (by decide)
          refine ⟨_, tg_name 3, wb_one (ws_if (wt_val (we_call GT hr gT FT.kp bT (wa_cons (we_var 0 rfl (wa_cons (we_var 2 rfl (wa_cons (we_var 3 rfl (wa_nil ⟨ks, ts, _, _, rfl, tb, _, rfl, fun hc => ?_, fun hc => ?_⟩))))))))))⟩
          · refine wb_one (ws_append 1 (we_tup (wa_cons (we_var 2 rfl (wa_cons (we_var 3 rfl (wa_nil ⟨lk, a, _, rfl, ?_, .v (.int ((i + 1 + m : Nat) : Int)), ?_⟩)))))))
            · rw [List.length_map, List.length_append]; omega
            · rw [rowP_succ, if_pos hc, ← List.append_assoc, List.map_append (l₂ := [[(i : Int), ((i + 1 + m : Nat) : Int)]])]
              rfl
          · refine wb_nil ⟨.v (.int ((i + 1 + m : Nat) : Int)), ?_⟩
            rw [rowP_succ, if_neg (by rw [hc]; exact Bool.false_ne_true), List.append_nil]
            rfl
        · rintro Γ ⟨y3, rfl⟩
          refine ⟨y3, ?_⟩
          rw [rngD_len, List.length_map, show ((ks.length : Int) - ((i : Int) + 1)).toNat = ks.length - (i + 1) by omega]
      · rintro Γ ⟨y3, rfl⟩
        refine wb_nil ⟨.v (.int (i : Int)), y3, ?_⟩
        rw [pairsP_succ]
    · rintro Γ ⟨y2, y3, rfl⟩
      exact wb_cons (ws_ret (we_tuple mt (we_own 1 rfl ⟨_, .own (i := 1) rfl, q⟩)))
theorem ok_for {f fT C : Addr} {fd fdT : FuncData} {k : Nat} (F : Fun K "is_forest" "is_forest" s_is_forest f fd) (FT : Fun K "crossing_pairs" "crossing_pairs" s_crossing_pairs fT fdT) (bT : Binds K fdT ["table"] []) (gT : mg "crossing_pairs" = some (.ref fT)) (GT : FnG P w K mg base k fT fdT ["table"] (spD K (dPairs C))) : FnG P w K mg base (k + 1) f fd ["table"] (spD K (dFor C)) := by
  refine okD F sc_is_forest (fun ds Q h => ?_) fun cdv A out s H E hr ds Qp hs => ?_
  · obtain ⟨ks, ts, rfl, _⟩ := h
    rfl
  · obtain ⟨ks, ts, rfl, tb, q⟩ := hs
    refine wb_cons (ws_ret (we_notT (we_call GT hr gT FT.kp bT (wa_cons (we_var 0 rfl (wa_nil ⟨ks, ts, rfl, tb, _, .sq (.tup _), ?_⟩))))))
    rw [Bool.not_not]
    cases h : pairsP (crossB ts) ks.length ks.length with
    | nil => rw [h] at q; exact q
    | cons x r => rw [h] at q; exact q
end
end K65
namespace K65
open PySem PySem.Spec PyProof.Rows L2 Gd Pu
section
variable {P : Program} {w : World} {K : PySem.W.Frag} {mg : Str → Option Value} {base : Heap}
theorem od_num {f : Addr} {fd : FuncData} {k : Nat} (F : Fun K "is_number" "is_number" s_is_number f fd) (mI : mg "isinstance" = none) (mi : mg "int" = none) (mb : mg "bool" = none) : FnG P w K mg base (k + 1) f fd ["value"] (spD K dNum) := by
  refine okD F sc_is_number (fun ds Q h => ?_) fun cdv A out s H E hr ds Qp hs => ?_
  · obtain ⟨d, rfl, _⟩ := h
    rfl
  · obtain ⟨d, rfl, pd, q⟩ := hs
    obtain ⟨n, hn⟩ := plain_ty pd
    obtain ⟨c, kc, c0, c1⟩ := kit_int hn
    refine wb_cons (ws_ret (we_and (we_isT mI mi (by decide +kernel) (we_var 0 rfl ⟨n, c, hn, kc, c, rfl, fun hc => ?_, fun hc => ?_⟩))))
    · rcases c1 hc with ⟨i, rfl⟩ | ⟨b, rfl⟩
      · exact we_and (we_not (we_isT (T := "bool") mI mb (by decide +kernel) (we_var 0 rfl ⟨"int", false, rfl, by decide +kernel, _, rfl, _, rfl, fun _ => we_one (we_cmp op_ge (pu_B _) (we_var 0 rfl (we_int ⟨_, _, rfl, rfl, q⟩))), nofun⟩)))
      · exact we_and (we_not (we_isT (T := "bool") mI mb (by decide +kernel) (we_var 0 rfl ⟨"bool", true, rfl, by decide +kernel, _, rfl, _, rfl, nofun, fun _ => q⟩)))
    · rw [c0 hc] at q
      exact q
theorem od_numB {f fN : Addr} {fd fdN : FuncData} {k : Nat} (F : Fun K "is_number_below" "is_number_below" s_is_number_below f fd) (FN : Fun K "is_number" "is_number" s_is_number fN fdN) (bN : Binds K fdN ["value"] []) (gN : mg "is_number" = some (.ref fN)) (GN : FnG P w K mg base k fN fdN ["value"] (spD K dNum)) : FnG P w K mg base (k + 1) f fd ["value", "limit"] (spD K dNumB) := by
  refine okD F sc_is_number_below (fun ds Q h => ?_) fun cdv A out s H E hr ds Qp hs => ?_
  · obtain ⟨d, m, rfl, _⟩ := h
    rfl
  · obtain ⟨d, m, rfl, pd, q⟩ := hs
    refine wb_cons (ws_ret (we_and (we_call GN hr gN FN.kp bN (wa_cons (we_var 0 rfl (wa_nil ⟨d, rfl, pd, _, rfl, fun hc => ?_, fun hc => ?_⟩))))))
    · cases d with
      | int i =>
        refine we_one (we_cmp op_lt (pu_B _) (we_var 0 rfl (we_var 1 rfl ⟨_, _, rfl, rfl, ?_⟩)))
        rw [numB, show decide (0 ≤ i) = true from hc, Bool.true_and] at q
        exact q
      | _ => cases hc
    · cases d with
      | int i =>
        rw [numB, show decide (0 ≤ i) = false from hc, Bool.false_and] at q
        exact q
      | _ => exact q
theorem od_tupOf {f : Addr} {fd : FuncData} {k : Nat} (F : Fun K "is_tuple_of" "is_tuple_of" s_is_tuple_of f fd) (mI : mg "isinstance" = none) (mt : mg "tuple" = none) (ml : mg "len" = none) : FnG P w K mg base (k + 1) f fd ["value", "length"] (spD K dTupOf) := by
  refine okD F sc_is_tuple_of (fun ds Q h => ?_) fun cdv A out s H E hr ds Qp hs => ?_
  · obtain ⟨d, m, rfl, _⟩ := h
    rfl
  · obtain ⟨d, m, rfl, pd, q⟩ := hs
    obtain ⟨n, hn⟩ := plain_ty pd
    obtain ⟨c, kc, c0, c1⟩ := kit_tup hn
    refine wb_cons (ws_ret (we_and (we_isT mI mt (by decide +kernel) (we_var 0 rfl ⟨n, c, hn, kc, c, rfl, fun hc => ?_, fun hc => ?_⟩))))
    · obtain ⟨l, rfl⟩ := c1 hc
      exact we_one (we_cmp op_eq pu_eq (we_len ml (we_var 0 rfl ⟨_, .tup _, we_var 1 rfl ⟨_, .int _ _, q⟩⟩)))
    · have : tupN m d = false := by
        cases d with
        | tup l => exact absurd rfl (c0 hc l)
        | _ => rfl
      rw [this] at q
      exact q
theorem od_nums {f fN : Addr} {fd fdN : FuncData} {k : Nat} (F : Fun K "are_numbers_below" "are_numbers_below" s_are_numbers_below f fd) (FN : Fun K "is_number_below" "is_number_below" s_is_number_below fN fdN) (bN : Binds K fdN ["value", "limit"] []) (gN : mg "is_number_below" = some (.ref fN)) (GN : FnG P w K mg base k fN fdN ["value", "limit"] (spD K dNumB)) (mI : mg "isinstance" = none) (mt : mg "tuple" = none) (ma : mg "all" = none) : FnG P w K mg base (k + 1) f fd ["value", "limit"] (spD K dNums) := by
  refine okD F sc_are_numbers_below (fun ds Q h => ?_) fun cdv A out s H E hr ds Qp hs => ?_
  · obtain ⟨d, m, rfl, _⟩ := h
    rfl
  · obtain ⟨d, m, rfl, pd, dl, q⟩ := hs
    have nd := sc_are_numbers_below.nd
    obtain ⟨n, hn⟩ := plain_ty pd
    obtain ⟨c, kc, c0, c1⟩ := kit_tup hn
    refine wb_cons (ws_ret (we_and (we_isT mI mt (by decide +kernel) (we_var 0 rfl ⟨n, c, hn, kc, c, rfl, fun hc => ?_, fun hc => ?_⟩))))
    · obtain ⟨l, rfl⟩ := c1 hc
      have hl := dl l rfl
      rw [Pu.plain] at pd
      refine we_one (we_all ma (we_new (wn_lc (own := [("item", 2)]) (g := gName 2) nd (blkOk_by (own := [("item", 2)]) (N := n_are_numbers_below) (sc := defScope s_are_numbers_below) (by decide +kernel)) (fun _ _ _ _ _ => pg_name (i := 2) nd rfl (Or.inl rfl))
        (lcm (fun x : D => x) (fun x => .bl (numB m x)) (wi_tup (we_var 0 rfl ⟨_, rfl, l, by rw [List.map_id'], rfl, trivial, by omega, fun j x hx => ⟨_, tg_name 2, rfl, fun _ _ _ _ _ => we_call GN hr gN FN.kp bN (wa_cons (we_var 2 rfl (wa_cons (we_var 1 rfl (wa_nil ⟨x, m, rfl, plainA_mem pd x (List.mem_of_getElem? hx), rfl, rfl⟩)))))⟩, l.map (numB m), by rw [show l.map (fun x => D.bl (numB m x)) = (l.map (numB m)).map D.bl by rw [List.map_map]; rfl]; exact .lst _, ?_⟩))))))
      rw [List.all_map]
      exact q
    · have : numsB m d = false := by
        cases d with
        | tup l => exact absurd rfl (c0 hc l)
        | _ => rfl
      rw [this] at q
      exact q
theorem od_asc {f : Addr} {fd : FuncData} {k : Nat} (F : Fun K "is_ascending" "is_ascending" s_is_ascending f fd) (mr : mg "range" = none) (ml : mg "len" = none) (ma : mg "all" = none) : FnG P w K mg base (k + 1) f fd ["items"] (spD K dAsc) := by
  refine okD F sc_is_ascending (fun ds Q h => ?_) fun cdv A out s H E hr ds Qp hs => ?_
  · rcases h with ⟨ns, rfl, _⟩ | ⟨ps, rfl, _⟩ <;> rfl
  · have nd := sc_is_ascending.nd
    rcases hs with ⟨ns, rfl, nl, q⟩ | ⟨ps, rfl, nl, q⟩
    · refine wb_cons (ws_ret (we_all ma (we_new (wn_lc (own := [("at", 1)]) (g := gName 1) nd (blkOk_by (own := [("at", 1)]) (N := n_is_ascending) (sc := defScope s_is_ascending) (by decide +kernel)) (fun _ _ _ _ _ => pg_name (i := 1) nd rfl (Or.inl rfl))
        (lcm (fun i : Nat => D.int (0 + (i : Int))) (fun i => .bl (decide (ns.getD i 0 < ns.getD (i + 1) 0))) (wi_rng1 mr (we_sub (we_len ml (we_var 0 rfl ⟨_, .tup _, we_int ⟨_, _, rfl, rfl, _, rfl, by rw [List.length_map]; omega, List.range (ns.length - 1), ?_, rfl, trivial, by rw [List.length_range]; omega, fun j x hx => ⟨_, tg_name 1, rfl, fun _ _ _ _ _ => ?_⟩, (List.range (ns.length - 1)).map fun i => decide (ns.getD i 0 < ns.getD (i + 1) 0), ?_, ?_⟩⟩)))))))))
      · rw [List.length_map, show (((ns.length : Int)) - 1).toNat = ns.length - 1 by omega]; rfl
      · obtain ⟨hj, rfl⟩ := rng_get hx
        have h1 : j < ns.length := by omega
        have h2 : j + 1 < ns.length := by omega
        have e1 : ns.getD j 0 = ns[j] := by rw [List.getD_eq_getElem?_getD, List.getElem?_eq_getElem h1]; rfl
        have e2 : ns.getD (j + 1) 0 = ns[j + 1] := by rw [List.getD_eq_getElem?_getD, List.getElem?_eq_getElem h2]; rfl
        refine we_cmp op_lt (pu_B _) (we_ix (we_var 0 rfl (we_var 1 rfl ⟨_, _, _, .tup _, rfl, by rw [Int.zero_add]; exact atI_nat (get_map (List.getElem?_eq_getElem h1)), we_ix (we_var 0 rfl (we_add (we_var 1 rfl (we_int ⟨_, _, rfl, rfl, _, _, _, .tup _, rfl, by rw [Int.zero_add, show ((j : Int) + 1) = ((j + 1 : Nat) : Int) by omega]; exact atI_nat (get_map (List.getElem?_eq_getElem h2)), _, _, rfl, rfl, rfl, ?_⟩))))⟩)))
        rw [e1, e2]
      · rw [List.map_map]; exact .lst _
      · rw [← ascB_all]; exact q
    · refine wb_cons (ws_ret (we_all ma (we_new (wn_lc (own := [("at", 1)]) (g := gName 1) nd (blkOk_by (own := [("at", 1)]) (N := n_is_ascending) (sc := defScope s_is_ascending) (by decide +kernel)) (fun _ _ _ _ _ => pg_name (i := 1) nd rfl (Or.inl rfl))
        (lcm (fun i : Nat => D.int (0 + (i : Int))) (fun i => .bl (HT.lexLt (ps.getD i []) (ps.getD (i + 1) []))) (wi_rng1 mr (we_sub (we_len ml (we_var 0 rfl ⟨_, .tup _, we_int ⟨_, _, rfl, rfl, _, rfl, by rw [List.length_map]; omega, List.range (ps.length - 1), ?_, rfl, trivial, by rw [List.length_range]; omega, fun j x hx => ⟨_, tg_name 1, rfl, fun _ _ _ _ _ => ?_⟩, (List.range (ps.length - 1)).map fun i => HT.lexLt (ps.getD i []) (ps.getD (i + 1) []), ?_, ?_⟩⟩)))))))))
      · rw [List.length_map, show (((ps.length : Int)) - 1).toNat = ps.length - 1 by omega]; rfl
      · obtain ⟨hj, rfl⟩ := rng_get hx
        have h1 : j < ps.length := by omega
        have h2 : j + 1 < ps.length := by omega
        have e1 : ps.getD j [] = ps[j] := by rw [List.getD_eq_getElem?_getD, List.getElem?_eq_getElem h1]; rfl
        have e2 : ps.getD (j + 1) [] = ps[j + 1] := by rw [List.getD_eq_getElem?_getD, List.getElem?_eq_getElem h2]; rfl
        refine we_cmp (op_ltT (Nat.lt_of_le_of_lt (Nat.le_add_right _ 65) (u65 hr))) pu_ltT (we_ix (we_var 0 rfl (we_var 1 rfl ⟨_, _, _, .tup _, rfl, by rw [Int.zero_add]; exact atI_nat (get_map (List.getElem?_eq_getElem h1)), we_ix (we_var 0 rfl (we_add (we_var 1 rfl (we_int ⟨_, _, rfl, rfl, _, _, _, .tup _, rfl, by rw [Int.zero_add, show ((j : Int) + 1) = ((j + 1 : Nat) : Int) by omega]; exact atI_nat (get_map (List.getElem?_eq_getElem h2)), _, _, rfl, rfl, rfl, ?_⟩))))⟩)))
        rw [e1, e2]
      · rw [List.map_map]; exact .lst _
      · rw [← ascT_all]; exact q
theorem od_lotB {f fS fA : Addr} {fd fdS fdA : FuncData} {k : Nat} (F : Fun K "is_lot_below" "is_lot_below" s_is_lot_below f fd) (FS : Fun K "are_numbers_below" "are_numbers_below" s_are_numbers_below fS fdS) (FA : Fun K "is_ascending" "is_ascending" s_is_ascending fA fdA) (bS : Binds K fdS ["value", "limit"] []) (bA : Binds K fdA ["items"] []) (gS : mg "are_numbers_below" = some (.ref fS)) (gA : mg "is_ascending" = some (.ref fA))
    (GS : FnG P w K mg base k fS fdS ["value", "limit"] (spD K dNums)) (GA : FnG P w K mg base k fA fdA ["items"] (spD K dAsc)) : FnG P w K mg base (k + 1) f fd ["value", "limit"] (spD K dLotB) := by
  refine okD F sc_is_lot_below (fun ds Q h => ?_) fun cdv A out s H E hr ds Qp hs => ?_
  · obtain ⟨d, m, rfl, _⟩ := h
    rfl
  · obtain ⟨d, m, rfl, pd, dl, q⟩ := hs
    refine wb_cons (ws_ret (we_and (we_call GS hr gS FS.kp bS (wa_cons (we_var 0 rfl (wa_cons (we_var 1 rfl (wa_nil ⟨d, m, rfl, pd, dl, _, rfl, fun hc => ?_, fun hc => ?_⟩))))))))
    · cases d with
      | tup l =>
        obtain ⟨e, _⟩ := nums_ints hc
        refine we_one (we_call GA hr gA FA.kp bA (wa_cons (we_var 0 rfl (wa_nil (.inl ⟨l.map toI, by rw [tI, ← e], by rw [List.length_map]; exact dl l rfl, ?_⟩)))))
        rw [lotB, show l.all (numB m) = true from hc, Bool.true_and] at q
        exact q
      | _ => cases hc
    · have : lotB m d = false := by
        cases d with
        | tup l => rw [lotB, show l.all (numB m) = false from hc, Bool.false_and]
        | _ => rfl
      rw [this] at q
      exact q
end
end K65
namespace K65
open PySem PySem.Spec PyProof.Rows L2 Gd Pu
/-- the ways of the module -/
structure WayT (K : PySem.W.Frag) (mg : Str → Option Value) (a : Addr) : Prop where
  g : mg "WAYS" = some (.ref a)
  s : ∀ F, SqT K F a (waysL.map V.str)
section
variable {P : Program} {w : World} {K : PySem.W.Frag} {mg : Str → Option Value} {base : Heap}
theorem od_way {f a : Addr} {fd : FuncData} {k : Nat} (F : Fun K "is_way_to_strike" "is_way_to_strike" s_is_way_to_strike f fd) (W : WayT K mg a) (mI : mg "isinstance" = none) (ms : mg "str" = none) : FnG P w K mg base (k + 1) f fd ["value"] (spD K dIsWay) := by
  refine okD F sc_is_way_to_strike (fun ds Q h => ?_) fun cdv A out s H E hr ds Qp hs => ?_
  · obtain ⟨d, rfl, _⟩ := h
    rfl
  · obtain ⟨d, rfl, pd, q⟩ := hs
    obtain ⟨n, hn⟩ := plain_ty pd
    obtain ⟨c, kc, c0, c1⟩ := kit_str hn
    refine wb_cons (ws_ret (we_and (we_isT mI ms (by decide +kernel) (we_var 0 rfl ⟨n, c, hn, kc, c, rfl, fun hc => ?_, fun hc => ?_⟩))))
    · obtain ⟨z, rfl⟩ := c1 hc
      exact we_one (we_cmp op_in_seq pu_in (we_var 0 rfl (we_gtup W.g W.s (fun F => ReA.ofStrs waysL) ⟨_, .str _ _ (.tup _), q⟩)))
    · have : isWay d = false := by
        cases d with
        | str l => exact absurd rfl (c0 hc l)
        | _ => rfl
      rw [this] at q
      exact q
theorem isWay_of (w : Way) : isWay (.str (wayS w)) = true := by cases w <;> decide +kernel
theorem od_chk {f fW : Addr} {fd fdW : FuncData} {k : Nat} (F : Fun K "check_way" "check_way" s_check_way f fd) (FW : Fun K "is_way_to_strike" "is_way_to_strike" s_is_way_to_strike fW fdW) (bW : Binds K fdW ["value"] []) (gW : mg "is_way_to_strike" = some (.ref fW)) (GW : FnG P w K mg base k fW fdW ["value"] (spD K dIsWay)) : FnG P w K mg base (k + 1) f fd ["way"] (spD K dChk) := by
  refine okD F sc_check_way (fun ds Q h => ?_) fun cdv A out s H E hr ds Qp hs => ?_
  · obtain ⟨d, rfl, _⟩ := h
    rfl
  · obtain ⟨w, rfl, q⟩ := hs
    refine wb_one (ws_if (wt_not (wt_val (we_call GW hr gW FW.kp bW (wa_cons (we_var 0 rfl (wa_nil ⟨.str (wayS w), rfl, rfl, _, rfl, fun hc => ?_, fun hc => ?_⟩)))))))
    · rw [isWay_of] at hc; cases hc
    · exact wb_nil q
/-- i at many types -/
theorem enum_types (ts : List (Str × List Int)) : enumD (ts.map typeP) = (List.range ts.length).map fun i : Nat => .tup [.int (i : Int), typeP (nmT ts i, lotT ts i)] := by
  refine List.ext_getElem? fun i => ?_
  unfold enumD
  rw [List.getElem?_mapIdx, List.getElem?_map, List.getElem?_map]
  by_cases h : i < ts.length
  · rw [List.getElem?_range h, List.getElem?_eq_getElem h]
    show some (D.tup [.int (i : Nat), typeP ts[i]]) = some (D.tup [.int (i : Int), typeP (nmT ts i, lotT ts i)])
    rw [nmT_at (List.getElem?_eq_getElem h), lotT_at (List.getElem?_eq_getElem h)]
  · rw [List.getElem?_eq_none (l := ts) (by omega), List.getElem?_eq_none (l := List.range _) (by rw [List.length_range]; omega)]
    rfl
theorem accF_len {kk : Nat} {ts : List (Str × List Int)} (lo : ∀ p ∈ ts, LotOk kk p.2) : ∀ n, (accF ts n).length ≤ n * kk
  | 0 => Nat.zero_le _
  | n + 1 => by
    have h := accF_len lo n
    have h2 := (lotT_in lo n).len
    rw [accF_succ, List.length_append, List.length_map, Nat.succ_mul]
    omega
theorem od_items {f fW C : Addr} {fd fdW : FuncData} {k : Nat} (F : Fun K "items_for" "items_for" s_items_for f fd) (T : TTxt K mg C) (FW : Fun K "check_way" "check_way" s_check_way fW fdW) (bW : Binds K fdW ["way"] []) (gW : mg "check_way" = some (.ref fW)) (GW : FnG P w K mg base k fW fdW ["way"] (spD K dChk))
    (mt : mg "tuple" = none) (mr : mg "range" = none) (ml : mg "len" = none) (mE : mg "enumerate" = none) : FnG P w K mg base (k + 1) f fd ["table", "way"] (spD K (dItems C)) := by
  refine okD F sc_items_for (fun ds Q h => ?_) fun cdv A out s H E hr ds Qp hs => ?_
  · obtain ⟨ks, ts, w, rfl, _⟩ := h
    rfl
  · obtain ⟨ks, ts, w, rfl, tk, q⟩ := hs
    have nd := sc_items_for.nd
    have k8 := tk.k8
    have t12 := tk.t12
    refine wb_cons (ws_expr (we_call GW hr gW FW.kp bW (wa_cons (we_var 1 rfl (wa_nil ⟨w, rfl, ?_⟩)))))
    refine wb_cons (ws_if (wt_cmp op_eq pu_eq (we_var 1 rfl (we_str ⟨_, .str _ _, _, rfl, fun hc => ?_, fun hc => ?_⟩))))
    · have hw : w = .kinds := by cases w <;> first | rfl | exact absurd hc (by decide +kernel)
      subst hw
      refine wb_one (ws_ret (we_tupR mt mr (we_len ml (we_fld (we_var 0 rfl ⟨C, _, _, rfl, T.cl, T.nK, lk_k, _, .tup _, _, rfl, by rw [List.length_map]; omega, ?_⟩)))))
      rw [List.length_map, Int.toNat_natCast, rngD_eq]
      rw [itemsF, List.map_map] at q
      exact q
    · refine wb_nil (wb_cons (ws_if (wt_cmp op_eq pu_eq (we_var 1 rfl (we_str ⟨_, .str _ _, _, rfl, fun hc2 => ?_, fun hc2 => ?_⟩)))))
      · have hw : w = .types := by cases w <;> first | rfl | exact absurd hc2 (by decide +kernel)
        subst hw
        refine wb_one (ws_ret (we_tupR mt mr (we_len ml (we_fld (we_var 0 rfl ⟨C, _, _, rfl, T.cl, T.nT, lk_t, _, .tup _, _, rfl, by rw [List.length_map]; omega, ?_⟩)))))
        rw [List.length_map, Int.toNat_natCast, rngD_eq]
        rw [itemsF, List.map_map] at q
        exact q
      · have hw : w = .acc := by cases w <;> first | rfl | exact absurd hc (by decide +kernel) | exact absurd hc2 (by decide +kernel)
        subst hw
        refine wb_nil (wb_cons (ws_ret (we_tuple mt (we_new (wn_lc2 (own := [("request", 2), ("_", 3), ("lot", 4), ("kind", 5)]) (g := gTup _ 2 (gCons (gName 2) (gCons (gTup _ 2 (gCons (gName 3) (gCons (gName 4) gNil))) gNil))) (g1 := gName 5) (vs1 := [5])
          (fun i : Nat => D.tup [.int (i : Int), typeP (nmT ts i, lotT ts i)]) (fun x : Int => D.int x) (fun i : Nat => lotT ts i) (fun i x => tI [(i : Int), x]) nd (blkOk_by (N := n_items_for) (sc := defScope s_items_for) (by decide +kernel)) (by decide)
          (fun _ _ _ _ _ => pg_tup rfl (pgs_cons (pg_name (i := 2) nd rfl (.inl rfl)) (pgs_cons (pg_tup rfl (pgs_cons (pg_name (i := 3) nd rfl (.inl rfl)) (pgs_cons (pg_name (i := 4) nd rfl (.inl rfl)) pgs_nil))) pgs_nil))) (fun _ _ _ _ _ => pg_name (i := 5) nd rfl (Or.inl rfl))
          (wi_en mE (we_fld (we_var 0 rfl ⟨C, _, _, rfl, T.cl, T.nT, lk_t, _, rfl, List.range ts.length, enum_types ts, rfl, trivial, ?_, fun i x hx => ?_, _, .lst _, ?_⟩))))))))
        · have := accF_len tk.po.lo ts.length
          have e : ((List.range ts.length).flatMap fun i : Nat => lotT ts i).length = (accF ts ts.length).length := by
            unfold accF
            rw [List.length_flatMap, List.length_flatMap]
            congr 1
            exact List.map_congr_left fun i _ => by rw [List.length_map]
          rw [e]
          have : ts.length * ks.length ≤ 12 * 8 := Nat.mul_le_mul t12 k8
          omega
        · obtain ⟨hi, rfl⟩ := rng_get hx
          refine ⟨_, tg_12 2 3 4, rfl, fun _ _ _ _ _ => wi_tup (we_var 4 rfl ⟨_, rfl, rfl, rfl, trivial, fun j y hy => ⟨_, tg_name 5, rfl, fun _ _ _ _ _ => we_tup (wa_cons (we_var 2 rfl (wa_cons (we_var 5 rfl (wa_nil ⟨lk, rfl, rfl⟩)))))⟩⟩)⟩
        · change Qp (.tup ((accF ts ts.length).map tI)) at q
          unfold accF at q
          rw [List.map_flatMap] at q
          simp only [List.map_map] at q
          exact q
end
end K65
namespace K65
open PySem PySem.Spec PyProof.Rows L2 Gd Pu
def STInv (C : Addr) (ks : List Str) (ts : List (Str × List Int)) (w : Way) (its : List (List Int)) (a : Addr) (i : Nat) (Γ : List Ent) : Prop := ∃ y4 y5 y6 : Ent, Γ = [.v (tblD C ks ts), .v (.str (wayS w)), .v (.tup (its.map (itE w))), .l a ((struckN w its ts i).map typeP), y4, y5, y6, .no]
section
variable {P : Program} {w : World} {K : PySem.W.Frag} {mg : Str → Option Value} {base : Heap}
theorem od_isstr {f : Addr} {fd : FuncData} {k : Nat} (F : Fun K "is_struck" "is_struck" s_is_struck f fd) : FnG P w K mg base (k + 1) f fd ["way", "items", "request", "kind"] (spD K dIsStr) := by
  refine okD F sc_is_struck (fun ds Q h => ?_) fun cdv A out s H E hr ds Qp hs => ?_
  · obtain ⟨w, its, r, k, rfl, _⟩ := h
    rfl
  · obtain ⟨w, its, r, k, rfl, io, r0, r1, k0, k1, q⟩ := hs
    refine wb_cons (ws_if (wt_cmp op_eq pu_eq (we_var 0 rfl (we_str ⟨_, .str _ _, _, rfl, fun hc => ?_, fun hc => ?_⟩))))
    · have hw : w = .kinds := by cases w <;> first | rfl | exact absurd hc (by decide +kernel)
      subst hw
      obtain ⟨e, m⟩ := io.ints nofun
      refine wb_one (ws_ret (we_cmp op_in_seq pu_in (we_var 3 rfl (we_var 1 rfl ⟨_, .int _ _ (by rw [e]; exact .tup _), ?_⟩))))
      rw [decide_eq_decide.mpr (m k)]
      exact q
    · refine wb_nil (wb_cons (ws_if (wt_cmp op_eq pu_eq (we_var 0 rfl (we_str ⟨_, .str _ _, _, rfl, fun hc2 => ?_, fun hc2 => ?_⟩)))))
      · have hw : w = .types := by cases w <;> first | rfl | exact absurd hc2 (by decide +kernel)
        subst hw
        obtain ⟨e, m⟩ := io.ints nofun
        refine wb_one (ws_ret (we_cmp op_in_seq pu_in (we_var 2 rfl (we_var 1 rfl ⟨_, .int _ _ (by rw [e]; exact .tup _), ?_⟩))))
        rw [decide_eq_decide.mpr (m r)]
        exact q
      · have hw : w = .acc := by cases w <;> first | rfl | exact absurd hc (by decide +kernel) | exact absurd hc2 (by decide +kernel)
        subst hw
        refine wb_nil (wb_cons (ws_ret (we_cmp (op_inT (u65 hr)) pu_inT (we_tup (wa_cons (we_var 2 rfl (wa_cons (we_var 3 rfl (wa_nil ⟨lk, we_var 1 rfl ⟨its.map tI, rfl, sh_tI (l := [r, k]) ?_, sh_tIs io.b, ?_⟩⟩)))))))))
        · intro x hx
          rcases List.mem_cons.mp hx with rfl | hx
          · exact ⟨r0, r1⟩
          · rw [List.mem_singleton] at hx
            rw [hx]
            exact ⟨k0, k1⟩
        · have z := any_ints its [r, k]
          change Qp (.bl ((pyA (its.map tI)).any fun z => PyData.eqv z (py (tI [r, k]))))
          rw [z]
          exact q
theorem od_stT {f fW fS C fI : Addr} {fd fdW fdS fdI : FuncData} {k : Nat} (F : Fun K "struck_table" "struck_table" s_struck_table f fd) (T : TTxt K mg C) (M : Mk K C fI) (bI : Binds K fdI ["self", "kinds", "types"] []) (gC : mg "Table" = some (.ref C)) (GI : FnOk P w K mg base CX0 k fI fdI ["self", "kinds", "types"] (spI K C (fun ds => ∃ ks ts, ds = [tS ks, typesP ts] ∧ TOk ⟨ks, ts⟩) (fun ds => [("kinds", ds.getD 0 .non), ("types", ds.getD 1 .non)])))
    (FW : Fun K "check_way" "check_way" s_check_way fW fdW) (bW : Binds K fdW ["way"] []) (gW : mg "check_way" = some (.ref fW)) (GW : FnG P w K mg base (k + 1) fW fdW ["way"] (spD K dChk))
    (FS : Fun K "is_struck" "is_struck" s_is_struck fS fdS) (bS : Binds K fdS ["way", "items", "request", "kind"] []) (gS : mg "is_struck" = some (.ref fS)) (GS : FnG P w K mg base (k + 1) fS fdS ["way", "items", "request", "kind"] (spD K dIsStr))
    (mt : mg "tuple" = none) (mE : mg "enumerate" = none) : FnG P w K mg base (k + 1 + 1) f fd ["table", "way", "items"] (spD K (dStT C)) := by
  refine okD F sc_struck_table (fun ds Q h => ?_) fun cdv A out s H E hr ds Qp hs => ?_
  · obtain ⟨ks, ts, w, its, rfl, _⟩ := h
    rfl
  · obtain ⟨ks, ts, w, its, rfl, tk, io, q⟩ := hs
    have nd := sc_struck_table.nd
    have k8 := tk.k8
    have t12 := tk.t12
    refine wb_cons (ws_expr (we_call GW hr gW FW.kp bW (wa_cons (we_var 1 rfl (wa_nil ⟨w, rfl, ?_⟩)))))
    refine wb_cons (ws_own 3 nd (wn_lst (wa_nil ⟨by decide, fun a => ?_⟩)))
    refine wb_cut (STInv C ks ts w its a ts.length) ?_ ?_
    · refine ws_for [4, 5, 6] (pg_tup rfl (pgs_cons (pg_name (i := 4) nd rfl (.inr rfl)) (pgs_cons (pg_tup rfl (pgs_cons (pg_name (i := 5) nd rfl (.inl rfl)) (pgs_cons (pg_name (i := 6) nd rfl (.inl rfl)) pgs_nil))) pgs_nil))) (wi_en mE (we_fld (we_var 0 rfl ⟨C, _, _, rfl, T.cl, T.nT, lk_t, _, rfl, STInv C ks ts w its a, ⟨_, _, _, rfl⟩, fun _ _ _ _ => trivial, ?_, by rw [enum_len, List.length_map]; exact fun Γ q => q⟩)))
      rintro i d Γ hd ⟨y4, y5, y6, rfl⟩
      rw [enum_types] at hd
      obtain ⟨i', hi', rfl⟩ := map_get hd
      obtain ⟨hi, rfl⟩ := rng_get hi'
      have lo := lotT_in tk.po.lo i
      have ll := lo.len
      refine ⟨_, tg_12 4 5 6, wb_one (ws_append 3 (we_tup (wa_cons (we_var 5 rfl (wa_cons (we_tuple mt (we_new (wn_lc (own := [("kind", 7)]) (g := gName 7) nd (blkOk_by (own := [("kind", 7)]) (N := n_struck_table) (sc := defScope s_struck_table) (by decide +kernel)) (fun _ _ _ _ _ => pg_name (i := 7) nd rfl (Or.inl rfl))
        (lcf (fun x : Int => D.int x) (fun k => !isStr w its i k) (fun x => .int x) (wi_tup (we_var 6 rfl ⟨_, rfl, lotT ts i, rfl, rfl, trivial, by omega, fun j x hx => ⟨_, tg_name 7, rfl, fun _ _ _ _ _ => wts_one (wt_not (wt_val (we_call GS hr gS FS.kp bS (wa_cons (we_var 1 rfl (wa_cons (we_var 2 rfl (wa_cons (we_var 4 rfl (wa_cons (we_var 7 rfl (wa_nil ⟨w, its, i, x, rfl, io, by omega, by omega, ?_, ?_, _, rfl, rfl, rfl, fun _ _ _ _ _ _ => we_var 7 rfl ⟨rfl, rfl⟩⟩))))))))))))⟩, _, .lst _, wa_nil ⟨lk, a, _, rfl, ?_, .v (.int (i : Int)), .v (.str (nmT ts i)), .v (tI (lotT ts i)), ?_⟩⟩)))))))))))⟩
      · exact (lo.2 x (List.mem_of_getElem? hx)).1
      · have := (lo.2 x (List.mem_of_getElem? hx)).2; omega
      · rw [List.length_map, struckN_len]; omega
      · rw [struckN_succ, List.map_append]
        rfl
    · rintro Γ ⟨y4, y5, y6, rfl⟩
      exact wb_cons (ws_ret (we_make M GI hr gC bI (wa_cons (we_fld (we_var 0 rfl ⟨C, _, _, rfl, T.cl, T.nK, lk_k, wa_cons (we_tuple mt (we_own 3 rfl ⟨_, .own (i := 3) rfl, wa_nil ⟨⟨ks, struckF w its ts, rfl, (tk.struck w its).tok⟩, q⟩⟩))⟩)))))
theorem od_isacc {f fU fB fA C : Addr} {fd fdU fdB fdA : FuncData} {k : Nat} (F : Fun K "is_acceptance" "is_acceptance" s_is_acceptance f fd) (T : TTxt K mg C)
    (FU : Fun K "is_tuple_of" "is_tuple_of" s_is_tuple_of fU fdU) (bU : Binds K fdU ["value", "length"] []) (gU : mg "is_tuple_of" = some (.ref fU)) (GU : FnG P w K mg base k fU fdU ["value", "length"] (spD K dTupOf))
    (FB : Fun K "is_number_below" "is_number_below" s_is_number_below fB fdB) (bB : Binds K fdB ["value", "limit"] []) (gB : mg "is_number_below" = some (.ref fB)) (GB : FnG P w K mg base k fB fdB ["value", "limit"] (spD K dNumB))
    (FA : Fun K "accepted" "accepted" s_accepted fA fdA) (bA : Binds K fdA ["table", "request"] []) (gA : mg "accepted" = some (.ref fA)) (GA : FnG P w K mg base k fA fdA ["table", "request"] (spD K (dAcc C))) (ml : mg "len" = none) : FnG P w K mg base (k + 1) f fd ["table", "value"] (spD K (dIsAcc C)) := by
  refine okD F sc_is_acceptance (fun ds Q h => ?_) fun cdv A out s H E hr ds Qp hs => ?_
  · obtain ⟨ks, ts, d, rfl, _⟩ := h
    rfl
  · obtain ⟨ks, ts, d, rfl, pd, q⟩ := hs
    refine wb_cons (ws_if (wt_not (wt_val (we_call GU hr gU FU.kp bU (wa_cons (we_var 1 rfl (wa_cons (we_int (wa_nil ⟨d, 2, rfl, pd, _, rfl, fun hc => ?_, fun hc => ?_⟩)))))))))
    · refine wb_one (ws_ret (we_bl ?_))
      have : accB ks.length ts d = false := by
        match d, hc with
        | .tup [], _ => rfl
        | .tup [_], _ => rfl
        | .tup (_ :: _ :: _ :: _), _ => rfl
        | .tup [_, _], hc => exact absurd hc (by simp [tupN])
        | .non, _ | .bl _, _ | .int _, _ | .str _, _ | .lst _, _ | .ins _ _, _ | .adr _, _ | .scr _, _ | .ty _, _ | .dk _, _ => rfl
      rw [this] at q
      exact q
    · obtain ⟨x, y, rfl⟩ : ∃ x y, d = .tup [x, y] := by
        match d, hc with
        | .tup [], hc => exact absurd hc (by simp [tupN])
        | .tup [_], hc => exact absurd hc (by simp [tupN])
        | .tup (_ :: _ :: _ :: _), hc => exact absurd hc (by simp [tupN]; omega)
        | .tup [x, y], _ => exact ⟨x, y, rfl⟩
        | .non, hc | .bl _, hc | .int _, hc | .str _, hc | .lst _, hc | .ins _ _, hc | .adr _, hc | .scr _, hc | .ty _, hc | .dk _, hc => exact absurd hc (by simp [tupN])
      have p1 : plain x = true := plainA_mem (by rw [Pu.plain] at pd; exact pd) x (by simp)
      have p2 : plain y = true := plainA_mem (by rw [Pu.plain] at pd; exact pd) y (by simp)
      refine wb_nil (wb_cons (ws_if (wt_ww (ww_or (wt_not (wt_val (we_call GB hr gB FB.kp bB (wa_cons (we_ix (we_var 1 rfl (we_int ⟨[x, y], 0, x, .tup _, rfl, rfl, wa_cons (we_len ml (we_fld (we_var 0 rfl ⟨C, _, _, rfl, T.cl, T.nT, lk_t, _, .tup _, wa_nil ⟨x, _, rfl, p1, _, rfl, fun h1 => ?_, fun h1 => ⟨fun _ => ?_, nofun⟩⟩⟩)))⟩)))))))))))
      · rw [List.length_map] at h1
        refine ww_or1 (wt_not (wt_val (we_call GB hr gB FB.kp bB (wa_cons (we_ix (we_var 1 rfl (we_int ⟨[x, y], 1, y, .tup _, rfl, rfl, wa_cons (we_len ml (we_fld (we_var 0 rfl ⟨C, _, _, rfl, T.cl, T.nK, lk_k, _, .tup _, wa_nil ⟨y, _, rfl, p2, _, rfl, fun h2 => ?_, fun h2 => ?_⟩⟩)))⟩)))))))
        · refine wb_one (ws_ret (we_bl ?_))
          rw [List.length_map] at h2
          have h2' : numB (ks.length : Int) y = false := by cases e : numB (ks.length : Int) y with | false => rfl | true => rw [e] at h2; cases h2
          rw [accB, h2', Bool.false_and, Bool.and_false] at q
          exact q
        · rw [List.length_map] at h2
          have h1' : numB (ts.length : Int) x = true := by cases e : numB (ts.length : Int) x with | true => rfl | false => rw [e] at h1; cases h1
          have h2' : numB (ks.length : Int) y = true := by cases e : numB (ks.length : Int) y with | true => rfl | false => rw [e] at h2; cases h2
          obtain ⟨i, rfl, i0, i1⟩ := numB_int h1'
          obtain ⟨j, rfl, j0, j1⟩ := numB_int h2'
          rw [accB, h1', h2', Bool.true_and, Bool.true_and] at q
          exact wb_nil (wb_one (ws_ret (we_cmp op_in_seq pu_in (we_ix (we_var 1 rfl (we_int ⟨[.int i, .int j], 1, .int j, .tup _, rfl, rfl, we_call GA hr gA FA.kp bA (wa_cons (we_var 0 rfl (wa_cons (we_ix (we_var 1 rfl (we_int ⟨[.int i, .int j], 0, .int i, .tup _, rfl, rfl, wa_nil ⟨ks, ts, i, rfl, i0, i1, _, .int _ _ (.tup _), q⟩⟩))))))⟩))))))
      · refine wb_one (ws_ret (we_bl ?_))
        rw [List.length_map] at h1
        have h1' : numB (ts.length : Int) x = false := by cases e : numB (ts.length : Int) x with | false => rfl | true => rw [e] at h1; cases h1
        rw [accB, h1', Bool.false_and] at q
        exact q
end
end K65
namespace K65
open PySem PySem.Spec PyProof.Rows L2 Gd Pu
theorem itemsF_len {ks : List Str} {ts : List (Str × List Int)} (tk : Tk ks ts) (w : Way) : (itemsF w ks.length ts).length ≤ 100 := by
  have k8 := tk.k8
  have t12 := tk.t12
  cases w with
  | kinds => rw [itemsF, List.length_map, numsN_len]; omega
  | types => rw [itemsF, List.length_map, numsN_len]; omega
  | acc =>
    have := accF_len tk.po.lo ts.length
    have : ts.length * ks.length ≤ 12 * 8 := Nat.mul_le_mul t12 k8
    show (accF ts ts.length).length ≤ 100
    omega
theorem its_items {ks : List Str} {ts : List (Str × List Int)} (tk : Tk ks ts) (w : Way) : Its w (itemsF w ks.length ts) := .of tk.k8 tk.t12 tk.po.lo (fun _ h => h) (by have := itemsF_len tk w; omega)
theorem decW_len {w : Way} {d : D} {n : Nat} (h : ∀ l, d = .tup l → l.length ≤ n) : (decW w d).length ≤ n := by
  cases d with
  | tup l =>
    have := h l rfl
    cases w with
    | acc => show (l.map toL).length ≤ n; rw [List.length_map]; exact this
    | _ => show ((l.map toI).map _).length ≤ n; rw [List.length_map, List.length_map]; exact this
  | _ => exact Nat.zero_le _
section
variable {P : Program} {w : World} {K : PySem.W.Frag} {mg : Str → Option Value} {base : Heap}
theorem od_are {f fL fS fA C : Addr} {fd fdL fdS fdA : FuncData} {k : Nat} (F : Fun K "are_items" "are_items" s_are_items f fd) (T : TTxt K mg C)
    (FL : Fun K "is_lot_below" "is_lot_below" s_is_lot_below fL fdL) (bL : Binds K fdL ["value", "limit"] []) (gL : mg "is_lot_below" = some (.ref fL)) (GL : FnG P w K mg base k fL fdL ["value", "limit"] (spD K dLotB))
    (FS : Fun K "is_acceptance" "is_acceptance" s_is_acceptance fS fdS) (bS : Binds K fdS ["table", "value"] []) (gS : mg "is_acceptance" = some (.ref fS)) (GS : FnG P w K mg base k fS fdS ["table", "value"] (spD K (dIsAcc C)))
    (FA : Fun K "is_ascending" "is_ascending" s_is_ascending fA fdA) (bA : Binds K fdA ["items"] []) (gA : mg "is_ascending" = some (.ref fA)) (GA : FnG P w K mg base k fA fdA ["items"] (spD K dAsc))
    (ml : mg "len" = none) (mI : mg "isinstance" = none) (mt : mg "tuple" = none) (ma : mg "all" = none) : FnG P w K mg base (k + 1) f fd ["table", "way", "value"] (spD K (dAre C)) := by
  refine okD F sc_are_items (fun ds Q h => ?_) fun cdv A out s H E hr ds Qp hs => ?_
  · obtain ⟨ks, ts, w, d, rfl, _⟩ := h
    rfl
  · obtain ⟨ks, ts, w, d, rfl, tk, pd, dl, q⟩ := hs
    have nd := sc_are_items.nd
    refine wb_cons (ws_if (wt_cmp op_eq pu_eq (we_var 1 rfl (we_str ⟨_, .str _ _, _, rfl, fun hc => ?_, fun hc => ?_⟩))))
    · have hw : w = .kinds := by cases w <;> first | rfl | exact absurd hc (by decide +kernel)
      subst hw
      refine wb_one (ws_ret (we_call GL hr gL FL.kp bL (wa_cons (we_var 2 rfl (wa_cons (we_len ml (we_fld (we_var 0 rfl ⟨C, _, _, rfl, T.cl, T.nK, lk_k, _, .tup _, wa_nil ⟨d, _, rfl, pd, dl, ?_⟩⟩))))))))
      rw [List.length_map]
      exact q
    · refine wb_nil (wb_cons (ws_if (wt_cmp op_eq pu_eq (we_var 1 rfl (we_str ⟨_, .str _ _, _, rfl, fun hc2 => ?_, fun hc2 => ?_⟩)))))
      · have hw : w = .types := by cases w <;> first | rfl | exact absurd hc2 (by decide +kernel)
        subst hw
        refine wb_one (ws_ret (we_call GL hr gL FL.kp bL (wa_cons (we_var 2 rfl (wa_cons (we_len ml (we_fld (we_var 0 rfl ⟨C, _, _, rfl, T.cl, T.nT, lk_t, _, .tup _, wa_nil ⟨d, _, rfl, pd, dl, ?_⟩⟩))))))))
        rw [List.length_map]
        exact q
      · have hw : w = .acc := by cases w <;> first | rfl | exact absurd hc (by decide +kernel) | exact absurd hc2 (by decide +kernel)
        subst hw
        obtain ⟨n, hn⟩ := plain_ty pd
        obtain ⟨c, kc, c0, c1⟩ := kit_tup hn
        refine wb_nil (wb_cons (ws_ret (we_and (we_isT mI mt (by decide +kernel) (we_var 2 rfl ⟨n, c, hn, kc, c, rfl, fun hc3 => ?_, fun hc3 => ?_⟩)))))
        · obtain ⟨l, rfl⟩ := c1 hc3
          have hl := dl l rfl
          have pl := pd
          rw [Pu.plain] at pl
          change Qp (.bl (l.all (accB ks.length ts) && ascT (l.map toL))) at q
          refine we_and (we_all ma (we_new (wn_lc (own := [("item", 3)]) (g := gName 3) nd (blkOk_by (own := [("item", 3)]) (N := n_are_items) (sc := defScope s_are_items) (by decide +kernel)) (fun _ _ _ _ _ => pg_name (i := 3) nd rfl (Or.inl rfl))
            (lcm (fun x : D => x) (fun x => .bl (accB ks.length ts x)) (wi_tup (we_var 2 rfl ⟨_, rfl, l, by rw [List.map_id'], rfl, trivial, by omega, fun j x hx => ⟨_, tg_name 3, rfl, fun _ _ _ _ _ => we_call GS hr gS FS.kp bS (wa_cons (we_var 0 rfl (wa_cons (we_var 3 rfl (wa_nil ⟨ks, ts, x, rfl, plainA_mem pl x (List.mem_of_getElem? hx), rfl, rfl⟩)))))⟩, l.map (accB ks.length ts), by rw [show l.map (fun x => D.bl (accB ks.length ts x)) = (l.map (accB ks.length ts)).map D.bl by rw [List.map_map]; rfl]; exact .lst _, _, rfl, fun h4 => ?_, fun h4 => ?_⟩))))))
          · rw [List.all_map] at h4
            have e := (areB_dec (w := .acc) (kk := ks.length) (ts := ts) (d := .tup l))
            have e2 : l = (l.map toL).map tI := by
              have one : ∀ x ∈ l, x = tI (toL x) := fun x hx => by
                have a := List.all_eq_true.mp h4 x hx
                change accB ks.length ts x = true at a
                match x, a with
                | .tup [x, y], a =>
                  rw [accB, Bool.and_eq_true, Bool.and_eq_true] at a
                  obtain ⟨i, rfl, _⟩ := numB_int a.1
                  obtain ⟨j, rfl, _⟩ := numB_int a.2.1
                  rfl
              rw [List.map_map]
              exact ((List.map_congr_left fun x hx => (one x hx).symm).trans (List.map_id _)).symm
            refine we_one (we_call GA hr gA FA.kp bA (wa_cons (we_var 2 rfl (wa_nil (.inr ⟨l.map toL, by rw [← e2], by rw [List.length_map]; exact hl, ?_⟩)))))
            rw [show l.all (accB ks.length ts) = true from h4, Bool.true_and] at q
            exact q
          · rw [List.all_map] at h4
            rw [show l.all (accB ks.length ts) = false from h4, Bool.false_and] at q
            exact q
        · have : areB .acc ks.length ts d = false := by
            cases d with
            | tup l => exact absurd rfl (c0 hc3 l)
            | _ => rfl
          rw [this] at q
          exact q
theorem od_rep {f fW fA fS fF C : Addr} {fd fdW fdA fdS fdF : FuncData} {k : Nat} (F : Fun K "is_repair" "is_repair" s_is_repair f fd)
    (FW : Fun K "check_way" "check_way" s_check_way fW fdW) (bW : Binds K fdW ["way"] []) (gW : mg "check_way" = some (.ref fW)) (GW : FnG P w K mg base k fW fdW ["way"] (spD K dChk))
    (FA : Fun K "are_items" "are_items" s_are_items fA fdA) (bA : Binds K fdA ["table", "way", "value"] []) (gA : mg "are_items" = some (.ref fA)) (GA : FnG P w K mg base k fA fdA ["table", "way", "value"] (spD K (dAre C)))
    (FS : Fun K "struck_table" "struck_table" s_struck_table fS fdS) (bS : Binds K fdS ["table", "way", "items"] []) (gS : mg "struck_table" = some (.ref fS)) (GS : FnG P w K mg base k fS fdS ["table", "way", "items"] (spD K (dStT C)))
    (FF : Fun K "is_forest" "is_forest" s_is_forest fF fdF) (bF : Binds K fdF ["table"] []) (gF : mg "is_forest" = some (.ref fF)) (GF : FnG P w K mg base k fF fdF ["table"] (spD K (dFor C))) : FnG P w K mg base (k + 1) f fd ["table", "way", "value"] (spD K (dRep C)) := by
  refine okD F sc_is_repair (fun ds Q h => ?_) fun cdv A out s H E hr ds Qp hs => ?_
  · obtain ⟨ks, ts, w, d, rfl, _⟩ := h
    rfl
  · obtain ⟨ks, ts, w, d, rfl, tk, pd, dl, q⟩ := hs
    refine wb_cons (ws_expr (we_call GW hr gW FW.kp bW (wa_cons (we_var 1 rfl (wa_nil ⟨w, rfl, ?_⟩)))))
    refine wb_cons (ws_ret (we_and (we_call GA hr gA FA.kp bA (wa_cons (we_var 0 rfl (wa_cons (we_var 1 rfl (wa_cons (we_var 2 rfl (wa_nil ⟨ks, ts, w, d, rfl, tk, pd, dl, _, rfl, fun hc => ?_, fun hc => ?_⟩))))))))))
    · obtain ⟨e, m⟩ := areB_dec hc
      have io : Its w (decW w d) := .of tk.k8 tk.t12 tk.po.lo m (decW_len dl)
      refine we_one (we_call GF hr gF FF.kp bF (wa_cons (we_call GS hr gS FS.kp bS (wa_cons (we_var 0 rfl (wa_cons (we_var 1 rfl (wa_cons (we_var 2 rfl (wa_nil ⟨ks, ts, w, decW w d, by rw [← e], tk, io, wa_nil ⟨ks, struckF w (decW w d) ts, rfl, (tk.struck w _).tb, ?_⟩⟩))))))))))
      rw [repB, hc, Bool.true_and] at q
      exact q
    · rw [repB, hc, Bool.false_and] at q
      exact q
theorem od_cost {f fI C : Addr} {fd fdI : FuncData} {k : Nat} (F : Fun K "strike_cost" "strike_cost" s_strike_cost f fd)
    (FI : Fun K "items_for" "items_for" s_items_for fI fdI) (bI : Binds K fdI ["table", "way"] []) (gI : mg "items_for" = some (.ref fI)) (GI : FnG P w K mg base k fI fdI ["table", "way"] (spD K (dItems C)))
    (ms : mg "sum" = none) (mz : mg "zip" = none) : FnG P w K mg base (k + 1) f fd ["table", "way", "costs", "items"] (spD K (dCost C)) := by
  refine okD F sc_strike_cost (fun ds Q h => ?_) fun cdv A out s H E hr ds Qp hs => ?_
  · obtain ⟨ks, ts, w, cs, its, rfl, _⟩ := h
    rfl
  · obtain ⟨ks, ts, w, cs, its, rfl, tk, io, cl, cb, q⟩ := hs
    have nd := sc_strike_cost.nd
    have i100 := itemsF_len tk w
    have ii := its_items tk w
    have zl : ((itemsF w ks.length ts).zip cs).length ≤ 100000 := by rw [List.length_zip]; omega
    have ez : zipD ((itemsF w ks.length ts).map (itE w)) (cs.map .int) = ((itemsF w ks.length ts).zip cs).map fun p => .tup [itE w p.1, .int p.2] := by
      unfold zipD
      rw [List.zip_map, List.map_map]
      rfl
    refine wb_cons (ws_ret (we_sum ms (we_new (wn_lc (own := [("item", 4), ("cost", 5)]) (g := gTup _ 2 (gCons (gName 4) (gCons (gName 5) gNil))) nd (blkOk_by (own := [("item", 4), ("cost", 5)]) (N := n_strike_cost) (sc := defScope s_strike_cost) (by decide +kernel)) (fun _ _ _ _ _ => pg_tup rfl (pgs_cons (pg_name (i := 4) nd rfl (Or.inl rfl)) (pgs_cons (pg_name (i := 5) nd rfl (Or.inl rfl)) pgs_nil)))
        (lcf (fun p : List Int × Int => .tup [itE w p.1, .int p.2]) (fun p => decide (p.1 ∈ its)) (fun p => .int p.2) (wi_zipT mz (we_call GI hr gI FI.kp bI (wa_cons (we_var 0 rfl (wa_cons (we_var 1 rfl (wa_nil ⟨ks, ts, w, rfl, tk, we_var 2 rfl ⟨_, _, rfl, rfl, (itemsF w ks.length ts).zip cs, ez, rfl, trivial, zl, fun j p hp => ⟨_, tg_two 4 5, rfl, fun _ _ _ _ _ => wts_one ?_⟩, (((itemsF w ks.length ts).zip cs).filter fun p => decide (p.1 ∈ its)).map (·.2), ?_, q⟩⟩))))))))))))
    · have mp : p.1 ∈ itemsF w ks.length ts := (List.of_mem_zip (List.mem_of_getElem? hp)).1
      cases hw : w with
      | acc =>
        subst hw
        refine wt_cmp (op_inT (u65 hr)) pu_inT (we_var 4 rfl (we_var 3 rfl ⟨its.map tI, rfl, sh_tI (ii.b _ mp), sh_tIs io.b, _, rfl, rfl, any_ints its p.1, fun _ _ _ _ _ _ => we_var 5 rfl ⟨rfl, rfl⟩⟩))
      | kinds =>
        subst hw
        obtain ⟨e, m⟩ := io.ints nofun
        obtain ⟨x, hx, ex⟩ := List.mem_map.mp mp
        refine wt_cmp op_in_seq pu_in (we_var 4 rfl (we_var 3 rfl ⟨_, .int (p.1.getD 0 0) _ (by rw [e]; exact .tup _), _, rfl, rfl, ?_, fun _ _ _ _ _ _ => we_var 5 rfl ⟨rfl, rfl⟩⟩))
        rw [← ex]
        exact decide_eq_decide.mpr (m x)
      | types =>
        subst hw
        obtain ⟨e, m⟩ := io.ints nofun
        obtain ⟨x, hx, ex⟩ := List.mem_map.mp mp
        refine wt_cmp op_in_seq pu_in (we_var 4 rfl (we_var 3 rfl ⟨_, .int (p.1.getD 0 0) _ (by rw [e]; exact .tup _), _, rfl, rfl, ?_, fun _ _ _ _ _ _ => we_var 5 rfl ⟨rfl, rfl⟩⟩))
        rw [← ex]
        exact decide_eq_decide.mpr (m x)
    · rw [List.map_map]
      exact .lst _
end
end K65
namespace K65
open PySem PySem.Spec PyProof.Rows L2 Gd Pu
def ltkSc : Scope := { kind := .function, names := [(".0", .local), ("kind", .cell), ("tuple", .globalImplicit), ("range", .globalImplicit), ("len", .globalImplicit), ("types", .cell)], isGenerator := false, isCoroutine := false }
section
variable {P : Program} {w : World} {K : PySem.W.Frag} {mg : Str → Option Value} {base : Heap}
theorem od_ltk {f : Addr} {fd : FuncData} {k : Nat} (F : Fun K "_law_takers" "_law_takers" s__law_takers f fd) (ml : mg "len" = none) (mr : mg "range" = none) (mt : mg "tuple" = none) : FnG P w K mg base (k + 1) f fd ["kinds", "types"] (spD K dLTk) := by
  refine okD F sc__law_takers (fun ds Q h => ?_) fun cdv A out s H E hr ds Qp hs => ?_
  · obtain ⟨ks, ts, rfl, _⟩ := h
    rfl
  · obtain ⟨ks, ts, rfl, k8, t12, q⟩ := hs
    have nd := sc__law_takers.nd
    refine wb_cons (ws_ret (we_new (wn_lc (own := [("kind", 3)]) (g := gName 3) nd (blkOk_by (own := [("kind", 3)]) (N := n__law_takers) (sc := defScope s__law_takers) (by decide +kernel)) (fun _ _ _ _ _ => pg_name (i := 3) nd rfl (Or.inr rfl))
      (lcm (fun x : Int => D.int x) (fun k => tI (tkF ts [k])) (wi_rng1 mr (we_len ml (we_var 0 rfl ⟨_, .tup _, _, rfl, by rw [List.length_map]; omega, numsN ks.length, by rw [List.length_map, Int.toNat_natCast, rngD_eq], rfl, trivial, by rw [numsN_len]; omega, fun j x hx => ⟨_, tg_name 3, rfl, fun _ _ _ _ _ => ?_⟩, q⟩)))))))
    have nd2 := nd
    refine we_tuple mt (we_new (wn_lc (own := [("at", 2)]) (g := gName 2) nd (blkOk_by (own := [("at", 2)]) (N := n__law_takers) (sc := ltkSc) (by decide +kernel)) (fun _ _ _ _ _ => pg_name (i := 2) nd rfl (Or.inl rfl))
      (lcf (fun x : Int => D.int x) (fun r => decide (x ∈ lotT ts r)) (fun x => .int x) (wi_rng1 mr (we_len ml (we_var 1 rfl ⟨_, .tup _, _, rfl, by rw [List.length_map]; omega, numsN ts.length, by rw [List.length_map, Int.toNat_natCast, rngD_eq], rfl, trivial, by rw [numsN_len]; omega, fun i y hy => ⟨_, tg_name 2, rfl, fun _ _ _ _ _ => ?_⟩, _, .lst _, rfl, by rw [← tk1]⟩))))))
    obtain ⟨hi, rfl⟩ := numsN_get hy
    refine wts_one (wt_cmp op_in_seq pu_in (we_var 3 rfl (we_ix (we_ix (we_var 1 rfl (we_var 2 rfl ⟨_, _, _, .tup _, rfl, atI_nat (get_map (List.getElem?_eq_getElem hi)), we_int ⟨_, _, _, .tup _, rfl, atI_nat (j := 1) rfl, _, .int _ _ (.tup _), _, rfl, rfl, ?_, fun _ _ _ _ _ _ => we_var 2 rfl ⟨rfl, rfl⟩⟩⟩))))))
    rw [lotT_at (List.getElem?_eq_getElem hi)]
theorem od_lcr {f fT : Addr} {fd fdT : FuncData} {k : Nat} (F : Fun K "_law_crossings" "_law_crossings" s__law_crossings f fd) (FT : Fun K "_law_takers" "_law_takers" s__law_takers fT fdT) (bT : Binds K fdT ["kinds", "types"] []) (gT : mg "_law_takers" = some (.ref fT)) (GT : FnG P w K mg base k fT fdT ["kinds", "types"] (spD K dLTk))
    (ml : mg "len" = none) (mr : mg "range" = none) : FnG P w K mg base (k + 1) f fd ["kinds", "types"] (spD K dLCr) := by
  refine okD F sc__law_crossings (fun ds Q h => ?_) fun cdv A out s H E hr ds Qp hs => ?_
  · obtain ⟨ks, ts, rfl, _⟩ := h
    rfl
  · obtain ⟨ks, ts, rfl, k8, t9, q⟩ := hs
    have nd := sc__law_crossings.nd
    refine wb_cons (ws_tup2 2 3 nd (wxs_cons (wx_v (we_call GT hr gT FT.kp bT (wa_cons (we_var 0 rfl (wa_cons (we_var 1 rfl (wa_nil ⟨ks, ts, rfl, k8, by omega, wxs_cons (wx_l (wn_lst (wa_nil ⟨by decide, wxs_nil ⟨_, _, rfl, fun u a => ?_⟩⟩)))⟩)))))))))
    refine wb_cut (CI1 ks ts ks.length) ?_ ?_
    · refine ws_for [4] (pg_name (i := 4) nd rfl (.inr rfl)) (wi_rng1 mr (we_len ml (we_var 0 rfl ⟨_, .tup _, _, rfl, by rw [List.length_map]; omega, CI1 ks ts, ⟨a, _, _, _, _, rfl⟩, fun _ _ _ _ => trivial, ?_, by rw [rngD_len, List.length_map]; exact fun Γ q => q⟩)))
      rintro i d Γ hd ⟨a, y4, y5, y6, y7, rfl⟩
      obtain ⟨hi, rfl⟩ := rngD_get hd
      rw [List.length_map] at hi
      have hi8 : i < ks.length := by omega
      rw [Int.zero_add]
      refine ⟨_, tg_name 4, wb_cut (CI2 ks ts i (ks.length - (i + 1))) ?_ ?_⟩
      · refine ws_for [5] (pg_name (i := 5) nd rfl (.inr rfl)) (wi_rng2 mr (we_add (we_var 4 rfl (we_int ⟨_, _, rfl, rfl, we_len ml (we_var 0 rfl ⟨_, .tup _, _, _, rfl, rfl, by rw [List.length_map]; omega, CI2 ks ts i, ⟨a, y5, y6, y7, ?_⟩, fun _ _ _ _ => trivial, ?_, ?_⟩)⟩))))
        · rw [show cr2 ts i 0 = [] from rfl, List.append_nil]
          rfl
        · rintro m d Γ hd ⟨a, y5, y6, y7, rfl⟩
          obtain ⟨hm, rfl⟩ := rngD_get hd
          rw [List.length_map] at hm
          have hm8 : i + 1 + m < ks.length := by omega
          have em : ((i : Int) + 1 + (m : Int)) = ((i + 1 + m : Nat) : Int) := by omega
          rw [em]
          refine ⟨_, tg_name 5, wb_cut (CI3 ks ts i m ts.length) ?_ ?_⟩
          · refine ws_for [6] (pg_name (i := 6) nd rfl (.inr rfl)) (wi_rng1 mr (we_len ml (we_var 1 rfl ⟨_, .tup _, _, rfl, by rw [List.length_map]; omega, CI3 ks ts i m, ⟨a, y6, y7, ?_⟩, fun _ _ _ _ => trivial, ?_, by rw [rngD_len, List.length_map]; exact fun Γ q => q⟩)))
            · rw [show ∀ x y, cr3 ts x y 0 = [] from fun _ _ => rfl, List.append_nil]
              rfl
            · rintro r d Γ hd ⟨a, y6, y7, rfl⟩
              obtain ⟨hr', rfl⟩ := rngD_get hd
              rw [List.length_map] at hr'
              have hr9 : r < ts.length := by omega
              rw [Int.zero_add]
              have succ : cr3 ts (i : Int) ((i + 1 + m : Nat) : Int) (r + 1) = cr3 ts (i : Int) ((i + 1 + m : Nat) : Int) r ++ (if bothQ ts (i : Int) ((i + 1 + m : Nat) : Int) (r : Int) = true then cr4 ts (i : Int) ((i + 1 + m : Nat) : Int) (r : Int) (onlyF ts (i : Int) ((i + 1 + m : Nat) : Int)) else []) := fm_range r
              have l1 := cr1_len t9 (n := ks.length) (i := i) k8
              have l2 := cr2_len t9 i m
              have l3 := cr3_len t9 (i : Int) ((i + 1 + m : Nat) : Int) r
              have lo1 := (tkF_ok ts [(i : Int)]).len
              have lo2 := (tkF_ok ts [((i + 1 + m : Nat) : Int)]).len
              refine ⟨_, tg_name 6, wb_one (ws_if (wt_ww (ww_and (wt_cmp op_in_seq pu_in (we_var 6 rfl (we_ix (we_var 2 rfl (we_var 4 rfl ⟨_, _, _, .lst _, rfl, atI_nat (lots_get hi8), _, .int _ _ (.tup _), _, rfl, fun h1 => ?_, fun h1 => ⟨nofun, fun _ => wb_nil ⟨a, .v (.int (r : Int)), y7, ?_⟩⟩⟩))))))))⟩
              · refine ww_and1 (wt_cmp op_in_seq pu_in (we_var 6 rfl (we_ix (we_var 2 rfl (we_var 5 rfl ⟨_, _, _, .lst _, rfl, atI_nat (lots_get hm8), _, .int _ _ (.tup _), _, rfl, fun h2 => ?_, fun h2 => wb_nil ⟨a, .v (.int (r : Int)), y7, ?_⟩⟩)))))
                · have bq : bothQ ts (i : Int) ((i + 1 + m : Nat) : Int) (r : Int) = true := by rw [bothQ, h1, h2]; rfl
                  refine wb_one (ws_for [7] (pg_name (i := 7) nd rfl (.inr rfl)) (wi_lst (we_new (wn_lc (own := [("at", 8)]) (g := gName 8) nd (blkOk_by (own := [("at", 8)]) (N := n__law_crossings) (sc := defScope s__law_crossings) (by decide +kernel)) (fun _ _ _ _ _ => pg_name (i := 8) nd rfl (Or.inl rfl))
                    (lcf (fun x : Int => D.int x) (fun r => !decide (r ∈ tkF ts [((i + 1 + m : Nat) : Int)])) (fun x => .int x) (wi_tup (we_ix (we_var 2 rfl (we_var 4 rfl ⟨_, _, _, .lst _, rfl, atI_nat (lots_get hi8), _, rfl, tkF ts [(i : Int)], rfl, rfl, trivial, by omega, fun j x hx => ⟨_, tg_name 8, rfl, fun _ _ _ _ _ => wts_one (wt_cmp op_notIn_seq pu_nin (we_var 8 rfl (we_ix (we_var 2 rfl (we_var 5 rfl ⟨_, _, _, .lst _, rfl, atI_nat (lots_get hm8), _, .int _ _ (.tup _), _, rfl, rfl, rfl, fun _ _ _ _ _ _ => we_var 8 rfl ⟨rfl, rfl⟩⟩)))))⟩, _, rfl, CI4 ks ts i m r, ⟨a, y7, ?_⟩, fun _ _ _ _ => trivial, ?_, ?_⟩)))))))))
                  · rw [List.take_zero, show ∀ x y z, cr4 ts x y z [] = [] from fun _ _ _ => rfl, List.append_nil]
                    rfl
                  · rintro j d Γ hd ⟨a, y7, rfl⟩
                    obtain ⟨mine, hm1, rfl⟩ := map_get hd
                    have c4 := cr4_len t9 (i : Int) ((i + 1 + m : Nat) : Int) (r : Int) ((onlyF ts (i : Int) ((i + 1 + m : Nat) : Int)).take j)
                    have tl : ((onlyF ts (i : Int) ((i + 1 + m : Nat) : Int)).take j).length ≤ 9 := by
                      rw [List.length_take]
                      have := onlyF_len ts (i : Int) ((i + 1 + m : Nat) : Int)
                      omega
                    have ol := onlyF_len ts ((i + 1 + m : Nat) : Int) (i : Int)
                    refine ⟨_, tg_name 7, wb_one (ws_own 3 nd (wn_addL (we_own 3 rfl (we_new (wn_lc (own := [("yours", 9)]) (g := gName 9) nd (blkOk_by (own := [("yours", 9)]) (N := n__law_crossings) (sc := defScope s__law_crossings) (by decide +kernel)) (fun _ _ _ _ _ => pg_name (i := 9) nd rfl (Or.inl rfl))
                      (lcf (fun x : Int => D.int x) (fun y => !decide (y ∈ tkF ts [(i : Int)])) (fun y => crE [(i : Int), ((i + 1 + m : Nat) : Int), (r : Int), mine, y]) (wi_tup (we_ix (we_var 2 rfl (we_var 5 rfl ⟨_, _, _, .lst _, rfl, atI_nat (lots_get hm8), _, rfl, tkF ts [((i + 1 + m : Nat) : Int)], rfl, rfl, trivial, by omega, fun j x hx => ⟨_, tg_name 9, rfl, fun _ _ _ _ _ => wts_one (wt_cmp op_notIn_seq pu_nin (we_var 9 rfl (we_ix (we_var 2 rfl (we_var 4 rfl ⟨_, _, _, .lst _, rfl, atI_nat (lots_get hi8), _, .int _ _ (.tup _), _, rfl, rfl, rfl, fun _ _ _ _ _ _ => we_tup (wa_cons (we_tup (wa_cons (we_var 4 rfl (wa_cons (we_var 5 rfl (wa_nil ⟨lk, wa_cons (we_tup (wa_cons (we_var 6 rfl (wa_cons (we_var 7 rfl (wa_cons (we_var 9 rfl (wa_nil ⟨lk, wa_nil ⟨lk, rfl, rfl⟩⟩))))))))⟩)))))))⟩)))))⟩, _, _, .own (i := 3) rfl, .lst _, ?_, fun a2 => ⟨a2, .v (.int mine), ?_⟩⟩))))))))))⟩
                    · rw [List.length_map, List.length_append, List.length_append, List.length_append, List.length_map]
                      have := List.length_filter_le (fun y => !decide (y ∈ tkF ts [(i : Int)])) (tkF ts [((i + 1 + m : Nat) : Int)])
                      omega
                    · have s4 : cr4 ts (i : Int) ((i + 1 + m : Nat) : Int) (r : Int) ((onlyF ts (i : Int) ((i + 1 + m : Nat) : Int)).take (j + 1)) = cr4 ts (i : Int) ((i + 1 + m : Nat) : Int) (r : Int) ((onlyF ts (i : Int) ((i + 1 + m : Nat) : Int)).take j) ++ (onlyF ts ((i + 1 + m : Nat) : Int) (i : Int)).map fun y => [(i : Int), ((i + 1 + m : Nat) : Int), (r : Int), mine, y] := fm_take hm1
                      rw [s4, ← List.append_assoc, List.map_append (l₂ := List.map _ _), List.map_map]
                      rfl
                  · rw [List.length_map]
                    rintro Γ ⟨a, y7, rfl⟩
                    refine ⟨a, .v (.int (r : Int)), y7, ?_⟩
                    rw [succ, if_pos bq, ← List.append_assoc]
                    have tk : (onlyF ts (i : Int) ((i + 1 + m : Nat) : Int)).take (List.filter (fun r => !decide (r ∈ tkF ts [((i + 1 + m : Nat) : Int)])) (tkF ts [(i : Int)])).length = onlyF ts (i : Int) ((i + 1 + m : Nat) : Int) := List.take_of_length_le (Nat.le_refl _)
                    rw [tk]
                · have bq : ¬ bothQ ts (i : Int) ((i + 1 + m : Nat) : Int) (r : Int) = true := by rw [bothQ, h1, h2]; decide
                  rw [succ, if_neg bq, List.append_nil]
                  rfl
              · have bq : ¬ bothQ ts (i : Int) ((i + 1 + m : Nat) : Int) (r : Int) = true := by rw [bothQ, h1, Bool.false_and]; decide
                rw [succ, if_neg bq, List.append_nil]
                rfl
          · rintro Γ ⟨a, y6, y7, rfl⟩
            refine wb_nil ⟨a, .v (.int ((i + 1 + m : Nat) : Int)), y6, y7, ?_⟩
            rw [show cr2 ts i (m + 1) = cr2 ts i m ++ cr3 ts (i : Int) ((i + 1 + m : Nat) : Int) ts.length from fm_range m, ← List.append_assoc]
        · rintro Γ ⟨a, y5, y6, y7, rfl⟩
          refine ⟨a, y5, y6, y7, ?_⟩
          rw [rngD_len, List.length_map, show ((ks.length : Int) - ((i : Int) + 1)).toNat = ks.length - (i + 1) by omega]
      · rintro Γ ⟨a, y5, y6, y7, rfl⟩
        refine wb_nil ⟨a, .v (.int (i : Int)), y5, y6, y7, ?_⟩
        rw [show cr1 ts ks.length (i + 1) = cr1 ts ks.length i ++ cr2 ts i (ks.length - (i + 1)) from fm_range i]
    · rintro Γ ⟨a, y4, y5, y6, y7, rfl⟩
      exact wb_cons (ws_ret (we_mv 3 rfl q))
end
end K65
namespace K65
open PySem PySem.Spec PyProof.Rows L2 Gd Pu
def LII (ks : List Str) (ts : List (Str × List Int)) (i : Nat) (Γ : List Ent) : Prop := ∃ (a : Addr) (y4 : Ent), Γ = [.v (tS ks), .v (typesP ts), .v (.str (wayS .acc)), .l a ((accF ts i).map tI), y4, .no]
def SLI (ts : List (Str × List Int)) (w : Way) (its : List (List Int)) (e : Ent) (a : Addr) (i : Nat) (Γ : List Ent) : Prop := ∃ (y4 y5 : Ent), Γ = [.v (typesP ts), .v (.str (wayS w)), e, .l a ((struckN w its ts i).map typeP), y4, y5, .no]
def SLJ (ts : List (Str × List Int)) (w : Way) (its : List (List Int)) (e : Ent) (a : Addr) (i : Nat) (Γ : List Ent) : Prop := ∃ (y5 : Ent), RdE y5 ((strT w its ts i).2.map .int) ∧ Γ = [.v (typesP ts), .v (.str (wayS w)), e, .l a ((struckN w its ts i).map typeP), .v (.int (i : Int)), y5, .no]
/-- whether it is a lot of what can be struck -/
def lisB (w : Way) (kk : Nat) (ts : List (Str × List Int)) (d : D) : Bool := areB w kk ts d
section
variable {P : Program} {w : World} {K : PySem.W.Frag} {mg : Str → Option Value} {base : Heap}
theorem od_lit {f : Addr} {fd : FuncData} {k : Nat} (F : Fun K "_law_items" "_law_items" s__law_items f fd) (ml : mg "len" = none) (mr : mg "range" = none) (mL : mg "list" = none) : FnG P w K mg base (k + 1) f fd ["kinds", "types", "way"] (spD K dLIt) := by
  refine okD F sc__law_items (fun ds Q h => ?_) fun cdv A out s H E hr ds Qp hs => ?_
  · obtain ⟨ks, ts, w, rfl, _⟩ := h
    rfl
  · obtain ⟨ks, ts, w, rfl, tk, q⟩ := hs
    have nd := sc__law_items.nd
    have k8 := tk.k8
    have t12 := tk.t12
    refine wb_cons (ws_if (wt_cmp op_eq pu_eq (we_var 2 rfl (we_str ⟨_, .str _ _, _, rfl, fun hc => ?_, fun hc => ?_⟩))))
    · have hw : w = .kinds := by cases w <;> first | rfl | exact absurd hc (by decide +kernel)
      subst hw
      refine wb_one (ws_ret (we_new (wn_lstR mL mr (we_len ml (we_var 0 rfl ⟨_, .tup _, _, rfl, by rw [List.length_map]; omega, ?_⟩)))))
      rw [List.length_map, Int.toNat_natCast, rngD_eq]
      rw [itemsF, List.map_map] at q
      exact q
    · refine wb_nil (wb_cons (ws_if (wt_cmp op_eq pu_eq (we_var 2 rfl (we_str ⟨_, .str _ _, _, rfl, fun hc2 => ?_, fun hc2 => ?_⟩)))))
      · have hw : w = .types := by cases w <;> first | rfl | exact absurd hc2 (by decide +kernel)
        subst hw
        refine wb_one (ws_ret (we_new (wn_lstR mL mr (we_len ml (we_var 1 rfl ⟨_, .tup _, _, rfl, by rw [List.length_map]; omega, ?_⟩)))))
        rw [List.length_map, Int.toNat_natCast, rngD_eq]
        rw [itemsF, List.map_map] at q
        exact q
      · have hw : w = .acc := by cases w <;> first | rfl | exact absurd hc (by decide +kernel) | exact absurd hc2 (by decide +kernel)
        subst hw
        refine wb_nil (wb_cons (ws_own 3 nd (wn_lst (wa_nil ⟨by decide, fun a => ?_⟩))))
        refine wb_cut (LII ks ts ts.length) ?_ ?_
        · refine ws_for [4] (pg_name (i := 4) nd rfl (.inr rfl)) (wi_rng1 mr (we_len ml (we_var 1 rfl ⟨_, .tup _, _, rfl, by rw [List.length_map]; omega, LII ks ts, ⟨a, _, rfl⟩, fun _ _ _ _ => trivial, ?_, by rw [rngD_len, List.length_map]; exact fun Γ q => q⟩)))
          rintro i d Γ hd ⟨a, y4, rfl⟩
          obtain ⟨hi, rfl⟩ := rngD_get hd
          rw [List.length_map] at hi
          have hi9 : i < ts.length := by omega
          rw [Int.zero_add]
          have lo := (lotT_in tk.po.lo i).len
          have al := accF_len tk.po.lo i
          have ib : i * ks.length ≤ 12 * 8 := Nat.mul_le_mul (by omega) k8
          refine ⟨_, tg_name 4, wb_one (ws_own 3 nd (wn_addL (we_own 3 rfl (we_new (wn_lc (own := [("kind", 5)]) (g := gName 5) nd (blkOk_by (own := [("kind", 5)]) (N := n__law_items) (sc := defScope s__law_items) (by decide +kernel)) (fun _ _ _ _ _ => pg_name (i := 5) nd rfl (Or.inl rfl))
            (lcm (fun x : Int => D.int x) (fun x => tI [(i : Int), x]) (wi_tup (we_ix (we_ix (we_var 1 rfl (we_var 4 rfl ⟨_, _, _, .tup _, rfl, atI_nat (get_map (List.getElem?_eq_getElem hi9)), we_int ⟨_, _, _, .tup _, rfl, atI_nat (j := 1) rfl, _, rfl, ts[i].2, rfl, rfl, trivial, by rw [← lotT_at (List.getElem?_eq_getElem hi9)]; omega, fun j x hx => ⟨_, tg_name 5, rfl, fun _ _ _ _ _ => we_tup (wa_cons (we_var 4 rfl (wa_cons (we_var 5 rfl (wa_nil ⟨lk, rfl, rfl⟩)))))⟩, _, _, .own (i := 3) rfl, .lst _, ?_, fun a2 => ⟨a2, .v (.int (i : Int)), ?_⟩⟩⟩)))))))))))⟩
          · rw [List.length_map, List.length_map, ← lotT_at (List.getElem?_eq_getElem hi9)]; omega
          · rw [accF_succ, lotT_at (List.getElem?_eq_getElem hi9), List.map_append (l₂ := List.map _ _), List.map_map]
            rfl
        · rintro Γ ⟨a, y4, rfl⟩
          exact wb_cons (ws_ret (we_mv 3 rfl q))
theorem st_body {f : Addr} {k : Nat} (ml : mg "len" = none) (mr : mg "range" = none) (mL : mg "list" = none) (mt : mg "tuple" = none) (cdv : Value) (A : Around) (out : List Env) (s : Shared) (H : Hp) (E : XK) (hr : RmG k (A.deeper (envOfC "_law_struck" (defScope s__law_struck) s.heap.objs.size f cdv)))
    {ks : List Str} {ts : List (Str × List Int)} (tk : Tk ks ts) {w0 : Way} {its : List (List Int)} (io : Its w0 its) {e : Ent} (he : RdE e (its.map (itE w0))) {Es : Eds} (hq : ∀ Γ' : List Ent, Γ'[2]? = some e → Es.rt (typesP (struckF w0 its ts)) Γ') :
    WB (cxOf CX0 P w K mg base n__law_struck "_law_struck" (defScope s__law_struck) f cdv A out s H E).nox (defBody s__law_struck) [.v (typesP ts), .v (.str (wayS w0)), e, .no, .no, .no, .no] Es := by
  have nd := sc__law_struck.nd
  have k8 := tk.k8
  have t12 := tk.t12
  refine wb_cons (ws_own 3 nd (wn_lst (wa_nil ⟨by decide, fun a => ?_⟩)))
  refine wb_cut (SLI ts w0 its e a ts.length) ?_ ?_
  · refine ws_for [4] (pg_name (i := 4) nd rfl (.inr rfl)) (wi_rng1 mr (we_len ml (we_var 0 rfl ⟨_, .tup _, _, rfl, by rw [List.length_map]; omega, SLI ts w0 its e a, ⟨_, _, rfl⟩, fun _ _ _ _ => trivial, ?_, by rw [rngD_len, List.length_map]; exact fun Γ q => q⟩)))
    rintro i d Γ hd ⟨y4, y5, rfl⟩
    obtain ⟨hi, rfl⟩ := rngD_get hd
    rw [List.length_map] at hi
    have hi9 : i < ts.length := by omega
    rw [Int.zero_add]
    have le := lotT_at (List.getElem?_eq_getElem hi9)
    have ne := nmT_at (List.getElem?_eq_getElem hi9)
    have lo := lotT_in tk.po.lo i
    have ll := lo.len
    rw [le] at lo ll
    have fin : (strT w0 its ts i).2 = ts[i].2.filter fun k => !isStr w0 its i k := by rw [← le]; rfl
    refine ⟨_, tg_name 4, wb_cut (SLJ ts w0 its e a i) ?_ ?_⟩
    · refine ws_if (wt_cmp op_eq pu_eq (we_var 1 rfl (we_str ⟨_, .str _ _, _, rfl, fun hc => ?_, fun hc => ?_⟩)))
      · have hw : w0 = .kinds := by cases w0 <;> first | rfl | exact absurd hc (by decide +kernel)
        subst hw
        obtain ⟨e0, m⟩ := io.ints nofun
        refine wb_one (ws_lc 5 (own := [("kind", 6)]) (g := gName 6) nd (blkOk_by (own := [("kind", 6)]) (N := n__law_struck) (sc := defScope s__law_struck) (by decide +kernel)) (fun _ _ _ _ _ => pg_name (i := 6) nd rfl (Or.inl rfl))
          (lcf (fun x : Int => D.int x) (fun k => !isStr .kinds its i k) (fun x => .int x) (wi_tup (we_ix (we_ix (we_var 0 rfl (we_var 4 rfl ⟨_, _, _, .tup _, rfl, atI_nat (get_map (List.getElem?_eq_getElem hi9)), we_int ⟨_, _, _, .tup _, rfl, atI_nat (j := 1) rfl, _, rfl, ts[i].2, rfl, rfl, trivial, by omega, fun j x hx => ⟨_, tg_name 6, rfl, fun _ _ _ _ _ => wts_one (wt_cmp op_notIn_seq pu_nin (we_var 6 rfl (we_rd 2 he rfl fun d sq => ⟨_, .int _ _ (by rw [← e0]; exact sq), _, rfl, rfl, by rw [decide_eq_decide.mpr (m x)]; rfl, fun _ _ _ _ _ _ => we_var 6 rfl ⟨rfl, rfl⟩⟩)))⟩, fun a5 => ⟨.l a5 _, ?_, rfl⟩⟩⟩)))))))
        rw [fin]
        exact .l _ _
      · refine wb_one (ws_if (wt_cmp op_eq pu_eq (we_var 1 rfl (we_str ⟨_, .str _ _, _, rfl, fun hc2 => ?_, fun hc2 => ?_⟩))))
        · have hw : w0 = .types := by cases w0 <;> first | rfl | exact absurd hc2 (by decide +kernel)
          subst hw
          obtain ⟨e0, m⟩ := io.ints nofun
          refine wb_one (ws_set 5 nd (we_if (wt_cmp op_in_seq pu_in (we_var 4 rfl (we_rd 2 he rfl fun d sq => ⟨_, .int _ _ (by rw [← e0]; exact sq), _, rfl, fun h1 => ?_, fun h1 => ?_⟩)))))
          · rw [decide_eq_decide.mpr (m (i : Int)), decide_eq_true_eq] at h1
            refine we_new (wn_lst (wa_nil ⟨by decide, .v (.lst []), ?_, rfl⟩))
            rw [fin, List.filter_eq_nil_iff.mpr fun k _ => by rw [isStr, show keyW .types i k = [(i : Int)] from rfl, decide_eq_true h1]; decide]
            exact .vl _
          · have h1 : [(i : Int)] ∉ its := fun z => by rw [decide_eq_true ((m i).mpr z)] at h1; cases h1
            refine we_new (wn_list mL (we_ix (we_ix (we_var 0 rfl (we_var 4 rfl ⟨_, _, _, .tup _, rfl, atI_nat (get_map (List.getElem?_eq_getElem hi9)), we_int ⟨_, _, _, .tup _, rfl, atI_nat (j := 1) rfl, _, .tup _, .v (.lst (ts[i].2.map .int)), ?_, rfl⟩⟩)))))
            rw [fin, List.filter_eq_self.mpr fun k _ => by rw [isStr, show keyW .types i k = [(i : Int)] from rfl, decide_eq_false h1]; rfl]
            exact .vl _
        · have hw : w0 = .acc := by cases w0 <;> first | rfl | exact absurd hc (by decide +kernel) | exact absurd hc2 (by decide +kernel)
          subst hw
          refine wb_one (ws_lc 5 (own := [("kind", 6)]) (g := gName 6) nd (blkOk_by (own := [("kind", 6)]) (N := n__law_struck) (sc := defScope s__law_struck) (by decide +kernel)) (fun _ _ _ _ _ => pg_name (i := 6) nd rfl (Or.inl rfl))
            (lcf (fun x : Int => D.int x) (fun k => !isStr .acc its i k) (fun x => .int x) (wi_tup (we_ix (we_ix (we_var 0 rfl (we_var 4 rfl ⟨_, _, _, .tup _, rfl, atI_nat (get_map (List.getElem?_eq_getElem hi9)), we_int ⟨_, _, _, .tup _, rfl, atI_nat (j := 1) rfl, _, rfl, ts[i].2, rfl, rfl, trivial, by omega, fun j x hx => ⟨_, tg_name 6, rfl, fun _ _ _ _ _ => wts_one (wt_ninI 2 (u65 hr) he io.b (we_tup (wa_cons (we_var 4 rfl (wa_cons (we_var 6 rfl (wa_nil ⟨lk, rfl, [(i : Int), x], rfl, ?_, rfl, rfl, fun _ _ _ _ _ _ => we_var 6 rfl ⟨rfl, rfl⟩⟩)))))))⟩, fun a5 => ⟨.l a5 _, ?_, rfl⟩⟩⟩)))))))
          · intro y hy
            have xb := lo.2 x (List.mem_of_getElem? hx)
            rcases List.mem_cons.mp hy with rfl | hy
            · omega
            · rw [List.mem_singleton] at hy; omega
          · rw [fin]
            exact .l _ _
    · rintro Γ ⟨y5, r5, rfl⟩
      refine wb_one (ws_append 3 (we_tup (wa_cons (we_ix (we_ix (we_var 0 rfl (we_var 4 rfl ⟨_, _, _, .tup _, rfl, atI_nat (get_map (List.getElem?_eq_getElem hi9)), we_int ⟨_, _, _, .tup _, rfl, atI_nat (j := 0) rfl, wa_cons (we_tuple mt (we_rd 5 r5 rfl fun d sq => ⟨_, sq, wa_nil ⟨lk, a, _, rfl, by rw [List.length_map, struckN_len]; omega, .v (.int (i : Int)), y5, ?_⟩⟩))⟩⟩)))))))
      rw [struckN_succ, List.map_append, ← ne]
      rfl
  · rintro Γ ⟨y4, y5, rfl⟩
    exact wb_cons (ws_ret (we_tuple mt (we_own 3 rfl ⟨_, .own (i := 3) rfl, hq _ rfl⟩)))
theorem od_lst {f : Addr} {fd : FuncData} {k : Nat} (F : Fun K "_law_struck" "_law_struck" s__law_struck f fd) (ml : mg "len" = none) (mr : mg "range" = none) (mL : mg "list" = none) (mt : mg "tuple" = none) : FnG P w K mg base (k + 1) f fd ["types", "way", "items"] (spD K fun ds Q => ∃ ks ts w its, ds = [typesP ts, .str (wayS w), .tup (its.map (itE w))] ∧ Tk ks ts ∧ Its w its ∧ Q (typesP (struckF w its ts))) := by
  refine okD F sc__law_struck (fun ds Q h => ?_) fun cdv A out s H E hr ds Qp hs => ?_
  · obtain ⟨ks, ts, w, its, rfl, _⟩ := h
    rfl
  · obtain ⟨ks, ts, w, its, rfl, tk, io, q⟩ := hs
    exact st_body ml mr mL mt cdv A out s H E hr tk io (.t _) fun _ _ => q
theorem od_lsO {f : Addr} {fd : FuncData} {k : Nat} (F : Fun K "_law_struck" "_law_struck" s__law_struck f fd) (ml : mg "len" = none) (mr : mg "range" = none) (mL : mg "list" = none) (mt : mg "tuple" = none) : FnG P w K mg base (k + 1) f fd ["types", "way", "items"] (spO K 2 fun ls ds Q => ∃ ks ts w its a, ds = [typesP ts, .str (wayS w), .adr a] ∧ ls = its.map (itE w) ∧ Tk ks ts ∧ Its w its ∧ Q (typesP (struckF w its ts))) := by
  refine okO F sc__law_struck (fun ls ds Q h => ?_) (by decide) fun cdv A out s H E hr a ls ds Qp hs hj => ?_
  · obtain ⟨ks, ts, w, its, a, rfl, _⟩ := h
    rfl
  · obtain ⟨ks, ts, w, its, a', rfl, rfl, tk, io, q⟩ := hs
    exact st_body ml mr mL mt cdv A out s H E hr tk io (.l _ _) fun Γ' h => ⟨h, q⟩
end
end K65
namespace K65
open PySem PySem.Spec PyProof.Rows L2 Gd Pu
/-- whether an item is one -/
def itB (w : Way) (kk : Nat) (ts : List (Str × List Int)) (d : D) : Bool := match w with
  | .kinds => numB (kk : Int) d
  | .types => numB (ts.length : Int) d
  | .acc => accB kk ts d
def ascW (w : Way) (l : List D) : Bool := match w with
  | .acc => ascT (l.map toL)
  | _ => ascB (l.map toI)
theorem areB_it (w : Way) (kk : Nat) (ts : List (Str × List Int)) (l : List D) : areB w kk ts (.tup l) = (l.all (itB w kk ts) && ascW w l) := by cases w <;> rfl
theorem areB_no {w : Way} {kk : Nat} {ts : List (Str × List Int)} {d : D} (h : ∀ l, d ≠ .tup l) : areB w kk ts d = false := by
  cases d with
  | tup l => exact absurd rfl (h l)
  | _ => cases w <;> rfl
def QI (ks : List Str) (ts : List (Str × List Int)) (w : Way) (l : List D) (i : Nat) (Γ : List Ent) : Prop := ∃ y4 : Ent, Γ = [.v (tS ks), .v (typesP ts), .v (.str (wayS w)), .v (.tup l), y4, .no] ∧ (l.take i).all (itB w ks.length ts) = true
def dLLot : List D → (D → Prop) → Prop := fun ds Q => ∃ ks ts w d, ds = [tS ks, typesP ts, .str (wayS w), d] ∧ Tk ks ts ∧ plain d = true ∧ (∀ l, d = .tup l → l.length ≤ 1000) ∧ Q (.bl (areB w ks.length ts d))
theorem all_take {p : D → Bool} {l : List D} {i : Nat} {x : D} (h : l[i]? = some x) : (l.take (i + 1)).all p = ((l.take i).all p && p x) := by
  rw [List.take_succ, h, List.all_append]
  simp
section
variable {P : Program} {w : World} {K : PySem.W.Frag} {mg : Str → Option Value} {base : Heap}
theorem od_lnum {f : Addr} {fd : FuncData} {k : Nat} (F : Fun K "_law_is_number" "_law_is_number" s__law_is_number f fd) (mI : mg "isinstance" = none) (mi : mg "int" = none) (mb : mg "bool" = none) : FnG P w K mg base (k + 1) f fd ["value", "many"] (spD K dNumB) := by
  refine okD F sc__law_is_number (fun ds Q h => ?_) fun cdv A out s H E hr ds Qp hs => ?_
  · obtain ⟨d, m, rfl, _⟩ := h
    rfl
  · obtain ⟨d, m, rfl, pd, q⟩ := hs
    obtain ⟨n, hn⟩ := plain_ty pd
    obtain ⟨c, kc, c0, c1⟩ := kit_int hn
    refine wb_cons (ws_ret (we_and (we_isT mI mi (by decide +kernel) (we_var 0 rfl ⟨n, c, hn, kc, c, rfl, fun hc => ?_, fun hc => ?_⟩))))
    · rcases c1 hc with ⟨i, rfl⟩ | ⟨b, rfl⟩
      · refine we_and (we_not (we_isT (T := "bool") mI mb (by decide +kernel) (we_var 0 rfl ⟨"int", false, rfl, by decide +kernel, _, rfl, _, rfl, fun _ => we_one (we_chain op_le op_lt (pu_B _) (pu_B _) (we_int (we_var 0 rfl ⟨_, _, rfl, rfl, _, rfl, fun h0 => we_var 1 rfl ⟨_, _, rfl, rfl, ?_⟩, fun h0 => ?_⟩))), nofun⟩)))
        · rw [numB, show decide ((0 : Int) ≤ i) = true from h0, Bool.true_and] at q
          exact q
        · rw [numB, show decide ((0 : Int) ≤ i) = false from h0, Bool.false_and] at q
          exact q
      · exact we_and (we_not (we_isT (T := "bool") mI mb (by decide +kernel) (we_var 0 rfl ⟨"bool", true, rfl, by decide +kernel, _, rfl, _, rfl, nofun, fun _ => q⟩)))
    · have : numB m d = false := by
        have := c0 hc
        cases d with
        | int i => cases hn; exact absurd (Option.some.inj (kc.symm.trans (by decide +kernel : kitB "int" "int" = some true))) (by rw [hc]; decide)
        | _ => rfl
      rw [this] at q
      exact q
theorem od_llot {f fN fT : Addr} {fd fdN fdT : FuncData} {k : Nat} (F : Fun K "_law_is_lot" "_law_is_lot" s__law_is_lot f fd)
    (FN : Fun K "_law_is_number" "_law_is_number" s__law_is_number fN fdN) (bN : Binds K fdN ["value", "many"] []) (gN : mg "_law_is_number" = some (.ref fN)) (GN : FnG P w K mg base k fN fdN ["value", "many"] (spD K dNumB))
    (FT : Fun K "_law_items" "_law_items" s__law_items fT fdT) (bT : Binds K fdT ["kinds", "types", "way"] []) (gT : mg "_law_items" = some (.ref fT)) (GT : FnG P w K mg base k fT fdT ["kinds", "types", "way"] (spD K dLIt))
    (ml : mg "len" = none) (mr : mg "range" = none) (mI : mg "isinstance" = none) (mt : mg "tuple" = none) (ma : mg "all" = none) : FnG P w K mg base (k + 1) f fd ["kinds", "types", "way", "value"] (spD K dLLot) := by
  refine okD F sc__law_is_lot (fun ds Q h => ?_) fun cdv A out s H E hr ds Qp hs => ?_
  · obtain ⟨ks, ts, w, d, rfl, _⟩ := h
    rfl
  · obtain ⟨ks, ts, w, d, rfl, tk, pd, dl, q⟩ := hs
    have nd := sc__law_is_lot.nd
    obtain ⟨n, hn⟩ := plain_ty pd
    obtain ⟨c, kc, c0, c1⟩ := kit_tup hn
    refine wb_cons (ws_if (wt_not (wt_val (we_isT mI mt (by decide +kernel) (we_var 3 rfl ⟨n, c, hn, kc, c, rfl, fun hc => ?_, fun hc => ?_⟩)))))
    · have hc' : c = false := by cases c with | false => rfl | true => cases hc
      refine wb_one (ws_ret (we_bl ?_))
      rw [areB_no (c0 hc')] at q
      exact q
    have hc' : c = true := by cases c with | true => rfl | false => cases hc
    obtain ⟨l, rfl⟩ := c1 hc'
    have hl := dl l rfl
    have pl := pd
    rw [Pu.plain] at pl
    rw [areB_it] at q
    refine wb_nil (wb_cut (QI ks ts w l l.length) ?_ ?_)
    · refine ws_for [4] (pg_name (i := 4) nd rfl (.inl rfl)) (wi_tup (we_var 3 rfl ⟨_, rfl, QI ks ts w l, ⟨_, rfl, rfl⟩, fun _ _ _ _ => trivial, ?_, fun Γ q => q⟩))
      rintro i x Γ hx ⟨y4, rfl, ok⟩
      have px := plainA_mem pl x (List.mem_of_getElem? hx)
      have no : itB w ks.length ts x = false → Qp (.bl false) := fun z => by
        have : l.all (itB w ks.length ts) = false := by
          rw [Bool.eq_false_iff]
          intro a
          rw [List.all_eq_true.mp a x (List.mem_of_getElem? hx)] at z
          cases z
        rw [this, Bool.false_and] at q
        exact q
      refine ⟨_, tg_name 4, wb_one (ws_if (wt_cmp op_eq pu_eq (we_var 2 rfl (we_str ⟨_, .str _ _, _, rfl, fun hw => ?_, fun hw => ?_⟩))))⟩
      · have hw : w = .acc := by cases w <;> first | rfl | exact absurd hw (by decide +kernel)
        subst hw
        obtain ⟨n, hn⟩ := plain_ty px
        obtain ⟨c, kc, c0, c1⟩ := kit_tup hn
        refine wb_cons (ws_if (wt_ww (ww_or (wt_not (wt_val (we_isT mI mt (by decide +kernel) (we_var 4 rfl ⟨n, c, hn, kc, c, rfl, fun h1 => ?_, fun h1 => ⟨fun _ => wb_one (ws_ret (we_bl (no ?_))), nofun⟩⟩)))))))
        · have h1 : c = true := by cases c with | true => rfl | false => cases h1
          obtain ⟨m, rfl⟩ := c1 h1
          rw [Pu.plain] at px
          refine ww_or (wt_cmp op_ne pu_ne (we_len ml (we_var 4 rfl ⟨_, .tup _, we_int ⟨_, .int _ _, _, rfl, fun h2 => ?_, fun h2 => ⟨fun _ => wb_one (ws_ret (we_bl (no ?_))), nofun⟩⟩⟩)))
          · obtain ⟨a, b, rfl⟩ : ∃ a b, m = [a, b] := by
              have : m.length = 2 := by
                cases e : decide ((m.length : Int) = 2) with
                | true => have := of_decide_eq_true e; omega
                | false => rw [e] at h2; cases h2
              match m, this with
              | [a, b], _ => exact ⟨a, b, rfl⟩
            have pa : plain a = true := plainA_mem px a (by simp)
            have pb : plain b = true := plainA_mem px b (by simp)
            refine ww_or (wt_not (wt_val (we_call GN hr gN FN.kp bN (wa_cons (we_ix (we_var 4 rfl (we_int ⟨[a, b], 0, a, .tup _, rfl, rfl, wa_cons (we_len ml (we_var 1 rfl ⟨_, .tup _, wa_nil ⟨a, _, rfl, pa, _, rfl, fun h3 => ?_, fun h3 => ⟨fun _ => wb_one (ws_ret (we_bl (no ?_))), nofun⟩⟩⟩))⟩)))))))
            · rw [List.length_map] at h3
              have h3 : numB (ts.length : Int) a = true := by cases e : numB (ts.length : Int) a with | true => rfl | false => rw [e] at h3; cases h3
              refine ww_or1 (wt_not (wt_val (we_call GN hr gN FN.kp bN (wa_cons (we_ix (we_var 4 rfl (we_int ⟨[a, b], 1, b, .tup _, rfl, rfl, wa_cons (we_len ml (we_var 0 rfl ⟨_, .tup _, wa_nil ⟨b, _, rfl, pb, _, rfl, fun h4 => wb_one (ws_ret (we_bl (no ?_))), fun h4 => ?_⟩⟩))⟩)))))))
              · rw [List.length_map] at h4
                have h4 : numB (ks.length : Int) b = false := by cases e : numB (ks.length : Int) b with | false => rfl | true => rw [e] at h4; cases h4
                show accB ks.length ts (.tup [a, b]) = false
                rw [accB, h4, Bool.false_and, Bool.and_false]
              · rw [List.length_map] at h4
                have h4 : numB (ks.length : Int) b = true := by cases e : numB (ks.length : Int) b with | true => rfl | false => rw [e] at h4; cases h4
                have eb : accB ks.length ts (.tup [a, b]) = decide (toI b ∈ lotT ts (toI a)) := by rw [accB, h3, h4, Bool.true_and, Bool.true_and]
                obtain ⟨r, rfl, r0, r1⟩ := numB_int h3
                obtain ⟨z, rfl, z0, z1⟩ := numB_int h4
                obtain ⟨rn, rfl⟩ := Int.eq_ofNat_of_zero_le r0
                have hrn : rn < ts.length := by omega
                have le := lotT_at (List.getElem?_eq_getElem hrn)
                refine wb_nil (wb_one (ws_if (wt_cmp op_notIn_seq pu_nin (we_ix (we_var 4 rfl (we_int ⟨[.int rn, .int z], 1, .int z, .tup _, rfl, rfl, we_ix (we_ix (we_var 1 rfl (we_ix (we_var 4 rfl (we_int ⟨[.int rn, .int z], 0, .int rn, .tup _, rfl, rfl, _, _, _, .tup _, rfl, atI_nat (get_map (List.getElem?_eq_getElem hrn)), we_int ⟨_, _, _, .tup _, rfl, atI_nat (j := 1) rfl, _, .int _ _ (.tup _), _, rfl, fun h5 => wb_one (ws_ret (we_bl (no ?_))), fun h5 => wb_nil ⟨_, rfl, ?_⟩⟩⟩)))))⟩))))))
                · show accB ks.length ts (.tup [.int rn, .int z]) = false
                  rw [eb, show toI (.int z) = z from rfl, show toI (.int (rn : Int)) = (rn : Int) from rfl, le]
                  cases e : decide (z ∈ ts[rn].2) with
                  | false => rfl
                  | true => rw [e] at h5; cases h5
                · rw [all_take hx, ok, Bool.true_and]
                  show accB ks.length ts (.tup [.int rn, .int z]) = true
                  rw [eb, show toI (.int z) = z from rfl, show toI (.int (rn : Int)) = (rn : Int) from rfl, le]
                  cases e : decide (z ∈ ts[rn].2) with
                  | true => rfl
                  | false => rw [e] at h5; cases h5
            · rw [List.length_map] at h3
              have h3 : numB (ts.length : Int) a = false := by cases e : numB (ts.length : Int) a with | false => rfl | true => rw [e] at h3; cases h3
              show accB ks.length ts (.tup [a, b]) = false
              rw [accB, h3, Bool.false_and]
          · show accB ks.length ts (.tup m) = false
            match m, h2 with
            | [], _ => rfl
            | [_], _ => rfl
            | _ :: _ :: _ :: _, _ => rfl
            | [_, _], h2 => exact absurd h2 (by simp)
        · have h1 : c = false := by cases c with | false => rfl | true => cases h1
          show accB ks.length ts x = false
          cases x with
          | tup m => exact absurd rfl (c0 h1 m)
          | _ => rfl
      · refine wb_one (ws_if (wt_not (wt_val (we_call GN hr gN FN.kp bN (wa_cons (we_var 4 rfl (wa_cons (we_len ml (we_call GT hr gT FT.kp bT (wa_cons (we_var 0 rfl (wa_cons (we_var 1 rfl (wa_cons (we_var 2 rfl (wa_nil ⟨ks, ts, w, rfl, tk, _, .lst _, wa_nil ⟨x, _, rfl, px, _, rfl, fun h1 => wb_one (ws_ret (we_bl (no ?_))), fun h1 => wb_nil ⟨_, rfl, ?_⟩⟩⟩))))))))))))))))
        · have e : itB w ks.length ts x = numB ((((itemsF w ks.length ts).map (itE w)).length : Nat) : Int) x := by
            rw [List.length_map]
            cases w with
            | acc => exact absurd hw (by decide +kernel)
            | _ => rw [itemsF, List.length_map, numsN_len]; rfl
          rw [e]
          cases e2 : numB ((((itemsF w ks.length ts).map (itE w)).length : Nat) : Int) x with
          | false => rfl
          | true => rw [e2] at h1; cases h1
        · have e : itB w ks.length ts x = numB ((((itemsF w ks.length ts).map (itE w)).length : Nat) : Int) x := by
            rw [List.length_map]
            cases w with
            | acc => exact absurd hw (by decide +kernel)
            | _ => rw [itemsF, List.length_map, numsN_len]; rfl
          rw [all_take hx, ok, Bool.true_and, e]
          cases e2 : numB ((((itemsF w ks.length ts).map (itE w)).length : Nat) : Int) x with
          | true => rfl
          | false => rw [e2] at h1; cases h1
    · rintro Γ ⟨y4, rfl, ok⟩
      rw [List.take_of_length_le (Nat.le_refl _)] at ok
      rw [ok, Bool.true_and] at q
      have rest : ∀ bs : List Bool, ascW w l = bs.all id → bs.length = l.length - 1 → ((List.range (l.length - 1)).map fun i => D.bl (bs.getD i false)) = bs.map .bl := fun bs _ hb => by
        refine List.ext_getElem? fun i => ?_
        rw [List.getElem?_map, List.getElem?_map]
        by_cases h : i < bs.length
        · rw [List.getElem?_range (by omega), List.getElem?_eq_getElem h]
          show some (D.bl (bs.getD i false)) = some (D.bl bs[i])
          rw [List.getD_eq_getElem?_getD, List.getElem?_eq_getElem h]
          rfl
        · rw [List.getElem?_eq_none (by rw [List.length_range]; omega), List.getElem?_eq_none (by omega)]
          rfl
      obtain ⟨bs, eb, lb, tb⟩ : ∃ bs : List Bool, ascW w l = bs.all id ∧ bs.length = l.length - 1 ∧ ∀ j, j + 1 < l.length → ∃ a b, l[j]? = some a ∧ l[j + 1]? = some b ∧ ((∃ x y, a = .int x ∧ b = .int y ∧ bs.getD j false = decide (x < y)) ∨ ∃ x y, a = tI x ∧ b = tI y ∧ bs.getD j false = HT.lexLt x y) := by
        by_cases hw : w = .acc
        · subst hw
          have e2 : ∀ x ∈ l, x = tI (toL x) := fun x hx => by
            have a := List.all_eq_true.mp ok x hx
            change accB ks.length ts x = true at a
            match x, a with
            | .tup [x, y], a =>
              rw [accB, Bool.and_eq_true, Bool.and_eq_true] at a
              obtain ⟨i, rfl, _⟩ := numB_int a.1
              obtain ⟨j, rfl, _⟩ := numB_int a.2.1
              rfl
          refine ⟨_, ascT_all _, by rw [List.length_map, List.length_range, List.length_map], fun j hj => ⟨l[j], l[j + 1], List.getElem?_eq_getElem _, List.getElem?_eq_getElem hj, .inr ⟨_, _, e2 _ (List.getElem_mem _), e2 _ (List.getElem_mem _), ?_⟩⟩⟩
          rw [List.getD_eq_getElem?_getD, List.getElem?_map, List.getElem?_range (by rw [List.length_map]; omega)]
          show HT.lexLt ((l.map toL).getD j []) ((l.map toL).getD (j + 1) []) = _
          rw [List.getD_eq_getElem?_getD, List.getD_eq_getElem?_getD, List.getElem?_map, List.getElem?_map, List.getElem?_eq_getElem hj, List.getElem?_eq_getElem (show j < l.length by omega)]
          rfl
        · have e2 : ∀ x ∈ l, x = .int (toI x) := fun x hx => by
            have a := List.all_eq_true.mp ok x hx
            cases w with
            | acc => exact absurd rfl hw
            | kinds => obtain ⟨i, rfl, _⟩ := numB_int (show numB (ks.length : Int) x = true from a); rfl
            | types => obtain ⟨i, rfl, _⟩ := numB_int (show numB (ts.length : Int) x = true from a); rfl
          have ew : ascW w l = ascB (l.map toI) := by cases w <;> first | rfl | exact absurd rfl hw
          rw [ew]
          refine ⟨_, ascB_all _, by rw [List.length_map, List.length_range, List.length_map], fun j hj => ⟨l[j], l[j + 1], List.getElem?_eq_getElem _, List.getElem?_eq_getElem hj, .inl ⟨_, _, e2 _ (List.getElem_mem _), e2 _ (List.getElem_mem _), ?_⟩⟩⟩
          rw [List.getD_eq_getElem?_getD, List.getElem?_map, List.getElem?_range (by rw [List.length_map]; omega)]
          show decide ((l.map toI).getD j 0 < (l.map toI).getD (j + 1) 0) = _
          rw [List.getD_eq_getElem?_getD, List.getD_eq_getElem?_getD, List.getElem?_map, List.getElem?_map, List.getElem?_eq_getElem hj, List.getElem?_eq_getElem (show j < l.length by omega)]
          rfl
      rw [eb] at q
      refine wb_cons (ws_ret (we_all ma (we_new (wn_lc (own := [("at", 5)]) (g := gName 5) nd (blkOk_by (own := [("at", 5)]) (N := n__law_is_lot) (sc := defScope s__law_is_lot) (by decide +kernel)) (fun _ _ _ _ _ => pg_name (i := 5) nd rfl (Or.inl rfl))
        (lcm (fun i : Nat => D.int (0 + (i : Int))) (fun i => .bl (bs.getD i false)) (wi_rng1 mr (we_sub (we_len ml (we_var 3 rfl ⟨_, .tup _, we_int ⟨_, _, rfl, rfl, _, rfl, by omega, List.range (l.length - 1), ?_, rfl, trivial, by rw [List.length_range]; omega, fun j x hx => ⟨_, tg_name 5, rfl, fun _ _ _ _ _ => ?_⟩, bs, ?_, q⟩⟩)))))))))
      · rw [show (((l.length : Int)) - 1).toNat = l.length - 1 by omega]; rfl
      · obtain ⟨hj, rfl⟩ := rng_get hx
        obtain ⟨a, b, ha, hb, t⟩ := tb j (by omega)
        rcases t with ⟨x, y, rfl, rfl, e⟩ | ⟨x, y, rfl, rfl, e⟩
        · refine we_cmp op_lt (pu_B _) (we_ix (we_var 3 rfl (we_var 5 rfl ⟨_, _, _, .tup _, rfl, by rw [Int.zero_add]; exact atI_nat ha, we_ix (we_var 3 rfl (we_add (we_var 5 rfl (we_int ⟨_, _, rfl, rfl, _, _, _, .tup _, rfl, by rw [Int.zero_add, show ((j : Int) + 1) = ((j + 1 : Nat) : Int) by omega]; exact atI_nat hb, _, _, rfl, rfl, rfl, by rw [e]⟩))))⟩)))
        · refine we_cmp (op_ltT (Nat.lt_of_le_of_lt (Nat.le_add_right _ 65) (u65 hr))) pu_ltT (we_ix (we_var 3 rfl (we_var 5 rfl ⟨_, _, _, .tup _, rfl, by rw [Int.zero_add]; exact atI_nat ha, we_ix (we_var 3 rfl (we_add (we_var 5 rfl (we_int ⟨_, _, rfl, rfl, _, _, _, .tup _, rfl, by rw [Int.zero_add, show ((j : Int) + 1) = ((j + 1 : Nat) : Int) by omega]; exact atI_nat hb, _, _, rfl, rfl, rfl, by rw [e]⟩))))⟩)))
      · rw [rest bs eb lb]
        exact .lst _
end
end K65
set_option maxHeartbeats 4000000
namespace K65
open PySem PySem.Spec PyProof.Rows L2 Gd Pu
def dPickL : List Int → Int → List D → (D → List Int → Int → Prop) → Prop := fun _ _ ds Q => ∃ d its, ds = [d] ∧ Sq [] d its ∧ 0 < its.length ∧ its.length < 100000 ∧ ∀ (i : Nat) x L' st', its[i]? = some x → Q x L' st'
def dGre : List Int → Int → List D → (D → List Int → Int → Prop) → Prop := fun _ _ ds Q => ∃ ks ts w, ds = [tS ks, typesP ts, .str (wayS w)] ∧ Tk ks ts ∧ ts.length ≤ 9 ∧ ∀ its L' st', Lot w ks ts its → its.Nodup → its.length ≤ 100 → cr1 (struckF w its ts) ks.length ks.length = [] → Q (.tup (its.map (itE w))) L' st'
def GI (h l : Addr) (ks : List Str) (ts : List (Str × List Int)) (w : Way) (i : Nat) (Γ : List Ent) : Prop := ∃ (L : List Int) (st : Int) (a : Addr) (its : List (List Int)) (y6 y7 y8 y9 y10 : Ent), Γ = [.src h l L st, .v (tS ks), .v (typesP ts), .v (.str (wayS w)), .l a (its.map (itE w)), .v (.lst ((itemsF w ks.length ts).map (itE w))), y6, y7, y8, y9, y10] ∧
  its.Nodup ∧ (∀ l ∈ its, l ∈ itemsF w ks.length ts) ∧ (cr1 (struckF w its ts) ks.length ks.length = [] ∨ i ≤ its.length)
def ofWay {α : Type} (w : Way) (a b c : α) : α := match w with
  | .kinds => a
  | .types => b
  | .acc => c
theorem dict_way (w : Way) (a b c : D) : valD [((.inr "kinds" : Key), a), (.inr "types", b), (.inr "accepted", c)] (.inr (wayS w)) = some (ofWay w a b c) := by
  unfold valD
  have h1 : decide ((.inr "kinds" : Key) = .inr "kinds") = true := by decide +kernel
  have h2 : decide ((.inr "kinds" : Key) = .inr "types") = false := by decide +kernel
  have h3 : decide ((.inr "kinds" : Key) = .inr "accepted") = false := by decide +kernel
  have h4 : decide ((.inr "types" : Key) = .inr "types") = true := by decide +kernel
  have h5 : decide ((.inr "types" : Key) = .inr "accepted") = false := by decide +kernel
  have h6 : decide ((.inr "accepted" : Key) = .inr "accepted") = true := by decide +kernel
  cases w with
  | kinds => rw [List.find?_cons, show decide ((.inr "kinds" : Key) = .inr (wayS .kinds)) = true from h1]; rfl
  | types => rw [List.find?_cons, show decide ((.inr "kinds" : Key) = .inr (wayS .types)) = false from h2, List.find?_cons, show decide ((.inr "types" : Key) = .inr (wayS .types)) = true from h4]; rfl
  | acc => rw [List.find?_cons, show decide ((.inr "kinds" : Key) = .inr (wayS .acc)) = false from h3, List.find?_cons, show decide ((.inr "types" : Key) = .inr (wayS .acc)) = false from h5, List.find?_cons, show decide ((.inr "accepted" : Key) = .inr (wayS .acc)) = true from h6]; rfl
section
variable {P : Program} {w : World} {K : PySem.W.Frag} {mg : Str → Option Value} {base : Heap}
theorem od_pickL {f fD : Addr} {fd fdD : FuncData} {k : Nat} (F : Fun K "_law_pick" "_law_pick" s__law_pick f fd) (FD : Fun K "_law_draw" "_law_draw" s__law_draw fD fdD) (bD : Binds K fdD ["heap", "many"] []) (gD : mg "_law_draw" = some (.ref fD))
    (GD : FnG P w K mg base k fD fdD ["heap", "many"] (spS K dDraw)) (ml : mg "len" = none) : FnG P w K mg base (k + 1) f fd ["heap", "some"] (spS K dPickL) := by
  refine okS F sc__law_pick (fun L st ds Q h => ?_) fun cdv A out s H E hr h l L n ds Qp hs _ _ _ => ?_
  · obtain ⟨d, its, rfl, _⟩ := h
    rfl
  · obtain ⟨d, its, rfl, sq, l0, l1, q⟩ := hs
    have sq2 : ∀ Γ, Sq Γ d its := fun Γ => by
      cases sq with
      | tup => exact .tup _
      | lst => exact .lst _
      | scr => exact .scr _
      | own h => simp at h
    refine wb_cons (ws_ret (we_ix (we_var 1 rfl (we_callS 0 GD hr gD FD.kp bD (wa_cons (we_src 0 rfl (wa_cons (we_len ml (we_var 1 rfl ⟨its, sq2 _, wa_nil ?_⟩)))))))))
    refine ⟨h, l, L, n, _, rfl, rfl, _, rfl, by omega, by omega, fun r L' st' r0 r1 => ?_⟩
    obtain ⟨j, rfl⟩ := Int.eq_ofNat_of_zero_le r0
    have hj : j < its.length := by omega
    exact ⟨its, j, its[j], sq2 _, rfl, atI_nat (List.getElem?_eq_getElem hj), L', st', rfl, q j _ L' st' (List.getElem?_eq_getElem hj)⟩
theorem od_greedy {f fC fS fI fP : Addr} {fd fdC fdS fdI fdP : FuncData} {k : Nat} (F : Fun K "_law_greedy" "_law_greedy" s__law_greedy f fd)
    (FC : Fun K "_law_crossings" "_law_crossings" s__law_crossings fC fdC) (bC : Binds K fdC ["kinds", "types"] []) (gC : mg "_law_crossings" = some (.ref fC)) (GC : FnG P w K mg base k fC fdC ["kinds", "types"] (spD K dLCr))
    (FS : Fun K "_law_struck" "_law_struck" s__law_struck fS fdS) (bS : Binds K fdS ["types", "way", "items"] []) (gS : mg "_law_struck" = some (.ref fS)) (GS : FnG P w K mg base k fS fdS ["types", "way", "items"] (spO K 2 fun ls ds Q => ∃ ks ts w its a, ds = [typesP ts, .str (wayS w), .adr a] ∧ ls = its.map (itE w) ∧ Tk ks ts ∧ Its w its ∧ Q (typesP (struckF w its ts))))
    (FI : Fun K "_law_items" "_law_items" s__law_items fI fdI) (bI : Binds K fdI ["kinds", "types", "way"] []) (gI : mg "_law_items" = some (.ref fI)) (GI' : FnG P w K mg base k fI fdI ["kinds", "types", "way"] (spD K dLIt))
    (FP : Fun K "_law_pick" "_law_pick" s__law_pick fP fdP) (bP : Binds K fdP ["heap", "some"] []) (gP : mg "_law_pick" = some (.ref fP)) (GP : FnG P w K mg base k fP fdP ["heap", "some"] (spS K dPickL))
    (ml : mg "len" = none) (mr : mg "range" = none) (mL : mg "list" = none) (mt : mg "tuple" = none) (mso : mg "sorted" = none) : FnG P w K mg base (k + 1) f fd ["heap", "kinds", "types", "way"] (spS K dGre) := by
  refine okS F sc__law_greedy (fun L st ds Q h => ?_) fun cdv A out s H E hr h l L n ds Qp hs _ _ _ => ?_
  · obtain ⟨ks, ts, w, rfl, _⟩ := h
    rfl
  · obtain ⟨ks, ts, w, rfl, tk, t9, q⟩ := hs
    have nd := sc__law_greedy.nd
    have k8 := tk.k8
    have lo := tk.po.lo
    have il := itemsF_len tk w
    refine wb_cons (ws_par2 4 5 nd (wxs_cons (wx_l (wn_lst (wa_nil ⟨lk, wxs_cons (wx_v (we_call GI' hr gI FI.kp bI (wa_cons (we_var 1 rfl (wa_cons (we_var 2 rfl (wa_cons (we_var 3 rfl (wa_nil ⟨ks, ts, w, rfl, tk, wxs_nil ⟨_, _, rfl, fun a v => ?_⟩⟩)))))))))⟩)))))
    refine wb_cut (GI h l ks ts w (itemsF w ks.length ts).length) ?_ ?_
    · refine ws_for [6] (pg_name (i := 6) nd rfl (.inl rfl)) (wi_rng1 mr (we_len ml (we_var 5 rfl ⟨_, .lst _, _, rfl, by rw [List.length_map]; omega, GI h l ks ts w, ⟨L, n, a, [], _, _, _, _, _, rfl, .nil, nofun, .inr (Nat.zero_le _)⟩, fun _ _ _ _ => trivial, ?_, by rw [rngD_len, List.length_map]; exact fun Γ q => q⟩)))
      rintro i d Γ hd ⟨L, st, a, its, y6, y7, y8, y9, y10, rfl, ndi, sub, inv⟩
      obtain ⟨hi, rfl⟩ := rngD_get hd
      have li := nodup_le ndi sub
      have io : Its w its := .of k8 tk.t12 lo sub (by omega)
      have tks := tk.struck w its
      have cl := cr1_len (ts := struckF w its ts) (n := ks.length) (i := ks.length) (by rw [struckF_len]; exact t9) k8
      refine ⟨_, tg_name 6, wb_cons (ws_set 7 nd (we_call GC hr gC FC.kp bC (wa_cons (we_var 1 rfl (wa_cons (we_callO 4 2 GS hr gS FS.kp bS (wa_cons (we_var 2 rfl (wa_cons (we_var 3 rfl (wa_cons (we_own 4 rfl (wa_nil ⟨a, its.map (itE w), rfl, rfl, ks, ts, w, its, a, rfl, rfl, tk, io, wa_nil ⟨ks, _, rfl, k8, by rw [struckF_len]; exact t9, ?_⟩⟩)))))))))))))⟩
      refine wb_one (ws_if (wt_cmp (op_neD hr.rm.units) pu_neV (we_var 7 rfl (we_new (wn_lst (wa_nil ⟨lk, _, _, .same _, .same _, sh_crs fun c hc => cr1_bd k8 (by rw [struckF_len]; exact tk.t12) hc, sh_nil, _, rfl, fun hb => ?_, fun hb => wb_nil ?_⟩))))))
      · rw [eqv_nilL, List.isEmpty_map] at hb
        have pos : 0 < ((cr1 (struckF w its ts) ks.length ks.length).map crE).length := by
          rw [List.length_map]
          cases e : cr1 (struckF w its ts) ks.length ks.length with
          | nil => rw [e] at hb; cases hb
          | cons x r => exact Nat.succ_pos _
        have ni : i ≤ its.length := by
          rcases inv with z | z
          · rw [z] at hb; cases hb
          · exact z
        refine wb_cons (ws_un [8, 9] (pg_tup rfl (pgs_cons (pg_name (i := 8) nd rfl (.inl rfl)) (pgs_cons (pg_name (i := 9) nd rfl (.inl rfl)) pgs_nil))) (we_callS 0 GP hr gP FP.kp bP (wa_cons (we_src 0 rfl (wa_cons (we_var 7 rfl (wa_nil ⟨h, l, L, st, _, rfl, rfl, _, _, rfl, .lst _, pos, by rw [List.length_map]; omega, fun jj x L2 st2 hx => ?_⟩)))))))
        obtain ⟨c, hc, rfl⟩ := map_get hx
        have mc := List.mem_of_getElem? hc
        obtain ⟨ii, jj, r, m, y, h1, h2, hr1, hm, hy, ec⟩ := mem_cr1.mp mc
        subst ec
        refine ⟨_, tg_two 8 9, ?_⟩
        refine wb_cons (ws_set 10 nd (we_dict3 (we_new (wn_list mL (we_var 8 rfl ⟨_, .tup _, we_new (wn_list mL (we_var 9 rfl ⟨_, .tup _, we_new (wn_lst (wa_cons (we_tup (wa_cons (we_ix (we_var 9 rfl (we_int ⟨_, _, .int r, .tup _, rfl, rfl, wa_cons (we_ix (we_var 8 rfl (we_int ⟨_, _, .int ii, .tup _, rfl, rfl, wa_nil ⟨lk, wa_cons (we_tup (wa_cons (we_ix (we_var 9 rfl (we_int ⟨_, _, .int r, .tup _, rfl, rfl, wa_cons (we_ix (we_var 8 rfl (we_int ⟨_, _, .int jj, .tup _, rfl, rfl, wa_nil ⟨lk, wa_cons (we_tup (wa_cons (we_ix (we_var 9 rfl (we_int ⟨_, _, .int m, .tup _, rfl, rfl, wa_cons (we_ix (we_var 8 rfl (we_int ⟨_, _, .int ii, .tup _, rfl, rfl, wa_nil ⟨lk, wa_cons (we_tup (wa_cons (we_ix (we_var 9 rfl (we_int ⟨_, _, .int y, .tup _, rfl, rfl, wa_cons (we_ix (we_var 8 rfl (we_int ⟨_, _, .int jj, .tup _, rfl, rfl, wa_nil ⟨lk, wa_nil ⟨lk, ?_⟩⟩⟩)))⟩)))))⟩⟩)))⟩)))))⟩⟩)))⟩)))))⟩⟩)))⟩)))))))⟩))⟩)))))
        have pl : ∀ w', 0 < ((pksW w' [(ii : Int), (jj : Int), r, m, y]).map (itE w')).length ∧ ((pksW w' [(ii : Int), (jj : Int), r, m, y]).map (itE w')).length < 100000 := fun w' => by rw [List.length_map]; cases w' <;> simp [pksW]
        refine wb_one (ws_append 4 (we_callS 0 GP hr gP FP.kp bP (wa_cons (we_src 0 rfl (wa_cons (we_dget (Nat.lt_of_le_of_lt (Nat.add_le_add_left (show 1 ≤ 65 by decide) _) (u65 hr)) (we_var 10 rfl (we_var 3 rfl ⟨_, wayS w, _, rfl, rfl, dict_way w _ _ _, wa_nil ⟨h, l, L2, st2, _, rfl, rfl, _, (pksW w [(ii : Int), (jj : Int), r, m, y]).map (itE w), rfl, by cases w <;> exact .lst _, (pl w).1, (pl w).2, fun j3 x3 L3 st3 hx3 => ?_⟩⟩)) (fun _ _ => rfl)))))))
        obtain ⟨it, hit, rfl⟩ := map_get hx3
        obtain ⟨n1, n2⟩ := pks_new (kk := ks.length) lo mc (List.mem_of_getElem? hit)
        refine ⟨a, its.map (itE w), rfl, by rw [List.length_map]; omega, L3, st3, a, its ++ [it], .v (.int (0 + (i : Int))), _, _, _, _, by rw [List.map_append]; rfl, ?_, ?_, .inr (by rw [List.length_append]; show i + 1 ≤ its.length + 1; omega)⟩
        · refine List.nodup_append.mpr ⟨ndi, List.nodup_cons.mpr ⟨nofun, .nil⟩, fun x hx z hz e => ?_⟩
          rw [List.mem_singleton] at hz
          exact n1 (hz ▸ e ▸ hx)
        · intro z hz
          rcases List.mem_append.mp hz with hz | hz
          · exact sub z hz
          · rw [List.mem_singleton] at hz
            exact hz ▸ n2
      · rw [eqv_nilL, List.isEmpty_map] at hb
        have e : cr1 (struckF w its ts) ks.length ks.length = [] := by
          cases e : cr1 (struckF w its ts) ks.length ks.length with
          | nil => rfl
          | cons x r => rw [e] at hb; cases hb
        exact ⟨L, st, a, its, .v (.int (0 + (i : Int))), _, y8, y9, y10, rfl, ndi, sub, .inl e⟩
    · rintro Γ ⟨L, st, a, its, y6, y7, y8, y9, y10, rfl, ndi, sub, inv⟩
      have li := nodup_le ndi sub
      have e : cr1 (struckF w its ts) ks.length ks.length = [] := by
        rcases inv with z | z
        · exact z
        · exact all_struck lo (nodup_all ndi sub z)
      by_cases hw : w = .acc
      · subst hw
        have bk := pairs_back sub
        refine wb_cons (ws_ret (we_tuple mt (we_new (wn_sortedP mso (we_own 4 rfl ⟨its.map fun l => (l.getD 0 0, l.getD 1 0), ?_, fun qs hp hs => ⟨_, .lst _, L, st, rfl, ?_⟩⟩)))))
        · have : its.map (itE .acc) = (its.map fun l => (l.getD 0 0, l.getD 1 0)).map Pu.prD := by
            conv => lhs; rw [bk]
            rw [List.map_map]
            rfl
          rw [← this]
          exact .own (i := 4) rfl
        · have nq : qs.Nodup := hp.nodup_iff.mpr (by
            have z := ndi
            rw [bk] at z
            exact (List.pairwise_map.mp z).imp fun h e => h (by rw [e]))
          have mq : ∀ l, l ∈ qs.map (fun p => [p.1, p.2]) ↔ l ∈ its := fun l => by
            rw [(hp.map _).mem_iff, ← bk]
          have ql : qs.length ≤ 100 := by rw [hp.length_eq, List.length_map]; omega
          have z := q (qs.map fun p => [p.1, p.2]) L st (lot_pairs (fun p hp => sub _ ((mq _).mp (List.mem_map.mpr ⟨p, hp, rfl⟩))) (ascT_pairs hs nq) (by omega)) (List.pairwise_map.mpr (nq.imp fun {u v} ne e => ne (by injection e with e1 e2; injection e2 with e2 _; exact Prod.ext e1 e2))) (by rw [List.length_map]; exact ql) (by rw [struck_congr mq]; exact e)
          rw [List.map_map] at z
          exact z
      · have bk := ints_back hw sub
        refine wb_cons (ws_ret (we_tuple mt (we_new (wn_sortedI mso (we_own 4 rfl ⟨its.map fun l => l.getD 0 0, ?_, fun ms hp hs => ⟨_, .lst _, L, st, rfl, ?_⟩⟩)))))
        · have : its.map (itE w) = (its.map fun l => l.getD 0 0).map .int := by
            conv => lhs; rw [bk]
            exact itE_ints hw _
          rw [← this]
          exact .own (i := 4) rfl
        · have nq : ms.Nodup := hp.nodup_iff.mpr (by
            have z := ndi
            rw [bk] at z
            exact (List.pairwise_map.mp z).imp fun h e => h (by rw [e]))
          have mq : ∀ l, l ∈ ms.map ([·]) ↔ l ∈ its := fun l => by
            rw [(hp.map _).mem_iff, ← bk]
          have ql : ms.length ≤ 100 := by rw [hp.length_eq, List.length_map]; omega
          have z := q (ms.map ([·])) L st (lot_ints hw (fun p hp => sub _ ((mq _).mp (List.mem_map.mpr ⟨p, hp, rfl⟩))) (asc_of_sorted hs nq) (by omega)) (List.pairwise_map.mpr (nq.imp fun {u v} ne e => ne (by injection e))) (by rw [List.length_map]; exact ql) (by rw [struck_congr mq]; exact e)
          rw [itE_ints hw] at z
          exact z
end
end K65
set_option maxHeartbeats 4000000
namespace K65
open PySem PySem.Spec PyProof.Rows L2 Gd Pu
def dOdd : List Int → Int → List D → (D → List Int → Int → Prop) → Prop := fun _ _ ds Q => ∃ ks ts w its, ds = [.tup (its.map (itE w)), .lst ((itemsF w ks.length ts).map (itE w))] ∧ Tk ks ts ∧ ts.length ≤ 9 ∧ Lot w ks ts its ∧ its.length ≤ 100 ∧ ∀ d L' st', OddOk d → Q d L' st'
theorem sh_itsL {w : Way} {its : List (List Int)} (io : Its w its) : Sh (.lst (its.map (itE w))) := by
  by_cases hw : w = .acc
  · subst hw
    exact sh_tIsL io.b
  · obtain ⟨e, m⟩ := io.ints hw
    rw [e]
    have z := sh_tI (l := its.map fun l => l.getD 0 0) fun x hx => io.b [x] ((m x).mp hx) x List.mem_cons_self
    refine ⟨?_, ?_, ?_⟩
    · have := z.p; rw [isP] at this; rw [isP]; exact this
    · have := z.f; rw [py, fine] at this; rw [py, fine]; exact this
    · have := z.dp; rw [py, PyData.depth] at this; rw [py, PyData.depth]; exact this
theorem items_acc_len {ks : List Str} {ts : List (Str × List Int)} (tk : Tk ks ts) (t9 : ts.length ≤ 9) : (itemsF .acc ks.length ts).length ≤ 72 := by
  have := accF_len tk.po.lo ts.length
  have : ts.length * ks.length ≤ 9 * 8 := Nat.mul_le_mul t9 tk.k8
  show (accF ts ts.length).length ≤ 72
  omega
section
variable {P : Program} {w : World} {K : PySem.W.Frag} {mg : Str → Option Value} {base : Heap}
theorem od_odd {f fP : Addr} {fd fdP : FuncData} {k : Nat} (F : Fun K "_law_odd" "_law_odd" s__law_odd f fd) (FP : Fun K "_law_pick" "_law_pick" s__law_pick fP fdP) (bP : Binds K fdP ["heap", "some"] []) (gP : mg "_law_pick" = some (.ref fP)) (GP : FnG P w K mg base k fP fdP ["heap", "some"] (spS K dPickL))
    (mL : mg "list" = none) (mt : mg "tuple" = none) (mso : mg "sorted" = none) (mse : mg "set" = none) (SP : ∀ X : Cx, X.prog = P → X.w = w → X.K = K → X.mg = mg → RmG k X.A → SsetP X) : FnG P w K mg base (k + 1) f fd ["heap", "lot", "items"] (spS K dOdd) := by
  refine okS F sc__law_odd (fun L st ds Q h => ?_) fun cdv A out s H E hr h l L n ds Qp hs _ _ _ => ?_
  · obtain ⟨ks, ts, w, its, rfl, _⟩ := h
    rfl
  · obtain ⟨ks, ts, w, its, rfl, tk, t9, lot, l100, q⟩ := hs
    have nd := sc__law_odd.nd
    have il := itemsF_len tk w
    have pi := plain_its w its
    have l7 : (its.map (itE w)).length ≤ 100 := by rw [List.length_map]; exact l100
    have cutl : ∀ lo hi, (Pu.cut (its.map (itE w)) lo hi).length ≤ 100 := fun lo hi => by
      unfold Pu.cut
      rw [List.length_take, List.length_drop]
      omega
    have fin : ∀ (L2 : List Int) (st2 : Int) (l2 : List D), (∀ d ∈ l2, OddOk d) → 0 < l2.length → l2.length < 100000 → WB (cxOf CX0 P _ K mg base n__law_odd "_law_odd" (defScope s__law_odd) f cdv A out s H E).nox ((defBody s__law_odd).drop 2) [.src h l L2 st2, .v (.tup (its.map (itE w))), .v (.lst ((itemsF w ks.length ts).map (itE w))), .v (.lst l2)] ⟨fun Γ' => ∃ L' n', Γ'[0]? = some (.src h l L' n') ∧ Qp .non L' n', fun d Γ' => ∃ L' n', Γ'[0]? = some (.src h l L' n') ∧ Qp d L' n', fun _ => False, fun _ => False⟩ := fun L2 st2 l2 ok p1 p2 => by
      refine wb_one (ws_ret (we_callS 0 GP hr gP FP.kp bP (wa_cons (we_src 0 rfl (wa_cons (we_var 3 rfl (wa_nil ⟨h, l, L2, st2, _, rfl, rfl, _, _, rfl, .lst _, p1, p2, fun j x L3 st3 hx => ⟨L3, st3, rfl, q x L3 st3 (ok x (List.mem_of_getElem? hx))⟩⟩)))))))
    have ok0 := odd0_ok pi l7
    refine wb_cons (ws_set 3 nd (we_new (wn_lst ?_)))
    refine wa_cons (we_new (wn_list mL (we_var 1 rfl ⟨_, .tup _, ?_⟩)))
    refine wa_cons (we_revT (we_var 1 rfl ⟨_, rfl, ?_⟩))
    refine wa_cons (we_addT (we_var 1 rfl (we_slT (we_var 1 rfl (wo_none (wo_some (we_int ⟨_, rfl, _, rfl, _, _, rfl, rfl, by have := cutl none (some 1); omega, ?_⟩)))))))
    refine wa_cons ?_
    refine Pu.we_non ?_
    refine wa_cons ?_
    refine we_int ?_
    refine wa_cons ?_
    refine we_tup ?_
    refine wa_cons ?_
    refine Pu.we_non ?_
    refine wa_nil ⟨lk, ?_⟩
    refine wa_cons (we_tup (wa_cons (we_tup (wa_cons (we_int (wa_cons (we_int (wa_nil ⟨lk, wa_nil ⟨lk, ?_⟩⟩))))))))
    refine wa_cons (we_tup (wa_cons (we_int (wa_nil ⟨lk, ?_⟩))))
    refine wa_cons (we_tup (wa_cons (we_sub (we_int (we_int ⟨_, _, rfl, rfl, wa_nil ⟨lk, ?_⟩⟩)))))
    refine wa_cons (we_tup (wa_cons (we_bl (wa_nil ⟨lk, ?_⟩))))
    refine wa_cons (we_tup (wa_cons (we_tup (wa_cons (we_int (wa_nil ⟨lk, wa_nil ⟨lk, ?_⟩⟩))))))
    refine wa_cons (we_slT (we_var 1 rfl (wo_some (we_int ⟨_, rfl, wo_none ⟨_, rfl, ?_⟩⟩))))
    refine wa_cons (we_tup (wa_cons (we_str (wa_nil ⟨lk, ?_⟩))))
    refine wa_cons (we_tup (wa_cons (we_tup (wa_cons (we_bl (wa_cons (we_int (wa_nil ⟨lk, wa_nil ⟨lk, ?_⟩⟩))))))))
    refine wa_cons (we_dict0 (wa_nil ⟨lk, ?_⟩))
    show WB _ _ [_, _, _, .v (.lst (odd0 (its.map (itE w))))] _
    have z15 : (odd0 (its.map (itE w))).length = 15 := rfl
    generalize odd0 (its.map (itE w)) = L0 at ok0 z15 ⊢
    have pos : (itemsF w ks.length ts).isEmpty = false → 0 < ((itemsF w ks.length ts).map (itE w)).length := fun hb => by
      rw [List.length_map]
      cases e : itemsF w ks.length ts with
      | nil => rw [e] at hb; cases hb
      | cons x r => exact Nat.succ_pos _
    have lti : ((itemsF w ks.length ts).map (itE w)).length < 100000 := by rw [List.length_map]; omega
    refine wb_cons (ws_if (wt_cmp (op_neD hr.rm.units) pu_neV (we_var 2 rfl (we_new (wn_lst (wa_nil ⟨lk, _, _, .same _, .same _, sh_itsL (its_items tk w), sh_nil, _, rfl, fun hb => ?_, fun hb => wb_nil (fin L n L0 ok0 (by omega) (by omega))⟩))))))
    rw [eqv_nilL, List.isEmpty_map] at hb
    have pos := pos (by cases e : (itemsF w ks.length ts).isEmpty with | false => rfl | true => rw [e] at hb; cases hb)
    have done : ∀ (L3 : List Int) (st3 : Int) (dA dB : D), OddOk dA → OddOk dB → WB (cxOf CX0 P _ K mg base n__law_odd "_law_odd" (defScope s__law_odd) f cdv A out s H E).nox ((defBody s__law_odd).drop 2) [.src h l L3 st3, .v (.tup (its.map (itE w))), .v (.lst ((itemsF w ks.length ts).map (itE w))), .v (.lst (L0 ++ (List.replicate (2 : Int).toNat [dA, dB]).flatten))] ⟨fun Γ' => ∃ L' n', Γ'[0]? = some (.src h l L' n') ∧ Qp .non L' n', fun d Γ' => ∃ L' n', Γ'[0]? = some (.src h l L' n') ∧ Qp d L' n', fun _ => False, fun _ => False⟩ := fun L3 st3 A' B' hA hB => by
      refine fin L3 st3 _ (fun d hd => ?_) (by rw [List.length_append]; omega) (by rw [List.length_append, z15]; show 15 + 4 < 100000; decide)
      rcases List.mem_append.mp hd with hd | hd
      · exact ok0 d hd
      · change d ∈ [A', B', A', B'] at hd
        simp only [List.mem_cons, List.not_mem_nil, or_false] at hd
        rcases hd with e | e | e | e <;> rw [e] <;> assumption
    refine wb_one (ws_set 3 nd ?_)
    refine we_new (wn_addL (we_var 3 rfl ?_))
    refine we_new (wn_rep ?_)
    refine we_new (wn_lst ?_)
    by_cases hw : w = .acc
    · subst hw
      have bk := pairs_back lot.mem
      have e1 : its.map (itE .acc) = (its.map fun l => (l.getD 0 0, l.getD 1 0)).map Pu.prD := by
        conv => lhs; rw [bk]
        rw [List.map_map]
        rfl
      have e2 : ∀ it ∈ itemsF .acc ks.length ts, itE .acc it = Pu.prD (it.getD 0 0, it.getD 1 0) := fun it m => by
        obtain ⟨i, k, _, _, rfl⟩ := mem_accF.mp m
        rfl
      have bd : ∀ l ∈ itemsF .acc ks.length ts, 0 ≤ l.getD 0 0 ∧ l.getD 0 0 < 100 ∧ 0 ≤ l.getD 1 0 ∧ l.getD 1 0 < 100 := fun l hl => by
        obtain ⟨i, k, hi, hk, rfl⟩ := mem_accF.mp hl
        have t12 := tk.t12
        have k8 := tk.k8
        have := (lotT_in tk.po.lo i).2 k hk
        show 0 ≤ (i : Int) ∧ (i : Int) < 100 ∧ 0 ≤ k ∧ k < 100
        omega
      have pt : ∀ ms : List (Int × Int), plainA (ms.map Pu.prD) = true := fun ms => plainA_of fun d hd => by
        obtain ⟨x, _, rfl⟩ := List.mem_map.mp hd
        simp [Pu.prD, tI, Pu.plain, plainA]
      refine wa_cons ?_
      refine we_tuple mt (we_new (wn_sortedP mso (we_new (wn_addL (we_new (wn_list mL (we_var 1 rfl ⟨_, .tup _, ?_⟩)))))))
      refine we_new (wn_lst (wa_cons (we_callS 0 GP hr gP FP.kp bP (wa_cons (we_src 0 rfl (wa_cons (we_var 2 rfl (wa_nil ⟨h, l, L, n, _, rfl, rfl, _, _, rfl, .lst _, pos, lti, fun j x L2 st2 hx => wa_nil ⟨lk, _, _, .lst _, .lst _, by rw [List.length_map]; show its.length + 1 ≤ 100000; omega, ?_⟩⟩))))))))
      obtain ⟨it, hit, rfl⟩ := map_get hx
      have mi := List.mem_of_getElem? hit
      refine ⟨(its.map fun l => (l.getD 0 0, l.getD 1 0)) ++ [(it.getD 0 0, it.getD 1 0)], by rw [e1, e2 it mi, List.map_append]; exact .lst _, fun ms hp hs => ⟨_, .lst _, ?_⟩⟩
      have ml : ms.length ≤ 101 := by rw [hp.length_eq, List.length_append, List.length_map]; show its.length + 1 ≤ 101; omega
      refine wa_cons ?_
      refine we_tuple mt (we_new (SP _ rfl rfl rfl rfl hr _ _ _ _ _ _ _ mso mse rfl rfl rfl rfl rfl rfl rfl (we_new (wn_addL (we_new (wn_list mL (we_var 1 rfl ⟨_, .tup _, ?_⟩)))))))
      refine we_new (wn_lst (wa_cons (we_callS 0 GP hr gP FP.kp bP (wa_cons (we_src 0 rfl (wa_cons (we_var 2 rfl (wa_nil ⟨h, l, L2, st2, _, rfl, rfl, _, _, rfl, .lst _, pos, lti, fun j2 x2 L3 st3 hx2 => wa_nil ⟨lk, _, _, .lst _, .lst _, by rw [List.length_map]; show its.length + 1 ≤ 100000; omega, ?_⟩⟩))))))))
      obtain ⟨it2, hit2, rfl⟩ := map_get hx2
      have mi2 := List.mem_of_getElem? hit2
      have sub : ∀ q ∈ (its.map fun l => (l.getD 0 0, l.getD 1 0)) ++ [(it2.getD 0 0, it2.getD 1 0)], ∃ l ∈ itemsF .acc ks.length ts, q = (l.getD 0 0, l.getD 1 0) := fun q hq => by
        rcases List.mem_append.mp hq with hq | hq
        · obtain ⟨l, hl, rfl⟩ := List.mem_map.mp hq
          exact ⟨l, lot.mem l hl, rfl⟩
        · rw [List.mem_singleton] at hq
          exact ⟨it2, mi2, hq⟩
      have u72 := items_acc_len tk t9
      refine ⟨(its.map fun l => (l.getD 0 0, l.getD 1 0)) ++ [(it2.getD 0 0, it2.getD 1 0)], (itemsF .acc ks.length ts).map fun l => (l.getD 0 0, l.getD 1 0), by rw [e1, e2 it2 mi2, List.map_append]; exact .lst _, by rw [List.length_append, List.length_map]; show its.length + 1 ≤ 1000; omega, by rw [List.length_map]; omega, fun q hq => by obtain ⟨l, hl, rfl⟩ := sub q hq; exact List.mem_map.mpr ⟨l, hl, rfl⟩, fun q hq => by obtain ⟨l, hl, rfl⟩ := sub q hq; exact bd l hl, fun ns hn hs2 hm => ⟨_, .lst _, ?_⟩⟩
      have nl : ns.length ≤ 72 := by
        have := nodup_leG (m := (itemsF .acc ks.length ts).map fun l => (l.getD 0 0, l.getD 1 0)) hn fun q hq => by
          obtain ⟨l, hl, rfl⟩ := sub q ((hm q).mp hq)
          exact List.mem_map.mpr ⟨l, hl, rfl⟩
        rw [List.length_map] at this
        omega
      refine wa_nil ⟨lk, we_int ⟨_, 2, .lst _, rfl, by decide, by decide, lk, _, _, .lst _, .lst _, by rw [z15]; show 15 + 4 ≤ 100000; decide, ?_⟩⟩
      exact done L3 st3 _ _ (odd_tup (pt ms) (by rw [List.length_map]; omega)) (odd_tup (pt ns) (by rw [List.length_map]; omega))
    · have bk := ints_back hw lot.mem
      have e1 : its.map (itE w) = (its.map fun l => l.getD 0 0).map .int := by
        conv => lhs; rw [bk]
        exact itE_ints hw _
      have e2 : ∀ it, itE w it = .int (it.getD 0 0) := fun it => by cases w <;> first | rfl | exact absurd rfl hw
      have bd : ∀ l ∈ itemsF w ks.length ts, 0 ≤ l.getD 0 0 ∧ l.getD 0 0 < 12 := fun l hl => by
        have t12 := tk.t12
        have k8 := tk.k8
        cases w with
        | acc => exact absurd rfl hw
        | kinds => obtain ⟨x, hx, rfl⟩ := List.mem_map.mp hl; have := mem_numsN.mp hx; show 0 ≤ x ∧ x < 12; omega
        | types => obtain ⟨x, hx, rfl⟩ := List.mem_map.mp hl; have := mem_numsN.mp hx; show 0 ≤ x ∧ x < 12; omega
      have l12 : its.length ≤ 12 := by
        have a := lot.asc
        have e3 : ((its.map fun l => l.getD 0 0).map D.int).map toI = its.map fun l => l.getD 0 0 := by rw [List.map_map]; exact List.map_id _
        have a2 : ascB (its.map fun l => l.getD 0 0) = true := by
          rw [← e3, ← e1]
          cases w with
          | acc => exact absurd rfl hw
          | _ => exact a
        have := asc_len (k := 12) (ascB_iff.mp a2) fun x hx => by
          obtain ⟨l, hl, rfl⟩ := List.mem_map.mp hx
          exact bd l (lot.mem l hl)
        rw [List.length_map] at this
        exact this
      refine wa_cons ?_
      refine we_tuple mt (we_new (wn_sortedI mso (we_new (wn_addL (we_new (wn_list mL (we_var 1 rfl ⟨_, .tup _, ?_⟩)))))))
      refine we_new (wn_lst (wa_cons (we_callS 0 GP hr gP FP.kp bP (wa_cons (we_src 0 rfl (wa_cons (we_var 2 rfl (wa_nil ⟨h, l, L, n, _, rfl, rfl, _, _, rfl, .lst _, pos, lti, fun j x L2 st2 hx => wa_nil ⟨lk, _, _, .lst _, .lst _, by rw [List.length_map]; show its.length + 1 ≤ 100000; omega, ?_⟩⟩))))))))
      obtain ⟨it, hit, rfl⟩ := map_get hx
      have mi := List.mem_of_getElem? hit
      refine ⟨(its.map fun l => l.getD 0 0) ++ [it.getD 0 0], by rw [e1, e2, List.map_append]; exact .lst _, fun ms hp hs => ⟨_, .lst _, ?_⟩⟩
      have ml : ms.length ≤ 13 := by rw [hp.length_eq, List.length_append, List.length_map]; show its.length + 1 ≤ 13; omega
      refine wa_cons ?_
      refine we_tuple mt (we_new (wn_sset mso mse (we_new (wn_addL (we_new (wn_list mL (we_var 1 rfl ⟨_, .tup _, ?_⟩)))))))
      refine we_new (wn_lst (wa_cons (we_callS 0 GP hr gP FP.kp bP (wa_cons (we_src 0 rfl (wa_cons (we_var 2 rfl (wa_nil ⟨h, l, L2, st2, _, rfl, rfl, _, _, rfl, .lst _, pos, lti, fun j2 x2 L3 st3 hx2 => wa_nil ⟨lk, _, _, .lst _, .lst _, by rw [List.length_map]; show its.length + 1 ≤ 100000; omega, ?_⟩⟩))))))))
      obtain ⟨it2, hit2, rfl⟩ := map_get hx2
      have mi2 := List.mem_of_getElem? hit2
      refine ⟨(its.map fun l => l.getD 0 0) ++ [it2.getD 0 0], by rw [e1, e2, List.map_append]; exact .lst _, by rw [List.length_append, List.length_map]; show its.length + 1 < 64; omega, fun ns ha hm => ⟨_, .lst _, ?_⟩⟩
      have nl : ns.length ≤ 12 := asc_len (k := 12) ha fun x hx => by
        rcases List.mem_append.mp ((hm x).mp hx) with hx | hx
        · obtain ⟨l, hl, rfl⟩ := List.mem_map.mp hx
          exact bd l (lot.mem l hl)
        · rw [List.mem_singleton] at hx
          rw [hx]
          exact bd it2 mi2
      have pt : ∀ ms : List Int, plainA (ms.map .int) = true := fun ms => plainA_of fun d hd => by obtain ⟨x, _, rfl⟩ := List.mem_map.mp hd; rw [Pu.plain]
      refine wa_nil ⟨lk, we_int ⟨_, 2, .lst _, rfl, by decide, by decide, lk, _, _, .lst _, .lst _, by rw [z15]; show 15 + 4 ≤ 100000; decide, ?_⟩⟩
      exact done L3 st3 _ _ (odd_tup (pt ms) (by rw [List.length_map]; omega)) (odd_tup (pt ns) (by rw [List.length_map]; omega))
end
end K65
namespace K65
open PySem PySem.Spec PyProof.Rows L2 Gd Pu
section
variable {X : Cx} {a : Expr} {y : Str} {py0 p pos : Pos} {Γ : List Ent} {Q : D → List Ent → Prop} {C : Addr}
/-- isinstance(e, C), e made by C -/
theorem we_isC (hty : ∀ {H : Hp} {q dx : Addr} {fs : List (Str × V)}, H q = some (.ins C dx fs) → TyX X.K H (.ref q) (.ref C)) (kk : PySem.W.kitOne X.K (.ref C) (.ref C) = some true) (hm : X.mg "isinstance" = none) (hmC : X.mg y = some (.ref C)) (h : WE X a Γ fun d Γ1 => ∃ fs, d = .ins C fs ∧ Q (.bl true) Γ1) (hg : Gl X "isinstance" := by rfl) (hgy : Gl X y := by rfl) (hdy : (y == ("__debug__" : Str)) = false := by decide)
    (he : starEach [a, .Name y py0] X.env = (false, eval a X.env) :: starEach [.Name y py0] X.env := by rfl) (he2 : starEach [.Name y py0] X.env = (false, eval (.Name y py0) X.env) :: starEach [] X.env := by rfl) (hpl : (backTo pos (starEach [.Name y py0] X.env)).any (·.1) = false := by rfl) :
    WE X (.Call (.Name "isinstance" p) [a, .Name y py0] [] pos) Γ Q := fun σ F H k Q' po => by
  refine sE_of (pe_callB call_isi hg hm (by decide +kernel) (pa_cons pe_s (pa_cons (pe_glob (v := .ref C) hgy hmC rfl hdy) pa_nil he2) he) (he := he) (hpl := hpl)) (h σ F H k _ fun d Γ1 v F1 H1 q1 s1 k1 r1 => ?_)
  obtain ⟨fs, rfl, q⟩ := q1
  cases r1 with
  | ins hp rf => exact ⟨_, .ref C, _, _, true, rfl, .own C, hty (k1.same _ _ hp), kk, (po.step s1).now k1 (.bl true) q⟩
end
def dEqT (C : Addr) : List D → (D → Prop) → Prop := fun ds Q => ∃ ks ts, ds = [tblD C ks ts, tblD C ks ts] ∧ Tk ks ts ∧ Q (.bl true)
theorem eqv_self {d : PyData} (h : noB d = true) : PyData.eqv d d = true := (eqv_iff d d h h).mpr rfl
theorem noB_tS (l : List Str) : noB (py (tS l)) = true := by
  rw [py, pyA_map, List.map_map, noB]
  exact noBA_mem fun d hd => by obtain ⟨x, _, rfl⟩ := List.mem_map.mp hd; rfl
theorem noB_typesP (l : List (Str × List Int)) : noB (py (typesP l)) = true := by
  rw [py_typesP, noB]
  exact noBA_mem fun d hd => by
    obtain ⟨x, _, rfl⟩ := List.mem_map.mp hd
    show noB (.tuple [.str x.1, .tuple (x.2.map .int)]) = true
    rw [noB, noBA, noBA, noBA, noB_ints]
    rfl
theorem sh_tS {ks : List Str} {ts : List (Str × List Int)} (tk : Tk ks ts) : Sh (tS ks) := by
  refine ⟨?_, ?_, ?_⟩
  · rw [isP]
    exact isPA_mem fun d hd => by obtain ⟨x, _, rfl⟩ := List.mem_map.mp hd; rfl
  · obtain ⟨⟨f1, p1, _⟩, _⟩ := table_fine tk.tok
    have e1 : py (tS ks) = kindsD ⟨ks, ts⟩ := by
      rw [py, pyA_map, List.map_map]
      rfl
    rw [e1]
    exact f1
  · rw [py, pyA_map, PyData.depth]
    have e : PyData.depthAll ((ks.map D.str).map py) ≤ 1 := depthAll_mem fun d hd => by
      obtain ⟨e, he, rfl⟩ := List.mem_map.mp hd
      obtain ⟨x, _, rfl⟩ := List.mem_map.mp he
      simp [py, PyData.depth]
    omega
section
variable {P : Program} {w : World} {K : PySem.W.Frag} {mg : Str → Option Value} {base : Heap}
theorem od_eq {f C : Addr} {fd : FuncData} {k : Nat} (F : Fun K "__eq__" "Table.__eq__" s_Table_eq f fd) (T : TTxt K mg C) (hty : ∀ {H : Hp} {q dx : Addr} {fs : List (Str × V)}, H q = some (.ins C dx fs) → TyX K H (.ref q) (.ref C)) (kk : PySem.W.kitOne K (.ref C) (.ref C) = some true) (mI : mg "isinstance" = none) : FnG P w K mg base (k + 1) f fd ["self", "other"] (spD K (dEqT C)) := by
  refine okD F sc_Table_eq (fun ds Q h => ?_) fun cdv A out s H E hr ds Qp hs => ?_
  · obtain ⟨ks, ts, rfl, _⟩ := h
    rfl
  · obtain ⟨ks, ts, rfl, tk, q⟩ := hs
    have shK := sh_tS tk
    have shT := sh_typesT tk.k8 tk.po.nm tk.po.lo
    refine wb_cons (ws_ret (we_and (we_isC hty kk mI T.mgC (we_var 1 rfl ⟨_, rfl, _, rfl, fun _ => ?_, nofun⟩))))
    refine we_and (we_cmp (op_eqD hr.rm.units) pu_eqV (we_fld (we_var 0 rfl ⟨C, _, _, rfl, T.cl, T.nK, lk_k, we_fld (we_var 1 rfl ⟨C, _, _, rfl, T.cl, T.nK, lk_k, _, _, .same _, .same _, shK, shK, _, rfl, fun _ => ?_, fun h => ?_⟩)⟩)))
    · refine we_one (we_cmp (op_eqD hr.rm.units) pu_eqV (we_fld (we_var 0 rfl ⟨C, _, _, rfl, T.cl, T.nT, lk_t, we_fld (we_var 1 rfl ⟨C, _, _, rfl, T.cl, T.nT, lk_t, _, _, .same _, .same _, shT, shT, ?_⟩)⟩)))
      rw [eqv_self (noB_typesP ts)]
      exact q
    · rw [eqv_self (noB_tS ks)] at h
      cases h
end
end K65
namespace K65
open PySem PySem.Spec PyProof.Rows L2 Gd Pu
section
variable {P : Program} {w : World} {K : PySem.W.Frag} {mg : Str → Option Value} {base : Heap}
/-- is_way_to_strike of any plain value, in the old layer -/
def spWay (K : PySem.W.Frag) : Sp := fun vs H Q _ => ∃ (F : Hp) (d : D) (v : V), vs = [v] ∧ Same F H ∧ Re K F d v ∧ plain d = true ∧ Q (.bl (isWay d)) H
theorem ok_wayO {f a : Addr} {fd : FuncData} {k : Nat} (F : Fun K "is_way_to_strike" "is_way_to_strike" s_is_way_to_strike f fd) (W : WayT K mg a) (mI : mg "isinstance" = none) (ms : mg "str" = none) : FnOk P w K mg base CX0 (k + 1) f fd ["value"] (spWay K) := by
  refine F.ok sc_is_way_to_strike (fun vs H Q E h => ?_) (fun cdv A outer s H vs Q E hr h => ?_)
  · obtain ⟨F, d, v, rfl, _⟩ := h
    rfl
  · obtain ⟨F, d, v, rfl, sm, rv, pd, q⟩ := h
    refine blk_cons (ps_ret (pe_and (pe_callB call_isi (by rfl) mI (by decide +kernel) (pa_cons (pv 0) (pa_cons (pe_bltn (v := .ty "str") (by rfl) ms (by decide +kernel) rfl (by decide) (by decide)) pa_nil))) (pe_one (pe_cmpR (r := rIn K false) op_in_seq (pv 0) (pe_glob (v := .ref a) (by rfl) W.g rfl) (by rfl))))) ?_
    refine blk_nil ?_
    obtain ⟨n, hn⟩ := plain_ty pd
    obtain ⟨c, kc, c0, c1⟩ := kit_str hn
    have ok0 : Ok K F H [] [] := ⟨sm, .nil, List.nodup_nil⟩
    refine ⟨_, rfl, v, .ty "str", .type n, .type "str", c, rfl, .ty "str", tyOf_real hn ok0 rv, kit_ty kc, ?_⟩
    cases hc : c with
    | true =>
      obtain ⟨z, rfl⟩ := c1 hc
      cases rv
      refine ⟨true, rfl, iteT ?_⟩
      refine ⟨_, rfl, a, waysL.map V.str, rfl, .inr (W.s H), rfl, rfl, ?_⟩
      have e : inV (.str z) (waysL.map V.str) = isWay (.str z) := inV_strs z waysL
      rw [e]
      exact q
    | false =>
      have : isWay d = false := by
        cases d with
        | str l => exact absurd rfl (c0 hc l)
        | _ => rfl
      rw [this] at q
      exact ⟨false, rfl, iteF q⟩
end
end K65
namespace K65
open PySem PySem.Spec PyProof.Rows L2 Gd Pu
/-- what is asked where an error with a word is raised -/
theorem boom_to {K : PySem.W.Frag} {C : Addr} {σ : L2.St} {H : Hp} {z : Str} {E : XK} (q : ∀ d G, H d = none → Same H G → G d = some (xdS z) → E (.ref C) (some d) G) : tMkO C (spIRef K C) [] (tCons (tC (.str z)) tNil) σ H fun cls d H' => (fun cls d _ H => E cls d H) cls d σ H' := by
  refine ⟨by show 1 ≤ 1000; decide, fun a na => ⟨a, _, rfl, upd_same, fun dx2 n1 n2 => ⟨rfl, dx2, [("word", .str z)], upd_same, (upd_ne n2).trans upd_same, ?_, ?_⟩⟩⟩
  · exact (upd_ne n2).symm.trans n1
  · have n3 : H dx2 = none := (upd_ne n2).symm.trans n1
    refine q dx2 _ n3 (fun b o e => ?_) upd_same
    have ba : b ≠ a := ne_of_none e na
    have bd : b ≠ dx2 := ne_of_none e n3
    rw [upd_ne bd, del_ne ba, upd_ne ba, upd_ne bd, upd_ne ba]
    exact e
section
variable {P : Program} {w : World} {K : PySem.W.Frag} {mg : Str → Option Value} {base : Heap}
theorem ok_iref {f C : Addr} {fd : FuncData} {k : Nat} (F : Fun K "__init__" "Refused.__init__" s_Refused_init f fd) (T : WTxt K mg "Refused" C f) : FnOk P w K mg base CX0 (k + 1) f fd ["self", "word"] (spIRef K C) := by
  refine F.ok sc_Refused_init (fun vs H Q E h => ?_) (fun cdv A outer s H vs Q E hr h => ?_)
  · obtain ⟨a, z, rfl, _⟩ := h
    rfl
  · obtain ⟨a, z, rfl, ha, q⟩ := h
    refine blk_cons (ps_ost (pv 0) (pv 1)) ?_
    refine blk_nil ?_
    exact ⟨_, rfl, _, rfl, a, C, rfl, T.ox, T.nW, .inl ⟨ha, fun dx h1 h2 => q dx h1 h2⟩⟩
/-- no way: Refused("way") -/
def BadW (K : PySem.W.Frag) (CF : Addr) (v : V) (H : Hp) (E : XK) : Prop := ∃ (F : Hp) (d : D), Same F H ∧ Re K F d v ∧ plain d = true ∧ isWay d = false ∧ ∀ dd G, H dd = none → Same H G → G dd = some (xdS "way") → E (.ref CF) (some dd) G
def spChkX (K : PySem.W.Frag) (CF : Addr) : Sp := fun vs H _ E => ∃ v, vs = [v] ∧ BadW K CF v H E
theorem ok_chkX {f fW fR CF : Addr} {fd fdW fdR : FuncData} {k : Nat} (F : Fun K "check_way" "check_way" s_check_way f fd) (FW : Fun K "is_way_to_strike" "is_way_to_strike" s_is_way_to_strike fW fdW) (bW : Binds K fdW ["value"] []) (gW : mg "is_way_to_strike" = some (.ref fW)) (GW : FnOk P w K mg base CX0 (k + 1) fW fdW ["value"] (spWay K))
    (TR : WTxt K mg "Refused" CF fR) (bR : Binds K fdR ["self", "word"] []) (GR : FnOk P w K mg base CX0 k fR fdR ["self", "word"] (spIRef K CF)) : FnOk P w K mg base (L2.CX P w) (k + 1 + 1) f fd ["way"] (spChkX K CF) := by
  refine F.okX sc_check_way (fun vs H Q E h => ?_) (fun cdv A outer s H vs Q E hr h => ?_)
  · obtain ⟨v, rfl, _⟩ := h
    rfl
  · obtain ⟨v, rfl, F', d, sm, rv, pd, hw, q⟩ := h
    refine blk_cons (ps_if (pt_not (pt_val (pe_call GW hr (by rfl) gW FW.kp bW .nil pass0 (pa_cons (pv 0) pa_nil)))) (pss_one (ps_raise rfl (takes_of rfl rfl rfl rfl) (pmk_oex TR.ox TR.iC TR.tI GR hr bR .nil pass0 (by rfl) TR.gR (pa_cons pe_str pa_nil)))) pss_nil) ?_
    refine blk_nil ?_
    refine ⟨_, rfl, F', d, v, rfl, sm, rv, pd, ?_⟩
    rw [hw]
    exact ⟨_, rfl, iteT (boom_to q)⟩
def spItX (K : PySem.W.Frag) (CF : Addr) : Sp := fun vs H _ E => ∃ t v, vs = [t, v] ∧ BadW K CF v H E
def spStX (K : PySem.W.Frag) (CF : Addr) : Sp := fun vs H _ E => ∃ t v z, vs = [t, v, z] ∧ BadW K CF v H E
theorem ok_itX {f fW CF : Addr} {fd fdW : FuncData} {k : Nat} (F : Fun K "items_for" "items_for" s_items_for f fd) (FW : Fun K "check_way" "check_way" s_check_way fW fdW) (bW : Binds K fdW ["way"] []) (gW : mg "check_way" = some (.ref fW)) (GW : FnOk P w K mg base (L2.CX P w) k fW fdW ["way"] (spChkX K CF)) : FnOk P w K mg base (L2.CX P w) (k + 1) f fd ["table", "way"] (spItX K CF) := by
  refine F.okX sc_items_for (fun vs H Q E h => ?_) (fun cdv A outer s H vs Q E hr h => ?_)
  · obtain ⟨t, v, rfl, _⟩ := h
    rfl
  · obtain ⟨t, v, rfl, bad⟩ := h
    refine blk_cons (ps_expr (pe_call (E := E) GW hr (by rfl) gW FW.kp bW .nil (passes_call (takes_of rfl rfl rfl rfl) fun _ _ _ _ h => h) (pa_cons (pv 1) pa_nil))) ⟨_, pb_s, ?_⟩
    exact ⟨_, rfl, v, rfl, bad⟩
theorem ok_stX {f fW CF : Addr} {fd fdW : FuncData} {k : Nat} (F : Fun K "struck_table" "struck_table" s_struck_table f fd) (FW : Fun K "check_way" "check_way" s_check_way fW fdW) (bW : Binds K fdW ["way"] []) (gW : mg "check_way" = some (.ref fW)) (GW : FnOk P w K mg base (L2.CX P w) k fW fdW ["way"] (spChkX K CF)) : FnOk P w K mg base (L2.CX P w) (k + 1) f fd ["table", "way", "items"] (spStX K CF) := by
  refine F.okX sc_struck_table (fun vs H Q E h => ?_) (fun cdv A outer s H vs Q E hr h => ?_)
  · obtain ⟨t, v, z, rfl, _⟩ := h
    rfl
  · obtain ⟨t, v, z, rfl, bad⟩ := h
    refine blk_cons (ps_expr (pe_call (E := E) GW hr (by rfl) gW FW.kp bW .nil (passes_call (takes_of rfl rfl rfl rfl) fun _ _ _ _ h => h) (pa_cons (pv 1) pa_nil))) ⟨_, pb_s, ?_⟩
    exact ⟨_, rfl, v, rfl, bad⟩
theorem ok_repX {f fW CF : Addr} {fd fdW : FuncData} {k : Nat} (F : Fun K "is_repair" "is_repair" s_is_repair f fd) (FW : Fun K "check_way" "check_way" s_check_way fW fdW) (bW : Binds K fdW ["way"] []) (gW : mg "check_way" = some (.ref fW)) (GW : FnOk P w K mg base (L2.CX P w) k fW fdW ["way"] (spChkX K CF)) : FnOk P w K mg base (L2.CX P w) (k + 1) f fd ["table", "way", "value"] (spStX K CF) := by
  refine F.okX sc_is_repair (fun vs H Q E h => ?_) (fun cdv A outer s H vs Q E hr h => ?_)
  · obtain ⟨t, v, z, rfl, _⟩ := h
    rfl
  · obtain ⟨t, v, z, rfl, bad⟩ := h
    refine blk_cons (ps_expr (pe_call (E := E) GW hr (by rfl) gW FW.kp bW .nil (passes_call (takes_of rfl rfl rfl rfl) fun _ _ _ _ h => h) (pa_cons (pv 1) pa_nil))) ⟨_, pb_s, ?_⟩
    exact ⟨_, rfl, v, rfl, bad⟩
end
end K65
namespace K65
open PySem PySem.Spec PyProof.Rows L2 Gd Pu RZ
section
variable {P : Program} {w : World} {K : PySem.W.Frag} {mg : Str → Option Value} {base : Heap}
def spCoX (K : PySem.W.Frag) (CF : Addr) : Sp := fun vs H _ E => ∃ t v c z, vs = [t, v, c, z] ∧ BadW K CF v H E
theorem ok_costX {f fI CF : Addr} {fd fdI : FuncData} {k : Nat} (F : Fun K "strike_cost" "strike_cost" s_strike_cost f fd) (FI : Fun K "items_for" "items_for" s_items_for fI fdI) (bI : Binds K fdI ["table", "way"] []) (gI : mg "items_for" = some (.ref fI)) (GI : FnOk P w K mg base (L2.CX P w) k fI fdI ["table", "way"] (spItX K CF)) (ms : mg "sum" = none) (mz : mg "zip" = none) : FnOk P w K mg base (L2.CX P w) (k + 1) f fd ["table", "way", "costs", "items"] (spCoX K CF) := by
  refine F.okX sc_strike_cost (fun vs H Q E h => ?_) (fun cdv A outer s H vs Q E hr h => ?_)
  · obtain ⟨t, v, c, z, rfl, _⟩ := h
    rfl
  · obtain ⟨t, v, c, z, rfl, bad⟩ := h
    have nd := sc_strike_cost.nd
    refine blk_cons (ps_ret (pe_callB (cr_sum rfl) (by rfl) ms (by decide +kernel) (pa_cons (pe_lc (own := [("item", 4), ("cost", 5)]) (g := gTup _ 2 (gCons (gName 4) (gCons (gName 5) gNil))) rfl nd (pi_zipA (by rfl) mz (pa_cons (pe_call (E := E) GI hr (by rfl) gI FI.kp bI .nil (passes_call (takes_of rfl rfl rfl rfl) fun _ _ _ _ h => h) (pa_cons (pv 0) (pa_cons (pv 1) pa_nil))) (pa_cons (pv 2) pa_nil)))
      (blkOk_by (own := [("item", 4), ("cost", 5)]) (N := n_strike_cost) (sc := defScope s_strike_cost) (by decide +kernel)) (fun _ _ _ _ _ => pg_tup rfl (pgs_cons (pg_name (i := 4) nd rfl (Or.inl rfl)) (pgs_cons (pg_name (i := 5) nd rfl (Or.inl rfl)) pgs_nil))) (tt := ttB _ _ _) (te := teB _ _ _) (fun s H0 C cl fp => ⟨fun pins s2 σ H Q I h => h s H0 C cl fp pins s2 I⟩) (fun s H0 C cl fp => ⟨fun pins s2 σ H Q I h => h s H0 C cl fp pins s2 I⟩) (by intro _; rfl)) pa_nil))) ⟨_, pss_nil, ?_⟩
    exact ⟨_, rfl, _, rfl, t, v, rfl, bad⟩
end
end K65
namespace K65
open PySem PySem.Spec PyProof.Rows L2 Gd
/-- what is told of the error that is heard -/
structure HTxt (K : PySem.W.Frag) (mg : Str → Option Value) (CW CF CD : Addr) : Prop where
  gW : mg "InvalidTable" = some (.ref CW)
  gF : mg "Refused" = some (.ref CF)
  gD : mg "DeskError" = some (.ref CD)
  nF : PySem.W.findIn K (.ref CF) "word" = some none
  ff : PySem.W.exmOne K (.ref CF) (.ref CF) = some true
  isD : PySem.W.kitOne K (.ref CF) (.ref CD) = some true
  isW : PySem.W.kitOne K (.ref CF) (.ref CW) = some false
  eF : ExcC K CF
  xF : XfC K CF
def RHd (K : PySem.W.Frag) (CF : Addr) : Value → Option Addr → Hp → VK → Prop := fun cls d H Q => ∃ dd, d = some dd ∧ ∃ z : Str, H dd = some (xdS z) ∧ cls = .ref CF ∧ Q (.str z) H
theorem xdS_at (z : Str) : ([(("word" : Str), V.str z)] : List (Str × V)).lookup ("word" : Str) = some (.str z) := rfl
abbrev rIsE (K : PySem.W.Frag) (a : Addr) (cls : Value) (d : Option Addr) (D : Addr) : List V → Hp → VK → Prop := fun xs H Q => cls = .ref D ∧ ∃ (c : V) (u : Value) (b : Bool), xs = [.ref a, c] ∧ ClsV c u ∧ PySem.W.kitOne K (.ref D) u = some b ∧ (d = none ∨ ∃ dd fs, d = some dd ∧ H dd = some (.xd fs) ∧ fs.lookup ("__class__" : Str) = none) ∧ Q (.bl b) H
abbrev tIsE (K : PySem.W.Frag) (a : Addr) (cls : Value) (d : Option Addr) (D E : Addr) : TT := tB (tCB (rIsE K a cls d D) (tCons (tVar 1) (tCons (tC (.ref E)) tNil)))
abbrev clsH (K : PySem.W.Frag) (CW CF CD : Addr) : List Clause := [(.ref CF, 1, fun a cls d => tRet (tIf (tAnd (tIsE K a cls d CF CD) (tNot (tIsE K a cls d CF CW))) (tXf a cls d CF "word" (tVar 1)) (tC (.str "mixed"))))]
abbrev hcx (X : Cx) (fH : Addr) (cdv : Value) (s : Shared) (H : Hp) : Cx := (cxOf C8.CX0 X.prog X.w X.K X.mg X.base n__law_heard "_law_heard" (defScope s__law_heard) fH cdv X.A X.stack s H C8.E0).nox
section
variable {X : Cx} {CW CF CD fH : Addr} {cdv : Value} {q : Str}
theorem gives_heard (T : HTxt X.K X.mg CW CF CD) (mI : X.mg "isinstance" = none) :
    LamX.GivesTo X n__law_heard "_law_heard" (defScope s__law_heard) fH cdv (defBody s__law_heard) "action" q (TTs (RHd X.K CF) (.str "")) := by
  refine heards_gives (l := clsH X.K CW CF CD) sc__law_heard.nd (fun s H => ?a) (fun Y => pe_str) (fun f => rfl) (fun D σ cls d H hl hr => ?b)
  case a =>
    exact ClsOk.cons (X := hcx X fH cdv s H) (i := 1) (x := "Refused") (n := "error") ⟨rfl, by decide, .inl T.gF⟩ rfl rfl (fun a o cls d pn hz hf => pss_one (ps_ret (pe_ifExp (PW.pt (pw_and (pt_val (pe_callB (call_isE3 (X := hcx X fH cdv s H) T.eF hz hf) (by rfl) mI (by decide +kernel) (pa_cons (pv 1) (pa_cons (pe_glob (v := .ref CD) (by rfl) T.gD rfl) pa_nil))))
      (pw_and1 (pt_not (pt_val (pe_callB (call_isE3 (X := hcx X fH cdv s H) T.eF hz hf) (by rfl) mI (by decide +kernel) (pa_cons (pv 1) (pa_cons (pe_glob (v := .ref CW) (by rfl) T.gW rfl) pa_nil)))))))) (pe_xf (X := hcx X fH cdv s H) T.xF T.nF hz hf (pv 1)) pe_str)))
      .nil
  case b =>
    have sl : ∀ a : Addr, (σ.set 1 (some (V.ref a)))[1]? = some (some (.ref a)) := fun a => List.getElem?_set_self (by rw [hl]; decide)
    obtain ⟨dd, rfl, z, hx, rfl, qq⟩ := hr
    refine wAll_hit T.ff fun a _ => ?_
    refine ⟨_, sl a, rfl, .ref CD, .ref CD, true, rfl, .own _, T.isD, .inr ⟨dd, _, rfl, hx, rfl⟩, _, rfl, iteT ?_⟩
    refine ⟨_, sl a, rfl, .ref CW, .ref CW, false, rfl, .own _, T.isW, .inr ⟨dd, _, rfl, hx, rfl⟩, _, rfl, iteT ?_⟩
    exact ⟨_, sl a, rfl, rfl, dd, _, _, rfl, hx, xdS_at z, qq⟩
end
section
variable {X : Cx} {CW CF CD fH c Pt : Addr} {fdH : FuncData} {T : List (Addr × Str)} {k : Nat} {params : Arguments} {body : Expr} {scope : Scope} {t : XK → TE} {p lpos pos : Pos}
/-- _law_heard(lambda: ..) -/
theorem pe_hd (FH : Fun X.K "_law_heard" "_law_heard" s__law_heard fH fdH) (bH : Binds X.K fdH ["action"] []) (hg : Gl X "_law_heard") (gH : X.mg "_law_heard" = some (.ref fH)) (TH : HTxt X.K X.mg CW CF CD) (mI : X.mg "isinstance" = none)
    (L : LamT T X.base X.mg c Pt (X.env.qual ++ "<lambda>")) (hcode : X.env.code = .ref c) (hr : Room (k + 2) X.A) (hl : LamX.LamS X.env.scope scope)
    (hbody : ∀ (A : Around) (outer : List Env) (s : Shared) (H : Hp) (E : XK) (f c' : Addr), Room k (A.deeper (LamX.lamEnv X scope s.heap.objs.size f c')) → PE (LamX.lamCx X A outer s H E scope f c') body (t E))
    (hdef : defaultsOf params X.env = ([], []) := by rfl) (hbind : ∀ (q : Str) (cl : List (Str × Addr)) (pm cv ctv : Value), bindArgs (PySem.W.kla_fn "<lambda>" q params body scope cl pm cv ctv) ⟨[], []⟩ = pure [] := by intros; rfl) :
    PE X (.Call (.Name "_law_heard" p) [.Lambda params body scope lpos] [] pos) (LamX.tLam T (TTs (RHd X.K CF) (.str "")) t) :=
  pe_lamT FH bH hg gH sc__law_heard rfl (.inl rfl) (fun cdv => gives_heard TH mI) L hcode hr hl hbody hdef hbind
end
end K65
namespace K65
open PySem PySem.Spec PyProof.Rows L2 Gd Pu
/-! What _law_way_right wants: data that repr serves, is, is not, calls with keywords. -/
theorem costAll_le {ds : List PyData} {c : Nat} (h : ∀ d ∈ ds, costD d ≤ c) : costAll ds ≤ (c + 2) * ds.length := by
  induction ds with
  | nil => rw [costAll]; exact Nat.zero_le _
  | cons d r ih =>
    have h1 := h d List.mem_cons_self
    have h2 := ih fun x m => h x (List.mem_cons_of_mem _ m)
    rw [costAll, List.length_cons, Nat.mul_add]
    omega
theorem fn_tup {ds : List D} (h : ∀ d ∈ ds, isP d = true ∧ fine (py d) = true ∧ (py d).depth ≤ 50 ∧ costD (py d) ≤ 100) (hl : ds.length ≤ 1000) : Fn (.tup ds) := by
  refine ⟨?_, ?_, ?_, ?_⟩
  · rw [isP]
    exact isPA_mem fun d hd => (h d hd).1
  · rw [py, fine, pyA_map]
    exact fineAll_mem fun d hd => by
      obtain ⟨x, hx, rfl⟩ := List.mem_map.mp hd
      exact (h x hx).2.1
  · rw [py, pyA_map, PyData.depth]
    have e : PyData.depthAll (ds.map py) ≤ 50 := depthAll_mem fun d hd => by
      obtain ⟨x, hx, rfl⟩ := List.mem_map.mp hd
      exact (h x hx).2.2.1
    omega
  · rw [py, pyA_map, costD]
    have e := costAll_le (ds := ds.map py) (c := 100) fun d hd => by
      obtain ⟨x, hx, rfl⟩ := List.mem_map.mp hd
      exact (h x hx).2.2.2
    rw [List.length_map] at e
    rw [sizeLine_eq]
    omega
theorem it_small {w : Way} {l : List Int} (hb : ∀ x ∈ l, 0 ≤ x ∧ x < 100) (h2 : l.length ≤ 2) : isP (itE w l) = true ∧ fine (py (itE w l)) = true ∧ (py (itE w l)).depth ≤ 50 ∧ costD (py (itE w l)) ≤ 100 := by
  have i1 : isP (.int (l.getD 0 0)) = true ∧ fine (py (.int (l.getD 0 0))) = true ∧ (py (.int (l.getD 0 0))).depth ≤ 50 ∧ costD (py (.int (l.getD 0 0))) ≤ 100 := by
    refine ⟨rfl, ?_, by simp [py, PyData.depth], by simp [py, costD]⟩
    rw [py, fine, decide_eq_true_eq]
    cases l with
    | nil => decide
    | cons x r =>
      have := hb x List.mem_cons_self
      show x.natAbs < 10 ^ 9
      omega
  cases w with
  | acc =>
    have f := ints_fine (l := l) (fun x hx => by have := hb x hx; omega) (by omega)
    refine ⟨?_, ?_, ?_, ?_⟩
    · show isP (.tup (l.map .int)) = true
      rw [isP]
      exact isPA_mem fun d hd => by obtain ⟨x, _, rfl⟩ := List.mem_map.mp hd; rfl
    · show fine (py (tI l)) = true
      rw [py_tI]
      exact f.1
    · show (py (tI l)).depth ≤ 50
      rw [py_tI, PyData.depth]
      have e : PyData.depthAll (l.map PyData.int) ≤ 1 := depthAll_mem fun d hd => by
        obtain ⟨x, hx, rfl⟩ := List.mem_map.mp hd
        simp [PyData.depth]
      omega
    · show costD (py (tI l)) ≤ 100
      rw [py_tI, costD, lot_cost]
      omega
  | _ => exact i1
theorem fn_its {w : Way} {its : List (List Int)} (io : Its w its) : Fn (.tup (its.map (itE w))) := by
  refine fn_tup (fun d hd => ?_) (by rw [List.length_map]; exact io.len)
  obtain ⟨l, hl, rfl⟩ := List.mem_map.mp hd
  refine it_small (io.b l hl) ?_
  by_cases hw : w = .acc
  · exact Nat.le_of_eq (io.a hw l hl)
  · have := io.n hw l hl
    omega
theorem fn_sh {d : D} (h : Fn d) : Sh d := ⟨h.p, h.f, h.dp⟩
theorem noB_its (w : Way) (its : List (List Int)) : noB (py (.tup (its.map (itE w)))) = true := by
  rw [py, pyA_map, noB]
  exact noBA_mem fun d hd => by
    obtain ⟨x, hx, rfl⟩ := List.mem_map.mp hd
    obtain ⟨l, _, rfl⟩ := List.mem_map.mp hx
    cases w with
    | acc =>
      show noB (py (tI l)) = true
      rw [py_tI]
      exact noB_ints l
    | _ => rfl
theorem fn_parts {ks : List Str} {ts : List (Str × List Int)} (tk : Tk ks ts) : Fn (.tup [tS ks, typesP ts]) := by
  have s1 := sh_tS tk
  have s2 := sh_typesT tk.k8 tk.po.nm tk.po.lo
  have e1 : py (tS ks) = kindsD ⟨ks, ts⟩ := by
    rw [py, pyA_map, List.map_map]
    rfl
  have e2 : py (typesP ts) = typesD ⟨ks, ts⟩ := by
    rw [py_typesP]
    rfl
  obtain ⟨⟨f1, d1, c1⟩, f2, d2, c2⟩ := table_fine tk.tok
  have e : py (.tup [tS ks, typesP ts]) = .tuple [kindsD ⟨ks, ts⟩, typesD ⟨ks, ts⟩] := by rw [py, pyA, pyA, pyA, e1, e2]
  refine ⟨?_, ?_, ?_, ?_⟩
  · rw [isP]
    exact isPA_mem fun d hd => by
      rcases List.mem_cons.mp hd with e | hd
      · rw [e]; exact s1.p
      · rw [List.mem_singleton.mp hd]; exact s2.p
  · rw [e, fine, fineAll, fineAll, fineAll, f1, f2]
    rfl
  · rw [e, PyData.depth]
    have := depthAll_mem (n := 5) (ds := [kindsD ⟨ks, ts⟩, typesD ⟨ks, ts⟩]) fun d hd => by
      rcases List.mem_cons.mp hd with e | hd
      · rw [e]; exact d1
      · rw [List.mem_singleton.mp hd]; exact d2
    omega
  · rw [e, costD, costAll, costAll, costAll, sizeLine_eq]
    omega
theorem noB_parts (ks : List Str) (ts : List (Str × List Int)) : noB (py (.tup [tS ks, typesP ts])) = true := by
  rw [py, pyA, pyA, pyA, noB, noBA, noBA, noBA, noB_tS, noB_typesP]
  rfl
/-- is, is not of truths -/
theorem pu_isB {K : PySem.W.Frag} : Pu2 K (fun x y H Q => ∃ a b, x = .bl a ∧ y = .bl b ∧ Q (.bl (decide (a = b))) H) (fun d1 d2 Γ Q => ∃ a b, d1 = .bl a ∧ d2 = .bl b ∧ Q (.bl (decide (a = b))) Γ) := by
  rintro d1 d2 Γ Q ⟨a, b, rfl, rfl, q⟩ σ F H v1 v2 k r1 r2 Q' po
  cases r1
  cases r2
  exact ⟨a, b, rfl, rfl, po.now k (.bl _) q⟩
theorem pu_isntB {K : PySem.W.Frag} : Pu2 K (fun x y H Q => ∃ a b, x = .bl a ∧ y = .bl b ∧ Q (.bl (!decide (a = b))) H) (fun d1 d2 Γ Q => ∃ a b, d1 = .bl a ∧ d2 = .bl b ∧ Q (.bl (!decide (a = b))) Γ) := by
  rintro d1 d2 Γ Q ⟨a, b, rfl, rfl, q⟩ σ F H v1 v2 k r1 r2 Q' po
  cases r1
  cases r2
  exact ⟨a, b, rfl, rfl, po.now k (.bl _) q⟩
section
variable {X : Cx} {e : Expr} {kws : List Keyword} {p pos : Pos} {x : Str} {Γ : List Ent} {Q : D → List Ent → Prop} {k : Nat} {f : Addr} {fd : FuncData} {ps ks : List Str}
theorem we_reprI (hm : X.mg "repr" = none) (h : WE X e Γ fun d Γ1 => ∃ i : Int, d = .int i ∧ i.natAbs < 10 ^ 9 ∧ Q (.str (toString i)) Γ1) (hg : Gl X "repr" := by rfl)
    (he : starEach [e] X.env = (false, eval e X.env) :: starEach [] X.env := by rfl) (hpl : (backTo pos (starEach [] X.env)).any (·.1) = false := by rfl) : WE X (.Call (.Name "repr" p) [e] [] pos) Γ Q :=
  we_callB (rp := fun ds Γ Q => ∃ d, ds = [d] ∧ ∃ i : Int, d = .int i ∧ i.natAbs < 10 ^ 9 ∧ Q (.str (toString i)) Γ) SkE.call_repr_int (pa1 (by
    rintro d Γ Q ⟨i, rfl, hi, q⟩ σ F H v k rv Q' po
    cases rv
    refine ⟨i, rfl, ?_, po.now k (.str _) q⟩
    have h1 : i.natAbs < 2 ^ 30 := Nat.lt_of_lt_of_le hi (by decide)
    by_cases z : i.natAbs = 0
    · rw [z]; decide
    · have := (Nat.log2_lt z).mpr h1
      omega)) hm (wa_cons (h.mono fun d Γ1 q => wa_nil ⟨d, rfl, q⟩) he) hg (he := he) (hpl := hpl)
/-- f(z=.., y=.., x=..): all by their names, from the last to the first -/
theorem we_callRv {sp : List D → (D → Prop) → Prop} (G : FnG X.prog X.w X.K X.mg X.base k f fd ps (spD X.K sp)) (hr : RmG k X.A) (hm : X.mg x = some (.ref f)) (hk : PySem.W.keepIn X.K (.ref f) = true) (hb : KwB fd ps ks List.reverse)
    (h : WK X kws Γ fun ds Γ1 => ds.length = ks.length ∧ sp ds.reverse fun d => Q d Γ1) (hg : Gl X x := by rfl)
    (h1 : (backToKw pos (keywordEach kws X.env)).all (·.1.isSome) = true := by rfl) (h2 : (backToKw pos (keywordEach kws X.env)).filterMap (·.1) = ks := by rfl) (h3 : (x == ("__debug__" : Str)) = false := by decide)
    (h4 : ((backTo pos (starEach [] X.env)).any (·.1) || (backToKw pos (keywordEach kws X.env)).any (·.1.isNone)) = false := by rfl) : WE X (.Call (.Name x p) [] kws pos) Γ Q :=
  we_callKw (gV := List.reverse) (gD := List.reverse) G hr hm hk hb (fun _ r => r.reverse) (fun _ r => r.rev) h hg h1 h2 h3 h4
theorem wt_eqO {C : Addr} {a b : Expr} {QB : Bool → List Ent → Prop} {sp : List D → (D → Prop) → Prop} (G : FnG X.prog X.w X.K X.mg X.base k f fd ["self", "other"] (spD X.K sp)) (hr : RmG k X.A) (hs : PySem.W.findIn X.K (.ref C) "__eq__" = some (some (.ref f))) (hf : PySem.W.isFn X.K (.ref f) = true) (hb : Binds X.K fd ["self", "other"] [])
    (h : WE X a Γ fun d1 Γ1 => WE X b Γ1 fun d2 Γ2 => ∃ fs c, d1 = .ins C fs ∧ Rgt X.K C d2 ∧ sp [d1, d2] (fun d => d = .bl c) ∧ QB c Γ2) (hm : behindInMarks .Eq b = false := by exact nomark _) : WT X (.Compare a [.Eq] [b] pos) Γ QB := fun σ F H k Q' po => by
  intro pins s I
  refine wpAny_isTrue_Compare1 ?_ hm
  let QV : VK := fun v H' => ∃ c, v = .bl c ∧ Q' c H'
  have key : ∀ pins' z1 σ' u1 u2, wpAny (model X.prog X.w) X.A (richCompare .Eq u1 u2) (EP X pins' σ' QV) X.xe z1 → wpAny (model X.prog X.w) X.A (compareOp .Eq u1 u2) (fun c s3 => wpAny (model X.prog X.w) X.A (truthy c) (fun r s4 => ∃ H', Inv X pins' σ' H' s4 ∧ Q' r H') X.xe s3) X.xe z1 := fun pins' z1 σ' u1 u2 z => thn z fun c s3 ⟨v, H3, I3, r3, kk, e, q3⟩ => by
    subst e
    cases r3
    exact wpAny_truthy_bool ⟨H3, I3, q3⟩
  refine h σ F H k (fun x H1 => ∀ pins' s1, Inv X pins' σ H1 s1 → ∀ u1, RelV x u1 → wpAny (model X.prog X.w) X.A (eval b X.env) (fun u s2 => wpAny (model X.prog X.w) X.A (richCompare .Eq u1 u) (EP X pins' σ QV) X.xe s2) X.xe s1) (fun d1 Γ1 v1 F1 H1 q1 s1 k1 r1 => ?_) pins s I |> fun z => thn z fun u1 s1 ⟨x, H1, I1, rx, q1⟩ => thn (q1 pins s1 I1 u1 rx) fun u2 s2 z2 => key _ _ _ _ _ z2
  intro pins' z1 I1 u1 rx
  refine thn (q1 σ F1 H1 k1 (fun y H2 => ∀ pins' z2, Inv X pins' σ H2 z2 → ∀ u2, RelV y u2 → wpAny (model X.prog X.w) X.A (richCompare .Eq u1 u2) (EP X pins' σ QV) X.xe z2) (fun d2 Γ2 v2 F2 H2 q2 s2 k2 r2 => ?_) pins' z1 I1) fun u2 z2 ⟨y, H2, I2, ry, q2⟩ => q2 pins' z2 I2 u2 ry
  intro pins2 z2 I2 u2 ry
  obtain ⟨fs, c, rfl, hR, sq, q⟩ := q2
  refine own_eq G hr hs hf hb k2 hR sq (r1.same s2.sf) r2 (fun d Γ' v F' H' ⟨e1, e2⟩ st ok' rd => ?_) pins2 z2 I2 u1 u2 rx ry
  subst e1 e2
  cases rd
  exact ⟨c, rfl, po c _ F' H' q ((s1.trans s2).trans st) ok'⟩
end
end K65
set_option maxHeartbeats 4000000
namespace K65
open PySem PySem.Spec PyProof.Rows L2 Gd Pu
def dWay (C : Addr) : List Int → Int → List D → (D → List Int → Int → Prop) → Prop := fun _ _ ds Q => ∃ ks ts w, ds = [tblD C ks ts, tS ks, typesP ts, .str (wayS w)] ∧ Tk ks ts ∧ ts.length ≤ 9 ∧ ∀ L' st', Q (.bl true) L' st'
/-- what stands when the costs are drawn -/
def WFr (C h l : Addr) (ks : List Str) (ts : List (Str × List Int)) (w : Way) (lots : List (List (List Int))) (cs : List Int) (Γ : List Ent) : Prop := ∃ (L : List Int) (st : Int) (y8 y9 y10 y11 y12 y13 : Ent),
  Γ = [.src h l L st, .v (tblD C ks ts), .v (tS ks), .v (typesP ts), .v (.str (wayS w)), .v (.lst ((itemsF w ks.length ts).map (itE w))), .v (.lst (lots.map fun its => .tup (its.map (itE w)))), .v (tI cs), y8, y9, y10, y11, y12, y13, .no, .no]
/-- the lots of the law -/
structure LotsOk (w : Way) (ks : List Str) (ts : List (Str × List Int)) (its : List (List Int)) : Prop where
  lot : Lot w ks ts its
  nd : its.Nodup
  l100 : its.length ≤ 100
theorem lot_io {w : Way} {ks : List Str} {ts : List (Str × List Int)} {its : List (List Int)} (tk : Tk ks ts) (h : Lot w ks ts its) : Its w its := .of tk.k8 tk.t12 tk.po.lo h.mem h.len
theorem sub_ok {w : Way} {ks : List Str} {ts : List (Str × List Int)} {its : List (List Int)} (tk : Tk ks ts) (h : its.Sublist (itemsF w ks.length ts)) : LotsOk w ks ts its := by
  have il := itemsF_len tk w
  exact ⟨lot_sub tk h (by omega), (itemsF_nd tk w).sublist h, Nat.le_trans h.length_le il⟩
theorem sh_it {w : Way} {its : List (List Int)} (io : Its w its) {l : List Int} (hl : l ∈ its) : Sh (itE w l) := by
  obtain ⟨a, b, c, _⟩ := it_small (w := w) (io.b l hl) (by
    by_cases hw : w = .acc
    · exact Nat.le_of_eq (io.a hw l hl)
    · have := io.n hw l hl
      omega)
  exact ⟨a, b, by omega⟩
theorem odd_lot {w : Way} {its : List (List Int)} (hl : its.length ≤ 1000) : OddOk (.tup (its.map (itE w))) := odd_tup (plain_its w its) (by rw [List.length_map]; exact hl)
theorem sh_bl (b : Bool) : Sh (.bl b) := ⟨rfl, rfl, by rw [py, PyData.depth]; decide⟩
theorem zip_bd {p : List Int × Int → Bool} (items : List (List Int)) {cs : List Int} (hc : ∀ c ∈ cs, 0 ≤ c ∧ c < 1000) : 0 ≤ (((items.zip cs).filter p).map (·.2)).sum ∧ (((items.zip cs).filter p).map (·.2)).sum ≤ 1000 * items.length := by
  induction items generalizing cs with
  | nil => simp
  | cons x r ih =>
    cases cs with
    | nil => simp; omega
    | cons c cs =>
      have h1 := hc c List.mem_cons_self
      have h2 := ih (cs := cs) fun y m => hc y (List.mem_cons_of_mem _ m)
      rw [List.zip_cons_cons, List.length_cons]
      by_cases hp : p (x, c) = true
      · rw [List.filter_cons_of_pos hp, List.map_cons, List.sum_cons]
        show 0 ≤ c + _ ∧ c + _ ≤ _
        omega
      · rw [List.filter_cons_of_neg hp]
        omega
section
variable {P : Program} {w : World} {K : PySem.W.Frag} {mg : Str → Option Value} {base : Heap}
theorem od_way_right {f fLI fIt fGr fD fLS fST fCo fRe fOd fLL fLC fE C : Addr} {fd fdLI fdIt fdGr fdD fdLS fdST fdCo fdRe fdOd fdLL fdLC fdE : FuncData} {k : Nat} (F : Fun K "_law_way_right" "_law_way_right" s__law_way_right f fd) (T : TTxt K mg C)
    (FLI : Fun K "_law_items" "_law_items" s__law_items fLI fdLI) (bLI : Binds K fdLI ["kinds", "types", "way"] []) (gLI : mg "_law_items" = some (.ref fLI)) (GLI : FnG P w K mg base k fLI fdLI ["kinds", "types", "way"] (spD K dLIt))
    (FIt : Fun K "items_for" "items_for" s_items_for fIt fdIt) (bIt : Binds K fdIt ["table", "way"] []) (kIt : KwB fdIt ["table", "way"] ["way", "table"] List.reverse) (gIt : mg "items_for" = some (.ref fIt)) (GIt : FnG P w K mg base k fIt fdIt ["table", "way"] (spD K (dItems C)))
    (FGr : Fun K "_law_greedy" "_law_greedy" s__law_greedy fGr fdGr) (bGr : Binds K fdGr ["heap", "kinds", "types", "way"] []) (gGr : mg "_law_greedy" = some (.ref fGr)) (GGr : FnG P w K mg base k fGr fdGr ["heap", "kinds", "types", "way"] (spS K dGre))
    (FD : Fun K "_law_draw" "_law_draw" s__law_draw fD fdD) (bD : Binds K fdD ["heap", "many"] []) (gD : mg "_law_draw" = some (.ref fD)) (GD : FnG P w K mg base k fD fdD ["heap", "many"] (spS K dDraw))
    (FLS : Fun K "_law_struck" "_law_struck" s__law_struck fLS fdLS) (bLS : Binds K fdLS ["types", "way", "items"] []) (gLS : mg "_law_struck" = some (.ref fLS)) (GLS : FnG P w K mg base k fLS fdLS ["types", "way", "items"] (spD K fun ds Q => ∃ ks ts w its, ds = [typesP ts, .str (wayS w), .tup (its.map (itE w))] ∧ Tk ks ts ∧ Its w its ∧ Q (typesP (struckF w its ts))))
    (FST : Fun K "struck_table" "struck_table" s_struck_table fST fdST) (bST : Binds K fdST ["table", "way", "items"] []) (kST : KwB fdST ["table", "way", "items"] ["items", "way", "table"] List.reverse) (gST : mg "struck_table" = some (.ref fST)) (GST : FnG P w K mg base k fST fdST ["table", "way", "items"] (spD K (dStT C)))
    (FCo : Fun K "strike_cost" "strike_cost" s_strike_cost fCo fdCo) (bCo : Binds K fdCo ["table", "way", "costs", "items"] []) (kCo : KwB fdCo ["table", "way", "costs", "items"] ["items", "costs", "way", "table"] List.reverse) (gCo : mg "strike_cost" = some (.ref fCo)) (GCo : FnG P w K mg base k fCo fdCo ["table", "way", "costs", "items"] (spD K (dCost C)))
    (FRe : Fun K "is_repair" "is_repair" s_is_repair fRe fdRe) (bRe : Binds K fdRe ["table", "way", "value"] []) (kRe : KwB fdRe ["table", "way", "value"] ["value", "way", "table"] List.reverse) (gRe : mg "is_repair" = some (.ref fRe)) (GRe : FnG P w K mg base k fRe fdRe ["table", "way", "value"] (spD K (dRep C)))
    (FOd : Fun K "_law_odd" "_law_odd" s__law_odd fOd fdOd) (bOd : Binds K fdOd ["heap", "lot", "items"] []) (gOd : mg "_law_odd" = some (.ref fOd)) (GOd : FnG P w K mg base k fOd fdOd ["heap", "lot", "items"] (spS K dOdd))
    (FLL : Fun K "_law_is_lot" "_law_is_lot" s__law_is_lot fLL fdLL) (bLL : Binds K fdLL ["kinds", "types", "way", "value"] []) (gLL : mg "_law_is_lot" = some (.ref fLL)) (GLL : FnG P w K mg base k fLL fdLL ["kinds", "types", "way", "value"] (spD K dLLot))
    (FLC : Fun K "_law_crossings" "_law_crossings" s__law_crossings fLC fdLC) (bLC : Binds K fdLC ["kinds", "types"] []) (gLC : mg "_law_crossings" = some (.ref fLC)) (GLC : FnG P w K mg base k fLC fdLC ["kinds", "types"] (spD K dLCr))
    (bE : Binds K fdE ["self", "other"] []) (hsE : PySem.W.findIn K (.ref C) "__eq__" = some (some (.ref fE))) (hfE : PySem.W.isFn K (.ref fE) = true) (GE : FnG P w K mg base k fE fdE ["self", "other"] (spD K (dEqT C))) (nfC : PySem.W.notFirst K C (.ref C) = true)
    (mp : mg "repr" = none) (mt : mg "tuple" = none) (mr : mg "range" = none) (mL : mg "list" = none) (mso : mg "sorted" = none) (mse : mg "set" = none) (msu : mg "sum" = none) : FnG P w K mg base (k + 1) f fd ["heap", "table", "kinds", "types", "way"] (spS K (dWay C)) := by
  refine okS F sc__law_way_right (fun L st ds Q h => ?_) fun cdv A out s H E hr h l L n ds Qp hs _ _ _ => ?_
  · obtain ⟨ks, ts, w, rfl, _⟩ := h
    rfl
  · obtain ⟨ks, ts, w, rfl, tk, t9, q⟩ := hs
    have nd := sc__law_way_right.nd
    have k8 := tk.k8
    have il := itemsF_len tk w
    have ii := its_items tk w
    have ni := itemsF_nd tk w
    have fi := fn_its ii
    have shI := sh_itsL ii
    refine wb_cons (ws_set 5 nd (we_call GLI hr gLI FLI.kp bLI (wa_cons (we_var 2 rfl (wa_cons (we_var 3 rfl (wa_cons (we_var 4 rfl (wa_nil ⟨ks, ts, w, rfl, tk, ?_⟩)))))))))
    refine wb_cons (ws_if (wt_ww (ww_or (wt_cmp op_ne pu_ne (we_repr hr mp (we_call GIt hr gIt FIt.kp bIt (wa_cons (we_var 1 rfl (wa_cons (we_var 4 rfl (wa_nil ⟨ks, ts, w, rfl, tk, fi, ⟨_, .inl rfl⟩, we_repr hr mp (we_tuple mt (we_var 5 rfl ⟨_, .lst _, fi, ⟨_, .inl rfl⟩, _, .str _ _, _, rfl, fun _ => ?_, fun hb => absurd hb (by simp)⟩))⟩)))))))))))
    refine ww_or1 (wt_cmp (op_neD hr.rm.units) pu_neV (we_callRv GIt hr gIt FIt.kp kIt (wk_cons (we_var 4 rfl (wk_cons (we_var 1 rfl (wk_nil ⟨rfl, ks, ts, w, rfl, tk, we_tuple mt (we_var 5 rfl ⟨_, .lst _, _, _, .same _, .same _, (fn_sh fi), (fn_sh fi), _, rfl, fun hb => absurd hb (by rw [eqv_self (noB_its _ _)]; decide), fun _ => wb_nil ?_⟩)⟩)))))))
    refine wb_cons (ws_set 6 nd (we_new (wn_lst (wa_cons (we_callS 0 GGr hr gGr FGr.kp bGr (wa_cons (we_src 0 rfl (wa_cons (we_var 2 rfl (wa_cons (we_var 3 rfl (wa_cons (we_var 4 rfl (wa_nil ⟨h, l, L, n, _, rfl, rfl, ks, ts, w, rfl, tk, t9, fun i0 L1 st1 lot0 nd0 l0 e0 => ?_⟩))))))))))))))
    refine wa_cons (we_tuple mt (we_new (wn_lc (own := [("item", 14)]) (g := gName 14) nd (blkOk_by (own := [("item", 14)]) (N := n__law_way_right) (sc := defScope s__law_way_right) (by decide +kernel)) (fun _ _ _ _ _ => pg_name (i := 14) nd rfl (Or.inl rfl))
      (wi_lst (we_var 5 rfl ⟨_, rfl, fun i acc Γ => ∃ (L : List Int) (st : Int) (sub : List (List Int)), Γ = [.src h l L st, .v (tblD C ks ts), .v (tS ks), .v (typesP ts), .v (.str (wayS w)), .v (.lst ((itemsF w ks.length ts).map (itE w))), .no, .no, .no, .no, .no, .no, .no, .no, .no, .no] ∧ acc = sub.map (itE w) ∧ sub.Sublist ((itemsF w ks.length ts).take i), ⟨L1, st1, [], rfl, rfl, List.nil_sublist _⟩, ?_, ?_, ?_⟩)))))
    · rintro i acc Γ hi ⟨L2, st2, sub, rfl, rfl, hs⟩
      refine ⟨trivial, ?_⟩
      have := hs.length_le
      rw [List.length_take] at this
      rw [List.length_map]
      omega
    · rintro i acc d Γ hd ⟨L2, st2, sub, rfl, rfl, hs⟩
      obtain ⟨it, hit, rfl⟩ := map_get hd
      refine ⟨_, tg_name 14, fun _ _ _ _ _ => wts_one (wt_cmp op_eq pu_eq (we_callS 0 GD hr gD FD.kp bD (wa_cons (we_src 0 rfl (wa_cons (we_int (wa_nil ⟨h, l, L2, st2, _, rfl, rfl, 3, rfl, by decide, by decide, fun r L3 st3 _ _ => we_int ⟨_, .int _ _, _, rfl, fun _ => fun _ _ _ _ _ => we_var 14 rfl ⟨L3, st3, sub ++ [it], rfl, ?_, ?_⟩, fun _ => ⟨L3, st3, sub, rfl, rfl, ?_⟩⟩⟩)))))))⟩
      · rw [List.map_append]
        rfl
      · rw [take_snoc hit]
        exact hs.append (List.Sublist.refl _)
      · rw [take_snoc hit]
        exact hs.trans (List.sublist_append_left _ _)
    · rintro acc Γ ⟨L2, st2, i1, rfl, rfl, hs1⟩
      rw [List.length_map, List.take_length] at hs1
      refine ⟨_, .lst _, ?_⟩
      refine wa_cons (we_tuple mt (we_var 5 rfl ⟨_, .lst _, ?_⟩))
      refine wa_cons ?_
      refine we_tup0 ?_
      refine wa_nil ⟨lk, ?_⟩
      have ok1 : LotsOk w ks ts i1 := sub_ok tk hs1
      have ok2 : LotsOk w ks ts (itemsF w ks.length ts) := sub_ok tk (List.Sublist.refl _)
      have ok3 : LotsOk w ks ts [] := sub_ok tk (List.nil_sublist _)
      have ok0 : LotsOk w ks ts i0 := ⟨lot0, nd0, l0⟩
      have oks : ∀ its ∈ [i0, i1, itemsF w ks.length ts, []], LotsOk w ks ts its := fun its m => by
        simp only [List.mem_cons, List.not_mem_nil, or_false] at m
        rcases m with e | e | e | e <;> rw [e] <;> assumption
      refine wb_cons (ws_set 7 nd (we_tuple mt (we_new (wn_lc (own := [("item", 14)]) (g := gName 14) nd (blkOk_by (own := [("item", 14)]) (N := n__law_way_right) (sc := defScope s__law_way_right) (by decide +kernel)) (fun _ _ _ _ _ => pg_name (i := 14) nd rfl (Or.inl rfl))
        (wi_lst (we_var 5 rfl ⟨_, rfl, fun i acc Γ => ∃ (L : List Int) (st : Int) (cs : List Int), Γ = [.src h l L st, .v (tblD C ks ts), .v (tS ks), .v (typesP ts), .v (.str (wayS w)), .v (.lst ((itemsF w ks.length ts).map (itE w))), .v (.lst ([i0, i1, itemsF w ks.length ts, []].map fun its => .tup (its.map (itE w)))), .no, .no, .no, .no, .no, .no, .no, .no, .no] ∧ acc = cs.map .int ∧ cs.length = i ∧ ∀ c ∈ cs, 0 ≤ c ∧ c < 1000, ⟨L2, st2, [], rfl, rfl, rfl, nofun⟩, ?_, ?_, ?_⟩))))))
      · rintro i acc Γ hi ⟨L3, st3, cs, rfl, rfl, hl, hc⟩
        refine ⟨trivial, ?_⟩
        rw [List.length_map] at hi ⊢
        omega
      · rintro i acc d Γ hd ⟨L3, st3, cs, rfl, rfl, hl, hc⟩
        refine ⟨_, tg_name 14, fun _ _ _ _ _ => wts_nil ⟨fun _ => fun _ _ _ _ _ => we_callS 0 GD hr gD FD.kp bD (wa_cons (we_src 0 rfl (wa_cons (we_int (wa_nil ⟨h, l, L3, st3, _, rfl, rfl, 9, rfl, by decide, by decide, fun r L4 st4 r0 r9 => ⟨L4, st4, cs ++ [r], rfl, ?_, ?_, ?_⟩⟩))))), nofun⟩⟩
        · rw [List.map_append]
          rfl
        · rw [List.length_append, hl]
          rfl
        · intro c hc2
          rcases List.mem_append.mp hc2 with hc2 | hc2
          · exact hc c hc2
          · rw [List.mem_singleton.mp hc2]
            omega
      · rintro acc Γ ⟨L3, st3, cs, rfl, rfl, hl, hc⟩
        rw [List.length_map] at hl
        refine ⟨_, .lst _, ?_⟩
        generalize hL : [i0, i1, itemsF w ks.length ts, []] = lots at oks ⊢
        refine wb_cut (WFr C h l ks ts w lots cs) ?_ ?_
        · refine ws_for [8] (pg_name (i := 8) nd rfl (.inl rfl)) (wi_lst (we_var 6 rfl ⟨_, rfl, fun _ => WFr C h l ks ts w lots cs, ⟨L3, st3, _, _, _, _, _, _, rfl⟩, fun _ _ _ _ => trivial, ?_, fun Γ q => q⟩))
          rintro i d Γ hd ⟨L4, st4, y8, y9, y10, y11, y12, y13, rfl⟩
          obtain ⟨its, hit, rfl⟩ := map_get hd
          have ok := oks its (List.mem_of_getElem? hit)
          have io := lot_io tk ok.lot
          have tks := tk.struck w its
          have fp := fn_parts tks
          refine ⟨_, tg_name 8, ?_⟩
          refine wb_cons (ws_set 9 nd (we_call GLS hr gLS FLS.kp bLS (wa_cons (we_var 3 rfl (wa_cons (we_var 4 rfl (wa_cons (we_var 8 rfl (wa_nil ⟨ks, ts, w, its, rfl, tk, io, ?_⟩)))))))))
          refine wb_cons (ws_set 10 nd (we_call GST hr gST FST.kp bST (wa_cons (we_var 1 rfl (wa_cons (we_var 4 rfl (wa_cons (we_var 8 rfl (wa_nil ⟨ks, ts, w, its, rfl, tk, io, ?_⟩)))))))))
          refine wb_cons (ws_if (wt_ww (ww_or (wt_cmp op_ne pu_ne (we_repr hr mp (we_tup (wa_cons (we_fld (we_var 10 rfl ⟨C, _, _, rfl, T.cl, T.nK, lk_k, wa_cons (we_fld (we_var 10 rfl ⟨C, _, _, rfl, T.cl, T.nT, lk_t, wa_nil ⟨lk, fp, ⟨_, .inl rfl⟩, we_repr hr mp (we_tup (wa_cons (we_var 2 rfl (wa_cons (we_var 9 rfl (wa_nil ⟨lk, fp, ⟨_, .inl rfl⟩, _, .str _ _, _, rfl, fun _ => ?_, fun hb => absurd hb (by simp)⟩))))))⟩⟩))⟩)))))))))
          refine ww_or1 (wt_not (wt_eqO GE hr hsE hfE bE (we_callRv GST hr gST FST.kp kST (wk_cons (we_var 8 rfl (wk_cons (we_var 4 rfl (wk_cons (we_var 1 rfl (wk_nil ⟨rfl, ks, ts, w, its, rfl, tk, io, we_var 10 rfl ⟨_, true, rfl, .ins C _ nfC, ⟨ks, struckF w its ts, rfl, tks, rfl⟩, fun hb => absurd hb (by decide), fun _ => wb_nil ?_⟩⟩))))))))))
          have idx : ∀ l ∈ its, (cs.map D.int)[(itemsF w ks.length ts).idxOf l]? = some (.int (cs.getD ((itemsF w ks.length ts).idxOf l) 0)) := fun l hl2 => by
            have := List.idxOf_lt_length_of_mem (ok.lot.mem l hl2)
            rw [List.getElem?_map, List.getD_eq_getElem?_getD, List.getElem?_eq_getElem (by omega)]
            rfl
          refine wb_cons (ws_set 11 nd (we_sum msu (we_new (wn_lc (own := [("item", 14)]) (g := gName 14) nd (blkOk_by (own := [("item", 14)]) (N := n__law_way_right) (sc := defScope s__law_way_right) (by decide +kernel)) (fun _ _ _ _ _ => pg_name (i := 14) nd rfl (Or.inl rfl))
            (lcm (itE w) (fun l => .int (cs.getD ((itemsF w ks.length ts).idxOf l) 0)) (wi_tup (we_var 8 rfl ⟨_, rfl, its, rfl, rfl, trivial, by have := ok.l100; omega, fun j it hj => ⟨_, tg_name 14, rfl, fun _ _ _ _ _ => ?_⟩, ?_⟩)))))))
          · have mi := List.mem_of_getElem? hj
            obtain ⟨a1, a2, a3⟩ := item_at ii (ok.lot.mem it mi)
            exact we_ix (we_var 7 rfl (we_index (u65 hr) (we_var 5 rfl ⟨_, rfl, we_var 14 rfl ⟨_, _, _, .same _, shI, sh_it ii (ok.lot.mem it mi), a1, a2, a3, _, _, _, .tup _, rfl, atI_nat (idx it mi), rfl, rfl⟩⟩)))
          · refine ⟨its.map fun l => cs.getD ((itemsF w ks.length ts).idxOf l) 0, ?_, ?_⟩
            · rw [show (its.map fun l => D.int (cs.getD ((itemsF w ks.length ts).idxOf l) 0)) = (its.map fun l => cs.getD ((itemsF w ks.length ts).idxOf l) 0).map .int by rw [List.map_map]; rfl]
              exact .lst _
            · have es := sum_lot ni hl ok.nd ok.lot.mem
              rw [← es]
              have bd := zip_bd (p := fun p => decide (p.1 ∈ its)) (itemsF w ks.length ts) hc
              generalize hS : ((((itemsF w ks.length ts).zip cs).filter fun p => decide (p.1 ∈ its)).map (·.2)).sum = S at bd
              refine wb_one (ws_if (wt_ww (ww_or (wt_cmp op_ne pu_ne (we_reprI mp (we_call GCo hr gCo FCo.kp bCo (wa_cons (we_var 1 rfl (wa_cons (we_var 4 rfl (wa_cons (we_var 7 rfl (wa_cons (we_var 8 rfl (wa_nil ⟨ks, ts, w, cs, its, rfl, tk, io, hl, hc, _, rfl, ?_, we_reprI mp (we_var 11 rfl ⟨_, rfl, ?_, _, .str _ _, _, rfl, fun _ => ?_, fun hb => absurd hb (by rw [hS]; simp)⟩)⟩)))))))))))))))
              · rw [hS]; omega
              · omega
              · refine ww_or1 (wt_cmp op_ne pu_ne (we_callRv GCo hr gCo FCo.kp kCo (wk_cons (we_var 8 rfl (wk_cons (we_var 7 rfl (wk_cons (we_var 4 rfl (wk_cons (we_var 1 rfl (wk_nil ⟨rfl, ks, ts, w, cs, its, rfl, tk, io, hl, hc, we_var 11 rfl ⟨_, .int _ _, _, rfl, fun hb => absurd hb (by rw [hS]; simp), fun _ => wb_nil ⟨L4, st4, _, _, _, _, _, _, rfl⟩⟩⟩)))))))))))
        · rintro Γ ⟨L4, st4, y8, y9, y10, y11, y12, y13, rfl⟩
          subst hL
          have r0 : repB w ks ts (.tup (i0.map (itE w))) = true := by rw [lot0.rep tk, e0]; rfl
          have r2 : repB w ks ts (.tup ((itemsF w ks.length ts).map (itE w))) = true := by rw [ok2.lot.rep tk, all_struck tk.po.lo fun l h => h]; rfl
          obtain ⟨p0, z0⟩ := odd_lot (w := w) (its := i0) (by omega)
          obtain ⟨p2, z2⟩ := odd_lot (w := w) (its := itemsF w ks.length ts) (by omega)
          refine wb_cons (ws_if (wt_ww (ww_or (wt_cmp op_isnot_bl pu_isntB (we_call GRe hr gRe FRe.kp bRe (wa_cons (we_var 1 rfl (wa_cons (we_var 4 rfl (wa_cons (we_ix (we_var 6 rfl (we_int ⟨_, _, _, .lst _, rfl, rfl, wa_nil ⟨ks, ts, w, _, rfl, tk, p0, z0, we_bl ⟨_, _, rfl, rfl, _, rfl, fun _ => ?_, fun hb => absurd hb (by rw [r0]; decide)⟩⟩⟩)))))))))))))
          refine ww_or1 (wt_cmp op_isnot_bl pu_isntB (we_call GRe hr gRe FRe.kp bRe (wa_cons (we_var 1 rfl (wa_cons (we_var 4 rfl (wa_cons (we_ix (we_var 6 rfl (we_int ⟨_, _, _, .lst _, rfl, rfl, wa_nil ⟨ks, ts, w, _, rfl, tk, p2, z2, we_bl ⟨_, _, rfl, rfl, _, rfl, fun hb => absurd hb (by rw [r2]; decide), fun _ => wb_nil ?_⟩⟩⟩))))))))))
          refine wb_cut (WFr C h l ks ts w [i0, i1, itemsF w ks.length ts, []] cs) ?_ ?_
          · refine ws_for [12] (pg_name (i := 12) nd rfl (.inl rfl)) (wi_lst (we_new (wn_addL (we_var 6 rfl (we_new (wn_lc (own := [("turn", 15)]) (g := gName 15) nd (blkOk_by (own := [("turn", 15)]) (N := n__law_way_right) (sc := defScope s__law_way_right) (by decide +kernel)) (fun _ _ _ _ _ => pg_name (i := 15) nd rfl (Or.inl rfl))
              (wi_rng1 mr (we_int ⟨4, rfl, by decide, fun i acc Γ => ∃ (L : List Int) (st : Int), Γ = [.src h l L st, .v (tblD C ks ts), .v (tS ks), .v (typesP ts), .v (.str (wayS w)), .v (.lst ((itemsF w ks.length ts).map (itE w))), .v (.lst ([i0, i1, itemsF w ks.length ts, []].map fun its => .tup (its.map (itE w)))), .v (tI cs), y8, y9, y10, y11, y12, y13, .no, .no] ∧ acc.length = i ∧ ∀ d ∈ acc, OddOk d, ⟨L4, st4, rfl, rfl, nofun⟩, ?_, ?_, ?_⟩))))))))
            · rintro i acc Γ hi ⟨L5, st5, rfl, hl5, _⟩
              rw [rngD_len] at hi
              exact ⟨trivial, by omega⟩
            · rintro i acc d Γ hd ⟨L5, st5, rfl, hl5, ho⟩
              refine ⟨_, tg_name 15, fun _ _ _ _ _ => wts_nil ⟨fun _ => fun _ _ _ _ _ => we_callS 0 GOd hr gOd FOd.kp bOd (wa_cons (we_src 0 rfl (wa_cons (we_ix (we_var 6 rfl (we_int ⟨_, _, _, .lst _, rfl, rfl, wa_cons (we_var 5 rfl (wa_nil ⟨h, l, L5, st5, _, rfl, rfl, ks, ts, w, i0, rfl, tk, t9, lot0, l0, fun x L6 st6 hx => ⟨L6, st6, rfl, ?_, ?_⟩⟩))⟩)))))), nofun⟩⟩
              · rw [List.length_append, hl5]
                rfl
              · intro y hy
                rcases List.mem_append.mp hy with hy | hy
                · exact ho y hy
                · rw [List.mem_singleton.mp hy]
                  exact hx
            · rintro acc Γ ⟨L5, st5, rfl, hl5, ho⟩
              rw [rngD_len] at hl5
              refine ⟨_, acc, .lst _, .lst _, by rw [List.length_map, hl5]; show 4 + Int.toNat 4 ≤ 100000; decide, _, rfl, fun _ => WFr C h l ks ts w [i0, i1, itemsF w ks.length ts, []] cs, ⟨L5, st5, _, _, _, _, _, _, rfl⟩, fun _ _ _ _ => trivial, ?_, fun Γ q => q⟩
              rintro i d Γ hd ⟨L6, st6, y8, y9, y10, y11, y12, y13, rfl⟩
              have od : OddOk d := by
                rcases List.mem_append.mp (List.mem_of_getElem? hd) with m | m
                · obtain ⟨its, mi, rfl⟩ := List.mem_map.mp m
                  exact odd_lot (by have := (oks its mi).l100; omega)
                · exact ho d m
              refine ⟨_, tg_name 12, ?_⟩
              obtain ⟨pd, dl⟩ := od
              have rd := rep_due w ks ts d
              refine wb_cut (fun Γ => Γ = [.src h l L6 st6, .v (tblD C ks ts), .v (tS ks), .v (typesP ts), .v (.str (wayS w)), .v (.lst ((itemsF w ks.length ts).map (itE w))), .v (.lst ([i0, i1, itemsF w ks.length ts, []].map fun its => .tup (its.map (itE w)))), .v (tI cs), y8, y9, y10, .v (.bl (repB w ks ts d)), .v d, y13, .no, .no]) ?_ ?_
              · refine ws_set 11 nd (we_and (we_call GLL hr gLL FLL.kp bLL (wa_cons (we_var 2 rfl (wa_cons (we_var 3 rfl (wa_cons (we_var 4 rfl (wa_cons (we_var 12 rfl (wa_nil ⟨ks, ts, w, d, rfl, tk, pd, dl, _, rfl, fun hc => ?_, fun hc => ?_⟩)))))))))))
                · obtain ⟨e, m⟩ := areB_dec hc
                  have io : Its w (decW w d) := .of k8 tk.t12 tk.po.lo m (decW_len dl)
                  have t9s : (struckF w (decW w d) ts).length ≤ 9 := by rw [struckF_len]; exact t9
                  refine we_one (we_cmp (op_eqD hr.rm.units) pu_eqV (we_call GLC hr gLC FLC.kp bLC (wa_cons (we_var 2 rfl (wa_cons (we_call GLS hr gLS FLS.kp bLS (wa_cons (we_var 3 rfl (wa_cons (we_var 4 rfl (wa_cons (we_var 12 rfl (wa_nil ⟨ks, ts, w, decW w d, by rw [← e], tk, io, wa_nil ⟨ks, _, rfl, k8, t9s, we_new (wn_lst (wa_nil ⟨lk, _, _, .same _, .same _, sh_crs fun c hc => cr1_bd k8 (by rw [struckF_len]; exact tk.t12) hc, sh_nil, ?_⟩))⟩⟩)))))))))))))
                  rw [eqv_nilL, List.isEmpty_map]
                  rw [hc, Bool.true_and] at rd
                  rw [← rd]
                  rfl
                · rw [hc, Bool.false_and] at rd
                  rw [rd]
                  rfl
              · rintro Γ rfl
                have sb := sh_bl (repB w ks ts d)
                refine wb_one (ws_if (wt_ww (ww_or (wt_cmp op_ne pu_ne (we_reprB mp (we_call GRe hr gRe FRe.kp bRe (wa_cons (we_var 1 rfl (wa_cons (we_var 4 rfl (wa_cons (we_var 12 rfl (wa_nil ⟨ks, ts, w, d, rfl, tk, pd, dl, _, rfl, we_reprB mp (we_var 11 rfl ⟨_, rfl, _, .str _ _, _, rfl, fun _ => ?_, fun hb => absurd hb (by simp)⟩)⟩)))))))))))))
                refine ww_or1 (wt_cmp (op_neD hr.rm.units) pu_neV (we_callRv GRe hr gRe FRe.kp kRe (wk_cons (we_var 12 rfl (wk_cons (we_var 4 rfl (wk_cons (we_var 1 rfl (wk_nil ⟨rfl, ks, ts, w, d, rfl, tk, pd, dl, we_var 11 rfl ⟨_, _, .same _, .same _, sb, sb, _, rfl, fun hb => absurd hb (by cases repB w ks ts d <;> decide), fun _ => wb_nil ⟨L6, st6, _, _, _, _, _, _, rfl⟩⟩⟩)))))))))
          · rintro Γ ⟨L6, st6, y8, y9, y10, y11, y12, y13, rfl⟩
            have sub : ∀ l ∈ i0 ++ i1, l ∈ itemsF w ks.length ts := fun l hl2 => (List.mem_append.mp hl2).elim (ok0.lot.mem l) (ok1.lot.mem l)
            have l01 : i0.length + i1.length ≤ 100000 := by have := ok1.l100; omega
            by_cases hw : w = .acc
            · subst hw
              refine wb_cons (ws_set 13 nd ?_)
              refine we_tuple mt (we_new (ssetP_of hr _ _ _ _ _ _ _ mso mse rfl rfl rfl rfl rfl rfl rfl (we_new (wn_addL (we_new (wn_list mL (we_ix (we_var 6 rfl (we_int ⟨_, _, _, .lst _, rfl, rfl, _, .tup _, we_new (wn_list mL (we_ix (we_var 6 rfl (we_int ⟨_, _, _, .lst _, rfl, rfl, _, .tup _, _, _, .lst _, .lst _, by rw [List.length_map, List.length_map]; exact l01, (i0 ++ i1).map (fun l => (l.getD 0 0, l.getD 1 0)), (itemsF .acc ks.length ts).map (fun l => (l.getD 0 0, l.getD 1 0)), ?_, ?_, ?_, ?_, ?_, fun qs _ _ _ => ⟨_, .lst _, ?_⟩⟩))))⟩)))))))))
              · rw [← List.map_append]
                have bk := pairs_back sub
                have : (i0 ++ i1).map (itE .acc) = ((i0 ++ i1).map fun l => (l.getD 0 0, l.getD 1 0)).map Pu.prD := by
                  conv => lhs; rw [bk]
                  rw [List.map_map]
                  rfl
                rw [this]
                exact .lst _
              · rw [List.length_map, List.length_append]
                have := ok1.l100
                omega
              · rw [List.length_map]
                have := items_acc_len tk t9
                omega
              · intro p hp
                obtain ⟨l, hl2, rfl⟩ := List.mem_map.mp hp
                exact List.mem_map.mpr ⟨l, sub l hl2, rfl⟩
              · intro p hp
                obtain ⟨l, hl2, rfl⟩ := List.mem_map.mp hp
                obtain ⟨i, k, hi, hk, rfl⟩ := mem_accF.mp (sub l hl2)
                have t12 := tk.t12
                have := (lotT_in tk.po.lo i).2 k hk
                show 0 ≤ (i : Int) ∧ (i : Int) < 100 ∧ 0 ≤ k ∧ k < 100
                omega
              · exact wb_one (ws_ret (we_or (we_cmp op_eq pu_eq (we_var 4 rfl (we_str ⟨_, .str _ _, _, rfl, fun hf => absurd hf (by decide +kernel), fun _ => ⟨L6, st6, rfl, q L6 st6⟩⟩)))))
            · have bk := ints_back hw sub
              have em : (i0 ++ i1).map (itE w) = ((i0 ++ i1).map fun l => l.getD 0 0).map .int := by
                conv => lhs; rw [bk]
                exact itE_ints hw _
              have few : ((i0 ++ i1).map fun l => l.getD 0 0).length < 64 := by
                have a0 := nodup_le nd0 ok0.lot.mem
                have a1 := nodup_le ok1.nd ok1.lot.mem
                have a2 : (itemsF w ks.length ts).length ≤ 12 := by
                  have t12 := tk.t12
                  cases w with
                  | acc => exact absurd rfl hw
                  | kinds => have := (numsN_ok ks.length).len; rw [itemsF, List.length_map]; omega
                  | types => have := (numsN_ok ts.length).len; rw [itemsF, List.length_map]; omega
                rw [List.length_map, List.length_append]
                omega
              refine wb_cons (ws_set 13 nd ?_)
              refine we_tuple mt (we_new (wn_sset mso mse (we_new (wn_addL (we_new (wn_list mL (we_ix (we_var 6 rfl (we_int ⟨_, _, _, .lst _, rfl, rfl, _, .tup _, we_new (wn_list mL (we_ix (we_var 6 rfl (we_int ⟨_, _, _, .lst _, rfl, rfl, _, .tup _, _, _, .lst _, .lst _, by rw [List.length_map, List.length_map]; exact l01, (i0 ++ i1).map (fun l => l.getD 0 0), ?_, few, fun ms hms hmem => ⟨_, .lst _, ?_⟩⟩))))⟩)))))))))
              · rw [← List.map_append, em]
                exact .lst _
              · have mq : ∀ l, l ∈ ms.map ([·]) ↔ l ∈ i0 ++ i1 := fun l => by
                  rw [bk]
                  constructor
                  · intro z
                    obtain ⟨x, hx, rfl⟩ := List.mem_map.mp z
                    exact List.mem_map.mpr ⟨x, (hmem x).mp hx, rfl⟩
                  · intro z
                    obtain ⟨x, hx, rfl⟩ := List.mem_map.mp z
                    exact List.mem_map.mpr ⟨x, (hmem x).mpr hx, rfl⟩
                have ml : ms.length ≤ 1000 := by
                  have := nodup_leG (hms.imp fun {a b} h e => by omega) fun x hx => (hmem x).mp hx
                  omega
                have lm := lot_ints hw (fun x hx => sub _ ((mq _).mp (List.mem_map.mpr ⟨x, hx, rfl⟩))) (asc_of_sorted (hms.imp fun {a b} h => by omega) (hms.imp fun {a b} h e => by omega)) ml
                have rp : repB w ks ts (.tup (ms.map .int)) = true := by
                  rw [← itE_ints hw ms, lm.rep tk, more_struck hw e0 fun l hl2 => (mq l).mpr (List.mem_append_left _ hl2)]
                  rfl
                obtain ⟨pm, zm⟩ := odd_lot (w := w) (its := ms.map ([·])) (by rw [List.length_map]; exact ml)
                rw [itE_ints hw] at pm zm
                refine wb_one (ws_ret (we_or (we_cmp op_eq pu_eq (we_var 4 rfl (we_str ⟨_, .str _ _, _, rfl, fun _ => ?_, fun hf => absurd hf ?_⟩)))))
                · refine we_one (we_cmp _root_.L2.op_is_bl pu_isB (we_call GRe hr gRe FRe.kp bRe (wa_cons (we_var 1 rfl (wa_cons (we_var 4 rfl (wa_cons (we_var 13 rfl (wa_nil ⟨ks, ts, w, _, rfl, tk, pm, zm, we_bl ⟨_, _, rfl, rfl, L6, st6, rfl, ?_⟩⟩)))))))))
                  rw [rp]
                  exact q L6 st6
                · cases w <;> first | exact absurd rfl hw | decide +kernel
end
end K65
namespace K65
open PySem PySem.Spec PyProof.Rows L2 Gd Pu
/-! Rules for the law's own body: its source, what it hears. -/
/-- an expression with lambdas -/
def WEL (X : Cx) (T : List (Addr × Str)) (e : Expr) (Γ : List Ent) (Q : D → List Ent → Prop) : Prop := ∀ σ F H, Ok X.K F H σ Γ → LamX.Tabs T H → ∀ Q' : VK, (∀ d Γ1 v F1 H1, Q d Γ1 → Ok X.K F1 H1 σ Γ1 → LamX.Tabs T H1 → Re X.K F1 d v → Q' v H1) → sE X e σ H Q'
theorem tabs_own {T : List (Addr × Str)} {H : Hp} {p : Addr} {o : HO} (t : LamX.Tabs T H) (n : H p = none) : LamX.Tabs T (upd H p o) := fun q hq => (t q hq).ext fun b x e => (upd_ne (ne_of_none e n)).trans e
section
variable {X : Cx} {T : List (Addr × Str)} {e : Expr} {p p2 pos pos' lpos : Pos} {x y : Str} {Γ : List Ent} {E : Eds} {k : Nat}
/-- x = _law_heap(e) -/
theorem ws_heap (i : Nat) {f : Addr} {fd : FuncData} (G : FnG X.prog X.w X.K X.mg X.base k f fd ["script"] (spHeap X.K)) (hr : RmG k X.A) (hm : X.mg y = some (.ref f)) (hk : PySem.W.keepIn X.K (.ref f) = true) (hb : Binds X.K fd ["script"] []) (hN : X.N.Nodup)
    (h : WE X e Γ fun d Γ1 => ∃ ns : List Int, d = .scr (ns.map .int) ∧ ns.length ≤ 63 ∧ ∀ h l L st, E.nx (Γ1.set i (.src h l L st))) (hg : Gl X y := by rfl) (h1 : (y == ("__debug__" : Str)) = false := by decide)
    (h2 : starEach [e] X.env = (false, eval e X.env) :: starEach [] X.env := by rfl) (h3 : (backTo pos (starEach [] X.env)).any (·.1) = false := by rfl)
    (hi : X.N[i]? = some x := by rfl) (hx : Loc X.env.scope x := by first | exact .inl rfl | exact .inr rfl) (hs : swapsWith (.Call (.Name y p2) [e] [] pos) (some (.Name x pos')) p.line X.env = pure false := by rfl) (hf : X.fn x = true ∨ X.env.scope.names.lookup x = some .local := by first | exact .inl rfl | exact .inr rfl) :
    WS X (.Assign [.Name x pos'] (.Call (.Name y p2) [e] [] pos) p) Γ E := fun σ F H k Dn po => by
  refine sS_of (ps_set hN hi hx (pe_callG (E := fun _ _ _ => False) G hr hg hm hk hb .nil (pa_cons pe_s pa_nil h2) h1 h2 h3) hs hf) (h σ F H k _ fun d Γ1 v F1 H1 q1 s1 k1 r1 => ?_)
  obtain ⟨ns, rfl, l63, q⟩ := q1
  cases r1 with
  | @scr a us _ hs ra =>
    have := ra.ints
    subst this
    refine ⟨a, ns, rfl, same_sqL k1.same hs, l63, fun G h l L st sm nh nl hv => ?_⟩
    have k2 : Ok X.K F1 G σ Γ1 := k1.keep (.refl _) (k1.same.trans sm) fun b m => ⟨(k1.has m).1, fun x hx => sm _ _ hx⟩
    have ft : ∀ b ∈ foot (.src h l L st), H1 b = none := fun b m => by
      rcases List.mem_cons.mp m with e | m
      · rw [e]; exact nh
      · rw [List.mem_singleton.mp m]; exact nl
    have st2 : Step F1 H1 (foots Γ1) F1 G (foots (Γ1.set i (.src h l L st))) := ⟨.refl _, fun b o _ hb => sm _ _ hb, fun b hb => ?_, fun _ _ _ e => e, fun b m => (foots_set_mem m).elim (fun z => .inr (ft b z)) .inl⟩
    · exact po.nx _ _ F1 G (q h l L st) (s1.trans st2) (k2.set ⟨rfl, k1.same.free nh, k1.same.free nl, hv⟩ (List.nodup_cons.mpr ⟨fun z => hv.ne (List.mem_singleton.mp z).symm, List.nodup_cons.mpr ⟨nofun, List.nodup_nil⟩⟩) fun b m z => (k1.has z).2 (ft b m))
    · cases e : H1 b with
      | none => exact absurd e hb
      | some o => rw [sm _ _ e]; exact nofun
/-- _law_heard(lambda: ..), in which the way is refused -/
theorem wel_hd {CW CF CD fH c Pt : Addr} {fdH : FuncData} {params : Arguments} {body : Expr} {scope : Scope} {t : XK → TE} (FH : Fun X.K "_law_heard" "_law_heard" s__law_heard fH fdH) (bH : Binds X.K fdH ["action"] []) (hg : Gl X "_law_heard") (gH : X.mg "_law_heard" = some (.ref fH)) (TH : HTxt X.K X.mg CW CF CD) (mI : X.mg "isinstance" = none)
    (L : LamT T X.base X.mg c Pt (X.env.qual ++ "<lambda>")) (hcode : X.env.code = .ref c) (hr : Room (k + 2) X.A) (hl : LamX.LamS X.env.scope scope)
    (hbody : ∀ (A : Around) (outer : List Env) (s : Shared) (H : Hp) (E : XK) (f c' : Addr), Room k (A.deeper (LamX.lamEnv X scope s.heap.objs.size f c')) → PE (LamX.lamCx X A outer s H E scope f c') body (t E))
    (bad : ∀ σ F H, Ok X.K F H σ Γ → ∀ (E : XK) (Q' : VK), (∀ dd G, H dd = none → Same H G → G dd = some (xdS "way") → E (.ref CF) (some dd) G) → t E σ H Q') {Q : D → List Ent → Prop} (q : Q (.str "way") Γ)
    (hdef : defaultsOf params X.env = ([], []) := by rfl) (hbind : ∀ (q : Str) (cl : List (Str × Addr)) (pm cv ctv : Value), bindArgs (PySem.W.kla_fn "<lambda>" q params body scope cl pm cv ctv) ⟨[], []⟩ = pure [] := by intros; rfl) :
    WEL X T (.Call (.Name "_law_heard" p) [.Lambda params body scope lpos] [] pos) Γ Q := fun σ F H k0 t0 Q' po => by
  refine sE_of (pe_hd FH bH hg gH TH mI L hcode hr hl hbody hdef hbind) ⟨t0, fun H1 e1 t1 => ?_⟩
  have k1 := k0.ext e1
  refine bad σ _ H1 k1 _ _ fun dd G n s hx => ⟨dd, rfl, "way", hx, rfl, ?_⟩
  exact po _ Γ _ _ G q (k1.keep (.refl _) (k1.same.trans s) fun b m => ⟨(k1.has m).1, fun x hx => s _ _ hx⟩) (fun p hp => (t1 p hp).ext s) (.str _)
/-- x = [e] -/
theorem wsl_lst1 (i : Nat) (hN : X.N.Nodup) (h : WEL X T e Γ fun d Γ1 => ∀ a, E.nx (Γ1.set i (.l a [d]))) (h2 : starEach [e] X.env = (false, eval e X.env) :: starEach [] X.env := by rfl)
    (hi : X.N[i]? = some x := by rfl) (hx : Loc X.env.scope x := by first | exact .inl rfl | exact .inr rfl) (hs : swapsWith (.List [e] pos) (some (.Name x pos')) p.line X.env = pure false := by rfl) (hf : X.fn x = true ∨ X.env.scope.names.lookup x = some .local := by first | exact .inl rfl | exact .inr rfl) :
    WSL X T (.Assign [.Name x pos'] (.List [e] pos) p) Γ E := fun σ F H k t Dn po => by
  refine sS_of (ps_set hN hi hx (pe_lst (pa_cons pe_s pa_nil h2)) hs hf) (h σ F H k t _ fun d Γ1 v F1 H1 q1 k1 t1 r1 => ⟨?_, fun a n => ?_⟩)
  · show 1 ≤ sizeLine
    rw [sizeLine_eq]
    decide
  · refine po.nx _ _ F1 _ (q1 a) ((k1.own n).set (e := .l a [d]) ⟨rfl, k1.same.free n, [v], upd_same, .cons r1 .nil⟩ (List.nodup_cons.mpr ⟨nofun, List.nodup_nil⟩) fun b m => ?_) (tabs_own t1 n)
    rw [List.mem_singleton.mp m]
    exact fun z => (k1.has z).2 n
/-- x.append(e), e with lambdas -/
theorem wsl_append {apos : Pos} (i : Nat) (h : WEL X T e Γ fun d Γ1 => ∃ a ds, Γ1[i]? = some (Ent.l a ds) ∧ ds.length ≤ 100000 ∧ E.nx (Γ1.set i (.l a (ds ++ [d])))) (h0 : ∃ a ds, Γ[i]? = some (Ent.l a ds) := by exact ⟨_, _, rfl⟩) (hi : X.N[i]? = some x := by rfl) (hv : Vis X.env.scope x := by first | exact Or.inl rfl | exact Or.inr (Or.inl rfl) | exact Or.inr (Or.inr rfl)) (hd : (x == ("__debug__" : Str)) = false := by decide)
    (hcd : (x == ("__classdict__" : Str)) = false := by decide)
    (hbase : attributeBase (.Name x p) "append" X.env (eval (.Name x p) X.env) = eval (.Name x p) X.env := by rfl)
    (hfew : ((backTo pos (starEach [e] X.env)).all (fun x => !x.1) && (backToKw pos (keywordEach [] X.env)).all (fun x => x.1.isSome)
      && decide (([e] : List Expr).length + ([] : List Keyword).length + (if ([] : List Keyword).isEmpty then 0 else 1) < 30)) = true := by rfl)
    (hline : (apos.endLine == pos.line) = true := by rfl) (hs : starEach [e] X.env = (false, eval e X.env) :: starEach [] X.env := by rfl) (hplain : (backTo pos (starEach [] X.env)).any (·.1) = false := by rfl)
    (hsw : swapsWith (.Call (.Attribute (.Name x p) "append" apos) [e] [] pos) none pos'.line X.env = pure false := by rfl) : WSL X T (.Expr (.Call (.Attribute (.Name x p) "append" apos) [e] [] pos) pos') Γ E := fun σ F H k t Dn po => by
  refine sS_of (ps_expr (pe_bm PySem.F.plainAttrs_list PySem.F.slot_list_append PySem.F.type_list_append mt_append (pe_var hi hv hd hcd) (pa_cons pe_s pa_nil hs) hbase hfew hline hs hplain) hsw) ?_
  obtain ⟨a, ds, hi0⟩ := h0
  obtain ⟨o, ho, rfl, fa, us, ha, ra⟩ := k.get hi0
  refine ⟨_, ho, .inl ⟨rfl, _, sqL ha⟩, h σ F H k t _ fun d Γ1 v F1 H1 q1 k1 t1 r1 => ?_⟩
  obtain ⟨a1, ds1, hi1, hl, q⟩ := q1
  obtain ⟨o1, ho1, rfl, fa1, us1, ha1, ra1⟩ := k1.get hi1
  rw [ho] at ho1
  cases ho1
  have hl' := ra1.len
  obtain ⟨k2, s2⟩ := k1.putL hi1 (ra1.app (.cons r1 .nil))
  exact ⟨a, us1, v, rfl, rfl, ha1, by rw [sizeLine_eq]; omega, po.nx _ σ F1 _ q k2 (tabs_step k1 s2 t1)⟩
end
end K65
set_option maxHeartbeats 4000000
namespace K65
open PySem PySem.Spec PyProof.Rows L2 Gd Pu
theorem WEL.mono {X : Cx} {T : List (Addr × Str)} {e : Expr} {Γ : List Ent} {Q Q2 : D → List Ent → Prop} (h : WEL X T e Γ Q) (m : ∀ d Γ1, Q d Γ1 → Q2 d Γ1) : WEL X T e Γ Q2 := fun σ F H k t Q' po => h σ F H k t Q' fun d Γ1 v F1 H1 q => po d Γ1 v F1 H1 (m _ _ q)
abbrev spIt (K : PySem.W.Frag) (C : Addr) : Sp := spI K C (fun ds => ∃ ks ts, ds = [tS ks, typesP ts] ∧ TOk ⟨ks, ts⟩) (fun ds => [("kinds", ds.getD 0 .non), ("types", ds.getD 1 .non)])
def spLaw (K : PySem.W.Frag) (T0 : List (Addr × Str)) : Sp := fun vs H Q _ => ∃ (a : Addr) (ns : List Int), vs = [.ref a] ∧ SqL K H a (ns.map V.int) ∧ ns.length ≤ 63 ∧ LamX.Tabs T0 H ∧ ∀ G, Q (.bl true) G
/-- what the ways are drawn of that are none -/
def oddW : List D := [.non, .str "kind", .str "", .int 0, .lst [.str "kinds"], .tup [.str "types"], .str "Accepted", .bl true, .dk []]
theorem oddW_ok : ∀ d ∈ oddW, plain d = true ∧ isWay d = false := by
  intro d hd
  simp only [oddW, List.mem_cons, List.not_mem_nil, or_false] at hd
  rcases hd with e | e | e | e | e | e | e | e | e <;> subst e <;> exact ⟨by first | rfl | simp [plain, plainA], by first | rfl | decide +kernel⟩
theorem tk_of {ks : List Str} {ts : List (Str × List Int)} (h : okB ⟨ks, ts⟩ = true) (n1 : ks.Nodup) (n2 : (ts.map (·.1)).Nodup) : Tk ks ts := by
  have ok := okB_of h
  obtain ⟨h1, h2, h3, h4, h5, h6, h7, h8, h9⟩ := ok
  exact ⟨h1, h2, h5, ⟨rfl, h3, n1⟩, h4, ⟨List.length_map _, fun z hz => by obtain ⟨p, hp, rfl⟩ := List.mem_map.mp hz; exact h6 p hp, n2⟩, h7, fun p hp => ⟨h8 p hp, h9 p hp⟩⟩
def ksB : List Str := ["a", "b"]
def tsB : List (Str × List Int) := [("both", [0, 1]), ("left", [0]), ("right", [1])]
def ksC : List Str := ["a", "b", "c"]
def tsC : List (Str × List Int) := [("x", [0, 1, 2]), ("y", [0, 1])]
def tsW : List (Str × List Int) := [("w", [2]), ("x", [0, 1, 2]), ("y", [0, 1]), ("z", [0])]
theorem tkB : Tk ksB tsB := tk_of (by decide +kernel) (by decide +kernel) (by decide +kernel)
theorem tkC : Tk ksC tsC := tk_of (by decide +kernel) (by decide +kernel) (by decide +kernel)
theorem tkW : Tk ksC tsW := tk_of (by decide +kernel) (by decide +kernel) (by decide +kernel)
theorem itmB : itemsF .acc ksB.length tsB = [[0, 0], [0, 1], [1, 0], [2, 1]] := by decide +kernel
theorem rpB1 : repB .acc ksB tsB (.tup [tI [1, 0]]) = true := by decide +kernel
theorem rpB2 : repB .kinds ksB tsB (.tup []) = false := by decide +kernel
theorem rpC : repB .acc ksC tsC (.tup []) = true := by decide +kernel
theorem rpW : repB .types ksC tsW (.tup [.int 2]) = false := by decide +kernel
section
variable {P : Program} {w : World} {K : PySem.W.Frag} {mg : Str → Option Value} {base : Heap}
theorem okL {f c : Addr} {fd : FuncData} {k : Nat} {T0 : List (Addr × Str)} (F : Fun K "law" "law" s_law f fd) (hc : fd.code = .ref c)
    (body : ∀ (A : Around) (out : List Env) (s : Shared) (H : Hp) (E : XK), RmG k (A.deeper (envOfC "law" (defScope s_law) s.heap.objs.size f (.ref c))) → ∀ ns : List Int, ns.length ≤ 63 →
      WBL (cxOf CX0 P w K mg base n_law "law" (defScope s_law) f (.ref c) A out s H E).nox T0 (defBody s_law) [.v (.scr (ns.map .int)), .no, .no, .no, .no, .no, .no, .no, .no, .no, .no] ⟨fun _ => False, fun d _ => d = .bl true, fun _ => False, fun _ => False⟩) :
    FnG P w K mg base (k + 1) f fd ["script"] (spLaw K T0) := by
  refine okGC F hc sc_law (fun vs H Q E h => ?_) (fun A out s H vs Q E hr h => ?_)
  · obtain ⟨a, ns, rfl, _⟩ := h
    rfl
  · obtain ⟨a, ns, rfl, hs, hl, tb, q⟩ := h
    refine ⟨_, pb_s, ?_⟩
    refine body A out s H E hr ns hl (L2.start n_law [.ref a]) H H (ok_start (.refl H) (.cons (.scr hs (.ofInts ns)) .nil)) tb _ ⟨fun _ _ _ _ z => z.elim, fun d Γ σ v F H1 e k1 r => ?_, fun _ _ _ _ z => z.elim, fun _ _ _ _ z => z.elim⟩
    subst e
    cases r
    exact q H1
end
end K65
set_option maxHeartbeats 4000000
namespace K65
open PySem PySem.Spec PyProof.Rows L2 Gd Pu
theorem rpB1' : repB .acc ksB tsB (.tup [.tup [.int 1, .int 0]]) = true := by decide +kernel
theorem eqB : ¬ (!PyData.eqv (py (.tup ((itemsF .acc ksB.length tsB).map (itE .acc)))) (py (.tup [.tup [.int 0, .int 0], .tup [.int 0, .int 1], .tup [.int 1, .int 0], .tup [.int 2, .int 1]]))) = true := by decide +kernel
section
variable {P : Program} {w : World} {K : PySem.W.Frag} {mg : Str → Option Value} {base : Heap}
theorem law_tail {f fI fHe fAP fPi fWR fIt fST fRe fCo fH C CW CF CD c Pt : Addr} {fd fdI fdHe fdAP fdPi fdWR fdIt fdST fdRe fdCo fdH : FuncData} {k : Nat} (F : Fun K "law" "law" s_law f fd) 
    (T : TTxt K mg C) (M : Mk K C fI) (bI : Binds K fdI ["self", "kinds", "types"] []) (GI : FnOk P w K mg base CX0 k fI fdI ["self", "kinds", "types"] (spIt K C))
    (FHe : Fun K "_law_heap" "_law_heap" s__law_heap fHe fdHe) (bHe : Binds K fdHe ["script"] []) (gHe : mg "_law_heap" = some (.ref fHe)) (GHe : FnG P w K mg base k fHe fdHe ["script"] (spHeap K))
    (FAP : Fun K "_law_any_parts" "_law_any_parts" s__law_any_parts fAP fdAP) (bAP : Binds K fdAP ["heap", "kinds", "types"] []) (gAP : mg "_law_any_parts" = some (.ref fAP)) (GAP : FnG P w K mg base k fAP fdAP ["heap", "kinds", "types"] (spS K dParts))
    (FPi : Fun K "_law_pick" "_law_pick" s__law_pick fPi fdPi) (bPi : Binds K fdPi ["heap", "some"] []) (gPi : mg "_law_pick" = some (.ref fPi)) (GPi : FnG P w K mg base k fPi fdPi ["heap", "some"] (spS K dPickL))
    (FWR : Fun K "_law_way_right" "_law_way_right" s__law_way_right fWR fdWR) (bWR : Binds K fdWR ["heap", "table", "kinds", "types", "way"] []) (gWR : mg "_law_way_right" = some (.ref fWR)) (GWR : FnG P w K mg base (k + 2) fWR fdWR ["heap", "table", "kinds", "types", "way"] (spS K (dWay C)))
    (FIt : Fun K "items_for" "items_for" s_items_for fIt fdIt) (bIt : Binds K fdIt ["table", "way"] []) (gIt : mg "items_for" = some (.ref fIt)) (GIt : FnG P w K mg base k fIt fdIt ["table", "way"] (spD K (dItems C))) (GItX : FnOk P w K mg base (L2.CX P w) k fIt fdIt ["table", "way"] (spItX K CF))
    (FST : Fun K "struck_table" "struck_table" s_struck_table fST fdST) (bST : Binds K fdST ["table", "way", "items"] []) (gST : mg "struck_table" = some (.ref fST)) (GSTX : FnOk P w K mg base (L2.CX P w) k fST fdST ["table", "way", "items"] (spStX K CF))
    (FRe : Fun K "is_repair" "is_repair" s_is_repair fRe fdRe) (bRe : Binds K fdRe ["table", "way", "value"] []) (gRe : mg "is_repair" = some (.ref fRe)) (GRe : FnG P w K mg base k fRe fdRe ["table", "way", "value"] (spD K (dRep C))) (GReX : FnOk P w K mg base (L2.CX P w) k fRe fdRe ["table", "way", "value"] (spStX K CF))
    (FCo : Fun K "strike_cost" "strike_cost" s_strike_cost fCo fdCo) (bCo : Binds K fdCo ["table", "way", "costs", "items"] []) (gCo : mg "strike_cost" = some (.ref fCo)) (GCoX : FnOk P w K mg base (L2.CX P w) k fCo fdCo ["table", "way", "costs", "items"] (spCoX K CF))
    (FH : Fun K "_law_heard" "_law_heard" s__law_heard fH fdH) (bH : Binds K fdH ["action"] []) (gH : mg "_law_heard" = some (.ref fH)) (TH : HTxt K mg CW CF CD) (mI : mg "isinstance" = none)
    (mp : mg "repr" = none) (mr : mg "range" = none) (ml : mg "len" = none) (mi : mg "int" = none) (A : Around) (out : List Env) (s : Shared) (H : Hp) (E : XK) (hr2 : RmG (k + 2) (A.deeper (envOfC "law" (defScope s_law) s.heap.objs.size f (.ref c)))) (ns : List Int) (h l : Addr) (L : List Int) (st : Int) (y2 y3 y4 y5 y6 y9 y10 : Ent) :
    WB (cxOf CX0 P w K mg base n_law "law" (defScope s_law) f (.ref c) A out s H E).nox ((defBody s_law).drop 2) [.v (.scr (ns.map .int)), .src h l L st, y2, y3, y4, y5, y6, .no, .no, y9, y10] ⟨fun _ => False, fun d _ => d = .bl true, fun _ => False, fun _ => False⟩ := by
  have nd := sc_law.nd
  have hr1 : RmG (k + 1) (A.deeper (envOfC "law" (defScope s_law) s.heap.objs.size f (.ref c))) := hr2.mono (Nat.le_succ _)
  have hr : RmG k (A.deeper (envOfC "law" (defScope s_law) s.heap.objs.size f (.ref c))) := hr2.mono (Nat.le_add_right _ _)
  have p0 : Pu.plain (.tup []) = true ∧ ∀ l, D.tup [] = .tup l → l.length ≤ 1000 := ⟨rfl, fun l e => by cases e; decide⟩
  have p1 : Pu.plain (.tup [.tup [.int 1, .int 0]]) = true ∧ ∀ l, D.tup [.tup [.int 1, .int 0]] = .tup l → l.length ≤ 1000 := ⟨by simp [Pu.plain, plainA], fun l e => by cases e; decide⟩
  have p2 : Pu.plain (.tup [.int 2]) = true ∧ ∀ l, D.tup [.int 2] = .tup l → l.length ≤ 1000 := ⟨by simp [Pu.plain, plainA], fun l e => by cases e; decide⟩
  have shB := fn_sh (fn_its (its_items tkB .acc))
  have shB2 : Sh (.tup [.tup [.int 0, .int 0], .tup [.int 0, .int 1], .tup [.int 1, .int 0], .tup [.int 2, .int 1]]) := by
    have z := shB
    rw [itmB] at z
    exact z
  refine wb_cons ?_
  refine ws_set 7 nd ?_
  refine we_make M GI hr1 T.mgC bI ?_
  refine wa_cons ?_
  refine we_tup ?_
  refine wa_cons ?_
  refine we_str ?_
  refine wa_cons ?_
  refine we_str ?_
  refine wa_nil ⟨lk, ?_⟩
  refine wa_cons ?_
  refine we_tup ?_
  refine wa_cons ?_
  refine we_tup ?_
  refine wa_cons ?_
  refine we_str ?_
  refine wa_cons ?_
  refine we_tup ?_
  refine wa_cons ?_
  refine we_int ?_
  refine wa_cons ?_
  refine we_int ?_
  refine wa_nil ⟨lk, ?_⟩
  refine wa_nil ⟨lk, ?_⟩
  refine wa_cons ?_
  refine we_tup ?_
  refine wa_cons ?_
  refine we_str ?_
  refine wa_cons ?_
  refine we_tup ?_
  refine wa_cons ?_
  refine we_int ?_
  refine wa_nil ⟨lk, ?_⟩
  refine wa_nil ⟨lk, ?_⟩
  refine wa_cons ?_
  refine we_tup ?_
  refine wa_cons ?_
  refine we_str ?_
  refine wa_cons ?_
  refine we_tup ?_
  refine wa_cons ?_
  refine we_int ?_
  refine wa_nil ⟨lk, ?_⟩
  refine wa_nil ⟨lk, ?_⟩
  refine wa_nil ⟨lk, ?_⟩
  refine wa_nil ⟨⟨ksB, tsB, rfl, tkB.tok⟩, ?_⟩
  refine wb_cons ?_
  refine ws_if ?_
  refine wt_ww ?_
  refine ww_or ?_
  refine wt_cmp (op_neD hr.rm.units) pu_neV ?_
  refine we_call GIt hr gIt FIt.kp bIt ?_
  refine wa_cons ?_
  refine we_var 7 rfl ?_
  refine wa_cons ?_
  refine we_str ?_
  refine wa_nil ⟨ksB, tsB, .acc, rfl, tkB, ?_⟩
  refine we_tup ?_
  refine wa_cons ?_
  refine we_tup ?_
  refine wa_cons ?_
  refine we_int ?_
  refine wa_cons ?_
  refine we_int ?_
  refine wa_nil ⟨lk, ?_⟩
  refine wa_cons ?_
  refine we_tup ?_
  refine wa_cons ?_
  refine we_int ?_
  refine wa_cons ?_
  refine we_int ?_
  refine wa_nil ⟨lk, ?_⟩
  refine wa_cons ?_
  refine we_tup ?_
  refine wa_cons ?_
  refine we_int ?_
  refine wa_cons ?_
  refine we_int ?_
  refine wa_nil ⟨lk, ?_⟩
  refine wa_cons ?_
  refine we_tup ?_
  refine wa_cons ?_
  refine we_int ?_
  refine wa_cons ?_
  refine we_int ?_
  refine wa_nil ⟨lk, ?_⟩
  refine wa_nil ⟨lk, _, _, .same _, .same _, shB, shB2, _, rfl, fun _ => ?_, fun hb => absurd hb eqB⟩
  refine ww_or ?_
  refine wt_not ?_
  refine wt_val ?_
  refine we_call GRe hr gRe FRe.kp bRe ?_
  refine wa_cons ?_
  refine we_var 7 rfl ?_
  refine wa_cons ?_
  refine we_str ?_
  refine wa_cons ?_
  refine we_tup ?_
  refine wa_cons ?_
  refine we_tup ?_
  refine wa_cons ?_
  refine we_int ?_
  refine wa_cons ?_
  refine we_int ?_
  refine wa_nil ⟨lk, ?_⟩
  refine wa_nil ⟨lk, ?_⟩
  refine wa_nil ⟨ksB, tsB, .acc, _, rfl, tkB, p1.1, p1.2, _, rfl, fun _ => ?_, fun hb => absurd hb (by rw [rpB1']; decide)⟩
  refine ww_or1 ?_
  refine wt_val ?_
  refine we_call GRe hr gRe FRe.kp bRe ?_
  refine wa_cons ?_
  refine we_var 7 rfl ?_
  refine wa_cons ?_
  refine we_str ?_
  refine wa_cons ?_
  refine we_tup0 ?_
  refine wa_nil ⟨ksB, tsB, .kinds, _, rfl, tkB, p0.1, p0.2, _, rfl, fun hb => absurd hb (by rw [rpB2]; decide), fun _ => wb_nil ?_⟩
  refine wb_cons ?_
  refine ws_set 8 nd ?_
  refine we_make M GI hr1 T.mgC bI ?_
  refine wa_cons ?_
  refine we_tup ?_
  refine wa_cons ?_
  refine we_str ?_
  refine wa_cons ?_
  refine we_str ?_
  refine wa_cons ?_
  refine we_str ?_
  refine wa_nil ⟨lk, ?_⟩
  refine wa_cons ?_
  refine we_tup ?_
  refine wa_cons ?_
  refine we_tup ?_
  refine wa_cons ?_
  refine we_str ?_
  refine wa_cons ?_
  refine we_tup ?_
  refine wa_cons ?_
  refine we_int ?_
  refine wa_cons ?_
  refine we_int ?_
  refine wa_cons ?_
  refine we_int ?_
  refine wa_nil ⟨lk, ?_⟩
  refine wa_nil ⟨lk, ?_⟩
  refine wa_cons ?_
  refine we_tup ?_
  refine wa_cons ?_
  refine we_str ?_
  refine wa_cons ?_
  refine we_tup ?_
  refine wa_cons ?_
  refine we_int ?_
  refine wa_cons ?_
  refine we_int ?_
  refine wa_nil ⟨lk, ?_⟩
  refine wa_nil ⟨lk, ?_⟩
  refine wa_nil ⟨lk, ?_⟩
  refine wa_nil ⟨⟨ksC, tsC, rfl, tkC.tok⟩, ?_⟩
  refine wb_one ?_
  refine ws_ret ?_
  refine we_and ?_
  refine we_call GRe hr gRe FRe.kp bRe ?_
  refine wa_cons ?_
  refine we_var 8 rfl ?_
  refine wa_cons ?_
  refine we_str ?_
  refine wa_cons ?_
  refine we_tup0 ?_
  refine wa_nil ⟨ksC, tsC, .acc, _, rfl, tkC, p0.1, p0.2, _, rfl, fun _ => ?_, fun hb => absurd hb (by rw [rpC]; decide)⟩
  refine we_one ?_
  refine we_not ?_
  refine we_call GRe hr gRe FRe.kp bRe ?_
  refine wa_cons ?_
  refine we_make M GI hr1 T.mgC bI ?_
  refine wa_cons ?_
  refine we_tup ?_
  refine wa_cons ?_
  refine we_str ?_
  refine wa_cons ?_
  refine we_str ?_
  refine wa_cons ?_
  refine we_str ?_
  refine wa_nil ⟨lk, ?_⟩
  refine wa_cons ?_
  refine we_tup ?_
  refine wa_cons ?_
  refine we_tup ?_
  refine wa_cons ?_
  refine we_str ?_
  refine wa_cons ?_
  refine we_tup ?_
  refine wa_cons ?_
  refine we_int ?_
  refine wa_nil ⟨lk, ?_⟩
  refine wa_nil ⟨lk, ?_⟩
  refine wa_cons ?_
  refine we_tup ?_
  refine wa_cons ?_
  refine we_str ?_
  refine wa_cons ?_
  refine we_tup ?_
  refine wa_cons ?_
  refine we_int ?_
  refine wa_cons ?_
  refine we_int ?_
  refine wa_cons ?_
  refine we_int ?_
  refine wa_nil ⟨lk, ?_⟩
  refine wa_nil ⟨lk, ?_⟩
  refine wa_cons ?_
  refine we_tup ?_
  refine wa_cons ?_
  refine we_str ?_
  refine wa_cons ?_
  refine we_tup ?_
  refine wa_cons ?_
  refine we_int ?_
  refine wa_cons ?_
  refine we_int ?_
  refine wa_nil ⟨lk, ?_⟩
  refine wa_nil ⟨lk, ?_⟩
  refine wa_cons ?_
  refine we_tup ?_
  refine wa_cons ?_
  refine we_str ?_
  refine wa_cons ?_
  refine we_tup ?_
  refine wa_cons ?_
  refine we_int ?_
  refine wa_nil ⟨lk, ?_⟩
  refine wa_nil ⟨lk, ?_⟩
  refine wa_nil ⟨lk, ?_⟩
  refine wa_nil ⟨⟨ksC, tsW, rfl, tkW.tok⟩, ?_⟩
  refine wa_cons ?_
  refine we_str ?_
  refine wa_cons ?_
  refine we_tup ?_
  refine wa_cons ?_
  refine we_int ?_
  refine wa_nil ⟨lk, ?_⟩
  refine wa_nil ⟨ksC, tsW, .types, _, rfl, tkW, p2.1, p2.2, _, rfl, ?_⟩
  rw [rpW]
  rfl
end
end K65
set_option maxHeartbeats 4000000
namespace K65
open PySem PySem.Spec PyProof.Rows L2 Gd Pu
/-- what stands at the turns of the law -/
def LFr (C h l : Addr) (ns : List Int) (Γ : List Ent) : Prop := ∃ (L : List Int) (st : Int) (y2 y3 y4 y5 y6 y9 y10 : Ent), Γ = [.v (.scr (ns.map .int)), .src h l L st, y2, y3, y4, y5, y6, .no, .no, y9, y10]
theorem none_of_upd {H : Hp} {q b : Addr} {o : HO} (n : upd H q o b = none) : H b = none := by
  by_cases e : b = q
  · subst e
    rw [upd_same] at n
    cases n
  · rwa [upd_ne e] at n
theorem shW : Sh (.lst [.str "way", .str "way", .str "way", .str "way"]) := ⟨by decide +kernel, by decide +kernel, by decide +kernel⟩
theorem wayEq : ¬ (!PyData.eqv (py (.lst [.str "way", .str "way", .str "way", .str "way"])) (py (.lst [.str "way", .str "way", .str "way", .str "way"]))) = true := by decide +kernel
section
variable {P : Program} {w : World} {K : PySem.W.Frag} {mg : Str → Option Value} {base : Heap}
theorem od_law {f fI fHe fAP fPi fWR fIt fST fRe fCo fH C CW CF CD c Pt : Addr} {fd fdI fdHe fdAP fdPi fdWR fdIt fdST fdRe fdCo fdH : FuncData} {k : Nat} {T0 : List (Addr × Str)} (F : Fun K "law" "law" s_law f fd) (hc : fd.code = .ref c) (LT : LamT T0 base mg c Pt ("law" ++ ".<locals>." ++ "<lambda>"))
    (T : TTxt K mg C) (M : Mk K C fI) (bI : Binds K fdI ["self", "kinds", "types"] []) (GI : FnOk P w K mg base CX0 k fI fdI ["self", "kinds", "types"] (spIt K C))
    (FHe : Fun K "_law_heap" "_law_heap" s__law_heap fHe fdHe) (bHe : Binds K fdHe ["script"] []) (gHe : mg "_law_heap" = some (.ref fHe)) (GHe : FnG P w K mg base k fHe fdHe ["script"] (spHeap K))
    (FAP : Fun K "_law_any_parts" "_law_any_parts" s__law_any_parts fAP fdAP) (bAP : Binds K fdAP ["heap", "kinds", "types"] []) (gAP : mg "_law_any_parts" = some (.ref fAP)) (GAP : FnG P w K mg base k fAP fdAP ["heap", "kinds", "types"] (spS K dParts))
    (FPi : Fun K "_law_pick" "_law_pick" s__law_pick fPi fdPi) (bPi : Binds K fdPi ["heap", "some"] []) (gPi : mg "_law_pick" = some (.ref fPi)) (GPi : FnG P w K mg base k fPi fdPi ["heap", "some"] (spS K dPickL))
    (FWR : Fun K "_law_way_right" "_law_way_right" s__law_way_right fWR fdWR) (bWR : Binds K fdWR ["heap", "table", "kinds", "types", "way"] []) (gWR : mg "_law_way_right" = some (.ref fWR)) (GWR : FnG P w K mg base (k + 2) fWR fdWR ["heap", "table", "kinds", "types", "way"] (spS K (dWay C)))
    (FIt : Fun K "items_for" "items_for" s_items_for fIt fdIt) (bIt : Binds K fdIt ["table", "way"] []) (gIt : mg "items_for" = some (.ref fIt)) (GIt : FnG P w K mg base k fIt fdIt ["table", "way"] (spD K (dItems C))) (GItX : FnOk P w K mg base (L2.CX P w) k fIt fdIt ["table", "way"] (spItX K CF))
    (FST : Fun K "struck_table" "struck_table" s_struck_table fST fdST) (bST : Binds K fdST ["table", "way", "items"] []) (gST : mg "struck_table" = some (.ref fST)) (GSTX : FnOk P w K mg base (L2.CX P w) k fST fdST ["table", "way", "items"] (spStX K CF))
    (FRe : Fun K "is_repair" "is_repair" s_is_repair fRe fdRe) (bRe : Binds K fdRe ["table", "way", "value"] []) (gRe : mg "is_repair" = some (.ref fRe)) (GRe : FnG P w K mg base k fRe fdRe ["table", "way", "value"] (spD K (dRep C))) (GReX : FnOk P w K mg base (L2.CX P w) k fRe fdRe ["table", "way", "value"] (spStX K CF))
    (FCo : Fun K "strike_cost" "strike_cost" s_strike_cost fCo fdCo) (bCo : Binds K fdCo ["table", "way", "costs", "items"] []) (gCo : mg "strike_cost" = some (.ref fCo)) (GCoX : FnOk P w K mg base (L2.CX P w) k fCo fdCo ["table", "way", "costs", "items"] (spCoX K CF))
    (FH : Fun K "_law_heard" "_law_heard" s__law_heard fH fdH) (bH : Binds K fdH ["action"] []) (gH : mg "_law_heard" = some (.ref fH)) (TH : HTxt K mg CW CF CD) (mI : mg "isinstance" = none)
    (mp : mg "repr" = none) (mr : mg "range" = none) (ml : mg "len" = none) (mi : mg "int" = none) : FnG P w K mg base (k + 2 + 1) f fd ["script"] (spLaw K T0) := by
  refine okL F hc fun A out s H E hr2 ns n63 => ?_
  have nd := sc_law.nd
  have hr1 : RmG (k + 1) _ := hr2.mono (Nat.le_succ _)
  have hr : RmG k _ := hr2.mono (Nat.le_add_right _ _)
  refine wbl_cons (wsl_ws (ws_heap 1 GHe hr gHe FHe.kp bHe nd (we_var 0 rfl ⟨ns, rfl, n63, fun h l L st => ?_⟩)))
  refine wbl_cons (wsl_rng [2] (pg_name (i := 2) nd rfl (.inl rfl)) mr (we_add (we_int (we_int1 mi (we_cmp op_gt (pu_B _) (we_len ml (we_var 0 rfl ⟨_, .scr _, we_int ⟨_, _, rfl, rfl, .inr ⟨_, rfl, _, _, rfl, rfl, _, rfl, ?_, fun _ => LFr C h l ns, ⟨L, st, _, _, _, _, _, _, _, rfl⟩, ?_, ?_⟩⟩⟩)))))))
  · split <;> decide
  · rintro i d Γ hd ⟨L1, st1, y2, y3, y4, y5, y6, y9, y10, rfl⟩
    obtain ⟨hi, rfl⟩ := rngD_get hd
    refine ⟨_, tg_name 2, ?_⟩
    refine wbl_cons (wsl_ws (ws_un [3, 4] (pg_tup rfl (pgs_cons (pg_name (i := 3) nd rfl (.inl rfl)) (pgs_cons (pg_name (i := 4) nd rfl (.inl rfl)) pgs_nil))) (we_callS 1 GAP hr gAP FAP.kp bAP (wa_cons (we_src 1 rfl (wa_cons (we_callS 1 GPi hr gPi FPi.kp bPi (wa_cons (we_src 1 rfl (wa_cons (we_new (wn_lst (wa_cons (we_int (wa_cons (we_int (wa_cons (we_int (wa_cons (we_int (wa_cons (we_int (wa_nil ⟨lk, wa_nil ⟨h, l, L1, st1, _, rfl, rfl, _, _, rfl, .lst _, by decide, by decide, fun j1 x1 L2 st2 hx1 => ?_⟩⟩)))))))))))))))))))))))
    obtain ⟨kk, rfl, kk1, kk8⟩ : ∃ kk : Nat, x1 = .int (kk : Int) ∧ 1 ≤ kk ∧ kk ≤ 8 := by
      have m := List.mem_of_getElem? hx1
      simp only [List.mem_cons, List.not_mem_nil, or_false] at m
      rcases m with e | e | e | e | e
      · exact ⟨3, e, by decide, by decide⟩
      · exact ⟨2, e, by decide, by decide⟩
      · exact ⟨4, e, by decide, by decide⟩
      · exact ⟨1, e, by decide, by decide⟩
      · exact ⟨8, e, by decide, by decide⟩
    refine wa_cons (we_callS 1 GPi hr gPi FPi.kp bPi (wa_cons (we_src 1 rfl (wa_cons (we_new (wn_lst (wa_cons (we_int (wa_cons (we_int (wa_cons (we_int (wa_cons (we_int (wa_cons (we_int (wa_nil ⟨lk, wa_nil ⟨h, l, L2, st2, _, rfl, rfl, _, _, rfl, .lst _, by decide, by decide, fun j2 x2 L3 st3 hx2 => ?_⟩⟩)))))))))))))))))
    obtain ⟨tt, rfl, tt9⟩ : ∃ tt : Nat, x2 = .int (tt : Int) ∧ tt ≤ 9 := by
      have m := List.mem_of_getElem? hx2
      simp only [List.mem_cons, List.not_mem_nil, or_false] at m
      rcases m with e | e | e | e | e
      · exact ⟨3, e, by decide⟩
      · exact ⟨5, e, by decide⟩
      · exact ⟨4, e, by decide⟩
      · exact ⟨0, e, by decide⟩
      · exact ⟨9, e, by decide⟩
    refine wa_nil ⟨h, l, L3, st3, _, rfl, rfl, kk, tt, rfl, kk1, kk8, by omega, fun ks ts L4 st4 po => ⟨_, tg_two 3 4, ?_⟩⟩
    have tk : Tk ks ts := by
      have e1 := po.kg.1
      have e2 := po.tl
      subst e1 e2
      exact ⟨kk1, kk8, by omega, po⟩
    have t9 : ts.length ≤ 9 := by rw [po.tl]; exact tt9
    refine wbl_cons (wsl_ws (ws_set 10 nd (we_make M GI hr1 T.mgC bI (wa_cons (we_var 3 rfl (wa_cons (we_var 4 rfl (wa_nil ⟨⟨ks, ts, rfl, tk.tok⟩, ?_⟩))))))))
    refine wbl_cons (wsl_ws (WS.mono (N := fun Γ => ∃ (L : List Int) (st : Int) (y5 y6 y9 : Ent), Γ = [.v (.scr (ns.map .int)), .src h l L st, .v (.int (0 + (i : Int))), .v (tS ks), .v (typesP ts), y5, y6, .no, .no, y9, .v (tblD C ks ts)]) ?_ ?_))
    · refine ws_for [5] (pg_name (i := 5) nd rfl (.inl rfl)) (wi_lst (we_new (wn_lst (wa_cons (we_str (wa_cons (we_str (wa_cons (we_str (wa_nil ⟨lk, _, rfl, fun _ Γ => ∃ (L : List Int) (st : Int) (y5 y6 y9 : Ent), Γ = [.v (.scr (ns.map .int)), .src h l L st, .v (.int (0 + (i : Int))), .v (tS ks), .v (typesP ts), y5, y6, .no, .no, y9, .v (tblD C ks ts)], ⟨L4, st4, y5, y6, y9, rfl⟩, fun _ _ _ _ => trivial, ?_, fun Γ q => q⟩))))))))))
      rintro j d Γ hd2 ⟨L5, st5, y5, y6, y9, rfl⟩
      obtain ⟨w', rfl⟩ : ∃ w' : Way, d = .str (wayS w') := by
        have m := List.mem_of_getElem? hd2
        simp only [List.mem_cons, List.not_mem_nil, or_false] at m
        rcases m with e | e | e
        · exact ⟨.kinds, e⟩
        · exact ⟨.types, e⟩
        · exact ⟨.acc, e⟩
      refine ⟨_, tg_name 5, ?_⟩
      refine wb_one (ws_if (wt_not (wt_val (we_callS 1 GWR hr2 gWR FWR.kp bWR (wa_cons (we_src 1 rfl (wa_cons (we_var 10 rfl (wa_cons (we_var 3 rfl (wa_cons (we_var 4 rfl (wa_cons (we_var 5 rfl (wa_nil ⟨h, l, L5, st5, _, rfl, rfl, ks, ts, w', rfl, tk, t9, fun L6 st6 => ⟨true, rfl, fun hb => absurd hb (by decide), fun _ => wb_nil ⟨L6, st6, _, _, _, rfl⟩⟩⟩)))))))))))))))
    rintro Γ ⟨L5, st5, y5, y6, y9, rfl⟩
    refine wbl_cons ?_
    refine wsl_ws ?_
    refine ws_set 9 nd ?_
    refine we_callS 1 GPi hr gPi FPi.kp bPi ?_
    refine wa_cons ?_
    refine we_src 1 rfl ?_
    refine wa_cons ?_
    refine we_new ?_
    refine wn_lst ?_
    refine wa_cons ?_
    refine Pu.we_non ?_
    refine wa_cons ?_
    refine we_str ?_
    refine wa_cons ?_
    refine we_str ?_
    refine wa_cons ?_
    refine we_int ?_
    refine wa_cons ?_
    refine we_new (wn_lst ?_)
    refine wa_cons ?_
    refine we_str ?_
    refine wa_nil ⟨lk, ?_⟩
    refine wa_cons ?_
    refine we_tup ?_
    refine wa_cons ?_
    refine we_str ?_
    refine wa_nil ⟨lk, ?_⟩
    refine wa_cons ?_
    refine we_str ?_
    refine wa_cons ?_
    refine we_bl ?_
    refine wa_cons ?_
    refine we_dict0 ?_
    refine wa_nil ⟨lk, ?_⟩
    refine wa_nil ⟨h, l, L5, st5, _, rfl, rfl, _, oddW, rfl, .lst _, by decide, by decide, fun j3 od L6 st6 hod => ?_⟩
    obtain ⟨pod, nod⟩ := oddW_ok od (List.mem_of_getElem? hod)
    have at2 : ∀ {σ : _root_.L2.St} {F H : Hp} {Γ : List Ent}, Ok K F H σ Γ → Γ[10]? = some (.v (tblD C ks ts)) → Γ[9]? = some (.v od) → ∃ v10 v9, σ[10]? = some (some v10) ∧ σ[9]? = some (some v9) ∧ Re K F od v9 := fun {σ F H Γ} ok g10 g9 => by
      obtain ⟨o10, e10, v10, rfl, _⟩ := ok.get g10
      obtain ⟨o9, e9, v9, rfl, r9⟩ := ok.get g9
      exact ⟨v10, v9, e10, e9, r9⟩
    refine wbl_cons ?_
    refine wsl_lst1 6 nd (wel_hd (X := (cxOf CX0 P w K mg base n_law "law" (defScope s_law) f (.ref c) A out s H E).nox) (k := k) FH bH rfl gH TH mI LT rfl hr2.rm (LamX.lamS_by (sc := defScope s_law) (by decide +kernel)) (fun A2 out2 s2 H2 E2 f2 c2 hr' => pe_call (E := E2) GItX hr' (by rfl) gIt FIt.kp bIt .nil passX (pa_cons (pv 10) (pa_cons (pv 9) pa_nil))) (fun σ F H ok E Q' hx => ?_) ?_)
    · obtain ⟨v10, v9, e10, e9, r9⟩ := at2 ok rfl rfl
      exact ⟨v10, e10, v9, e9, v10, v9, rfl, F, od, ok.same, r9, pod, nod, hx⟩
    intro a
    refine wbl_cons ?_
    refine wsl_append 6 (wel_hd (X := (cxOf CX0 P w K mg base n_law "law" (defScope s_law) f (.ref c) A out s H E).nox) (k := k) FH bH rfl gH TH mI LT rfl hr2.rm (LamX.lamS_by (sc := defScope s_law) (by decide +kernel)) (fun A2 out2 s2 H2 E2 f2 c2 hr' => pe_call (E := E2) GSTX hr' (by rfl) gST FST.kp bST .nil passX (pa_cons (pv 10) (pa_cons (pv 9) (pa_cons (pe_tup pa_nil) pa_nil)))) (fun σ F H ok E Q' hx => ?_) ?_)
    · obtain ⟨v10, v9, e10, e9, r9⟩ := at2 ok rfl rfl
      refine ⟨v10, e10, v9, e9, by rw [sizeLine_eq]; exact Nat.zero_le _, fun q nq => ⟨v10, v9, _, rfl, F, od, ok.same.trans (same_new nq), r9, pod, nod, fun dd G n s => hx dd G ?_ ((same_new nq).trans s)⟩⟩
      exact none_of_upd n
    refine ⟨a, _, rfl, by decide, ?_⟩
    refine wbl_cons ?_
    refine wsl_append 6 (wel_hd (X := (cxOf CX0 P w K mg base n_law "law" (defScope s_law) f (.ref c) A out s H E).nox) (k := k) FH bH rfl gH TH mI LT rfl hr2.rm (LamX.lamS_by (sc := defScope s_law) (by decide +kernel)) (fun A2 out2 s2 H2 E2 f2 c2 hr' => pe_call (E := E2) GReX hr' (by rfl) gRe FRe.kp bRe .nil passX (pa_cons (pv 10) (pa_cons (pv 9) (pa_cons (pe_tup pa_nil) pa_nil)))) (fun σ F H ok E Q' hx => ?_) ?_)
    · obtain ⟨v10, v9, e10, e9, r9⟩ := at2 ok rfl rfl
      refine ⟨v10, e10, v9, e9, by rw [sizeLine_eq]; exact Nat.zero_le _, fun q nq => ⟨v10, v9, _, rfl, F, od, ok.same.trans (same_new nq), r9, pod, nod, fun dd G n s => hx dd G ?_ ((same_new nq).trans s)⟩⟩
      exact none_of_upd n
    refine ⟨a, _, rfl, by decide, ?_⟩
    refine wbl_cons ?_
    refine wsl_append 6 (wel_hd (X := (cxOf CX0 P w K mg base n_law "law" (defScope s_law) f (.ref c) A out s H E).nox) (k := k) FH bH rfl gH TH mI LT rfl hr2.rm (LamX.lamS_by (sc := defScope s_law) (by decide +kernel)) (fun A2 out2 s2 H2 E2 f2 c2 hr' => pe_call (E := E2) GCoX hr' (by rfl) gCo FCo.kp bCo .nil passX (pa_cons (pv 10) (pa_cons (pv 9) (pa_cons (pe_tup pa_nil) (pa_cons (pe_tup pa_nil) pa_nil))))) (fun σ F H ok E Q' hx => ?_) ?_)
    · obtain ⟨v10, v9, e10, e9, r9⟩ := at2 ok rfl rfl
      refine ⟨v10, e10, v9, e9, by rw [sizeLine_eq]; exact Nat.zero_le _, fun q nq => ⟨by rw [sizeLine_eq]; exact Nat.zero_le _, fun q2 nq2 => ⟨v10, v9, _, _, rfl, F, od, (ok.same.trans (same_new nq)).trans (same_new nq2), r9, pod, nod, fun dd G n s => hx dd G ?_ (((same_new nq).trans (same_new nq2)).trans s)⟩⟩⟩
      exact none_of_upd (none_of_upd n)
    refine ⟨a, _, rfl, by decide, ?_⟩
    refine wbl_wb ?_
    have fp := fn_parts tk
    refine wb_one (ws_if (wt_ww (ww_or (wt_cmp (op_neD hr.rm.units) pu_neV (we_own 6 rfl (we_new (wn_rep (we_new (wn_lst (wa_cons (we_str (wa_nil ⟨lk, we_int ⟨_, 4, .lst _, rfl, by decide, by decide, by decide, _, _, .own (i := 6) rfl, .same _, shW, shW, _, rfl, fun _ => ?_, fun hb => absurd hb wayEq⟩⟩))))))))))))
    refine ww_or1 (wt_cmp op_ne pu_ne (we_repr hr mp (we_tup (wa_cons (we_fld (we_var 10 rfl ⟨C, _, _, rfl, T.cl, T.nK, lk_k, wa_cons (we_fld (we_var 10 rfl ⟨C, _, _, rfl, T.cl, T.nT, lk_t, wa_nil ⟨lk, fp, ⟨_, .inl rfl⟩, we_repr hr mp (we_tup (wa_cons (we_var 3 rfl (wa_cons (we_var 4 rfl (wa_nil ⟨lk, fp, ⟨_, .inl rfl⟩, _, .str _ _, _, rfl, fun hb => absurd hb (by simp), fun _ => wb_nil ⟨L6, st6, _, _, _, _, _, _, _, rfl⟩⟩))))))⟩⟩))⟩))))))
  · rintro Γ ⟨L1, st1, y2, y3, y4, y5, y6, y9, y10, rfl⟩
    exact wbl_wb (law_tail (Pt := Pt) F T M bI GI FHe bHe gHe GHe FAP bAP gAP GAP FPi bPi gPi GPi FWR bWR gWR GWR FIt bIt gIt GIt GItX FST bST gST GSTX FRe bRe gRe GRe GReX FCo bCo gCo GCoX FH bH gH TH mI mp mr ml mi A out s H E hr2 ns h l L1 st1 y2 y3 y4 y5 y6 y9 y10)
end
end K65
namespace K65
open PySem PySem.Spec PyProof.Rows L2 Gd Pu
section
variable {P : Program} {w : World} {K : PySem.W.Frag} {mg : Str → Option Value} {base : Heap}
/-- Table(..) on values -/
theorem od_tinit {f C fN fP : Addr} {fd fdN fdP : FuncData} {k : Nat} {t1 t2 : Tok} (F : Fun K "__init__" "Table.__init__" s_Table_init f fd) (T : TTxt K mg C) (FN : Fun K "is_lot_of_names" "is_lot_of_names" s_is_lot_of_names fN fdN) (FP : Fun K "is_type_pair" "is_type_pair" s_is_type_pair fP fdP)
    (bN : Binds K fdN ["value"] []) (bP : Binds K fdP ["value", "many_kinds"] []) (gN : mg "is_lot_of_names" = some (.ref fN)) (gP : mg "is_type_pair" = some (.ref fP)) (gK : mg "MOST_KINDS" = some (.int 8 t1)) (gT : mg "MOST_TYPES" = some (.int 12 t2))
    (GN : FnOk P w K mg base CX0 k fN fdN ["value"] (spLotN K)) (GP : FnOk P w K mg base CX0 k fP fdP ["value", "many_kinds"] (spPair K)) (mI : mg "isinstance" = none) (mt : mg "tuple" = none) (ml : mg "len" = none) (mE : mg "enumerate" = none) :
    FnOk P w K mg base CX0 (k + 1) f fd ["self", "kinds", "types"] (spIt K C) := by
  exact (ok_tinit F T FN FP bN bP gN gP gK gT GN GP mI mt ml mE).imp fun _ _ _ _ h => tinit_imp rfl h
end
end K65
namespace K65
open PySem PySem.Spec PyProof.Rows L2 Gd Pu
set_option maxHeartbeats 0 in
theorem all_mk {l : PySem.W.OpenLaw} {w : World} {K : PySem.W.Frag} {h : Heap} {mg : Str → Option Value} {fa C CW CF CD f_is_number f_is_number_below f_is_name f_is_tuple_of f_is_ascending f_are_numbers_below f_is_lot_below f_is_lot_of_names f_Refused_init f_Table_init f_Table_eq f_is_type_pair f_accepted f_takers f_types_of_kinds f_shared_takers f_do_cross f_crossing_pairs f_is_forest f_is_way_to_strike f_check_way f_items_for f_struck_table f_is_struck f_are_items f_is_acceptance f_is_repair f_strike_cost f__law_heap f__law_draw f__law_pick f__law_names f__law_lot f__law_parts f__law_forest_parts f__law_any_parts f__law_takers f__law_crossings f__law_items f__law_struck f__law_heard f__law_is_number f__law_is_lot f__law_greedy f__law_odd f__law_way_right f_law : Addr} (X : K.In h) (G : h.Ns mainGlobals mg) (hfa : mg "law" = some (.ref fa))
    {nmF qnF : Str} {NnF : Addr} {bsF : List Value} {snF : List Str} {subF : List Value} {abF : Bool} {colF : Option Bool} {ddF : Option Addr} {m0F m1F m2F m3F m5F : Option Value} {W_WAYS : Addr} {qdW : Option Addr} {tW1 tW2 tW3 : Tok} {qeW : Nat} {qsW : Array (Option Value)}
    {t_MOST_KINDS t_MOST_TYPES t_MOST_LETTERS : Tok}
    {od_is_number an_is_number od_is_number_below an_is_number_below od_is_name an_is_name od_is_tuple_of an_is_tuple_of od_is_ascending an_is_ascending od_are_numbers_below an_are_numbers_below od_is_lot_below an_is_lot_below od_is_lot_of_names an_is_lot_of_names od_Refused_init an_Refused_init od_Table_init an_Table_init od_Table_eq an_Table_eq od_is_type_pair an_is_type_pair od_accepted an_accepted od_takers an_takers od_types_of_kinds an_types_of_kinds od_shared_takers an_shared_takers od_do_cross an_do_cross od_crossing_pairs an_crossing_pairs od_is_forest an_is_forest od_is_way_to_strike an_is_way_to_strike od_check_way an_check_way od_items_for an_items_for od_struck_table an_struck_table od_is_struck an_is_struck od_are_items an_are_items od_is_acceptance an_is_acceptance od_is_repair an_is_repair od_strike_cost an_strike_cost od__law_heap an__law_heap od__law_draw an__law_draw od__law_pick an__law_pick od__law_names an__law_names od__law_lot an__law_lot od__law_parts an__law_parts od__law_forest_parts an__law_forest_parts od__law_any_parts an__law_any_parts od__law_takers an__law_takers od__law_crossings an__law_crossings od__law_items an__law_items od__law_struck an__law_struck od__law_heard an__law_heard od__law_is_number an__law_is_number od__law_is_lot an__law_is_lot od__law_greedy an__law_greedy od__law_odd an__law_odd od__law_way_right an__law_way_right od_law an_law : Option Addr} {sl_is_number sl_is_number_below sl_is_name sl_is_tuple_of sl_is_ascending sl_are_numbers_below sl_is_lot_below sl_is_lot_of_names sl_Refused_init sl_Table_init sl_Table_eq sl_is_type_pair sl_accepted sl_takers sl_types_of_kinds sl_shared_takers sl_do_cross sl_crossing_pairs sl_is_forest sl_is_way_to_strike sl_check_way sl_items_for sl_struck_table sl_is_struck sl_are_items sl_is_acceptance sl_is_repair sl_strike_cost sl__law_heap sl__law_draw sl__law_pick sl__law_names sl__law_lot sl__law_parts sl__law_forest_parts sl__law_any_parts sl__law_takers sl__law_crossings sl__law_items sl__law_struck sl__law_heard sl__law_is_number sl__law_is_lot sl__law_greedy sl__law_odd sl__law_way_right sl_law : Array (Option Value)} {oc_is_number kV_is_number dc_is_number pm_is_number ct_is_number cd_is_number oc_is_number_below kV_is_number_below dc_is_number_below pm_is_number_below ct_is_number_below cd_is_number_below oc_is_name kV_is_name dc_is_name pm_is_name ct_is_name cd_is_name oc_is_tuple_of kV_is_tuple_of dc_is_tuple_of pm_is_tuple_of ct_is_tuple_of cd_is_tuple_of oc_is_ascending kV_is_ascending dc_is_ascending pm_is_ascending ct_is_ascending cd_is_ascending oc_are_numbers_below kV_are_numbers_below dc_are_numbers_below pm_are_numbers_below ct_are_numbers_below cd_are_numbers_below oc_is_lot_below kV_is_lot_below dc_is_lot_below pm_is_lot_below ct_is_lot_below cd_is_lot_below oc_is_lot_of_names kV_is_lot_of_names dc_is_lot_of_names pm_is_lot_of_names ct_is_lot_of_names cd_is_lot_of_names oc_Refused_init kV_Refused_init dc_Refused_init pm_Refused_init ct_Refused_init cd_Refused_init oc_Table_init kV_Table_init dc_Table_init pm_Table_init ct_Table_init cd_Table_init oc_Table_eq kV_Table_eq dc_Table_eq pm_Table_eq ct_Table_eq cd_Table_eq oc_is_type_pair kV_is_type_pair dc_is_type_pair pm_is_type_pair ct_is_type_pair cd_is_type_pair oc_accepted kV_accepted dc_accepted pm_accepted ct_accepted cd_accepted oc_takers kV_takers dc_takers pm_takers ct_takers cd_takers oc_types_of_kinds kV_types_of_kinds dc_types_of_kinds pm_types_of_kinds ct_types_of_kinds cd_types_of_kinds oc_shared_takers kV_shared_takers dc_shared_takers pm_shared_takers ct_shared_takers cd_shared_takers oc_do_cross kV_do_cross dc_do_cross pm_do_cross ct_do_cross cd_do_cross oc_crossing_pairs kV_crossing_pairs dc_crossing_pairs pm_crossing_pairs ct_crossing_pairs cd_crossing_pairs oc_is_forest kV_is_forest dc_is_forest pm_is_forest ct_is_forest cd_is_forest oc_is_way_to_strike kV_is_way_to_strike dc_is_way_to_strike pm_is_way_to_strike ct_is_way_to_strike cd_is_way_to_strike oc_check_way kV_check_way dc_check_way pm_check_way ct_check_way cd_check_way oc_items_for kV_items_for dc_items_for pm_items_for ct_items_for cd_items_for oc_struck_table kV_struck_table dc_struck_table pm_struck_table ct_struck_table cd_struck_table oc_is_struck kV_is_struck dc_is_struck pm_is_struck ct_is_struck cd_is_struck oc_are_items kV_are_items dc_are_items pm_are_items ct_are_items cd_are_items oc_is_acceptance kV_is_acceptance dc_is_acceptance pm_is_acceptance ct_is_acceptance cd_is_acceptance oc_is_repair kV_is_repair dc_is_repair pm_is_repair ct_is_repair cd_is_repair oc_strike_cost kV_strike_cost dc_strike_cost pm_strike_cost ct_strike_cost cd_strike_cost oc__law_heap kV__law_heap dc__law_heap pm__law_heap ct__law_heap cd__law_heap oc__law_draw kV__law_draw dc__law_draw pm__law_draw ct__law_draw cd__law_draw oc__law_pick kV__law_pick dc__law_pick pm__law_pick ct__law_pick cd__law_pick oc__law_names kV__law_names dc__law_names pm__law_names ct__law_names cd__law_names oc__law_lot kV__law_lot dc__law_lot pm__law_lot ct__law_lot cd__law_lot oc__law_parts kV__law_parts dc__law_parts pm__law_parts ct__law_parts cd__law_parts oc__law_forest_parts kV__law_forest_parts dc__law_forest_parts pm__law_forest_parts ct__law_forest_parts cd__law_forest_parts oc__law_any_parts kV__law_any_parts dc__law_any_parts pm__law_any_parts ct__law_any_parts cd__law_any_parts oc__law_takers kV__law_takers dc__law_takers pm__law_takers ct__law_takers cd__law_takers oc__law_crossings kV__law_crossings dc__law_crossings pm__law_crossings ct__law_crossings cd__law_crossings oc__law_items kV__law_items dc__law_items pm__law_items ct__law_items cd__law_items oc__law_struck kV__law_struck dc__law_struck pm__law_struck ct__law_struck cd__law_struck oc__law_heard kV__law_heard dc__law_heard pm__law_heard ct__law_heard cd__law_heard oc__law_is_number kV__law_is_number dc__law_is_number pm__law_is_number ct__law_is_number cd__law_is_number oc__law_is_lot kV__law_is_lot dc__law_is_lot pm__law_is_lot ct__law_is_lot cd__law_is_lot oc__law_greedy kV__law_greedy dc__law_greedy pm__law_greedy ct__law_greedy cd__law_greedy oc__law_odd kV__law_odd dc__law_odd pm__law_odd ct__law_odd cd__law_odd oc__law_way_right kV__law_way_right dc__law_way_right pm__law_way_right ct__law_way_right cd__law_way_right oc_law kV_law dc_law pm_law ct_law : Value}
    {cc_law P_law : Addr} {qd_law : Option Addr} {qv_law : Array Value} {qs_law : Array (Option Value)}
    (g_C : PySem.W.nsIn K mainGlobals "Table" = some (some (.ref C)))
    (g_CW : PySem.W.nsIn K mainGlobals "InvalidTable" = some (some (.ref CW)))
    (g_CF : PySem.W.nsIn K mainGlobals "Refused" = some (some (.ref CF)))
    (g_CD : PySem.W.nsIn K mainGlobals "DeskError" = some (some (.ref CD)))
    (a_is_number : PySem.W.nsIn K mainGlobals "is_number" = some (some (.ref f_is_number)))
    (l_is_number : K.lookup f_is_number = some ⟨oc_is_number, od_is_number, .func (PySem.W.fnOf "is_number" "is_number" (defArgs s_is_number) (defBody s_is_number) (defScope s_is_number) .none kV_is_number dc_is_number pm_is_number an_is_number cd_is_number ct_is_number), sl_is_number⟩)
    (c_is_number : PySem.W.codeIn K cd_is_number "is_number" = true)
    (k_is_number : PySem.W.keepIn K (.ref f_is_number) = true)
    (a_is_number_below : PySem.W.nsIn K mainGlobals "is_number_below" = some (some (.ref f_is_number_below)))
    (l_is_number_below : K.lookup f_is_number_below = some ⟨oc_is_number_below, od_is_number_below, .func (PySem.W.fnOf "is_number_below" "is_number_below" (defArgs s_is_number_below) (defBody s_is_number_below) (defScope s_is_number_below) .none kV_is_number_below dc_is_number_below pm_is_number_below an_is_number_below cd_is_number_below ct_is_number_below), sl_is_number_below⟩)
    (c_is_number_below : PySem.W.codeIn K cd_is_number_below "is_number_below" = true)
    (k_is_number_below : PySem.W.keepIn K (.ref f_is_number_below) = true)
    (a_is_name : PySem.W.nsIn K mainGlobals "is_name" = some (some (.ref f_is_name)))
    (l_is_name : K.lookup f_is_name = some ⟨oc_is_name, od_is_name, .func (PySem.W.fnOf "is_name" "is_name" (defArgs s_is_name) (defBody s_is_name) (defScope s_is_name) .none kV_is_name dc_is_name pm_is_name an_is_name cd_is_name ct_is_name), sl_is_name⟩)
    (c_is_name : PySem.W.codeIn K cd_is_name "is_name" = true)
    (k_is_name : PySem.W.keepIn K (.ref f_is_name) = true)
    (a_is_tuple_of : PySem.W.nsIn K mainGlobals "is_tuple_of" = some (some (.ref f_is_tuple_of)))
    (l_is_tuple_of : K.lookup f_is_tuple_of = some ⟨oc_is_tuple_of, od_is_tuple_of, .func (PySem.W.fnOf "is_tuple_of" "is_tuple_of" (defArgs s_is_tuple_of) (defBody s_is_tuple_of) (defScope s_is_tuple_of) .none kV_is_tuple_of dc_is_tuple_of pm_is_tuple_of an_is_tuple_of cd_is_tuple_of ct_is_tuple_of), sl_is_tuple_of⟩)
    (c_is_tuple_of : PySem.W.codeIn K cd_is_tuple_of "is_tuple_of" = true)
    (k_is_tuple_of : PySem.W.keepIn K (.ref f_is_tuple_of) = true)
    (a_is_ascending : PySem.W.nsIn K mainGlobals "is_ascending" = some (some (.ref f_is_ascending)))
    (l_is_ascending : K.lookup f_is_ascending = some ⟨oc_is_ascending, od_is_ascending, .func (PySem.W.fnOf "is_ascending" "is_ascending" (defArgs s_is_ascending) (defBody s_is_ascending) (defScope s_is_ascending) .none kV_is_ascending dc_is_ascending pm_is_ascending an_is_ascending cd_is_ascending ct_is_ascending), sl_is_ascending⟩)
    (c_is_ascending : PySem.W.codeIn K cd_is_ascending "is_ascending" = true)
    (k_is_ascending : PySem.W.keepIn K (.ref f_is_ascending) = true)
    (a_are_numbers_below : PySem.W.nsIn K mainGlobals "are_numbers_below" = some (some (.ref f_are_numbers_below)))
    (l_are_numbers_below : K.lookup f_are_numbers_below = some ⟨oc_are_numbers_below, od_are_numbers_below, .func (PySem.W.fnOf "are_numbers_below" "are_numbers_below" (defArgs s_are_numbers_below) (defBody s_are_numbers_below) (defScope s_are_numbers_below) .none kV_are_numbers_below dc_are_numbers_below pm_are_numbers_below an_are_numbers_below cd_are_numbers_below ct_are_numbers_below), sl_are_numbers_below⟩)
    (c_are_numbers_below : PySem.W.codeIn K cd_are_numbers_below "are_numbers_below" = true)
    (k_are_numbers_below : PySem.W.keepIn K (.ref f_are_numbers_below) = true)
    (a_is_lot_below : PySem.W.nsIn K mainGlobals "is_lot_below" = some (some (.ref f_is_lot_below)))
    (l_is_lot_below : K.lookup f_is_lot_below = some ⟨oc_is_lot_below, od_is_lot_below, .func (PySem.W.fnOf "is_lot_below" "is_lot_below" (defArgs s_is_lot_below) (defBody s_is_lot_below) (defScope s_is_lot_below) .none kV_is_lot_below dc_is_lot_below pm_is_lot_below an_is_lot_below cd_is_lot_below ct_is_lot_below), sl_is_lot_below⟩)
    (c_is_lot_below : PySem.W.codeIn K cd_is_lot_below "is_lot_below" = true)
    (k_is_lot_below : PySem.W.keepIn K (.ref f_is_lot_below) = true)
    (a_is_lot_of_names : PySem.W.nsIn K mainGlobals "is_lot_of_names" = some (some (.ref f_is_lot_of_names)))
    (l_is_lot_of_names : K.lookup f_is_lot_of_names = some ⟨oc_is_lot_of_names, od_is_lot_of_names, .func (PySem.W.fnOf "is_lot_of_names" "is_lot_of_names" (defArgs s_is_lot_of_names) (defBody s_is_lot_of_names) (defScope s_is_lot_of_names) .none kV_is_lot_of_names dc_is_lot_of_names pm_is_lot_of_names an_is_lot_of_names cd_is_lot_of_names ct_is_lot_of_names), sl_is_lot_of_names⟩)
    (c_is_lot_of_names : PySem.W.codeIn K cd_is_lot_of_names "is_lot_of_names" = true)
    (k_is_lot_of_names : PySem.W.keepIn K (.ref f_is_lot_of_names) = true)
    (a_Refused_init : PySem.W.findIn K (.ref CF) "__init__" = some (some (.ref f_Refused_init)))
    (l_Refused_init : K.lookup f_Refused_init = some ⟨oc_Refused_init, od_Refused_init, .func (PySem.W.fnOf "__init__" "Refused.__init__" (defArgs s_Refused_init) (defBody s_Refused_init) (defScope s_Refused_init) .none kV_Refused_init dc_Refused_init pm_Refused_init an_Refused_init cd_Refused_init ct_Refused_init), sl_Refused_init⟩)
    (c_Refused_init : PySem.W.codeIn K cd_Refused_init "Refused.__init__" = true)
    (k_Refused_init : PySem.W.keepIn K (.ref f_Refused_init) = true)
    (i_Refused_init : PySem.W.isFn K (.ref f_Refused_init) = true)
    (a_Table_init : PySem.W.findIn K (.ref C) "__init__" = some (some (.ref f_Table_init)))
    (l_Table_init : K.lookup f_Table_init = some ⟨oc_Table_init, od_Table_init, .func (PySem.W.fnOf "__init__" "Table.__init__" (defArgs s_Table_init) (defBody s_Table_init) (defScope s_Table_init) .none kV_Table_init dc_Table_init pm_Table_init an_Table_init cd_Table_init ct_Table_init), sl_Table_init⟩)
    (c_Table_init : PySem.W.codeIn K cd_Table_init "Table.__init__" = true)
    (k_Table_init : PySem.W.keepIn K (.ref f_Table_init) = true)
    (i_Table_init : PySem.W.isFn K (.ref f_Table_init) = true)
    (a_Table_eq : PySem.W.findIn K (.ref C) "__eq__" = some (some (.ref f_Table_eq)))
    (l_Table_eq : K.lookup f_Table_eq = some ⟨oc_Table_eq, od_Table_eq, .func (PySem.W.fnOf "__eq__" "Table.__eq__" (defArgs s_Table_eq) (defBody s_Table_eq) (defScope s_Table_eq) .none kV_Table_eq dc_Table_eq pm_Table_eq an_Table_eq cd_Table_eq ct_Table_eq), sl_Table_eq⟩)
    (c_Table_eq : PySem.W.codeIn K cd_Table_eq "Table.__eq__" = true)
    (k_Table_eq : PySem.W.keepIn K (.ref f_Table_eq) = true)
    (i_Table_eq : PySem.W.isFn K (.ref f_Table_eq) = true)
    (a_is_type_pair : PySem.W.nsIn K mainGlobals "is_type_pair" = some (some (.ref f_is_type_pair)))
    (l_is_type_pair : K.lookup f_is_type_pair = some ⟨oc_is_type_pair, od_is_type_pair, .func (PySem.W.fnOf "is_type_pair" "is_type_pair" (defArgs s_is_type_pair) (defBody s_is_type_pair) (defScope s_is_type_pair) .none kV_is_type_pair dc_is_type_pair pm_is_type_pair an_is_type_pair cd_is_type_pair ct_is_type_pair), sl_is_type_pair⟩)
    (c_is_type_pair : PySem.W.codeIn K cd_is_type_pair "is_type_pair" = true)
    (k_is_type_pair : PySem.W.keepIn K (.ref f_is_type_pair) = true)
    (a_accepted : PySem.W.nsIn K mainGlobals "accepted" = some (some (.ref f_accepted)))
    (l_accepted : K.lookup f_accepted = some ⟨oc_accepted, od_accepted, .func (PySem.W.fnOf "accepted" "accepted" (defArgs s_accepted) (defBody s_accepted) (defScope s_accepted) .none kV_accepted dc_accepted pm_accepted an_accepted cd_accepted ct_accepted), sl_accepted⟩)
    (c_accepted : PySem.W.codeIn K cd_accepted "accepted" = true)
    (k_accepted : PySem.W.keepIn K (.ref f_accepted) = true)
    (a_takers : PySem.W.nsIn K mainGlobals "takers" = some (some (.ref f_takers)))
    (l_takers : K.lookup f_takers = some ⟨oc_takers, od_takers, .func (PySem.W.fnOf "takers" "takers" (defArgs s_takers) (defBody s_takers) (defScope s_takers) .none kV_takers dc_takers pm_takers an_takers cd_takers ct_takers), sl_takers⟩)
    (c_takers : PySem.W.codeIn K cd_takers "takers" = true)
    (k_takers : PySem.W.keepIn K (.ref f_takers) = true)
    (a_types_of_kinds : PySem.W.nsIn K mainGlobals "types_of_kinds" = some (some (.ref f_types_of_kinds)))
    (l_types_of_kinds : K.lookup f_types_of_kinds = some ⟨oc_types_of_kinds, od_types_of_kinds, .func (PySem.W.fnOf "types_of_kinds" "types_of_kinds" (defArgs s_types_of_kinds) (defBody s_types_of_kinds) (defScope s_types_of_kinds) .none kV_types_of_kinds dc_types_of_kinds pm_types_of_kinds an_types_of_kinds cd_types_of_kinds ct_types_of_kinds), sl_types_of_kinds⟩)
    (c_types_of_kinds : PySem.W.codeIn K cd_types_of_kinds "types_of_kinds" = true)
    (k_types_of_kinds : PySem.W.keepIn K (.ref f_types_of_kinds) = true)
    (a_shared_takers : PySem.W.nsIn K mainGlobals "shared_takers" = some (some (.ref f_shared_takers)))
    (l_shared_takers : K.lookup f_shared_takers = some ⟨oc_shared_takers, od_shared_takers, .func (PySem.W.fnOf "shared_takers" "shared_takers" (defArgs s_shared_takers) (defBody s_shared_takers) (defScope s_shared_takers) .none kV_shared_takers dc_shared_takers pm_shared_takers an_shared_takers cd_shared_takers ct_shared_takers), sl_shared_takers⟩)
    (c_shared_takers : PySem.W.codeIn K cd_shared_takers "shared_takers" = true)
    (k_shared_takers : PySem.W.keepIn K (.ref f_shared_takers) = true)
    (a_do_cross : PySem.W.nsIn K mainGlobals "do_cross" = some (some (.ref f_do_cross)))
    (l_do_cross : K.lookup f_do_cross = some ⟨oc_do_cross, od_do_cross, .func (PySem.W.fnOf "do_cross" "do_cross" (defArgs s_do_cross) (defBody s_do_cross) (defScope s_do_cross) .none kV_do_cross dc_do_cross pm_do_cross an_do_cross cd_do_cross ct_do_cross), sl_do_cross⟩)
    (c_do_cross : PySem.W.codeIn K cd_do_cross "do_cross" = true)
    (k_do_cross : PySem.W.keepIn K (.ref f_do_cross) = true)
    (a_crossing_pairs : PySem.W.nsIn K mainGlobals "crossing_pairs" = some (some (.ref f_crossing_pairs)))
    (l_crossing_pairs : K.lookup f_crossing_pairs = some ⟨oc_crossing_pairs, od_crossing_pairs, .func (PySem.W.fnOf "crossing_pairs" "crossing_pairs" (defArgs s_crossing_pairs) (defBody s_crossing_pairs) (defScope s_crossing_pairs) .none kV_crossing_pairs dc_crossing_pairs pm_crossing_pairs an_crossing_pairs cd_crossing_pairs ct_crossing_pairs), sl_crossing_pairs⟩)
    (c_crossing_pairs : PySem.W.codeIn K cd_crossing_pairs "crossing_pairs" = true)
    (k_crossing_pairs : PySem.W.keepIn K (.ref f_crossing_pairs) = true)
    (a_is_forest : PySem.W.nsIn K mainGlobals "is_forest" = some (some (.ref f_is_forest)))
    (l_is_forest : K.lookup f_is_forest = some ⟨oc_is_forest, od_is_forest, .func (PySem.W.fnOf "is_forest" "is_forest" (defArgs s_is_forest) (defBody s_is_forest) (defScope s_is_forest) .none kV_is_forest dc_is_forest pm_is_forest an_is_forest cd_is_forest ct_is_forest), sl_is_forest⟩)
    (c_is_forest : PySem.W.codeIn K cd_is_forest "is_forest" = true)
    (k_is_forest : PySem.W.keepIn K (.ref f_is_forest) = true)
    (a_is_way_to_strike : PySem.W.nsIn K mainGlobals "is_way_to_strike" = some (some (.ref f_is_way_to_strike)))
    (l_is_way_to_strike : K.lookup f_is_way_to_strike = some ⟨oc_is_way_to_strike, od_is_way_to_strike, .func (PySem.W.fnOf "is_way_to_strike" "is_way_to_strike" (defArgs s_is_way_to_strike) (defBody s_is_way_to_strike) (defScope s_is_way_to_strike) .none kV_is_way_to_strike dc_is_way_to_strike pm_is_way_to_strike an_is_way_to_strike cd_is_way_to_strike ct_is_way_to_strike), sl_is_way_to_strike⟩)
    (c_is_way_to_strike : PySem.W.codeIn K cd_is_way_to_strike "is_way_to_strike" = true)
    (k_is_way_to_strike : PySem.W.keepIn K (.ref f_is_way_to_strike) = true)
    (a_check_way : PySem.W.nsIn K mainGlobals "check_way" = some (some (.ref f_check_way)))
    (l_check_way : K.lookup f_check_way = some ⟨oc_check_way, od_check_way, .func (PySem.W.fnOf "check_way" "check_way" (defArgs s_check_way) (defBody s_check_way) (defScope s_check_way) .none kV_check_way dc_check_way pm_check_way an_check_way cd_check_way ct_check_way), sl_check_way⟩)
    (c_check_way : PySem.W.codeIn K cd_check_way "check_way" = true)
    (k_check_way : PySem.W.keepIn K (.ref f_check_way) = true)
    (a_items_for : PySem.W.nsIn K mainGlobals "items_for" = some (some (.ref f_items_for)))
    (l_items_for : K.lookup f_items_for = some ⟨oc_items_for, od_items_for, .func (PySem.W.fnOf "items_for" "items_for" (defArgs s_items_for) (defBody s_items_for) (defScope s_items_for) .none kV_items_for dc_items_for pm_items_for an_items_for cd_items_for ct_items_for), sl_items_for⟩)
    (c_items_for : PySem.W.codeIn K cd_items_for "items_for" = true)
    (k_items_for : PySem.W.keepIn K (.ref f_items_for) = true)
    (a_struck_table : PySem.W.nsIn K mainGlobals "struck_table" = some (some (.ref f_struck_table)))
    (l_struck_table : K.lookup f_struck_table = some ⟨oc_struck_table, od_struck_table, .func (PySem.W.fnOf "struck_table" "struck_table" (defArgs s_struck_table) (defBody s_struck_table) (defScope s_struck_table) .none kV_struck_table dc_struck_table pm_struck_table an_struck_table cd_struck_table ct_struck_table), sl_struck_table⟩)
    (c_struck_table : PySem.W.codeIn K cd_struck_table "struck_table" = true)
    (k_struck_table : PySem.W.keepIn K (.ref f_struck_table) = true)
    (a_is_struck : PySem.W.nsIn K mainGlobals "is_struck" = some (some (.ref f_is_struck)))
    (l_is_struck : K.lookup f_is_struck = some ⟨oc_is_struck, od_is_struck, .func (PySem.W.fnOf "is_struck" "is_struck" (defArgs s_is_struck) (defBody s_is_struck) (defScope s_is_struck) .none kV_is_struck dc_is_struck pm_is_struck an_is_struck cd_is_struck ct_is_struck), sl_is_struck⟩)
    (c_is_struck : PySem.W.codeIn K cd_is_struck "is_struck" = true)
    (k_is_struck : PySem.W.keepIn K (.ref f_is_struck) = true)
    (a_are_items : PySem.W.nsIn K mainGlobals "are_items" = some (some (.ref f_are_items)))
    (l_are_items : K.lookup f_are_items = some ⟨oc_are_items, od_are_items, .func (PySem.W.fnOf "are_items" "are_items" (defArgs s_are_items) (defBody s_are_items) (defScope s_are_items) .none kV_are_items dc_are_items pm_are_items an_are_items cd_are_items ct_are_items), sl_are_items⟩)
    (c_are_items : PySem.W.codeIn K cd_are_items "are_items" = true)
    (k_are_items : PySem.W.keepIn K (.ref f_are_items) = true)
    (a_is_acceptance : PySem.W.nsIn K mainGlobals "is_acceptance" = some (some (.ref f_is_acceptance)))
    (l_is_acceptance : K.lookup f_is_acceptance = some ⟨oc_is_acceptance, od_is_acceptance, .func (PySem.W.fnOf "is_acceptance" "is_acceptance" (defArgs s_is_acceptance) (defBody s_is_acceptance) (defScope s_is_acceptance) .none kV_is_acceptance dc_is_acceptance pm_is_acceptance an_is_acceptance cd_is_acceptance ct_is_acceptance), sl_is_acceptance⟩)
    (c_is_acceptance : PySem.W.codeIn K cd_is_acceptance "is_acceptance" = true)
    (k_is_acceptance : PySem.W.keepIn K (.ref f_is_acceptance) = true)
    (a_is_repair : PySem.W.nsIn K mainGlobals "is_repair" = some (some (.ref f_is_repair)))
    (l_is_repair : K.lookup f_is_repair = some ⟨oc_is_repair, od_is_repair, .func (PySem.W.fnOf "is_repair" "is_repair" (defArgs s_is_repair) (defBody s_is_repair) (defScope s_is_repair) .none kV_is_repair dc_is_repair pm_is_repair an_is_repair cd_is_repair ct_is_repair), sl_is_repair⟩)
    (c_is_repair : PySem.W.codeIn K cd_is_repair "is_repair" = true)
    (k_is_repair : PySem.W.keepIn K (.ref f_is_repair) = true)
    (a_strike_cost : PySem.W.nsIn K mainGlobals "strike_cost" = some (some (.ref f_strike_cost)))
    (l_strike_cost : K.lookup f_strike_cost = some ⟨oc_strike_cost, od_strike_cost, .func (PySem.W.fnOf "strike_cost" "strike_cost" (defArgs s_strike_cost) (defBody s_strike_cost) (defScope s_strike_cost) .none kV_strike_cost dc_strike_cost pm_strike_cost an_strike_cost cd_strike_cost ct_strike_cost), sl_strike_cost⟩)
    (c_strike_cost : PySem.W.codeIn K cd_strike_cost "strike_cost" = true)
    (k_strike_cost : PySem.W.keepIn K (.ref f_strike_cost) = true)
    (a__law_heap : PySem.W.nsIn K mainGlobals "_law_heap" = some (some (.ref f__law_heap)))
    (l__law_heap : K.lookup f__law_heap = some ⟨oc__law_heap, od__law_heap, .func (PySem.W.fnOf "_law_heap" "_law_heap" (defArgs s__law_heap) (defBody s__law_heap) (defScope s__law_heap) .none kV__law_heap dc__law_heap pm__law_heap an__law_heap cd__law_heap ct__law_heap), sl__law_heap⟩)
    (c__law_heap : PySem.W.codeIn K cd__law_heap "_law_heap" = true)
    (k__law_heap : PySem.W.keepIn K (.ref f__law_heap) = true)
    (a__law_draw : PySem.W.nsIn K mainGlobals "_law_draw" = some (some (.ref f__law_draw)))
    (l__law_draw : K.lookup f__law_draw = some ⟨oc__law_draw, od__law_draw, .func (PySem.W.fnOf "_law_draw" "_law_draw" (defArgs s__law_draw) (defBody s__law_draw) (defScope s__law_draw) .none kV__law_draw dc__law_draw pm__law_draw an__law_draw cd__law_draw ct__law_draw), sl__law_draw⟩)
    (c__law_draw : PySem.W.codeIn K cd__law_draw "_law_draw" = true)
    (k__law_draw : PySem.W.keepIn K (.ref f__law_draw) = true)
    (a__law_pick : PySem.W.nsIn K mainGlobals "_law_pick" = some (some (.ref f__law_pick)))
    (l__law_pick : K.lookup f__law_pick = some ⟨oc__law_pick, od__law_pick, .func (PySem.W.fnOf "_law_pick" "_law_pick" (defArgs s__law_pick) (defBody s__law_pick) (defScope s__law_pick) .none kV__law_pick dc__law_pick pm__law_pick an__law_pick cd__law_pick ct__law_pick), sl__law_pick⟩)
    (c__law_pick : PySem.W.codeIn K cd__law_pick "_law_pick" = true)
    (k__law_pick : PySem.W.keepIn K (.ref f__law_pick) = true)
    (a__law_names : PySem.W.nsIn K mainGlobals "_law_names" = some (some (.ref f__law_names)))
    (l__law_names : K.lookup f__law_names = some ⟨oc__law_names, od__law_names, .func (PySem.W.fnOf "_law_names" "_law_names" (defArgs s__law_names) (defBody s__law_names) (defScope s__law_names) .none kV__law_names dc__law_names pm__law_names an__law_names cd__law_names ct__law_names), sl__law_names⟩)
    (c__law_names : PySem.W.codeIn K cd__law_names "_law_names" = true)
    (k__law_names : PySem.W.keepIn K (.ref f__law_names) = true)
    (a__law_lot : PySem.W.nsIn K mainGlobals "_law_lot" = some (some (.ref f__law_lot)))
    (l__law_lot : K.lookup f__law_lot = some ⟨oc__law_lot, od__law_lot, .func (PySem.W.fnOf "_law_lot" "_law_lot" (defArgs s__law_lot) (defBody s__law_lot) (defScope s__law_lot) .none kV__law_lot dc__law_lot pm__law_lot an__law_lot cd__law_lot ct__law_lot), sl__law_lot⟩)
    (c__law_lot : PySem.W.codeIn K cd__law_lot "_law_lot" = true)
    (k__law_lot : PySem.W.keepIn K (.ref f__law_lot) = true)
    (a__law_parts : PySem.W.nsIn K mainGlobals "_law_parts" = some (some (.ref f__law_parts)))
    (l__law_parts : K.lookup f__law_parts = some ⟨oc__law_parts, od__law_parts, .func (PySem.W.fnOf "_law_parts" "_law_parts" (defArgs s__law_parts) (defBody s__law_parts) (defScope s__law_parts) .none kV__law_parts dc__law_parts pm__law_parts an__law_parts cd__law_parts ct__law_parts), sl__law_parts⟩)
    (c__law_parts : PySem.W.codeIn K cd__law_parts "_law_parts" = true)
    (k__law_parts : PySem.W.keepIn K (.ref f__law_parts) = true)
    (a__law_forest_parts : PySem.W.nsIn K mainGlobals "_law_forest_parts" = some (some (.ref f__law_forest_parts)))
    (l__law_forest_parts : K.lookup f__law_forest_parts = some ⟨oc__law_forest_parts, od__law_forest_parts, .func (PySem.W.fnOf "_law_forest_parts" "_law_forest_parts" (defArgs s__law_forest_parts) (defBody s__law_forest_parts) (defScope s__law_forest_parts) .none kV__law_forest_parts dc__law_forest_parts pm__law_forest_parts an__law_forest_parts cd__law_forest_parts ct__law_forest_parts), sl__law_forest_parts⟩)
    (c__law_forest_parts : PySem.W.codeIn K cd__law_forest_parts "_law_forest_parts" = true)
    (k__law_forest_parts : PySem.W.keepIn K (.ref f__law_forest_parts) = true)
    (a__law_any_parts : PySem.W.nsIn K mainGlobals "_law_any_parts" = some (some (.ref f__law_any_parts)))
    (l__law_any_parts : K.lookup f__law_any_parts = some ⟨oc__law_any_parts, od__law_any_parts, .func (PySem.W.fnOf "_law_any_parts" "_law_any_parts" (defArgs s__law_any_parts) (defBody s__law_any_parts) (defScope s__law_any_parts) .none kV__law_any_parts dc__law_any_parts pm__law_any_parts an__law_any_parts cd__law_any_parts ct__law_any_parts), sl__law_any_parts⟩)
    (c__law_any_parts : PySem.W.codeIn K cd__law_any_parts "_law_any_parts" = true)
    (k__law_any_parts : PySem.W.keepIn K (.ref f__law_any_parts) = true)
    (a__law_takers : PySem.W.nsIn K mainGlobals "_law_takers" = some (some (.ref f__law_takers)))
    (l__law_takers : K.lookup f__law_takers = some ⟨oc__law_takers, od__law_takers, .func (PySem.W.fnOf "_law_takers" "_law_takers" (defArgs s__law_takers) (defBody s__law_takers) (defScope s__law_takers) .none kV__law_takers dc__law_takers pm__law_takers an__law_takers cd__law_takers ct__law_takers), sl__law_takers⟩)
    (c__law_takers : PySem.W.codeIn K cd__law_takers "_law_takers" = true)
    (k__law_takers : PySem.W.keepIn K (.ref f__law_takers) = true)
    (a__law_crossings : PySem.W.nsIn K mainGlobals "_law_crossings" = some (some (.ref f__law_crossings)))
    (l__law_crossings : K.lookup f__law_crossings = some ⟨oc__law_crossings, od__law_crossings, .func (PySem.W.fnOf "_law_crossings" "_law_crossings" (defArgs s__law_crossings) (defBody s__law_crossings) (defScope s__law_crossings) .none kV__law_crossings dc__law_crossings pm__law_crossings an__law_crossings cd__law_crossings ct__law_crossings), sl__law_crossings⟩)
    (c__law_crossings : PySem.W.codeIn K cd__law_crossings "_law_crossings" = true)
    (k__law_crossings : PySem.W.keepIn K (.ref f__law_crossings) = true)
    (a__law_items : PySem.W.nsIn K mainGlobals "_law_items" = some (some (.ref f__law_items)))
    (l__law_items : K.lookup f__law_items = some ⟨oc__law_items, od__law_items, .func (PySem.W.fnOf "_law_items" "_law_items" (defArgs s__law_items) (defBody s__law_items) (defScope s__law_items) .none kV__law_items dc__law_items pm__law_items an__law_items cd__law_items ct__law_items), sl__law_items⟩)
    (c__law_items : PySem.W.codeIn K cd__law_items "_law_items" = true)
    (k__law_items : PySem.W.keepIn K (.ref f__law_items) = true)
    (a__law_struck : PySem.W.nsIn K mainGlobals "_law_struck" = some (some (.ref f__law_struck)))
    (l__law_struck : K.lookup f__law_struck = some ⟨oc__law_struck, od__law_struck, .func (PySem.W.fnOf "_law_struck" "_law_struck" (defArgs s__law_struck) (defBody s__law_struck) (defScope s__law_struck) .none kV__law_struck dc__law_struck pm__law_struck an__law_struck cd__law_struck ct__law_struck), sl__law_struck⟩)
    (c__law_struck : PySem.W.codeIn K cd__law_struck "_law_struck" = true)
    (k__law_struck : PySem.W.keepIn K (.ref f__law_struck) = true)
    (a__law_heard : PySem.W.nsIn K mainGlobals "_law_heard" = some (some (.ref f__law_heard)))
    (l__law_heard : K.lookup f__law_heard = some ⟨oc__law_heard, od__law_heard, .func (PySem.W.fnOf "_law_heard" "_law_heard" (defArgs s__law_heard) (defBody s__law_heard) (defScope s__law_heard) .none kV__law_heard dc__law_heard pm__law_heard an__law_heard cd__law_heard ct__law_heard), sl__law_heard⟩)
    (c__law_heard : PySem.W.codeIn K cd__law_heard "_law_heard" = true)
    (k__law_heard : PySem.W.keepIn K (.ref f__law_heard) = true)
    (a__law_is_number : PySem.W.nsIn K mainGlobals "_law_is_number" = some (some (.ref f__law_is_number)))
    (l__law_is_number : K.lookup f__law_is_number = some ⟨oc__law_is_number, od__law_is_number, .func (PySem.W.fnOf "_law_is_number" "_law_is_number" (defArgs s__law_is_number) (defBody s__law_is_number) (defScope s__law_is_number) .none kV__law_is_number dc__law_is_number pm__law_is_number an__law_is_number cd__law_is_number ct__law_is_number), sl__law_is_number⟩)
    (c__law_is_number : PySem.W.codeIn K cd__law_is_number "_law_is_number" = true)
    (k__law_is_number : PySem.W.keepIn K (.ref f__law_is_number) = true)
    (a__law_is_lot : PySem.W.nsIn K mainGlobals "_law_is_lot" = some (some (.ref f__law_is_lot)))
    (l__law_is_lot : K.lookup f__law_is_lot = some ⟨oc__law_is_lot, od__law_is_lot, .func (PySem.W.fnOf "_law_is_lot" "_law_is_lot" (defArgs s__law_is_lot) (defBody s__law_is_lot) (defScope s__law_is_lot) .none kV__law_is_lot dc__law_is_lot pm__law_is_lot an__law_is_lot cd__law_is_lot ct__law_is_lot), sl__law_is_lot⟩)
    (c__law_is_lot : PySem.W.codeIn K cd__law_is_lot "_law_is_lot" = true)
    (k__law_is_lot : PySem.W.keepIn K (.ref f__law_is_lot) = true)
    (a__law_greedy : PySem.W.nsIn K mainGlobals "_law_greedy" = some (some (.ref f__law_greedy)))
    (l__law_greedy : K.lookup f__law_greedy = some ⟨oc__law_greedy, od__law_greedy, .func (PySem.W.fnOf "_law_greedy" "_law_greedy" (defArgs s__law_greedy) (defBody s__law_greedy) (defScope s__law_greedy) .none kV__law_greedy dc__law_greedy pm__law_greedy an__law_greedy cd__law_greedy ct__law_greedy), sl__law_greedy⟩)
    (c__law_greedy : PySem.W.codeIn K cd__law_greedy "_law_greedy" = true)
    (k__law_greedy : PySem.W.keepIn K (.ref f__law_greedy) = true)
    (a__law_odd : PySem.W.nsIn K mainGlobals "_law_odd" = some (some (.ref f__law_odd)))
    (l__law_odd : K.lookup f__law_odd = some ⟨oc__law_odd, od__law_odd, .func (PySem.W.fnOf "_law_odd" "_law_odd" (defArgs s__law_odd) (defBody s__law_odd) (defScope s__law_odd) .none kV__law_odd dc__law_odd pm__law_odd an__law_odd cd__law_odd ct__law_odd), sl__law_odd⟩)
    (c__law_odd : PySem.W.codeIn K cd__law_odd "_law_odd" = true)
    (k__law_odd : PySem.W.keepIn K (.ref f__law_odd) = true)
    (a__law_way_right : PySem.W.nsIn K mainGlobals "_law_way_right" = some (some (.ref f__law_way_right)))
    (l__law_way_right : K.lookup f__law_way_right = some ⟨oc__law_way_right, od__law_way_right, .func (PySem.W.fnOf "_law_way_right" "_law_way_right" (defArgs s__law_way_right) (defBody s__law_way_right) (defScope s__law_way_right) .none kV__law_way_right dc__law_way_right pm__law_way_right an__law_way_right cd__law_way_right ct__law_way_right), sl__law_way_right⟩)
    (c__law_way_right : PySem.W.codeIn K cd__law_way_right "_law_way_right" = true)
    (k__law_way_right : PySem.W.keepIn K (.ref f__law_way_right) = true)
    (a_law : PySem.W.nsIn K mainGlobals "law" = some (some (.ref f_law)))
    (l_law : K.lookup f_law = some ⟨oc_law, od_law, .func (PySem.W.fnOf "law" "law" (defArgs s_law) (defBody s_law) (defScope s_law) .none kV_law dc_law pm_law an_law (.ref cc_law) ct_law), sl_law⟩)
    (c_law : PySem.W.codeIn K (.ref cc_law) "law" = true)
    (q_law : K.lookup cc_law = some ⟨.type "code", qd_law, .fields qv_law, qs_law⟩)
    (r_law : (qv_law[11]? : Option Value) = some (.ref P_law))
    (h_law : PySem.W.codeHdIn K cc_law P_law = true)
    (n_law : K.lookup P_law = none)
    (t_law : h.get? P_law = some (PySem.W.tabObj #[]))
    (k_law : PySem.W.keepIn K (.ref f_law) = true)
    (pg : PySem.W.plainGet K C Str.empty = true)
    (hdT : PySem.W.hasDictIn K C = true)
    (po : PySem.W.plainOver K C = true)
    (sa : PySem.W.findIn K (.ref C) "__setattr__" = some (some (.builtin "object.__setattr__")))
    (mk : PySem.W.makesIn K C = true)
    (kpC : PySem.W.keepIn K (.ref C) = true)
    (haC : PySem.W.findIn K (.ref C) "__class__" = some (some (.builtin "object.__class__")))
    (hmC : PySem.W.mroIn K C (.type "object") = some true)
    (iC : PySem.W.isClsIn K C = true)
    (tC : PySem.W.typeIn K (.ref C) = some (.type "type"))
    (sCC : PySem.W.subIn K (.ref C) (.ref C) = some true)
    (g_WAYS : PySem.W.nsIn K mainGlobals "WAYS" = some (some (.ref W_WAYS)))
    (q_WAYS : K.lookup W_WAYS = some ⟨.type "tuple", qdW, .seq #[.str "kinds" tW1, .str "types" tW2, .str "accepted" tW3] qeW, qsW⟩)
    (nK : PySem.W.findIn K (.ref C) "kinds" = some none)
    (nT : PySem.W.findIn K (.ref C) "types" = some none)
    (xF : K.lookup CF = some (excClassObj nmF qnF CF NnF bsF [.ref CD, .type "ValueError", .type "Exception", .type "BaseException", .type "object"] true snF subF abF colF ddF m0F m1F m2F m3F m5F "ValueError.__new__"))
    (sa_F : PySem.W.findIn K (.ref CF) "__setattr__" = some (some (.builtin "object.__setattr__")))
    (exCF : PySem.W.subIn K (.ref CF) (.type "BaseException") = some true)
    (tyF : PySem.W.typeIn K (.ref CF) = some (.type "type"))
    (kCF : PySem.W.keepIn K (.ref CF) = true)
    (nAF : PySem.W.findIn K (.ref CF) "word" = some none)
    (tIF : PySem.W.typeIn K (.ref f_Refused_init) = some (.type "function"))
    (hgF : PySem.W.findIn K (.ref CF) "__getattribute__" = some (some (.builtin "BaseException.__getattribute__")))
    (hkF : PySem.W.findIn K (.ref CF) "__getattr__" = some none)
    (hdF : PySem.W.hasDictIn K CF = true)
    (sFF : PySem.W.subIn K (.ref CF) (.ref CF) = some true)
    (haF : PySem.W.findIn K (.ref CF) "__class__" = some (some (.builtin "object.__class__")))
    (hmF : PySem.W.mroIn K CF (.type "object") = some true)
    (hn : PySem.W.specialIn K (.builtin "object.__class__") "__get__" = some (some (.builtin "getset_descriptor.__get__")))
    (ht : PySem.W.takesIn K (.builtin "object.__class__") = some true)
    (iCD : PySem.W.isClsIn K CD = true)
    (tCD : PySem.W.typeIn K (.ref CD) = some (.type "type"))
    (sFD : PySem.W.subIn K (.ref CF) (.ref CD) = some true)
    (iCW : PySem.W.isClsIn K CW = true)
    (tCW : PySem.W.typeIn K (.ref CW) = some (.type "type"))
    (sFW : PySem.W.subIn K (.ref CF) (.ref CW) = some false)
    (v_MOST_KINDS : PySem.W.nsIn K mainGlobals "MOST_KINDS" = some (some (.int 8 t_MOST_KINDS)))
    (v_MOST_TYPES : PySem.W.nsIn K mainGlobals "MOST_TYPES" = some (some (.int 12 t_MOST_TYPES)))
    (v_MOST_LETTERS : PySem.W.nsIn K mainGlobals "MOST_LETTERS" = some (some (.int 8 t_MOST_LETTERS)))
    (z_isinstance : PySem.W.nsIn K mainGlobals "isinstance" = some none)
    (z_str : PySem.W.nsIn K mainGlobals "str" = some none)
    (z_tuple : PySem.W.nsIn K mainGlobals "tuple" = some none)
    (z_all : PySem.W.nsIn K mainGlobals "all" = some none)
    (z_range : PySem.W.nsIn K mainGlobals "range" = some none)
    (z_len : PySem.W.nsIn K mainGlobals "len" = some none)
    (z_int : PySem.W.nsIn K mainGlobals "int" = some none)
    (z_bool : PySem.W.nsIn K mainGlobals "bool" = some none)
    (z_enumerate : PySem.W.nsIn K mainGlobals "enumerate" = some none)
    (z_abs : PySem.W.nsIn K mainGlobals "abs" = some none)
    (z_sorted : PySem.W.nsIn K mainGlobals "sorted" = some none)
    (z_max : PySem.W.nsIn K mainGlobals "max" = some none)
    (z_set : PySem.W.nsIn K mainGlobals "set" = some none)
    (z_list : PySem.W.nsIn K mainGlobals "list" = some none)
    (z_sum : PySem.W.nsIn K mainGlobals "sum" = some none)
    (z_zip : PySem.W.nsIn K mainGlobals "zip" = some none)
    (z_any : PySem.W.nsIn K mainGlobals "any" = some none)
    (z_repr : PySem.W.nsIn K mainGlobals "repr" = some none)
    (dist : [P_law].Nodup)
    : LawG l w K 12 63 "script" mg fa h := by
  have e := hfa.symm.trans (PySem.W.mg_of X G a_law)
  cases e
  have F_is_number := fun_mk (st := s_is_number) l_is_number c_is_number k_is_number
  have F_is_number_below := fun_mk (st := s_is_number_below) l_is_number_below c_is_number_below k_is_number_below
  have F_is_name := fun_mk (st := s_is_name) l_is_name c_is_name k_is_name
  have F_is_tuple_of := fun_mk (st := s_is_tuple_of) l_is_tuple_of c_is_tuple_of k_is_tuple_of
  have F_is_ascending := fun_mk (st := s_is_ascending) l_is_ascending c_is_ascending k_is_ascending
  have F_are_numbers_below := fun_mk (st := s_are_numbers_below) l_are_numbers_below c_are_numbers_below k_are_numbers_below
  have F_is_lot_below := fun_mk (st := s_is_lot_below) l_is_lot_below c_is_lot_below k_is_lot_below
  have F_is_lot_of_names := fun_mk (st := s_is_lot_of_names) l_is_lot_of_names c_is_lot_of_names k_is_lot_of_names
  have F_Refused_init := fun_mk (st := s_Refused_init) l_Refused_init c_Refused_init k_Refused_init
  have F_Table_init := fun_mk (st := s_Table_init) l_Table_init c_Table_init k_Table_init
  have F_Table_eq := fun_mk (st := s_Table_eq) l_Table_eq c_Table_eq k_Table_eq
  have F_is_type_pair := fun_mk (st := s_is_type_pair) l_is_type_pair c_is_type_pair k_is_type_pair
  have F_accepted := fun_mk (st := s_accepted) l_accepted c_accepted k_accepted
  have F_takers := fun_mk (st := s_takers) l_takers c_takers k_takers
  have F_types_of_kinds := fun_mk (st := s_types_of_kinds) l_types_of_kinds c_types_of_kinds k_types_of_kinds
  have F_shared_takers := fun_mk (st := s_shared_takers) l_shared_takers c_shared_takers k_shared_takers
  have F_do_cross := fun_mk (st := s_do_cross) l_do_cross c_do_cross k_do_cross
  have F_crossing_pairs := fun_mk (st := s_crossing_pairs) l_crossing_pairs c_crossing_pairs k_crossing_pairs
  have F_is_forest := fun_mk (st := s_is_forest) l_is_forest c_is_forest k_is_forest
  have F_is_way_to_strike := fun_mk (st := s_is_way_to_strike) l_is_way_to_strike c_is_way_to_strike k_is_way_to_strike
  have F_check_way := fun_mk (st := s_check_way) l_check_way c_check_way k_check_way
  have F_items_for := fun_mk (st := s_items_for) l_items_for c_items_for k_items_for
  have F_struck_table := fun_mk (st := s_struck_table) l_struck_table c_struck_table k_struck_table
  have F_is_struck := fun_mk (st := s_is_struck) l_is_struck c_is_struck k_is_struck
  have F_are_items := fun_mk (st := s_are_items) l_are_items c_are_items k_are_items
  have F_is_acceptance := fun_mk (st := s_is_acceptance) l_is_acceptance c_is_acceptance k_is_acceptance
  have F_is_repair := fun_mk (st := s_is_repair) l_is_repair c_is_repair k_is_repair
  have F_strike_cost := fun_mk (st := s_strike_cost) l_strike_cost c_strike_cost k_strike_cost
  have F__law_heap := fun_mk (st := s__law_heap) l__law_heap c__law_heap k__law_heap
  have F__law_draw := fun_mk (st := s__law_draw) l__law_draw c__law_draw k__law_draw
  have F__law_pick := fun_mk (st := s__law_pick) l__law_pick c__law_pick k__law_pick
  have F__law_names := fun_mk (st := s__law_names) l__law_names c__law_names k__law_names
  have F__law_lot := fun_mk (st := s__law_lot) l__law_lot c__law_lot k__law_lot
  have F__law_parts := fun_mk (st := s__law_parts) l__law_parts c__law_parts k__law_parts
  have F__law_forest_parts := fun_mk (st := s__law_forest_parts) l__law_forest_parts c__law_forest_parts k__law_forest_parts
  have F__law_any_parts := fun_mk (st := s__law_any_parts) l__law_any_parts c__law_any_parts k__law_any_parts
  have F__law_takers := fun_mk (st := s__law_takers) l__law_takers c__law_takers k__law_takers
  have F__law_crossings := fun_mk (st := s__law_crossings) l__law_crossings c__law_crossings k__law_crossings
  have F__law_items := fun_mk (st := s__law_items) l__law_items c__law_items k__law_items
  have F__law_struck := fun_mk (st := s__law_struck) l__law_struck c__law_struck k__law_struck
  have F__law_heard := fun_mk (st := s__law_heard) l__law_heard c__law_heard k__law_heard
  have F__law_is_number := fun_mk (st := s__law_is_number) l__law_is_number c__law_is_number k__law_is_number
  have F__law_is_lot := fun_mk (st := s__law_is_lot) l__law_is_lot c__law_is_lot k__law_is_lot
  have F__law_greedy := fun_mk (st := s__law_greedy) l__law_greedy c__law_greedy k__law_greedy
  have F__law_odd := fun_mk (st := s__law_odd) l__law_odd c__law_odd k__law_odd
  have F__law_way_right := fun_mk (st := s__law_way_right) l__law_way_right c__law_way_right k__law_way_right
  have F_law := fun_mk (st := s_law) l_law c_law k_law
  have b_is_number := F_is_number.binds (ps := ["value"]) fun _ _ _ _ _ _ us hl => match us, hl with | [_], _ => rfl
  have b_is_number_below := F_is_number_below.binds (ps := ["value", "limit"]) fun _ _ _ _ _ _ us hl => match us, hl with | [_, _], _ => rfl
  have b_is_name := F_is_name.binds (ps := ["value"]) fun _ _ _ _ _ _ us hl => match us, hl with | [_], _ => rfl
  have b_is_tuple_of := F_is_tuple_of.binds (ps := ["value", "length"]) fun _ _ _ _ _ _ us hl => match us, hl with | [_, _], _ => rfl
  have b_is_ascending := F_is_ascending.binds (ps := ["items"]) fun _ _ _ _ _ _ us hl => match us, hl with | [_], _ => rfl
  have b_are_numbers_below := F_are_numbers_below.binds (ps := ["value", "limit"]) fun _ _ _ _ _ _ us hl => match us, hl with | [_, _], _ => rfl
  have b_is_lot_below := F_is_lot_below.binds (ps := ["value", "limit"]) fun _ _ _ _ _ _ us hl => match us, hl with | [_, _], _ => rfl
  have b_is_lot_of_names := F_is_lot_of_names.binds (ps := ["value"]) fun _ _ _ _ _ _ us hl => match us, hl with | [_], _ => rfl
  have b_Refused_init := F_Refused_init.binds (ps := ["self", "word"]) fun _ _ _ _ _ _ us hl => match us, hl with | [_, _], _ => rfl
  have b_Table_init := F_Table_init.binds (ps := ["self", "kinds", "types"]) fun _ _ _ _ _ _ us hl => match us, hl with | [_, _, _], _ => rfl
  have b_Table_eq := F_Table_eq.binds (ps := ["self", "other"]) fun _ _ _ _ _ _ us hl => match us, hl with | [_, _], _ => rfl
  have b_is_type_pair := F_is_type_pair.binds (ps := ["value", "many_kinds"]) fun _ _ _ _ _ _ us hl => match us, hl with | [_, _], _ => rfl
  have b_accepted := F_accepted.binds (ps := ["table", "request"]) fun _ _ _ _ _ _ us hl => match us, hl with | [_, _], _ => rfl
  have b_takers := F_takers.binds (ps := ["table", "kind"]) fun _ _ _ _ _ _ us hl => match us, hl with | [_, _], _ => rfl
  have b_types_of_kinds := F_types_of_kinds.binds (ps := ["table", "kinds"]) fun _ _ _ _ _ _ us hl => match us, hl with | [_, _], _ => rfl
  have b_shared_takers := F_shared_takers.binds (ps := ["table", "one", "other"]) fun _ _ _ _ _ _ us hl => match us, hl with | [_, _, _], _ => rfl
  have b_do_cross := F_do_cross.binds (ps := ["table", "one", "other"]) fun _ _ _ _ _ _ us hl => match us, hl with | [_, _, _], _ => rfl
  have b_crossing_pairs := F_crossing_pairs.binds (ps := ["table"]) fun _ _ _ _ _ _ us hl => match us, hl with | [_], _ => rfl
  have b_is_forest := F_is_forest.binds (ps := ["table"]) fun _ _ _ _ _ _ us hl => match us, hl with | [_], _ => rfl
  have b_is_way_to_strike := F_is_way_to_strike.binds (ps := ["value"]) fun _ _ _ _ _ _ us hl => match us, hl with | [_], _ => rfl
  have b_check_way := F_check_way.binds (ps := ["way"]) fun _ _ _ _ _ _ us hl => match us, hl with | [_], _ => rfl
  have b_items_for := F_items_for.binds (ps := ["table", "way"]) fun _ _ _ _ _ _ us hl => match us, hl with | [_, _], _ => rfl
  have b_struck_table := F_struck_table.binds (ps := ["table", "way", "items"]) fun _ _ _ _ _ _ us hl => match us, hl with | [_, _, _], _ => rfl
  have b_is_struck := F_is_struck.binds (ps := ["way", "items", "request", "kind"]) fun _ _ _ _ _ _ us hl => match us, hl with | [_, _, _, _], _ => rfl
  have b_are_items := F_are_items.binds (ps := ["table", "way", "value"]) fun _ _ _ _ _ _ us hl => match us, hl with | [_, _, _], _ => rfl
  have b_is_acceptance := F_is_acceptance.binds (ps := ["table", "value"]) fun _ _ _ _ _ _ us hl => match us, hl with | [_, _], _ => rfl
  have b_is_repair := F_is_repair.binds (ps := ["table", "way", "value"]) fun _ _ _ _ _ _ us hl => match us, hl with | [_, _, _], _ => rfl
  have b_strike_cost := F_strike_cost.binds (ps := ["table", "way", "costs", "items"]) fun _ _ _ _ _ _ us hl => match us, hl with | [_, _, _, _], _ => rfl
  have b__law_heap := F__law_heap.binds (ps := ["script"]) fun _ _ _ _ _ _ us hl => match us, hl with | [_], _ => rfl
  have b__law_draw := F__law_draw.binds (ps := ["heap", "many"]) fun _ _ _ _ _ _ us hl => match us, hl with | [_, _], _ => rfl
  have b__law_pick := F__law_pick.binds (ps := ["heap", "some"]) fun _ _ _ _ _ _ us hl => match us, hl with | [_, _], _ => rfl
  have b__law_names := F__law_names.binds (ps := ["heap", "many"]) fun _ _ _ _ _ _ us hl => match us, hl with | [_, _], _ => rfl
  have b__law_lot := F__law_lot.binds (ps := ["heap", "many", "share"]) fun _ _ _ _ _ _ us hl => match us, hl with | [_, _, _], _ => rfl
  have b__law_parts := F__law_parts.binds (ps := ["heap", "kinds", "types"]) fun _ _ _ _ _ _ us hl => match us, hl with | [_, _, _], _ => rfl
  have b__law_forest_parts := F__law_forest_parts.binds (ps := ["heap", "kinds", "types"]) fun _ _ _ _ _ _ us hl => match us, hl with | [_, _, _], _ => rfl
  have b__law_any_parts := F__law_any_parts.binds (ps := ["heap", "kinds", "types"]) fun _ _ _ _ _ _ us hl => match us, hl with | [_, _, _], _ => rfl
  have b__law_takers := F__law_takers.binds (ps := ["kinds", "types"]) fun _ _ _ _ _ _ us hl => match us, hl with | [_, _], _ => rfl
  have b__law_crossings := F__law_crossings.binds (ps := ["kinds", "types"]) fun _ _ _ _ _ _ us hl => match us, hl with | [_, _], _ => rfl
  have b__law_items := F__law_items.binds (ps := ["kinds", "types", "way"]) fun _ _ _ _ _ _ us hl => match us, hl with | [_, _, _], _ => rfl
  have b__law_struck := F__law_struck.binds (ps := ["types", "way", "items"]) fun _ _ _ _ _ _ us hl => match us, hl with | [_, _, _], _ => rfl
  have b__law_heard := F__law_heard.binds (ps := ["action"]) fun _ _ _ _ _ _ us hl => match us, hl with | [_], _ => rfl
  have b__law_is_number := F__law_is_number.binds (ps := ["value", "many"]) fun _ _ _ _ _ _ us hl => match us, hl with | [_, _], _ => rfl
  have b__law_is_lot := F__law_is_lot.binds (ps := ["kinds", "types", "way", "value"]) fun _ _ _ _ _ _ us hl => match us, hl with | [_, _, _, _], _ => rfl
  have b__law_greedy := F__law_greedy.binds (ps := ["heap", "kinds", "types", "way"]) fun _ _ _ _ _ _ us hl => match us, hl with | [_, _, _, _], _ => rfl
  have b__law_odd := F__law_odd.binds (ps := ["heap", "lot", "items"]) fun _ _ _ _ _ _ us hl => match us, hl with | [_, _, _], _ => rfl
  have b__law_way_right := F__law_way_right.binds (ps := ["heap", "table", "kinds", "types", "way"]) fun _ _ _ _ _ _ us hl => match us, hl with | [_, _, _, _, _], _ => rfl
  have kw_items_for_0 := kwB_of (ps := ["table", "way"]) (ks := ["way", "table"]) (g := List.reverse) F_items_for fun _ _ _ _ _ _ ws hl => match ws, hl with | [_, _], _ => rfl
  have kw_struck_table_0 := kwB_of (ps := ["table", "way", "items"]) (ks := ["items", "way", "table"]) (g := List.reverse) F_struck_table fun _ _ _ _ _ _ ws hl => match ws, hl with | [_, _, _], _ => rfl
  have kw_strike_cost_0 := kwB_of (ps := ["table", "way", "costs", "items"]) (ks := ["items", "costs", "way", "table"]) (g := List.reverse) F_strike_cost fun _ _ _ _ _ _ ws hl => match ws, hl with | [_, _, _, _], _ => rfl
  have kw_is_repair_0 := kwB_of (ps := ["table", "way", "value"]) (ks := ["value", "way", "table"]) (g := List.reverse) F_is_repair fun _ _ _ _ _ _ ws hl => match ws, hl with | [_, _, _], _ => rfl
  have TT : TTxt K mg C := ⟨⟨pg, hdT, po, sa⟩, nK, nT, PySem.W.mg_of X G g_C⟩
  have M : Mk K C f_Table_init := ⟨mk, a_Table_init, i_Table_init, kpC⟩
  have oxF : OexC K CF := ⟨⟨nmF, qnF, NnF, bsF, _, snF, subF, abF, colF, ddF, m0F, m1F, m2F, m3F, m5F, xF, rfl⟩, sa_F, exCF, tyF, kCF⟩
  have TR : WTxt K mg "Refused" CF f_Refused_init := ⟨oxF, nAF, a_Refused_init, tIF, PySem.W.mg_of X G g_CF⟩
  have TH : HTxt K mg CW CF CD := ⟨PySem.W.mg_of X G g_CW, PySem.W.mg_of X G g_CF, PySem.W.mg_of X G g_CD, nAF, PySem.W.exm_ref exCF hdF tyF sFF, kit_yes iCD tCD sFD, kit_no iCW tCW sFF sFW, ⟨hgF, hkF, exCF, hdF, haF, hn, ht, hmF⟩, ⟨hgF, hkF, exCF, hdF⟩⟩
  have HTY : ∀ {H : Hp} {q dx : Addr} {fs : List (Str × V)}, H q = some (.ins C dx fs) → TyX K H (.ref q) (.ref C) := fun hq => .base (.ins hq TT.cl haC hn ht hmC)
  have KK := kit_yes iC tC sCC
  have NF : PySem.W.notFirst K C (.ref C) = true := by simp [PySem.W.notFirst]
  have WT : WayT K mg W_WAYS := ⟨PySem.W.mg_of X G g_WAYS, fun F => .inr ⟨_, _, _, q_WAYS, rfl, rfl, by rw [sizeLine_eq]; show 3 ≤ _; decide, .cons ⟨_, rfl⟩ (.cons ⟨_, rfl⟩ (.cons ⟨_, rfl⟩ .nil))⟩⟩
  have LT_law : ∀ {base : Heap}, (∀ p ∈ ([(cc_law, P_law)] : List (Addr × Addr)), LamX.TabB base mg p.1 p.2) → LamT [(P_law, ("law" ++ ".<locals>." ++ "<lambda>"))] base mg cc_law P_law ("law" ++ ".<locals>." ++ "<lambda>") := fun HT => ⟨HT _ (.head _), (.head _), un_of dist (.head _)⟩
  refine ⟨PySem.W.fnOf "law" "law" (defArgs s_law) (defBody s_law) (defScope s_law) .none kV_law dc_law pm_law an_law (.ref cc_law) ct_law, [(cc_law, P_law)], spLaw K [(P_law, ("law" ++ ".<locals>." ++ "<lambda>"))], ⟨(List.forall_mem_cons.mpr ⟨t_law, (fun _ z => nomatch z)⟩), (List.forall_mem_cons.mpr ⟨n_law, (fun _ z => nomatch z)⟩), (List.forall_mem_cons.mpr ⟨PySem.W.codeHd_of_K X h_law, (fun _ z => nomatch z)⟩)⟩, fun s v => .of_eq rfl, fun H a ns hl ht hs => ⟨a, ns, rfl, hs, hl, (List.forall_mem_cons.mpr ⟨LamX.TabS.nil (ht _ (.head _)), (fun _ z => nomatch z)⟩), fun _ => rfl⟩, fun base _ _ HT => ?_⟩
  have G_ok_lotN := K65.ok_lotN (P := l.prog) (w := w) (mg := mg) (base := base) (k := 0) F_is_lot_of_names F_is_name F_is_ascending b_is_name b_is_ascending (PySem.W.mg_of X G a_is_name) (PySem.W.mg_of X G a_is_ascending) (PySem.W.mg_of X G v_MOST_LETTERS) (PySem.W.mg_none_of X G z_isinstance) (PySem.W.mg_none_of X G z_str) (PySem.W.mg_none_of X G z_tuple) (PySem.W.mg_none_of X G z_all) (PySem.W.mg_none_of X G z_range) (PySem.W.mg_none_of X G z_len)
  have G_ok_tupOf := K65.ok_tupOf (P := l.prog) (w := w) (mg := mg) (base := base) (k := 0) F_is_tuple_of (PySem.W.mg_none_of X G z_isinstance) (PySem.W.mg_none_of X G z_tuple) (PySem.W.mg_none_of X G z_len)
  have G_ok_name := K65.ok_name (P := l.prog) (w := w) (mg := mg) (base := base) (k := 0) F_is_name (PySem.W.mg_of X G v_MOST_LETTERS) (PySem.W.mg_none_of X G z_isinstance) (PySem.W.mg_none_of X G z_str) (PySem.W.mg_none_of X G z_len) (PySem.W.mg_none_of X G z_all)
  have G_ok_lotB := K65.ok_lotB (P := l.prog) (w := w) (mg := mg) (base := base) (k := 0) F_is_lot_below F_are_numbers_below F_is_ascending F_is_number_below F_is_number b_are_numbers_below b_is_ascending b_is_number b_is_number_below (PySem.W.mg_of X G a_are_numbers_below) (PySem.W.mg_of X G a_is_ascending) (PySem.W.mg_of X G a_is_number) (PySem.W.mg_of X G a_is_number_below) (PySem.W.mg_none_of X G z_isinstance) (PySem.W.mg_none_of X G z_int) (PySem.W.mg_none_of X G z_bool) (PySem.W.mg_none_of X G z_tuple) (PySem.W.mg_none_of X G z_all) (PySem.W.mg_none_of X G z_range) (PySem.W.mg_none_of X G z_len)
  have G_ok_pair := K65.ok_pair (P := l.prog) (w := w) (mg := mg) (base := base) (k := 4) F_is_type_pair F_is_tuple_of F_is_name F_is_lot_below b_is_tuple_of b_is_name b_is_lot_below (PySem.W.mg_of X G a_is_tuple_of) (PySem.W.mg_of X G a_is_name) (PySem.W.mg_of X G a_is_lot_below) (G_ok_tupOf.mono (by decide)) (G_ok_name.mono (by decide)) (G_ok_lotB.mono (by decide))
  have G_od_tinit := K65.od_tinit (P := l.prog) (w := w) (mg := mg) (base := base) (k := 5) F_Table_init TT F_is_lot_of_names F_is_type_pair b_is_lot_of_names b_is_type_pair (PySem.W.mg_of X G a_is_lot_of_names) (PySem.W.mg_of X G a_is_type_pair) (PySem.W.mg_of X G v_MOST_KINDS) (PySem.W.mg_of X G v_MOST_TYPES) (G_ok_lotN.mono (by decide)) (G_ok_pair.mono (by decide)) (PySem.W.mg_none_of X G z_isinstance) (PySem.W.mg_none_of X G z_tuple) (PySem.W.mg_none_of X G z_len) (PySem.W.mg_none_of X G z_enumerate)
  have G_ok_heap := K65.ok_heap (P := l.prog) (w := w) (mg := mg) (base := base) (k := 0) F__law_heap (PySem.W.mg_none_of X G z_abs) (PySem.W.mg_none_of X G z_int)
  have G_ok_drawS := K65.ok_drawS (P := l.prog) (w := w) (mg := mg) (base := base) (k := 0) F__law_draw (PySem.W.mg_none_of X G z_int)
  have G_ok_pickS := K65.ok_pickS (P := l.prog) (w := w) (mg := mg) (base := base) (k := 1) F__law_pick F__law_draw b__law_draw (PySem.W.mg_of X G a__law_draw) (G_ok_drawS.mono (by decide)) (PySem.W.mg_none_of X G z_len)
  have G_ok_names := K65.ok_names (P := l.prog) (w := w) (mg := mg) (base := base) (k := 2) F__law_names F__law_draw F__law_pick b__law_draw b__law_pick (PySem.W.mg_of X G a__law_draw) (PySem.W.mg_of X G a__law_pick) (G_ok_drawS.mono (by decide)) (G_ok_pickS.mono (by decide)) (PySem.W.mg_none_of X G z_len) (PySem.W.mg_none_of X G z_int) (PySem.W.mg_none_of X G z_range) (PySem.W.mg_none_of X G z_tuple) (PySem.W.mg_none_of X G z_sorted) (PySem.W.mg_none_of X G z_max)
  have G_ok_lot := K65.ok_lot (P := l.prog) (w := w) (mg := mg) (base := base) (k := 1) F__law_lot F__law_draw b__law_draw (PySem.W.mg_of X G a__law_draw) (G_ok_drawS.mono (by decide)) (PySem.W.mg_none_of X G z_range) (PySem.W.mg_none_of X G z_tuple)
  have G_ok_parts := K65.ok_parts (P := l.prog) (w := w) (mg := mg) (base := base) (k := 3) F__law_parts F__law_draw F__law_pick F__law_names F__law_lot b__law_draw b__law_pick b__law_names b__law_lot (PySem.W.mg_of X G a__law_draw) (PySem.W.mg_of X G a__law_pick) (PySem.W.mg_of X G a__law_names) (PySem.W.mg_of X G a__law_lot) (G_ok_drawS.mono (by decide)) (G_ok_pickS.mono (by decide)) (G_ok_names.mono (by decide)) (G_ok_lot.mono (by decide)) (PySem.W.mg_none_of X G z_range) (PySem.W.mg_none_of X G z_tuple)
  have G_ok_fparts := K65.ok_fparts (P := l.prog) (w := w) (mg := mg) (base := base) (k := 3) F__law_forest_parts F__law_draw F__law_names b__law_draw b__law_names (PySem.W.mg_of X G a__law_draw) (PySem.W.mg_of X G a__law_names) (G_ok_drawS.mono (by decide)) (G_ok_names.mono (by decide)) (PySem.W.mg_none_of X G z_range) (PySem.W.mg_none_of X G z_tuple)
  have G_ok_aparts := K65.ok_aparts (P := l.prog) (w := w) (mg := mg) (base := base) (k := 4) F__law_any_parts F__law_draw F__law_parts F__law_forest_parts b__law_draw b__law_parts b__law_forest_parts (PySem.W.mg_of X G a__law_draw) (PySem.W.mg_of X G a__law_parts) (PySem.W.mg_of X G a__law_forest_parts) (G_ok_drawS.mono (by decide)) (G_ok_parts.mono (by decide)) (G_ok_fparts.mono (by decide)) (PySem.W.mg_none_of X G z_len) (PySem.W.mg_none_of X G z_tuple) (PySem.W.mg_none_of X G z_sorted) (PySem.W.mg_none_of X G z_set) (PySem.W.mg_none_of X G z_list)
  have G_od_pickL := K65.od_pickL (P := l.prog) (w := w) (mg := mg) (base := base) (k := 1) F__law_pick F__law_draw b__law_draw (PySem.W.mg_of X G a__law_draw) (G_ok_drawS.mono (by decide)) (PySem.W.mg_none_of X G z_len)
  have G_od_lit := K65.od_lit (P := l.prog) (w := w) (mg := mg) (base := base) (k := 0) F__law_items (PySem.W.mg_none_of X G z_len) (PySem.W.mg_none_of X G z_range) (PySem.W.mg_none_of X G z_list)
  have G_od_way := K65.od_way (P := l.prog) (w := w) (mg := mg) (base := base) (k := 0) F_is_way_to_strike WT (PySem.W.mg_none_of X G z_isinstance) (PySem.W.mg_none_of X G z_str)
  have G_od_chk := K65.od_chk (P := l.prog) (w := w) (mg := mg) (base := base) (k := 1) F_check_way F_is_way_to_strike b_is_way_to_strike (PySem.W.mg_of X G a_is_way_to_strike) (G_od_way.mono (by decide))
  have G_od_items := K65.od_items (P := l.prog) (w := w) (mg := mg) (base := base) (k := 2) F_items_for TT F_check_way b_check_way (PySem.W.mg_of X G a_check_way) (G_od_chk.mono (by decide)) (PySem.W.mg_none_of X G z_tuple) (PySem.W.mg_none_of X G z_range) (PySem.W.mg_none_of X G z_len) (PySem.W.mg_none_of X G z_enumerate)
  have G_od_ltk := K65.od_ltk (P := l.prog) (w := w) (mg := mg) (base := base) (k := 0) F__law_takers (PySem.W.mg_none_of X G z_len) (PySem.W.mg_none_of X G z_range) (PySem.W.mg_none_of X G z_tuple)
  have G_od_lcr := K65.od_lcr (P := l.prog) (w := w) (mg := mg) (base := base) (k := 1) F__law_crossings F__law_takers b__law_takers (PySem.W.mg_of X G a__law_takers) (G_od_ltk.mono (by decide)) (PySem.W.mg_none_of X G z_len) (PySem.W.mg_none_of X G z_range)
  have G_od_lsO := K65.od_lsO (P := l.prog) (w := w) (mg := mg) (base := base) (k := 0) F__law_struck (PySem.W.mg_none_of X G z_len) (PySem.W.mg_none_of X G z_range) (PySem.W.mg_none_of X G z_list) (PySem.W.mg_none_of X G z_tuple)
  have G_od_greedy := K65.od_greedy (P := l.prog) (w := w) (mg := mg) (base := base) (k := 2) F__law_greedy F__law_crossings b__law_crossings (PySem.W.mg_of X G a__law_crossings) (G_od_lcr.mono (by decide)) F__law_struck b__law_struck (PySem.W.mg_of X G a__law_struck) (G_od_lsO.mono (by decide)) F__law_items b__law_items (PySem.W.mg_of X G a__law_items) (G_od_lit.mono (by decide)) F__law_pick b__law_pick (PySem.W.mg_of X G a__law_pick) (G_od_pickL.mono (by decide)) (PySem.W.mg_none_of X G z_len) (PySem.W.mg_none_of X G z_range) (PySem.W.mg_none_of X G z_list) (PySem.W.mg_none_of X G z_tuple) (PySem.W.mg_none_of X G z_sorted)
  have G_od_lst := K65.od_lst (P := l.prog) (w := w) (mg := mg) (base := base) (k := 0) F__law_struck (PySem.W.mg_none_of X G z_len) (PySem.W.mg_none_of X G z_range) (PySem.W.mg_none_of X G z_list) (PySem.W.mg_none_of X G z_tuple)
  have G_od_isstr := K65.od_isstr (P := l.prog) (w := w) (mg := mg) (base := base) (k := 0) F_is_struck
  have G_od_stT := K65.od_stT (P := l.prog) (w := w) (mg := mg) (base := base) (k := 6) F_struck_table TT M b_Table_init TT.mgC (G_od_tinit.mono (by decide)) F_check_way b_check_way (PySem.W.mg_of X G a_check_way) (G_od_chk.mono (by decide)) F_is_struck b_is_struck (PySem.W.mg_of X G a_is_struck) (G_od_isstr.mono (by decide)) (PySem.W.mg_none_of X G z_tuple) (PySem.W.mg_none_of X G z_enumerate)
  have G_od_cost := K65.od_cost (P := l.prog) (w := w) (mg := mg) (base := base) (k := 3) F_strike_cost F_items_for b_items_for (PySem.W.mg_of X G a_items_for) (G_od_items.mono (by decide)) (PySem.W.mg_none_of X G z_sum) (PySem.W.mg_none_of X G z_zip)
  have G_od_num := K65.od_num (P := l.prog) (w := w) (mg := mg) (base := base) (k := 0) F_is_number (PySem.W.mg_none_of X G z_isinstance) (PySem.W.mg_none_of X G z_int) (PySem.W.mg_none_of X G z_bool)
  have G_od_numB := K65.od_numB (P := l.prog) (w := w) (mg := mg) (base := base) (k := 1) F_is_number_below F_is_number b_is_number (PySem.W.mg_of X G a_is_number) (G_od_num.mono (by decide))
  have G_od_nums := K65.od_nums (P := l.prog) (w := w) (mg := mg) (base := base) (k := 2) F_are_numbers_below F_is_number_below b_is_number_below (PySem.W.mg_of X G a_is_number_below) (G_od_numB.mono (by decide)) (PySem.W.mg_none_of X G z_isinstance) (PySem.W.mg_none_of X G z_tuple) (PySem.W.mg_none_of X G z_all)
  have G_od_asc := K65.od_asc (P := l.prog) (w := w) (mg := mg) (base := base) (k := 0) F_is_ascending (PySem.W.mg_none_of X G z_range) (PySem.W.mg_none_of X G z_len) (PySem.W.mg_none_of X G z_all)
  have G_od_lotB := K65.od_lotB (P := l.prog) (w := w) (mg := mg) (base := base) (k := 3) F_is_lot_below F_are_numbers_below F_is_ascending b_are_numbers_below b_is_ascending (PySem.W.mg_of X G a_are_numbers_below) (PySem.W.mg_of X G a_is_ascending) (G_od_nums.mono (by decide)) (G_od_asc.mono (by decide))
  have G_od_tupOf := K65.od_tupOf (P := l.prog) (w := w) (mg := mg) (base := base) (k := 0) F_is_tuple_of (PySem.W.mg_none_of X G z_isinstance) (PySem.W.mg_none_of X G z_tuple) (PySem.W.mg_none_of X G z_len)
  have G_ok_acc := K65.ok_acc (P := l.prog) (w := w) (mg := mg) (base := base) (k := 0) F_accepted TT
  have G_od_isacc := K65.od_isacc (P := l.prog) (w := w) (mg := mg) (base := base) (k := 2) F_is_acceptance TT F_is_tuple_of b_is_tuple_of (PySem.W.mg_of X G a_is_tuple_of) (G_od_tupOf.mono (by decide)) F_is_number_below b_is_number_below (PySem.W.mg_of X G a_is_number_below) (G_od_numB.mono (by decide)) F_accepted b_accepted (PySem.W.mg_of X G a_accepted) (G_ok_acc.mono (by decide)) (PySem.W.mg_none_of X G z_len)
  have G_od_are := K65.od_are (P := l.prog) (w := w) (mg := mg) (base := base) (k := 4) F_are_items TT F_is_lot_below b_is_lot_below (PySem.W.mg_of X G a_is_lot_below) (G_od_lotB.mono (by decide)) F_is_acceptance b_is_acceptance (PySem.W.mg_of X G a_is_acceptance) (G_od_isacc.mono (by decide)) F_is_ascending b_is_ascending (PySem.W.mg_of X G a_is_ascending) (G_od_asc.mono (by decide)) (PySem.W.mg_none_of X G z_len) (PySem.W.mg_none_of X G z_isinstance) (PySem.W.mg_none_of X G z_tuple) (PySem.W.mg_none_of X G z_all)
  have G_ok_tok := K65.ok_tok (P := l.prog) (w := w) (mg := mg) (base := base) (k := 0) F_types_of_kinds TT (PySem.W.mg_none_of X G z_enumerate) (PySem.W.mg_none_of X G z_any) (PySem.W.mg_none_of X G z_tuple)
  have G_ok_tak := K65.ok_tak (P := l.prog) (w := w) (mg := mg) (base := base) (k := 1) F_takers F_types_of_kinds b_types_of_kinds (PySem.W.mg_of X G a_types_of_kinds) (G_ok_tok.mono (by decide))
  have G_ok_sh := K65.ok_sh (P := l.prog) (w := w) (mg := mg) (base := base) (k := 2) F_shared_takers F_takers b_takers (PySem.W.mg_of X G a_takers) (G_ok_tak.mono (by decide))
  have G_ok_cr := K65.ok_cr (P := l.prog) (w := w) (mg := mg) (base := base) (k := 3) F_do_cross F_shared_takers b_shared_takers (PySem.W.mg_of X G a_shared_takers) (G_ok_sh.mono (by decide)) (PySem.W.mg_none_of X G z_len)
  have G_ok_cps := K65.ok_cps (P := l.prog) (w := w) (mg := mg) (base := base) (k := 4) F_crossing_pairs TT F_do_cross b_do_cross (PySem.W.mg_of X G a_do_cross) (G_ok_cr.mono (by decide)) (PySem.W.mg_none_of X G z_len) (PySem.W.mg_none_of X G z_range) (PySem.W.mg_none_of X G z_tuple)
  have G_ok_for := K65.ok_for (P := l.prog) (w := w) (mg := mg) (base := base) (k := 5) F_is_forest F_crossing_pairs b_crossing_pairs (PySem.W.mg_of X G a_crossing_pairs) (G_ok_cps.mono (by decide))
  have G_od_rep := K65.od_rep (P := l.prog) (w := w) (mg := mg) (base := base) (k := 8) F_is_repair F_check_way b_check_way (PySem.W.mg_of X G a_check_way) (G_od_chk.mono (by decide)) F_are_items b_are_items (PySem.W.mg_of X G a_are_items) (G_od_are.mono (by decide)) F_struck_table b_struck_table (PySem.W.mg_of X G a_struck_table) (G_od_stT.mono (by decide)) F_is_forest b_is_forest (PySem.W.mg_of X G a_is_forest) (G_ok_for.mono (by decide))
  have G_od_odd := K65.od_odd (P := l.prog) (w := w) (mg := mg) (base := base) (k := 2) F__law_odd F__law_pick b__law_pick (PySem.W.mg_of X G a__law_pick) (G_od_pickL.mono (by decide)) (PySem.W.mg_none_of X G z_list) (PySem.W.mg_none_of X G z_tuple) (PySem.W.mg_none_of X G z_sorted) (PySem.W.mg_none_of X G z_set) (fun X _ _ _ _ hr => ssetP_of hr)
  have G_od_lnum := K65.od_lnum (P := l.prog) (w := w) (mg := mg) (base := base) (k := 0) F__law_is_number (PySem.W.mg_none_of X G z_isinstance) (PySem.W.mg_none_of X G z_int) (PySem.W.mg_none_of X G z_bool)
  have G_od_llot := K65.od_llot (P := l.prog) (w := w) (mg := mg) (base := base) (k := 1) F__law_is_lot F__law_is_number b__law_is_number (PySem.W.mg_of X G a__law_is_number) (G_od_lnum.mono (by decide)) F__law_items b__law_items (PySem.W.mg_of X G a__law_items) (G_od_lit.mono (by decide)) (PySem.W.mg_none_of X G z_len) (PySem.W.mg_none_of X G z_range) (PySem.W.mg_none_of X G z_isinstance) (PySem.W.mg_none_of X G z_tuple) (PySem.W.mg_none_of X G z_all)
  have G_od_eq := K65.od_eq (P := l.prog) (w := w) (mg := mg) (base := base) (k := 0) F_Table_eq TT HTY KK (PySem.W.mg_none_of X G z_isinstance)
  have G_od_way_right := K65.od_way_right (P := l.prog) (w := w) (mg := mg) (base := base) (k := 9) F__law_way_right TT F__law_items b__law_items (PySem.W.mg_of X G a__law_items) (G_od_lit.mono (by decide)) F_items_for b_items_for kw_items_for_0 (PySem.W.mg_of X G a_items_for) (G_od_items.mono (by decide)) F__law_greedy b__law_greedy (PySem.W.mg_of X G a__law_greedy) (G_od_greedy.mono (by decide)) F__law_draw b__law_draw (PySem.W.mg_of X G a__law_draw) (G_ok_drawS.mono (by decide)) F__law_struck b__law_struck (PySem.W.mg_of X G a__law_struck) (G_od_lst.mono (by decide)) F_struck_table b_struck_table kw_struck_table_0 (PySem.W.mg_of X G a_struck_table) (G_od_stT.mono (by decide)) F_strike_cost b_strike_cost kw_strike_cost_0 (PySem.W.mg_of X G a_strike_cost) (G_od_cost.mono (by decide)) F_is_repair b_is_repair kw_is_repair_0 (PySem.W.mg_of X G a_is_repair) (G_od_rep.mono (by decide)) F__law_odd b__law_odd (PySem.W.mg_of X G a__law_odd) (G_od_odd.mono (by decide)) F__law_is_lot b__law_is_lot (PySem.W.mg_of X G a__law_is_lot) (G_od_llot.mono (by decide)) F__law_crossings b__law_crossings (PySem.W.mg_of X G a__law_crossings) (G_od_lcr.mono (by decide)) b_Table_eq a_Table_eq i_Table_eq (G_od_eq.mono (by decide)) NF (PySem.W.mg_none_of X G z_repr) (PySem.W.mg_none_of X G z_tuple) (PySem.W.mg_none_of X G z_range) (PySem.W.mg_none_of X G z_list) (PySem.W.mg_none_of X G z_sorted) (PySem.W.mg_none_of X G z_set) (PySem.W.mg_none_of X G z_sum)
  have G_ok_wayO := K65.ok_wayO (P := l.prog) (w := w) (mg := mg) (base := base) (k := 0) F_is_way_to_strike WT (PySem.W.mg_none_of X G z_isinstance) (PySem.W.mg_none_of X G z_str)
  have G_ok_iref := K65.ok_iref (P := l.prog) (w := w) (mg := mg) (base := base) (k := 0) F_Refused_init TR
  have G_ok_chkX := K65.ok_chkX (P := l.prog) (w := w) (mg := mg) (base := base) (k := 1) F_check_way F_is_way_to_strike b_is_way_to_strike (PySem.W.mg_of X G a_is_way_to_strike) (G_ok_wayO.mono (by decide)) TR b_Refused_init (G_ok_iref.mono (by decide))
  have G_ok_itX := K65.ok_itX (P := l.prog) (w := w) (mg := mg) (base := base) (k := 3) F_items_for F_check_way b_check_way (PySem.W.mg_of X G a_check_way) (G_ok_chkX.mono (by decide))
  have G_ok_stX := K65.ok_stX (P := l.prog) (w := w) (mg := mg) (base := base) (k := 3) F_struck_table F_check_way b_check_way (PySem.W.mg_of X G a_check_way) (G_ok_chkX.mono (by decide))
  have G_ok_repX := K65.ok_repX (P := l.prog) (w := w) (mg := mg) (base := base) (k := 3) F_is_repair F_check_way b_check_way (PySem.W.mg_of X G a_check_way) (G_ok_chkX.mono (by decide))
  have G_ok_costX := K65.ok_costX (P := l.prog) (w := w) (mg := mg) (base := base) (k := 4) F_strike_cost F_items_for b_items_for (PySem.W.mg_of X G a_items_for) (G_ok_itX.mono (by decide)) (PySem.W.mg_none_of X G z_sum) (PySem.W.mg_none_of X G z_zip)
  have G_od_law := K65.od_law (P := l.prog) (w := w) (mg := mg) (base := base) (k := 9) F_law rfl (LT_law HT) TT M b_Table_init (G_od_tinit.mono (by decide)) F__law_heap b__law_heap (PySem.W.mg_of X G a__law_heap) ((FnG.of G_ok_heap).mono (by decide)) F__law_any_parts b__law_any_parts (PySem.W.mg_of X G a__law_any_parts) (G_ok_aparts.mono (by decide)) F__law_pick b__law_pick (PySem.W.mg_of X G a__law_pick) (G_od_pickL.mono (by decide)) F__law_way_right b__law_way_right (PySem.W.mg_of X G a__law_way_right) (G_od_way_right.mono (by decide)) F_items_for b_items_for (PySem.W.mg_of X G a_items_for) (G_od_items.mono (by decide)) (G_ok_itX.mono (by decide)) F_struck_table b_struck_table (PySem.W.mg_of X G a_struck_table) (G_ok_stX.mono (by decide)) F_is_repair b_is_repair (PySem.W.mg_of X G a_is_repair) (G_od_rep.mono (by decide)) (G_ok_repX.mono (by decide)) F_strike_cost b_strike_cost (PySem.W.mg_of X G a_strike_cost) (G_ok_costX.mono (by decide)) F__law_heard b__law_heard (PySem.W.mg_of X G a__law_heard) TH (PySem.W.mg_none_of X G z_isinstance) (PySem.W.mg_none_of X G z_repr) (PySem.W.mg_none_of X G z_range) (PySem.W.mg_none_of X G z_len) (PySem.W.mg_none_of X G z_int)
  exact G_od_law
end K65
open PySem PySem.W PyProof.Rows
set_option maxHeartbeats 0 in
theorem PySem.Challenge.cw_neverregret_k65_whole_striking_holds : PySem.Challenge.rw_neverregret_k65_whole_striking.Holds := by
  w_on; o_law; k_head; (case hw => w_witness2)
  k_fill
  refine Gd.walk_GT (l := PySem.Challenge.rw_neverregret_k65_whole_striking) (n := 63) (k := 12) (x := "script") rfl (by decide) rfl ⟨rfl, by decide, by decide⟩ (fun w h Y => PySem.W.km_in_of Y) ?F
  case F =>
    intro w mg fa h Y KX G hmg
    refine' K65.all_mk KX G hmg ?g_C ?g_CW ?g_CF ?g_CD ?a_is_number ?l_is_number ?c_is_number ?k_is_number ?a_is_number_below ?l_is_number_below ?c_is_number_below ?k_is_number_below ?a_is_name ?l_is_name ?c_is_name ?k_is_name ?a_is_tuple_of ?l_is_tuple_of ?c_is_tuple_of ?k_is_tuple_of ?a_is_ascending ?l_is_ascending ?c_is_ascending ?k_is_ascending ?a_are_numbers_below ?l_are_numbers_below ?c_are_numbers_below ?k_are_numbers_below ?a_is_lot_below ?l_is_lot_below ?c_is_lot_below ?k_is_lot_below ?a_is_lot_of_names ?l_is_lot_of_names ?c_is_lot_of_names ?k_is_lot_of_names ?a_Refused_init ?l_Refused_init ?c_Refused_init ?k_Refused_init ?i_Refused_init ?a_Table_init ?l_Table_init ?c_Table_init ?k_Table_init ?i_Table_init ?a_Table_eq ?l_Table_eq ?c_Table_eq ?k_Table_eq ?i_Table_eq ?a_is_type_pair ?l_is_type_pair ?c_is_type_pair ?k_is_type_pair ?a_accepted ?l_accepted ?c_accepted ?k_accepted ?a_takers ?l_takers ?c_takers ?k_takers ?a_types_of_kinds ?l_types_of_kinds ?c_types_of_kinds ?k_types_of_kinds ?a_shared_takers ?l_shared_takers ?c_shared_takers ?k_shared_takers ?a_do_cross ?l_do_cross ?c_do_cross ?k_do_cross ?a_crossing_pairs ?l_crossing_pairs ?c_crossing_pairs ?k_crossing_pairs ?a_is_forest ?l_is_forest ?c_is_forest ?k_is_forest ?a_is_way_to_strike ?l_is_way_to_strike ?c_is_way_to_strike ?k_is_way_to_strike ?a_check_way ?l_check_way ?c_check_way ?k_check_way ?a_items_for ?l_items_for ?c_items_for ?k_items_for ?a_struck_table ?l_struck_table ?c_struck_table ?k_struck_table ?a_is_struck ?l_is_struck ?c_is_struck ?k_is_struck ?a_are_items ?l_are_items ?c_are_items ?k_are_items ?a_is_acceptance ?l_is_acceptance ?c_is_acceptance ?k_is_acceptance ?a_is_repair ?l_is_repair ?c_is_repair ?k_is_repair ?a_strike_cost ?l_strike_cost ?c_strike_cost ?k_strike_cost ?a__law_heap ?l__law_heap ?c__law_heap ?k__law_heap ?a__law_draw ?l__law_draw ?c__law_draw ?k__law_draw ?a__law_pick ?l__law_pick ?c__law_pick ?k__law_pick ?a__law_names ?l__law_names ?c__law_names ?k__law_names ?a__law_lot ?l__law_lot ?c__law_lot ?k__law_lot ?a__law_parts ?l__law_parts ?c__law_parts ?k__law_parts ?a__law_forest_parts ?l__law_forest_parts ?c__law_forest_parts ?k__law_forest_parts ?a__law_any_parts ?l__law_any_parts ?c__law_any_parts ?k__law_any_parts ?a__law_takers ?l__law_takers ?c__law_takers ?k__law_takers ?a__law_crossings ?l__law_crossings ?c__law_crossings ?k__law_crossings ?a__law_items ?l__law_items ?c__law_items ?k__law_items ?a__law_struck ?l__law_struck ?c__law_struck ?k__law_struck ?a__law_heard ?l__law_heard ?c__law_heard ?k__law_heard ?a__law_is_number ?l__law_is_number ?c__law_is_number ?k__law_is_number ?a__law_is_lot ?l__law_is_lot ?c__law_is_lot ?k__law_is_lot ?a__law_greedy ?l__law_greedy ?c__law_greedy ?k__law_greedy ?a__law_odd ?l__law_odd ?c__law_odd ?k__law_odd ?a__law_way_right ?l__law_way_right ?c__law_way_right ?k__law_way_right ?a_law ?l_law ?c_law ?q_law ?r_law ?h_law ?n_law ?t_law ?k_law ?pg ?hdT ?po ?sa ?mk ?kpC ?haC ?hmC ?iC ?tC ?sCC ?g_WAYS ?q_WAYS ?nK ?nT ?xF ?sa_F ?exCF ?tyF ?kCF ?nAF ?tIF ?hgF ?hkF ?hdF ?sFF ?haF ?hmF ?hn ?ht ?iCD ?tCD ?sFD ?iCW ?tCW ?sFW ?v_MOST_KINDS ?v_MOST_TYPES ?v_MOST_LETTERS ?z_isinstance ?z_str ?z_tuple ?z_all ?z_range ?z_len ?z_int ?z_bool ?z_enumerate ?z_abs ?z_sorted ?z_max ?z_set ?z_list ?z_sum ?z_zip ?z_any ?z_repr ?dist
    (case g_C => k_is); (case g_CW => k_is); (case g_CF => k_is); (case g_CD => k_is); (case a_is_number => k_is); (case l_is_number => k_is); (case c_is_number => k_is); (case k_is_number => k_is); (case a_is_number_below => k_is); (case l_is_number_below => k_is); (case c_is_number_below => k_is); (case k_is_number_below => k_is); (case a_is_name => k_is); (case l_is_name => k_is); (case c_is_name => k_is); (case k_is_name => k_is); (case a_is_tuple_of => k_is); (case l_is_tuple_of => k_is); (case c_is_tuple_of => k_is); (case k_is_tuple_of => k_is); (case a_is_ascending => k_is); (case l_is_ascending => k_is); (case c_is_ascending => k_is); (case k_is_ascending => k_is); (case a_are_numbers_below => k_is); (case l_are_numbers_below => k_is); (case c_are_numbers_below => k_is); (case k_are_numbers_below => k_is); (case a_is_lot_below => k_is); (case l_is_lot_below => k_is); (case c_is_lot_below => k_is); (case k_is_lot_below => k_is); (case a_is_lot_of_names => k_is); (case l_is_lot_of_names => k_is); (case c_is_lot_of_names => k_is); (case k_is_lot_of_names => k_is); (case a_Refused_init => k_is); (case l_Refused_init => k_is); (case c_Refused_init => k_is); (case k_Refused_init => k_is); (case i_Refused_init => k_is); (case a_Table_init => k_is); (case l_Table_init => k_is); (case c_Table_init => k_is); (case k_Table_init => k_is); (case i_Table_init => k_is); (case a_Table_eq => k_is); (case l_Table_eq => k_is); (case c_Table_eq => k_is); (case k_Table_eq => k_is); (case i_Table_eq => k_is); (case a_is_type_pair => k_is); (case l_is_type_pair => k_is); (case c_is_type_pair => k_is); (case k_is_type_pair => k_is); (case a_accepted => k_is); (case l_accepted => k_is); (case c_accepted => k_is); (case k_accepted => k_is); (case a_takers => k_is); (case l_takers => k_is); (case c_takers => k_is); (case k_takers => k_is); (case a_types_of_kinds => k_is); (case l_types_of_kinds => k_is); (case c_types_of_kinds => k_is); (case k_types_of_kinds => k_is); (case a_shared_takers => k_is); (case l_shared_takers => k_is); (case c_shared_takers => k_is); (case k_shared_takers => k_is); (case a_do_cross => k_is); (case l_do_cross => k_is); (case c_do_cross => k_is); (case k_do_cross => k_is); (case a_crossing_pairs => k_is); (case l_crossing_pairs => k_is); (case c_crossing_pairs => k_is); (case k_crossing_pairs => k_is); (case a_is_forest => k_is); (case l_is_forest => k_is); (case c_is_forest => k_is); (case k_is_forest => k_is); (case a_is_way_to_strike => k_is); (case l_is_way_to_strike => k_is); (case c_is_way_to_strike => k_is); (case k_is_way_to_strike => k_is); (case a_check_way => k_is); (case l_check_way => k_is); (case c_check_way => k_is); (case k_check_way => k_is); (case a_items_for => k_is); (case l_items_for => k_is); (case c_items_for => k_is); (case k_items_for => k_is); (case a_struck_table => k_is); (case l_struck_table => k_is); (case c_struck_table => k_is); (case k_struck_table => k_is); (case a_is_struck => k_is); (case l_is_struck => k_is); (case c_is_struck => k_is); (case k_is_struck => k_is); (case a_are_items => k_is); (case l_are_items => k_is); (case c_are_items => k_is); (case k_are_items => k_is); (case a_is_acceptance => k_is); (case l_is_acceptance => k_is); (case c_is_acceptance => k_is); (case k_is_acceptance => k_is); (case a_is_repair => k_is); (case l_is_repair => k_is); (case c_is_repair => k_is); (case k_is_repair => k_is); (case a_strike_cost => k_is); (case l_strike_cost => k_is); (case c_strike_cost => k_is); (case k_strike_cost => k_is); (case a__law_heap => k_is); (case l__law_heap => k_is); (case c__law_heap => k_is); (case k__law_heap => k_is); (case a__law_draw => k_is); (case l__law_draw => k_is); (case c__law_draw => k_is); (case k__law_draw => k_is); (case a__law_pick => k_is); (case l__law_pick => k_is); (case c__law_pick => k_is); (case k__law_pick => k_is); (case a__law_names => k_is); (case l__law_names => k_is); (case c__law_names => k_is); (case k__law_names => k_is); (case a__law_lot => k_is); (case l__law_lot => k_is); (case c__law_lot => k_is); (case k__law_lot => k_is); (case a__law_parts => k_is); (case l__law_parts => k_is); (case c__law_parts => k_is); (case k__law_parts => k_is); (case a__law_forest_parts => k_is); (case l__law_forest_parts => k_is); (case c__law_forest_parts => k_is); (case k__law_forest_parts => k_is); (case a__law_any_parts => k_is); (case l__law_any_parts => k_is); (case c__law_any_parts => k_is); (case k__law_any_parts => k_is); (case a__law_takers => k_is); (case l__law_takers => k_is); (case c__law_takers => k_is); (case k__law_takers => k_is); (case a__law_crossings => k_is); (case l__law_crossings => k_is); (case c__law_crossings => k_is); (case k__law_crossings => k_is); (case a__law_items => k_is); (case l__law_items => k_is); (case c__law_items => k_is); (case k__law_items => k_is); (case a__law_struck => k_is); (case l__law_struck => k_is); (case c__law_struck => k_is); (case k__law_struck => k_is); (case a__law_heard => k_is); (case l__law_heard => k_is); (case c__law_heard => k_is); (case k__law_heard => k_is); (case a__law_is_number => k_is); (case l__law_is_number => k_is); (case c__law_is_number => k_is); (case k__law_is_number => k_is); (case a__law_is_lot => k_is); (case l__law_is_lot => k_is); (case c__law_is_lot => k_is); (case k__law_is_lot => k_is); (case a__law_greedy => k_is); (case l__law_greedy => k_is); (case c__law_greedy => k_is); (case k__law_greedy => k_is); (case a__law_odd => k_is); (case l__law_odd => k_is); (case c__law_odd => k_is); (case k__law_odd => k_is); (case a__law_way_right => k_is); (case l__law_way_right => k_is); (case c__law_way_right => k_is); (case k__law_way_right => k_is); (case a_law => k_is); (case l_law => k_is); (case c_law => k_is); (case q_law => k_is); (case r_law => rfl); (case h_law => kernel_rfl); (case n_law => first | k_is | kernel_rfl); (case t_law => exact PySem.W.km_tabs_of Y _ (by decide)); (case k_law => k_is); (case pg => k_is); (case hdT => k_is); (case po => k_is); (case sa => k_is); (case mk => k_is); (case kpC => k_is); (case haC => k_is); (case hmC => k_is); (case iC => k_is); (case tC => k_is); (case sCC => first | k_is | rfl); (case g_WAYS => k_is); (case q_WAYS => k_is); (case nK => k_is); (case nT => k_is); (case xF => k_is); (case sa_F => k_is); (case exCF => k_is); (case tyF => k_is); (case kCF => k_is); (case nAF => k_is); (case tIF => k_is); (case hgF => k_is); (case hkF => k_is); (case hdF => k_is); (case sFF => first | k_is | rfl); (case haF => k_is); (case hmF => k_is); (case hn => k_is); (case ht => k_is); (case iCD => k_is); (case tCD => k_is); (case sFD => k_is); (case iCW => k_is); (case tCW => k_is); (case sFW => k_is); (case v_MOST_KINDS => k_is); (case v_MOST_TYPES => k_is); (case v_MOST_LETTERS => k_is); (case z_isinstance => k_is); (case z_str => k_is); (case z_tuple => k_is); (case z_all => k_is); (case z_range => k_is); (case z_len => k_is); (case z_int => k_is); (case z_bool => k_is); (case z_enumerate => k_is); (case z_abs => k_is); (case z_sorted => k_is); (case z_max => k_is); (case z_set => k_is); (case z_list => k_is); (case z_sum => k_is); (case z_zip => k_is); (case z_any => k_is); (case z_repr => k_is); (case dist => decide)
