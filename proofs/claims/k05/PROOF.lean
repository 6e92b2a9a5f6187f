import PyProof.Rows.All
import Wide.All
import OpenK.AllK
import Wide.FinOn
import HandS.ForMost
import HandS.Style
import HandS.Wide
import HandS.EndBits
import HandS.FStrTup
import Flt.Len
import KE.KxIndex
import PySem.Challenge.RW_neverregret_k05_marks_cut_and_joined
set_option Elab.async false
set_option linter.all false
set_option maxRecDepth 100000
/-! Defs whose promise holds where no repr is under way: so that repr of data is the text of the data. -/
namespace Gd
open PySem PySem.Spec PyProof.Rows L2
/-- room, and nothing is being shown -/
structure RmG (k : Nat) (A : Around) : Prop where
  rm : Room k A
  gd : A.guards = some []
theorem RmG.mono {j k : Nat} {A : Around} (r : RmG k A) (h : j ≤ k) : RmG j A := ⟨r.rm.mono h, r.gd⟩
structure FnG (P : Program) (w : World) (K : PySem.W.Frag) (mg : Str → Option Value) (base : Heap) (k : Nat) (f : Addr) (fd : FuncData) (ps : List Str) (sp : Sp) : Prop where
  len : ∀ xs H Q E, sp xs H Q E → xs.length = ps.length
  go : ∀ (A : Around) (out : List Env) (s : Shared) (H : Hp) (ar : Args) (us : List Value) (xs : List V) (Q : VK) (E : XK),
    RmG k A → Env0 P w K mg base A out s H → BindsTo s fd ar (ps.zip us) → Vals xs us → sp xs H Q E →
    codeAny (model P w) A (.call (.ref f) ar) (CR CX0 out P w H s Q E) s
section
variable {P : Program} {w : World} {K : PySem.W.Frag} {mg : Str → Option Value} {base : Heap}
theorem FnG.of {k : Nat} {f : Addr} {fd : FuncData} {ps : List Str} {sp : Sp} (F : FnOk P w K mg base CX0 k f fd ps sp) : FnG P w K mg base k f fd ps sp :=
  ⟨F.len, fun A out s H ar us xs Q E hr => F.run A out s H ar us xs Q E hr.rm⟩
theorem FnG.mono {j k : Nat} {f : Addr} {fd : FuncData} {ps : List Str} {sp : Sp} (F : FnG P w K mg base j f fd ps sp) (h : j ≤ k) : FnG P w K mg base k f fd ps sp :=
  ⟨F.len, fun A out s H ar us xs Q E hr => F.go A out s H ar us xs Q E (hr.mono h)⟩
/-- a def of the text, by its body -/
theorem okG {x qual : Str} {st : Stmt} {f : Addr} {fd : FuncData} {N ps : List Str} {k : Nat} {sp : Sp} (F : Fun K x qual st f fd) (S : FnScope N ps (defScope st))
    (len : ∀ xs H Q E, sp xs H Q E → xs.length = ps.length)
    (body : ∀ (cdv : Value) (A : Around) (out : List Env) (s : Shared) (H : Hp) (xs : List V) (Q : VK) (E : XK),
      RmG k (A.deeper (envOfC qual (defScope st) s.heap.objs.size f cdv)) → sp xs H Q E →
      ∃ t, PSs (cxOf CX0 P w K mg base N qual (defScope st) f cdv A out s H E).nox (defBody st) t ∧ t { nx := fun _ G => Q .non G, rt := Q } (start N xs) H) :
    FnG P w K mg base (k + 1) f fd ps sp := by
  obtain ⟨oc, od, kV, doc, pm, an, cv, ct, osl, rfl, lk, hc⟩ := F.ex
  refine ⟨len, fun A out s H ar us xs Q E hr e0 hb rv hsp => ?_⟩
  have hl := len _ _ _ _ hsp
  have up : ∀ b o, base.get? b = some o → s.heap.get? b = some o := fun b o e => (e0.bs b o e).1
  have KX := e0.mod.kin.keeps up
  have lim := e0.mod.nolimit.keeps up
  refine codeAny_call_function hr.rm.depth (KX _ _ lk) rfl S.co S.gen rfl (PySem.W.codeRec_of KX hc) (hb _ _ _ _ ?_)
  refine wpAny_newFunctionEnv_cells S.kind (fun y hy => ?_) fun env he s1 I1 => ?_
  · rcases S.par y.1 (List.of_mem_zip hy).1 with q | q
    · exact .inl q
    · exact .inr ⟨q, PySem.W.cellsFrom_some _ _ _ (.inl q)⟩
  subst he
  refine ⟨lim.keeps I1.toInCall.keep, codeAny_func ?_⟩
  obtain ⟨t, ht, hq⟩ := body cv A out s H xs Q E ⟨hr.rm.deeper _, hr.gd⟩ hsp
  refine wpAny_mono (ht.nox.run [] s1 (start N xs) H _ (inv_start S hr.rm.hd e0 hl rv I1) hq) (fun fl s' hs => ?_) fun _ _ z => z
  cases fl with
  | ret u => obtain ⟨v, σ', G, J, r1, q⟩ := hs; exact ⟨v, G, J.os, J.bare, J.base, J.hok, r1, q⟩
  | next => obtain ⟨σ', G, J, q⟩ := hs; exact ⟨.non, G, J.os, J.bare, J.base, J.hok, rfl, q⟩
  | brk => exact (hs.choose_spec.choose_spec.2).elim
  | cont => exact (hs.choose_spec.choose_spec.2).elim
end
section
variable {X : Cx} {k : Nat} {f : Addr} {fd : FuncData} {ps ks : List Str} {sp : Sp} {dvs : List V} {ds : List Value} {E : XK} {x : Str} {p pos : Pos} {e : Expr} {es : List Expr} {kws : List Keyword} {t tk : TA}
theorem run_G {pins : List (Addr × Obj)} {σ : L2.St} {H : Hp} {s : Shared} {Q : VK} {ar : Args} {us : List Value} {xs : List V} (F : FnG X.prog X.w X.K X.mg X.base k f fd ps sp) (hr : RmG k X.A)
    (I : Inv X pins σ H s) (b : BindsTo s fd ar (ps.zip us)) (rv : Vals xs us) (h : sp xs H Q E) : codeAny (model X.prog X.w) X.A (.call (.ref f) ar) (fun r s' => ∃ u, r = .ok (.ret u) ∧ EP X pins σ Q u s') s := by
  refine codeAny_mono (F.go X.A X.stack s H ar us xs Q E hr I.env0 b rv h) fun r s' hq => ?_
  rcases r with e | fl
  · exact hq.elim
  · cases fl with
    | ret u => exact ⟨u, rfl, I.after hq⟩
    | next => exact hq.elim
    | brk => exact hq.elim
    | cont => exact hq.elim
theorem call_G {pins : List (Addr × Obj)} {σ : L2.St} {H : Hp} {s : Shared} {Q : VK} {us : List Value} {xs : List V} (F : FnG X.prog X.w X.K X.mg X.base k f fd ps sp) (hr : RmG k X.A) (hb : Binds X.K fd ps ds) (hd : Vals dvs ds)
    (I : Inv X pins σ H s) (rv : Vals xs us) (h : sp (xs ++ dvs) H Q E) : wpAny (model X.prog X.w) X.A (call (.ref f) us) (EP X pins σ Q) X.xe s := by
  have r2 : Vals (xs ++ dvs) (us ++ ds) := rv.append hd
  have hl : (us ++ ds).length = ps.length := r2.length.symm.trans (F.len _ _ _ _ h)
  refine wpAny_call (codeAny_mono (run_G F hr I (hb s us I.kIn hl) r2 h) fun r s' hq => ?_)
  obtain ⟨u, rfl, z⟩ := hq
  exact z
/-- f(e, ..) -/
theorem pe_callG (F : FnG X.prog X.w X.K X.mg X.base k f fd ps sp) (hr : RmG k X.A) (hg : Gl X x) (hm : X.mg x = some (.ref f)) (hk : PySem.W.keepIn X.K (.ref f) = true) (hb : Binds X.K fd ps ds) (hd : Vals dvs ds)
    (ha : PA X (e :: es) t) (h1 : (x == ("__debug__" : Str)) = false := by decide)
    (h2 : starEach (e :: es) X.env = (false, eval e X.env) :: starEach es X.env := by rfl) (h3 : (backTo pos (starEach es X.env)).any (·.1) = false := by rfl) :
    PE X (.Call (.Name x p) (e :: es) [] pos) (tCall sp dvs E t) :=
  ⟨fun pins s σ H Q I h => wpAny_Call_Name_kw (ld_glob I hg hm (PySem.W.callWith_K (h₀ := X.base) I.ok.mod.kin hk
    (thn (ha.run pos pins s σ H _ I h) fun us s1 ⟨vs, H1, I1, r, q⟩ => ⟨I1.kIn, call_G F hr hb hd I1 r q⟩) h2 h3) h1)⟩
/-- repr of data -/
theorem call_repr (hg : X.A.guards = some []) (hu : X.A.units + 64 < cLine) : CallR X (.builtin "repr") (fun xs H Q => ∃ a d, xs = [.ref a] ∧ Dp X.K H (.ref a) d ∧ d.showable = true ∧ d.hasDict = false ∧ d.depth ≤ 60 ∧ d.shown.length ≤ sizeLine ∧ Q (.str d.shown) H) := by
  intro pins s σ H xs us Q I r h
  obtain ⟨a, d, rfl, hp, hs, hn, hd, hz, q⟩ := h
  obtain ⟨u, rfl, ru⟩ := vals1 r
  obtain rfl : u = .ref a := ru
  obtain ⟨as, rd⟩ := Dp.reads I d _ _ hp rfl
  exact repr_of_reads' rd hs (PyData.noDict_hsm hn) hg (by omega) (fun _ _ z => z) (fun h' u tk hk => ⟨.str d.shown, H, I.kept hk, ⟨_, rfl⟩, q⟩) hz
/-- repr of an int -/
theorem call_reprI : CallR X (.builtin "repr") (fun xs H Q => ∃ i, xs = [.int i] ∧ i.natAbs.log2 < 1920 ∧ Q (.str (toString i)) H) := by
  intro pins s σ H xs us Q I r h
  obtain ⟨i, rfl, hz, q⟩ := h
  obtain ⟨u, rfl, tk, rfl⟩ := vals1 r
  exact PySem.P.repr_of_int hz ⟨.str _, H, I.tok _, ⟨_, rfl⟩, q⟩
end
end Gd
/-! The end of a law row, from a promise that holds where no repr is under way. -/
namespace Gd
open PySem PySem.Spec PyProof.Rows L2
section
variable {P : Program} {w : World} {K : PySem.W.Frag} {mg mb : Str → Option Value} {k : Nat} {fa a : Addr} {fd : FuncData} {x : Str} {sp : Sp} {s : Shared} {vs : List Value} {ns : List Int}
/-- the heap H tracks nothing but the script -/
structure Bare (K : PySem.W.Frag) (a : Addr) (H : Hp) : Prop where
  one : ∀ b, H b ≠ none → b = a
  out : H a ≠ none → K.lookup a = none
theorem hid_map {H : Hp} (ha : s.heap.get? a = some { cls := .type "list", data := .seq vs.toArray }) (B : Bare K a H) {b : Addr} {m : Str → Option Value} (h : s.heap.Ns b m) : (hidT s.heap H).Ns b m := by
  obtain ⟨o, es, ep, e, d, r⟩ := h
  refine ⟨o, es, ep, hidT_get e ?_, d, r⟩
  cases q : H b with
  | none => rfl
  | some u =>
    have z := B.one b (by simp [q])
    subst z
    have z2 := Option.some.inj (ha.symm.trans e)
    subst z2
    exact absurd d (by intro z; cases z)
theorem hid_in {H : Hp} (KX : K.In s.heap) (B : Bare K a H) : K.In (hidT s.heap H) := fun b o e => hidT_get (KX b o e) (by
  cases q : H b with
  | none => rfl
  | some u =>
    have z := B.one b (by simp [q])
    subst z
    have z2 := B.out (by simp [q])
    rw [z2] at e
    cases e)
theorem end_core (KX : K.In s.heap) (hns : s.heap.Ns mainGlobals mg) (hb : s.heap.Ns builtinsNs mb) (hbb : ∀ y : Str, y ≠ "__name__" → mb y = bootBuiltins y) (hlim : s.heap.NoLimit) (hg : s.gens = #[])
    (ha : s.heap.get? a = some { cls := .type "list", data := .seq vs.toArray }) (hr : Room k callerA)
    (F : ∀ base : Heap, K.In base → base.Ns mainGlobals mg → FnG P w K mg base k fa fd [x] sp) (hbind : ∀ (t : Shared) (u : Value), BindsTo t fd ⟨[u], []⟩ [(x, u)])
    {H : Hp} (hO : Only H) (hok : HOk P w H s.heap) (B : Bare K a H) (h : sp [.ref a] H (fun v _ => v = .bl true) fun _ _ _ => False) :
    codeAny (model P w) callerA (.call (.ref fa) ⟨[.ref a], []⟩) (fun r s' => r = .ok (.ret (.bool true)) ∧ OldK s.heap s'.heap ∧ s'.os = s.os ∧ AllBare s'.gens) s := by
  have KB := hid_in KX B
  have NB := hid_map ha B hns
  have MB : Mod K mg (hidT s.heap H) := ⟨KB, NB, ⟨mb, hid_map ha B hb, hbb⟩, hlim.elim fun mc z => ⟨mc, hid_map ha B z.1, z.2⟩⟩
  have e0 : Env0 P w K mg (hidT s.heap H) callerA [] s H :=
    ⟨rfl, MB, fun b o e => of_hidT e, Nat.le_of_eq (hidT_size _ _), trivial, fun b z => (nomatch (show b ∈ ([] : List Addr) from z)), hok, .of_eq hg⟩
  refine codeAny_mono ((F _ KB NB).go callerA [] s H ⟨[.ref a], []⟩ [.ref a] [.ref a] _ _ ⟨hr, rfl⟩ e0 (hbind s (.ref a)) (.cons rfl .nil) h) fun r s' z => ?_
  rcases r with e | fl
  · exact z.elim
  · cases fl with
    | next => exact z.elim
    | brk => exact z.elim
    | cont => exact z.elim
    | ret u =>
      obtain ⟨v, G, os, bare, un, okG, ru, rfl⟩ := z
      obtain rfl : u = Value.bool true := ru
      refine ⟨rfl, OldK.of_keep fun b o e => ?_, os, bare⟩
      cases q : H b with
      | none => exact un.keep b o e q (fun z => nomatch (show b ∈ ([] : List Addr) from z)) (fun z => nomatch z)
      | some u =>
        rcases hO b with z | ⟨ob, xs, z⟩
        · exact nomatch q.symm.trans z
        · have e1 := (hok b _ z).1
          have e2 := (okG b _ (un.frzs b ob _ z)).1
          exact e2.trans (e1.symm.trans e)
theorem end_call (KX : K.In s.heap) (hns : s.heap.Ns mainGlobals mg) (hb : s.heap.Ns builtinsNs mb) (hbb : ∀ y : Str, y ≠ "__name__" → mb y = bootBuiltins y) (hlim : s.heap.NoLimit) (hg : s.gens = #[])
    (ha : s.heap.get? a = some { cls := .type "list", data := .seq vs.toArray }) (hi : IntsAre vs ns) (hl : ns.length ≤ sizeLine) (hr : Room k callerA)
    (F : ∀ base : Heap, K.In base → base.Ns mainGlobals mg → FnG P w K mg base k fa fd [x] sp) (hbind : ∀ (t : Shared) (u : Value), BindsTo t fd ⟨[u], []⟩ [(x, u)])
    (hsp : ∀ H : Hp, Only H → SqL K H a (ns.map V.int) → sp [.ref a] H (fun v _ => v = .bl true) fun _ _ _ => False) :
    codeAny (model P w) callerA (.call (.ref fa) ⟨[.ref a], []⟩) (fun r s' => r = .ok (.ret (.bool true)) ∧ OldK s.heap s'.heap ∧ s'.os = s.os ∧ AllBare s'.gens) s := by
  have rv := vals_ints hi
  cases hk : K.lookup a with
  | some o =>
    have e := Option.some.inj (ha.symm.trans (KX a o hk))
    subst e
    have hO : Only fun _ => none := fun _ => .inl rfl
    exact end_core KX hns hb hbb hlim hg ha hr F hbind hO (fun b u z => nomatch (show (none : Option HO) = some u from z)) ⟨fun b z => absurd rfl z, fun z => absurd rfl z⟩
      (hsp _ hO (.inr ⟨_, vs.toArray, _, hk, rfl, rfl, rfl, by rw [List.size_toArray, hi.length]; exact hl, by simpa using rv⟩))
  | none =>
    let H : Hp := fun b => if b = a then some (.frz { cls := .type "list", data := .seq vs.toArray } (.lst (ns.map V.int))) else none
    have at_a : H a = some (.frz { cls := .type "list", data := .seq vs.toArray } (.lst (ns.map V.int))) := if_pos rfl
    have off : ∀ {b}, b ≠ a → H b = none := fun h => if_neg h
    have hO : Only H := fun b => by
      by_cases z : b = a
      · exact .inr ⟨_, _, if_pos z⟩
      · exact .inl (off z)
    refine end_core KX hns hb hbb hlim hg ha hr F hbind hO (fun b u z => ?_) ⟨fun b z => ?_, fun _ => hk⟩ (hsp H hO (.inl (.inr ⟨_, at_a⟩)))
    · by_cases y : b = a
      · subst y
        have z2 := Option.some.inj (at_a.symm.trans z)
        subst z2
        exact ⟨ha, by rw [List.length_map]; exact hl, vs, _, rv, ha⟩
      · exact nomatch (off y).symm.trans z
    · by_cases y : b = a
      · exact y
      · exact absurd (off y) z
end
theorem walk_G {l : PySem.W.OpenLaw} {n k : Nat} {q : Program} {loose : List Str} {XP : (Str → Option Value) → Heap → Prop} {YP : World → Heap → Prop} {d : DefRec} {K : Params → PySem.W.Frag} {sp : World → Sp} {x : Str}
    (hn : l.most = some n) (hn2 : n ≤ sizeLine) (hdf : d.params.defaults = []) (hr : Room k callerA) (hY : ∀ (w : World) (h : Heap), YP w h → (K w.params).In h)
    (F : ∀ (w : World) (mg : Str → Option Value) (fa : Addr) (h : Heap), (K w.params).In h → h.Ns mainGlobals mg → mg d.name = some (.ref fa) →
      ∃ fd : FuncData, (∀ (t : Shared) (u : Value), BindsTo t fd ⟨[u], []⟩ [(x, u)]) ∧ ∀ base : Heap, (K w.params).In base → base.Ns mainGlobals mg → FnG l.prog w (K w.params) mg base k fa fd [x] (sp w))
    (hsp : ∀ (w : World) (H : Hp) (a : Addr) (ns : List Int), ns.length ≤ n → (∀ z ∈ ns, Builtin.Int.intBits z ≤ 1048576) → Only H → SqL (K w.params) H a (ns.map V.int) → sp w [.ref a] H (fun v _ => v = .bl true) fun _ _ _ => False) :
    PySem.W.WalkO q loose XP YP l.row.toRowW d [] (fun f vs => PySem.call f vs) := by
  refine Att.attach_callB hn hdf fun w s₀ s mg mb fa o pm cd doc a vs ns G Y ho hd hcd hm hobj hi hl hbits hg => ?_
  obtain ⟨fd, hb, hF⟩ := F w mg fa _ (hY w _ Y) G.T.g hm
  exact end_call (hY w _ Y) G.T.g G.T.b G.T.builtins G.T.nolimit hg hobj hi (Nat.le_trans hl hn2) hr hF hb fun H hO hS => hsp w H a ns hl hbits hO hS
end Gd
/-! Data: what stays of it, and what its repr costs. -/
namespace Gd
open PySem PySem.Spec PyProof.Rows L2
mutual
theorem dp_same {K : PySem.W.Frag} {H G : Hp} (e : Same H G) : ∀ (d : PyData) (v : V), Dp K H v d → Dp K G v d
  | .none, _, h => by cases h; exact .non
  | .bool b, _, h => by cases h; exact .bl b
  | .int i, _, h => by cases h; exact .int i
  | .str x, _, h => by cases h; exact .str x
  | .list ds, _, h => by
    cases h with
    | lst hs ha => exact .lst (e.seq hs) (dpAll_same e ds _ ha)
  | .tuple ds, _, h => by
    cases h with
    | tup hs ha =>
      refine .tup ?_ (dpAll_same e ds _ ha)
      rcases hs with (z | ⟨o, z⟩) | z
      · exact .inl (.inl (e _ _ z))
      · exact .inl (.inr ⟨o, e _ _ z⟩)
      · exact .inr z
  | .dict _, _, h => by cases h
theorem dpAll_same {K : PySem.W.Frag} {H G : Hp} (e : Same H G) : ∀ (ds : List PyData) (vs : List V), DpAll K H vs ds → DpAll K G vs ds
  | [], _, h => by cases h; exact .nil
  | d :: ds, _, h => by
    cases h with
    | cons h1 h2 => exact .cons (dp_same e d _ h1) (dpAll_same e ds _ h2)
end
theorem same_seqT {K : PySem.W.Frag} {H H' : Hp} {a : Addr} {xs : List V} (e : Same H H') (h : SqT K H a xs) : SqT K H' a xs := by
  rcases h with (z | ⟨o, z⟩) | z
  · exact .inl (.inl (e _ _ z))
  · exact .inl (.inr ⟨o, e _ _ z⟩)
  · exact .inr z
theorem same_new {H : Hp} {p : Addr} {o : HO} (h : H p = none) : Same H (upd H p o) := fun b x e => (upd_ne (ne_of_none e h)).trans e
theorem sqT {K : PySem.W.Frag} {H : Hp} {a : Addr} {xs : List V} (h : H a = some (.tup xs)) : SqT K H a xs := .inl (.inl h)
theorem sqL {K : PySem.W.Frag} {H : Hp} {a : Addr} {xs : List V} (h : H a = some (.lst xs)) : SqL K H a xs := .inl (.inl h)
theorem dpAll_snoc {K : PySem.W.Frag} {H : Hp} {v : V} {d : PyData} : ∀ {vs : List V} {ds : List PyData}, DpAll K H vs ds → Dp K H v d → DpAll K H (vs ++ [v]) (ds ++ [d])
  | _, _, .nil, h => .cons h .nil
  | _, _, .cons a r, h => .cons a (dpAll_snoc r h)
theorem dpAll_len {K : PySem.W.Frag} {H : Hp} : ∀ {vs : List V} {ds : List PyData}, DpAll K H vs ds → vs.length = ds.length
  | _, _, .nil => rfl
  | _, _, .cons _ r => by rw [List.length_cons, List.length_cons, dpAll_len r]
theorem dpAll_get {K : PySem.W.Frag} {H : Hp} : ∀ {vs : List V} {ds : List PyData} {i : Nat} {d : PyData}, DpAll K H vs ds → ds[i]? = some d → ∃ v, vs[i]? = some v ∧ Dp K H v d
  | _, _, _, _, .nil, e => by simp at e
  | _, _, 0, _, .cons a _, e => by simp at e; subst e; exact ⟨_, rfl, a⟩
  | _, _, i + 1, d, .cons _ r, e => by
    obtain ⟨v, h1, h2⟩ := dpAll_get (i := i) (d := d) r (by simpa using e)
    exact ⟨v, by simpa using h1, h2⟩
theorem dpAll_ints {K : PySem.W.Frag} {H : Hp} : ∀ ns : List Int, DpAll K H (ns.map V.int) (ns.map .int)
  | [] => .nil
  | n :: ns => .cons (.int n) (dpAll_ints ns)
theorem dpAll_strs {K : PySem.W.Frag} {H : Hp} : ∀ ns : List Str, DpAll K H (ns.map V.str) (ns.map .str)
  | [] => .nil
  | n :: ns => .cons (.str n) (dpAll_strs ns)
/-! what repr and == ask of data -/
mutual
/-- plain data: no dicts, signs below 1000, ints below 10 ^ 9 in size -/
def fine : PyData → Bool
  | .none | .bool _ => true
  | .int i => decide (i.natAbs < 10 ^ 9)
  | .str x => x.cps.toList.all (· < 1000)
  | .list xs | .tuple xs => fineAll xs
  | .dict _ => false
def fineAll : List PyData → Bool
  | [] => true
  | x :: xs => fine x && fineAll xs
end
mutual
def costD : PyData → Nat
  | .none => 4
  | .bool _ => 5
  | .int _ => 10
  | .str x => 10 * x.length + 2
  | .list xs | .tuple xs => costAll xs + 2
  | .dict _ => 0
def costAll : List PyData → Nat
  | [] => 0
  | x :: xs => costD x + 2 + costAll xs
end
theorem fine_str {x : Str} : fine (.str x) = true ↔ ∀ c ∈ x.cps.toList, c < 1000 := by
  rw [fine, List.all_eq_true]
  exact ⟨fun h c hc => of_decide_eq_true (h c hc), fun h c hc => decide_eq_true (h c hc)⟩
mutual
theorem fine_lay : ∀ d : PyData, fine d = true → d.canLay0 = true
  | .none, _ => rfl
  | .bool _, _ => rfl
  | .int _, _ => rfl
  | .str x, h => by
    have h' := fine_str.mp h
    show x.cps.all _ = true
    rw [Array.all_eq_true']
    intro c hc
    have := h' c (by simpa using hc)
    exact decide_eq_true (by omega)
  | .list xs, h => by rw [PyData.canLay0]; exact fineAll_lay xs (by simpa [fine] using h)
  | .tuple xs, h => by rw [PyData.canLay0]; exact fineAll_lay xs (by simpa [fine] using h)
  | .dict _, h => by simp [fine] at h
theorem fineAll_lay : ∀ ds : List PyData, fineAll ds = true → PyData.canLayAll0 ds = true
  | [], _ => rfl
  | x :: xs, h => by
    have h' : fine x = true ∧ fineAll xs = true := by simpa [fineAll] using h
    rw [PyData.canLayAll0, fine_lay x h'.1, fineAll_lay xs h'.2]; rfl
end
mutual
theorem fine_show : ∀ d : PyData, fine d = true → d.showable = true
  | .none, _ => by simp [PyData.showable]
  | .bool _, _ => by simp [PyData.showable]
  | .int i, h => by
    have h' : i.natAbs < 10 ^ 9 := by simpa [fine] using h
    have : i.natAbs.log2 < 1920 := Flt.log2_lt_of (by decide) (Nat.lt_of_lt_of_le h' (by decide))
    simpa [PyData.showable] using this
  | .str x, h => by simp [PyData.showable]
  | .list xs, h => by rw [PyData.showable]; exact fineAll_show xs (by simpa [fine] using h)
  | .tuple xs, h => by rw [PyData.showable]; exact fineAll_show xs (by simpa [fine] using h)
  | .dict _, h => by simp [fine] at h
theorem fineAll_show : ∀ ds : List PyData, fineAll ds = true → PyData.showableAll ds = true
  | [], _ => by simp [PyData.showableAll]
  | x :: xs, h => by
    have h' : fine x = true ∧ fineAll xs = true := by simpa [fineAll] using h
    rw [PyData.showableAll, fine_show x h'.1, fineAll_show xs h'.2]; rfl
end
theorem list_text (ts : List Str) : (listText ts).length ≤ piled ts + 2 := by
  rw [listText_eq_join]
  have e1 : (("[" : Str)).length = 1 := rfl
  have e2 : (("]" : Str)).length = 1 := rfl
  rw [strLen_append, strLen_append, e1, e2]
  by_cases h : ts = []
  · subst h; decide +kernel
  · have := join_length_add ts h
    omega
mutual
theorem shown_cost : ∀ d : PyData, fine d = true → d.shown.length ≤ costD d
  | .none, _ => by rw [PyData.shown]; decide +kernel
  | .bool b, _ => by rw [PyData.shown]; cases b <;> decide +kernel
  | .int i, h => by
    have h' : i.natAbs < 10 ^ 9 := by simpa [fine] using h
    rw [PyData.shown, PySem.ofString_length]
    exact int_text_length_le10 (k := 9) (by decide) h'
  | .str x, h => by
    have h' := fine_str.mp h
    rw [PyData.shown, costD]
    exact StrLaws.reprText_len x fun c hc => Nat.lt_trans (h' c hc) (by decide)
  | .list xs, h => by
    rw [PyData.shown, costD]
    have := shownAll_cost xs (by simpa [fine] using h)
    have := list_text (PyData.shownAll xs)
    omega
  | .tuple xs, h => by
    rw [PyData.shown, costD]
    have := shownAll_cost xs (by simpa [fine] using h)
    have := PySem.fmt_text (PyData.shownAll xs)
    omega
  | .dict _, h => by simp [fine] at h
theorem shownAll_cost : ∀ ds : List PyData, fineAll ds = true → piled (PyData.shownAll ds) ≤ costAll ds
  | [], _ => by rw [PyData.shownAll, costAll, piled_nil]; exact Nat.le_refl 0
  | x :: xs, h => by
    have h' : fine x = true ∧ fineAll xs = true := by simpa [fineAll] using h
    have h1 := shown_cost x h'.1
    have h2 := shownAll_cost xs h'.2
    rw [PyData.shownAll, costAll, piled_cons]
    omega
end
theorem fine_shaped {d : PyData} (h : fine d = true) (hd : d.depth ≤ 60) : SeqAt.shaped d = true := by
  unfold SeqAt.shaped
  rw [fine_lay d h]
  exact decide_eq_true (by omega)
theorem fine_eqv {d : PyData} (h : fine d = true) : PyData.eqv d d = true := SeqAt.eqv_refl d (fine_lay d h)
theorem fineAll_mem : ∀ {ds : List PyData}, (∀ d ∈ ds, fine d = true) → fineAll ds = true
  | [], _ => by simp [fineAll]
  | x :: xs, h => by simp [fineAll, h x List.mem_cons_self, fineAll_mem fun d hd => h d (List.mem_cons_of_mem _ hd)]
theorem depthAll_mem {n : Nat} : ∀ {ds : List PyData}, (∀ d ∈ ds, d.depth ≤ n) → PyData.depthAll ds ≤ n
  | [], _ => by simp [PyData.depthAll]
  | x :: xs, h => by
    have h1 := h x List.mem_cons_self
    have h2 := depthAll_mem (n := n) (ds := xs) fun d hd => h d (List.mem_cons_of_mem _ hd)
    simp only [PyData.depthAll]
    omega
/-- repr(x), x plain data at an address: its text; what is asked is told by fine and costD -/
theorem call_reprF {X : Cx} (hg : X.A.guards = some []) (hu : X.A.units + 64 < cLine) : CallR X (.builtin "repr") (fun xs H Q => ∃ a d, xs = [.ref a] ∧ Dp X.K H (.ref a) d ∧ fine d = true ∧ d.depth ≤ 60 ∧ costD d ≤ sizeLine ∧ Q (.str d.shown) H) := by
  intro pins s σ H xs us Q I r h
  obtain ⟨a, d, e, hp, hf, hd, hz, q⟩ := h
  exact call_repr hg hu pins s σ H xs us Q I r ⟨a, d, e, hp, fine_show d hf, PyData.hasDict_of_canLay d (fine_lay d hf), hd, Nat.le_trans (shown_cost d hf) hz, q⟩
end Gd
/-! Calls that give all by keywords. -/
namespace Gd
open PySem PySem.Spec PyProof.Rows L2
/-- how a call by keywords alone binds: g puts their values in the parameters' order -/
def KwB (fd : FuncData) (ps ks : List Str) (g : List Value → List Value) : Prop := ∀ (s : Shared) (ws : List Value), ws.length = ks.length → BindsTo s fd ⟨[], ks.zip ws⟩ (ps.zip (g ws))
theorem kwB_of {K : PySem.W.Frag} {x qual : Str} {st : Stmt} {f : Addr} {fd : FuncData} {ps ks : List Str} {g : List Value → List Value} (F : Fun K x qual st f fd)
    (h : ∀ (kV doc pm : Value) (an : Option Addr) (cv ct : Value) (ws : List Value), ws.length = ks.length → bindArgs (PySem.W.fnOf x qual (defArgs st) (defBody st) (defScope st) .none kV doc pm an cv ct) ⟨[], ks.zip ws⟩ = pure (ps.zip (g ws))) : KwB fd ps ks g := by
  obtain ⟨oc, od, kV, doc, pm, an, cv, ct, osl, rfl, lk, hc⟩ := F.ex
  exact fun s ws hl => .of_eq (h kV doc pm an cv ct ws hl)
def tKw (m : Nat) (sp : Sp) (gV : List V → List V) (E : XK) (tk : TA) : TE := fun σ H Q => tk σ H fun zs H2 => zs.length = m ∧ sp (gV zs) H2 Q E
section
variable {X : Cx} {k : Nat} {f : Addr} {fd : FuncData} {ps ks : List Str} {sp : Sp} {E : XK} {x : Str} {p pos : Pos} {kws : List Keyword} {tk : TA}
/-- f(k = v, ..) -/
theorem pe_kwG {g : List Value → List Value} {gV : List V → List V} (F : FnG X.prog X.w X.K X.mg X.base k f fd ps sp) (hr : RmG k X.A) (hg : Gl X x) (hm : X.mg x = some (.ref f)) (hk : PySem.W.keepIn X.K (.ref f) = true)
    (hb : KwB fd ps ks g) (hv : ∀ {zs : List V} {ws : List Value}, zs.length = ks.length → Vals zs ws → Vals (gV zs) (g ws)) (hkw : PK X kws tk)
    (h1 : (backToKw pos (keywordEach kws X.env)).all (·.1.isSome) = true := by rfl) (h2 : (backToKw pos (keywordEach kws X.env)).filterMap (·.1) = ks := by rfl) (h3 : (x == ("__debug__" : Str)) = false := by decide)
    (h4 : ((backTo pos (starEach [] X.env)).any (·.1) || (backToKw pos (keywordEach kws X.env)).any (·.1.isNone)) = false := by rfl) :
    PE X (.Call (.Name x p) [] kws pos) (tKw ks.length sp gV E tk) := by
  refine ⟨fun pins s σ H Q I h => wpAny_Call_Name_kw (ld_glob I hg hm (PySem.W.callWith_KW0 (h₀ := X.base) I.ok.mod.kin hk h1 ?_ h4) h3)⟩
  refine thn (hkw.run pos pins s σ H _ I h) fun ws s2 ⟨zs, H2, I2, rz, l, q⟩ => ⟨I2.kIn, ?_⟩
  rw [h2]
  have r2 := hv l rz
  refine wpAny_call (codeAny_mono (run_G F hr I2 (hb s2 ws (rz.length.symm.trans l)) r2 q) fun r s' hq => ?_)
  obtain ⟨u, rfl, z⟩ := hq
  exact z
end
end Gd
namespace K5
open PySem PySem.Spec PyProof.Rows L2
def topS (i : Nat) : Stmt := PySem.Challenge.pw_neverregret_k05_marks_cut_and_joined.main.body.getD i (.Pass ⟨0, 0, 0, 0⟩)
abbrev sMarks : Stmt := topS 3
abbrev sEnd : Stmt := topS 4
abbrev sRun : Stmt := topS 5
abbrev sHeap : Stmt := topS 7
abbrev sDraw : Stmt := topS 8
abbrev sPick : Stmt := topS 9
abbrev sKind : Stmt := topS 10
abbrev sLMarks : Stmt := topS 11
abbrev sPiece : Stmt := topS 12
abbrev sLaw : Stmt := topS 13
theorem scMarks : FnScope ["text", "marks", "line", "begin", "at", "end"] ["text"] (defScope sMarks) := ⟨rfl, rfl, rfl, by decide +kernel, rfl, by decide +kernel, by decide +kernel⟩
theorem scEnd : FnScope ["text", "at", "signs"] ["text", "at"] (defScope sEnd) := ⟨rfl, rfl, rfl, by decide +kernel, rfl, by decide +kernel, by decide +kernel⟩
theorem scRun : FnScope ["text", "at", "signs", "end"] ["text", "at", "signs"] (defScope sRun) := ⟨rfl, rfl, rfl, by decide +kernel, rfl, by decide +kernel, by decide +kernel⟩
theorem scHeap : FnScope ["script", "cell", "cells", "stir"] ["script"] (defScope sHeap) := ⟨rfl, rfl, rfl, by decide +kernel, rfl, by decide +kernel, by decide +kernel⟩
theorem scDraw : FnScope ["heap", "many", "rest"] ["heap", "many"] (defScope sDraw) := ⟨rfl, rfl, rfl, by decide +kernel, rfl, by decide +kernel, by decide +kernel⟩
theorem scPick : FnScope ["heap", "some"] ["heap", "some"] (defScope sPick) := ⟨rfl, rfl, rfl, by decide +kernel, rfl, by decide +kernel, by decide +kernel⟩
theorem scKind : FnScope ["sign"] ["sign"] (defScope sKind) := ⟨rfl, rfl, rfl, by decide +kernel, rfl, by decide +kernel, by decide +kernel⟩
theorem scLMarks : FnScope ["text", "found", "line", "at", "sign", "kind", "mark"] ["text"] (defScope sLMarks) := ⟨rfl, rfl, rfl, by decide +kernel, rfl, by decide +kernel, by decide +kernel⟩
theorem scPiece : FnScope ["heap", "kind", "some", "turn"] ["heap"] (defScope sPiece) := ⟨rfl, rfl, rfl, by decide +kernel, rfl, by decide +kernel, by decide +kernel⟩
theorem scLaw : FnScope ["script", "heap", "turn", "text", "due", "told", "joined", "again", "line", "at", "mark"] ["script"] (defScope sLaw) := ⟨rfl, rfl, rfl, by decide +kernel, rfl, by decide +kernel, by decide +kernel⟩
end K5
namespace K5
open PySem PySem.Spec PyProof.Rows L2 Gd
/-- the law's source of draws at h: its list at l, its number -/
structure Hv (H : Hp) (h l : Addr) (L : List Int) (st : Int) : Prop where
  top : H h = some (.lst [.ref l, .int st])
  bot : H l = some (.lst (L.map V.int))
  ne : l ≠ h
  lo : 0 ≤ st
  hi : st < 2147483647
  len : L.length ≤ 63
/-- all but the source stands as before -/
def But (h l : Addr) (H G : Hp) : Prop := ∀ b o, b ≠ h → b ≠ l → H b = some o → G b = some o
theorem Hv.new {H : Hp} {h l p : Addr} {L : List Int} {st : Int} {o : HO} (v : Hv H h l L st) (n : H p = none) : Hv (upd H p o) h l L st :=
  ⟨(upd_ne (ne_of_none v.top n)).trans v.top, (upd_ne (ne_of_none v.bot n)).trans v.bot, v.ne, v.lo, v.hi, v.len⟩
theorem Hv.same {H G : Hp} {h l : Addr} {L : List Int} {st : Int} (v : Hv H h l L st) (e : Same H G) : Hv G h l L st :=
  ⟨e _ _ v.top, e _ _ v.bot, v.ne, v.lo, v.hi, v.len⟩
theorem Hv.setL {H : Hp} {h l : Addr} {L M : List Int} {st : Int} (v : Hv H h l L st) (hl : M.length ≤ 63) : Hv (upd H l (.lst (M.map V.int))) h l M st :=
  ⟨(upd_ne v.ne.symm).trans v.top, upd_same, v.ne, v.lo, v.hi, hl⟩
theorem Hv.setN {H : Hp} {h l : Addr} {L : List Int} {st n : Int} (v : Hv H h l L st) (h0 : 0 ≤ n) (h1 : n < 2147483647) : Hv (upd H h (.lst [.ref l, .int n])) h l L n :=
  ⟨upd_same, (upd_ne v.ne).trans v.bot, v.ne, h0, h1, v.len⟩
theorem But.refl (h l : Addr) (H : Hp) : But h l H H := fun _ _ _ _ e => e
theorem But.trans {h l : Addr} {H G J : Hp} (a : But h l H G) (b : But h l G J) : But h l H J := fun c o h1 h2 e => b c o h1 h2 (a c o h1 h2 e)
theorem But.new {h l p : Addr} {H G : Hp} {o : HO} (a : But h l H G) (n : G p = none) : But h l H (upd G p o) := fun c x h1 h2 e =>
  (upd_ne (ne_of_none (a c x h1 h2 e) n)).trans (a c x h1 h2 e)
theorem But.same {h l : Addr} {H G J : Hp} (a : But h l H G) (e : Same G J) : But h l H J := fun c x h1 h2 z => e _ _ (a c x h1 h2 z)
theorem But.atL {h l : Addr} {H G : Hp} {o : HO} (a : But h l H G) : But h l H (upd G l o) := fun c x h1 h2 e => (upd_ne h2).trans (a c x h1 h2 e)
theorem But.atH {h l : Addr} {H G : Hp} {o : HO} (a : But h l H G) : But h l H (upd G h o) := fun c x h1 h2 e => (upd_ne h1).trans (a c x h1 h2 e)
theorem fresh_of {h l p : Addr} {H G : Hp} (a : But h l H G) {o : HO} (h1 : p ≠ h) (h2 : p ≠ l) (e : G p = none) : H p = none := by
  cases q : H p with
  | none => rfl
  | some o => exact nomatch (a p o h1 h2 q).symm.trans e
theorem eqv_nil (L : List Int) : PyData.eqv (.list (L.map .int)) (.list []) = decide (L = []) := by
  cases L with
  | nil => rfl
  | cons x r => simp [PyData.eqv, PyData.eqvAll]
theorem shaped_ints (L : List Int) : SeqAt.shaped (.list (L.map .int)) = true := PySem.W.ke_shaped_ints L
theorem dp_ints {K : PySem.W.Frag} {H : Hp} {l : Addr} {L : List Int} (h : H l = some (.lst (L.map V.int))) : Dp K H (.ref l) (.list (L.map .int)) := .lst (sqL h) (dpAll_ints L)
theorem last_map {L : List Int} (h : L ≠ []) : atI (L.map V.int) (-1) = some (.int (L.getLast h)) := by
  have e : L.map V.int = L.dropLast.map V.int ++ [.int (L.getLast h)] := by
    rw [← List.map_singleton, ← List.map_append, List.dropLast_concat_getLast]
  rw [e]
  exact atI_last _ _
theorem last_get {L : List Int} (h : L ≠ []) : (L.map V.int)[(L.map V.int).length - 1]? = some (.int (L.getLast h)) := by
  rw [List.length_map, List.getElem?_map, ← List.getLast?_eq_getElem?, List.getLast?_eq_getLast h]
  rfl
theorem drop_map (L : List Int) : (L.map V.int).dropLast = L.dropLast.map V.int := by rw [List.map_dropLast]
section
variable {P : Program} {w : World} {K : PySem.W.Frag} {mg : Str → Option Value} {base : Heap}
def spDraw : Sp := fun vs H Q _ => ∃ (h l : Addr) (L : List Int) (st m : Int), vs = [.ref h, .int m] ∧ Hv H h l L st ∧ 0 < m ∧ m < 1000000000 ∧
  ∀ G L' st' r, But h l H G → Hv G h l L' st' → 0 ≤ r → r < m → Q (.int r) G
theorem ok_draw {f : Addr} {fd : FuncData} {k : Nat} (F : Fun K "_law_draw" "_law_draw" sDraw f fd) (mi : mg "int" = none) : FnOk P w K mg base CX0 (k + 1) f fd ["heap", "many"] spDraw := by
  refine F.ok scDraw (fun vs H Q E h => ?_) (fun cdv A outer s H vs Q E hr h => ?_)
  · obtain ⟨h, l, L, st, m, rfl, _⟩ := h
    rfl
  · obtain ⟨h, l, L, st, m, rfl, hv, h0, h1, q⟩ := h
    refine ⟨_, pss_cons (ps_while PassesOwn.never (PW.pt (pw_and (pt_cmpR (op_neD hr.units) (pe_ix ix_list (pv 0) pe_int (fun _ _ => rfl)) (pe_lst pa_nil) (nomark _))
        (pw_and1 (pt_cmpR op_eq (pe_ix ix_list (pe_ix ix_list (pv 0) pe_int (fun _ _ => rfl)) (pe_un un_neg pe_int) (fun _ _ => rfl)) pe_int (nomark _)))))
        (pss_one (ps_expr (pe_bm0 PySem.F.plainAttrs_list PySem.F.slot_list_pop PySem.F.type_list_pop mt_pop (pe_ix ix_list (pv 0) pe_int (fun _ _ => rfl))))))
      (pss_cons (ps_if (pt_cmpR (op_neD hr.units) (pe_ix ix_list (pv 0) pe_int (fun _ _ => rfl)) (pe_lst pa_nil) (nomark _))
        (pss_cons (ps_set (i := 2) scDraw.nd rfl (.inl rfl) (pe_bm0 PySem.F.plainAttrs_list PySem.F.slot_list_pop PySem.F.type_list_pop mt_pop (pe_ix ix_list (pv 0) pe_int (fun _ _ => rfl))))
          (pss_cons (ps_expr (pe_bm PySem.F.plainAttrs_list PySem.F.slot_list_append PySem.F.type_list_append mt_append (pe_ix ix_list (pv 0) pe_int (fun _ _ => rfl)) (pa_cons (pe_op op_fdivN (pv 2) (pv 1)) pa_nil)))
            (pss_one (ps_ret (pe_op op_mod (pe_callTy call_int1 (by rfl) mi (by decide +kernel) (pa_cons (pv 2) pa_nil)) (pv 1)))))) pss_nil)
      (pss_cons (ps_asg (pe_op op_mod (pe_callTy call_int1 (by rfl) mi (by decide +kernel) (pa_cons (pe_op op_add (pe_op op_mul (pe_ix ix_list (pv 0) pe_int (fun _ _ => rfl)) pe_int) pe_int) pa_nil)) pe_int) (pg_sub (pv 0) pe_int set_list))
      (pss_one (ps_ret (pe_op op_mod (pe_callTy call_int1 (by rfl) mi (by decide +kernel) (pa_cons (pe_op op_fdivN (pe_ix ix_list (pv 0) pe_int (fun _ _ => rfl)) pe_int) pa_nil)) (pv 1)))))), ?_⟩
    refine ⟨fun n σ G => ∃ M, n = M.length ∧ σ = [some (.ref h), some (.int m), none] ∧ Hv G h l M st ∧ But h l H G, ⟨_, L, rfl, rfl, hv, But.refl _ _ _⟩, fun n σ G hw => ?_⟩
    obtain ⟨M, rfl, rfl, hg, bt⟩ := hw
    refine ⟨.ref h, rfl, h, _, 0, .ref l, rfl, rfl, sqL hg.top, atI_nat (j := 0) rfl, Nat.zero_le _, fun p np => ?_⟩
    refine ⟨.list (M.map .int), .list [], dp_ints (hg.new np).bot, .lst (sqL upd_same) .nil, shaped_ints M, rfl, _, rfl, ?_⟩
    have hg1 := hg.new (o := .lst []) np
    have bt1 := bt.new (o := .lst []) np
    rw [eqv_nil]
    by_cases hM : M = []
    · -- the list is empty: a new number
      subst hM
      refine iteF ?_
      refine iteF ?_
      -- if heap[0] != []
      refine ⟨.ref h, rfl, h, _, 0, .ref l, rfl, rfl, sqL hg1.top, atI_nat (j := 0) rfl, Nat.zero_le _, fun p2 np2 => ?_⟩
      refine ⟨.list (([] : List Int).map .int), .list [], dp_ints (hg1.new np2).bot, .lst (sqL upd_same) .nil, shaped_ints [], rfl, _, rfl, ?_⟩
      have hg2 := hg1.new (o := .lst []) np2
      have bt2 := bt1.new (o := .lst []) np2
      rw [eqv_nil]
      refine iteF ?_
      -- heap[1] = int(heap[1] * 48271 + 17) % 2147483647
      have hlo := hv.lo
      have hhi := hv.hi
      refine ⟨.ref h, rfl, h, _, 1, .int st, rfl, rfl, sqL hg2.top, atI_nat (j := 1) rfl, _, _, rfl, rfl, .inl ⟨by omega, by omega⟩, _, _, rfl, rfl, .inl ⟨_, rfl, _, _, rfl, rfl, (by show (0 : Int) < 2147483647; decide), ?_⟩⟩
      have n0 := Int.emod_nonneg (st * 48271 + 17) (show (2147483647 : Int) ≠ 0 by decide)
      have n1 := Int.emod_lt_of_pos (st * 48271 + 17) (show (0 : Int) < 2147483647 by decide)
      refine ⟨.ref h, rfl, h, _, 1, 1, rfl, rfl, hg2.top, rfl, ?_⟩
      have hg3 := hg2.setN n0 n1
      have bt3 : But h l H _ := bt2.atH (o := .lst [.ref l, .int ((st * 48271 + 17) % 2147483647)])
      -- return int(heap[1] // 32) % many
      refine ⟨.ref h, rfl, h, _, 1, _, rfl, rfl, sqL upd_same, atI_nat (j := 1) rfl, _, _, rfl, rfl, ⟨by decide, by decide⟩, .inl ⟨_, rfl, .int m, rfl, _, _, rfl, rfl, h0, ?_⟩⟩
      exact q _ _ _ _ bt3 hg3 (Int.emod_nonneg _ (by omega)) (Int.emod_lt_of_pos _ h0)
    · rw [decide_eq_false hM]
      refine iteT ?_
      -- heap[0][-1] == 0
      refine ⟨.ref h, rfl, h, _, 0, .ref l, rfl, rfl, sqL hg1.top, atI_nat (j := 0) rfl, 1, rfl, l, _, -1, _, rfl, rfl, sqL hg1.bot, last_map hM, rfl, _, rfl, ?_⟩
      have lt : M.dropLast.length < M.length := by
        have := List.length_pos_iff.mpr hM
        rw [List.length_dropLast]
        omega
      by_cases hz : M.getLast hM = 0
      · -- it ends in 0: pop
        rw [hz, decide_eq_true rfl]
        refine iteT ?_
        refine ⟨fun σ' G' => σ' = [some (.ref h), some (.int m), none] ∧ Hv G' h l M.dropLast st ∧ But h l H G', fun σ' G' z => ⟨_, lt, _, rfl, z.1, z.2.1, z.2.2⟩, ?_⟩
        refine ⟨.ref h, rfl, h, _, 0, .ref l, rfl, rfl, sqL hg1.top, atI_nat (j := 0) rfl, .inl ⟨rfl, _, sqL hg1.bot⟩, l, _, _, rfl, rfl, hg1.bot, last_get hM, rfl, ?_, ?_⟩
        · rw [drop_map]
          exact hg1.setL (Nat.le_trans (Nat.le_of_lt lt) hg1.len)
        · exact bt1.atL
      · -- the loop's end
        rw [decide_eq_false (show ¬ V.int (M.getLast hM) = V.int 0 from fun z => hz (V.int.inj z))]
        refine iteF ?_
        -- if heap[0] != []
        refine ⟨.ref h, rfl, h, _, 0, .ref l, rfl, rfl, sqL hg1.top, atI_nat (j := 0) rfl, Nat.zero_le _, fun p2 np2 => ?_⟩
        refine ⟨.list (M.map .int), .list [], dp_ints (hg1.new np2).bot, .lst (sqL upd_same) .nil, shaped_ints M, rfl, _, rfl, ?_⟩
        have hg2 := hg1.new (o := .lst []) np2
        have bt2 := bt1.new (o := .lst []) np2
        rw [eqv_nil, decide_eq_false hM]
        refine iteT ?_
        -- rest = heap[0].pop()
        refine ⟨.ref h, rfl, h, _, 0, .ref l, rfl, rfl, sqL hg2.top, atI_nat (j := 0) rfl, .inl ⟨rfl, _, sqL hg2.bot⟩, l, _, _, rfl, rfl, hg2.bot, last_get hM, ?_⟩
        rw [drop_map]
        have hg3 := hg2.setL (M := M.dropLast) (Nat.le_trans (Nat.le_of_lt lt) hg1.len)
        have bt3 : But h l H _ := bt2.atL (o := .lst (M.dropLast.map V.int))
        -- heap[0].append(rest // many)
        refine ⟨.ref h, rfl, h, _, 0, .ref l, rfl, rfl, sqL hg3.top, atI_nat (j := 0) rfl, .inl ⟨rfl, _, sqL hg3.bot⟩, .int (M.getLast hM), rfl, .int m, rfl, _, _, rfl, rfl, ⟨by omega, by omega⟩, l, _, _, rfl, rfl, hg3.bot, ?_, ?_⟩
        · have := hg1.len
          rw [List.length_map]
          exact small1000 (by omega)
        have e : M.dropLast.map V.int ++ [.int ((M.getLast hM).fdiv m)] = (M.dropLast ++ [(M.getLast hM).fdiv m]).map V.int := by
          rw [List.map_append]
          rfl
        rw [e]
        have hg4 := hg3.setL (M := M.dropLast ++ [(M.getLast hM).fdiv m]) (by
          have := hg1.len
          rw [List.length_append]
          show _ + 1 ≤ 63
          omega)
        have bt4 : But h l H _ := bt3.atL (o := .lst ((M.dropLast ++ [(M.getLast hM).fdiv m]).map V.int))
        -- return int(rest) % many
        refine ⟨.int (M.getLast hM), rfl, .inl ⟨_, rfl, .int m, rfl, _, _, rfl, rfl, h0, ?_⟩⟩
        exact q _ _ _ _ bt4 hg4 (Int.emod_nonneg _ (by omega)) (Int.emod_lt_of_pos _ h0)
end
end K5
/-! The mathematics of marks. -/
namespace K5
abbrev Mk := Int × Int × List Nat
def isL (c : Nat) : Bool := decide (97 ≤ c ∧ c ≤ 122)
def isD (c : Nat) : Bool := decide (48 ≤ c ∧ c ≤ 57)
def kd (c : Nat) : Nat := if isL c then 1 else if isD c then 2 else 0
/-- the signs behind c that stand in one mark with it -/
def goes (c x : Nat) : Bool := decide (kd c ≠ 0 ∧ kd x = kd c)
/-- all marks of what is left, from a line and a place on -/
def M : List Nat → Int → Int → List Mk
  | [], _, _ => []
  | c :: r, line, col =>
    (if c = 32 then [] else [(line, col, c :: r.takeWhile (goes c))]) ++
    (if c = 10 then M (r.drop (r.takeWhile (goes c)).length) (line + 1) 0 else M (r.drop (r.takeWhile (goes c)).length) line (col + 1 + (r.takeWhile (goes c)).length))
termination_by l => l.length
decreasing_by all_goals (simp only [List.length_drop, List.length_cons]; omega)
theorem tw_lt {p : Nat → Bool} : ∀ {m : List Nat} {j : Nat}, j < (m.takeWhile p).length → ∃ c, m[j]? = some c ∧ p c = true
  | [], j, h => by simp at h
  | x :: r, j, h => by
    by_cases hx : p x = true
    · rw [List.takeWhile_cons_of_pos hx] at h
      cases j with
      | zero => exact ⟨x, rfl, hx⟩
      | succ j =>
        obtain ⟨c, h1, h2⟩ := tw_lt (m := r) (j := j) (by simpa using h)
        exact ⟨c, by simpa using h1, h2⟩
    · rw [List.takeWhile_cons_of_neg hx] at h
      simp at h
theorem tw_end {p : Nat → Bool} : ∀ {m : List Nat} {c : Nat}, m[(m.takeWhile p).length]? = some c → p c = false
  | [], c, h => by simp at h
  | x :: r, c, h => by
    by_cases hx : p x = true
    · rw [List.takeWhile_cons_of_pos hx] at h
      exact tw_end (m := r) (by simpa using h)
    · rw [List.takeWhile_cons_of_neg hx] at h
      have : x = c := by simpa using h
      subst this
      simpa using hx
theorem tw_len {p : Nat → Bool} (m : List Nat) : (m.takeWhile p).length ≤ m.length := (List.takeWhile_sublist p).length_le
theorem tw_take {p : Nat → Bool} : ∀ m : List Nat, m.take (m.takeWhile p).length = m.takeWhile p
  | [] => rfl
  | x :: r => by
    by_cases hx : p x = true
    · rw [List.takeWhile_cons_of_pos hx, List.length_cons, List.take_succ_cons, tw_take r]
    · rw [List.takeWhile_cons_of_neg hx]
      rfl
theorem tw_mem {p : Nat → Bool} : ∀ {m : List Nat} {c : Nat}, c ∈ m.takeWhile p → p c = true
  | [], c, h => by simp at h
  | x :: r, c, h => by
    by_cases hx : p x = true
    · rw [List.takeWhile_cons_of_pos hx] at h
      rcases List.mem_cons.mp h with e | e
      · rw [e]; exact hx
      · exact tw_mem e
    · rw [List.takeWhile_cons_of_neg hx] at h
      simp at h
/-! ### the law's look, sign by sign -/
abbrev Qk := Int × Int × List Nat × Nat
structure Ls where
  found : List Qk
  line : Int
  at_ : Int
/-- whether the sign goes on with the last mark -/
def meets (s : Ls) (c : Nat) : Bool := match s.found.getLast? with
  | none => false
  | some (ln, at_, m, k) => decide (kd c ≠ 0 ∧ k = kd c ∧ ln = s.line ∧ at_ = s.at_ - m.length)
def grown (l : List Qk) (c : Nat) : List Qk := match l.getLast? with
  | none => l
  | some (ln, at_, m, k) => l.dropLast ++ [(ln, at_, m ++ [c], kd c)]
def stepF (s : Ls) (c : Nat) : List Qk := if meets s c then grown s.found c else if c = 32 then s.found else s.found ++ [(s.line, s.at_, [c], kd c)]
def step (s : Ls) (c : Nat) : Ls := ⟨stepF s c, if c = 10 then s.line + 1 else s.line, if c = 10 then 0 else s.at_ + 1⟩
def cut3 (q : Qk) : Mk := (q.1, q.2.1, q.2.2.1)
/-- the last mark lies ahead of the place -/
def Ahead (s : Ls) : Prop := ∀ ln a m k, s.found.getLast? = some (ln, a, m, k) → ln < s.line ∨ (ln = s.line ∧ a + m.length ≤ s.at_)
theorem run_step : ∀ (run : List Nat) (f : List Qk) (line a : Int) (m : List Nat) (k : Nat), k ≠ 0 → (∀ x ∈ run, kd x = k) →
    run.foldl step ⟨f ++ [(line, a, m, k)], line, a + m.length⟩ = ⟨f ++ [(line, a, m ++ run, k)], line, a + m.length + run.length⟩
  | [], f, line, a, m, k, _, _ => by simp
  | x :: r, f, line, a, m, k, hk, h => by
    have hx : kd x = k := h x List.mem_cons_self
    have n10 : x ≠ 10 := by
      intro e
      subst e
      exact hk (hx.symm.trans (by decide))
    have e : step ⟨f ++ [(line, a, m, k)], line, a + m.length⟩ x = ⟨f ++ [(line, a, m ++ [x], k)], line, a + ((m ++ [x]).length : Nat)⟩ := by
      have hm : meets ⟨f ++ [(line, a, m, k)], line, a + m.length⟩ x = true := by
        unfold meets
        rw [List.getLast?_concat]
        exact decide_eq_true ⟨by rw [hx]; exact hk, hx.symm, rfl, by show a = a + (m.length : Int) - m.length; omega⟩
      unfold step stepF
      rw [if_pos hm, if_neg n10, if_neg n10]
      have hg : grown (f ++ [(line, a, m, k)]) x = f ++ [(line, a, m ++ [x], k)] := by
        unfold grown
        rw [List.getLast?_concat]
        simp only [List.dropLast_concat, hx]
      rw [hg]
      simp only [List.length_append, List.length_singleton, Ls.mk.injEq, true_and]
      omega
    rw [List.foldl_cons, e, run_step r f line a (m ++ [x]) k hk fun y hy => h y (List.mem_cons_of_mem _ hy)]
    simp only [List.append_assoc, List.singleton_append, List.length_append, List.length_singleton, List.length_cons, List.length_nil, Ls.mk.injEq, true_and]
    omega
theorem law_is : ∀ (n : Nat) (l : List Nat) (s : Ls), l.length ≤ n → Ahead s → (∀ c, l[0]? = some c → meets s c = false) →
    (l.foldl step s).found.map cut3 = s.found.map cut3 ++ M l s.line s.at_
  | _, [], s, _, _, _ => by
    rw [M]
    simp
  | 0, c :: r, s, h, _, _ => by simp at h
  | n + 1, c :: r, s, h, ha, hc => by
    have hm := hc c rfl
    have hsplit : r = r.takeWhile (goes c) ++ r.drop (r.takeWhile (goes c)).length := by
      conv => lhs; rw [← List.take_append_drop (r.takeWhile (goes c)).length r]
      rw [tw_take]
    have hd : ∀ x, (r.drop (r.takeWhile (goes c)).length)[0]? = some x → goes c x = false := fun x hx => by
      rw [List.getElem?_drop] at hx
      exact tw_end (by simpa using hx)
    have hlen : (r.drop (r.takeWhile (goes c)).length).length ≤ n := by
      rw [List.length_drop]
      simp at h
      omega
    rw [M, List.foldl_cons]
    by_cases hk : kd c = 0
    · -- a sign of its own, or a blank
      have hrun : r.takeWhile (goes c) = [] := by
        cases q : r.takeWhile (goes c) with
        | nil => rfl
        | cons y t =>
          have := tw_mem (p := goes c) (m := r) (c := y) (by rw [q]; exact List.mem_cons_self)
          exact absurd hk (of_decide_eq_true this).1
      rw [hrun] at hlen ⊢
      simp only [List.length_nil, List.drop_zero] at hlen ⊢
      by_cases h32 : c = 32
      · subst h32
        have e : step s 32 = ⟨s.found, s.line, s.at_ + 1⟩ := by
          unfold step stepF
          rw [if_neg (by rw [hm]; exact Bool.false_ne_true)]
          rfl
        rw [e, law_is n r ⟨s.found, s.line, s.at_ + 1⟩ hlen ?_ ?_]
        · simp
        · intro ln a m k hl
          rcases ha ln a m k hl with z | ⟨z1, z2⟩
          · exact .inl z
          · exact .inr ⟨z1, by show a + _ ≤ s.at_ + 1; omega⟩
        · intro x hx
          unfold meets
          show (match s.found.getLast? with | none => false | some (ln, at_, m, k) => decide (kd x ≠ 0 ∧ k = kd x ∧ ln = s.line ∧ at_ = s.at_ + 1 - m.length)) = false
          cases hl : s.found.getLast? with
          | none => rfl
          | some q =>
            obtain ⟨ln, a, m, k⟩ := q
            refine decide_eq_false fun ⟨_, _, z3, z4⟩ => ?_
            rcases ha ln a m k hl with z | ⟨z1, z2⟩ <;> omega
      · have e : step s c = ⟨s.found ++ [(s.line, s.at_, [c], kd c)], if c = 10 then s.line + 1 else s.line, if c = 10 then 0 else s.at_ + 1⟩ := by
          unfold step stepF
          rw [if_neg (by rw [hm]; exact Bool.false_ne_true), if_neg h32]
        have hl : (s.found ++ [(s.line, s.at_, [c], kd c)]).getLast? = some (s.line, s.at_, [c], kd c) := by
          rw [List.getLast?_concat]
        rw [e, law_is n r _ hlen ?_ ?_, if_neg h32]
        · by_cases h10 : c = 10
          · rw [if_pos h10, if_pos h10, if_pos h10]
            simp [cut3]
          · rw [if_neg h10, if_neg h10, if_neg h10]
            simp [cut3]
        · intro ln a m k hq
          have z := Option.some.inj (hl.symm.trans hq)
          injection z with z1 z2
          injection z2 with z2 z3
          injection z3 with z3 z4
          subst z1 z2 z3
          by_cases h10 : c = 10
          · rw [if_pos h10]
            exact .inl (by show s.line < s.line + 1; omega)
          · rw [if_neg h10, if_neg h10]
            exact .inr ⟨rfl, by show s.at_ + 1 ≤ s.at_ + 1; omega⟩
        · intro x hx
          unfold meets
          show (match (s.found ++ [(s.line, s.at_, [c], kd c)]).getLast? with | none => false | some (ln, at_, m, k) => _) = false
          rw [hl]
          exact decide_eq_false fun ⟨z1, z2, _, _⟩ => z1 (z2.symm.trans hk)
    · -- a run
      have n32 : c ≠ 32 := fun e => hk (by rw [e]; decide)
      have n10 : c ≠ 10 := fun e => hk (by rw [e]; decide)
      have e : step s c = ⟨s.found ++ [(s.line, s.at_, [c], kd c)], s.line, s.at_ + ([c].length : Nat)⟩ := by
        unfold step stepF
        rw [if_neg (by rw [hm]; exact Bool.false_ne_true), if_neg n32, if_neg n10, if_neg n10]
        rfl
      rw [e]
      conv => lhs; rw [hsplit]
      rw [List.foldl_append, run_step (r.takeWhile (goes c)) s.found s.line s.at_ [c] (kd c) hk fun x hx => (of_decide_eq_true (tw_mem hx)).2]
      have hl : (s.found ++ [(s.line, s.at_, [c] ++ r.takeWhile (goes c), kd c)]).getLast? = some (s.line, s.at_, [c] ++ r.takeWhile (goes c), kd c) := by
        rw [List.getLast?_concat]
      rw [law_is n _ _ hlen ?_ ?_, if_neg n32, if_neg n10]
      · simp only [List.map_append, List.map_cons, List.map_nil, cut3, List.append_assoc, List.length_singleton, List.singleton_append]
        rfl
      · intro ln a m k hq
        have z := Option.some.inj (hl.symm.trans hq)
        injection z with z1 z2
        injection z2 with z2 z3
        injection z3 with z3 z4
        subst z1 z2 z3
        refine .inr ⟨rfl, ?_⟩
        simp only [List.length_append, List.length_singleton]
        omega
      · intro x hx
        have hg := of_decide_eq_false (hd x hx)
        unfold meets
        show (match (s.found ++ [(s.line, s.at_, [c] ++ r.takeWhile (goes c), kd c)]).getLast? with | none => false | some (ln, at_, m, k) => _) = false
        rw [hl]
        exact decide_eq_false fun ⟨z1, z2, _, _⟩ => hg ⟨hk, z2.symm⟩
/-! ### marks joined -/
/-- what a mark is -/
def Good (m : List Nat) : Prop := ∃ c r, m = c :: r ∧ c ≠ 32 ∧ ∀ x ∈ r, goes c x = true
theorem M_good : ∀ (n : Nat) (l : List Nat) (line col : Int), l.length ≤ n → ∀ q ∈ M l line col, Good q.2.2
  | _, [], _, _, _, q, hq => by
    rw [M] at hq
    simp at hq
  | 0, c :: r, _, _, h, _, _ => by simp at h
  | n + 1, c :: r, line, col, h, q, hq => by
    have hlen : (r.drop (r.takeWhile (goes c)).length).length ≤ n := by
      rw [List.length_drop]
      simp at h
      omega
    rw [M] at hq
    rcases List.mem_append.mp hq with z | z
    · by_cases h32 : c = 32
      · rw [if_pos h32] at z
        simp at z
      · rw [if_neg h32] at z
        have e : q = (line, col, c :: r.takeWhile (goes c)) := by simpa using z
        subst e
        exact ⟨c, _, rfl, h32, fun x hx => tw_mem hx⟩
    · by_cases h10 : c = 10
      · rw [if_pos h10] at z
        exact M_good n _ _ _ hlen q z
      · rw [if_neg h10] at z
        exact M_good n _ _ _ hlen q z
def joinB : List (List Nat) → List Nat
  | [] => []
  | [m] => m
  | m :: n :: r => m ++ 32 :: joinB (n :: r)
theorem tw_good {c : Nat} {r rest : List Nat} (hr : ∀ x ∈ r, goes c x = true) (h : rest = [] ∨ ∃ t, rest = 32 :: t) : (r ++ rest).takeWhile (goes c) = r := by
  induction r with
  | nil =>
    rcases h with e | ⟨t, e⟩
    · rw [e]; rfl
    · rw [e, List.nil_append, List.takeWhile_cons_of_neg]
      intro z
      have z2 := of_decide_eq_true z
      exact z2.1 (z2.2.symm.trans (by decide))
  | cons x r ih =>
    rw [List.cons_append, List.takeWhile_cons_of_pos (hr x List.mem_cons_self), ih fun y hy => hr y (List.mem_cons_of_mem _ hy)]
theorem M_join : ∀ (ms : List (List Nat)), (∀ m ∈ ms, Good m) → ∀ line col : Int, (M (joinB ms) line col).map (·.2.2) = ms
  | [], _, line, col => by
    rw [joinB, M]
    rfl
  | [m], h, line, col => by
    obtain ⟨c, r, rfl, h32, hr⟩ := h m List.mem_cons_self
    have e : r.takeWhile (goes c) = r := by simpa using tw_good (rest := []) hr (.inl rfl)
    rw [joinB, M, e, if_neg h32, List.drop_length]
    have z : ∀ a b, M [] a b = [] := fun a b => by rw [M]
    split <;> simp [z]
  | m :: n :: t, h, line, col => by
    have ih := M_join (n :: t) fun x hx => h x (List.mem_cons_of_mem _ hx)
    obtain ⟨c, r, rfl, h32, hr⟩ := h m List.mem_cons_self
    have e : (r ++ 32 :: joinB (n :: t)).takeWhile (goes c) = r := tw_good hr (.inr ⟨_, rfl⟩)
    have e2 : ∀ a b : Int, (M (32 :: joinB (n :: t)) a b).map (·.2.2) = n :: t := fun a b => by
      have g : (joinB (n :: t)).takeWhile (goes 32) = [] := by
        cases q : (joinB (n :: t)).takeWhile (goes 32) with
        | nil => rfl
        | cons y u =>
          have := tw_mem (p := goes 32) (m := joinB (n :: t)) (c := y) (by rw [q]; exact List.mem_cons_self)
          exact absurd (by decide) (of_decide_eq_true this).1
      rw [M, g, if_pos rfl, if_neg (by decide)]
      exact ih _ _
    rw [joinB, List.cons_append, M, e, if_neg h32, List.drop_left]
    split
    · rw [List.map_append, e2]
      rfl
    · rw [List.map_append, e2]
      rfl
end K5
namespace K5
open PySem PySem.Spec PyProof.Rows L2 Gd
/-- all but lists stands as before -/
def KeepT (H G : Hp) : Prop := ∀ b o, H b = some o → (∀ xs, o ≠ .lst xs) → G b = some o
theorem KeepT.of {H G : Hp} (e : Same H G) : KeepT H G := fun b o h _ => e b o h
theorem KeepT.trans {H G J : Hp} (a : KeepT H G) (b : KeepT G J) : KeepT H J := fun c o h n => b c o (a c o h n) n
theorem KeepT.put {H : Hp} {p : Addr} {xs : List V} {o : HO} (h : H p = some (.lst xs)) : KeepT H (upd H p o) := fun b x e n => by
  have ne : b ≠ p := fun z => by
    subst z
    have z2 := Option.some.inj (h.symm.trans e)
    exact n _ z2.symm
  exact (upd_ne ne).trans e
theorem KeepT.but {h l : Addr} {H G : Hp} {L : List Int} {st : Int} (v : Hv H h l L st) (b : But h l H G) : KeepT H G := fun c o e n =>
  b c o (fun z => by subst z; exact n _ (Option.some.inj (v.top.symm.trans e)).symm) (fun z => by subst z; exact n _ (Option.some.inj (v.bot.symm.trans e)).symm) e
theorem KeepT.seqT {K : PySem.W.Frag} {H G : Hp} {a : Addr} {xs : List V} (e : KeepT H G) (h : SqT K H a xs) : SqT K G a xs := by
  rcases h with (z | ⟨o, z⟩) | z
  · exact .inl (.inl (e _ _ z (by intro _ q; cases q)))
  · exact .inl (.inr ⟨o, e _ _ z (by intro _ q; cases q)⟩)
  · exact .inr z
mutual
def noList : PyData → Bool
  | .none | .bool _ | .int _ | .str _ => true
  | .tuple xs => noListAll xs
  | .list _ | .dict _ => false
def noListAll : List PyData → Bool
  | [] => true
  | x :: xs => noList x && noListAll xs
end
mutual
theorem dp_keep {K : PySem.W.Frag} {H G : Hp} (e : KeepT H G) : ∀ (d : PyData) (v : V), noList d = true → Dp K H v d → Dp K G v d
  | .none, _, _, h => by cases h; exact .non
  | .bool b, _, _, h => by cases h; exact .bl b
  | .int i, _, _, h => by cases h; exact .int i
  | .str x, _, _, h => by cases h; exact .str x
  | .list ds, _, n, _ => by simp [noList] at n
  | .tuple ds, _, n, h => by
    cases h with
    | tup hs ha => exact .tup (e.seqT hs) (dpAll_keep e ds _ (by simpa [noList] using n) ha)
  | .dict _, _, _, h => by cases h
theorem dpAll_keep {K : PySem.W.Frag} {H G : Hp} (e : KeepT H G) : ∀ (ds : List PyData) (vs : List V), noListAll ds = true → DpAll K H vs ds → DpAll K G vs ds
  | [], _, _, h => by cases h; exact .nil
  | d :: ds, _, n, h => by
    have n' : noList d = true ∧ noListAll ds = true := by simpa [noListAll] using n
    cases h with
    | cons h1 h2 => exact .cons (dp_keep e d _ n'.1 h1) (dpAll_keep e ds _ n'.2 h2)
end
theorem noListAll_mem : ∀ {ds : List PyData}, (∀ d ∈ ds, noList d = true) → noListAll ds = true
  | [], _ => rfl
  | x :: xs, h => by rw [noListAll, h x List.mem_cons_self, noListAll_mem fun d hd => h d (List.mem_cons_of_mem _ hd)]; rfl
/-! marks as data -/
def sOf (m : List Nat) : Str := ⟨m.toArray⟩
def m3 (q : Mk) : PyData := .tuple [.int q.1, .int q.2.1, .str (sOf q.2.2)]
def mdata (ms : List Mk) : PyData := .tuple (ms.map m3)
theorem noList_m3 (ms : List Mk) : noListAll (ms.map m3) = true := noListAll_mem fun d hd => by
  obtain ⟨q, _, rfl⟩ := List.mem_map.mp hd
  rfl
/-! kinds of signs -/
theorem kd_L {c : Nat} (h : isL c = true) : kd c = 1 := by unfold kd; rw [if_pos h]
theorem L_not_D {c : Nat} (h : isL c = true) : isD c = false := by
  have := of_decide_eq_true h
  exact decide_eq_false (by omega)
theorem D_not_L {c : Nat} (h : isD c = true) : isL c = false := by
  have := of_decide_eq_true h
  exact decide_eq_false (by omega)
theorem kd_D {c : Nat} (h : isD c = true) : kd c = 2 := by unfold kd; rw [if_neg (by rw [D_not_L h]; exact Bool.false_ne_true), if_pos h]
theorem kd_0 {c : Nat} (h : isL c = false) (h' : isD c = false) : kd c = 0 := by unfold kd; rw [if_neg (by rw [h]; exact Bool.false_ne_true), if_neg (by rw [h']; exact Bool.false_ne_true)]
theorem goes_L {c : Nat} (h : isL c = true) : goes c = isL := by
  funext x
  unfold goes
  rw [kd_L h]
  cases hx : isL x with
  | true => exact decide_eq_true ⟨by decide, kd_L hx⟩
  | false =>
    refine decide_eq_false fun z => ?_
    have z2 := z.2
    unfold kd at z2
    rw [hx, if_neg Bool.false_ne_true] at z2
    split at z2 <;> omega
theorem goes_D {c : Nat} (h : isD c = true) : goes c = isD := by
  funext x
  unfold goes
  rw [kd_D h]
  cases hx : isD x with
  | true => exact decide_eq_true ⟨by decide, kd_D hx⟩
  | false =>
    refine decide_eq_false fun z => ?_
    have z2 := z.2
    unfold kd at z2
    rw [hx] at z2
    split at z2
    · omega
    · simp at z2
theorem goes_0 {c : Nat} (h : kd c = 0) (r : List Nat) : r.takeWhile (goes c) = [] := by
  cases q : r.takeWhile (goes c) with
  | nil => rfl
  | cons y t =>
    have := tw_mem (p := goes c) (m := r) (c := y) (by rw [q]; exact List.mem_cons_self)
    exact absurd h (of_decide_eq_true this).1
theorem lt_one (a b : Nat) : decide (([a] : List Nat) < [b]) = decide (a < b) := by
  by_cases h : a < b
  · rw [decide_eq_true h]
    exact decide_eq_true (List.Lex.rel h)
  · rw [decide_eq_false h]
    refine decide_eq_false fun z => ?_
    cases z with
    | rel z => exact h z
    | cons z => cases z
abbrev zL : Str := Str.ofString "abcdefghijklmnopqrstuvwxyz"
abbrev zD : Str := Str.ofString "0123456789"
theorem mem_L (c : Nat) : c ∈ zL.cps.toList ↔ isL c = true := by
  have e : zL.cps.toList = List.range' 97 26 := by decide +kernel
  rw [e, List.mem_range'_1]
  exact ⟨fun h => decide_eq_true (by omega), fun h => by have := of_decide_eq_true h; omega⟩
theorem mem_D (c : Nat) : c ∈ zD.cps.toList ↔ isD c = true := by
  have e : zD.cps.toList = List.range' 48 10 := by decide +kernel
  rw [e, List.mem_range'_1]
  exact ⟨fun h => decide_eq_true (by omega), fun h => by have := of_decide_eq_true h; omega⟩
theorem len_list (z : Str) : z.cps.toList.length = z.length := rfl
theorem size_ok {z : Str} (h : z.length ≤ 1000000) : z.length ≤ sizeLine := Nat.le_trans h (by decide)
section
variable {P : Program} {w : World} {K : PySem.W.Frag} {mg : Str → Option Value} {base : Heap}
/-! ### run_end -/
def spRun : Sp := fun vs H Q _ => ∃ (z : Str) (n : Nat) (sg : Str) (p : Nat → Bool), vs = [.str z, .int (n : Int), .str sg] ∧ z.length ≤ 1000000 ∧ n ≤ z.length ∧ (∀ c, c ∈ sg.cps.toList ↔ p c = true) ∧
  Q (.int ((n + ((z.cps.toList.drop n).takeWhile p).length : Nat) : Int)) H
theorem ok_run {f : Addr} {fd : FuncData} {k : Nat} (F : Fun K "run_end" "run_end" sRun f fd) (ml : mg "len" = none) : FnOk P w K mg base CX0 (k + 1) f fd ["text", "at", "signs"] spRun := by
  refine F.ok scRun (fun vs H Q E h => ?_) (fun cdv A outer s H vs Q E hr h => ?_)
  · obtain ⟨z, n, sg, p, rfl, _⟩ := h
    rfl
  · obtain ⟨z, n, sg, p, rfl, hz, hn, hp, q⟩ := h
    refine ⟨_, pss_cons (ps_set (i := 3) scRun.nd rfl (.inl rfl) (pv 1))
      (pss_cons (ps_while PassesOwn.never (PW.pt (pw_and (pt_cmpR op_lt (pv 3) (pe_callB call_len_str (by rfl) ml PySem.boot_len (pa_cons (pv 0) pa_nil)) (nomark _))
          (pw_and1 (pt_cmpR op_in_sign (pe_ix ix_str (pv 0) (pv 3) (fun _ _ => rfl)) (pv 2) rfl))))
        (pss_one (ps_aug (i := 3) scRun.nd rfl (.inl rfl) pe_int ip_add)))
      (pss_one (ps_ret (pv 3)))), ?_⟩
    refine ⟨.int n, rfl, ?_⟩
    refine ⟨fun m σ G => ∃ j : Nat, σ = [some (.str z), some (.int (n : Int)), some (.str sg), some (.int ((n + j : Nat) : Int))] ∧ G = H ∧ j ≤ ((z.cps.toList.drop n).takeWhile p).length ∧ m = ((z.cps.toList.drop n).takeWhile p).length - j,
      ⟨_, 0, rfl, rfl, Nat.zero_le _, rfl⟩, fun m σ G hw => ?_⟩
    obtain ⟨j, rfl, rfl, hj, rfl⟩ := hw
    have hle := tw_len (p := p) (z.cps.toList.drop n)
    rw [List.length_drop, len_list] at hle
    refine ⟨.int ((n + j : Nat) : Int), rfl, .str z, rfl, z, rfl, size_ok hz, _, _, rfl, rfl, _, rfl, ?_⟩
    by_cases hlt : n + j < z.length
    · have hc : ∃ c, z.cps.toList[n + j]? = some c := ⟨_, List.getElem?_eq_getElem (by rw [len_list]; exact hlt)⟩
      obtain ⟨c, hc⟩ := hc
      have hc2 : (z.cps.toList.drop n)[j]? = some c := by rw [List.getElem?_drop]; exact hc
      rw [decide_eq_true (show ((n + j : Nat) : Int) < (z.length : Int) by omega)]
      refine iteT ?_
      refine ⟨.str z, rfl, .int ((n + j : Nat) : Int), rfl, z, _, c, rfl, rfl, size_ok hz, atI_nat hc, .str sg, rfl, c, sg, rfl, rfl, _, rfl, ?_⟩
      by_cases hin : p c = true
      · rw [decide_eq_true ((hp c).mpr hin)]
        have hj2 : j < ((z.cps.toList.drop n).takeWhile p).length := by
          refine Nat.lt_of_le_of_ne hj fun e => ?_
          rw [e] at hc2
          have := tw_end hc2
          rw [this] at hin
          cases hin
        refine iteT ?_
        refine ⟨fun σ' G' => σ' = [some (.str z), some (.int (n : Int)), some (.str sg), some (.int ((n + (j + 1) : Nat) : Int))] ∧ G' = G, fun σ' G' h => ⟨_, by omega, j + 1, h.1, h.2, hj2, rfl⟩, ?_⟩
        exact ⟨_, rfl, _, _, rfl, rfl, rfl, rfl⟩
      · rw [decide_eq_false fun z => hin ((hp c).mp z)]
        refine iteF ?_
        have e : j = ((z.cps.toList.drop n).takeWhile p).length := by
          refine Nat.le_antisymm hj (Nat.le_of_not_lt fun h => hin ?_)
          obtain ⟨c', h1, h2⟩ := tw_lt h
          rw [hc2] at h1
          cases h1
          exact h2
        refine ⟨_, rfl, ?_⟩
        rw [e]
        exact q
    · rw [decide_eq_false (show ¬ ((n + j : Nat) : Int) < (z.length : Int) by omega)]
      refine iteF (iteF ?_)
      have e : j = ((z.cps.toList.drop n).takeWhile p).length := by omega
      refine ⟨_, rfl, ?_⟩
      rw [e]
      exact q
/-! ### mark_end -/
def spEnd : Sp := fun vs H Q _ => ∃ (z : Str) (n c : Nat) (r : List Nat), vs = [.str z, .int (n : Int)] ∧ z.length ≤ 1000000 ∧ z.cps.toList.drop n = c :: r ∧
  ∀ G, Same H G → Q (.int ((n + 1 + (r.takeWhile (goes c)).length : Nat) : Int)) G
theorem ok_end {f fR : Addr} {fd fdR : FuncData} {k : Nat} {t1 t2 : Tok} (F : Fun K "mark_end" "mark_end" sEnd f fd) (FR : Fun K "run_end" "run_end" sRun fR fdR) (bR : Binds K fdR ["text", "at", "signs"] [])
    (gR : mg "run_end" = some (.ref fR)) (gL : mg "LETTERS" = some (.str zL t1)) (gD : mg "DIGITS" = some (.str zD t2)) (ml : mg "len" = none) : FnOk P w K mg base CX0 (k + 1 + 1) f fd ["text", "at"] spEnd := by
  have GR : FnOk P w K mg base CX0 (k + 1) fR fdR ["text", "at", "signs"] spRun := ok_run FR ml
  refine F.ok scEnd (fun vs H Q E h => ?_) (fun cdv A outer s H vs Q E hr h => ?_)
  · obtain ⟨z, n, c, r, rfl, _⟩ := h
    rfl
  · obtain ⟨z, n, c, r, rfl, hz, hd, q⟩ := h
    refine ⟨_, pss_cons (ps_for PassesOwn.never rfl (pi_tup (pe_tup (pa_cons (pe_glob (v := .str zL) (by rfl) gL ⟨_, rfl⟩) (pa_cons (pe_glob (v := .str zD) (by rfl) gD ⟨_, rfl⟩) pa_nil)))) (pg_name (i := 2) scEnd.nd rfl (.inl rfl))
        (pss_one (ps_if (pt_cmpR op_in_sign (pe_ix ix_str (pv 0) (pv 1) (fun _ _ => rfl)) (pv 2) rfl)
          (pss_one (ps_ret (pe_call GR hr (by rfl) gR FR.kp bR .nil pass0 (pa_cons (pv 0) (pa_cons (pv 1) (pa_cons (pv 2) pa_nil)))))) pss_nil)))
      (pss_one (ps_ret (pe_op op_add (pv 1) pe_int))), ?_⟩
    have hc : z.cps.toList[n]? = some c := by
      have := congrArg (fun l => l[0]?) hd
      simpa using this
    have hn : n ≤ z.length := by
      have := (List.getElem?_eq_some_iff.mp hc).1
      rw [len_list] at this
      omega
    refine ⟨by show 2 ≤ sizeLine; decide, fun p np => ⟨p, rfl, ⟨_, sqT upd_same⟩, ?_⟩⟩
    have sm : Same H (upd H p (.tup [.str zL, .str zD])) := same_new np
    refine for_tup (xs := [.str zL, .str zD]) (fun i σ G => G = upd H p (.tup [.str zL, .str zD]) ∧ (∃ y, σ = [some (.str z), some (.int (n : Int)), y]) ∧ (0 < i → isL c = false) ∧ (1 < i → isD c = false))
      ⟨rfl, ⟨_, rfl⟩, fun z => absurd z (by omega), fun z => absurd z (by omega)⟩ (fun i σ G _ hP => by rw [hP.1]; exact sqT upd_same) (fun i x σ G hx hP => ?_) (fun σ G hP => ?_)
    · obtain ⟨rfl, ⟨y, rfl⟩, h1, h2⟩ := hP
      match i, hx with
      | 0, hx =>
        obtain rfl : V.str zL = x := Option.some.inj hx
        refine ⟨.str z, rfl, .int n, rfl, z, _, c, rfl, rfl, size_ok hz, atI_nat hc, .str zL, rfl, c, zL, rfl, rfl, _, rfl, ?_⟩
        by_cases hL : isL c = true
        · rw [decide_eq_true ((mem_L c).mpr hL)]
          refine iteT ?_
          refine ⟨.str z, rfl, .int n, rfl, .str zL, rfl, z, n, zL, isL, rfl, hz, hn, mem_L, ?_⟩
          have e : n + ((z.cps.toList.drop n).takeWhile isL).length = n + 1 + (r.takeWhile (goes c)).length := by
            rw [hd, List.takeWhile_cons_of_pos hL, List.length_cons, goes_L hL]
            omega
          rw [e]
          exact q _ sm
        · rw [decide_eq_false fun z => hL ((mem_L c).mp z)]
          refine iteF ?_
          exact ⟨rfl, ⟨_, rfl⟩, fun _ => by simpa using hL, fun z => absurd z (by omega)⟩
      | 1, hx =>
        obtain rfl : V.str zD = x := Option.some.inj hx
        refine ⟨.str z, rfl, .int n, rfl, z, _, c, rfl, rfl, size_ok hz, atI_nat hc, .str zD, rfl, c, zD, rfl, rfl, _, rfl, ?_⟩
        by_cases hD : isD c = true
        · rw [decide_eq_true ((mem_D c).mpr hD)]
          refine iteT ?_
          refine ⟨.str z, rfl, .int n, rfl, .str zD, rfl, z, n, zD, isD, rfl, hz, hn, mem_D, ?_⟩
          have e : n + ((z.cps.toList.drop n).takeWhile isD).length = n + 1 + (r.takeWhile (goes c)).length := by
            rw [hd, List.takeWhile_cons_of_pos hD, List.length_cons, goes_D hD]
            omega
          rw [e]
          exact q _ sm
        · rw [decide_eq_false fun z => hD ((mem_D c).mp z)]
          refine iteF ?_
          exact ⟨rfl, ⟨_, rfl⟩, fun _ => h1 (by omega), fun _ => by simpa using hD⟩
      | i + 2, hx => simp at hx
    · obtain ⟨rfl, ⟨y, rfl⟩, h1, h2⟩ := hP
      refine ⟨_, rfl, _, _, rfl, rfl, ?_⟩
      have e := q _ sm
      rw [goes_0 (kd_0 (h1 (by decide)) (h2 (by decide)))] at e
      exact e
end
end K5
namespace K5
open PySem PySem.Spec PyProof.Rows L2 Gd
theorem cut_mid {z : Str} {a b : Nat} (ha : a ≤ b) (hb : b ≤ z.length) : cutS z (some (a : Int)) (some (b : Int)) = sOf ((z.cps.toList.drop a).take (b - a)) := by
  unfold cutS sOf
  rw [HT.sIx_nat, HT.sIx_nat, Nat.min_eq_left (Nat.le_trans ha hb), Nat.min_eq_left hb]
theorem drop_split {l r : List Nat} {n c j : Nat} (h : l.drop n = c :: r) : l.drop (n + 1 + j) = r.drop j := by
  have e : l.drop (n + (1 + j)) = (l.drop n).drop (1 + j) := by rw [List.drop_drop]
  rw [Nat.add_assoc, e, h, Nat.add_comm 1 j, List.drop_succ_cons]
theorem small_of {n : Nat} {z : Str} {vs : List V} (hv : vs.length ≤ n) (hz : z.length ≤ 1000000) (hn : n ≤ z.length) : vs.length < sizeLine :=
  Nat.lt_of_le_of_lt (Nat.le_trans hv (Nat.le_trans hn hz)) (by decide)
theorem M_nil (a b : Int) : M [] a b = [] := by rw [M]
section
variable {P : Program} {w : World} {K : PySem.W.Frag} {mg : Str → Option Value} {base : Heap}
def spMarks (K : PySem.W.Frag) : Sp := fun vs H Q _ => ∃ z : Str, vs = [.str z] ∧ z.length ≤ 1000000 ∧ ∀ G p, Same H G → Dp K G (.ref p) (mdata (M z.cps.toList 0 0)) → Q (.ref p) G
theorem ok_marks {f fE fR : Addr} {fd fdE fdR : FuncData} {k : Nat} {t1 t2 : Tok} (F : Fun K "marks_of" "marks_of" sMarks f fd) (FE : Fun K "mark_end" "mark_end" sEnd fE fdE) (FR : Fun K "run_end" "run_end" sRun fR fdR)
    (bE : Binds K fdE ["text", "at"] []) (bR : Binds K fdR ["text", "at", "signs"] []) (gE : mg "mark_end" = some (.ref fE)) (gR : mg "run_end" = some (.ref fR))
    (gL : mg "LETTERS" = some (.str zL t1)) (gD : mg "DIGITS" = some (.str zD t2)) (ml : mg "len" = none) (mt : mg "tuple" = none) : FnOk P w K mg base CX0 (k + 1 + 1 + 1) f fd ["text"] (spMarks K) := by
  have GE : FnOk P w K mg base CX0 (k + 1 + 1) fE fdE ["text", "at"] spEnd := ok_end FE FR bR gR gL gD ml
  refine F.ok scMarks (fun vs H Q E h => ?_) (fun cdv A outer s H vs Q E hr h => ?_)
  · obtain ⟨z, rfl, _⟩ := h
    rfl
  · obtain ⟨z, rfl, hz, q⟩ := h
    refine ⟨_, pss_cons (ps_set (i := 1) scMarks.nd rfl (.inl rfl) (pe_lst pa_nil))
      (pss_cons (ps_set (i := 2) scMarks.nd rfl (.inl rfl) pe_int)
      (pss_cons (ps_set (i := 3) scMarks.nd rfl (.inl rfl) pe_int)
      (pss_cons (ps_set (i := 4) scMarks.nd rfl (.inl rfl) pe_int)
      (pss_cons (ps_while PassesOwn.never (pt_cmpR op_lt (pv 4) (pe_callB call_len_str (by rfl) ml PySem.boot_len (pa_cons (pv 0) pa_nil)) (nomark _))
        (pss_cons (ps_set (i := 5) scMarks.nd rfl (.inl rfl) (pe_call GE hr (by rfl) gE FE.kp bE .nil pass0 (pa_cons (pv 0) (pa_cons (pv 4) pa_nil))))
        (pss_cons (ps_if (pt_cmpR op_ne (pe_ix ix_str (pv 0) (pv 4) (fun _ _ => rfl)) pe_str (nomark _))
          (pss_one (ps_expr (pe_bm PySem.F.plainAttrs_list PySem.F.slot_list_append PySem.F.type_list_append mt_append (pv 1)
            (pa_cons (pe_tup (pa_cons (pv 2) (pa_cons (pe_op op_sub (pv 4) (pv 3)) (pa_cons (pe_slice sl_str (pv 0) (po_some (pv 4)) (po_some (pv 5))) pa_nil)))) pa_nil)))) pss_nil)
        (pss_cons (ps_if (pt_cmpR op_eq (pe_ix ix_str (pv 0) (pv 4) (fun _ _ => rfl)) pe_str (nomark _))
          (pss_cons (ps_aug (i := 2) scMarks.nd rfl (.inl rfl) pe_int ip_add)
          (pss_one (ps_set (i := 3) scMarks.nd rfl (.inl rfl) (pv 5)))) pss_nil)
        (pss_one (ps_set (i := 4) scMarks.nd rfl (.inl rfl) (pv 5)))))))
      (pss_one (ps_ret (pe_callTy call_tuple_of (by rfl) mt (by decide +kernel) (pa_cons (pv 1) pa_nil)))))))), ?_⟩
    refine ⟨Nat.zero_le _, fun p np => ?_⟩
    refine ⟨fun m σ G => ∃ (n : Nat) (line begin : Int) (ms : List Mk) (vs : List V) (y : Option V),
        σ = [some (.str z), some (.ref p), some (.int line), some (.int begin), some (.int (n : Int)), y] ∧ Same H G ∧ G p = some (.lst vs) ∧ DpAll K G vs (ms.map m3) ∧
        M z.cps.toList 0 0 = ms ++ M (z.cps.toList.drop n) line (n - begin) ∧ n ≤ z.length ∧ vs.length ≤ n ∧ m = z.length - n,
      ⟨_, 0, 0, 0, [], [], none, rfl, same_new np, upd_same, .nil, rfl, Nat.zero_le _, Nat.le_refl _, rfl⟩, fun m σ G hw => ?_⟩
    obtain ⟨n, line, begin, ms, vs, y, rfl, sm, gp, dp, hM, hn, hv, rfl⟩ := hw
    refine ⟨_, rfl, .str z, rfl, z, rfl, size_ok hz, _, _, rfl, rfl, _, rfl, ?_⟩
    by_cases hlt : n < z.length
    · rw [decide_eq_true (show (n : Int) < (z.length : Int) by omega)]
      refine iteT ?_
      obtain ⟨c, r, hd⟩ : ∃ c r, z.cps.toList.drop n = c :: r := by
        cases q : z.cps.toList.drop n with
        | nil =>
          have := congrArg List.length q
          rw [List.length_drop, len_list] at this
          simp at this
          omega
        | cons c r => exact ⟨c, r, rfl⟩
      have hc : z.cps.toList[n]? = some c := by
        have := congrArg (fun l => l[0]?) hd
        simpa using this
      -- what one turn brings
      have hlen := congrArg List.length hd
      rw [List.length_drop, len_list, List.length_cons] at hlen
      have htw := tw_len (p := goes c) r
      have hM2 := hM
      rw [hd, M] at hM2
      have hdr : z.cps.toList.drop (n + 1 + (r.takeWhile (goes c)).length) = r.drop (r.takeWhile (goes c)).length := drop_split hd
      refine ⟨fun σ' G' => ∃ m', m' < z.length - n ∧ ∃ (n : Nat) (line begin : Int) (ms : List Mk) (vs : List V) (y : Option V),
        σ' = [some (.str z), some (.ref p), some (.int line), some (.int begin), some (.int (n : Int)), y] ∧ Same H G' ∧ G' p = some (.lst vs) ∧ DpAll K G' vs (ms.map m3) ∧
        M z.cps.toList 0 0 = ms ++ M (z.cps.toList.drop n) line (n - begin) ∧ n ≤ z.length ∧ vs.length ≤ n ∧ m' = z.length - n, fun σ' G' h => h, ?_⟩
      -- end = mark_end(text, at)
      refine ⟨.str z, rfl, .int n, rfl, z, n, c, r, rfl, hz, hd, fun G1 s1 => ?_⟩
      have gp1 : G1 p = some (.lst vs) := s1 _ _ gp
      have dp1 := dpAll_same s1 _ _ dp
      have sm1 := sm.trans s1
      -- what stands behind the marks of this turn
      have rest : ∀ (G2 : Hp) (us : List V) (ns : List Mk), Same H G2 → G2 p = some (.lst us) → DpAll K G2 us (ns.map m3) → us.length ≤ n + 1 →
          ns = ms ++ (if c = 32 then [] else [(line, (n : Int) - begin, c :: r.takeWhile (goes c))]) →
          tSeq (tIfS (tTest (tOp rEq (tOp rIxS (tVar 0) (tVar 4)) (tC (.str (Str.ofString "\n"))))) (tSeq (tAug 2 (tC (.int 1)) (ipI fun i j => i + j)) (tSeq (tAsg (tVar 5) (gName 3)) tNext)) tNext)
            (tSeq (tAsg (tVar 5) (gName 4)) tNext)
            { nx := fun σ' G' => ∃ m', m' < z.length - n ∧ ∃ (n : Nat) (line begin : Int) (ms : List Mk) (vs : List V) (y : Option V),
                σ' = [some (.str z), some (.ref p), some (.int line), some (.int begin), some (.int (n : Int)), y] ∧ Same H G' ∧ G' p = some (.lst vs) ∧ DpAll K G' vs (ms.map m3) ∧
                M z.cps.toList 0 0 = ms ++ M (z.cps.toList.drop n) line (n - begin) ∧ n ≤ z.length ∧ vs.length ≤ n ∧ m' = z.length - n, rt := Q }
            [some (.str z), some (.ref p), some (.int line), some (.int begin), some (.int (n : Int)), some (.int ((n + 1 + (r.takeWhile (goes c)).length : Nat) : Int))] G2 := by
        intro G2 us ns sm2 gp2 dp2 hus hns
        refine ⟨.str z, rfl, .int n, rfl, z, _, c, rfl, rfl, size_ok hz, atI_nat hc, rfl, _, rfl, ?_⟩
        by_cases h10 : c = 10
        · subst h10
          rw [decide_eq_true (show V.str ⟨#[10]⟩ = V.str (Str.ofString "\n") by decide +kernel)]
          refine iteT ?_
          refine ⟨_, rfl, _, _, rfl, rfl, _, rfl, _, rfl, _, by omega, n + 1 + (r.takeWhile (goes 10)).length, line + 1, ((n + 1 + (r.takeWhile (goes 10)).length : Nat) : Int), ns, us, _, rfl, sm2, gp2, dp2, ?_, by omega, by omega, rfl⟩
          rw [hM2, hns, hdr, if_pos rfl, List.append_assoc, Int.sub_self]
        · rw [decide_eq_false (show ¬ V.str ⟨#[c]⟩ = V.str (Str.ofString "\n") from fun e => h10 (by
            have e2 : (⟨#[c]⟩ : Str) = Str.ofString "\n" := V.str.inj e
            have e3 : (Str.ofString "\n") = ⟨#[10]⟩ := by decide +kernel
            rw [e3] at e2
            injection e2 with e2
            simpa using e2))]
          refine iteF ?_
          refine ⟨_, rfl, _, by omega, n + 1 + (r.takeWhile (goes c)).length, line, begin, ns, us, _, rfl, sm2, gp2, dp2, ?_, by omega, by omega, rfl⟩
          rw [hM2, hns, hdr, if_neg h10, List.append_assoc]
          have e : ((n + 1 + (r.takeWhile (goes c)).length : Nat) : Int) - begin = (n : Int) - begin + 1 + ((r.takeWhile (goes c)).length : Int) := by omega
          rw [e]
      -- if text[at] != " "
      refine ⟨.str z, rfl, .int n, rfl, z, _, c, rfl, rfl, size_ok hz, atI_nat hc, rfl, _, rfl, ?_⟩
      by_cases h32 : c = 32
      · subst h32
        rw [decide_eq_true (show V.str ⟨#[32]⟩ = V.str (Str.ofString " ") by decide +kernel)]
        refine iteF ?_
        exact rest G1 vs ms sm1 gp1 dp1 (by omega) (by simp)
      · rw [decide_eq_false (show ¬ V.str ⟨#[c]⟩ = V.str (Str.ofString " ") from fun e => h32 (by
            have e2 : (⟨#[c]⟩ : Str) = Str.ofString " " := V.str.inj e
            have e3 : (Str.ofString " ") = ⟨#[32]⟩ := by decide +kernel
            rw [e3] at e2
            injection e2 with e2
            simpa using e2))]
        refine iteT ?_
        -- marks.append((line, at - begin, text[at:end]))
        refine ⟨.ref p, rfl, .inl ⟨rfl, _, sqL gp1⟩, _, rfl, _, rfl, _, rfl, _, _, rfl, rfl, .str z, rfl, _, rfl, _, rfl, _, rfl, _, rfl, z, rfl, size_ok hz, by show 3 ≤ sizeLine; decide, fun t nt => ?_⟩
        have net : p ≠ t := ne_of_none gp1 nt
        have s2 : Same G1 (upd G1 t (.tup [.int line, .int ((n : Int) - begin), .str (cutS z (some (n : Int)) (some ((n + 1 + (r.takeWhile (goes c)).length : Nat) : Int)))])) := same_new nt
        refine ⟨p, vs, _, rfl, rfl, s2 _ _ gp1, small_of hv hz hn, ?_⟩
        refine rest _ _ (ms ++ [(line, (n : Int) - begin, c :: r.takeWhile (goes c))]) (fun b o e => ?_) upd_same ?_ ?_ (by rw [if_neg h32])
        · rw [upd_ne (ne_of_none e np)]
          exact s2 _ _ (sm1 _ _ e)
        · rw [List.map_append]
          refine dpAll_snoc (dpAll_keep (KeepT.put (s2 _ _ gp1)) _ _ (noList_m3 ms) (dpAll_same s2 _ _ dp1)) ?_
          refine .tup (xs := [.int line, .int ((n : Int) - begin), .str (cutS z (some (n : Int)) (some ((n + 1 + (r.takeWhile (goes c)).length : Nat) : Int)))]) (sqT ((upd_ne net.symm).trans upd_same)) ?_
          rw [cut_mid (by omega) (by omega)]
          have e : n + 1 + (r.takeWhile (goes c)).length - n = (r.takeWhile (goes c)).length + 1 := by omega
          rw [e, hd, List.take_succ_cons, tw_take]
          exact .cons (.int _) (.cons (.int _) (.cons (.str _) .nil))
        · rw [List.length_append]
          show _ + 1 ≤ n + 1
          omega
    · rw [decide_eq_false (show ¬ (n : Int) < (z.length : Int) by omega)]
      refine iteF ?_
      have e : n = z.length := by omega
      refine ⟨.ref p, rfl, p, vs, rfl, .inl ⟨sqL gp, fun l nl => q _ l (sm.trans (same_new nl)) ?_⟩⟩
      have hd : z.cps.toList.drop n = [] := by
        rw [e]
        exact List.drop_length
      rw [hd, M_nil, List.append_nil] at hM
      rw [hM]
      exact .tup (sqT upd_same) (dpAll_same (same_new nl) _ _ dp)
end
end K5
namespace K5
open PySem PySem.Spec PyProof.Rows L2 Gd
theorem if_out {c : TT} {t u : TS} {D : Ends} {σ : L2.St} {G : Hp} (R : Bool) (h1 : ∀ B : Bool → Hp → Prop, (∀ G', Same G G' → B R G') → c σ G B) (h2 : ∀ G', Same G G' → if R = true then t D σ G' else u D σ G') : tIfS c t u D σ G := h1 _ h2
theorem seq_out {t u : TS} {D : Ends} {σ : L2.St} {G : Hp} (R : L2.St → Hp → Prop) (h1 : ∀ N : L2.St → Hp → Prop, (∀ σ' G', R σ' G' → N σ' G') → t { D with nx := N } σ G) (h2 : ∀ σ' G', R σ' G' → u D σ' G') : tSeq t u D σ G := h1 (u D) h2
theorem for_str {x : Str} {g : TG} {tb : TS} {D : Ends} {σ : L2.St} {H : Hp} (Pv : Nat → L2.St → Hp → Prop) (h0 : Pv 0 σ H)
    (hs : ∀ i c σ H, x.cps.toList[i]? = some c → Pv i σ H → g (.str ⟨#[c]⟩) σ H fun σ2 H2 => tb { D with nx := Pv (i + 1), ct := Pv (i + 1), bk := D.nx } σ2 H2) (hd : ∀ σ H, Pv x.cps.toList.length σ H → D.nx σ H) :
    ∃ W : Nat → Nat → L2.St → Hp → Prop, (∃ m, W 0 m σ H) ∧ ∀ i m σ H, W i m σ H →
      ((Its x).stop i H ∧ D.nx σ H) ∨ ((Its x).go i H ∧ ∃ N : L2.St → Hp → Prop, (∀ σ' H', N σ' H' → ∃ m', m' < m ∧ W (i + 1) m' σ' H') ∧ ∀ v H', (Its x).yld i H v H' → g v σ H' fun σ2 H2 => tb { D with nx := N, ct := N, bk := D.nx } σ2 H2) := by
  refine ⟨fun i m σ H => m = x.cps.toList.length - i ∧ i ≤ x.cps.toList.length ∧ Pv i σ H, ⟨_, rfl, Nat.zero_le _, h0⟩, fun i m σ H hw => ?_⟩
  obtain ⟨rfl, hi, hp⟩ := hw
  by_cases hlt : i < x.cps.toList.length
  · refine .inr ⟨by show i < x.cps.size; simpa using hlt, Pv (i + 1), fun σ' H' hp' => ⟨_, by omega, rfl, hlt, hp'⟩, fun v H' hy => ?_⟩
    obtain ⟨rfl, c, hc, rfl⟩ := hy
    exact hs i c σ _ (by simpa using hc) hp
  · have e : i = x.cps.toList.length := by omega
    subst e
    exact .inl ⟨by show x.cps.size ≤ _; simp, hd σ H hp⟩
theorem But.seqL {K : PySem.W.Frag} {h l p : Addr} {H G : Hp} {xs : List V} (b : But h l H G) (h1 : p ≠ h) (h2 : p ≠ l) (e : SqL K H p xs) : SqL K G p xs := by
  rcases e with (z | ⟨o, z⟩) | z
  · exact .inl (.inl (b _ _ h1 h2 z))
  · exact .inl (.inr ⟨o, b _ _ h1 h2 z⟩)
  · exact .inr z
section
variable {P : Program} {w : World} {K : PySem.W.Frag} {mg : Str → Option Value} {base : Heap}
/-! ### _law_pick -/
def spPick (K : PySem.W.Frag) : Sp := fun vs H Q _ => ∃ (h l : Addr) (L : List Int) (st : Int) (p : Addr) (xs : List V), vs = [.ref h, .ref p] ∧ Hv H h l L st ∧ SqL K H p xs ∧ p ≠ h ∧ p ≠ l ∧ 0 < xs.length ∧ xs.length < 1000 ∧
  ∀ (G : Hp) (L' : List Int) (st' : Int) (i : Nat) (x : V), But h l H G → Hv G h l L' st' → xs[i]? = some x → Q x G
theorem ok_pick {f fD : Addr} {fd fdD : FuncData} {k : Nat} (F : Fun K "_law_pick" "_law_pick" sPick f fd) (FD : Fun K "_law_draw" "_law_draw" sDraw fD fdD) (bD : Binds K fdD ["heap", "many"] []) (gD : mg "_law_draw" = some (.ref fD))
    (ml : mg "len" = none) (mi : mg "int" = none) : FnOk P w K mg base CX0 (k + 1 + 1) f fd ["heap", "some"] (spPick K) := by
  have GD : FnOk P w K mg base CX0 (k + 1) fD fdD ["heap", "many"] spDraw := ok_draw FD mi
  refine F.ok scPick (fun vs H Q E h => ?_) (fun cdv A outer s H vs Q E hr h => ?_)
  · obtain ⟨h, l, L, st, p, xs, rfl, _⟩ := h
    rfl
  · obtain ⟨h, l, L, st, p, xs, rfl, hv, hs, n1, n2, h0, h1, q⟩ := h
    refine ⟨_, pss_one (ps_ret (pe_ix ix_list (pv 1) (pe_call GD hr (by rfl) gD FD.kp bD .nil pass0 (pa_cons (pv 0) (pa_cons (pe_callB call_len_seq (by rfl) ml PySem.boot_len (pa_cons (pv 1) pa_nil)) pa_nil))) (fun _ _ => rfl))), ?_⟩
    refine ⟨.ref p, rfl, .ref h, rfl, .ref p, rfl, p, xs, rfl, .inl hs, h, l, L, st, xs.length, rfl, hv, by omega, by omega, fun G L' st' r bt hv' r0 r1 => ?_⟩
    obtain ⟨i, rfl⟩ := Int.eq_ofNat_of_zero_le r0
    have hi : i < xs.length := by omega
    exact ⟨p, xs, _, xs[i], rfl, rfl, bt.seqL n1 n2 hs, atI_nat (List.getElem?_eq_getElem hi), q G L' st' i _ bt hv' (List.getElem?_eq_getElem hi)⟩
/-! ### _law_kind -/
def spKind : Sp := fun vs H Q _ => ∃ c : Nat, vs = [.str ⟨#[c]⟩] ∧ Q (.int (kd c : Int)) H
theorem one_a (c : Nat) (s : Str) (n : Nat) (h : s.cps.toList = [n]) : (!decide (([c] : List Nat) < s.cps.toList)) = decide (n ≤ c) := by
  rw [h, lt_one]
  by_cases z : c < n
  · rw [decide_eq_true z, decide_eq_false (by omega)]; rfl
  · rw [decide_eq_false z, decide_eq_true (by omega)]; rfl
theorem one_b (c : Nat) (s : Str) (n : Nat) (h : s.cps.toList = [n]) : (!decide (s.cps.toList < ([c] : List Nat))) = decide (c ≤ n) := by
  rw [h, lt_one]
  by_cases z : n < c
  · rw [decide_eq_true z, decide_eq_false (by omega)]; rfl
  · rw [decide_eq_false z, decide_eq_true (by omega)]; rfl
theorem ok_kind {f : Addr} {fd : FuncData} {k : Nat} (F : Fun K "_law_kind" "_law_kind" sKind f fd) : FnOk P w K mg base CX0 (k + 1) f fd ["sign"] spKind := by
  refine F.ok scKind (fun vs H Q E h => ?_) (fun cdv A outer s H vs Q E hr h => ?_)
  · obtain ⟨c, rfl, _⟩ := h
    rfl
  · obtain ⟨c, rfl, q⟩ := h
    refine ⟨_, pss_cons (ps_if (pt_chain op_le_str op_le_str pe_str (pv 0) pe_str) (pss_one (ps_ret pe_int)) pss_nil)
      (pss_one (ps_ret (pe_ifExp (pt_chain op_le_str op_le_str pe_str (pv 0) pe_str) pe_int pe_int))), ?_⟩
    have ea : (Str.ofString "a").cps.toList = [97] := by decide +kernel
    have ez : (Str.ofString "z").cps.toList = [122] := by decide +kernel
    have e0 : (Str.ofString "0").cps.toList = [48] := by decide +kernel
    have e9 : (Str.ofString "9").cps.toList = [57] := by decide +kernel
    have key2 : ∀ B : V → Hp → Prop, B (.int (if isD c then 2 else 0)) H → tIf (tTest (tChain (fun x y H Q => ∃ i j, x = .str i ∧ y = .str j ∧ Q (.bl (!decide (j.cps.toList < i.cps.toList))) H) (fun x y H Q => ∃ i j, x = .str i ∧ y = .str j ∧ Q (.bl (!decide (j.cps.toList < i.cps.toList))) H) (tC (.str (Str.ofString "0"))) (tVar 0) (tC (.str (Str.ofString "9"))))) (tC (.int 2)) (tC (.int 0)) [some (.str ⟨#[c]⟩)] H B := by
      intro B hB
      refine ⟨_, rfl, _, _, rfl, rfl, _, rfl, ?_⟩
      rw [one_a c _ 48 e0]
      by_cases h1 : 48 ≤ c
      · rw [decide_eq_true h1]
        refine iteT ⟨_, _, rfl, rfl, _, rfl, ?_⟩
        rw [one_b c _ 57 e9]
        by_cases h2 : c ≤ 57
        · rw [decide_eq_true h2]
          refine iteT ?_
          rw [if_pos (show isD c = true from decide_eq_true ⟨h1, h2⟩)] at hB
          exact hB
        · rw [decide_eq_false h2]
          refine iteF ?_
          rw [if_neg (show ¬ isD c = true from fun z => h2 (of_decide_eq_true z).2)] at hB
          exact hB
      · rw [decide_eq_false h1]
        refine iteF ⟨_, rfl, iteF ?_⟩
        rw [if_neg (show ¬ isD c = true from fun z => h1 (of_decide_eq_true z).1)] at hB
        exact hB
    have fin : isL c = false → Q (.int (if isD c then 2 else 0)) H := fun hL => by
      have e : (kd c : Int) = if isD c then 2 else 0 := by
        unfold kd
        rw [hL, if_neg Bool.false_ne_true]
        split <;> rfl
      rw [← e]
      exact q
    refine ⟨_, rfl, _, _, rfl, rfl, _, rfl, ?_⟩
    rw [one_a c _ 97 ea]
    by_cases h1 : 97 ≤ c
    · rw [decide_eq_true h1]
      refine iteT ⟨_, _, rfl, rfl, _, rfl, ?_⟩
      rw [one_b c _ 122 ez]
      by_cases h2 : c ≤ 122
      · rw [decide_eq_true h2]
        refine iteT ?_
        have e : kd c = 1 := kd_L (decide_eq_true ⟨h1, h2⟩)
        rw [e] at q
        exact q
      · rw [decide_eq_false h2]
        refine iteF ?_
        exact key2 _ (fin (decide_eq_false fun z => h2 z.2))
    · rw [decide_eq_false h1]
      refine iteF ⟨_, rfl, iteF ?_⟩
      exact key2 _ (fin (decide_eq_false fun z => h1 z.1))
end
end K5
namespace K5
open PySem PySem.Spec PyProof.Rows L2 Gd
def q4 (q : Qk) : PyData := .tuple [.int q.1, .int q.2.1, .str (sOf q.2.2.1), .int (q.2.2.2 : Int)]
def FineQ (n : Nat) (qs : List Qk) : Prop := ∀ q ∈ qs, (∀ c ∈ q.2.2.1, c < 1000) ∧ q.2.2.1.length ≤ n
theorem noList_q4 (qs : List Qk) : noListAll (qs.map q4) = true := noListAll_mem fun d hd => by
  obtain ⟨q, _, rfl⟩ := List.mem_map.mp hd
  rfl
theorem shaped_q4 {n : Nat} {qs : List Qk} (h : FineQ n qs) : SeqAt.shaped (.list (qs.map q4)) = true := by
  have lay : ∀ qs : List Qk, FineQ n qs → PyData.canLayAll0 (qs.map q4) = true := by
    intro qs
    induction qs with
    | nil => intro _; rfl
    | cons q r ih =>
      intro h
      have hq := (h q List.mem_cons_self).1
      have e1 : (PyData.str (sOf q.2.2.1)).canLay0 = true := by
        show (sOf q.2.2.1).cps.all _ = true
        rw [Array.all_eq_true']
        intro c hc
        have := hq c (by simpa [sOf] using hc)
        exact decide_eq_true (by omega)
      have e2 : (q4 q).canLay0 = true := by
        simp only [q4, PyData.canLay0, PyData.canLayAll0, Bool.and_true, Bool.true_and]
        simpa [PyData.canLay0] using e1
      rw [List.map_cons, PyData.canLayAll0, e2, ih fun x hx => h x (List.mem_cons_of_mem _ hx)]
      rfl
  have dep : ∀ qs : List Qk, PyData.depthAll (qs.map q4) ≤ 1 := by
    intro qs
    induction qs with
    | nil => simp [PyData.depthAll]
    | cons q r ih =>
      have : (q4 q).depth = 1 := by simp [q4, PyData.depth, PyData.depthAll]
      rw [List.map_cons, PyData.depthAll, this]
      omega
  unfold SeqAt.shaped
  rw [PyData.canLay0, lay qs h]
  have := dep qs
  exact decide_eq_true (by rw [PyData.depth]; omega)
theorem q4_inv {K : PySem.W.Frag} {H : Hp} {v : V} {q : Qk} (h : Dp K H v (q4 q)) : ∃ t, v = .ref t ∧ SqT K H t [.int q.1, .int q.2.1, .str (sOf q.2.2.1), .int (q.2.2.2 : Int)] := by
  cases h with
  | tup hs ha =>
    refine ⟨_, rfl, ?_⟩
    cases ha with
    | cons a1 r =>
    cases r with
    | cons a2 r =>
    cases r with
    | cons a3 r =>
    cases r with
    | cons a4 r =>
    cases r
    cases a1
    cases a2
    cases a3
    cases a4
    exact hs
theorem q4_mk {K : PySem.W.Frag} {H : Hp} {t : Addr} (q : Qk) (h : SqT K H t [.int q.1, .int q.2.1, .str (sOf q.2.2.1), .int (q.2.2.2 : Int)]) : Dp K H (.ref t) (q4 q) :=
  .tup h (.cons (.int _) (.cons (.int _) (.cons (.str _) (.cons (.int _) .nil))))
theorem dpAll_last {K : PySem.W.Frag} {H : Hp} : ∀ {ds : List PyData} {d : PyData} {vs : List V}, DpAll K H vs (ds ++ [d]) → ∃ us v, vs = us ++ [v] ∧ DpAll K H us ds ∧ Dp K H v d
  | [], d, vs, h => by
    cases h with
    | cons a r => cases r; exact ⟨[], _, rfl, .nil, a⟩
  | x :: r, d, vs, h => by
    cases h with
    | cons a t =>
      obtain ⟨us, v, e, h1, h2⟩ := dpAll_last t
      exact ⟨_ :: us, v, by rw [e]; rfl, .cons a h1, h2⟩
theorem ix_last {α : Type} (us : List α) (v : α) : ixN (us ++ [v]).length (-1) = some us.length := by
  unfold ixN
  rw [List.length_append, if_neg (by decide), if_pos (by show -((us.length + 1 : Nat) : Int) ≤ -1; omega)]
  show some (-1 + ((us.length + 1 : Nat) : Int)).toNat = _
  congr 1
  omega
theorem set_last {α : Type} (us : List α) (v u : α) : (us ++ [v]).set us.length u = us ++ [u] := by
  rw [List.set_append_right _ _ (Nat.le_refl _), Nat.sub_self]
  rfl
theorem str_snoc (m : List Nat) (c : Nat) : sOf m ++ (⟨#[c]⟩ : Str) = sOf (m ++ [c]) := by
  show (⟨m.toArray ++ #[c]⟩ : Str) = ⟨(m ++ [c]).toArray⟩
  simp
theorem sOf_len (m : List Nat) : (sOf m).length = m.length := by
  show m.toArray.size = m.length
  simp
theorem fineQ_step {n : Nat} {s : Ls} {c : Nat} (h : FineQ n s.found) (hc : c < 1000) : FineQ (n + 1) (stepF s c) := by
  have up : FineQ (n + 1) s.found := fun q hq => ⟨(h q hq).1, Nat.le_succ_of_le (h q hq).2⟩
  unfold stepF
  split
  · unfold grown
    cases hl : s.found.getLast? with
    | none => exact up
    | some q =>
      obtain ⟨ln, a, m, k⟩ := q
      intro x hx
      rcases List.mem_append.mp hx with z | z
      · exact up x ((List.dropLast_sublist _).mem z)
      · have hm := h _ (List.mem_of_getLast? hl)
        obtain rfl : x = _ := by simpa using z
        refine ⟨fun y hy => ?_, by show (m ++ [c]).length ≤ n + 1; rw [List.length_append]; exact Nat.succ_le_succ hm.2⟩
        rcases List.mem_append.mp hy with e | e
        · exact hm.1 y e
        · obtain rfl : y = c := by simpa using e
          exact hc
  · split
    · exact up
    · intro x hx
      rcases List.mem_append.mp hx with z | z
      · exact up x z
      · obtain rfl : x = _ := by simpa using z
        refine ⟨fun y hy => ?_, by show [c].length ≤ n + 1; simp⟩
        obtain rfl : y = c := by simpa using hy
        exact hc
theorem eqv_nilD (ds : List PyData) : PyData.eqv (.list ds) (.list []) = ds.isEmpty := by
  cases ds with
  | nil => rfl
  | cons x r => simp [PyData.eqv, PyData.eqvAll]
theorem sg_ne {c n : Nat} {s : Str} (e : s = ⟨#[n]⟩) (h : c ≠ n) : ¬ V.str ⟨#[c]⟩ = V.str s := fun z => h (by
  rw [e] at z
  have e2 : (⟨#[c]⟩ : Str) = ⟨#[n]⟩ := V.str.inj z
  injection e2 with e2
  simpa using e2)
theorem z_nl : Str.ofString "\n" = ⟨#[10]⟩ := by decide +kernel
theorem z_bl : Str.ofString " " = ⟨#[32]⟩ := by decide +kernel
section
variable {P : Program} {w : World} {K : PySem.W.Frag} {mg : Str → Option Value} {base : Heap}
def spLMarks (K : PySem.W.Frag) : Sp := fun vs H Q _ => ∃ z : Str, vs = [.str z] ∧ z.length ≤ 1000000 ∧ (∀ c ∈ z.cps.toList, c < 1000) ∧
  ∀ G p us, Same H G → H p = none → G p = some (.lst us) → DpAll K G us ((M z.cps.toList 0 0).map m3) → Q (.ref p) G
theorem ok_lmarks {f fK : Addr} {fd fdK : FuncData} {k : Nat} (F : Fun K "_law_marks" "_law_marks" sLMarks f fd) (FK : Fun K "_law_kind" "_law_kind" sKind fK fdK) (bK : Binds K fdK ["sign"] []) (gK : mg "_law_kind" = some (.ref fK))
    (ml : mg "len" = none) : FnOk P w K mg base CX0 (k + 1 + 1) f fd ["text"] (spLMarks K) := by
  have GK : FnOk P w K mg base CX0 (k + 1) fK fdK ["sign"] spKind := ok_kind FK
  refine F.ok scLMarks (fun vs H Q E h => ?_) (fun cdv A outer s H vs Q E hr h => ?_)
  · obtain ⟨z, rfl, _⟩ := h
    rfl
  · obtain ⟨z, rfl, hz, hc9, q⟩ := h
    refine ⟨_, pss_cons (ps_par3 (i := 1) (j := 2) (l := 3) rfl scLMarks.nd rfl rfl rfl (by decide) (by decide) (by decide) rfl rfl rfl (pa_cons (pe_lst pa_nil) (pa_cons pe_int (pa_cons pe_int pa_nil))) (by rfl))
      (pss_cons (ps_for PassesOwn.never rfl (pi_str (pv 0)) (pg_name (i := 4) scLMarks.nd rfl (.inl rfl))
        (pss_cons (ps_set (i := 5) scLMarks.nd rfl (.inl rfl) (pe_call GK hr (by rfl) gK FK.kp bK .nil pass0 (pa_cons (pv 4) pa_nil)))
        (pss_cons (ps_if (PW.pt (pw_and (pt_cmpR op_gt (pv 5) pe_int (nomark _)) (pw_and (pt_cmpR (op_neD hr.units) (pv 1) (pe_lst pa_nil) (nomark _))
            (pw_and (pt_cmpR op_eq (pe_ix ix_tup (pe_ix ix_list (pv 1) (pe_un un_neg pe_int) (fun _ _ => rfl)) pe_int (fun _ _ => rfl)) (pv 5) (nomark _))
            (pw_and1 (pt_cmpR (op_eqD hr.units) (pe_slice sl_tup (pe_ix ix_list (pv 1) (pe_un un_neg pe_int) (fun _ _ => rfl)) po_none (po_some pe_int))
              (pe_tup (pa_cons (pv 2) (pa_cons (pe_op op_sub (pv 3) (pe_callB call_len_str (by rfl) ml PySem.boot_len (pa_cons (pe_ix ix_tup (pe_ix ix_list (pv 1) (pe_un un_neg pe_int) (fun _ _ => rfl)) pe_int (fun _ _ => rfl)) pa_nil))) pa_nil))) (nomark _)))))))
          (pss_one (ps_asg (pe_op op_catT (pe_slice sl_tup (pe_ix ix_list (pv 1) (pe_un un_neg pe_int) (fun _ _ => rfl)) po_none (po_some pe_int))
              (pe_tup (pa_cons (pe_op op_add_str (pe_ix ix_tup (pe_ix ix_list (pv 1) (pe_un un_neg pe_int) (fun _ _ => rfl)) pe_int (fun _ _ => rfl)) (pv 4)) (pa_cons (pv 5) pa_nil))))
            (pg_sub (pv 1) (pe_un un_neg pe_int) set_list)))
          (pss_one (ps_if (pt_cmpR op_ne (pv 4) pe_str (nomark _))
            (pss_one (ps_expr (pe_bm PySem.F.plainAttrs_list PySem.F.slot_list_append PySem.F.type_list_append mt_append (pv 1) (pa_cons (pe_tup (pa_cons (pv 2) (pa_cons (pv 3) (pa_cons (pv 4) (pa_cons (pv 5) pa_nil))))) pa_nil)))) pss_nil)))
        (pss_one (ps_asg (pe_ifExp (pt_cmpR op_eq (pv 4) pe_str (nomark _)) (pe_tup (pa_cons (pe_op op_add (pv 2) pe_int) (pa_cons pe_int pa_nil))) (pe_tup (pa_cons (pv 2) (pa_cons (pe_op op_add (pv 3) pe_int) pa_nil))))
          (pg_tup rfl (pgs_cons (pg_name (i := 2) scLMarks.nd rfl (.inl rfl)) (pgs_cons (pg_name (i := 3) scLMarks.nd rfl (.inl rfl)) pgs_nil))))))))
      (pss_one (ps_ret (pe_lc (own := [("mark", 6)]) (g := gName 6) (tt := tYes) rfl scLMarks.nd (pi_list (pv 1)) (blkOk_by (own := [("mark", 6)]) (N := ["text", "found", "line", "at", "sign", "kind", "mark"]) (sc := defScope sLMarks) (by decide +kernel))
        (fun _ _ _ _ _ => pg_name (i := 6) scLMarks.nd rfl (Or.inl rfl)) (fun _ _ _ _ _ => pts_nil) (fun _ _ _ _ _ => pe_slice (r := rSlT K) sl_tup (pv 6) po_none (po_some pe_int)))))), ?_⟩
    refine ⟨Nat.zero_le _, fun p np => ⟨_, _, _, rfl, ?_⟩⟩
    refine ⟨.str z, rfl, z, rfl, for_str (fun i σ G => ∃ (vs : List V) (y4 y5 : Option V), σ = [some (.str z), some (.ref p), some (.int ((z.cps.toList.take i).foldl step ⟨[], 0, 0⟩).line), some (.int ((z.cps.toList.take i).foldl step ⟨[], 0, 0⟩).at_), y4, y5, none] ∧
        Same H G ∧ G p = some (.lst vs) ∧ DpAll K G vs (((z.cps.toList.take i).foldl step ⟨[], 0, 0⟩).found.map q4) ∧ FineQ i ((z.cps.toList.take i).foldl step ⟨[], 0, 0⟩).found ∧ ((z.cps.toList.take i).foldl step ⟨[], 0, 0⟩).found.length ≤ i)
      ⟨[], none, none, rfl, same_new np, upd_same, .nil, fun q hq => absurd hq List.not_mem_nil, Nat.le_refl _⟩ (fun i c σ G hc hP => ?_) (fun σ G hP => ?_)⟩
    · obtain ⟨vs, y4, y5, rfl, sm, gp, dp, fq, fl⟩ := hP
      have hnext : (z.cps.toList.take (i + 1)).foldl step ⟨[], 0, 0⟩ = step ((z.cps.toList.take i).foldl step ⟨[], 0, 0⟩) c := by
        rw [List.take_add_one, hc, List.foldl_append]
        rfl
      simp only [hnext]
      generalize (z.cps.toList.take i).foldl step ⟨[], 0, 0⟩ = S at dp fq fl ⊢
      have hi : i < z.length := (List.getElem?_eq_some_iff.mp hc).1
      have c9 : c < 1000 := hc9 c (List.mem_of_getElem? hc)
      -- kind = _law_kind(sign)
      refine ⟨_, rfl, c, rfl, ?_⟩
      dsimp only [gName]
      refine seq_out (t := tIfS _ _ _) (fun σ' G' => ∃ us : List V, σ' = [some (.str z), some (.ref p), some (.int S.line), some (.int S.at_), some (.str ⟨#[c]⟩), some (.int (kd c : Int)), none] ∧
        Same H G' ∧ G' p = some (.lst us) ∧ DpAll K G' us ((stepF S c).map q4)) (fun N hN => ?_) (fun σ' G' hR => ?_)
      · refine if_out (meets S c) (fun B hB => ?_) (fun G' sG => ?_)
        · -- the test
          refine ⟨_, rfl, _, _, rfl, rfl, _, rfl, ?_⟩
          by_cases hk : kd c = 0
          · rw [decide_eq_false (show ¬ (0 : Int) < (kd c : Int) by omega)]
            refine iteF ?_
            have e : meets S c = false := by
              unfold meets
              cases S.found.getLast? with
              | none => rfl
              | some x => exact decide_eq_false fun z => z.1 hk
            rw [e] at hB
            exact hB _ (Same.refl _)
          · rw [decide_eq_true (show (0 : Int) < (kd c : Int) by omega)]
            refine iteT ?_
            refine ⟨.ref p, rfl, Nat.zero_le _, fun p2 np2 => ?_⟩
            have s2 : Same G (upd G p2 (.lst [])) := same_new np2
            refine ⟨.list (S.found.map q4), .list [], .lst (sqL (s2 _ _ gp)) (dpAll_same s2 _ _ dp), .lst (sqL upd_same) .nil, shaped_q4 fq, rfl, _, rfl, ?_⟩
            rw [eqv_nilD]
            rcases List.eq_nil_or_concat S.found with e0 | ⟨fs, q0, e0⟩
            · rw [e0]
              refine iteF ?_
              have e : meets S c = false := by
                unfold meets
                rw [e0]
                rfl
              rw [e] at hB
              exact hB _ s2
            · obtain ⟨ln, a, m, kq⟩ := q0
              rw [List.concat_eq_append] at e0
              have em : meets S c = decide (kd c ≠ 0 ∧ kq = kd c ∧ ln = S.line ∧ a = S.at_ - m.length) := by
                unfold meets
                rw [e0, List.getLast?_concat]
              rw [e0, List.map_append] at dp
              obtain ⟨us, v, rfl, d1, d2⟩ := dpAll_last dp
              obtain ⟨t, rfl, ht⟩ := q4_inv d2
              have hm := fq _ (by rw [e0]; exact List.mem_append_right _ List.mem_cons_self)
              have hml : m.length ≤ i := hm.2
              have em1 : (!(S.found.map q4).isEmpty) = true := by
                rw [e0, List.map_append]
                cases fs.map q4 <;> rfl
              rw [em1]
              refine iteT ?_
              -- found[-1][3] == kind
              refine ⟨.ref p, rfl, 1, rfl, p, _, -1, .ref t, rfl, rfl, sqL (s2 _ _ gp), atI_last us _, t, _, 3, .int (kq : Int), rfl, rfl, same_seqT s2 ht, atI_nat (j := 3) rfl, _, rfl, rfl, _, rfl, ?_⟩
              by_cases hkq : kq = kd c
              · rw [decide_eq_true (show V.int (kq : Int) = V.int (kd c : Int) by rw [hkq])]
                refine iteT ?_
                -- found[-1][:2] == (line, at - len(found[-1][2]))
                refine ⟨.ref p, rfl, 1, rfl, p, _, -1, .ref t, rfl, rfl, sqL (s2 _ _ gp), atI_last us _, 2, rfl, t, _, rfl, same_seqT s2 ht, (by intro z; exact absurd (show (2 : Nat) = 4 from z.2) (by decide)), fun p3 np3 => ?_⟩
                have s3 := s2.trans (same_new (o := .tup [.int ln, .int a]) np3)
                refine ⟨_, rfl, _, rfl, .ref p, rfl, 1, rfl, p, _, -1, .ref t, rfl, rfl, sqL (s3 _ _ gp), atI_last us _, t, _, 2, .str (sOf m), rfl, rfl, same_seqT s3 ht, atI_nat (j := 2) rfl, sOf m, rfl, by rw [sOf_len]; exact Nat.le_trans hml (Nat.le_trans (Nat.le_of_lt hi) (size_ok hz)), _, _, rfl, rfl,
                  by show 2 ≤ sizeLine; decide, fun p4 np4 => ?_⟩
                refine ⟨.tuple [.int ln, .int a], .tuple [.int S.line, .int (S.at_ - (sOf m).length)], .tup (sqT ((upd_ne (ne_of_none upd_same np4)).trans upd_same)) (.cons (.int _) (.cons (.int _) .nil)), .tup (sqT upd_same) (.cons (.int _) (.cons (.int _) .nil)), rfl, rfl, _, rfl, ?_⟩
                have ev : PyData.eqv (.tuple [.int ln, .int a]) (.tuple [.int S.line, .int (S.at_ - (sOf m).length)]) = meets S c := by
                  rw [em, sOf_len]
                  simp only [PyData.eqv, PyData.eqvAll, Bool.and_true]
                  by_cases h1 : ln = S.line
                  · by_cases h2 : a = S.at_ - m.length
                    · rw [decide_eq_true ⟨hk, hkq, h1, h2⟩, h1, h2]
                      simp
                    · rw [decide_eq_false fun z => h2 z.2.2.2]
                      simp [h2]
                  · rw [decide_eq_false fun z => h1 z.2.2.1]
                    simp [h1]
                rw [ev]
                exact hB _ (s3.trans (same_new np4))
              · rw [decide_eq_false (show ¬ V.int (kq : Int) = V.int (kd c : Int) from fun z => hkq (by have := V.int.inj z; omega))]
                refine iteF ?_
                have e : meets S c = false := by
                  rw [em]
                  exact decide_eq_false fun z => hkq z.2.1
                rw [e] at hB
                exact hB _ s2
        · have gp' := sG _ _ gp
          have dp' := dpAll_same sG _ _ dp
          have sm' := sm.trans sG
          cases hm : meets S c with
          | true =>
            refine iteT ?_
            rcases List.eq_nil_or_concat S.found with e0 | ⟨fs, q0, e0⟩
            · exfalso
              unfold meets at hm
              rw [e0] at hm
              cases hm
            · obtain ⟨ln, a, m, kq⟩ := q0
              rw [List.concat_eq_append] at e0
              have hmm := fq _ (by rw [e0]; exact List.mem_append_right _ List.mem_cons_self)
              have hml : m.length ≤ i := hmm.2
              rw [e0, List.map_append] at dp'
              obtain ⟨us, v, rfl, d1, d2⟩ := dpAll_last dp'
              obtain ⟨t, rfl, ht⟩ := q4_inv d2
              have es : stepF S c = fs ++ [(ln, a, m ++ [c], kd c)] := by
                unfold stepF grown
                rw [if_pos hm, e0, List.getLast?_concat]
                simp only [List.dropLast_concat]
              -- found[-1] = found[-1][:2] + (found[-1][2] + sign, kind)
              refine ⟨.ref p, rfl, 1, rfl, p, _, -1, .ref t, rfl, rfl, sqL gp', atI_last us _, 2, rfl, t, _, rfl, ht, (by intro z; exact absurd (show (2 : Nat) = 4 from z.2) (by decide)), fun p3 np3 => ?_⟩
              have s3 : Same G' _ := same_new (o := .tup [.int ln, .int a]) np3
              refine ⟨.ref p, rfl, 1, rfl, p, _, -1, .ref t, rfl, rfl, sqL (s3 _ _ gp'), atI_last us _, t, _, 2, .str (sOf m), rfl, rfl, same_seqT s3 ht, atI_nat (j := 2) rfl, _, rfl, _, _, rfl, rfl,
                by rw [sOf_len]; show m.length + 1 ≤ sizeLine; have := size_ok hz; omega, _, rfl, by show 2 ≤ sizeLine; decide, fun p4 np4 => ?_⟩
              have s4 := s3.trans (same_new (o := .tup [.str (sOf m ++ ⟨#[c]⟩), .int (kd c : Int)]) np4)
              refine ⟨p3, p4, [.int ln, .int a], [.str (sOf m ++ ⟨#[c]⟩), .int (kd c : Int)], rfl, rfl, sqT ((upd_ne (ne_of_none upd_same np4)).trans upd_same), sqT upd_same, (by intro z; cases z), by show 4 ≤ sizeLine; decide, (fun z => by cases z), fun _ p5 np5 => ?_⟩
              have s5 := s4.trans (same_new (o := .tup [.int ln, .int a, .str (sOf m ++ ⟨#[c]⟩), .int (kd c : Int)]) np5)
              refine ⟨.ref p, rfl, 1, rfl, p, _, -1, us.length, rfl, rfl, s5 _ _ gp', ix_last us _, ?_⟩
              rw [set_last]
              have ne5 : p5 ≠ p := (ne_of_none (s4 _ _ gp') np5).symm
              refine hN _ _ ⟨us ++ [.ref p5], rfl, fun b o e => ?_, upd_same, ?_⟩
              · rw [upd_ne (ne_of_none e np)]
                exact s5 _ _ (sm' _ _ e)
              · rw [es, List.map_append]
                refine dpAll_snoc (dpAll_keep (KeepT.put (s5 _ _ gp')) _ _ (noList_q4 fs) (dpAll_same s5 _ _ d1)) ?_
                refine q4_mk (ln, a, m ++ [c], kd c) (sqT ((upd_ne ne5).trans (upd_same.trans ?_)))
                rw [← str_snoc]
                rfl
          | false =>
            refine iteF ?_
            refine ⟨_, rfl, rfl, _, rfl, ?_⟩
            by_cases h32 : c = 32
            · subst h32
              rw [decide_eq_true (show V.str ⟨#[32]⟩ = V.str (Str.ofString " ") by rw [z_bl])]
              refine iteF ?_
              have es : stepF S 32 = S.found := by
                unfold stepF
                rw [hm]
                rfl
              rw [← es] at dp'
              exact hN _ _ ⟨vs, rfl, sm', gp', dp'⟩
            · rw [decide_eq_false (sg_ne z_bl h32)]
              refine iteT ?_
              have es : stepF S c = S.found ++ [(S.line, S.at_, [c], kd c)] := by
                unfold stepF
                rw [hm, if_neg Bool.false_ne_true, if_neg h32]
              refine ⟨.ref p, rfl, .inl ⟨rfl, _, sqL gp'⟩, _, rfl, _, rfl, _, rfl, _, rfl, by show 4 ≤ sizeLine; decide, fun p3 np3 => ?_⟩
              have s3 : Same G' _ := same_new (o := .tup [.int S.line, .int S.at_, .str ⟨#[c]⟩, .int (kd c : Int)]) np3
              have ne3 : p3 ≠ p := (ne_of_none gp' np3).symm
              refine ⟨p, vs, _, rfl, rfl, s3 _ _ gp', ?_, hN _ _ ⟨vs ++ [.ref p3], rfl, fun b o e => ?_, upd_same, ?_⟩⟩
              · rw [dpAll_len dp, List.length_map]
                exact Nat.lt_of_le_of_lt (Nat.le_trans fl (Nat.le_of_lt hi)) (Nat.lt_of_le_of_lt hz (by decide))
              · rw [upd_ne (ne_of_none e np)]
                exact s3 _ _ (sm' _ _ e)
              · rw [es, List.map_append]
                refine dpAll_snoc (dpAll_keep (KeepT.put (s3 _ _ gp')) _ _ (noList_q4 _) (dpAll_same s3 _ _ dp')) ?_
                exact q4_mk (S.line, S.at_, [c], kd c) (sqT ((upd_ne ne3).trans upd_same))
      · -- line, at = ..
        obtain ⟨us, rfl, sm', gp', dp'⟩ := hR
        have fq' := fineQ_step fq c9
        have fl' : (stepF S c).length ≤ i + 1 := by
          unfold stepF grown
          split
          · cases hl : S.found.getLast? with
            | none => exact Nat.le_succ_of_le fl
            | some x =>
              obtain ⟨ln, a, m, kq⟩ := x
              show (S.found.dropLast ++ [_]).length ≤ i + 1
              rw [List.length_append, List.length_dropLast]
              show _ - 1 + 1 ≤ i + 1
              omega
          · split
            · exact Nat.le_succ_of_le fl
            · rw [List.length_append]
              exact Nat.succ_le_succ fl
        refine ⟨_, rfl, rfl, _, rfl, ?_⟩
        by_cases h10 : c = 10
        · subst h10
          rw [decide_eq_true (show V.str ⟨#[10]⟩ = V.str (Str.ofString "\n") by rw [z_nl])]
          refine iteT ⟨_, rfl, _, _, rfl, rfl, by show 2 ≤ sizeLine; decide, fun p3 np3 => ?_⟩
          have s3 : Same G' _ := same_new (o := .tup [.int (S.line + 1), .int 0]) np3
          refine ⟨p3, _, rfl, sqT upd_same, rfl, _, _, rfl, _, _, rfl, rfl, ?_⟩
          exact ⟨us, _, _, rfl, sm'.trans s3, s3 _ _ gp', dpAll_same s3 _ _ dp', fq', fl'⟩
        · rw [decide_eq_false (sg_ne z_nl h10)]
          refine iteF ⟨_, rfl, _, rfl, _, _, rfl, rfl, by show 2 ≤ sizeLine; decide, fun p3 np3 => ?_⟩
          have s3 : Same G' _ := same_new (o := .tup [.int S.line, .int (S.at_ + 1)]) np3
          refine ⟨p3, _, rfl, sqT upd_same, rfl, _, _, rfl, _, _, rfl, rfl, ?_⟩
          have e1 : (step S c).line = S.line := if_neg h10
          have e2 : (step S c).at_ = S.at_ + 1 := if_neg h10
          rw [e1, e2]
          exact ⟨us, _, _, rfl, sm'.trans s3, s3 _ _ gp', dpAll_same s3 _ _ dp', fq', fl'⟩
    · obtain ⟨vs, y4, y5, rfl, sm, gp, dp, fq, fl⟩ := hP
      have hM := law_is _ z.cps.toList ⟨[], 0, 0⟩ (Nat.le_refl _) (fun _ _ _ _ h => by cases h) (fun _ _ => rfl)
      rw [List.take_length] at dp fq fl ⊢
      generalize z.cps.toList.foldl step ⟨[], 0, 0⟩ = S at dp fq fl hM ⊢
      have hM2 : M z.cps.toList 0 0 = S.found.map cut3 := by
        rw [hM]
        rfl
      refine ⟨.ref p, rfl, p, rfl, ⟨_, sqL gp⟩, fun D nD => lc_list (K := K) (a := p) (xs := vs) (fun i G' => Same G G' ∧ ∃ us : List V, G' D = some (.lst us) ∧ DpAll K G' us ((S.found.take i).map (fun q => m3 (cut3 q))) ∧ us.length ≤ i)
        ⟨same_new nD, [], upd_same, .nil, Nat.le_refl _⟩ (fun i G' _ hP => sqL (hP.1 _ _ gp)) (fun i x G' hx hP => ?_) (fun G' hP => ?_)⟩
      · obtain ⟨s1, us, gD, du, ul⟩ := hP
        have hlen := dpAll_len dp
        rw [List.length_map] at hlen
        have hi : i < vs.length := (List.getElem?_eq_some_iff.mp hx).1
        have hf : S.found[i]? = some (S.found[i]'(by omega)) := List.getElem?_eq_getElem (by omega)
        generalize S.found[i]'(by omega) = qi at hf
        obtain ⟨v, hv, dv⟩ := dpAll_get dp (i := i) (d := q4 qi) (by rw [List.getElem?_map, hf]; rfl)
        have ex : v = x := Option.some.inj (hv.symm.trans hx)
        subst ex
        obtain ⟨t, rfl, ht⟩ := q4_inv dv
        refine ⟨rfl, ?_⟩
        dsimp only [tYes]
        rw [if_pos rfl]
        refine ⟨.ref t, rfl, 3, rfl, t, _, rfl, same_seqT s1 ht, (by intro z; exact absurd (show (3 : Nat) = 4 from z.2) (by decide)), fun p3 np3 => ?_⟩
        have s3 : Same G' _ := same_new (o := .tup [.int qi.1, .int qi.2.1, .str (sOf qi.2.2.1)]) np3
        have ne3 : p3 ≠ D := (ne_of_none gD np3).symm
        refine ⟨us, s3 _ _ gD, ?_, fun b o e => ?_, us ++ [.ref p3], upd_same, ?_, ?_⟩
        · exact Nat.lt_of_le_of_lt (Nat.le_trans ul (Nat.le_of_lt hi)) (by rw [hlen]; exact Nat.lt_of_le_of_lt (Nat.le_trans fl (Nat.le_of_eq (len_list z))) (Nat.lt_of_le_of_lt hz (by decide)))
        · rw [upd_ne (ne_of_none e nD)]
          exact s3 _ _ (s1 _ _ e)
        · rw [List.take_add_one, hf, List.map_append]
          have nl : noListAll ((S.found.take i).map fun q => m3 (cut3 q)) = true := noListAll_mem fun d hd => by
            obtain ⟨q, _, rfl⟩ := List.mem_map.mp hd
            rfl
          refine dpAll_snoc (dpAll_keep (KeepT.put (s3 _ _ gD)) _ _ nl (dpAll_same s3 _ _ du)) ?_
          exact .tup (sqT ((upd_ne ne3).trans upd_same)) (.cons (.int _) (.cons (.int _) (.cons (.str _) .nil)))
        · rw [List.length_append]
          exact Nat.succ_le_succ ul
      · obtain ⟨s1, us, gD, du, ul⟩ := hP
        have hlen := dpAll_len dp
        rw [List.length_map] at hlen
        refine q G' D us (sm.trans s1) (by
          cases e : H D with
          | none => rfl
          | some o => exact nomatch (sm _ _ e).symm.trans nD) gD ?_
        rw [hM2, List.map_map]
        rw [hlen, List.take_length] at du
        exact du
end
end K5
namespace K5
open PySem PySem.Spec PyProof.Rows L2 Gd
theorem fold_mem (c : Nat) (a : Array Nat) : ∀ (n : Nat) (b : Array Nat), c ∈ ((List.replicate n a).foldl (· ++ ·) b).toList → c ∈ b.toList ∨ c ∈ a.toList
  | 0, b, h => .inl h
  | n + 1, b, h => by
    rw [List.replicate_succ, List.foldl_cons] at h
    rcases fold_mem c a n (b ++ a) h with z | z
    · rw [Array.toList_append] at z
      exact List.mem_append.mp z
    · exact .inr z
theorem mul_mem {c : Nat} {x : Str} {i : Int} (h : c ∈ (Txt.mul x i).cps.toList) : c ∈ x.cps.toList := by
  unfold Txt.mul at h
  split at h
  · exact absurd h (by simp [Str.empty])
  · split at h
    · exact h
    · rcases fold_mem c x.cps _ _ h with z | z
      · simp at z
      · exact z
section
variable {X : Cx}
/-- z * i, z a short text -/
theorem op_mulT : OpR X (binaryOp .Mult) (fun x y H Q => ∃ z i, x = .str z ∧ y = .int i ∧ z.length ≤ 16 ∧ 0 ≤ i ∧ i ≤ 1048576 ∧ ∀ u : Str, (u.length : Int) = (z.length : Int) * i → (∀ c ∈ u.cps.toList, c ∈ z.cps.toList) → Q (.str u) H) := by
  intro pins s σ H x y v u Q I rx ry h
  obtain ⟨z, i, rfl, rfl, h1, h2, h3, q⟩ := h
  obtain ⟨t, rfl⟩ := rx
  obtain ⟨t2, rfl⟩ := ry
  exact PySem.W.KXi.mul rfl h1 (by omega) h3 fun t' k _ e => ⟨.str _, H, I.tok k, ⟨t', rfl⟩, q _ (e h2) fun c hc => mul_mem hc⟩
end
section
variable {P : Program} {w : World} {K : PySem.W.Frag} {mg : Str → Option Value} {base : Heap}
/-! ### _law_heap -/
def spHeap (K : PySem.W.Frag) : Sp := fun vs H Q _ => ∃ (a : Addr) (ns : List Int), vs = [.ref a] ∧ SqL K H a (ns.map V.int) ∧ ns.length ≤ 63 ∧
  ∀ (G : Hp) (h l : Addr) (L : List Int) (st : Int), Same H G → H h = none → H l = none → Hv G h l L st → Q (.ref h) G
theorem ok_heap {f : Addr} {fd : FuncData} {k : Nat} (F : Fun K "_law_heap" "_law_heap" sHeap f fd) (ma : mg "abs" = none) (mi : mg "int" = none) : FnOk P w K mg base CX0 (k + 1) f fd ["script"] (spHeap K) := by
  refine F.ok scHeap (fun vs H Q E h => ?_) (fun cdv A outer s H vs Q E hr h => ?_)
  · obtain ⟨a, ns, rfl, _⟩ := h
    rfl
  · obtain ⟨a, ns, rfl, hs, hl, q⟩ := h
    refine ⟨_, pss_cons (ps_par (i := 2) (j := 3) rfl scHeap.nd rfl rfl (by decide) rfl rfl (pa_cons (pe_lc (own := [("cell", 1)]) (g := gName 1) (tt := tYes) rfl scHeap.nd (pi_list (pe_slice sl_list (pv 0) po_none (po_some pe_int)))
          (blkOk_by (own := [("cell", 1)]) (N := ["script", "cell", "cells", "stir"]) (sc := defScope sHeap) (by decide +kernel)) (fun _ _ _ _ _ => pg_name (i := 1) scHeap.nd rfl (Or.inl rfl)) (fun _ _ _ _ _ => pts_nil)
          (fun _ _ _ _ _ => pe_op op_add (pe_op op_mul pe_int (pe_callB call_abs (by rfl) ma (by decide +kernel) (pa_cons (pv 1) pa_nil))) (pe_callTy call_int1 (by rfl) mi (by decide +kernel) (pa_cons (pe_cmpR op_lt (pv 1) pe_int (nomark _)) pa_nil)))) (pa_cons pe_int pa_nil)) (by rfl))
      (pss_cons (ps_for PassesOwn.never rfl (pi_list (pv 2)) (pg_name (i := 1) scHeap.nd rfl (.inl rfl))
        (pss_one (ps_set (i := 3) scHeap.nd rfl (.inl rfl) (pe_op op_mod (pe_callTy call_int1 (by rfl) mi (by decide +kernel) (pa_cons (pe_op op_add (pe_op op_add (pe_op op_mul (pv 3) pe_int) (pe_op op_mod (pe_callTy call_int1 (by rfl) mi (by decide +kernel) (pa_cons (pv 1) pa_nil)) pe_int)) pe_int) pa_nil)) pe_int))))
      (pss_one (ps_ret (pe_lst (pa_cons (pe_revL (pe_lc (own := [("cell", 1)]) (g := gName 1) rfl scHeap.nd (pi_list (pv 2))
          (blkOk_by (own := [("cell", 1)]) (N := ["script", "cell", "cells", "stir"]) (sc := defScope sHeap) (by decide +kernel)) (fun _ _ _ _ _ => pg_name (i := 1) scHeap.nd rfl (Or.inl rfl))
          (fun _ _ _ _ _ => pts_one (pt_cmpR op_ge (pv 1) (pe_op op_pow pe_int pe_int) (nomark _))) (fun _ _ _ _ _ => pv 1))) (pa_cons (pv 3) pa_nil)))))), ?_⟩
    -- script[:60]
    refine ⟨.ref a, rfl, 60, rfl, a, _, rfl, hs, fun p np => ⟨p, rfl, ⟨_, sqL upd_same⟩, fun D nD => ?_⟩⟩
    have s1 : Same H _ := same_new (o := .lst (cutV (ns.map V.int) none (some 60))) np
    have ecut : cutV (ns.map V.int) none (some 60) = (ns.take 60).map V.int := by
      unfold cutV
      rw [HT.sIx_none, show (some (60 : Int)) = some ((60 : Nat) : Int) from rfl, HT.sIx_nat, List.drop_zero, Nat.sub_zero, List.length_map, List.map_take]
      by_cases z : 60 ≤ ns.length
      · rw [Nat.min_eq_left z]
      · rw [Nat.min_eq_right (by omega), List.take_of_length_le (by rw [List.length_map]; exact Nat.le_refl _), List.take_of_length_le (by rw [List.length_map]; omega)]
    rw [ecut] at s1 nD ⊢
    refine lc_list (K := K) (a := p) (xs := (ns.take 60).map V.int) (fun i G => Same (upd H p (.lst ((ns.take 60).map V.int))) G ∧ ∃ cs : List Int, G D = some (.lst (cs.map V.int)) ∧ cs.length = i)
      ⟨same_new nD, [], upd_same, rfl⟩ (fun i G _ hP => sqL (hP.1 _ _ upd_same)) (fun i x G hx hP => ?_) (fun G hP => ?_)
    · obtain ⟨s2, cs, gD, cl⟩ := hP
      obtain ⟨n, hn, rfl⟩ : ∃ n, (ns.take 60)[i]? = some n ∧ V.int n = x := by
        rw [List.getElem?_map] at hx
        cases e : (ns.take 60)[i]? with
        | none => rw [e] at hx; cases hx
        | some n => rw [e] at hx; exact ⟨n, rfl, Option.some.inj hx⟩
      have hi := (List.getElem?_eq_some_iff.mp hn).1
      rw [List.length_take] at hi
      refine ⟨rfl, ?_⟩
      dsimp only [tYes]
      rw [if_pos rfl]
      refine ⟨_, rfl, n, rfl, 2, _, rfl, rfl, .inl ⟨by decide, by decide⟩, _, rfl, _, _, rfl, rfl, .inr ⟨_, rfl, _, _, rfl, rfl, cs.map V.int, gD, ?_, fun b o e => ?_, cs ++ [2 * (if n < 0 then -n else n) + (if decide (n < 0) = true then 1 else 0)], ?_, ?_⟩⟩
      · rw [List.length_map]
        exact small1000 (by omega)
      · rw [upd_ne (ne_of_none e nD)]
        exact s2 _ _ e
      · rw [upd_same, List.map_append]
        rfl
      · rw [List.length_append, cl]
        rfl
    · obtain ⟨s2, cs, gD, cl⟩ := hP
      have sG := s1.trans s2
      rw [List.length_map, List.length_take] at cl
      refine ⟨_, _, rfl, ?_⟩
      -- for cell in cells
      refine ⟨.ref D, rfl, D, rfl, ⟨_, sqL gD⟩, for_list (xs := cs.map V.int) (fun i σ G' => G' = G ∧ ∃ (st : Int) (y : Option V), σ = [some (.ref a), y, some (.ref D), some (.int st)] ∧ 0 ≤ st ∧ st < 2147483647)
        ⟨rfl, 60013, none, rfl, by decide, by decide⟩ (fun i σ G' _ hP => by rw [hP.1]; exact sqL gD) (fun i x σ G' hx hP => ?_) (fun σ G' hP => ?_)⟩
      · obtain ⟨rfl, st, y, rfl, h0, h1⟩ := hP
        obtain ⟨n, rfl⟩ : ∃ n, V.int n = x := by
          rw [List.getElem?_map] at hx
          cases e : cs[i]? with
          | none => rw [e] at hx; cases hx
          | some n => rw [e] at hx; exact ⟨n, Option.some.inj hx⟩
        refine ⟨_, rfl, _, _, rfl, rfl, .inl ⟨by omega, by omega⟩, _, rfl, .inl ⟨_, rfl, _, _, rfl, rfl, (by show (0 : Int) < 2147483563; decide), _, _, rfl, rfl, _, _, rfl, rfl, .inl ⟨_, rfl, _, _, rfl, rfl, (by show (0 : Int) < 2147483647; decide), rfl, _, _, rfl, ?_, ?_⟩⟩⟩
        · exact Int.emod_nonneg _ (by decide)
        · exact Int.emod_lt_of_pos _ (by decide)
      · obtain ⟨rfl, st, y, rfl, h0, h1⟩ := hP
        refine ⟨.ref D, rfl, D, rfl, ⟨_, sqL gD⟩, fun D2 nD2 => ?_⟩
        refine lc_list (K := K) (a := D) (xs := cs.map V.int) (fun i G2 => Same G' G2 ∧ ∃ es : List Int, G2 D2 = some (.lst (es.map V.int)) ∧ es.length ≤ i)
          ⟨same_new nD2, [], upd_same, Nat.le_refl _⟩ (fun i G2 _ hP => sqL (hP.1 _ _ gD)) (fun i x G2 hx hP => ?_) (fun G2 hP => ?_)
        · obtain ⟨s3, es, gE, el⟩ := hP
          obtain ⟨n, hn, rfl⟩ : ∃ n, cs[i]? = some n ∧ V.int n = x := by
            rw [List.getElem?_map] at hx
            cases e : cs[i]? with
            | none => rw [e] at hx; cases hx
            | some n => rw [e] at hx; exact ⟨n, rfl, Option.some.inj hx⟩
          have hi := (List.getElem?_eq_some_iff.mp hn).1
          refine ⟨rfl, _, rfl, 10, 18, rfl, rfl, ⟨by decide, by decide, by decide⟩, _, _, rfl, rfl, _, rfl, ite2 (fun _ => ?_) (fun _ => ⟨s3, es, gE, Nat.le_succ_of_le el⟩)⟩
          refine ⟨_, rfl, es.map V.int, gE, ?_, fun b o e => ?_, es ++ [n], ?_, ?_⟩
          · rw [List.length_map]
            exact small1000 (by omega)
          · rw [upd_ne (ne_of_none e nD2)]
            exact s3 _ _ e
          · rw [upd_same, List.map_append]
            rfl
          · rw [List.length_append]
            exact Nat.succ_le_succ el
        · obtain ⟨s3, es, gE, el⟩ := hP
          rw [List.length_map] at el
          refine ⟨D2, _, rfl, sqL gE, fun l nl => ?_⟩
          refine ⟨_, rfl, by show 2 ≤ sizeLine; decide, fun h nh => ?_⟩
          have s4 : Same G2 _ := same_new (o := .lst (es.map V.int).reverse) nl
          have s5 := s4.trans (same_new (o := .lst [.ref l, .int st]) nh)
          have up : ∀ b, G2 b = none → H b = none := fun b e => by
            cases z : H b with
            | none => rfl
            | some o => exact nomatch (s3 _ _ (sG _ _ z)).symm.trans e
          have nlh : l ≠ h := ne_of_none upd_same nh
          refine q _ h l es.reverse st ((sG.trans s3).trans s5) (up h ((by
            cases z : G2 h with
            | none => rfl
            | some o => exact nomatch (s4 _ _ z).symm.trans nh))) (up l nl) ⟨upd_same, ?_, nlh, h0, h1, ?_⟩
          · rw [upd_ne nlh, upd_same, List.map_reverse]
          · rw [List.length_reverse]
            omega
end
end K5
namespace K5
open PySem PySem.Spec PyProof.Rows L2 Gd
theorem app_list (a b : Str) : (a ++ b).cps.toList = a.cps.toList ++ b.cps.toList := by
  show (a.cps ++ b.cps).toList = _
  rw [Array.toList_append]
theorem sjoin_mem {sep : Str} {c : Nat} : ∀ {ys : List Str}, c ∈ (Str.join sep ys).cps.toList → (∃ y ∈ ys, c ∈ y.cps.toList) ∨ c ∈ sep.cps.toList
  | [], h => by
    have : c ∈ (Str.empty).cps.toList := h
    simp [Str.empty] at this
  | [x], h => .inl ⟨x, List.mem_cons_self, h⟩
  | x :: y :: r, h => by
    have h' : c ∈ (x ++ sep ++ Str.join sep (y :: r)).cps.toList := h
    rw [app_list, app_list] at h'
    rcases List.mem_append.mp h' with z | z
    · rcases List.mem_append.mp z with z | z
      · exact .inl ⟨x, List.mem_cons_self, z⟩
      · exact .inr z
    · rcases sjoin_mem z with ⟨u, hu, e⟩ | e
      · exact .inl ⟨u, List.mem_cons_of_mem _ hu, e⟩
      · exact .inr e
theorem sjoin_len {sep : Str} : ∀ {ys : List Str}, (Str.join sep ys).length ≤ (ys.map (·.length)).sum + ys.length * sep.length
  | [] => Nat.zero_le _
  | [x] => by
    show x.length ≤ _
    simp
  | x :: y :: r => by
    have ih := sjoin_len (sep := sep) (ys := y :: r)
    show (x ++ sep ++ Str.join sep (y :: r)).length ≤ _
    rw [strLen_append, strLen_append, List.map_cons, List.sum_cons, List.length_cons, Nat.succ_mul]
    omega
theorem sjoin_blank : ∀ ms : List (List Nat), Str.join ⟨#[32]⟩ (ms.map sOf) = sOf (joinB ms)
  | [] => rfl
  | [m] => rfl
  | m :: n :: r => by
    have ih := sjoin_blank (n :: r)
    show sOf m ++ ⟨#[32]⟩ ++ Str.join ⟨#[32]⟩ ((n :: r).map sOf) = sOf (m ++ 32 :: joinB (n :: r))
    rw [ih, str_snoc]
    show (⟨(m ++ [32]).toArray ++ (joinB (n :: r)).toArray⟩ : Str) = ⟨(m ++ 32 :: joinB (n :: r)).toArray⟩
    simp
theorem tjoin (sep : Str) (ys : List Str) : Txt.join sep ys = Str.join sep ys := StrLaws.glued_eq_join sep ys
theorem join_mem {sep : Str} {c : Nat} {ys : List Str} (h : c ∈ (Txt.join sep ys).cps.toList) : (∃ y ∈ ys, c ∈ y.cps.toList) ∨ c ∈ sep.cps.toList := sjoin_mem (tjoin sep ys ▸ h)
theorem join_len {sep : Str} {ys : List Str} : (Txt.join sep ys).length ≤ (ys.map (·.length)).sum + ys.length * sep.length := by
  rw [tjoin]
  exact sjoin_len
theorem join_blank (ms : List (List Nat)) : Txt.join ⟨#[32]⟩ (ms.map sOf) = sOf (joinB ms) := by
  rw [tjoin]
  exact sjoin_blank ms
theorem sum_le {α : Type} {f : α → Nat} {b : Nat} : ∀ {l : List α}, (∀ x ∈ l, f x ≤ b) → (l.map f).sum ≤ l.length * b
  | [], _ => Nat.zero_le _
  | x :: r, h => by
    have h1 := h x List.mem_cons_self
    have h2 := sum_le (f := f) (b := b) (l := r) fun y hy => h y (List.mem_cons_of_mem _ hy)
    rw [List.map_cons, List.sum_cons, List.length_cons, Nat.succ_mul]
    omega
/-- a text of so many plain signs at most -/
def Plain (n : Nat) (z : Str) : Prop := z.length ≤ n ∧ ∀ c ∈ z.cps.toList, c < 1000
theorem Plain.join {n m : Nat} {sep : Str} {ys : List Str} (hs : Plain 0 sep) (hy : ∀ y ∈ ys, Plain n y) (hl : ys.length ≤ m) : Plain (m * n) (Txt.join sep ys) := by
  refine ⟨?_, fun c hc => ?_⟩
  · have h1 := join_len (sep := sep) (ys := ys)
    have h2 : (ys.map (·.length)).sum ≤ ys.length * n := sum_le (f := (·.length)) fun y h => (hy y h).1
    have h3 : sep.length = 0 := Nat.le_zero.mp hs.1
    rw [h3, Nat.mul_zero] at h1
    exact Nat.le_trans h1 (Nat.le_trans h2 (Nat.mul_le_mul_right n hl))
  · rcases join_mem hc with ⟨y, h, e⟩ | e
    · exact (hy y h).2 c e
    · exact hs.2 c e
theorem plain_empty : Plain 0 (Str.ofString "") := ⟨by decide +kernel, by decide +kernel⟩
abbrev some22 : List V := [.str (Str.ofString "\n"), .str (Str.ofString ":"), .str (Str.ofString ","), .str (Str.ofString ";"), .str (Str.ofString "/"), .str (Str.ofString "!"), .str (Str.ofString "&"), .str (Str.ofString "|"), .str (Str.ofString "("), .str (Str.ofString ")"), .str (Str.ofString "A"), .str (Str.ofString "Z"), .str (Str.ofString "-"), .str (Str.ofString "~"), .str (Str.ofString "_"), .str (Str.ofString "@"), .str (Str.ofString "{"), .str (Str.ofString "["), .str (Str.ofString "?"), .str (Str.ofString "\n"), .str (Str.ofString "."), .str (Str.ofString "$")]
abbrev some3 : List V := [.str (Str.ofString "\\"), .str (Str.ofString "#"), .str (Str.ofString "*")]
/-- a short plain text -/
def okS : V → Bool
  | .str z => decide (z.length ≤ 30) && z.cps.toList.all (· < 1000)
  | _ => false
theorem okS_of {x : V} (h : okS x = true) : ∃ z, x = .str z ∧ Plain 30 z := by
  cases x with
  | str z =>
    have h' : decide (z.length ≤ 30) = true ∧ z.cps.toList.all (· < 1000) = true := by
      have e : (decide (z.length ≤ 30) && z.cps.toList.all (· < 1000)) = true := h
      rwa [Bool.and_eq_true] at e
    exact ⟨z, rfl, of_decide_eq_true h'.1, fun c hc => of_decide_eq_true (List.all_eq_true.mp h'.2 c hc)⟩
  | _ => cases h
theorem pick3 {a b c : Int} {i : Nat} {x : V} (h : [V.int a, .int b, .int c][i]? = some x) : x = .int a ∨ x = .int b ∨ x = .int c := by
  match i, h with
  | 0, h => exact .inl (Option.some.inj h).symm
  | 1, h => exact .inr (.inl (Option.some.inj h).symm)
  | 2, h => exact .inr (.inr (Option.some.inj h).symm)
  | _ + 3, h => simp at h
section
variable {P : Program} {w : World} {K : PySem.W.Frag} {mg : Str → Option Value} {base : Heap}
/-! ### a block, statement by statement -/
theorem blk_cons {X : Cx} {st : Stmt} {r : List Stmt} {t : TS} {G : TS → Prop} (h : PS X st t) (n : ∃ u, PSs X r u ∧ G (tSeq t u)) : ∃ u, PSs X (st :: r) u ∧ G u := n.elim fun u z => ⟨_, pss_cons h z.1, z.2⟩
theorem blk_nil {X : Cx} {G : TS → Prop} (h : G tNext) : ∃ u, PSs X [] u ∧ G u := ⟨_, pss_nil, h⟩
/-! ### _law_piece -/
def spPiece : Sp := fun vs H Q _ => ∃ (h l : Addr) (L : List Int) (st : Int), vs = [.ref h] ∧ Hv H h l L st ∧ ∀ (G : Hp) (L' : List Int) (st' : Int) (z : Str), But h l H G → Hv G h l L' st' → Plain 30 z → Q (.str z) G
abbrev zSigns : Str := Str.ofString "abcxyznoru"
theorem ok_piece {f fD fP : Addr} {fd fdD fdP : FuncData} {k : Nat} (F : Fun K "_law_piece" "_law_piece" sPiece f fd) (FD : Fun K "_law_draw" "_law_draw" sDraw fD fdD) (FP : Fun K "_law_pick" "_law_pick" sPick fP fdP)
    (bD : Binds K fdD ["heap", "many"] []) (bP : Binds K fdP ["heap", "some"] []) (gD : mg "_law_draw" = some (.ref fD)) (gP : mg "_law_pick" = some (.ref fP))
    (ml : mg "len" = none) (mi : mg "int" = none) (mr : mg "range" = none) : FnOk P w K mg base CX0 (k + 1 + 1 + 1) f fd ["heap"] spPiece := by
  have GD : FnOk P w K mg base CX0 (k + 1) fD fdD ["heap", "many"] spDraw := ok_draw FD mi
  have GP : FnOk P w K mg base CX0 (k + 1 + 1) fP fdP ["heap", "some"] (spPick K) := ok_pick FP FD bD gD ml mi
  refine F.ok scPiece (fun vs H Q E h => ?_) (fun cdv A outer s H vs Q E hr h => ?_)
  · obtain ⟨h, l, L, st, rfl, _⟩ := h
    rfl
  · obtain ⟨h, l, L, st, rfl, hv, q⟩ := h
    have hr1 : Room (k + 1) (A.deeper (envOfC "_law_piece" (defScope sPiece) s.heap.objs.size f cdv)) := hr.mono (Nat.le_succ _)
    refine blk_cons (ps_set (i := 1) scPiece.nd rfl (.inl rfl) (pe_call GD hr1 (by rfl) gD FD.kp bD .nil pass0 (pa_cons (pv 0) (pa_cons pe_int pa_nil)))) ?_
    refine blk_cons (ps_if (pt_cmpR op_lt (pv 1) pe_int (nomark _))
        (pss_one (ps_ret (pe_join pe_str (pe_lc (own := [("turn", 3)]) (g := gName 3) (tt := tYes) rfl scPiece.nd
            (pi_range1 (by rfl) mr (pa_cons (pe_op op_add pe_int (pe_call GD hr1 (by rfl) gD FD.kp bD .nil pass0 (pa_cons (pv 0) (pa_cons (pe_call GP hr (by rfl) gP FP.kp bP .nil pass0 (pa_cons (pv 0) (pa_cons (pe_lst (pa_cons pe_int (pa_cons pe_int (pa_cons pe_int pa_nil)))) pa_nil))) pa_nil)))) pa_nil))
            (blkOk_by (own := [("turn", 3)]) (N := ["heap", "kind", "some", "turn"]) (sc := defScope sPiece) (by decide +kernel)) (fun _ _ _ _ _ => pg_name (i := 3) scPiece.nd rfl (Or.inl rfl)) (fun _ _ _ _ _ => pts_nil)
            (fun _ _ _ _ _ => pe_ix ix_str pe_str (pe_call GD hr1 (by rfl) gD FD.kp bD .nil pass0 (pa_cons (pv 0) (pa_cons pe_int pa_nil))) (fun _ _ => rfl)))))) pss_nil) ?_
    refine blk_cons (ps_if (pt_cmpR op_lt (pv 1) pe_int (nomark _))
        (pss_one (ps_ret (pe_join pe_str (pe_lc (own := [("turn", 3)]) (g := gName 3) (tt := tYes) rfl scPiece.nd
            (pi_range1 (by rfl) mr (pa_cons (pe_op op_add pe_int (pe_call GD hr1 (by rfl) gD FD.kp bD .nil pass0 (pa_cons (pv 0) (pa_cons (pe_call GP hr (by rfl) gP FP.kp bP .nil pass0 (pa_cons (pv 0) (pa_cons (pe_lst (pa_cons pe_int (pa_cons pe_int (pa_cons pe_int pa_nil)))) pa_nil))) pa_nil)))) pa_nil))
            (blkOk_by (own := [("turn", 3)]) (N := ["heap", "kind", "some", "turn"]) (sc := defScope sPiece) (by decide +kernel)) (fun _ _ _ _ _ => pg_name (i := 3) scPiece.nd rfl (Or.inl rfl)) (fun _ _ _ _ _ => pts_nil)
            (fun _ _ _ _ _ => pe_ix ix_str pe_str (pe_call GD hr1 (by rfl) gD FD.kp bD .nil pass0 (pa_cons (pv 0) (pa_cons pe_int pa_nil))) (fun _ _ => rfl)))))) pss_nil) ?_
    refine blk_cons (ps_if (pt_cmpR op_eq (pv 1) pe_int (nomark _))
        (pss_one (ps_ret (pe_op op_mulT pe_str (pe_op op_add pe_int (pe_call GD hr1 (by rfl) gD FD.kp bD .nil pass0 (pa_cons (pv 0) (pa_cons pe_int pa_nil))))))) pss_nil) ?_
    refine blk_cons (ps_set (i := 2) scPiece.nd rfl (.inl rfl) (pe_lst (pa_cons pe_str (pa_cons pe_str (pa_cons pe_str (pa_cons pe_str (pa_cons pe_str (pa_cons pe_str (pa_cons pe_str (pa_cons pe_str (pa_cons pe_str (pa_cons pe_str (pa_cons pe_str (pa_cons pe_str (pa_cons pe_str (pa_cons pe_str (pa_cons pe_str (pa_cons pe_str (pa_cons pe_str (pa_cons pe_str (pa_cons pe_str (pa_cons pe_str (pa_cons pe_str (pa_cons pe_str pa_nil)))))))))))))))))))))))) ?_
    refine blk_cons (ps_ret (pe_call GP hr (by rfl) gP FP.kp bP .nil pass0 (pa_cons (pv 0) (pa_cons (pe_op op_cat (pv 2) (pe_lst (pa_cons pe_str (pa_cons pe_str (pa_cons pe_str pa_nil))))) pa_nil)))) ?_
    refine blk_nil ?_
    -- kind = _law_draw(heap, 9)
    refine ⟨.ref h, rfl, h, l, L, st, 9, rfl, hv, by decide, by decide, fun G1 L1 st1 kn bt1 hv1 k0 k1 => ?_⟩
    refine ⟨_, rfl, _, _, rfl, rfl, _, rfl, ite2 (fun _ => ?_) (fun _ => ?_)⟩
    · -- letters
      refine ⟨⟨_, rfl⟩, ?_⟩
      refine ⟨.ref h, rfl, .ref h, rfl, by show 3 ≤ sizeLine; decide, fun p np => ?_⟩
      refine ⟨h, l, L1, st1, p, [.int 3, .int 7, .int 30], rfl, hv1.new np, sqL upd_same, (ne_of_none hv1.top np).symm, (ne_of_none hv1.bot np).symm, by decide, by decide, fun G2 L2 st2 i x bt2 hv2 hx => ?_⟩
      obtain ⟨m, rfl, m0, m1⟩ : ∃ m : Int, x = .int m ∧ 0 < m ∧ m ≤ 30 := by
        rcases pick3 hx with e | e | e
        · exact ⟨_, e, by decide, by decide⟩
        · exact ⟨_, e, by decide, by decide⟩
        · exact ⟨_, e, by decide, by decide⟩
      refine ⟨h, l, L2, st2, m, rfl, hv2, m0, by omega, fun G3 L3 st3 r bt3 hv3 r0 r1 => ?_⟩
      have bt : But h l H G3 := (bt1.new np).trans (bt2.trans bt3)
      refine ⟨_, _, rfl, rfl, _, rfl, by omega, by omega, fun D nD => ?_⟩
      have nh : h ≠ D := ne_of_none hv3.top nD
      have nl : l ≠ D := ne_of_none hv3.bot nD
      refine lc_range (lo := 0) (n := (1 + r).toNat) (fun i G => But h l G3 G ∧ (∃ L4 st4, Hv G h l L4 st4) ∧ ∃ ys : List Str, G D = some (.lst (ys.map V.str)) ∧ (∀ y ∈ ys, Plain 1 y) ∧ ys.length = i)
        ⟨(But.refl _ _ _).new nD, ⟨_, _, hv3.new nD⟩, [], upd_same, fun y hy => absurd hy List.not_mem_nil, rfl⟩ (fun i G hi hP => ?_) (fun G hP => ?_)
      · obtain ⟨b4, ⟨L4, st4, hv4⟩, ys, gD, hy, yl⟩ := hP
        refine ⟨rfl, ?_⟩
        dsimp only [tYes]
        rw [if_pos rfl]
        refine ⟨.ref h, rfl, h, l, L4, st4, 10, rfl, hv4, by decide, by decide, fun G5 L5 st5 r5 bt5 hv5 r50 r51 => ?_⟩
        obtain ⟨j, rfl⟩ := Int.eq_ofNat_of_zero_le r50
        have hj : j < zSigns.cps.toList.length := Nat.lt_of_lt_of_le (show j < 10 by omega) (by decide +kernel)
        refine ⟨zSigns, _, zSigns.cps.toList[j], rfl, rfl, by decide +kernel, atI_nat (List.getElem?_eq_getElem hj), ys.map V.str, bt5 _ _ nh.symm nl.symm gD, ?_, fun b o b1 b2 e => ?_, ⟨L5, st5, ?_⟩, ys ++ [⟨#[zSigns.cps.toList[j]]⟩], ?_, ?_, ?_⟩
        · rw [List.length_map]
          exact small1000 (by omega)
        · rw [upd_ne (ne_of_none e nD)]
          exact bt5 _ _ b1 b2 (b4 _ _ b1 b2 e)
        · exact ⟨(upd_ne nh).trans hv5.top, (upd_ne nl).trans hv5.bot, hv5.ne, hv5.lo, hv5.hi, hv5.len⟩
        · rw [upd_same, List.map_append]
          rfl
        · intro y hm
          rcases List.mem_append.mp hm with e | e
          · exact hy y e
          · obtain rfl : y = _ := by simpa using e
            refine ⟨Nat.le_refl _, fun c hc => ?_⟩
            have e2 : c = zSigns.cps.toList[j] := by simpa using hc
            rw [e2]
            exact (by decide +kernel : ∀ c ∈ zSigns.cps.toList, c < 1000) _ (List.getElem_mem hj)
        · rw [List.length_append, yl]
          rfl
      · obtain ⟨b4, ⟨L4, st4, hv4⟩, ys, gD, hy, yl⟩ := hP
        have hyl : ys.length ≤ 30 := by omega
        refine ⟨_, D, ys, rfl, rfl, .inl (sqL gD), ?_, q _ _ _ _ (bt.trans b4) hv4 (Plain.join plain_empty hy hyl)⟩
        have h1 := sum_le (f := fun z : Str => z.length) (b := 1) (l := ys) fun y hm => (hy y hm).1
        have h2 : (Str.ofString "").length = 0 := by decide +kernel
        rw [h2]
        omega
    refine ⟨_, rfl, _, _, rfl, rfl, _, rfl, ite2 (fun _ => ?_) (fun _ => ?_)⟩
    · -- digits
      refine ⟨⟨_, rfl⟩, ?_⟩
      refine ⟨.ref h, rfl, .ref h, rfl, by show 3 ≤ sizeLine; decide, fun p np => ?_⟩
      refine ⟨h, l, L1, st1, p, [.int 2, .int 4, .int 6], rfl, hv1.new np, sqL upd_same, (ne_of_none hv1.top np).symm, (ne_of_none hv1.bot np).symm, by decide, by decide, fun G2 L2 st2 i x bt2 hv2 hx => ?_⟩
      obtain ⟨m, rfl, m0, m1⟩ : ∃ m : Int, x = .int m ∧ 0 < m ∧ m ≤ 30 := by
        rcases pick3 hx with e | e | e
        · exact ⟨_, e, by decide, by decide⟩
        · exact ⟨_, e, by decide, by decide⟩
        · exact ⟨_, e, by decide, by decide⟩
      refine ⟨h, l, L2, st2, m, rfl, hv2, m0, by omega, fun G3 L3 st3 r bt3 hv3 r0 r1 => ?_⟩
      have bt : But h l H G3 := (bt1.new np).trans (bt2.trans bt3)
      refine ⟨_, _, rfl, rfl, _, rfl, by omega, by omega, fun D nD => ?_⟩
      have nh : h ≠ D := ne_of_none hv3.top nD
      have nl : l ≠ D := ne_of_none hv3.bot nD
      refine lc_range (lo := 0) (n := (1 + r).toNat) (fun i G => But h l G3 G ∧ (∃ L4 st4, Hv G h l L4 st4) ∧ ∃ ys : List Str, G D = some (.lst (ys.map V.str)) ∧ (∀ y ∈ ys, Plain 1 y) ∧ ys.length = i)
        ⟨(But.refl _ _ _).new nD, ⟨_, _, hv3.new nD⟩, [], upd_same, fun y hy => absurd hy List.not_mem_nil, rfl⟩ (fun i G hi hP => ?_) (fun G hP => ?_)
      · obtain ⟨b4, ⟨L4, st4, hv4⟩, ys, gD, hy, yl⟩ := hP
        refine ⟨rfl, ?_⟩
        dsimp only [tYes]
        rw [if_pos rfl]
        refine ⟨.ref h, rfl, h, l, L4, st4, 10, rfl, hv4, by decide, by decide, fun G5 L5 st5 r5 bt5 hv5 r50 r51 => ?_⟩
        obtain ⟨j, rfl⟩ := Int.eq_ofNat_of_zero_le r50
        have hj : j < zD.cps.toList.length := Nat.lt_of_lt_of_le (show j < 10 by omega) (by decide +kernel)
        refine ⟨zD, _, zD.cps.toList[j], rfl, rfl, by decide +kernel, atI_nat (List.getElem?_eq_getElem hj), ys.map V.str, bt5 _ _ nh.symm nl.symm gD, ?_, fun b o b1 b2 e => ?_, ⟨L5, st5, ?_⟩, ys ++ [⟨#[zD.cps.toList[j]]⟩], ?_, ?_, ?_⟩
        · rw [List.length_map]
          exact small1000 (by omega)
        · rw [upd_ne (ne_of_none e nD)]
          exact bt5 _ _ b1 b2 (b4 _ _ b1 b2 e)
        · exact ⟨(upd_ne nh).trans hv5.top, (upd_ne nl).trans hv5.bot, hv5.ne, hv5.lo, hv5.hi, hv5.len⟩
        · rw [upd_same, List.map_append]
          rfl
        · intro y hm
          rcases List.mem_append.mp hm with e | e
          · exact hy y e
          · obtain rfl : y = _ := by simpa using e
            refine ⟨Nat.le_refl _, fun c hc => ?_⟩
            have e2 : c = zD.cps.toList[j] := by simpa using hc
            rw [e2]
            exact (by decide +kernel : ∀ c ∈ zD.cps.toList, c < 1000) _ (List.getElem_mem hj)
        · rw [List.length_append, yl]
          rfl
      · obtain ⟨b4, ⟨L4, st4, hv4⟩, ys, gD, hy, yl⟩ := hP
        have hyl : ys.length ≤ 30 := by omega
        refine ⟨_, D, ys, rfl, rfl, .inl (sqL gD), ?_, q _ _ _ _ (bt.trans b4) hv4 (Plain.join plain_empty hy hyl)⟩
        have h1 := sum_le (f := fun z : Str => z.length) (b := 1) (l := ys) fun y hm => (hy y hm).1
        have h2 : (Str.ofString "").length = 0 := by decide +kernel
        rw [h2]
        omega
    refine ⟨_, rfl, rfl, _, rfl, ite2 (fun _ => ?_) (fun _ => ?_)⟩
    · -- blanks
      refine ⟨.ref h, rfl, h, l, L1, st1, 3, rfl, hv1, by decide, by decide, fun G2 L2 st2 r bt2 hv2 r0 r1 => ?_⟩
      refine ⟨_, _, rfl, rfl, _, _, rfl, rfl, by decide +kernel, by omega, by omega, fun u hu hc => q _ _ _ _ (bt1.trans bt2) hv2 ⟨?_, fun c h => ?_⟩⟩
      · have e : (Str.ofString " ").length = 1 := by decide +kernel
        rw [e] at hu
        omega
      · exact (by decide +kernel : ∀ c ∈ (Str.ofString " ").cps.toList, c < 1000) c (hc c h)
    · -- single signs
      refine ⟨by show 22 ≤ sizeLine; decide, fun p np => ?_⟩
      refine ⟨.ref h, rfl, .ref p, rfl, by show 3 ≤ sizeLine; decide, fun p2 np2 => ?_⟩
      have hv2 : Hv (upd G1 p (.lst some22)) h l L1 st1 := hv1.new np
      have hv3 : Hv (upd (upd G1 p (.lst some22)) p2 (.lst some3)) h l L1 st1 := hv2.new np2
      refine ⟨p, p2, some22, some3, rfl, rfl, (upd_ne (ne_of_none upd_same np2)).trans upd_same, upd_same, by show 25 ≤ sizeLine; decide, fun p3 np3 => ?_⟩
      have hv4 : Hv (upd (upd (upd G1 p (.lst some22)) p2 (.lst some3)) p3 (.lst (some22 ++ some3))) h l L1 st1 := hv3.new np3
      refine ⟨h, l, L1, st1, p3, some22 ++ some3, rfl, hv4, sqL upd_same, (ne_of_none hv3.top np3).symm, (ne_of_none hv3.bot np3).symm, by decide, by decide, fun G2 L2 st2 i x bt2 hv5 hx => ?_⟩
      obtain ⟨z, rfl, hz⟩ := okS_of (List.all_eq_true.mp (by decide +kernel : (some22 ++ some3).all okS = true) x (List.mem_of_getElem? hx))
      exact q _ _ _ _ ((((bt1.new np).new np2).new np3).trans bt2) hv5 hz
end
end K5
namespace K5
open PySem PySem.Spec PyProof.Rows L2 Gd
/-- the marks, reckoned -/
def Mf : Nat → List Nat → Int → Int → List Mk
  | 0, _, _, _ => []
  | _ + 1, [], _, _ => []
  | n + 1, c :: r, line, col =>
    (if c = 32 then [] else [(line, col, c :: r.takeWhile (goes c))]) ++
    (if c = 10 then Mf n (r.drop (r.takeWhile (goes c)).length) (line + 1) 0 else Mf n (r.drop (r.takeWhile (goes c)).length) line (col + 1 + (r.takeWhile (goes c)).length))
theorem rest_len {c : Nat} {r : List Nat} {n : Nat} (h : (c :: r).length ≤ n + 1) : (r.drop (r.takeWhile (goes c)).length).length ≤ n := by
  rw [List.length_drop]
  simp at h
  omega
theorem M_f : ∀ (n : Nat) (l : List Nat) (line col : Int), l.length ≤ n → M l line col = Mf n l line col
  | 0, [], _, _, _ => by rw [M]; rfl
  | n + 1, [], _, _, _ => by rw [M]; rfl
  | 0, c :: r, _, _, h => by simp at h
  | n + 1, c :: r, line, col, h => by
    rw [M, Mf, M_f n _ _ _ (rest_len h), M_f n _ _ _ (rest_len h)]
theorem M_all : ∀ (n : Nat) (l : List Nat) (line col : Int), l.length ≤ n → 0 ≤ line → 0 ≤ col → ∀ q ∈ M l line col, 0 ≤ q.1 ∧ q.1 ≤ line + l.length ∧ 0 ≤ q.2.1 ∧ q.2.1 ≤ col + l.length ∧ ∀ c ∈ q.2.2, c ∈ l
  | _, [], _, _, _, _, _, q, hq => by
    rw [M] at hq
    simp at hq
  | 0, c :: r, _, _, h, _, _, _, _ => by simp at h
  | n + 1, c :: r, line, col, h, h1, h2, q, hq => by
    have hl := rest_len (c := c) h
    have ht := tw_len (p := goes c) r
    have hdl : (r.drop (r.takeWhile (goes c)).length).length = r.length - (r.takeWhile (goes c)).length := List.length_drop
    have hcl : (c :: r).length = r.length + 1 := rfl
    rw [M] at hq
    rcases List.mem_append.mp hq with z | z
    · by_cases h32 : c = 32
      · rw [if_pos h32] at z
        simp at z
      · rw [if_neg h32] at z
        have e : q = (line, col, c :: r.takeWhile (goes c)) := by simpa using z
        subst e
        refine ⟨h1, by show line ≤ _; omega, h2, by show col ≤ _; omega, fun x hx => ?_⟩
        rcases List.mem_cons.mp hx with e | e
        · exact e ▸ List.mem_cons_self
        · exact List.mem_cons_of_mem _ ((List.takeWhile_sublist _).mem e)
    · by_cases h10 : c = 10
      · rw [if_pos h10] at z
        obtain ⟨a1, a2, a3, a4, a5⟩ := M_all n _ _ _ hl (by omega) (by omega) q z
        refine ⟨a1, by omega, a3, by omega, fun x hx => List.mem_cons_of_mem _ ((List.drop_sublist _ _).mem (a5 x hx))⟩
      · rw [if_neg h10] at z
        obtain ⟨a1, a2, a3, a4, a5⟩ := M_all n _ _ _ hl h1 (by omega) q z
        refine ⟨a1, by omega, a3, by omega, fun x hx => List.mem_cons_of_mem _ ((List.drop_sublist _ _).mem (a5 x hx))⟩
theorem costAll_app : ∀ (a b : List PyData), costAll (a ++ b) = costAll a + costAll b
  | [], b => by rw [costAll]; simp
  | x :: r, b => by
    rw [List.cons_append, costAll, costAll, costAll_app r b]
    omega
theorem cost_m3 (q : Mk) : costD (m3 q) = 30 + 10 * q.2.2.length := by
  have e : (sOf q.2.2).length = q.2.2.length := sOf_len _
  simp only [m3, costD, costAll, e]
  omega
/-- what the marks weigh -/
theorem M_cost : ∀ (n : Nat) (l : List Nat) (line col : Int), l.length ≤ n → costAll ((M l line col).map m3) ≤ 42 * l.length ∧ ((M l line col).map fun q => q.2.2.length + 1).sum ≤ 2 * l.length
  | _, [], _, _, _ => by
    rw [M]
    exact ⟨Nat.le_of_eq (by rw [List.map_nil, costAll]; rfl), Nat.le_refl _⟩
  | 0, c :: r, _, _, h => by simp at h
  | n + 1, c :: r, line, col, h => by
    have hl := rest_len (c := c) h
    have ht := tw_len (p := goes c) r
    have hdl : (r.drop (r.takeWhile (goes c)).length).length = r.length - (r.takeWhile (goes c)).length := List.length_drop
    have hcl : (c :: r).length = r.length + 1 := rfl
    have tail : ∀ a b : Int, costAll ((M (r.drop (r.takeWhile (goes c)).length) a b).map m3) ≤ 42 * (r.length - (r.takeWhile (goes c)).length) ∧ ((M (r.drop (r.takeWhile (goes c)).length) a b).map fun q => q.2.2.length + 1).sum ≤ 2 * (r.length - (r.takeWhile (goes c)).length) := fun a b => by
      have := M_cost n _ a b hl
      rw [hdl] at this
      exact this
    have t1 := tail (line + 1) 0
    have t2 := tail line (col + 1 + (r.takeWhile (goes c)).length)
    have e1 : costAll ([m3 (line, col, c :: r.takeWhile (goes c))]) = 32 + 10 * ((r.takeWhile (goes c)).length + 1) := by
      rw [costAll, costAll, cost_m3]
      show 30 + 10 * ((r.takeWhile (goes c)).length + 1) + 2 + 0 = _
      omega
    rw [M, List.map_append, List.map_append, costAll_app, List.sum_append]
    by_cases h32 : c = 32
    · have h10 : c ≠ 10 := by omega
      rw [if_pos h32, if_neg h10]
      simp only [List.map_nil, List.sum_nil, costAll]
      omega
    · rw [if_neg h32]
      simp only [List.map_cons, List.map_nil, e1, List.sum_cons, List.sum_nil, List.length_cons]
      by_cases h10 : c = 10
      · rw [if_pos h10]
        omega
      · rw [if_neg h10]
        omega
theorem joinB_len : ∀ ms : List (List Nat), (joinB ms).length ≤ (ms.map fun m => m.length + 1).sum
  | [] => Nat.zero_le _
  | [m] => by
    show m.length ≤ _
    simp
  | m :: n :: r => by
    have ih := joinB_len (n :: r)
    rw [joinB, List.length_append, List.length_cons, List.map_cons, List.sum_cons]
    omega
theorem sOf_list (m : List Nat) : (sOf m).cps.toList = m := by
  show m.toArray.toList = m
  simp
/-- the marks of a plain text are plain data -/
theorem M_fine {z : Str} {n : Nat} (h : Plain n z) (hn : n ≤ 100000) : fine (mdata (M z.cps.toList 0 0)) = true ∧ (mdata (M z.cps.toList 0 0)).depth ≤ 60 ∧ costD (mdata (M z.cps.toList 0 0)) ≤ sizeLine := by
  have hl : z.cps.toList.length ≤ n := h.1
  refine ⟨?_, ?_, ?_⟩
  · rw [mdata, fine]
    refine fineAll_mem fun d hd => ?_
    obtain ⟨q, hq, rfl⟩ := List.mem_map.mp hd
    obtain ⟨a1, a2, a3, a4, a5⟩ := M_all _ z.cps.toList 0 0 (Nat.le_refl _) (Int.le_refl _) (Int.le_refl _) q hq
    have e : fine (.str (sOf q.2.2)) = true := fine_str.mpr fun c hc => h.2 c (a5 c (by rw [sOf_list] at hc; exact hc))
    simp only [m3, fine, fineAll, Bool.and_true, Bool.and_eq_true, decide_eq_true_eq]
    rw [fine] at e
    exact ⟨by omega, by omega, e⟩
  · rw [mdata, PyData.depth]
    have : PyData.depthAll ((M z.cps.toList 0 0).map m3) ≤ 1 := depthAll_mem fun d hd => by
      obtain ⟨q, _, rfl⟩ := List.mem_map.mp hd
      simp [m3, PyData.depth, PyData.depthAll]
    omega
  · rw [mdata, costD]
    have := (M_cost _ z.cps.toList 0 0 (Nat.le_refl _)).1
    rw [sizeLine_eq]
    omega
/-- the texts of marks -/
def tx (ms : List Mk) : List (List Nat) := ms.map (·.2.2)
theorem M_texts {z : Str} {n : Nat} (h : Plain n z) (hn : n ≤ 100000) : (joinB (tx (M z.cps.toList 0 0))).length ≤ 200000 ∧ tx (M (joinB (tx (M z.cps.toList 0 0))) 0 0) = tx (M z.cps.toList 0 0) := by
  have hl : z.cps.toList.length ≤ n := h.1
  refine ⟨?_, ?_⟩
  · have h1 := joinB_len (tx (M z.cps.toList 0 0))
    have h2 := (M_cost _ z.cps.toList 0 0 (Nat.le_refl _)).2
    unfold tx at h1 ⊢
    rw [List.map_map] at h1
    have e : ((fun m : List Nat => m.length + 1) ∘ fun x : Mk => x.2.2) = fun q : Mk => q.2.2.length + 1 := rfl
    rw [e] at h1
    omega
  · refine M_join _ (fun m hm => ?_) 0 0
    obtain ⟨q, hq, rfl⟩ := List.mem_map.mp hm
    exact M_good _ _ _ _ (Nat.le_refl _) q hq
end K5
namespace K5
open PySem PySem.Spec PyProof.Rows L2 Gd
theorem Plain.app {a b : Nat} {x y : Str} (h : Plain a x) (g : Plain b y) : Plain (a + b) (x ++ y) := by
  refine ⟨?_, fun c hc => ?_⟩
  · rw [strLen_append]
    exact Nat.add_le_add h.1 g.1
  · rw [app_list] at hc
    rcases List.mem_append.mp hc with z | z
    · exact h.2 c z
    · exact g.2 c z
theorem Plain.mono {a b : Nat} {x : Str} (h : Plain a x) (l : a ≤ b) : Plain b x := ⟨Nat.le_trans h.1 l, h.2⟩
theorem Plain.size {a : Nat} {x : Str} (h : Plain a x) (l : a ≤ 100000) : x.length ≤ 1000000 := Nat.le_trans h.1 (Nat.le_trans l (by decide))
theorem plain_lit {x : Str} {n : Nat} (h : (decide (x.length ≤ n) && x.cps.toList.all (· < 1000)) = true) : Plain n x := by
  have h' : decide (x.length ≤ n) = true ∧ x.cps.toList.all (· < 1000) = true := by rwa [Bool.and_eq_true] at h
  exact ⟨of_decide_eq_true h'.1, fun c hc => of_decide_eq_true (List.all_eq_true.mp h'.2 c hc)⟩
/-- a list comprehension over a tuple, as it is asked -/
def LcT (K : PySem.W.Frag) (a D : Addr) (g : TG) (te : TE) (vs : List Nat) (σ : L2.St) (H1 : Hp) (Qd : Hp → Prop) : Prop :=
  ∃ W : Nat → Nat → Hp → Prop, (∃ m, W 0 m (upd H1 D (.lst []))) ∧
    ∀ i m H, W i m H → ((Itt K a).stop i H ∧ Qd H) ∨ ((Itt K a).go i H ∧ ∃ N : Hp → Prop, (∀ G, N G → ∃ n, n < m ∧ W (i + 1) n G) ∧
      ∀ x G, (Itt K a).yld i H x G → g x (wipe σ vs) G fun σ2 G2 => wipe σ2 vs = wipe σ vs ∧ tYes σ2 G2 fun b G3 =>
        if b = true then te σ2 G3 fun y G4 => ∃ acc, G4 D = some (.lst acc) ∧ acc.length < sizeLine ∧ N (upd G4 D (.lst (acc ++ [y]))) else N G3)
abbrev gMark (K : PySem.W.Frag) : TG := gTup K 3 (gCons (gName 8) (gCons (gName 9) (gCons (gName 10) gNil)))
theorem m3_inv {K : PySem.W.Frag} {H : Hp} {v : V} {q : Mk} (h : Dp K H v (m3 q)) : ∃ t, v = .ref t ∧ SqT K H t [.int q.1, .int q.2.1, .str (sOf q.2.2)] := by
  cases h with
  | tup hs ha =>
    refine ⟨_, rfl, ?_⟩
    cases ha with
    | cons a1 r =>
    cases r with
    | cons a2 r =>
    cases r with
    | cons a3 r =>
    cases r
    cases a1
    cases a2
    cases a3
    exact hs
def txV (ms : List Mk) : List V := (tx ms).map fun m => .str (sOf m)
theorem lc_texts {K : PySem.W.Frag} {pd D : Addr} {ms : List Mk} {us : List V} {a0 a1 a2 a3 a4 a5 a6 a7 a8 a9 a10 : Option V} {H1 : Hp} {Qd : Hp → Prop} (nD : H1 D = none) (ht : SqT K H1 pd us) (dp : DpAll K H1 us (ms.map m3)) (hl : ms.length < sizeLine)
    (hd : ∀ G, Same H1 G → G D = some (.lst (txV ms)) → Qd G) : LcT K pd D (gMark K) (tVar 10) [8, 9, 10] [a0, a1, a2, a3, a4, a5, a6, a7, a8, a9, a10] H1 Qd := by
  have hlen := dpAll_len dp
  rw [List.length_map] at hlen
  refine lc_tup (K := K) (a := pd) (xs := us) (fun i G => Same H1 G ∧ G D = some (.lst (txV (ms.take i)))) ⟨same_new nD, upd_same⟩ (fun i G _ hP => same_seqT hP.1 ht) (fun i x G hx hP => ?_) (fun G hP => ?_)
  · obtain ⟨s1, gD⟩ := hP
    have hi : i < us.length := (List.getElem?_eq_some_iff.mp hx).1
    have hf : ms[i]? = some (ms[i]'(by omega)) := List.getElem?_eq_getElem (by omega)
    generalize ms[i]'(by omega) = qi at hf
    obtain ⟨v, hv, dv⟩ := dpAll_get dp (i := i) (d := m3 qi) (by rw [List.getElem?_map, hf]; rfl)
    have ex : v = x := Option.some.inj (hv.symm.trans hx)
    subst ex
    obtain ⟨t, rfl, hq⟩ := m3_inv dv
    refine ⟨t, _, rfl, same_seqT s1 hq, rfl, _, _, rfl, _, _, rfl, _, _, rfl, rfl, rfl, ?_⟩
    dsimp only [tYes]
    rw [if_pos rfl]
    refine ⟨_, rfl, txV (ms.take i), gD, ?_, fun b o e => ?_, ?_⟩
    · unfold txV tx
      rw [List.length_map, List.length_map, List.length_take]
      exact Nat.lt_of_le_of_lt (Nat.min_le_right _ _) hl
    · rw [upd_ne (ne_of_none e nD)]
      exact s1 _ _ e
    · rw [upd_same, List.take_add_one, hf]
      unfold txV tx
      rw [List.map_append, List.map_append]
      rfl
  · obtain ⟨s1, gD⟩ := hP
    rw [hlen, List.take_length] at gD
    exact hd G s1 gD
theorem dp_texts {K : PySem.W.Frag} {G : Hp} {D : Addr} {ms : List Mk} (h : G D = some (.lst (txV ms))) : Dp K G (.ref D) (.list ((tx ms).map fun m => .str (sOf m))) := by
  refine .lst (sqL h) ?_
  unfold txV
  have := dpAll_strs (K := K) (H := G) ((tx ms).map sOf)
  rw [List.map_map, List.map_map] at this
  exact this
theorem len_M {z : Str} {n : Nat} (h : z.length ≤ n) (hn : n ≤ 1000000) : (M z.cps.toList 0 0).length < sizeLine := by
  have h1 := (M_cost _ z.cps.toList 0 0 (Nat.le_refl _)).2
  have h2 : ∀ ms : List Mk, ms.length ≤ (ms.map fun q => q.2.2.length + 1).sum := fun ms => by
    induction ms with
    | nil => exact Nat.le_refl 0
    | cons q r ih =>
      rw [List.map_cons, List.sum_cons, List.length_cons]
      omega
  have h3 := h2 (M z.cps.toList 0 0)
  have h4 : z.cps.toList.length ≤ n := h
  rw [sizeLine_eq]
  omega
theorem pick5 {i : Nat} {x : V} (h : [V.int 5, .int 20, .int 1, .int 60, .int 0][i]? = some x) : ∃ m : Int, x = .int m ∧ 0 ≤ m ∧ m ≤ 60 := by
  match i, h with
  | 0, h => exact ⟨5, (Option.some.inj h).symm, by decide, by decide⟩
  | 1, h => exact ⟨20, (Option.some.inj h).symm, by decide, by decide⟩
  | 2, h => exact ⟨1, (Option.some.inj h).symm, by decide, by decide⟩
  | 3, h => exact ⟨60, (Option.some.inj h).symm, by decide, by decide⟩
  | 4, h => exact ⟨0, (Option.some.inj h).symm, by decide, by decide⟩
  | _ + 5, h => simp at h
section
variable {P : Program} {w : World} {K : PySem.W.Frag} {mg : Str → Option Value} {base : Heap}
def spLaw (K : PySem.W.Frag) : Sp := fun vs H Q _ => ∃ (a : Addr) (ns : List Int), vs = [.ref a] ∧ SqL K H a (ns.map V.int) ∧ ns.length ≤ 63 ∧ ∀ G, Q (.bl true) G
theorem ok_law {f fM fE fR fH fD fP fK fL fQ : Addr} {fd dM dE dR dH dD dP dK dL dQ : FuncData} {t1 t2 : Tok} (F : Fun K "law" "law" sLaw f fd) (FM : Fun K "marks_of" "marks_of" sMarks fM dM) (FE : Fun K "mark_end" "mark_end" sEnd fE dE) (FR : Fun K "run_end" "run_end" sRun fR dR)
    (FH : Fun K "_law_heap" "_law_heap" sHeap fH dH) (FD : Fun K "_law_draw" "_law_draw" sDraw fD dD) (FP : Fun K "_law_pick" "_law_pick" sPick fP dP) (FK : Fun K "_law_kind" "_law_kind" sKind fK dK) (FL : Fun K "_law_marks" "_law_marks" sLMarks fL dL) (FQ : Fun K "_law_piece" "_law_piece" sPiece fQ dQ)
    (bM : Binds K dM ["text"] []) (bE : Binds K dE ["text", "at"] []) (bR : Binds K dR ["text", "at", "signs"] []) (bH : Binds K dH ["script"] []) (bD : Binds K dD ["heap", "many"] []) (bP : Binds K dP ["heap", "some"] []) (bK : Binds K dK ["sign"] []) (bL : Binds K dL ["text"] []) (bQ : Binds K dQ ["heap"] []) (kM : KwB dM ["text"] ["text"] id)
    (gM : mg "marks_of" = some (.ref fM)) (gE : mg "mark_end" = some (.ref fE)) (gR : mg "run_end" = some (.ref fR)) (gH : mg "_law_heap" = some (.ref fH)) (gD : mg "_law_draw" = some (.ref fD)) (gP : mg "_law_pick" = some (.ref fP)) (gK : mg "_law_kind" = some (.ref fK)) (gL : mg "_law_marks" = some (.ref fL)) (gQ : mg "_law_piece" = some (.ref fQ))
    (gLet : mg "LETTERS" = some (.str zL t1)) (gDig : mg "DIGITS" = some (.str zD t2)) (ml : mg "len" = none) (mt : mg "tuple" = none) (mi : mg "int" = none) (ma : mg "abs" = none) (mr : mg "range" = none) (mp : mg "repr" = none) :
    FnG P w K mg base 4 f fd ["script"] (spLaw K) := by
  have GM : FnOk P w K mg base CX0 3 fM dM ["text"] (spMarks K) := ok_marks FM FE FR bE bR gE gR gLet gDig ml mt
  have GH : FnOk P w K mg base CX0 3 fH dH ["script"] (spHeap K) := ok_heap FH ma mi
  have GD : FnOk P w K mg base CX0 3 fD dD ["heap", "many"] spDraw := ok_draw FD mi
  have GP : FnOk P w K mg base CX0 3 fP dP ["heap", "some"] (spPick K) := ok_pick FP FD bD gD ml mi
  have GL : FnOk P w K mg base CX0 3 fL dL ["text"] (spLMarks K) := ok_lmarks FL FK bK gK ml
  have GQ : FnOk P w K mg base CX0 3 fQ dQ ["heap"] spPiece := ok_piece FQ FD FP bD bP gD gP ml mi mr
  refine okG F scLaw (fun vs H Q E h => ?_) (fun cdv A outer s H vs Q E hrg h => ?_)
  · obtain ⟨a, ns, rfl, _⟩ := h
    rfl
  · obtain ⟨a, ns, rfl, hS, hlen, q⟩ := h
    have hr := hrg.rm
    have hgd := hrg.gd
    refine blk_cons (ps_set (i := 1) scLaw.nd rfl (Or.inr rfl) (pe_call GH hr (by rfl) gH FH.kp bH .nil pass0 (pa_cons (pv 0) pa_nil))) ?_
    refine blk_cons (ps_for PassesOwn.never rfl (pi_range1 (by rfl) mr (pa_cons (pe_op op_add pe_int (pe_op op_mul pe_int (pe_callTy call_int1 (by rfl) mi (by decide +kernel) (pa_cons (pe_cmpR op_gt (pe_callB call_len_seq (by rfl) ml PySem.boot_len (pa_cons (pv 0) pa_nil)) pe_int (nomark _)) pa_nil)))) pa_nil)) (pg_name (i := 2) scLaw.nd rfl (.inl rfl))
      (pss_cons (ps_set (i := 3) scLaw.nd rfl (.inl rfl) (pe_join pe_str (pe_lc (own := [("again", 7)]) (g := gName 7) (tt := tYes) rfl scLaw.nd
          (pi_range1 (by rfl) mr (pa_cons (pe_call GP hr (by rfl) gP FP.kp bP .nil pass0 (pa_cons (pv 1) (pa_cons (pe_lst (pa_cons pe_int (pa_cons pe_int (pa_cons pe_int (pa_cons pe_int (pa_cons pe_int pa_nil)))))) pa_nil))) pa_nil))
          (blkOk_by (own := [("again", 7)]) (N := ["script", "heap", "turn", "text", "due", "told", "joined", "again", "line", "at", "mark"]) (sc := defScope sLaw) (by decide +kernel)) (fun _ _ _ _ _ => pg_name (i := 7) scLaw.nd rfl (Or.inl rfl)) (fun _ _ _ _ _ => pts_nil)
          (fun _ _ _ _ _ => pe_call GQ hr (by rfl) gQ FQ.kp bQ .nil pass0 (pa_cons (pv 1) pa_nil)))))
      (pss_cons (ps_set (i := 3) scLaw.nd rfl (.inl rfl) (pe_ifExp (pt_cmpR op_eq (pe_call GD hr (by rfl) gD FD.kp bD .nil pass0 (pa_cons (pv 1) (pa_cons pe_int pa_nil))) pe_int (nomark _))
          (pe_op op_add_str (pe_op op_add_str (pe_op op_add_str (pe_op op_add_str (pe_op op_mulT pe_str pe_int) pe_str) (pv 3)) pe_str) (pe_op op_mulT pe_str pe_int)) (pv 3)))
      (pss_cons (ps_set (i := 4) scLaw.nd rfl (.inl rfl) (pe_callTy call_tuple_of (by rfl) mt (by decide +kernel) (pa_cons (pe_call GL hr (by rfl) gL FL.kp bL .nil pass0 (pa_cons (pv 3) pa_nil)) pa_nil)))
      (pss_cons (ps_set (i := 5) scLaw.nd rfl (.inl rfl) (pe_call GM hr (by rfl) gM FM.kp bM .nil pass0 (pa_cons (pv 3) pa_nil)))
      (pss_cons (ps_if (PW.pt (pw_or (pt_cmpR op_ne (pe_callB (call_reprF hgd hr.units) (by rfl) mp (by decide +kernel) (pa_cons (pv 5) pa_nil)) (pe_callB (call_reprF hgd hr.units) (by rfl) mp (by decide +kernel) (pa_cons (pv 4) pa_nil)) (nomark _))
          (pw_or1 (pt_cmpR (op_neD hr.units) (pe_kwG (E := E0) (gV := id) (FnG.of GM) hrg (by rfl) gM FM.kp kM (fun _ r => r) (pk_cons (pv 3) pk_nil)) (pv 5) (nomark _))))) (pss_one (ps_ret pe_bl)) pss_nil)
      (pss_cons (ps_set (i := 6) scLaw.nd rfl (.inl rfl) (pe_join pe_str (pe_lc (own := [("line", 8), ("at", 9), ("mark", 10)]) (g := gMark K) (tt := tYes) rfl scLaw.nd (pi_tup (pv 4))
          (blkOk_by (own := [("line", 8), ("at", 9), ("mark", 10)]) (N := ["script", "heap", "turn", "text", "due", "told", "joined", "again", "line", "at", "mark"]) (sc := defScope sLaw) (by decide +kernel))
          (fun _ _ _ _ _ => pg_tup rfl (pgs_cons (pg_name (i := 8) scLaw.nd rfl (Or.inl rfl)) (pgs_cons (pg_name (i := 9) scLaw.nd rfl (Or.inl rfl)) (pgs_cons (pg_name (i := 10) scLaw.nd rfl (Or.inl rfl)) pgs_nil)))) (fun _ _ _ _ _ => pts_nil) (fun _ _ _ _ _ => pv 10))))
      (pss_one (ps_if (pt_cmpR (op_neD hr.units)
          (pe_lc (own := [("line", 8), ("at", 9), ("mark", 10)]) (g := gMark K) (tt := tYes) rfl scLaw.nd (pi_tup (pe_call GM hr (by rfl) gM FM.kp bM .nil pass0 (pa_cons (pv 6) pa_nil)))
            (blkOk_by (own := [("line", 8), ("at", 9), ("mark", 10)]) (N := ["script", "heap", "turn", "text", "due", "told", "joined", "again", "line", "at", "mark"]) (sc := defScope sLaw) (by decide +kernel))
            (fun _ _ _ _ _ => pg_tup rfl (pgs_cons (pg_name (i := 8) scLaw.nd rfl (Or.inl rfl)) (pgs_cons (pg_name (i := 9) scLaw.nd rfl (Or.inl rfl)) (pgs_cons (pg_name (i := 10) scLaw.nd rfl (Or.inl rfl)) pgs_nil)))) (fun _ _ _ _ _ => pts_nil) (fun _ _ _ _ _ => pv 10))
          (pe_lc (own := [("line", 8), ("at", 9), ("mark", 10)]) (g := gMark K) (tt := tYes) rfl scLaw.nd (pi_tup (pv 4))
            (blkOk_by (own := [("line", 8), ("at", 9), ("mark", 10)]) (N := ["script", "heap", "turn", "text", "due", "told", "joined", "again", "line", "at", "mark"]) (sc := defScope sLaw) (by decide +kernel))
            (fun _ _ _ _ _ => pg_tup rfl (pgs_cons (pg_name (i := 8) scLaw.nd rfl (Or.inl rfl)) (pgs_cons (pg_name (i := 9) scLaw.nd rfl (Or.inl rfl)) (pgs_cons (pg_name (i := 10) scLaw.nd rfl (Or.inl rfl)) pgs_nil)))) (fun _ _ _ _ _ => pts_nil) (fun _ _ _ _ _ => pv 10)) (nomark _))
        (pss_one (ps_ret pe_bl)) pss_nil))))))))) ?_
    refine blk_cons (ps_if (PW.pt (pw_or (pt_cmpR (op_neD hr.units) (pe_call GM hr (by rfl) gM FM.kp bM .nil pass0 (pa_cons pe_str pa_nil)) (pe_tup pa_nil) (nomark _))
        (pw_or (pt_cmpR (op_neD hr.units) (pe_call GM hr (by rfl) gM FM.kp bM .nil pass0 (pa_cons pe_str pa_nil)) (pe_tup pa_nil) (nomark _))
        (pw_or1 (pt_cmpR (op_neD hr.units) (pe_call GM hr (by rfl) gM FM.kp bM .nil pass0 (pa_cons pe_str pa_nil)) (pe_tup (pa_cons (pe_tup (pa_cons pe_int (pa_cons pe_int (pa_cons pe_str pa_nil)))) pa_nil)) (nomark _)))))) (pss_one (ps_ret pe_bl)) pss_nil) ?_
    refine blk_cons (ps_ret (pe_cmpR (op_eqD hr.units) (pe_call GM hr (by rfl) gM FM.kp bM .nil pass0 (pa_cons pe_str pa_nil)) (pe_tup (pa_cons (pe_tup (pa_cons pe_int (pa_cons pe_int (pa_cons pe_str pa_nil)))) (pa_cons (pe_tup (pa_cons pe_int (pa_cons pe_int (pa_cons pe_str pa_nil)))) (pa_cons (pe_tup (pa_cons pe_int (pa_cons pe_int (pa_cons pe_str pa_nil)))) (pa_cons (pe_tup (pa_cons pe_int (pa_cons pe_int (pa_cons pe_str pa_nil)))) (pa_cons (pe_tup (pa_cons pe_int (pa_cons pe_int (pa_cons pe_str pa_nil)))) (pa_cons (pe_tup (pa_cons pe_int (pa_cons pe_int (pa_cons pe_str pa_nil)))) (pa_cons (pe_tup (pa_cons pe_int (pa_cons pe_int (pa_cons pe_str pa_nil)))) (pa_cons (pe_tup (pa_cons pe_int (pa_cons pe_int (pa_cons pe_str pa_nil)))) (pa_cons (pe_tup (pa_cons pe_int (pa_cons pe_int (pa_cons pe_str pa_nil)))) (pa_cons (pe_tup (pa_cons pe_int (pa_cons pe_int (pa_cons pe_str pa_nil)))) pa_nil))))))))))) (nomark _))) ?_
    refine blk_nil ?_
    -- heap = _law_heap(script)
    refine ⟨.ref a, rfl, a, ns, rfl, hS, hlen, fun G0 hp l L st s0 nh nl hv => ?_⟩
    refine ⟨.ref a, rfl, a, _, rfl, .inl (s0.seq hS), _, _, rfl, rfl, .inr ⟨_, rfl, _, _, rfl, rfl, .inl ⟨by decide, by decide⟩, _, _, rfl, rfl, _, rfl, ?_, ?_, ?_⟩⟩
    · split <;> omega
    · split <;> omega
    refine for_range (lo := 0) (fun i σ G => ∃ (L : List Int) (st : Int) (y2 y3 y4 y5 y6 : Option V), σ = [some (.ref a), some (.ref hp), y2, y3, y4, y5, y6, none, none, none, none] ∧ Hv G hp l L st)
      ⟨L, st, none, none, none, none, none, rfl, hv⟩ (fun i σ G hi hP => ?_) (fun σ G hP => ?_)
    · obtain ⟨L1, st1, y2, y3, y4, y5, y6, rfl, hv1⟩ := hP
      -- text = ''.join([..])
      refine ⟨⟨_, rfl⟩, ?_⟩
      refine ⟨.ref hp, rfl, by show 5 ≤ sizeLine; decide, fun p np => ?_⟩
      refine ⟨hp, l, L1, st1, p, [.int 5, .int 20, .int 1, .int 60, .int 0], rfl, hv1.new np, sqL upd_same, (ne_of_none hv1.top np).symm, (ne_of_none hv1.bot np).symm, by decide, by decide, fun G2 L2 st2 j x bt2 hv2 hx => ?_⟩
      obtain ⟨m, rfl, m0, m1⟩ := pick5 hx
      refine ⟨_, rfl, by omega, by omega, fun D nD => ?_⟩
      have neh : hp ≠ D := ne_of_none hv2.top nD
      have nel : l ≠ D := ne_of_none hv2.bot nD
      refine lc_range (lo := 0) (n := m.toNat) (fun i G' => (∃ L4 st4, Hv G' hp l L4 st4) ∧ ∃ ys : List Str, G' D = some (.lst (ys.map V.str)) ∧ (∀ y ∈ ys, Plain 30 y) ∧ ys.length = i)
        ⟨⟨_, _, hv2.new nD⟩, [], upd_same, fun y hy => absurd hy List.not_mem_nil, rfl⟩ (fun i G' hi hP => ?_) (fun G' hP => ?_)
      · obtain ⟨⟨L4, st4, hv4⟩, ys, gD, hy, yl⟩ := hP
        refine ⟨rfl, ?_⟩
        dsimp only [tYes]
        rw [if_pos rfl]
        refine ⟨.ref hp, rfl, hp, l, L4, st4, rfl, hv4, fun G5 L5 st5 z bt5 hv5 hz => ?_⟩
        refine ⟨ys.map V.str, bt5 _ _ neh.symm nel.symm gD, ?_, ⟨L5, st5, ⟨(upd_ne neh).trans hv5.top, (upd_ne nel).trans hv5.bot, hv5.ne, hv5.lo, hv5.hi, hv5.len⟩⟩, ys ++ [z], ?_, ?_, ?_⟩
        · rw [List.length_map]
          exact small1000 (by omega)
        · rw [upd_same, List.map_append]
          rfl
        · intro y hm
          rcases List.mem_append.mp hm with e | e
          · exact hy y e
          · obtain rfl : y = z := by simpa using e
            exact hz
        · rw [List.length_append, yl]
          rfl
      · obtain ⟨⟨L4, st4, hv4⟩, ys, gD, hy, yl⟩ := hP
        have pz : Plain (60 * 30) (Txt.join (Str.ofString "") ys) := Plain.join plain_empty hy (by omega)
        refine ⟨_, D, ys, rfl, rfl, .inl (sqL gD), ?_, ?_⟩
        · have h1 := sum_le (f := fun z : Str => z.length) (b := 30) (l := ys) fun y hm => (hy y hm).1
          have h2 : (Str.ofString "").length = 0 := by decide +kernel
          rw [h2]
          omega
        generalize Txt.join (Str.ofString "") ys = z at pz ⊢
        -- text = .. if .. else text
        dsimp only [gName]
        refine seq_out (t := tAsg _ _) (fun σ' G6 => ∃ z2 : Str, Plain 3000 z2 ∧ σ' = [some (.ref a), some (.ref hp), some (.int (0 + i)), some (.str z2), y4, y5, y6, none, none, none, none] ∧ ∃ L6 st6, Hv G6 hp l L6 st6) (fun N hN => ?_) (fun σ' G6 hR => ?_)
        · refine ⟨.ref hp, rfl, hp, l, L4, st4, 5, rfl, hv4, by decide, by decide, fun G6 L6 st6 r bt6 hv6 r0 r1 => ?_⟩
          refine ⟨rfl, _, rfl, ite2 (fun _ => ?_) (fun _ => ?_)⟩
          · refine ⟨_, _, rfl, rfl, by decide +kernel, by decide, by decide, fun u1 hu1 hc1 => ?_⟩
            have e7 : (Str.ofString "7").length = 1 := by decide +kernel
            have e12 : (Str.ofString "12").length = 2 := by decide +kernel
            have p1 : Plain 390 u1 := ⟨by rw [e7] at hu1; omega, fun c hc => (by decide +kernel : ∀ c ∈ (Str.ofString "7").cps.toList, c < 1000) c (hc1 c hc)⟩
            have pb : Plain 1 (Str.ofString " ") := plain_lit (by decide +kernel)
            have pc : Plain 1 (Str.ofString ":") := plain_lit (by decide +kernel)
            have p2 := p1.app pb
            have p3 := p2.app pz
            have p4 := p3.app pc
            refine ⟨_, _, rfl, rfl, Nat.le_trans (Nat.add_le_add p1.1 pb.1) (by decide), _, rfl, _, _, rfl, rfl, Nat.le_trans (Nat.add_le_add p2.1 pz.1) (by decide), _, _, rfl, rfl, Nat.le_trans (Nat.add_le_add p3.1 pc.1) (by decide),
              _, _, rfl, rfl, by decide +kernel, by decide, by decide, fun u2 hu2 hc2 => ?_⟩
            have p5 : Plain 380 u2 := ⟨by rw [e12] at hu2; omega, fun c hc => (by decide +kernel : ∀ c ∈ (Str.ofString "12").cps.toList, c < 1000) c (hc2 c hc)⟩
            exact ⟨_, _, rfl, rfl, Nat.le_trans (Nat.add_le_add p4.1 p5.1) (by decide), hN _ _ ⟨_, (p4.app p5).mono (by decide), rfl, L6, st6, hv6⟩⟩
          · exact ⟨_, rfl, hN _ _ ⟨_, pz.mono (by decide), rfl, L6, st6, hv6⟩⟩
        obtain ⟨z2, p2, rfl, L6, st6, hv6⟩ := hR
        have hz := p2.size (by decide)
        obtain ⟨hf, hdep, hco⟩ := M_fine p2 (by decide)
        obtain ⟨hjl, hjt⟩ := M_texts p2 (by decide)
        have hml := len_M p2.1 (by decide)
        have hsh := fine_shaped hf hdep
        -- due = tuple(_law_marks(text))
        refine ⟨.str z2, rfl, z2, rfl, hz, p2.2, fun G8 p8 us s8 n8 g8 d8 => ⟨p8, us, rfl, .inl ⟨sqL g8, fun pd npd => ?_⟩⟩⟩
        have dpd : Dp K (upd G8 pd (.tup us)) (.ref pd) (mdata (M z2.cps.toList 0 0)) := .tup (sqT upd_same) (dpAll_same (same_new npd) _ _ d8)
        have hv9 : Hv (upd G8 pd (.tup us)) hp l L6 st6 := (hv6.same s8).new npd
        -- told = marks_of(text)
        refine ⟨.str z2, rfl, z2, rfl, hz, fun G10 pt s10 dpt => ?_⟩
        have dpd10 := dp_same s10 _ _ dpd
        -- repr(told) != repr(due)
        refine ⟨.ref pt, rfl, pt, _, rfl, dpt, hf, hdep, hco, .ref pd, rfl, pd, _, rfl, dpd10, hf, hdep, hco, rfl, _, rfl, ?_⟩
        rw [decide_eq_true rfl]
        refine iteF ?_
        -- marks_of(text=text) != told
        refine ⟨.str z2, rfl, rfl, z2, rfl, hz, fun G11 p11 s11 dp11 => ⟨.ref pt, rfl, _, _, dp11, dp_same s11 _ _ dpt, hsh, hsh, _, rfl, ?_⟩⟩
        rw [fine_eqv hf]
        refine iteF ?_
        have s911 := s10.trans s11
        have ht : SqT K G11 pd us := sqT (s911 _ _ upd_same)
        have dA : DpAll K G11 us ((M z2.cps.toList 0 0).map m3) := dpAll_same s911 _ _ (dpAll_same (same_new npd) _ _ d8)
        have hv11 := hv9.same s911
        generalize hms : M z2.cps.toList 0 0 = ms at hf hdep hco hjl hjt hml hsh dA dpd10 dpd dpt dp11 d8 ⊢
        -- joined = ' '.join([..])
        refine ⟨⟨_, rfl⟩, .ref pd, rfl, pd, rfl, ⟨_, ht⟩, fun D2 nD2 => lc_texts nD2 ht dA hml fun G12 s12 e12 => ?_⟩
        have ev : txV ms = ((tx ms).map sOf).map V.str := by
          unfold txV
          rw [List.map_map]
          rfl
        refine ⟨_, D2, (tx ms).map sOf, rfl, rfl, .inl (sqL (ev ▸ e12)), ?_, ?_⟩
        · have h1 := (M_cost _ z2.cps.toList 0 0 (Nat.le_refl _)).2
          rw [hms] at h1
          have h2 : ∀ ms : List Mk, (((tx ms).map sOf).map (·.length)).sum + ((tx ms).map sOf).length = (ms.map fun q => q.2.2.length + 1).sum := fun ms => by
            induction ms with
            | nil => rfl
            | cons q r ih =>
              unfold tx at ih ⊢
              simp only [List.map_cons, List.sum_cons, List.length_cons, sOf_len] at ih ⊢
              omega
          have h3 := h2 ms
          have h4 : (Str.ofString " ").length = 1 := by decide +kernel
          have h5 : z2.cps.toList.length ≤ 3000 := p2.1
          rw [h4, Nat.mul_one]
          omega
        rw [z_bl, join_blank]
        -- [..] != [..]
        have hjz : (sOf (joinB (tx ms))).length ≤ 200000 := by
          rw [sOf_len]
          exact hjl
        refine ⟨.str (sOf (joinB (tx ms))), rfl, sOf (joinB (tx ms)), rfl, Nat.le_trans hjz (by decide), fun G13 p13 s13 dp13 => ?_⟩
        have hml2 := len_M hjz (by decide)
        rw [sOf_list] at dp13 hml2
        obtain ⟨us2, hu2, dA2⟩ : ∃ us2, SqT K G13 p13 us2 ∧ DpAll K G13 us2 ((M (joinB (tx ms)) 0 0).map m3) := by
          cases dp13 with
          | tup h1 h2 => exact ⟨_, h1, h2⟩
        refine ⟨p13, rfl, ⟨_, hu2⟩, fun D3 nD3 => lc_texts nD3 hu2 dA2 hml2 fun G14 s14 e14 => ?_⟩
        have s1114 := (s12.trans s13).trans s14
        refine ⟨.ref pd, rfl, pd, rfl, ⟨_, same_seqT s1114 ht⟩, fun D4 nD4 => lc_texts nD4 (same_seqT s1114 ht) (dpAll_same s1114 _ _ dA) hml fun G15 s15 e15 => ?_⟩
        have hfl : fine (.list ((tx ms).map fun m => .str (sOf m))) = true := by
          rw [fine]
          refine fineAll_mem fun d hd => ?_
          obtain ⟨m, hm, rfl⟩ := List.mem_map.mp hd
          obtain ⟨q, hq, rfl⟩ := List.mem_map.mp hm
          refine fine_str.mpr fun c hc => p2.2 c ?_
          rw [sOf_list] at hc
          rw [← hms] at hq
          exact (M_all _ z2.cps.toList 0 0 (Nat.le_refl _) (Int.le_refl _) (Int.le_refl _) q hq).2.2.2.2 c hc
        have hdl : (PyData.list ((tx ms).map fun m => .str (sOf m))).depth ≤ 60 := by
          rw [PyData.depth]
          have : PyData.depthAll ((tx ms).map fun m => PyData.str (sOf m)) ≤ 1 := depthAll_mem fun d hd => by
            obtain ⟨m, _, rfl⟩ := List.mem_map.mp hd
            simp [PyData.depth]
          omega
        have d14 := dp_same s15 _ _ (dp_texts (K := K) e14)
        rw [hjt] at d14
        refine ⟨_, _, d14, dp_texts e15, fine_shaped hfl hdl, fine_shaped hfl hdl, _, rfl, ?_⟩
        rw [fine_eqv hfl]
        refine iteF ?_
        exact ⟨L6, st6, _, _, _, _, _, rfl, hv11.same (s1114.trans s15)⟩
    · obtain ⟨L1, st1, y2, y3, y4, y5, y6, rfl, hv1⟩ := hP
      have m0 : M (Str.ofString "").cps.toList 0 0 = [] := by rw [M_f 0 _ _ _ (by decide +kernel)]; rfl
      have m2 : M (Str.ofString "  ").cps.toList 0 0 = [] := by rw [M_f 2 _ _ _ (by decide +kernel)]; decide +kernel
      have mn : M (Str.ofString " \n").cps.toList 0 0 = [(0, 1, [10])] := by rw [M_f 2 _ _ _ (by decide +kernel)]; decide +kernel
      have ma : M (Str.ofString "any:2 b\n12,-c3").cps.toList 0 0 = [(0, 0, [97, 110, 121]), (0, 3, [58]), (0, 4, [50]), (0, 6, [98]), (0, 7, [10]), (1, 0, [49, 50]), (1, 2, [44]), (1, 3, [45]), (1, 4, [99]), (1, 5, [51])] := by rw [M_f 15 _ _ _ (by decide +kernel)]; decide +kernel
      have ev0 : PyData.eqv (.tuple []) (.tuple []) = true := SeqAt.eqv_refl _ rfl
      refine ⟨_, rfl, by decide +kernel, fun G1 p1 s1 d1 => ⟨Nat.zero_le _, fun q1 n1 => ?_⟩⟩
      rw [m0] at d1
      refine ⟨.tuple [], .tuple [], dp_same (same_new n1) _ _ d1, .tup (sqT upd_same) .nil, rfl, rfl, _, rfl, ?_⟩
      rw [ev0]
      refine iteF ?_
      refine ⟨_, rfl, by decide +kernel, fun G2 p2 s2 d2 => ⟨Nat.zero_le _, fun q2 n2 => ?_⟩⟩
      rw [m2] at d2
      refine ⟨.tuple [], .tuple [], dp_same (same_new n2) _ _ d2, .tup (sqT upd_same) .nil, rfl, rfl, _, rfl, ?_⟩
      rw [ev0]
      refine iteF ?_
      refine ⟨_, rfl, by decide +kernel, fun G3 p3 s3 d3 => ⟨by show 3 ≤ sizeLine; decide, fun q3 n3 => ⟨by show 1 ≤ sizeLine; decide, fun q4 n4 => ?_⟩⟩⟩
      rw [mn] at d3
      have ev1 : PyData.eqv (.tuple [.tuple [.int 0, .int 1, .str (sOf [10])]]) (.tuple [.tuple [.int 0, .int 1, .str (sOf [10])]]) = true := by decide +kernel
      refine ⟨.tuple [.tuple [.int 0, .int 1, .str (sOf [10])]], .tuple [.tuple [.int 0, .int 1, .str (sOf [10])]], dp_same ((same_new n3).trans (same_new n4)) _ _ d3,
        .tup (sqT upd_same) (.cons (.tup (xs := [.int 0, .int 1, .str (Str.ofString "\n")]) (sqT ((upd_ne (ne_of_none upd_same n4)).trans upd_same)) (.cons (.int _) (.cons (.int _) (.cons (z_nl ▸ .str _) .nil)))) .nil), by decide +kernel, by decide +kernel, _, rfl, ?_⟩
      rw [ev1]
      refine iteF ?_
      -- the last line
      refine ⟨_, rfl, by decide +kernel, fun G4 p4 s4 dl => ?_⟩
      rw [ma] at dl
      have d0 : DpAll K G4 [] [] := .nil
      have e0 : Same G4 G4 := Same.refl _
      refine ⟨by show 3 ≤ sizeLine; decide, fun q1 n1 => ?_⟩
      have d1 := dpAll_snoc (dpAll_same (same_new (o := .tup [.int 0, .int 0, .str (Str.ofString "any")]) n1) _ _ d0) (.tup (ds := [.int 0, .int 0, .str (Str.ofString "any")]) (sqT upd_same) (.cons (.int _) (.cons (.int _) (.cons (.str _) .nil))))
      have e1 := e0.trans (same_new (o := .tup [.int 0, .int 0, .str (Str.ofString "any")]) n1)
      refine ⟨by show 3 ≤ sizeLine; decide, fun q2 n2 => ?_⟩
      have d2 := dpAll_snoc (dpAll_same (same_new (o := .tup [.int 0, .int 3, .str (Str.ofString ":")]) n2) _ _ d1) (.tup (ds := [.int 0, .int 3, .str (Str.ofString ":")]) (sqT upd_same) (.cons (.int _) (.cons (.int _) (.cons (.str _) .nil))))
      have e2 := e1.trans (same_new (o := .tup [.int 0, .int 3, .str (Str.ofString ":")]) n2)
      refine ⟨by show 3 ≤ sizeLine; decide, fun q3 n3 => ?_⟩
      have d3 := dpAll_snoc (dpAll_same (same_new (o := .tup [.int 0, .int 4, .str (Str.ofString "2")]) n3) _ _ d2) (.tup (ds := [.int 0, .int 4, .str (Str.ofString "2")]) (sqT upd_same) (.cons (.int _) (.cons (.int _) (.cons (.str _) .nil))))
      have e3 := e2.trans (same_new (o := .tup [.int 0, .int 4, .str (Str.ofString "2")]) n3)
      refine ⟨by show 3 ≤ sizeLine; decide, fun q4 n4 => ?_⟩
      have d4 := dpAll_snoc (dpAll_same (same_new (o := .tup [.int 0, .int 6, .str (Str.ofString "b")]) n4) _ _ d3) (.tup (ds := [.int 0, .int 6, .str (Str.ofString "b")]) (sqT upd_same) (.cons (.int _) (.cons (.int _) (.cons (.str _) .nil))))
      have e4 := e3.trans (same_new (o := .tup [.int 0, .int 6, .str (Str.ofString "b")]) n4)
      refine ⟨by show 3 ≤ sizeLine; decide, fun q5 n5 => ?_⟩
      have d5 := dpAll_snoc (dpAll_same (same_new (o := .tup [.int 0, .int 7, .str (Str.ofString "\n")]) n5) _ _ d4) (.tup (ds := [.int 0, .int 7, .str (Str.ofString "\n")]) (sqT upd_same) (.cons (.int _) (.cons (.int _) (.cons (.str _) .nil))))
      have e5 := e4.trans (same_new (o := .tup [.int 0, .int 7, .str (Str.ofString "\n")]) n5)
      refine ⟨by show 3 ≤ sizeLine; decide, fun q6 n6 => ?_⟩
      have d6 := dpAll_snoc (dpAll_same (same_new (o := .tup [.int 1, .int 0, .str (Str.ofString "12")]) n6) _ _ d5) (.tup (ds := [.int 1, .int 0, .str (Str.ofString "12")]) (sqT upd_same) (.cons (.int _) (.cons (.int _) (.cons (.str _) .nil))))
      have e6 := e5.trans (same_new (o := .tup [.int 1, .int 0, .str (Str.ofString "12")]) n6)
      refine ⟨by show 3 ≤ sizeLine; decide, fun q7 n7 => ?_⟩
      have d7 := dpAll_snoc (dpAll_same (same_new (o := .tup [.int 1, .int 2, .str (Str.ofString ",")]) n7) _ _ d6) (.tup (ds := [.int 1, .int 2, .str (Str.ofString ",")]) (sqT upd_same) (.cons (.int _) (.cons (.int _) (.cons (.str _) .nil))))
      have e7 := e6.trans (same_new (o := .tup [.int 1, .int 2, .str (Str.ofString ",")]) n7)
      refine ⟨by show 3 ≤ sizeLine; decide, fun q8 n8 => ?_⟩
      have d8 := dpAll_snoc (dpAll_same (same_new (o := .tup [.int 1, .int 3, .str (Str.ofString "-")]) n8) _ _ d7) (.tup (ds := [.int 1, .int 3, .str (Str.ofString "-")]) (sqT upd_same) (.cons (.int _) (.cons (.int _) (.cons (.str _) .nil))))
      have e8 := e7.trans (same_new (o := .tup [.int 1, .int 3, .str (Str.ofString "-")]) n8)
      refine ⟨by show 3 ≤ sizeLine; decide, fun q9 n9 => ?_⟩
      have d9 := dpAll_snoc (dpAll_same (same_new (o := .tup [.int 1, .int 4, .str (Str.ofString "c")]) n9) _ _ d8) (.tup (ds := [.int 1, .int 4, .str (Str.ofString "c")]) (sqT upd_same) (.cons (.int _) (.cons (.int _) (.cons (.str _) .nil))))
      have e9 := e8.trans (same_new (o := .tup [.int 1, .int 4, .str (Str.ofString "c")]) n9)
      refine ⟨by show 3 ≤ sizeLine; decide, fun q10 n10 => ?_⟩
      have d10 := dpAll_snoc (dpAll_same (same_new (o := .tup [.int 1, .int 5, .str (Str.ofString "3")]) n10) _ _ d9) (.tup (ds := [.int 1, .int 5, .str (Str.ofString "3")]) (sqT upd_same) (.cons (.int _) (.cons (.int _) (.cons (.str _) .nil))))
      have e10 := e9.trans (same_new (o := .tup [.int 1, .int 5, .str (Str.ofString "3")]) n10)
      refine ⟨by show 10 ≤ sizeLine; decide, fun q11 n11 => ?_⟩
      refine ⟨mdata [(0, 0, [97, 110, 121]), (0, 3, [58]), (0, 4, [50]), (0, 6, [98]), (0, 7, [10]), (1, 0, [49, 50]), (1, 2, [44]), (1, 3, [45]), (1, 4, [99]), (1, 5, [51])], .tuple [.tuple [.int 0, .int 0, .str (Str.ofString "any")], .tuple [.int 0, .int 3, .str (Str.ofString ":")], .tuple [.int 0, .int 4, .str (Str.ofString "2")], .tuple [.int 0, .int 6, .str (Str.ofString "b")], .tuple [.int 0, .int 7, .str (Str.ofString "\n")], .tuple [.int 1, .int 0, .str (Str.ofString "12")], .tuple [.int 1, .int 2, .str (Str.ofString ",")], .tuple [.int 1, .int 3, .str (Str.ofString "-")], .tuple [.int 1, .int 4, .str (Str.ofString "c")], .tuple [.int 1, .int 5, .str (Str.ofString "3")]], dp_same (e10.trans (same_new n11)) _ _ dl, .tup (sqT upd_same) (dpAll_same (same_new n11) _ _ d10), by decide +kernel, by decide +kernel, ?_⟩
      rw [show PyData.eqv (mdata [(0, 0, [97, 110, 121]), (0, 3, [58]), (0, 4, [50]), (0, 6, [98]), (0, 7, [10]), (1, 0, [49, 50]), (1, 2, [44]), (1, 3, [45]), (1, 4, [99]), (1, 5, [51])]) (.tuple [.tuple [.int 0, .int 0, .str (Str.ofString "any")], .tuple [.int 0, .int 3, .str (Str.ofString ":")], .tuple [.int 0, .int 4, .str (Str.ofString "2")], .tuple [.int 0, .int 6, .str (Str.ofString "b")], .tuple [.int 0, .int 7, .str (Str.ofString "\n")], .tuple [.int 1, .int 0, .str (Str.ofString "12")], .tuple [.int 1, .int 2, .str (Str.ofString ",")], .tuple [.int 1, .int 3, .str (Str.ofString "-")], .tuple [.int 1, .int 4, .str (Str.ofString "c")], .tuple [.int 1, .int 5, .str (Str.ofString "3")]]) = true by decide +kernel]
      exact q _
end
end K5
namespace K5
open PySem PySem.Spec PyProof.Rows L2 Gd
theorem all_mk {l : PySem.W.OpenLaw} {w : World} {K : PySem.W.Frag} {h : Heap} {mg : Str → Option Value} {fa fM fE fR fH fD fP fK fL fQ fZ : Addr} (X : K.In h) (G : h.Ns mainGlobals mg) (hfa : mg "law" = some (.ref fa))
    {odM anM odE anE odR anR odH anH odD anD odP anP odK anK odL anL odQ anQ odZ anZ : Option Addr} {slM slE slR slH slD slP slK slL slQ slZ : Array (Option Value)} {ocM kVM dcM pmM cdM ctM ocE kVE dcE pmE cdE ctE ocR kVR dcR pmR cdR ctR ocH kVH dcH pmH cdH ctH ocD kVD dcD pmD cdD ctD ocP kVP dcP pmP cdP ctP ocK kVK dcK pmK cdK ctK ocL kVL dcL pmL cdL ctL ocQ kVQ dcQ pmQ cdQ ctQ ocZ kVZ dcZ pmZ cdZ ctZ : Value} {tL tD : Tok}
    (aM : PySem.W.nsIn K mainGlobals "marks_of" = some (some (.ref fM))) (lM : K.lookup fM = some ⟨ocM, odM, .func (PySem.W.fnOf "marks_of" "marks_of" (defArgs sMarks) (defBody sMarks) (defScope sMarks) .none kVM dcM pmM anM cdM ctM), slM⟩) (cM : PySem.W.codeIn K cdM "marks_of" = true) (kM : PySem.W.keepIn K (.ref fM) = true)
    (aE : PySem.W.nsIn K mainGlobals "mark_end" = some (some (.ref fE))) (lE : K.lookup fE = some ⟨ocE, odE, .func (PySem.W.fnOf "mark_end" "mark_end" (defArgs sEnd) (defBody sEnd) (defScope sEnd) .none kVE dcE pmE anE cdE ctE), slE⟩) (cE : PySem.W.codeIn K cdE "mark_end" = true) (kE : PySem.W.keepIn K (.ref fE) = true)
    (aR : PySem.W.nsIn K mainGlobals "run_end" = some (some (.ref fR))) (lR : K.lookup fR = some ⟨ocR, odR, .func (PySem.W.fnOf "run_end" "run_end" (defArgs sRun) (defBody sRun) (defScope sRun) .none kVR dcR pmR anR cdR ctR), slR⟩) (cR : PySem.W.codeIn K cdR "run_end" = true) (kR : PySem.W.keepIn K (.ref fR) = true)
    (aH : PySem.W.nsIn K mainGlobals "_law_heap" = some (some (.ref fH))) (lH : K.lookup fH = some ⟨ocH, odH, .func (PySem.W.fnOf "_law_heap" "_law_heap" (defArgs sHeap) (defBody sHeap) (defScope sHeap) .none kVH dcH pmH anH cdH ctH), slH⟩) (cH : PySem.W.codeIn K cdH "_law_heap" = true) (kH : PySem.W.keepIn K (.ref fH) = true)
    (aD : PySem.W.nsIn K mainGlobals "_law_draw" = some (some (.ref fD))) (lD : K.lookup fD = some ⟨ocD, odD, .func (PySem.W.fnOf "_law_draw" "_law_draw" (defArgs sDraw) (defBody sDraw) (defScope sDraw) .none kVD dcD pmD anD cdD ctD), slD⟩) (cD : PySem.W.codeIn K cdD "_law_draw" = true) (kD : PySem.W.keepIn K (.ref fD) = true)
    (aP : PySem.W.nsIn K mainGlobals "_law_pick" = some (some (.ref fP))) (lP : K.lookup fP = some ⟨ocP, odP, .func (PySem.W.fnOf "_law_pick" "_law_pick" (defArgs sPick) (defBody sPick) (defScope sPick) .none kVP dcP pmP anP cdP ctP), slP⟩) (cP : PySem.W.codeIn K cdP "_law_pick" = true) (kP : PySem.W.keepIn K (.ref fP) = true)
    (aK : PySem.W.nsIn K mainGlobals "_law_kind" = some (some (.ref fK))) (lK : K.lookup fK = some ⟨ocK, odK, .func (PySem.W.fnOf "_law_kind" "_law_kind" (defArgs sKind) (defBody sKind) (defScope sKind) .none kVK dcK pmK anK cdK ctK), slK⟩) (cK : PySem.W.codeIn K cdK "_law_kind" = true) (kK : PySem.W.keepIn K (.ref fK) = true)
    (aL : PySem.W.nsIn K mainGlobals "_law_marks" = some (some (.ref fL))) (lL : K.lookup fL = some ⟨ocL, odL, .func (PySem.W.fnOf "_law_marks" "_law_marks" (defArgs sLMarks) (defBody sLMarks) (defScope sLMarks) .none kVL dcL pmL anL cdL ctL), slL⟩) (cL : PySem.W.codeIn K cdL "_law_marks" = true) (kL : PySem.W.keepIn K (.ref fL) = true)
    (aQ : PySem.W.nsIn K mainGlobals "_law_piece" = some (some (.ref fQ))) (lQ : K.lookup fQ = some ⟨ocQ, odQ, .func (PySem.W.fnOf "_law_piece" "_law_piece" (defArgs sPiece) (defBody sPiece) (defScope sPiece) .none kVQ dcQ pmQ anQ cdQ ctQ), slQ⟩) (cQ : PySem.W.codeIn K cdQ "_law_piece" = true) (kQ : PySem.W.keepIn K (.ref fQ) = true)
    (aZ : PySem.W.nsIn K mainGlobals "law" = some (some (.ref fZ))) (lZ : K.lookup fZ = some ⟨ocZ, odZ, .func (PySem.W.fnOf "law" "law" (defArgs sLaw) (defBody sLaw) (defScope sLaw) .none kVZ dcZ pmZ anZ cdZ ctZ), slZ⟩) (cZ : PySem.W.codeIn K cdZ "law" = true) (kZ : PySem.W.keepIn K (.ref fZ) = true)
    (vL : PySem.W.nsIn K mainGlobals "LETTERS" = some (some (.str zL tL))) (vD : PySem.W.nsIn K mainGlobals "DIGITS" = some (some (.str zD tD)))
    (z0 : PySem.W.nsIn K mainGlobals "len" = some none)    (z1 : PySem.W.nsIn K mainGlobals "tuple" = some none)    (z2 : PySem.W.nsIn K mainGlobals "int" = some none)    (z3 : PySem.W.nsIn K mainGlobals "abs" = some none)    (z4 : PySem.W.nsIn K mainGlobals "range" = some none)    (z5 : PySem.W.nsIn K mainGlobals "repr" = some none) :
    ∃ fd : FuncData, (∀ (s : Shared) (v : Value), BindsTo s fd ⟨[v], []⟩ [("script", v)]) ∧ ∀ base : Heap, K.In base → base.Ns mainGlobals mg → FnG l.prog w K mg base 4 fa fd ["script"] (spLaw K) := by
  have e := hfa.symm.trans (PySem.W.mg_of X G aZ)
  cases e
  have FM := fun_mk (st := sMarks) lM cM kM
  have FE := fun_mk (st := sEnd) lE cE kE
  have FR := fun_mk (st := sRun) lR cR kR
  have FH := fun_mk (st := sHeap) lH cH kH
  have FD := fun_mk (st := sDraw) lD cD kD
  have FP := fun_mk (st := sPick) lP cP kP
  have FK := fun_mk (st := sKind) lK cK kK
  have FL := fun_mk (st := sLMarks) lL cL kL
  have FQ := fun_mk (st := sPiece) lQ cQ kQ
  have FZ := fun_mk (st := sLaw) lZ cZ kZ
  have bM := FM.binds (ps := ["text"]) fun _ _ _ _ _ _ us hl => match us, hl with | [_], _ => rfl
  have bE := FE.binds (ps := ["text", "at"]) fun _ _ _ _ _ _ us hl => match us, hl with | [_, _], _ => rfl
  have bR := FR.binds (ps := ["text", "at", "signs"]) fun _ _ _ _ _ _ us hl => match us, hl with | [_, _, _], _ => rfl
  have bH := FH.binds (ps := ["script"]) fun _ _ _ _ _ _ us hl => match us, hl with | [_], _ => rfl
  have bD := FD.binds (ps := ["heap", "many"]) fun _ _ _ _ _ _ us hl => match us, hl with | [_, _], _ => rfl
  have bP := FP.binds (ps := ["heap", "some"]) fun _ _ _ _ _ _ us hl => match us, hl with | [_, _], _ => rfl
  have bK := FK.binds (ps := ["sign"]) fun _ _ _ _ _ _ us hl => match us, hl with | [_], _ => rfl
  have bL := FL.binds (ps := ["text"]) fun _ _ _ _ _ _ us hl => match us, hl with | [_], _ => rfl
  have bQ := FQ.binds (ps := ["heap"]) fun _ _ _ _ _ _ us hl => match us, hl with | [_], _ => rfl
  have kM := kwB_of (ps := ["text"]) (ks := ["text"]) (g := id) FM fun _ _ _ _ _ _ ws hl => match ws, hl with | [_], _ => rfl
  exact ⟨PySem.W.fnOf "law" "law" (defArgs sLaw) (defBody sLaw) (defScope sLaw) .none kVZ dcZ pmZ anZ cdZ ctZ, fun s v => .of_eq rfl, fun base _ _ =>
    ok_law FZ FM FE FR FH FD FP FK FL FQ bM bE bR bH bD bP bK bL bQ kM (PySem.W.mg_of X G aM) (PySem.W.mg_of X G aE) (PySem.W.mg_of X G aR) (PySem.W.mg_of X G aH) (PySem.W.mg_of X G aD) (PySem.W.mg_of X G aP) (PySem.W.mg_of X G aK) (PySem.W.mg_of X G aL) (PySem.W.mg_of X G aQ) (PySem.W.mg_of X G vL) (PySem.W.mg_of X G vD) (PySem.W.mg_none_of X G z0) (PySem.W.mg_none_of X G z1) (PySem.W.mg_none_of X G z2) (PySem.W.mg_none_of X G z3) (PySem.W.mg_none_of X G z4) (PySem.W.mg_none_of X G z5)⟩
end K5
open PySem PySem.W PyProof.Rows
set_option maxHeartbeats 0 in
theorem PySem.Challenge.cw_neverregret_k05_marks_cut_and_joined_holds : PySem.Challenge.rw_neverregret_k05_marks_cut_and_joined.Holds := by
  w_on; o_law; k_head; (case hw => w_witness2)
  k_fill
  refine Gd.walk_G (l := PySem.Challenge.rw_neverregret_k05_marks_cut_and_joined) (n := 63) (k := 4) (x := "script") (sp := fun w => K5.spLaw _) rfl (by decide) rfl ⟨rfl, by decide, by decide⟩ (fun w h Y => PySem.W.kIn_of Y) ?F (fun _ _ a ns hl _ _ hS => ⟨a, ns, rfl, hS, hl, fun _ => rfl⟩)
  case F =>
    intro w mg fa h KX G hmg
    refine' K5.all_mk KX G hmg ?aM ?lM ?cM ?kM ?aE ?lE ?cE ?kE ?aR ?lR ?cR ?kR ?aH ?lH ?cH ?kH ?aD ?lD ?cD ?kD ?aP ?lP ?cP ?kP ?aK ?lK ?cK ?kK ?aL ?lL ?cL ?kL ?aQ ?lQ ?cQ ?kQ ?aZ ?lZ ?cZ ?kZ ?vL ?vD ?z0 ?z1 ?z2 ?z3 ?z4 ?z5
    (case aM => k_is); (case lM => k_is); (case cM => k_is); (case kM => k_is); (case aE => k_is); (case lE => k_is); (case cE => k_is); (case kE => k_is); (case aR => k_is); (case lR => k_is); (case cR => k_is); (case kR => k_is); (case aH => k_is); (case lH => k_is); (case cH => k_is); (case kH => k_is); (case aD => k_is); (case lD => k_is); (case cD => k_is); (case kD => k_is); (case aP => k_is); (case lP => k_is); (case cP => k_is); (case kP => k_is); (case aK => k_is); (case lK => k_is); (case cK => k_is); (case kK => k_is); (case aL => k_is); (case lL => k_is); (case cL => k_is); (case kL => k_is); (case aQ => k_is); (case lQ => k_is); (case cQ => k_is); (case kQ => k_is); (case aZ => k_is); (case lZ => k_is); (case cZ => k_is); (case kZ => k_is); (case vL => k_is); (case vD => k_is); (case z0 => k_is); (case z1 => k_is); (case z2 => k_is); (case z3 => k_is); (case z4 => k_is); (case z5 => k_is)
