import PyProof.Rows.All
import Wide.All
import OpenK.AllK
import Wide.FinOn
import HandS.ForMost
import HandS.Style
import HandS.Wide
import HandS.EndBits
import HandS.FStrTup
import Flt.Len
import KE.KxIndex
import HandS.ForExc
import HandS.IsInst
import HandS.ExcInit
import HandS.ExcField
import HandS.MakeKwOnly
import HandS.TupMul
import HandS.Zip
import HandS.TupAny
import HandS.More
import HandS.ExcIs
import KE.KExcIs
import KE.KIndexOf
import PySem.Challenge.RW_neverregret_k59_whole_disks_and_cuts
set_option Elab.async false
set_option linter.all false
set_option maxRecDepth 100000
/-! Defs whose promise holds where no repr is under way: so that repr of data is the text of the data. -/
namespace Gd
open PySem PySem.Spec PyProof.Rows L2
/-- room, and nothing is being shown -/
structure RmG (k : Nat) (A : Around) : Prop where
  rm : Room k A
  gd : A.guards = some []
theorem RmG.mono {j k : Nat} {A : Around} (r : RmG k A) (h : j ≤ k) : RmG j A := ⟨r.rm.mono h, r.gd⟩
structure FnG (P : Program) (w : World) (K : PySem.W.Frag) (mg : Str → Option Value) (base : Heap) (k : Nat) (f : Addr) (fd : FuncData) (ps : List Str) (sp : Sp) : Prop where
  len : ∀ xs H Q E, sp xs H Q E → xs.length = ps.length
  go : ∀ (A : Around) (out : List Env) (s : Shared) (H : Hp) (ar : Args) (us : List Value) (xs : List V) (Q : VK) (E : XK),
    RmG k A → Env0 P w K mg base A out s H → BindsTo s fd ar (ps.zip us) → Vals xs us → sp xs H Q E →
    codeAny (model P w) A (.call (.ref f) ar) (CR CX0 out P w H s Q E) s
section
variable {P : Program} {w : World} {K : PySem.W.Frag} {mg : Str → Option Value} {base : Heap}
theorem FnG.of {k : Nat} {f : Addr} {fd : FuncData} {ps : List Str} {sp : Sp} (F : FnOk P w K mg base CX0 k f fd ps sp) : FnG P w K mg base k f fd ps sp :=
  ⟨F.len, fun A out s H ar us xs Q E hr => F.run A out s H ar us xs Q E hr.rm⟩
theorem FnG.mono {j k : Nat} {f : Addr} {fd : FuncData} {ps : List Str} {sp : Sp} (F : FnG P w K mg base j f fd ps sp) (h : j ≤ k) : FnG P w K mg base k f fd ps sp :=
  ⟨F.len, fun A out s H ar us xs Q E hr => F.go A out s H ar us xs Q E (hr.mono h)⟩
/-- a def of the text, by its body -/
theorem okG {x qual : Str} {st : Stmt} {f : Addr} {fd : FuncData} {N ps : List Str} {k : Nat} {sp : Sp} (F : Fun K x qual st f fd) (S : FnScope N ps (defScope st))
    (len : ∀ xs H Q E, sp xs H Q E → xs.length = ps.length)
    (body : ∀ (cdv : Value) (A : Around) (out : List Env) (s : Shared) (H : Hp) (xs : List V) (Q : VK) (E : XK),
      RmG k (A.deeper (envOfC qual (defScope st) s.heap.objs.size f cdv)) → sp xs H Q E →
      ∃ t, PSs (cxOf CX0 P w K mg base N qual (defScope st) f cdv A out s H E).nox (defBody st) t ∧ t { nx := fun _ G => Q .non G, rt := Q } (start N xs) H) :
    FnG P w K mg base (k + 1) f fd ps sp := by
  obtain ⟨oc, od, kV, doc, pm, an, cv, ct, osl, rfl, lk, hc⟩ := F.ex
  refine ⟨len, fun A out s H ar us xs Q E hr e0 hb rv hsp => ?_⟩
  have hl := len _ _ _ _ hsp
  have up : ∀ b o, base.get? b = some o → s.heap.get? b = some o := fun b o e => (e0.bs b o e).1
  have KX := e0.mod.kin.keeps up
  have lim := e0.mod.nolimit.keeps up
  refine codeAny_call_function hr.rm.depth (KX _ _ lk) rfl S.co S.gen rfl (PySem.W.codeRec_of KX hc) (hb _ _ _ _ ?_)
  refine wpAny_newFunctionEnv_cells S.kind (fun y hy => ?_) fun env he s1 I1 => ?_
  · rcases S.par y.1 (List.of_mem_zip hy).1 with q | q
    · exact .inl q
    · exact .inr ⟨q, PySem.W.cellsFrom_some _ _ _ (.inl q)⟩
  subst he
  refine ⟨lim.keeps I1.toInCall.keep, codeAny_func ?_⟩
  obtain ⟨t, ht, hq⟩ := body cv A out s H xs Q E ⟨hr.rm.deeper _, hr.gd⟩ hsp
  refine wpAny_mono (ht.nox.run [] s1 (start N xs) H _ (inv_start S hr.rm.hd e0 hl rv I1) hq) (fun fl s' hs => ?_) fun _ _ z => z
  cases fl with
  | ret u => obtain ⟨v, σ', G, J, r1, q⟩ := hs; exact ⟨v, G, J.os, J.bare, J.base, J.hok, r1, q⟩
  | next => obtain ⟨σ', G, J, q⟩ := hs; exact ⟨.non, G, J.os, J.bare, J.base, J.hok, rfl, q⟩
  | brk => exact (hs.choose_spec.choose_spec.2).elim
  | cont => exact (hs.choose_spec.choose_spec.2).elim
end
section
variable {X : Cx} {k : Nat} {f : Addr} {fd : FuncData} {ps ks : List Str} {sp : Sp} {dvs : List V} {ds : List Value} {E : XK} {x : Str} {p pos : Pos} {e : Expr} {es : List Expr} {kws : List Keyword} {t tk : TA}
theorem run_G {pins : List (Addr × Obj)} {σ : L2.St} {H : Hp} {s : Shared} {Q : VK} {ar : Args} {us : List Value} {xs : List V} (F : FnG X.prog X.w X.K X.mg X.base k f fd ps sp) (hr : RmG k X.A)
    (I : Inv X pins σ H s) (b : BindsTo s fd ar (ps.zip us)) (rv : Vals xs us) (h : sp xs H Q E) : codeAny (model X.prog X.w) X.A (.call (.ref f) ar) (fun r s' => ∃ u, r = .ok (.ret u) ∧ EP X pins σ Q u s') s := by
  refine codeAny_mono (F.go X.A X.stack s H ar us xs Q E hr I.env0 b rv h) fun r s' hq => ?_
  rcases r with e | fl
  · exact hq.elim
  · cases fl with
    | ret u => exact ⟨u, rfl, I.after hq⟩
    | next => exact hq.elim
    | brk => exact hq.elim
    | cont => exact hq.elim
theorem call_G {pins : List (Addr × Obj)} {σ : L2.St} {H : Hp} {s : Shared} {Q : VK} {us : List Value} {xs : List V} (F : FnG X.prog X.w X.K X.mg X.base k f fd ps sp) (hr : RmG k X.A) (hb : Binds X.K fd ps ds) (hd : Vals dvs ds)
    (I : Inv X pins σ H s) (rv : Vals xs us) (h : sp (xs ++ dvs) H Q E) : wpAny (model X.prog X.w) X.A (call (.ref f) us) (EP X pins σ Q) X.xe s := by
  have r2 : Vals (xs ++ dvs) (us ++ ds) := rv.append hd
  have hl : (us ++ ds).length = ps.length := r2.length.symm.trans (F.len _ _ _ _ h)
  refine wpAny_call (codeAny_mono (run_G F hr I (hb s us I.kIn hl) r2 h) fun r s' hq => ?_)
  obtain ⟨u, rfl, z⟩ := hq
  exact z
/-- f(e, ..) -/
theorem pe_callG (F : FnG X.prog X.w X.K X.mg X.base k f fd ps sp) (hr : RmG k X.A) (hg : Gl X x) (hm : X.mg x = some (.ref f)) (hk : PySem.W.keepIn X.K (.ref f) = true) (hb : Binds X.K fd ps ds) (hd : Vals dvs ds)
    (ha : PA X (e :: es) t) (h1 : (x == ("__debug__" : Str)) = false := by decide)
    (h2 : starEach (e :: es) X.env = (false, eval e X.env) :: starEach es X.env := by rfl) (h3 : (backTo pos (starEach es X.env)).any (·.1) = false := by rfl) :
    PE X (.Call (.Name x p) (e :: es) [] pos) (tCall sp dvs E t) :=
  ⟨fun pins s σ H Q I h => wpAny_Call_Name_kw (ld_glob I hg hm (PySem.W.callWith_K (h₀ := X.base) I.ok.mod.kin hk
    (thn (ha.run pos pins s σ H _ I h) fun us s1 ⟨vs, H1, I1, r, q⟩ => ⟨I1.kIn, call_G F hr hb hd I1 r q⟩) h2 h3) h1)⟩
/-- repr of data -/
theorem call_repr (hg : X.A.guards = some []) (hu : X.A.units + 64 < cLine) : CallR X (.builtin "repr") (fun xs H Q => ∃ a d, xs = [.ref a] ∧ Dp X.K H (.ref a) d ∧ d.showable = true ∧ d.hasDict = false ∧ d.depth ≤ 60 ∧ d.shown.length ≤ sizeLine ∧ Q (.str d.shown) H) := by
  intro pins s σ H xs us Q I r h
  obtain ⟨a, d, rfl, hp, hs, hn, hd, hz, q⟩ := h
  obtain ⟨u, rfl, ru⟩ := vals1 r
  obtain rfl : u = .ref a := ru
  obtain ⟨as, rd⟩ := Dp.reads I d _ _ hp rfl
  exact repr_of_reads' rd hs (PyData.noDict_hsm hn) hg (by omega) (fun _ _ z => z) (fun h' u tk hk => ⟨.str d.shown, H, I.kept hk, ⟨_, rfl⟩, q⟩) hz
/-- repr of an int -/
theorem call_reprI : CallR X (.builtin "repr") (fun xs H Q => ∃ i, xs = [.int i] ∧ i.natAbs.log2 < 1920 ∧ Q (.str (toString i)) H) := by
  intro pins s σ H xs us Q I r h
  obtain ⟨i, rfl, hz, q⟩ := h
  obtain ⟨u, rfl, tk, rfl⟩ := vals1 r
  exact PySem.P.repr_of_int hz ⟨.str _, H, I.tok _, ⟨_, rfl⟩, q⟩
end
end Gd
/-! The end of a law row, from a promise that holds where no repr is under way. -/
namespace Gd
open PySem PySem.Spec PyProof.Rows L2
section
variable {P : Program} {w : World} {K : PySem.W.Frag} {mg mb : Str → Option Value} {k : Nat} {fa a : Addr} {fd : FuncData} {x : Str} {sp : Sp} {s : Shared} {vs : List Value} {ns : List Int}
/-- the heap H tracks nothing but the script -/
structure Bare (K : PySem.W.Frag) (a : Addr) (H : Hp) : Prop where
  one : ∀ b, H b ≠ none → b = a
  out : H a ≠ none → K.lookup a = none
theorem hid_map {H : Hp} (ha : s.heap.get? a = some { cls := .type "list", data := .seq vs.toArray }) (B : Bare K a H) {b : Addr} {m : Str → Option Value} (h : s.heap.Ns b m) : (hidT s.heap H).Ns b m := by
  obtain ⟨o, es, ep, e, d, r⟩ := h
  refine ⟨o, es, ep, hidT_get e ?_, d, r⟩
  cases q : H b with
  | none => rfl
  | some u =>
    have z := B.one b (by simp [q])
    subst z
    have z2 := Option.some.inj (ha.symm.trans e)
    subst z2
    exact absurd d (by intro z; cases z)
theorem hid_in {H : Hp} (KX : K.In s.heap) (B : Bare K a H) : K.In (hidT s.heap H) := fun b o e => hidT_get (KX b o e) (by
  cases q : H b with
  | none => rfl
  | some u =>
    have z := B.one b (by simp [q])
    subst z
    have z2 := B.out (by simp [q])
    rw [z2] at e
    cases e)
theorem end_core (KX : K.In s.heap) (hns : s.heap.Ns mainGlobals mg) (hb : s.heap.Ns builtinsNs mb) (hbb : ∀ y : Str, y ≠ "__name__" → mb y = bootBuiltins y) (hlim : s.heap.NoLimit) (hg : s.gens = #[])
    (ha : s.heap.get? a = some { cls := .type "list", data := .seq vs.toArray }) (hr : Room k callerA)
    (F : ∀ base : Heap, K.In base → base.Ns mainGlobals mg → FnG P w K mg base k fa fd [x] sp) (hbind : ∀ (t : Shared) (u : Value), BindsTo t fd ⟨[u], []⟩ [(x, u)])
    {H : Hp} (hO : Only H) (hok : HOk P w H s.heap) (B : Bare K a H) (h : sp [.ref a] H (fun v _ => v = .bl true) fun _ _ _ => False) :
    codeAny (model P w) callerA (.call (.ref fa) ⟨[.ref a], []⟩) (fun r s' => r = .ok (.ret (.bool true)) ∧ OldK s.heap s'.heap ∧ s'.os = s.os ∧ AllBare s'.gens) s := by
  have KB := hid_in KX B
  have NB := hid_map ha B hns
  have MB : Mod K mg (hidT s.heap H) := ⟨KB, NB, ⟨mb, hid_map ha B hb, hbb⟩, hlim.elim fun mc z => ⟨mc, hid_map ha B z.1, z.2⟩⟩
  have e0 : Env0 P w K mg (hidT s.heap H) callerA [] s H :=
    ⟨rfl, MB, fun b o e => of_hidT e, Nat.le_of_eq (hidT_size _ _), trivial, fun b z => (nomatch (show b ∈ ([] : List Addr) from z)), hok, .of_eq hg⟩
  refine codeAny_mono ((F _ KB NB).go callerA [] s H ⟨[.ref a], []⟩ [.ref a] [.ref a] _ _ ⟨hr, rfl⟩ e0 (hbind s (.ref a)) (.cons rfl .nil) h) fun r s' z => ?_
  rcases r with e | fl
  · exact z.elim
  · cases fl with
    | next => exact z.elim
    | brk => exact z.elim
    | cont => exact z.elim
    | ret u =>
      obtain ⟨v, G, os, bare, un, okG, ru, rfl⟩ := z
      obtain rfl : u = Value.bool true := ru
      refine ⟨rfl, OldK.of_keep fun b o e => ?_, os, bare⟩
      cases q : H b with
      | none => exact un.keep b o e q (fun z => nomatch (show b ∈ ([] : List Addr) from z)) (fun z => nomatch z)
      | some u =>
        rcases hO b with z | ⟨ob, xs, z⟩
        · exact nomatch q.symm.trans z
        · have e1 := (hok b _ z).1
          have e2 := (okG b _ (un.frzs b ob _ z)).1
          exact e2.trans (e1.symm.trans e)
theorem end_call (KX : K.In s.heap) (hns : s.heap.Ns mainGlobals mg) (hb : s.heap.Ns builtinsNs mb) (hbb : ∀ y : Str, y ≠ "__name__" → mb y = bootBuiltins y) (hlim : s.heap.NoLimit) (hg : s.gens = #[])
    (ha : s.heap.get? a = some { cls := .type "list", data := .seq vs.toArray }) (hi : IntsAre vs ns) (hl : ns.length ≤ sizeLine) (hr : Room k callerA)
    (F : ∀ base : Heap, K.In base → base.Ns mainGlobals mg → FnG P w K mg base k fa fd [x] sp) (hbind : ∀ (t : Shared) (u : Value), BindsTo t fd ⟨[u], []⟩ [(x, u)])
    (hsp : ∀ H : Hp, Only H → SqL K H a (ns.map V.int) → sp [.ref a] H (fun v _ => v = .bl true) fun _ _ _ => False) :
    codeAny (model P w) callerA (.call (.ref fa) ⟨[.ref a], []⟩) (fun r s' => r = .ok (.ret (.bool true)) ∧ OldK s.heap s'.heap ∧ s'.os = s.os ∧ AllBare s'.gens) s := by
  have rv := vals_ints hi
  cases hk : K.lookup a with
  | some o =>
    have e := Option.some.inj (ha.symm.trans (KX a o hk))
    subst e
    have hO : Only fun _ => none := fun _ => .inl rfl
    exact end_core KX hns hb hbb hlim hg ha hr F hbind hO (fun b u z => nomatch (show (none : Option HO) = some u from z)) ⟨fun b z => absurd rfl z, fun z => absurd rfl z⟩
      (hsp _ hO (.inr ⟨_, vs.toArray, _, hk, rfl, rfl, rfl, by rw [List.size_toArray, hi.length]; exact hl, by simpa using rv⟩))
  | none =>
    let H : Hp := fun b => if b = a then some (.frz { cls := .type "list", data := .seq vs.toArray } (.lst (ns.map V.int))) else none
    have at_a : H a = some (.frz { cls := .type "list", data := .seq vs.toArray } (.lst (ns.map V.int))) := if_pos rfl
    have off : ∀ {b}, b ≠ a → H b = none := fun h => if_neg h
    have hO : Only H := fun b => by
      by_cases z : b = a
      · exact .inr ⟨_, _, if_pos z⟩
      · exact .inl (off z)
    refine end_core KX hns hb hbb hlim hg ha hr F hbind hO (fun b u z => ?_) ⟨fun b z => ?_, fun _ => hk⟩ (hsp H hO (.inl (.inr ⟨_, at_a⟩)))
    · by_cases y : b = a
      · subst y
        have z2 := Option.some.inj (at_a.symm.trans z)
        subst z2
        exact ⟨ha, by rw [List.length_map]; exact hl, vs, _, rv, ha⟩
      · exact nomatch (off y).symm.trans z
    · by_cases y : b = a
      · exact y
      · exact absurd (off y) z
end
theorem walk_G {l : PySem.W.OpenLaw} {n k : Nat} {q : Program} {loose : List Str} {XP : (Str → Option Value) → Heap → Prop} {YP : World → Heap → Prop} {d : DefRec} {K : Params → PySem.W.Frag} {sp : World → Sp} {x : Str}
    (hn : l.most = some n) (hn2 : n ≤ sizeLine) (hdf : d.params.defaults = []) (hr : Room k callerA) (hY : ∀ (w : World) (h : Heap), YP w h → (K w.params).In h)
    (F : ∀ (w : World) (mg : Str → Option Value) (fa : Addr) (h : Heap), (K w.params).In h → h.Ns mainGlobals mg → mg d.name = some (.ref fa) →
      ∃ fd : FuncData, (∀ (t : Shared) (u : Value), BindsTo t fd ⟨[u], []⟩ [(x, u)]) ∧ ∀ base : Heap, (K w.params).In base → base.Ns mainGlobals mg → FnG l.prog w (K w.params) mg base k fa fd [x] (sp w))
    (hsp : ∀ (w : World) (H : Hp) (a : Addr) (ns : List Int), ns.length ≤ n → (∀ z ∈ ns, Builtin.Int.intBits z ≤ 1048576) → Only H → SqL (K w.params) H a (ns.map V.int) → sp w [.ref a] H (fun v _ => v = .bl true) fun _ _ _ => False) :
    PySem.W.WalkO q loose XP YP l.row.toRowW d [] (fun f vs => PySem.call f vs) := by
  refine Att.attach_callB hn hdf fun w s₀ s mg mb fa o pm cd doc a vs ns G Y ho hd hcd hm hobj hi hl hbits hg => ?_
  obtain ⟨fd, hb, hF⟩ := F w mg fa _ (hY w _ Y) G.T.g hm
  exact end_call (hY w _ Y) G.T.g G.T.b G.T.builtins G.T.nolimit hg hobj hi (Nat.le_trans hl hn2) hr hF hb fun H hO hS => hsp w H a ns hl hbits hO hS
end Gd
/-! Data: what stays of it, and what its repr costs. -/
namespace Gd
open PySem PySem.Spec PyProof.Rows L2
mutual
theorem dp_same {K : PySem.W.Frag} {H G : Hp} (e : Same H G) : ∀ (d : PyData) (v : V), Dp K H v d → Dp K G v d
  | .none, _, h => by cases h; exact .non
  | .bool b, _, h => by cases h; exact .bl b
  | .int i, _, h => by cases h; exact .int i
  | .str x, _, h => by cases h; exact .str x
  | .list ds, _, h => by
    cases h with
    | lst hs ha => exact .lst (e.seq hs) (dpAll_same e ds _ ha)
  | .tuple ds, _, h => by
    cases h with
    | tup hs ha =>
      refine .tup ?_ (dpAll_same e ds _ ha)
      rcases hs with (z | ⟨o, z⟩) | z
      · exact .inl (.inl (e _ _ z))
      · exact .inl (.inr ⟨o, e _ _ z⟩)
      · exact .inr z
  | .dict _, _, h => by cases h
theorem dpAll_same {K : PySem.W.Frag} {H G : Hp} (e : Same H G) : ∀ (ds : List PyData) (vs : List V), DpAll K H vs ds → DpAll K G vs ds
  | [], _, h => by cases h; exact .nil
  | d :: ds, _, h => by
    cases h with
    | cons h1 h2 => exact .cons (dp_same e d _ h1) (dpAll_same e ds _ h2)
end
theorem same_seqT {K : PySem.W.Frag} {H H' : Hp} {a : Addr} {xs : List V} (e : Same H H') (h : SqT K H a xs) : SqT K H' a xs := by
  rcases h with (z | ⟨o, z⟩) | z
  · exact .inl (.inl (e _ _ z))
  · exact .inl (.inr ⟨o, e _ _ z⟩)
  · exact .inr z
theorem same_new {H : Hp} {p : Addr} {o : HO} (h : H p = none) : Same H (upd H p o) := fun b x e => (upd_ne (ne_of_none e h)).trans e
theorem sqT {K : PySem.W.Frag} {H : Hp} {a : Addr} {xs : List V} (h : H a = some (.tup xs)) : SqT K H a xs := .inl (.inl h)
theorem sqL {K : PySem.W.Frag} {H : Hp} {a : Addr} {xs : List V} (h : H a = some (.lst xs)) : SqL K H a xs := .inl (.inl h)
theorem dpAll_snoc {K : PySem.W.Frag} {H : Hp} {v : V} {d : PyData} : ∀ {vs : List V} {ds : List PyData}, DpAll K H vs ds → Dp K H v d → DpAll K H (vs ++ [v]) (ds ++ [d])
  | _, _, .nil, h => .cons h .nil
  | _, _, .cons a r, h => .cons a (dpAll_snoc r h)
theorem dpAll_len {K : PySem.W.Frag} {H : Hp} : ∀ {vs : List V} {ds : List PyData}, DpAll K H vs ds → vs.length = ds.length
  | _, _, .nil => rfl
  | _, _, .cons _ r => by rw [List.length_cons, List.length_cons, dpAll_len r]
theorem dpAll_get {K : PySem.W.Frag} {H : Hp} : ∀ {vs : List V} {ds : List PyData} {i : Nat} {d : PyData}, DpAll K H vs ds → ds[i]? = some d → ∃ v, vs[i]? = some v ∧ Dp K H v d
  | _, _, _, _, .nil, e => by simp at e
  | _, _, 0, _, .cons a _, e => by simp at e; subst e; exact ⟨_, rfl, a⟩
  | _, _, i + 1, d, .cons _ r, e => by
    obtain ⟨v, h1, h2⟩ := dpAll_get (i := i) (d := d) r (by simpa using e)
    exact ⟨v, by simpa using h1, h2⟩
theorem dpAll_ints {K : PySem.W.Frag} {H : Hp} : ∀ ns : List Int, DpAll K H (ns.map V.int) (ns.map .int)
  | [] => .nil
  | n :: ns => .cons (.int n) (dpAll_ints ns)
theorem dpAll_strs {K : PySem.W.Frag} {H : Hp} : ∀ ns : List Str, DpAll K H (ns.map V.str) (ns.map .str)
  | [] => .nil
  | n :: ns => .cons (.str n) (dpAll_strs ns)
/-! what repr and == ask of data -/
mutual
/-- plain data: no dicts, signs below 1000, ints below 10 ^ 9 in size -/
def fine : PyData → Bool
  | .none | .bool _ => true
  | .int i => decide (i.natAbs < 10 ^ 9)
  | .str x => x.cps.toList.all (· < 1000)
  | .list xs | .tuple xs => fineAll xs
  | .dict _ => false
def fineAll : List PyData → Bool
  | [] => true
  | x :: xs => fine x && fineAll xs
end
mutual
def costD : PyData → Nat
  | .none => 4
  | .bool _ => 5
  | .int _ => 10
  | .str x => 10 * x.length + 2
  | .list xs | .tuple xs => costAll xs + 2
  | .dict _ => 0
def costAll : List PyData → Nat
  | [] => 0
  | x :: xs => costD x + 2 + costAll xs
end
theorem fine_str {x : Str} : fine (.str x) = true ↔ ∀ c ∈ x.cps.toList, c < 1000 := by
  rw [fine, List.all_eq_true]
  exact ⟨fun h c hc => of_decide_eq_true (h c hc), fun h c hc => decide_eq_true (h c hc)⟩
mutual
theorem fine_lay : ∀ d : PyData, fine d = true → d.canLay0 = true
  | .none, _ => rfl
  | .bool _, _ => rfl
  | .int _, _ => rfl
  | .str x, h => by
    have h' := fine_str.mp h
    show x.cps.all _ = true
    rw [Array.all_eq_true']
    intro c hc
    have := h' c (by simpa using hc)
    exact decide_eq_true (by omega)
  | .list xs, h => by rw [PyData.canLay0]; exact fineAll_lay xs (by simpa [fine] using h)
  | .tuple xs, h => by rw [PyData.canLay0]; exact fineAll_lay xs (by simpa [fine] using h)
  | .dict _, h => by simp [fine] at h
theorem fineAll_lay : ∀ ds : List PyData, fineAll ds = true → PyData.canLayAll0 ds = true
  | [], _ => rfl
  | x :: xs, h => by
    have h' : fine x = true ∧ fineAll xs = true := by simpa [fineAll] using h
    rw [PyData.canLayAll0, fine_lay x h'.1, fineAll_lay xs h'.2]; rfl
end
mutual
theorem fine_show : ∀ d : PyData, fine d = true → d.showable = true
  | .none, _ => by simp [PyData.showable]
  | .bool _, _ => by simp [PyData.showable]
  | .int i, h => by
    have h' : i.natAbs < 10 ^ 9 := by simpa [fine] using h
    have : i.natAbs.log2 < 1920 := Flt.log2_lt_of (by decide) (Nat.lt_of_lt_of_le h' (by decide))
    simpa [PyData.showable] using this
  | .str x, h => by simp [PyData.showable]
  | .list xs, h => by rw [PyData.showable]; exact fineAll_show xs (by simpa [fine] using h)
  | .tuple xs, h => by rw [PyData.showable]; exact fineAll_show xs (by simpa [fine] using h)
  | .dict _, h => by simp [fine] at h
theorem fineAll_show : ∀ ds : List PyData, fineAll ds = true → PyData.showableAll ds = true
  | [], _ => by simp [PyData.showableAll]
  | x :: xs, h => by
    have h' : fine x = true ∧ fineAll xs = true := by simpa [fineAll] using h
    rw [PyData.showableAll, fine_show x h'.1, fineAll_show xs h'.2]; rfl
end
theorem list_text (ts : List Str) : (listText ts).length ≤ piled ts + 2 := by
  rw [listText_eq_join]
  have e1 : (("[" : Str)).length = 1 := rfl
  have e2 : (("]" : Str)).length = 1 := rfl
  rw [strLen_append, strLen_append, e1, e2]
  by_cases h : ts = []
  · subst h; decide +kernel
  · have := join_length_add ts h
    omega
mutual
theorem shown_cost : ∀ d : PyData, fine d = true → d.shown.length ≤ costD d
  | .none, _ => by rw [PyData.shown]; decide +kernel
  | .bool b, _ => by rw [PyData.shown]; cases b <;> decide +kernel
  | .int i, h => by
    have h' : i.natAbs < 10 ^ 9 := by simpa [fine] using h
    rw [PyData.shown, PySem.ofString_length]
    exact int_text_length_le10 (k := 9) (by decide) h'
  | .str x, h => by
    have h' := fine_str.mp h
    rw [PyData.shown, costD]
    exact StrLaws.reprText_len x fun c hc => Nat.lt_trans (h' c hc) (by decide)
  | .list xs, h => by
    rw [PyData.shown, costD]
    have := shownAll_cost xs (by simpa [fine] using h)
    have := list_text (PyData.shownAll xs)
    omega
  | .tuple xs, h => by
    rw [PyData.shown, costD]
    have := shownAll_cost xs (by simpa [fine] using h)
    have := PySem.fmt_text (PyData.shownAll xs)
    omega
  | .dict _, h => by simp [fine] at h
theorem shownAll_cost : ∀ ds : List PyData, fineAll ds = true → piled (PyData.shownAll ds) ≤ costAll ds
  | [], _ => by rw [PyData.shownAll, costAll, piled_nil]; exact Nat.le_refl 0
  | x :: xs, h => by
    have h' : fine x = true ∧ fineAll xs = true := by simpa [fineAll] using h
    have h1 := shown_cost x h'.1
    have h2 := shownAll_cost xs h'.2
    rw [PyData.shownAll, costAll, piled_cons]
    omega
end
theorem fine_shaped {d : PyData} (h : fine d = true) (hd : d.depth ≤ 60) : SeqAt.shaped d = true := by
  unfold SeqAt.shaped
  rw [fine_lay d h]
  exact decide_eq_true (by omega)
theorem fine_eqv {d : PyData} (h : fine d = true) : PyData.eqv d d = true := SeqAt.eqv_refl d (fine_lay d h)
theorem fineAll_mem : ∀ {ds : List PyData}, (∀ d ∈ ds, fine d = true) → fineAll ds = true
  | [], _ => by simp [fineAll]
  | x :: xs, h => by simp [fineAll, h x List.mem_cons_self, fineAll_mem fun d hd => h d (List.mem_cons_of_mem _ hd)]
theorem depthAll_mem {n : Nat} : ∀ {ds : List PyData}, (∀ d ∈ ds, d.depth ≤ n) → PyData.depthAll ds ≤ n
  | [], _ => by simp [PyData.depthAll]
  | x :: xs, h => by
    have h1 := h x List.mem_cons_self
    have h2 := depthAll_mem (n := n) (ds := xs) fun d hd => h d (List.mem_cons_of_mem _ hd)
    simp only [PyData.depthAll]
    omega
/-- repr(x), x plain data at an address: its text; what is asked is told by fine and costD -/
theorem call_reprF {X : Cx} (hg : X.A.guards = some []) (hu : X.A.units + 64 < cLine) : CallR X (.builtin "repr") (fun xs H Q => ∃ a d, xs = [.ref a] ∧ Dp X.K H (.ref a) d ∧ fine d = true ∧ d.depth ≤ 60 ∧ costD d ≤ sizeLine ∧ Q (.str d.shown) H) := by
  intro pins s σ H xs us Q I r h
  obtain ⟨a, d, e, hp, hf, hd, hz, q⟩ := h
  exact call_repr hg hu pins s σ H xs us Q I r ⟨a, d, e, hp, fine_show d hf, PyData.hasDict_of_canLay d (fine_lay d hf), hd, Nat.le_trans (shown_cost d hf) hz, q⟩
end Gd
/-! Calls that give all by keywords. -/
namespace Gd
open PySem PySem.Spec PyProof.Rows L2
/-- how a call by keywords alone binds: g puts their values in the parameters' order -/
def KwB (fd : FuncData) (ps ks : List Str) (g : List Value → List Value) : Prop := ∀ (s : Shared) (ws : List Value), ws.length = ks.length → BindsTo s fd ⟨[], ks.zip ws⟩ (ps.zip (g ws))
theorem kwB_of {K : PySem.W.Frag} {x qual : Str} {st : Stmt} {f : Addr} {fd : FuncData} {ps ks : List Str} {g : List Value → List Value} (F : Fun K x qual st f fd)
    (h : ∀ (kV doc pm : Value) (an : Option Addr) (cv ct : Value) (ws : List Value), ws.length = ks.length → bindArgs (PySem.W.fnOf x qual (defArgs st) (defBody st) (defScope st) .none kV doc pm an cv ct) ⟨[], ks.zip ws⟩ = pure (ps.zip (g ws))) : KwB fd ps ks g := by
  obtain ⟨oc, od, kV, doc, pm, an, cv, ct, osl, rfl, lk, hc⟩ := F.ex
  exact fun s ws hl => .of_eq (h kV doc pm an cv ct ws hl)
def tKw (m : Nat) (sp : Sp) (gV : List V → List V) (E : XK) (tk : TA) : TE := fun σ H Q => tk σ H fun zs H2 => zs.length = m ∧ sp (gV zs) H2 Q E
section
variable {X : Cx} {k : Nat} {f : Addr} {fd : FuncData} {ps ks : List Str} {sp : Sp} {E : XK} {x : Str} {p pos : Pos} {kws : List Keyword} {tk : TA}
/-- f(k = v, ..) -/
theorem pe_kwG {g : List Value → List Value} {gV : List V → List V} (F : FnG X.prog X.w X.K X.mg X.base k f fd ps sp) (hr : RmG k X.A) (hg : Gl X x) (hm : X.mg x = some (.ref f)) (hk : PySem.W.keepIn X.K (.ref f) = true)
    (hb : KwB fd ps ks g) (hv : ∀ {zs : List V} {ws : List Value}, zs.length = ks.length → Vals zs ws → Vals (gV zs) (g ws)) (hkw : PK X kws tk)
    (h1 : (backToKw pos (keywordEach kws X.env)).all (·.1.isSome) = true := by rfl) (h2 : (backToKw pos (keywordEach kws X.env)).filterMap (·.1) = ks := by rfl) (h3 : (x == ("__debug__" : Str)) = false := by decide)
    (h4 : ((backTo pos (starEach [] X.env)).any (·.1) || (backToKw pos (keywordEach kws X.env)).any (·.1.isNone)) = false := by rfl) :
    PE X (.Call (.Name x p) [] kws pos) (tKw ks.length sp gV E tk) := by
  refine ⟨fun pins s σ H Q I h => wpAny_Call_Name_kw (ld_glob I hg hm (PySem.W.callWith_KW0 (h₀ := X.base) I.ok.mod.kin hk h1 ?_ h4) h3)⟩
  refine thn (hkw.run pos pins s σ H _ I h) fun ws s2 ⟨zs, H2, I2, rz, l, q⟩ => ⟨I2.kIn, ?_⟩
  rw [h2]
  have r2 := hv l rz
  refine wpAny_call (codeAny_mono (run_G F hr I2 (hb s2 ws (rz.length.symm.trans l)) r2 q) fun r s' hq => ?_)
  obtain ⟨u, rfl, z⟩ := hq
  exact z
end
end Gd
/-! What the laws' proofs share: the source of draws, what is kept, blocks. -/
namespace Gd
open PySem PySem.Spec PyProof.Rows L2
/-- the law's source of draws at h: its list at l, its number -/
structure Hv (H : Hp) (h l : Addr) (L : List Int) (st : Int) : Prop where
  top : H h = some (.lst [.ref l, .int st])
  bot : H l = some (.lst (L.map V.int))
  ne : l ≠ h
  lo : 0 ≤ st
  hi : st < 2147483647
  len : L.length ≤ 63
/-- all but the source stands as before -/
def But (h l : Addr) (H G : Hp) : Prop := ∀ b o, b ≠ h → b ≠ l → H b = some o → G b = some o
theorem Hv.new {H : Hp} {h l p : Addr} {L : List Int} {st : Int} {o : HO} (v : Hv H h l L st) (n : H p = none) : Hv (upd H p o) h l L st :=
  ⟨(upd_ne (ne_of_none v.top n)).trans v.top, (upd_ne (ne_of_none v.bot n)).trans v.bot, v.ne, v.lo, v.hi, v.len⟩
theorem Hv.same {H G : Hp} {h l : Addr} {L : List Int} {st : Int} (v : Hv H h l L st) (e : Same H G) : Hv G h l L st :=
  ⟨e _ _ v.top, e _ _ v.bot, v.ne, v.lo, v.hi, v.len⟩
theorem Hv.setL {H : Hp} {h l : Addr} {L M : List Int} {st : Int} (v : Hv H h l L st) (hl : M.length ≤ 63) : Hv (upd H l (.lst (M.map V.int))) h l M st :=
  ⟨(upd_ne v.ne.symm).trans v.top, upd_same, v.ne, v.lo, v.hi, hl⟩
theorem Hv.setN {H : Hp} {h l : Addr} {L : List Int} {st n : Int} (v : Hv H h l L st) (h0 : 0 ≤ n) (h1 : n < 2147483647) : Hv (upd H h (.lst [.ref l, .int n])) h l L n :=
  ⟨upd_same, (upd_ne v.ne).trans v.bot, v.ne, h0, h1, v.len⟩
theorem But.refl (h l : Addr) (H : Hp) : But h l H H := fun _ _ _ _ e => e
theorem But.trans {h l : Addr} {H G J : Hp} (a : But h l H G) (b : But h l G J) : But h l H J := fun c o h1 h2 e => b c o h1 h2 (a c o h1 h2 e)
theorem But.new {h l p : Addr} {H G : Hp} {o : HO} (a : But h l H G) (n : G p = none) : But h l H (upd G p o) := fun c x h1 h2 e =>
  (upd_ne (ne_of_none (a c x h1 h2 e) n)).trans (a c x h1 h2 e)
theorem But.same {h l : Addr} {H G J : Hp} (a : But h l H G) (e : Same G J) : But h l H J := fun c x h1 h2 z => e _ _ (a c x h1 h2 z)
theorem But.atL {h l : Addr} {H G : Hp} {o : HO} (a : But h l H G) : But h l H (upd G l o) := fun c x h1 h2 e => (upd_ne h2).trans (a c x h1 h2 e)
theorem But.atH {h l : Addr} {H G : Hp} {o : HO} (a : But h l H G) : But h l H (upd G h o) := fun c x h1 h2 e => (upd_ne h1).trans (a c x h1 h2 e)
theorem fresh_of {h l p : Addr} {H G : Hp} (a : But h l H G) {o : HO} (h1 : p ≠ h) (h2 : p ≠ l) (e : G p = none) : H p = none := by
  cases q : H p with
  | none => rfl
  | some o => exact nomatch (a p o h1 h2 q).symm.trans e
theorem eqv_nil (L : List Int) : PyData.eqv (.list (L.map .int)) (.list []) = decide (L = []) := by
  cases L with
  | nil => rfl
  | cons x r => simp [PyData.eqv, PyData.eqvAll]
theorem shaped_ints (L : List Int) : SeqAt.shaped (.list (L.map .int)) = true := PySem.W.ke_shaped_ints L
theorem dp_ints {K : PySem.W.Frag} {H : Hp} {l : Addr} {L : List Int} (h : H l = some (.lst (L.map V.int))) : Dp K H (.ref l) (.list (L.map .int)) := .lst (sqL h) (dpAll_ints L)
theorem last_map {L : List Int} (h : L ≠ []) : atI (L.map V.int) (-1) = some (.int (L.getLast h)) := by
  have e : L.map V.int = L.dropLast.map V.int ++ [.int (L.getLast h)] := by
    rw [← List.map_singleton, ← List.map_append, List.dropLast_concat_getLast]
  rw [e]
  exact atI_last _ _
theorem last_get {L : List Int} (h : L ≠ []) : (L.map V.int)[(L.map V.int).length - 1]? = some (.int (L.getLast h)) := by
  rw [List.length_map, List.getElem?_map, ← List.getLast?_eq_getElem?, List.getLast?_eq_getLast h]
  rfl
theorem drop_map (L : List Int) : (L.map V.int).dropLast = L.dropLast.map V.int := by rw [List.map_dropLast]
/-- all but lists stands as before -/
def KeepT (H G : Hp) : Prop := ∀ b o, H b = some o → (∀ xs, o ≠ .lst xs) → G b = some o
theorem KeepT.of {H G : Hp} (e : Same H G) : KeepT H G := fun b o h _ => e b o h
theorem KeepT.trans {H G J : Hp} (a : KeepT H G) (b : KeepT G J) : KeepT H J := fun c o h n => b c o (a c o h n) n
theorem KeepT.put {H : Hp} {p : Addr} {xs : List V} {o : HO} (h : H p = some (.lst xs)) : KeepT H (upd H p o) := fun b x e n => by
  have ne : b ≠ p := fun z => by
    subst z
    have z2 := Option.some.inj (h.symm.trans e)
    exact n _ z2.symm
  exact (upd_ne ne).trans e
theorem KeepT.but {h l : Addr} {H G : Hp} {L : List Int} {st : Int} (v : Hv H h l L st) (b : But h l H G) : KeepT H G := fun c o e n =>
  b c o (fun z => by subst z; exact n _ (Option.some.inj (v.top.symm.trans e)).symm) (fun z => by subst z; exact n _ (Option.some.inj (v.bot.symm.trans e)).symm) e
theorem KeepT.seqT {K : PySem.W.Frag} {H G : Hp} {a : Addr} {xs : List V} (e : KeepT H G) (h : SqT K H a xs) : SqT K G a xs := by
  rcases h with (z | ⟨o, z⟩) | z
  · exact .inl (.inl (e _ _ z (by intro _ q; cases q)))
  · exact .inl (.inr ⟨o, e _ _ z (by intro _ q; cases q)⟩)
  · exact .inr z
mutual
def noList : PyData → Bool
  | .none | .bool _ | .int _ | .str _ => true
  | .tuple xs => noListAll xs
  | .list _ | .dict _ => false
def noListAll : List PyData → Bool
  | [] => true
  | x :: xs => noList x && noListAll xs
end
mutual
theorem dp_keep {K : PySem.W.Frag} {H G : Hp} (e : KeepT H G) : ∀ (d : PyData) (v : V), noList d = true → Dp K H v d → Dp K G v d
  | .none, _, _, h => by cases h; exact .non
  | .bool b, _, _, h => by cases h; exact .bl b
  | .int i, _, _, h => by cases h; exact .int i
  | .str x, _, _, h => by cases h; exact .str x
  | .list ds, _, n, _ => by simp [noList] at n
  | .tuple ds, _, n, h => by
    cases h with
    | tup hs ha => exact .tup (e.seqT hs) (dpAll_keep e ds _ (by simpa [noList] using n) ha)
  | .dict _, _, _, h => by cases h
theorem dpAll_keep {K : PySem.W.Frag} {H G : Hp} (e : KeepT H G) : ∀ (ds : List PyData) (vs : List V), noListAll ds = true → DpAll K H vs ds → DpAll K G vs ds
  | [], _, _, h => by cases h; exact .nil
  | d :: ds, _, n, h => by
    have n' : noList d = true ∧ noListAll ds = true := by simpa [noListAll] using n
    cases h with
    | cons h1 h2 => exact .cons (dp_keep e d _ n'.1 h1) (dpAll_keep e ds _ n'.2 h2)
end
theorem noListAll_mem : ∀ {ds : List PyData}, (∀ d ∈ ds, noList d = true) → noListAll ds = true
  | [], _ => rfl
  | x :: xs, h => by rw [noListAll, h x List.mem_cons_self, noListAll_mem fun d hd => h d (List.mem_cons_of_mem _ hd)]; rfl
theorem lt_one (a b : Nat) : decide (([a] : List Nat) < [b]) = decide (a < b) := by
  by_cases h : a < b
  · rw [decide_eq_true h]
    exact decide_eq_true (List.Lex.rel h)
  · rw [decide_eq_false h]
    refine decide_eq_false fun z => ?_
    cases z with
    | rel z => exact h z
    | cons z => cases z
theorem if_out {c : TT} {t u : TS} {D : Ends} {σ : L2.St} {G : Hp} (R : Bool) (h1 : ∀ B : Bool → Hp → Prop, (∀ G', Same G G' → B R G') → c σ G B) (h2 : ∀ G', Same G G' → if R = true then t D σ G' else u D σ G') : tIfS c t u D σ G := h1 _ h2
theorem seq_out {t u : TS} {D : Ends} {σ : L2.St} {G : Hp} (R : L2.St → Hp → Prop) (h1 : ∀ N : L2.St → Hp → Prop, (∀ σ' G', R σ' G' → N σ' G') → t { D with nx := N } σ G) (h2 : ∀ σ' G', R σ' G' → u D σ' G') : tSeq t u D σ G := h1 (u D) h2
theorem But.seqL {K : PySem.W.Frag} {h l p : Addr} {H G : Hp} {xs : List V} (b : But h l H G) (h1 : p ≠ h) (h2 : p ≠ l) (e : SqL K H p xs) : SqL K G p xs := by
  rcases e with (z | ⟨o, z⟩) | z
  · exact .inl (.inl (b _ _ h1 h2 z))
  · exact .inl (.inr ⟨o, b _ _ h1 h2 z⟩)
  · exact .inr z
theorem for_str {x : Str} {g : TG} {tb : TS} {D : Ends} {σ : L2.St} {H : Hp} (Pv : Nat → L2.St → Hp → Prop) (h0 : Pv 0 σ H)
    (hs : ∀ i c σ H, x.cps.toList[i]? = some c → Pv i σ H → g (.str ⟨#[c]⟩) σ H fun σ2 H2 => tb { D with nx := Pv (i + 1), ct := Pv (i + 1), bk := D.nx } σ2 H2) (hd : ∀ σ H, Pv x.cps.toList.length σ H → D.nx σ H) :
    ∃ W : Nat → Nat → L2.St → Hp → Prop, (∃ m, W 0 m σ H) ∧ ∀ i m σ H, W i m σ H →
      ((Its x).stop i H ∧ D.nx σ H) ∨ ((Its x).go i H ∧ ∃ N : L2.St → Hp → Prop, (∀ σ' H', N σ' H' → ∃ m', m' < m ∧ W (i + 1) m' σ' H') ∧ ∀ v H', (Its x).yld i H v H' → g v σ H' fun σ2 H2 => tb { D with nx := N, ct := N, bk := D.nx } σ2 H2) := by
  refine ⟨fun i m σ H => m = x.cps.toList.length - i ∧ i ≤ x.cps.toList.length ∧ Pv i σ H, ⟨_, rfl, Nat.zero_le _, h0⟩, fun i m σ H hw => ?_⟩
  obtain ⟨rfl, hi, hp⟩ := hw
  by_cases hlt : i < x.cps.toList.length
  · refine .inr ⟨by show i < x.cps.size; simpa using hlt, Pv (i + 1), fun σ' H' hp' => ⟨_, by omega, rfl, hlt, hp'⟩, fun v H' hy => ?_⟩
    obtain ⟨rfl, c, hc, rfl⟩ := hy
    exact hs i c σ _ (by simpa using hc) hp
  · have e : i = x.cps.toList.length := by omega
    subst e
    exact .inl ⟨by show x.cps.size ≤ _; simp, hd σ H hp⟩
section
variable {X : Cx}
end
theorem dpAll_last {K : PySem.W.Frag} {H : Hp} : ∀ {ds : List PyData} {d : PyData} {vs : List V}, DpAll K H vs (ds ++ [d]) → ∃ us v, vs = us ++ [v] ∧ DpAll K H us ds ∧ Dp K H v d
  | [], d, vs, h => by
    cases h with
    | cons a r => cases r; exact ⟨[], _, rfl, .nil, a⟩
  | x :: r, d, vs, h => by
    cases h with
    | cons a t =>
      obtain ⟨us, v, e, h1, h2⟩ := dpAll_last t
      exact ⟨_ :: us, v, by rw [e]; rfl, .cons a h1, h2⟩
theorem ix_last {α : Type} (us : List α) (v : α) : ixN (us ++ [v]).length (-1) = some us.length := by
  unfold ixN
  rw [List.length_append, if_neg (by decide), if_pos (by show -((us.length + 1 : Nat) : Int) ≤ -1; omega)]
  show some (-1 + ((us.length + 1 : Nat) : Int)).toNat = _
  congr 1
  omega
theorem set_last {α : Type} (us : List α) (v u : α) : (us ++ [v]).set us.length u = us ++ [u] := by
  rw [List.set_append_right _ _ (Nat.le_refl _), Nat.sub_self]
  rfl
theorem eqv_nilD (ds : List PyData) : PyData.eqv (.list ds) (.list []) = ds.isEmpty := by
  cases ds with
  | nil => rfl
  | cons x r => simp [PyData.eqv, PyData.eqvAll]
theorem sg_ne {c n : Nat} {s : Str} (e : s = ⟨#[n]⟩) (h : c ≠ n) : ¬ V.str ⟨#[c]⟩ = V.str s := fun z => h (by
  rw [e] at z
  have e2 : (⟨#[c]⟩ : Str) = ⟨#[n]⟩ := V.str.inj z
  injection e2 with e2
  simpa using e2)
theorem fold_mem (c : Nat) (a : Array Nat) : ∀ (n : Nat) (b : Array Nat), c ∈ ((List.replicate n a).foldl (· ++ ·) b).toList → c ∈ b.toList ∨ c ∈ a.toList
  | 0, b, h => .inl h
  | n + 1, b, h => by
    rw [List.replicate_succ, List.foldl_cons] at h
    rcases fold_mem c a n (b ++ a) h with z | z
    · rw [Array.toList_append] at z
      exact List.mem_append.mp z
    · exact .inr z
theorem mul_mem {c : Nat} {x : Str} {i : Int} (h : c ∈ (Txt.mul x i).cps.toList) : c ∈ x.cps.toList := by
  unfold Txt.mul at h
  split at h
  · exact absurd h (by simp [Str.empty])
  · split at h
    · exact h
    · rcases fold_mem c x.cps _ _ h with z | z
      · simp at z
      · exact z
section
variable {X : Cx}
/-- z * i, z a short text -/
theorem op_mulT : OpR X (binaryOp .Mult) (fun x y H Q => ∃ z i, x = .str z ∧ y = .int i ∧ z.length ≤ 16 ∧ 0 ≤ i ∧ i ≤ 1048576 ∧ ∀ u : Str, (u.length : Int) = (z.length : Int) * i → (∀ c ∈ u.cps.toList, c ∈ z.cps.toList) → Q (.str u) H) := by
  intro pins s σ H x y v u Q I rx ry h
  obtain ⟨z, i, rfl, rfl, h1, h2, h3, q⟩ := h
  obtain ⟨t, rfl⟩ := rx
  obtain ⟨t2, rfl⟩ := ry
  exact PySem.W.KXi.mul rfl h1 (by omega) h3 fun t' k _ e => ⟨.str _, H, I.tok k, ⟨t', rfl⟩, q _ (e h2) fun c hc => mul_mem hc⟩
end
theorem app_list (a b : Str) : (a ++ b).cps.toList = a.cps.toList ++ b.cps.toList := by
  show (a.cps ++ b.cps).toList = _
  rw [Array.toList_append]
theorem sum_le {α : Type} {f : α → Nat} {b : Nat} : ∀ {l : List α}, (∀ x ∈ l, f x ≤ b) → (l.map f).sum ≤ l.length * b
  | [], _ => Nat.zero_le _
  | x :: r, h => by
    have h1 := h x List.mem_cons_self
    have h2 := sum_le (f := f) (b := b) (l := r) fun y hy => h y (List.mem_cons_of_mem _ hy)
    rw [List.map_cons, List.sum_cons, List.length_cons, Nat.succ_mul]
    omega
theorem blk_cons {X : Cx} {st : Stmt} {r : List Stmt} {t : TS} {G : TS → Prop} (h : PS X st t) (n : ∃ u, PSs X r u ∧ G (tSeq t u)) : ∃ u, PSs X (st :: r) u ∧ G u := n.elim fun u z => ⟨_, pss_cons h z.1, z.2⟩
theorem blk_nil {X : Cx} {G : TS → Prop} (h : G tNext) : ∃ u, PSs X [] u ∧ G u := ⟨_, pss_nil, h⟩
end Gd
/-! Further rules: what may raise at known slots, keywords, isinstance of a caught error with its own dict, places in tuples. -/
namespace Gd
open PySem PySem.Spec PyProof.Rows L2
/-- a call by positional values and keywords, no defaults -/
theorem kbn_of {K : PySem.W.Frag} {x qual : Str} {st : Stmt} {f : Addr} {fd : FuncData} {ps ks : List Str} {n : Nat} {g : List Value → List Value → List Value} {gV : List V → List V → List V} (F : Fun K x qual st f fd)
    (h : ∀ (kV doc pm : Value) (an : Option Addr) (cv ct : Value) (us ws : List Value), us.length = n → ws.length = ks.length → bindArgs (PySem.W.fnOf x qual (defArgs st) (defBody st) (defScope st) .none kV doc pm an cv ct) ⟨us, ks.zip ws⟩ = pure (ps.zip (g us ws)))
    (r : ∀ {vs : List V} {us : List Value} {zs : List V} {ws : List Value}, Vals vs us → Vals zs ws → Vals (gV vs zs) (g us ws)) : KBn K fd ps n ks g gV := by
  obtain ⟨oc, od, kV, doc, pm, an, cv, ct, osl, rfl, lk, hc⟩ := F.ex
  exact ⟨fun s us ws _ l1 l2 => .of_eq (h kV doc pm an cv ct us ws l1 l2), r⟩
section
variable {X : Cx} {CX : CXT} {k n : Nat} {f C : Addr} {fd : FuncData} {ps ks : List Str} {sp : Sp} {x m : Str} {p pos apos : Pos} {e o : Expr} {es : List Expr} {kws : List Keyword} {t tk ta : TA} {to : TE} {g : List Value → List Value → List Value} {gV : List V → List V → List V}
/-- f(k = v, ..), f raising nothing -/
def tKn (m : Nat) (sp : Sp) (gV : List V → List V → List V) (tk : TA) : TE := fun σ H Q => tk σ H fun zs H2 => zs.length = m ∧ sp (gV [] zs) H2 Q E0
theorem pe_kwN (F : FnG X.prog X.w X.K X.mg X.base k f fd ps sp) (hr : RmG k X.A) (hg : Gl X x) (hm : X.mg x = some (.ref f)) (hk : PySem.W.keepIn X.K (.ref f) = true) (hb : KBn X.K fd ps 0 ks g gV) (hkw : PK X kws tk)
    (h1 : (backToKw pos (keywordEach kws X.env)).all (·.1.isSome) = true := by rfl) (h2 : (backToKw pos (keywordEach kws X.env)).filterMap (·.1) = ks := by rfl) (h3 : (x == ("__debug__" : Str)) = false := by decide)
    (h4 : ((backTo pos (starEach [] X.env)).any (·.1) || (backToKw pos (keywordEach kws X.env)).any (·.1.isNone)) = false := by rfl) :
    PE X (.Call (.Name x p) [] kws pos) (tKn ks.length sp gV tk) := by
  refine ⟨fun pins s σ H Q I h => wpAny_Call_Name_kw (ld_glob I hg hm (PySem.W.callWith_KW0 (h₀ := X.base) I.ok.mod.kin hk h1 ?_ h4) h3)⟩
  refine thn (hkw.run pos pins s σ H _ I h) fun ws s2 ⟨zs, H2, I2, rz, l, q⟩ => ⟨I2.kIn, ?_⟩
  rw [h2]
  refine wpAny_call (codeAny_mono (run_G F hr I2 (hb.to s2 [] ws I2.kIn rfl (rz.length.symm.trans l)) (hb.rel .nil rz) q) fun r s' hq => ?_)
  obtain ⟨u, rfl, z⟩ := hq
  exact z
/-- o.m(k = v, ..), m raising nothing -/
def tMKn (C : Addr) (m : Str) (l : Nat) (sp : Sp) (gV : List V → List V → List V) (to : TE) (tk : TA) : TE := fun σ H Q => to σ H fun x H1 => ∃ a dx fs, x = .ref a ∧ H1 a = some (.ins C dx fs) ∧ fs.lookup m = none ∧ tk σ H1 fun zs H2 => zs.length = l ∧ sp (gV [x] zs) H2 Q E0
theorem pe_methK {pl : Sem Bool} (he : PE X o to) (c : Cls X.K C) (hm : Meth X.K C m f) (F : FnG X.prog X.w X.K X.mg X.base k f fd ps sp) (hr : RmG k X.A) (hb : KBn X.K fd ps 1 ks g gV) (hkw : PK X kws tk)
    (h1 : (backToKw pos (keywordEach kws X.env)).all (·.1.isSome) = true := by rfl) (h2 : (backToKw pos (keywordEach kws X.env)).filterMap (·.1) = ks := by rfl)
    (h4 : ((backTo pos (starEach [] X.env)).any (·.1) || (backToKw pos (keywordEach kws X.env)).any (·.1.isNone)) = false := by rfl)
    (ht : eval (.Call (.Attribute o m apos) [] kws pos) X.env = (do
      let ov ← eval o X.env
      standAt apos.atName
      let (f, first) ← holding [ov] (getMethod ov m pl)
      callWith pos f first (backTo pos (starEach [] X.env)) (backToKw pos (keywordEach kws X.env))) := by rfl) :
    PE X (.Call (.Attribute o m apos) [] kws pos) (tMKn C m ks.length sp gV to tk) := by
  refine ⟨fun pins s σ H Q I h => PySem.W.methodCall_KW (pl := pl) (thn (he.run pins s σ H _ I h) fun u s1 ⟨x, H1, I1, rx, a, dx, fs, ex, ea, l, q⟩ => ?_) ht⟩
  subst ex
  obtain rfl : u = Value.ref a := rx
  refine getmeth_ok I1 ea c hm l (PySem.W.callWith_KW0 (first := [.ref a]) (h₀ := X.base) I.ok.mod.kin hm.kp h1 ?_ h4)
  refine thn (hkw.run pos pins s1 σ H1 _ I1 q) fun ws s2 ⟨zs, H2, I2, rz, l, q⟩ => ⟨I2.kIn, ?_⟩
  rw [h2]
  refine wpAny_call (codeAny_mono (run_G F hr I2 (hb.to s2 [.ref a] ws I2.kIn rfl (rz.length.symm.trans l)) (hb.rel (.cons (show RelV (V.ref a) (Value.ref a) from rfl) .nil) rz) q) fun r s' hq => ?_)
  obtain ⟨u, rfl, z⟩ := hq
  exact z
/-- C(e, ..) whose __init__ may raise; E: what is wanted then, at these slots -/
def tMakeS (C : Addr) (sp : Sp) (E : L2.St → XK) (t : TA) : TE := fun σ H Q => t σ H fun vs H1 => ∀ x dx, H1 x = none → H1 dx = none → dx ≠ x →
  sp (.ref x :: vs) (upd (upd H1 dx (.own x)) x (.ins C dx [])) (fun v H2 => v = .non ∧ Q (.ref x) H2) (E σ)
theorem pe_makeS {E : L2.St → XK} (M : Mk X.K C f) (F : FnOk X.prog X.w X.K X.mg X.base CX k f fd ps sp) (hr : Room (k + 1) X.A) (hg : Gl X x) (hm : X.mg x = some (.ref C)) (hb : Binds X.K fd ps []) (hx : ∀ σ, PassesAt CX X σ (E σ))
    (ha : PA X (e :: es) t) (h1 : (x == ("__debug__" : Str)) = false := by decide) (h2 : starEach (e :: es) X.env = (false, eval e X.env) :: starEach es X.env := by rfl) (h3 : (backTo pos (starEach es X.env)).any (·.1) = false := by rfl) :
    PE X (.Call (.Name x p) (e :: es) [] pos) (tMakeS C sp E t) := by
  refine ⟨fun pins s σ H Q I h => wpAny_Call_Name_kw (ld_glob I hg hm (PySem.W.callWith_K (h₀ := X.base) I.ok.mod.kin M.kp (thn (ha.run pos pins s σ H _ I h) fun us s1 ⟨vs, H1, I1, r, q⟩ => ⟨I1.kIn, ?_⟩) h2 h3) h1)⟩
  have q2 := q (s1.heap.objs.size + 1) s1.heap.objs.size (I1.hok.fresh (Nat.le_succ _)) (I1.hok.fresh (Nat.le_refl _)) (Nat.ne_of_lt (Nat.lt_succ_self _))
  have I2 := Inv.made (C := C) I1
  have r2 : Vals (V.ref (s1.heap.objs.size + 1) :: vs) (Value.ref (s1.heap.objs.size + 1) :: us) := .cons rfl r
  have hl : (Value.ref (s1.heap.objs.size + 1) :: us).length = ps.length := r2.length.symm.trans (F.len _ _ _ _ q2)
  have b := hb _ (Value.ref (s1.heap.objs.size + 1) :: us) I2.kIn (by rw [List.append_nil]; exact hl)
  rw [List.append_nil] at b
  refine wpAny_call (make_map (f := f) I1.kIn M.makes M.init (beq_iff_eq.mp M.fn) (codeAny_mono (F.run _ X.stack _ _ ⟨Value.ref (s1.heap.objs.size + 1) :: us, []⟩ _ _ _ (E σ) (hr.make C us []) (I2.env0.make C us []) b r2 q2) fun r s' hq => ?_))
  rcases r with er | fl
  · exact hx σ pins _ _ er s' I2 hq
  · cases fl with
    | ret u =>
      obtain ⟨v, H', I3, rv, ev, q3⟩ := I2.after hq
      subst ev
      exact ⟨rv, ⟨V.ref (s1.heap.objs.size + 1), H', I3, rfl, q3⟩⟩
    | next => exact hq.elim
    | brk => exact hq.elim
    | cont => exact hq.elim
/-- isinstance(e, c), e the error that the suite holds, of the class at D -/
theorem call_isE2 {a D : Addr} {oe : Obj} {d : Option Addr} {pn : List (Addr × Obj)} (T : L2.ExcC X.K D) (hz : Zc (.ref D) d oe) (hf : ∃ vs, oe.data = .fields vs) :
    CallR (X.suite a ((a, oe) :: pn)) (.builtin "isinstance") (fun xs H Q => ∃ (c : V) (u : Value) (b : Bool), xs = [.ref a, c] ∧ ClsV c u ∧ PySem.W.kitOne X.K (.ref D) u = some b ∧ (d = none ∨ ∃ dd fs, d = some dd ∧ H dd = some (.xd fs) ∧ fs.lookup ("__class__" : Str) = none) ∧ Q (.bl b) H) := by
  intro pins s σ H xs us Q I r h
  obtain ⟨c, u, b, rfl, hc, e, hd, q⟩ := h
  obtain ⟨u1, u2, rfl, r1, r2⟩ := vals2 r
  obtain rfl : u1 = Value.ref a := r1
  have e2 := hc.eq r2
  subst e2
  obtain ⟨ha, _⟩ := I.pin (a, oe) (List.mem_append_left _ List.mem_cons_self)
  obtain ⟨vs, hv⟩ := hf
  have hcl : (PySem.W.clsIn X.K D).isSome = true := by
    obtain ⟨cd, z, _⟩ := PySem.W.any_some T.hd
    rw [z]
    rfl
  obtain ⟨od, J⟩ : ∃ od, PySem.W.InstAt s.heap a oe D od := by
    rcases hd with rfl | ⟨dd, fs, rfl, hx, _⟩
    · exact ⟨none, ha, hz.1, by unfold PySem.W.notCls; rw [hv] <;> rfl, by rw [hz.2]; trivial⟩
    · obtain ⟨mA, hns, _⟩ := (show ObjOk X.prog X.w H s.heap dd (.xd fs) from I.hok dd _ hx)
      obtain ⟨od, ho, _⟩ := lookIn_ns hns
      exact ⟨some od, ha, hz.1, by unfold PySem.W.notCls; rw [hv] <;> rfl, by rw [hz.2]; exact ho⟩
  exact PySem.W.kia_one (PySem.W.kitx_exc (x := a) (ox := oe) (od := od) hcl T.hg T.hk T.hs T.ha T.hn T.ht T.hm) I.kIn J e (fun z => nomatch z) fun tk => ⟨.bl b, H, I.tok tk, rfl, q⟩
end
end Gd
namespace Gd
open PySem PySem.Spec PyProof.Rows L2
section
variable {X : Cx}
/-- t.index(n), n in it -/
theorem mt_indexI : MtR X "tuple.index" (fun x xs H Q => ∃ (p : Addr) (ns : List Int) (z : Int), x = .ref p ∧ xs = [.int z] ∧ SqT X.K H p (ns.map V.int) ∧ z ∈ ns ∧ Q (.int (ns.idxOf z : Nat)) H) := by
  intro pins s σ H x xs v us Q I rx rs h
  obtain ⟨p, ns, z, rfl, rfl, hq, hz, q⟩ := h
  obtain rfl : v = Value.ref p := rx
  obtain ⟨u, rfl, t, rfl⟩ := vals1 rs
  obtain ⟨its, r, pl, _⟩ := I.tuple hq
  exact PySem.SeqAt.tuple_index_ints pl (intsAre_of r) hz ⟨.int (ns.idxOf z : Nat), H, I.tok _, ⟨_, rfl⟩, q⟩
/-- (x,) * k -/
theorem op_rep1 : OpR X (binaryOp .Mult) (fun x y H Q => ∃ (l : Addr) (k : Int) (z : V), x = .ref l ∧ y = .int k ∧ SqT X.K H l [z] ∧ 2 ≤ k ∧ k ≤ 100000 ∧ ∀ p, H p = none → Q (.ref p) (upd H p (.tup (List.replicate k.toNat z)))) := by
  intro pins s σ H x y v u Q I rx ry h
  obtain ⟨l, k, z, rfl, rfl, hT, h1, h2, q⟩ := h
  obtain rfl : v = Value.ref l := rx
  obtain ⟨t, rfl⟩ := ry
  obtain ⟨its, r, ⟨⟨cls, dd, data, sl⟩, ho, hc, n, hd⟩, hs⟩ := I.tuple hT
  simp only at hc hd
  subst hc hd
  obtain ⟨u0, rfl, r0⟩ := vals1 r
  have e1 : ([u0] : List Value).toArray.size = 1 := rfl
  have fl : (List.replicate k.toNat [u0]).flatten = List.replicate k.toNat u0 := by
    generalize k.toNat = m
    induction m with
    | zero => rfl
    | succ m ih => rw [List.replicate_succ, List.flatten_cons, ih, List.replicate_succ]; rfl
  have c0 : (decide (k < -(2 ^ 63)) || decide (k ≥ 2 ^ 63)) = false := by rw [decide_eq_false (by omega), decide_eq_false (by omega)]; rfl
  have c1 : (([u0] : List Value).toArray.isEmpty || k == 1) = false := by
    rw [show ([u0] : List Value).toArray.isEmpty = false from rfl, Bool.false_or]
    exact beq_eq_false_iff_ne.mpr (by omega)
  have c2 : (decide (k ≤ 0) || ([u0] : List Value).toArray.isEmpty) = false := by
    rw [show ([u0] : List Value).toArray.isEmpty = false from rfl, Bool.or_false]
    exact decide_eq_false (by omega)
  have c4 : Builtin.Tuple.tupleTooMany (((([u0] : List Value).toArray.size : Nat) : Int) * k) = false := by
    unfold Builtin.Tuple.tupleTooMany
    rw [e1, sizeLine_eq]
    exact decide_eq_false (by omega)
  have hz : (List.replicate k.toNat u0).length ≤ sizeLine := by
    rw [List.length_replicate, sizeLine_eq]
    omega
  refine wpAny_binaryOp_repeat_ref (T := "tuple") (U := "int") (by decide) ⟨_, ho, rfl⟩ (fun s' => typeIs_int s' k t) noFill_tuple_mul F.fills_int_mul F.slot_int_rmul repeat_tuple F.slot_int_index.lookup
    (call_meets F.slot_int_rmul (typeIs_int s k t) F.entry_int_rmul (F.args_int_rmul_2 _ _) (int_rmul_tuple k t l ([u0] : List Value).toArray n dd sl)
      ⟨ho, rfl, ⟨_, ho, rfl⟩, call_meets F.slot_tuple_mul ⟨_, ho, rfl⟩ F.entry_tuple_mul (F.args_tuple_mul_2 _ _) (tuple_mulW l ([u0] : List Value).toArray n dd sl k t c0 c1 c2 (by rw [e1]; omega) c4 (by rw [size_rep, List.size_toArray, fl]; exact hz)) ⟨ho, ?_⟩⟩)
  rw [size_rep, fl]
  refine ⟨.ref s.heap.objs.size, _, I.laid (t' := s.toks) (o := .tup (List.replicate k.toNat z)) (fun b ob q => Heap.get?_push_of_some _ q) (Nat.le_refl _) ?_, rfl, q _ (I.hok.fresh (Nat.le_refl _))⟩
  refine ⟨by rw [List.length_replicate, sizeLine_eq]; omega, List.replicate k.toNat u0, ?_, IsTup.new _ _⟩
  generalize k.toNat = m
  induction m with
  | zero => exact .nil
  | succ m ih => rw [List.replicate_succ, List.replicate_succ]; exact .cons r0 ih
end
end Gd
namespace Gd
open PySem PySem.Spec PyProof.Rows L2
/-- a tuple that is known to have no attributes of its own -/
def PlT (H : Hp) (p : Addr) (xs : List V) : Prop := ∃ o : Obj, o.cls = .type "tuple" ∧ o.dict = none ∧ H p = some (.frz o (.tup xs))
theorem PlT.sq {K : PySem.W.Frag} {H : Hp} {p : Addr} {xs : List V} (h : PlT H p xs) : SqT K H p xs := let ⟨o, _, _, e⟩ := h; .inl (.inr ⟨o, e⟩)
theorem PlT.same {H G : Hp} {p : Addr} {xs : List V} (h : PlT H p xs) (e : Same H G) : PlT G p xs := let ⟨o, a, b, z⟩ := h; ⟨o, a, b, e _ _ z⟩
theorem PlT.keep {H G : Hp} {p : Addr} {xs : List V} (h : PlT H p xs) (e : KeepT H G) : PlT G p xs := let ⟨o, a, b, z⟩ := h; ⟨o, a, b, e _ _ z (by intro _ q; cases q)⟩
section
variable {X : Cx} {o e : Expr} {es : List Expr} {to : TE} {t : TA} {name : Str} {apos cpos : Pos} {id : String} {r : V → List V → Hp → VK → Prop}
/-- tuple(xs), xs a list: no attributes -/
theorem call_tuple_pl : CallR X (.type "tuple") (fun xs H Q => ∃ p ys, xs = [.ref p] ∧ SqL X.K H p ys ∧ ∀ l G, H l = none → Same H G → PlT G l ys → Q (.ref l) G) := by
  intro pins s σ H xs us Q I r h
  obtain ⟨p, ys, rfl, hq, q⟩ := h
  obtain ⟨u, rfl, rx⟩ := vals1 r
  cases rx
  obtain ⟨its, r', pl, hz⟩ := I.list hq
  have hlen := r'.length
  refine call_tuple_list pl.isList (fun h' kp => ?_) (by simp only [List.size_toArray] <;> omega)
  have I1 : Inv X pins σ H { s with heap := h' } := I.kept (t' := s.toks) kp
  have hn := I1.hok.fresh (Nat.le_refl _)
  have I2 : Inv X pins σ (upd H h'.objs.size (.frz { cls := .type "tuple", data := .seq its.toArray } (.tup ys))) { s with heap := h'.push { cls := .type "tuple", data := .seq its.toArray } } :=
    I1.laid (t' := s.toks) (fun b o e => Heap.get?_push_of_some _ e) (Nat.le_refl _) (show ObjOk X.prog X.w _ _ _ (.frz _ (.tup ys)) from ⟨Heap.get?_push_size _ rfl, hz, its, r', IsTup.new _ _⟩)
  exact ⟨.ref h'.objs.size, _, I2, rfl, q _ _ hn (same_new hn) ⟨_, rfl, rfl, upd_same⟩⟩
/-- t.m(e, ..), t such a tuple -/
def tBMT (r : V → List V → Hp → VK → Prop) (to : TE) (t : TA) : TE := fun σ H Q => to σ H fun x H1 => (∃ p ys, x = .ref p ∧ PlT H1 p ys) ∧ t σ H1 fun xs H2 => r x xs H2 Q
theorem pe_bmT (pa : PlainAttrs "tuple") (slot : Slot "tuple" name id) (hty : typeOf (.builtin id) = pure (.type "method_descriptor")) (hm : MtR X id r) (ho : PE X o to) (ha : PA X (e :: es) t)
    (hbase : attributeBase o name X.env (eval o X.env) = eval o X.env := by rfl)
    (hfew : ((backTo cpos (starEach (e :: es) X.env)).all (fun x => !x.1) && (backToKw cpos (keywordEach [] X.env)).all (fun x => x.1.isSome)
      && decide ((e :: es).length + ([] : List Keyword).length + (if ([] : List Keyword).isEmpty then 0 else 1) < 30)) = true := by rfl)
    (hline : (apos.endLine == cpos.line) = true := by rfl) (hs : starEach (e :: es) X.env = (false, eval e X.env) :: starEach es X.env := by rfl) (hplain : (backTo cpos (starEach es X.env)).any (·.1) = false := by rfl) :
    PE X (.Call (.Attribute o name apos) (e :: es) [] cpos) (tBMT r to t) := by
  refine ⟨fun pins s σ H Q I h => ?_⟩
  refine wpAny_Call_method_late hbase hfew hline rfl (thn (ho.run pins s σ H _ I h) fun v s1 ⟨x, H1, I1, r1, ty, q1⟩ => ?_)
  obtain ⟨p, ys, rfl, ob, hc, hd, hq⟩ := ty
  obtain rfl : v = Value.ref p := r1
  have ho := (I1.hok p _ hq).1
  refine ⟨"tuple", id, pa, slot, hty, ⟨ob, ho, hc⟩, fun a e => ?_, ?_⟩
  · cases e
    exact ⟨ob, ho, hd⟩
  have hA := ha.run cpos pins s1 σ H1 _ I1 q1
  rw [hs] at hA ⊢
  refine Calls.callWith_builtin (by show (false || (backTo cpos (starEach es X.env)).any (·.1)) = false; rw [hplain] <;> rfl) (Calls.evalArgs_plain ?_)
  exact thn hA fun us s2 ⟨vs, H2, I2, r2, q2⟩ => hm pins s2 σ H2 (.ref p) vs _ us Q I2 rfl r2 q2
end
end Gd
namespace K9
open PySem PySem.Spec PyProof.Rows L2 Gd
def topS (i : Nat) : Stmt := PySem.Challenge.pw_neverregret_k59_whole_disks_and_cuts.main.body.getD i (.Pass ⟨0, 0, 0, 0⟩)
abbrev sNum : Stmt := topS 1
abbrev sNumB : Stmt := topS 2
abbrev sIRef : Stmt := inClass (topS 6) 0
abbrev sInit : Stmt := inClass (topS 11) 0
abbrev sLook : Stmt := inClass (topS 11) 1
abbrev sPut : Stmt := inClass (topS 11) 2
abbrev sFlush : Stmt := inClass (topS 11) 3
abbrev sEvents : Stmt := inClass (topS 11) 4
abbrev sCells : Stmt := topS 12
abbrev sPend : Stmt := topS 13
abbrev sCut : Stmt := topS 14
abbrev sHeap : Stmt := topS 16
abbrev sDraw : Stmt := topS 17
abbrev sPick : Stmt := topS 18
abbrev sOctet : Stmt := topS 19
abbrev sLast : Stmt := topS 20
abbrev sLPend : Stmt := topS 21
abbrev sCutR : Stmt := topS 22
abbrev sPlay : Stmt := topS 23
abbrev sOdds : Stmt := topS 24
abbrev sGreat : Stmt := topS 25
abbrev sLaw : Stmt := topS 26
theorem scNum : FnScope ["value"] ["value"] (defScope sNum) := ⟨rfl, rfl, rfl, by decide +kernel, rfl, by decide +kernel, by decide +kernel⟩
theorem scNumB : FnScope ["value", "limit"] ["value", "limit"] (defScope sNumB) := ⟨rfl, rfl, rfl, by decide +kernel, rfl, by decide +kernel, by decide +kernel⟩
theorem scIRef : FnScope ["self", "word"] ["self", "word"] (defScope sIRef) := ⟨rfl, rfl, rfl, by decide +kernel, rfl, by decide +kernel, by decide +kernel⟩
theorem scInit : FnScope ["self", "cells"] ["self", "cells"] (defScope sInit) := ⟨rfl, rfl, rfl, by decide +kernel, rfl, by decide +kernel, by decide +kernel⟩
theorem scLook : FnScope ["self", "at"] ["self", "at"] (defScope sLook) := ⟨rfl, rfl, rfl, by decide +kernel, rfl, by decide +kernel, by decide +kernel⟩
theorem scPut : FnScope ["self", "at", "octet"] ["self", "at", "octet"] (defScope sPut) := ⟨rfl, rfl, rfl, by decide +kernel, rfl, by decide +kernel, by decide +kernel⟩
theorem scFlush : FnScope ["self"] ["self"] (defScope sFlush) := ⟨rfl, rfl, rfl, by decide +kernel, rfl, by decide +kernel, by decide +kernel⟩
theorem scEvents : FnScope ["self"] ["self"] (defScope sEvents) := ⟨rfl, rfl, rfl, by decide +kernel, rfl, by decide +kernel, by decide +kernel⟩
theorem scCells : FnScope ["value", "item"] ["value"] (defScope sCells) := ⟨rfl, rfl, rfl, by decide +kernel, rfl, by decide +kernel, by decide +kernel⟩
theorem scPend : FnScope ["events", "pending", "event"] ["events"] (defScope sPend) := ⟨rfl, rfl, rfl, by decide +kernel, rfl, by decide +kernel, by decide +kernel⟩
theorem scCut : FnScope ["cells", "events", "octets", "left", "event", "place", "octet"] ["cells", "events", "octets"] (defScope sCut) := ⟨rfl, rfl, rfl, by decide +kernel, rfl, by decide +kernel, by decide +kernel⟩
theorem scHeap : FnScope ["script", "cell", "cells", "stir"] ["script"] (defScope sHeap) := ⟨rfl, rfl, rfl, by decide +kernel, rfl, by decide +kernel, by decide +kernel⟩
theorem scDraw : FnScope ["heap", "many", "rest"] ["heap", "many"] (defScope sDraw) := ⟨rfl, rfl, rfl, by decide +kernel, rfl, by decide +kernel, by decide +kernel⟩
theorem scPick : FnScope ["heap", "some"] ["heap", "some"] (defScope sPick) := ⟨rfl, rfl, rfl, by decide +kernel, rfl, by decide +kernel, by decide +kernel⟩
theorem scOctet : FnScope ["heap", "kind"] ["heap"] (defScope sOctet) := ⟨rfl, rfl, rfl, by decide +kernel, rfl, by decide +kernel, by decide +kernel⟩
theorem scLast : FnScope ["events", "at", "old", "back", "event"] ["events", "at", "old"] (defScope sLast) := ⟨rfl, rfl, rfl, by decide +kernel, rfl, by decide +kernel, by decide +kernel⟩
theorem scLPend : FnScope ["events", "found", "back", "event"] ["events"] (defScope sLPend) := ⟨rfl, rfl, rfl, by decide +kernel, rfl, by decide +kernel, by decide +kernel⟩
theorem scCutR : FnScope ["heap", "cells", "events", "places", "at", "octets", "due"] ["heap", "cells", "events"] (defScope sCutR) := ⟨rfl, rfl, rfl, by decide +kernel, rfl, by decide +kernel, by decide +kernel⟩
theorem scPlay : FnScope ["heap", "disk", "cells", "events", "many", "deed", "at", "octet", "told"] ["heap", "disk", "cells", "events"] (defScope sPlay) := ⟨rfl, rfl, rfl, by decide +kernel, rfl, by decide +kernel, by decide +kernel⟩
theorem scOdds : FnScope ["heap", "odds", "turn", "error", "cells"] ["heap"] (defScope sOdds) := ⟨rfl, rfl, rfl, by decide +kernel, rfl, by decide +kernel, by decide +kernel⟩
theorem scGreat : FnScope ["heap", "octet", "disk", "error"] ["heap"] (defScope sGreat) := ⟨rfl, rfl, rfl, by decide +kernel, rfl, by decide +kernel, by decide +kernel⟩
theorem scLaw : FnScope ["script", "heap", "turn", "sizes", "at", "rows", "disks", "runs", "events", "many", "row", "place"] ["script"] (defScope sLaw) := ⟨rfl, rfl, rfl, by decide +kernel, rfl, by decide +kernel, by decide +kernel⟩
end K9
namespace K9
open PySem PySem.Spec PyProof.Rows L2 Gd
section
variable {P : Program} {w : World} {K : PySem.W.Frag} {mg : Str → Option Value} {base : Heap}
def spDraw : Sp := fun vs H Q _ => ∃ (h l : Addr) (L : List Int) (st m : Int), vs = [.ref h, .int m] ∧ Hv H h l L st ∧ 0 < m ∧ m < 1000000000 ∧
  ∀ G L' st' r, But h l H G → Hv G h l L' st' → 0 ≤ r → r < m → Q (.int r) G
theorem ok_draw {f : Addr} {fd : FuncData} {k : Nat} (F : Fun K "_law_draw" "_law_draw" sDraw f fd) (mi : mg "int" = none) : FnOk P w K mg base CX0 (k + 1) f fd ["heap", "many"] spDraw := by
  refine F.ok scDraw (fun vs H Q E h => ?_) (fun cdv A outer s H vs Q E hr h => ?_)
  · obtain ⟨h, l, L, st, m, rfl, _⟩ := h
    rfl
  · obtain ⟨h, l, L, st, m, rfl, hv, h0, h1, q⟩ := h
    refine ⟨_, pss_cons (ps_while PassesOwn.never (PW.pt (pw_and (pt_cmpR (op_neD hr.units) (pe_ix ix_list (pv 0) pe_int (fun _ _ => rfl)) (pe_lst pa_nil) (nomark _))
        (pw_and1 (pt_cmpR op_eq (pe_ix ix_list (pe_ix ix_list (pv 0) pe_int (fun _ _ => rfl)) (pe_un un_neg pe_int) (fun _ _ => rfl)) pe_int (nomark _)))))
        (pss_one (ps_expr (pe_bm0 PySem.F.plainAttrs_list PySem.F.slot_list_pop PySem.F.type_list_pop mt_pop (pe_ix ix_list (pv 0) pe_int (fun _ _ => rfl))))))
      (pss_cons (ps_if (pt_cmpR (op_neD hr.units) (pe_ix ix_list (pv 0) pe_int (fun _ _ => rfl)) (pe_lst pa_nil) (nomark _))
        (pss_cons (ps_set (i := 2) scDraw.nd rfl (.inl rfl) (pe_bm0 PySem.F.plainAttrs_list PySem.F.slot_list_pop PySem.F.type_list_pop mt_pop (pe_ix ix_list (pv 0) pe_int (fun _ _ => rfl))))
          (pss_cons (ps_expr (pe_bm PySem.F.plainAttrs_list PySem.F.slot_list_append PySem.F.type_list_append mt_append (pe_ix ix_list (pv 0) pe_int (fun _ _ => rfl)) (pa_cons (pe_op op_fdivN (pv 2) (pv 1)) pa_nil)))
            (pss_one (ps_ret (pe_op op_mod (pe_callTy call_int1 (by rfl) mi (by decide +kernel) (pa_cons (pv 2) pa_nil)) (pv 1)))))) pss_nil)
      (pss_cons (ps_asg (pe_op op_mod (pe_callTy call_int1 (by rfl) mi (by decide +kernel) (pa_cons (pe_op op_add (pe_op op_mul (pe_ix ix_list (pv 0) pe_int (fun _ _ => rfl)) pe_int) pe_int) pa_nil)) pe_int) (pg_sub (pv 0) pe_int set_list))
      (pss_one (ps_ret (pe_op op_mod (pe_callTy call_int1 (by rfl) mi (by decide +kernel) (pa_cons (pe_op op_fdivN (pe_ix ix_list (pv 0) pe_int (fun _ _ => rfl)) pe_int) pa_nil)) (pv 1)))))), ?_⟩
    refine ⟨fun n σ G => ∃ M, n = M.length ∧ σ = [some (.ref h), some (.int m), none] ∧ Hv G h l M st ∧ But h l H G, ⟨_, L, rfl, rfl, hv, But.refl _ _ _⟩, fun n σ G hw => ?_⟩
    obtain ⟨M, rfl, rfl, hg, bt⟩ := hw
    refine ⟨.ref h, rfl, h, _, 0, .ref l, rfl, rfl, sqL hg.top, atI_nat (j := 0) rfl, Nat.zero_le _, fun p np => ?_⟩
    refine ⟨.list (M.map .int), .list [], dp_ints (hg.new np).bot, .lst (sqL upd_same) .nil, shaped_ints M, rfl, _, rfl, ?_⟩
    have hg1 := hg.new (o := .lst []) np
    have bt1 := bt.new (o := .lst []) np
    rw [eqv_nil]
    by_cases hM : M = []
    · -- the list is empty: a new number
      subst hM
      refine iteF ?_
      refine iteF ?_
      -- if heap[0] != []
      refine ⟨.ref h, rfl, h, _, 0, .ref l, rfl, rfl, sqL hg1.top, atI_nat (j := 0) rfl, Nat.zero_le _, fun p2 np2 => ?_⟩
      refine ⟨.list (([] : List Int).map .int), .list [], dp_ints (hg1.new np2).bot, .lst (sqL upd_same) .nil, shaped_ints [], rfl, _, rfl, ?_⟩
      have hg2 := hg1.new (o := .lst []) np2
      have bt2 := bt1.new (o := .lst []) np2
      rw [eqv_nil]
      refine iteF ?_
      -- heap[1] = int(heap[1] * 69621 + 59) % 2147483647
      have hlo := hv.lo
      have hhi := hv.hi
      refine ⟨.ref h, rfl, h, _, 1, .int st, rfl, rfl, sqL hg2.top, atI_nat (j := 1) rfl, _, _, rfl, rfl, .inl ⟨by omega, by omega⟩, _, _, rfl, rfl, .inl ⟨_, rfl, _, _, rfl, rfl, (by show (0 : Int) < 2147483647; decide), ?_⟩⟩
      have n0 := Int.emod_nonneg (st * 69621 + 59) (show (2147483647 : Int) ≠ 0 by decide)
      have n1 := Int.emod_lt_of_pos (st * 69621 + 59) (show (0 : Int) < 2147483647 by decide)
      refine ⟨.ref h, rfl, h, _, 1, 1, rfl, rfl, hg2.top, rfl, ?_⟩
      have hg3 := hg2.setN n0 n1
      have bt3 : But h l H _ := bt2.atH (o := .lst [.ref l, .int ((st * 69621 + 59) % 2147483647)])
      -- return int(heap[1] // 32) % many
      refine ⟨.ref h, rfl, h, _, 1, _, rfl, rfl, sqL upd_same, atI_nat (j := 1) rfl, _, _, rfl, rfl, ⟨by decide, by decide⟩, .inl ⟨_, rfl, .int m, rfl, _, _, rfl, rfl, h0, ?_⟩⟩
      exact q _ _ _ _ bt3 hg3 (Int.emod_nonneg _ (by omega)) (Int.emod_lt_of_pos _ h0)
    · rw [decide_eq_false hM]
      refine iteT ?_
      -- heap[0][-1] == 0
      refine ⟨.ref h, rfl, h, _, 0, .ref l, rfl, rfl, sqL hg1.top, atI_nat (j := 0) rfl, 1, rfl, l, _, -1, _, rfl, rfl, sqL hg1.bot, last_map hM, rfl, _, rfl, ?_⟩
      have lt : M.dropLast.length < M.length := by
        have := List.length_pos_iff.mpr hM
        rw [List.length_dropLast]
        omega
      by_cases hz : M.getLast hM = 0
      · -- it ends in 0: pop
        rw [hz, decide_eq_true rfl]
        refine iteT ?_
        refine ⟨fun σ' G' => σ' = [some (.ref h), some (.int m), none] ∧ Hv G' h l M.dropLast st ∧ But h l H G', fun σ' G' z => ⟨_, lt, _, rfl, z.1, z.2.1, z.2.2⟩, ?_⟩
        refine ⟨.ref h, rfl, h, _, 0, .ref l, rfl, rfl, sqL hg1.top, atI_nat (j := 0) rfl, .inl ⟨rfl, _, sqL hg1.bot⟩, l, _, _, rfl, rfl, hg1.bot, last_get hM, rfl, ?_, ?_⟩
        · rw [drop_map]
          exact hg1.setL (Nat.le_trans (Nat.le_of_lt lt) hg1.len)
        · exact bt1.atL
      · -- the loop's end
        rw [decide_eq_false (show ¬ V.int (M.getLast hM) = V.int 0 from fun z => hz (V.int.inj z))]
        refine iteF ?_
        -- if heap[0] != []
        refine ⟨.ref h, rfl, h, _, 0, .ref l, rfl, rfl, sqL hg1.top, atI_nat (j := 0) rfl, Nat.zero_le _, fun p2 np2 => ?_⟩
        refine ⟨.list (M.map .int), .list [], dp_ints (hg1.new np2).bot, .lst (sqL upd_same) .nil, shaped_ints M, rfl, _, rfl, ?_⟩
        have hg2 := hg1.new (o := .lst []) np2
        have bt2 := bt1.new (o := .lst []) np2
        rw [eqv_nil, decide_eq_false hM]
        refine iteT ?_
        -- rest = heap[0].pop()
        refine ⟨.ref h, rfl, h, _, 0, .ref l, rfl, rfl, sqL hg2.top, atI_nat (j := 0) rfl, .inl ⟨rfl, _, sqL hg2.bot⟩, l, _, _, rfl, rfl, hg2.bot, last_get hM, ?_⟩
        rw [drop_map]
        have hg3 := hg2.setL (M := M.dropLast) (Nat.le_trans (Nat.le_of_lt lt) hg1.len)
        have bt3 : But h l H _ := bt2.atL (o := .lst (M.dropLast.map V.int))
        -- heap[0].append(rest // many)
        refine ⟨.ref h, rfl, h, _, 0, .ref l, rfl, rfl, sqL hg3.top, atI_nat (j := 0) rfl, .inl ⟨rfl, _, sqL hg3.bot⟩, .int (M.getLast hM), rfl, .int m, rfl, _, _, rfl, rfl, ⟨by omega, by omega⟩, l, _, _, rfl, rfl, hg3.bot, ?_, ?_⟩
        · have := hg1.len
          rw [List.length_map]
          exact small1000 (by omega)
        have e : M.dropLast.map V.int ++ [.int ((M.getLast hM).fdiv m)] = (M.dropLast ++ [(M.getLast hM).fdiv m]).map V.int := by
          rw [List.map_append]
          rfl
        rw [e]
        have hg4 := hg3.setL (M := M.dropLast ++ [(M.getLast hM).fdiv m]) (by
          have := hg1.len
          rw [List.length_append]
          show _ + 1 ≤ 63
          omega)
        have bt4 : But h l H _ := bt3.atL (o := .lst ((M.dropLast ++ [(M.getLast hM).fdiv m]).map V.int))
        -- return int(rest) % many
        refine ⟨.int (M.getLast hM), rfl, .inl ⟨_, rfl, .int m, rfl, _, _, rfl, rfl, h0, ?_⟩⟩
        exact q _ _ _ _ bt4 hg4 (Int.emod_nonneg _ (by omega)) (Int.emod_lt_of_pos _ h0)
def spPick (K : PySem.W.Frag) : Sp := fun vs H Q _ => ∃ (h l : Addr) (L : List Int) (st : Int) (p : Addr) (xs : List V), vs = [.ref h, .ref p] ∧ Hv H h l L st ∧ SqL K H p xs ∧ p ≠ h ∧ p ≠ l ∧ 0 < xs.length ∧ xs.length < 1000 ∧
  ∀ (G : Hp) (L' : List Int) (st' : Int) (i : Nat) (x : V), But h l H G → Hv G h l L' st' → xs[i]? = some x → Q x G
theorem ok_pick {f fD : Addr} {fd fdD : FuncData} {k : Nat} (F : Fun K "_law_pick" "_law_pick" sPick f fd) (FD : Fun K "_law_draw" "_law_draw" sDraw fD fdD) (bD : Binds K fdD ["heap", "many"] []) (gD : mg "_law_draw" = some (.ref fD))
    (ml : mg "len" = none) (mi : mg "int" = none) : FnOk P w K mg base CX0 (k + 1 + 1) f fd ["heap", "some"] (spPick K) := by
  have GD : FnOk P w K mg base CX0 (k + 1) fD fdD ["heap", "many"] spDraw := ok_draw FD mi
  refine F.ok scPick (fun vs H Q E h => ?_) (fun cdv A outer s H vs Q E hr h => ?_)
  · obtain ⟨h, l, L, st, p, xs, rfl, _⟩ := h
    rfl
  · obtain ⟨h, l, L, st, p, xs, rfl, hv, hs, n1, n2, h0, h1, q⟩ := h
    refine ⟨_, pss_one (ps_ret (pe_ix ix_list (pv 1) (pe_call GD hr (by rfl) gD FD.kp bD .nil pass0 (pa_cons (pv 0) (pa_cons (pe_callB call_len_seq (by rfl) ml PySem.boot_len (pa_cons (pv 1) pa_nil)) pa_nil))) (fun _ _ => rfl))), ?_⟩
    refine ⟨.ref p, rfl, .ref h, rfl, .ref p, rfl, p, xs, rfl, .inl hs, h, l, L, st, xs.length, rfl, hv, by omega, by omega, fun G L' st' r bt hv' r0 r1 => ?_⟩
    obtain ⟨i, rfl⟩ := Int.eq_ofNat_of_zero_le r0
    have hi : i < xs.length := by omega
    exact ⟨p, xs, _, xs[i], rfl, rfl, bt.seqL n1 n2 hs, atI_nat (List.getElem?_eq_getElem hi), q G L' st' i _ bt hv' (List.getElem?_eq_getElem hi)⟩
def spHeap (K : PySem.W.Frag) : Sp := fun vs H Q _ => ∃ (a : Addr) (ns : List Int), vs = [.ref a] ∧ SqL K H a (ns.map V.int) ∧ ns.length ≤ 63 ∧
  ∀ (G : Hp) (h l : Addr) (L : List Int) (st : Int), Same H G → H h = none → H l = none → Hv G h l L st → Q (.ref h) G
theorem ok_heap {f : Addr} {fd : FuncData} {k : Nat} (F : Fun K "_law_heap" "_law_heap" sHeap f fd) (ma : mg "abs" = none) (mi : mg "int" = none) : FnOk P w K mg base CX0 (k + 1) f fd ["script"] (spHeap K) := by
  refine F.ok scHeap (fun vs H Q E h => ?_) (fun cdv A outer s H vs Q E hr h => ?_)
  · obtain ⟨a, ns, rfl, _⟩ := h
    rfl
  · obtain ⟨a, ns, rfl, hs, hl, q⟩ := h
    refine ⟨_, pss_cons (ps_par (i := 2) (j := 3) rfl scHeap.nd rfl rfl (by decide) rfl rfl (pa_cons (pe_lc (own := [("cell", 1)]) (g := gName 1) (tt := tYes) rfl scHeap.nd (pi_list (pe_slice sl_list (pv 0) po_none (po_some pe_int)))
          (blkOk_by (own := [("cell", 1)]) (N := ["script", "cell", "cells", "stir"]) (sc := defScope sHeap) (by decide +kernel)) (fun _ _ _ _ _ => pg_name (i := 1) scHeap.nd rfl (Or.inl rfl)) (fun _ _ _ _ _ => pts_nil)
          (fun _ _ _ _ _ => pe_op op_add (pe_op op_mul pe_int (pe_callB call_abs (by rfl) ma (by decide +kernel) (pa_cons (pv 1) pa_nil))) (pe_callTy call_int1 (by rfl) mi (by decide +kernel) (pa_cons (pe_cmpR op_lt (pv 1) pe_int (nomark _)) pa_nil)))) (pa_cons pe_int pa_nil)) (by rfl))
      (pss_cons (ps_for PassesOwn.never rfl (pi_list (pv 2)) (pg_name (i := 1) scHeap.nd rfl (.inl rfl))
        (pss_one (ps_set (i := 3) scHeap.nd rfl (.inl rfl) (pe_op op_mod (pe_callTy call_int1 (by rfl) mi (by decide +kernel) (pa_cons (pe_op op_add (pe_op op_add (pe_op op_mul (pv 3) pe_int) (pe_op op_mod (pe_callTy call_int1 (by rfl) mi (by decide +kernel) (pa_cons (pv 1) pa_nil)) pe_int)) pe_int) pa_nil)) pe_int))))
      (pss_one (ps_ret (pe_lst (pa_cons (pe_revL (pe_lc (own := [("cell", 1)]) (g := gName 1) rfl scHeap.nd (pi_list (pv 2))
          (blkOk_by (own := [("cell", 1)]) (N := ["script", "cell", "cells", "stir"]) (sc := defScope sHeap) (by decide +kernel)) (fun _ _ _ _ _ => pg_name (i := 1) scHeap.nd rfl (Or.inl rfl))
          (fun _ _ _ _ _ => pts_one (pt_cmpR op_ge (pv 1) (pe_op op_pow pe_int pe_int) (nomark _))) (fun _ _ _ _ _ => pv 1))) (pa_cons (pv 3) pa_nil)))))), ?_⟩
    -- script[:60]
    refine ⟨.ref a, rfl, 60, rfl, a, _, rfl, hs, fun p np => ⟨p, rfl, ⟨_, sqL upd_same⟩, fun D nD => ?_⟩⟩
    have s1 : Same H _ := same_new (o := .lst (cutV (ns.map V.int) none (some 60))) np
    have ecut : cutV (ns.map V.int) none (some 60) = (ns.take 60).map V.int := by
      unfold cutV
      rw [HT.sIx_none, show (some (60 : Int)) = some ((60 : Nat) : Int) from rfl, HT.sIx_nat, List.drop_zero, Nat.sub_zero, List.length_map, List.map_take]
      by_cases z : 60 ≤ ns.length
      · rw [Nat.min_eq_left z]
      · rw [Nat.min_eq_right (by omega), List.take_of_length_le (by rw [List.length_map]; exact Nat.le_refl _), List.take_of_length_le (by rw [List.length_map]; omega)]
    rw [ecut] at s1 nD ⊢
    refine lc_list (K := K) (a := p) (xs := (ns.take 60).map V.int) (fun i G => Same (upd H p (.lst ((ns.take 60).map V.int))) G ∧ ∃ cs : List Int, G D = some (.lst (cs.map V.int)) ∧ cs.length = i)
      ⟨same_new nD, [], upd_same, rfl⟩ (fun i G _ hP => sqL (hP.1 _ _ upd_same)) (fun i x G hx hP => ?_) (fun G hP => ?_)
    · obtain ⟨s2, cs, gD, cl⟩ := hP
      obtain ⟨n, hn, rfl⟩ : ∃ n, (ns.take 60)[i]? = some n ∧ V.int n = x := by
        rw [List.getElem?_map] at hx
        cases e : (ns.take 60)[i]? with
        | none => rw [e] at hx; cases hx
        | some n => rw [e] at hx; exact ⟨n, rfl, Option.some.inj hx⟩
      have hi := (List.getElem?_eq_some_iff.mp hn).1
      rw [List.length_take] at hi
      refine ⟨rfl, ?_⟩
      dsimp only [tYes]
      rw [if_pos rfl]
      refine ⟨_, rfl, n, rfl, 2, _, rfl, rfl, .inl ⟨by decide, by decide⟩, _, rfl, _, _, rfl, rfl, .inr ⟨_, rfl, _, _, rfl, rfl, cs.map V.int, gD, ?_, fun b o e => ?_, cs ++ [2 * (if n < 0 then -n else n) + (if decide (n < 0) = true then 1 else 0)], ?_, ?_⟩⟩
      · rw [List.length_map]
        exact small1000 (by omega)
      · rw [upd_ne (ne_of_none e nD)]
        exact s2 _ _ e
      · rw [upd_same, List.map_append]
        rfl
      · rw [List.length_append, cl]
        rfl
    · obtain ⟨s2, cs, gD, cl⟩ := hP
      have sG := s1.trans s2
      rw [List.length_map, List.length_take] at cl
      refine ⟨_, _, rfl, ?_⟩
      -- for cell in cells
      refine ⟨.ref D, rfl, D, rfl, ⟨_, sqL gD⟩, for_list (xs := cs.map V.int) (fun i σ G' => G' = G ∧ ∃ (st : Int) (y : Option V), σ = [some (.ref a), y, some (.ref D), some (.int st)] ∧ 0 ≤ st ∧ st < 2147483647)
        ⟨rfl, 50021, none, rfl, by decide, by decide⟩ (fun i σ G' _ hP => by rw [hP.1]; exact sqL gD) (fun i x σ G' hx hP => ?_) (fun σ G' hP => ?_)⟩
      · obtain ⟨rfl, st, y, rfl, h0, h1⟩ := hP
        obtain ⟨n, rfl⟩ : ∃ n, V.int n = x := by
          rw [List.getElem?_map] at hx
          cases e : cs[i]? with
          | none => rw [e] at hx; cases hx
          | some n => rw [e] at hx; exact ⟨n, Option.some.inj hx⟩
        refine ⟨_, rfl, _, _, rfl, rfl, .inl ⟨by omega, by omega⟩, _, rfl, .inl ⟨_, rfl, _, _, rfl, rfl, (by show (0 : Int) < 2147483563; decide), _, _, rfl, rfl, _, _, rfl, rfl, .inl ⟨_, rfl, _, _, rfl, rfl, (by show (0 : Int) < 2147483647; decide), rfl, _, _, rfl, ?_, ?_⟩⟩⟩
        · exact Int.emod_nonneg _ (by decide)
        · exact Int.emod_lt_of_pos _ (by decide)
      · obtain ⟨rfl, st, y, rfl, h0, h1⟩ := hP
        refine ⟨.ref D, rfl, D, rfl, ⟨_, sqL gD⟩, fun D2 nD2 => ?_⟩
        refine lc_list (K := K) (a := D) (xs := cs.map V.int) (fun i G2 => Same G' G2 ∧ ∃ es : List Int, G2 D2 = some (.lst (es.map V.int)) ∧ es.length ≤ i)
          ⟨same_new nD2, [], upd_same, Nat.le_refl _⟩ (fun i G2 _ hP => sqL (hP.1 _ _ gD)) (fun i x G2 hx hP => ?_) (fun G2 hP => ?_)
        · obtain ⟨s3, es, gE, el⟩ := hP
          obtain ⟨n, hn, rfl⟩ : ∃ n, cs[i]? = some n ∧ V.int n = x := by
            rw [List.getElem?_map] at hx
            cases e : cs[i]? with
            | none => rw [e] at hx; cases hx
            | some n => rw [e] at hx; exact ⟨n, rfl, Option.some.inj hx⟩
          have hi := (List.getElem?_eq_some_iff.mp hn).1
          refine ⟨rfl, _, rfl, 10, 18, rfl, rfl, ⟨by decide, by decide, by decide⟩, _, _, rfl, rfl, _, rfl, ite2 (fun _ => ?_) (fun _ => ⟨s3, es, gE, Nat.le_succ_of_le el⟩)⟩
          refine ⟨_, rfl, es.map V.int, gE, ?_, fun b o e => ?_, es ++ [n], ?_, ?_⟩
          · rw [List.length_map]
            exact small1000 (by omega)
          · rw [upd_ne (ne_of_none e nD2)]
            exact s3 _ _ e
          · rw [upd_same, List.map_append]
            rfl
          · rw [List.length_append]
            exact Nat.succ_le_succ el
        · obtain ⟨s3, es, gE, el⟩ := hP
          rw [List.length_map] at el
          refine ⟨D2, _, rfl, sqL gE, fun l nl => ?_⟩
          refine ⟨_, rfl, by show 2 ≤ sizeLine; decide, fun h nh => ?_⟩
          have s4 : Same G2 _ := same_new (o := .lst (es.map V.int).reverse) nl
          have s5 := s4.trans (same_new (o := .lst [.ref l, .int st]) nh)
          have up : ∀ b, G2 b = none → H b = none := fun b e => by
            cases z : H b with
            | none => rfl
            | some o => exact nomatch (s3 _ _ (sG _ _ z)).symm.trans e
          have nlh : l ≠ h := ne_of_none upd_same nh
          refine q _ h l es.reverse st ((sG.trans s3).trans s5) (up h ((by
            cases z : G2 h with
            | none => rfl
            | some o => exact nomatch (s4 _ _ z).symm.trans nh))) (up l nl) ⟨upd_same, ?_, nlh, h0, h1, ?_⟩
          · rw [upd_ne nlh, upd_same, List.map_reverse]
          · rw [List.length_reverse]
            omega
end
end K9
/-! Disks: the mathematics. -/
namespace K9
open PySem
/-- an event: a put, or a flush -/
abbrev Ev := Option (Nat × Int)
/-- what a put does to the cells -/
def act (ps : List Int) (e : Ev) : List Int := match e with
  | none => ps
  | some (a, o) => ps.set a o
def replay (cells : List Int) (evs : List Ev) : List Int := evs.foldl act cells
/-- the last octet put at a place, by going backward -/
def lastR : List Ev → Nat → Int → Int
  | [], _, old => old
  | none :: r, a, old => lastR r a old
  | some (b, o) :: r, a, old => if b = a then o else lastR r a old
def lastOf (evs : List Ev) (a : Nat) (old : Int) : Int := lastR evs.reverse a old
theorem replay_len (cells : List Int) : ∀ evs : List Ev, (replay cells evs).length = cells.length := by
  intro evs
  unfold replay
  induction evs generalizing cells with
  | nil => rfl
  | cons e r ih =>
    rw [List.foldl_cons, ih]
    cases e with
    | none => rfl
    | some p => exact List.length_set
theorem replay_snoc (cells : List Int) (evs : List Ev) (e : Ev) : replay cells (evs ++ [e]) = act (replay cells evs) e := by
  unfold replay
  rw [List.foldl_append]
  rfl
theorem last_snoc (evs : List Ev) (e : Ev) (a : Nat) (old : Int) : lastOf (evs ++ [e]) a old = match e with | none => lastOf evs a old | some (b, o) => if b = a then o else lastOf evs a old := by
  unfold lastOf
  rw [List.reverse_append]
  cases e with
  | none => rfl
  | some p => rfl
/-- what stands at a place is what was put there last -/
theorem replay_get {cells : List Int} {a : Nat} {c : Int} (h : cells[a]? = some c) (evs : List Ev) : (replay cells evs)[a]? = some (lastOf evs a c) := by
  have key : ∀ l : List Ev, (replay cells l.reverse)[a]? = some (lastR l a c) := by
    intro l
    induction l with
    | nil => exact h
    | cons e r ih =>
      rw [List.reverse_cons, replay_snoc]
      cases e with
      | none => exact ih
      | some p =>
        obtain ⟨b, o⟩ := p
        show ((replay cells r.reverse).set b o)[a]? = some (if b = a then o else lastR r a c)
        by_cases e : b = a
        · rw [if_pos e, e, List.getElem?_set_self]
          rw [replay_len]
          exact (List.getElem?_eq_some_iff.mp h).1
        · rw [if_neg e, List.getElem?_set_ne e]
          exact ih
  have := key evs.reverse
  rw [List.reverse_reverse] at this
  exact this
/-- the places put since the last flush -/
def pstep (ps : List Nat) (e : Ev) : List Nat := match e with
  | none => []
  | some (a, _) => if a ∈ ps then ps else ps ++ [a]
def pend (evs : List Ev) : List Nat := evs.foldl pstep []
theorem pend_snoc (evs : List Ev) (e : Ev) : pend (evs ++ [e]) = pstep (pend evs) e := by
  unfold pend
  rw [List.foldl_append]
  rfl
theorem pstep_nd {ps : List Nat} (h : ps.Nodup) (e : Ev) : (pstep ps e).Nodup := by
  cases e with
  | none => exact List.nodup_nil
  | some p =>
    obtain ⟨a, o⟩ := p
    show (if a ∈ ps then ps else ps ++ [a]).Nodup
    by_cases z : a ∈ ps
    · rw [if_pos z]
      exact h
    · rw [if_neg z]
      refine List.nodup_append.mpr ⟨h, by simp, fun x hx y hy => ?_⟩
      rw [List.mem_singleton] at hy
      rw [hy]
      exact fun e => z (e ▸ hx)
theorem pend_nd (evs : List Ev) : (pend evs).Nodup := by
  have key : ∀ (l : List Ev) (ps : List Nat), ps.Nodup → (l.foldl pstep ps).Nodup := by
    intro l
    induction l with
    | nil => exact fun _ h => h
    | cons e r ih => exact fun ps h => ih _ (pstep_nd h e)
  exact key evs [] List.nodup_nil
/-- the law's way: backward to the last flush -/
def backP : List Ev → List Nat → List Nat
  | [], f => f
  | none :: _, f => f
  | some (a, _) :: r, f => backP r (if a ∈ f then f else f ++ [a])
theorem backP_nd : ∀ (l : List Ev) (f : List Nat), f.Nodup → (backP l f).Nodup
  | [], _, h => h
  | none :: _, _, h => h
  | some (a, o) :: r, f, h => backP_nd r _ (pstep_nd h (some (a, o)))
theorem mem_step (f : List Nat) (a x : Nat) : x ∈ (if a ∈ f then f else f ++ [a]) ↔ x ∈ f ∨ x = a := by
  by_cases z : a ∈ f
  · rw [if_pos z]
    exact ⟨.inl, fun h => h.elim id fun e => e ▸ z⟩
  · rw [if_neg z]
    simp
theorem backP_mem (x : Nat) : ∀ (l : List Ev) (f : List Nat), x ∈ backP l f ↔ x ∈ f ∨ x ∈ pend l.reverse
  | [], f => by simp [backP, pend]
  | none :: r, f => by
    rw [backP, List.reverse_cons, pend_snoc]
    simp [pstep]
  | some (a, o) :: r, f => by
    rw [backP, List.reverse_cons, pend_snoc, backP_mem x r, mem_step]
    show _ ↔ x ∈ f ∨ x ∈ (if a ∈ pend r.reverse then pend r.reverse else pend r.reverse ++ [a])
    rw [mem_step]
    exact ⟨fun h => h.elim (fun h => h.elim .inl fun e => .inr (.inr e)) fun h => .inr (.inl h), fun h => h.elim (fun h => .inl (.inl h)) fun h => h.elim .inr fun e => .inl (.inr e)⟩
theorem back_mem (evs : List Ev) (x : Nat) : x ∈ backP evs.reverse [] ↔ x ∈ pend evs := by
  rw [backP_mem, List.reverse_reverse]
  simp
theorem pend_in {evs : List Ev} {n : Nat} (h : ∀ a o, some (a, o) ∈ evs → a < n) : ∀ a ∈ pend evs, a < n := by
  have key : ∀ (l : List Ev) (ps : List Nat), (∀ a o, some (a, o) ∈ l → a < n) → (∀ a ∈ ps, a < n) → ∀ a ∈ l.foldl pstep ps, a < n := by
    intro l
    induction l with
    | nil => exact fun _ _ h => h
    | cons e r ih =>
      intro ps h1 h2
      refine ih _ (fun a o z => h1 a o (List.mem_cons_of_mem _ z)) fun a ha => ?_
      cases e with
      | none => simp [pstep] at ha
      | some p =>
        rcases (mem_step ps p.1 a).mp ha with z | z
        · exact h2 a z
        · exact z ▸ h1 p.1 p.2 List.mem_cons_self
  exact key evs [] h (by simp)
theorem pend_len (evs : List Ev) : (pend evs).length ≤ evs.length := by
  have key : ∀ (l : List Ev) (ps : List Nat), (l.foldl pstep ps).length ≤ ps.length + l.length := by
    intro l
    induction l with
    | nil => exact fun _ => Nat.le_refl _
    | cons e r ih =>
      intro ps
      have h := ih (pstep ps e)
      have h2 : (pstep ps e).length ≤ ps.length + 1 := by
        cases e with
        | none => exact Nat.zero_le _
        | some p =>
          show (if p.1 ∈ ps then ps else ps ++ [p.1]).length ≤ _
          split
          · omega
          · rw [List.length_append]; exact Nat.le_refl _
      rw [List.foldl_cons, List.length_cons]
      omega
  have := key evs []
  rw [List.length_nil, Nat.zero_add] at this
  exact this
/-- sorted lists with the same things, each once, are one -/
theorem sorted_same : ∀ {a b : List Int}, a.Pairwise (· ≤ ·) → b.Pairwise (· ≤ ·) → a.Nodup → b.Nodup → (∀ x, x ∈ a ↔ x ∈ b) → a = b
  | [], [], _, _, _, _, _ => rfl
  | [], y :: s, _, _, _, _, h => absurd ((h y).mpr List.mem_cons_self) List.not_mem_nil
  | x :: r, [], _, _, _, _, h => absurd ((h x).mp List.mem_cons_self) List.not_mem_nil
  | x :: r, y :: s, pa, pb, na, nb, h => by
    obtain ⟨a1, a2⟩ := List.pairwise_cons.mp pa
    obtain ⟨b1, b2⟩ := List.pairwise_cons.mp pb
    obtain ⟨n1, n2⟩ := List.nodup_cons.mp na
    obtain ⟨m1, m2⟩ := List.nodup_cons.mp nb
    have e : x = y := by
      rcases List.mem_cons.mp ((h x).mp List.mem_cons_self) with z | z
      · exact z
      · rcases List.mem_cons.mp ((h y).mpr List.mem_cons_self) with z2 | z2
        · exact z2.symm
        · exact Int.le_antisymm (a1 y z2) (b1 x z)
    subst e
    rw [sorted_same a2 b2 n2 m2 fun z => ?_]
    constructor
    · intro hz
      rcases List.mem_cons.mp ((h z).mp (List.mem_cons_of_mem _ hz)) with q | q
      · exact absurd (q ▸ hz) n1
      · exact q
    · intro hz
      rcases List.mem_cons.mp ((h z).mpr (List.mem_cons_of_mem _ hz)) with q | q
      · exact absurd (q ▸ hz) m1
      · exact q
/-- places with octets put behind all -/
def laid (ps : List Int) : List (Nat × Int) → List Int
  | [] => ps
  | (a, o) :: r => laid (ps.set a o) r
theorem laid_len : ∀ (l : List (Nat × Int)) (ps : List Int), (laid ps l).length = ps.length
  | [], _ => rfl
  | (a, o) :: r, ps => by rw [laid, laid_len r, List.length_set]
theorem laid_get {b : Nat} : ∀ (l : List (Nat × Int)) (ps : List Int), (l.map (·.1)).Nodup → b < ps.length → (laid ps l)[b]? = match (l.map (·.1)).idxOf? b with | none => ps[b]? | some i => (l.map (·.2))[i]?
  | [], ps, _, _ => rfl
  | (a, o) :: r, ps, h, hb => by
    obtain ⟨n1, n2⟩ := List.nodup_cons.mp h
    rw [laid, laid_get r _ n2 (by rw [List.length_set]; exact hb), List.map_cons, List.map_cons, List.idxOf?_cons]
    by_cases e : a = b
    · subst e
      have z : (r.map (·.1)).idxOf? a = none := List.idxOf?_eq_none_iff.mpr n1
      rw [z]
      simp [hb]
    · have z : (a == b) = false := beq_eq_false_iff_ne.mpr e
      rw [z]
      cases q : (r.map (·.1)).idxOf? b with
      | none => simp [List.getElem?_set_ne e]
      | some i => simp
end K9
namespace K9
open PySem PySem.Spec PyProof.Rows L2 Gd
/-- a value of a built-in type, by the name of the type -/
def TyN (K : PySem.W.Frag) (H : Hp) (x : V) (n : String) : Prop := TyX K H x (.type n)
theorem TyN.int {K : PySem.W.Frag} {H : Hp} (i : Int) : TyN K H (.int i) "int" := .base (.int i)
theorem TyN.bl {K : PySem.W.Frag} {H : Hp} (b : Bool) : TyN K H (.bl b) "bool" := .base (.bl b)
theorem TyN.non {K : PySem.W.Frag} {H : Hp} : TyN K H .non "NoneType" := .base .non
theorem TyN.str {K : PySem.W.Frag} {H : Hp} (x : Str) : TyN K H (.str x) "str" := .base (.str x)
theorem tyX_same {K : PySem.W.Frag} {H G : Hp} (e : Same H G) {x : V} {t : Value} (h : TyX K H x t) : TyX K G x t := by
  cases h with
  | base b =>
    cases b with
    | non => exact .base .non
    | bl y => exact .base (.bl y)
    | int i => exact .base (.int i)
    | str y => exact .base (.str y)
    | flt y => exact .base (.flt y)
    | lst q => exact .base (.lst (e _ _ q))
    | frz q => exact .base (.frz (e _ _ q))
    | tup q => exact .base (.tup (e _ _ q))
    | dK q => exact .base (.dK (e _ _ q))
    | dT q => exact .base (.dT (e _ _ q))
    | ins q a b c d m => exact .base (.ins (e _ _ q) a b c d m)
  | byt b => exact .byt b
  | set q => exact .set (e _ _ q)
  | kList q c => exact .kList q c
  | kTuple q c => exact .kTuple q c
  | kDict q c => exact .kDict q c
  | fTuple q => exact .fTuple (e _ _ q)
  | fDict q => exact .fDict (e _ _ q)
/-- whether any value is a number below a limit -/
def NumV (K : PySem.W.Frag) (H : Hp) (lim : Int) (x : V) (b : Bool) : Prop :=
  (∃ i, x = .int i ∧ b = decide (0 ≤ i ∧ i < lim)) ∨ (∃ y, x = .bl y ∧ b = false) ∨ (∃ n, TyN K H x n ∧ kitB n "int" = some false ∧ b = false)
theorem NumV.same {K : PySem.W.Frag} {H G : Hp} (e : Same H G) {lim : Int} {x : V} {b : Bool} (h : NumV K H lim x b) : NumV K G lim x b :=
  h.imp id fun h => h.imp id fun ⟨n, t, k, z⟩ => ⟨n, tyX_same e t, k, z⟩
section
variable {P : Program} {w : World} {K : PySem.W.Frag} {mg : Str → Option Value} {base : Heap}
def spNumB (K : PySem.W.Frag) : Sp := fun vs H Q _ => ∃ (x : V) (lim : Int) (b : Bool), vs = [x, .int lim] ∧ NumV K H lim x b ∧ Q (.bl b) H
def spNum (K : PySem.W.Frag) : Sp := fun vs H Q _ => ∃ x : V, vs = [x] ∧ ((∃ i, x = .int i ∧ Q (.bl (decide (0 ≤ i))) H) ∨ (∃ y, x = .bl y ∧ Q (.bl false) H) ∨ (∃ n, TyN K H x n ∧ kitB n "int" = some false ∧ Q (.bl false) H))
theorem ok_num {f : Addr} {fd : FuncData} {k : Nat} (F : Fun K "is_number" "is_number" sNum f fd) (mI : mg "isinstance" = none) (mi : mg "int" = none) (mb : mg "bool" = none) : FnOk P w K mg base CX0 (k + 1) f fd ["value"] (spNum K) := by
  refine F.ok scNum (fun vs H Q E h => ?_) (fun cdv A outer s H vs Q E hr h => ?_)
  · obtain ⟨x, rfl, _⟩ := h
    rfl
  · obtain ⟨x, rfl, q⟩ := h
    refine blk_cons (ps_ret (pe_and (pe_callB call_isi (by rfl) mI (by decide +kernel) (pa_cons (pv 0) (pa_cons (pe_bltn (v := .ty "int") (by rfl) mi (by decide +kernel) rfl) pa_nil)))
      (pe_and (pe_not (pe_callB call_isi (by rfl) mI (by decide +kernel) (pa_cons (pv 0) (pa_cons (pe_bltn (v := .ty "bool") (by rfl) mb (by decide +kernel) rfl) pa_nil)))) (pe_one (pe_cmpR op_ge (pv 0) pe_int (nomark _)))))) ?_
    refine blk_nil ?_
    rcases q with ⟨i, rfl, q⟩ | ⟨y, rfl, q⟩ | ⟨n, t, kk, q⟩
    · refine ⟨_, rfl, _, _, _, _, true, rfl, .ty "int", TyN.int i, kit_ty (by decide +kernel), _, rfl, iteT ?_⟩
      refine ⟨_, rfl, _, _, _, _, false, rfl, .ty "bool", TyN.int i, kit_ty (by decide +kernel), _, rfl, _, rfl, iteT ?_⟩
      exact ⟨_, rfl, _, _, rfl, rfl, q⟩
    · refine ⟨_, rfl, _, _, _, _, true, rfl, .ty "int", TyN.bl y, kit_ty (by decide +kernel), _, rfl, iteT ?_⟩
      exact ⟨_, rfl, _, _, _, _, true, rfl, .ty "bool", TyN.bl y, kit_ty (by decide +kernel), _, rfl, _, rfl, iteF q⟩
    · exact ⟨_, rfl, _, _, _, _, false, rfl, .ty "int", t, kit_ty kk, _, rfl, iteF q⟩
theorem ok_numB {f fN : Addr} {fd fdN : FuncData} {k : Nat} (F : Fun K "is_number_below" "is_number_below" sNumB f fd) (FN : Fun K "is_number" "is_number" sNum fN fdN) (bN : Binds K fdN ["value"] []) (gN : mg "is_number" = some (.ref fN))
    (mI : mg "isinstance" = none) (mi : mg "int" = none) (mb : mg "bool" = none) : FnOk P w K mg base CX0 (k + 1 + 1) f fd ["value", "limit"] (spNumB K) := by
  have GN : FnOk P w K mg base CX0 (k + 1) fN fdN ["value"] (spNum K) := ok_num FN mI mi mb
  refine F.ok scNumB (fun vs H Q E h => ?_) (fun cdv A outer s H vs Q E hr h => ?_)
  · obtain ⟨x, lim, b, rfl, _⟩ := h
    rfl
  · obtain ⟨x, lim, b, rfl, hx, q⟩ := h
    refine blk_cons (ps_ret (pe_and (pe_call GN hr (by rfl) gN FN.kp bN .nil pass0 (pa_cons (pv 0) pa_nil)) (pe_one (pe_cmpR op_lt (pv 0) (pv 1) (nomark _))))) ?_
    refine blk_nil ?_
    rcases hx with ⟨i, rfl, rfl⟩ | ⟨y, rfl, rfl⟩ | ⟨n, t, kk, rfl⟩
    · refine ⟨_, rfl, _, rfl, .inl ⟨i, rfl, _, rfl, ?_⟩⟩
      by_cases h0 : 0 ≤ i
      · rw [decide_eq_true h0]
        refine iteT ⟨_, rfl, _, rfl, _, _, rfl, rfl, ?_⟩
        have e : decide (0 ≤ i ∧ i < lim) = decide (i < lim) := decide_eq_decide.mpr ⟨fun z => z.2, fun z => ⟨h0, z⟩⟩
        rw [e] at q
        exact q
      · rw [decide_eq_false h0]
        refine iteF ?_
        rw [decide_eq_false fun z => h0 z.1] at q
        exact q
    · exact ⟨_, rfl, _, rfl, .inr (.inl ⟨y, rfl, _, rfl, iteF q⟩)⟩
    · exact ⟨_, rfl, _, rfl, .inr (.inr ⟨n, t, kk, _, rfl, iteF q⟩)⟩
/-! ### are_cells -/
def NumVs (K : PySem.W.Frag) (H : Hp) (lim : Int) : List V → List Bool → Prop := Paired (NumV K H lim)
theorem paired_get {α β : Type} {R : α → β → Prop} : ∀ {xs : List α} {ys : List β} {i : Nat} {x : α}, Paired R xs ys → xs[i]? = some x → ∃ y, ys[i]? = some y ∧ R x y
  | _, _, _, _, .nil, e => by simp at e
  | _, _, 0, _, .cons r _, e => by simp at e; subst e; exact ⟨_, rfl, r⟩
  | _, _, i + 1, x, .cons _ t, e => by
    obtain ⟨y, h1, h2⟩ := paired_get (i := i) (x := x) t (by simpa using e)
    exact ⟨y, by simpa using h1, h2⟩
/-- whether any value is a tuple of octets -/
def CellsV (K : PySem.W.Frag) (H : Hp) (x : V) (b : Bool) : Prop :=
  (∃ n, TyN K H x n ∧ kitB n "tuple" = some false ∧ b = false) ∨
  (∃ (p : Addr) (xs : List V) (bs : List Bool), x = .ref p ∧ TyN K H x "tuple" ∧ SqT K H p xs ∧ xs.length ≤ 30000 ∧ NumVs K H 256 xs bs ∧ b = (decide (1 ≤ xs.length ∧ xs.length ≤ 20000) && bs.all id))
def spCells (K : PySem.W.Frag) : Sp := fun vs H Q _ => ∃ (x : V) (b : Bool), vs = [x] ∧ CellsV K H x b ∧ ∀ G, Same H G → Q (.bl b) G
theorem ok_cells {f fN fB : Addr} {fd fdN fdB : FuncData} {k : Nat} {t1 t2 : Tok} (F : Fun K "are_cells" "are_cells" sCells f fd) (FB : Fun K "is_number_below" "is_number_below" sNumB fB fdB) (FN : Fun K "is_number" "is_number" sNum fN fdN) (bN : Binds K fdN ["value"] []) (bB : Binds K fdB ["value", "limit"] []) (gN : mg "is_number" = some (.ref fN)) (gB : mg "is_number_below" = some (.ref fB))
    (gM : mg "MOST_CELLS" = some (.int 20000 t1)) (gO : mg "OCTETS" = some (.int 256 t2)) (mI : mg "isinstance" = none) (mi : mg "int" = none) (mb : mg "bool" = none) (mt : mg "tuple" = none) (ml : mg "len" = none) (ma : mg "all" = none) :
    FnOk P w K mg base CX0 (k + 1 + 1 + 1) f fd ["value"] (spCells K) := by
  have GB : FnOk P w K mg base CX0 (k + 1 + 1) fB fdB ["value", "limit"] (spNumB K) := ok_numB FB FN bN gN mI mi mb
  refine F.ok scCells (fun vs H Q E h => ?_) (fun cdv A outer s H vs Q E hr h => ?_)
  · obtain ⟨x, b, rfl, _⟩ := h
    rfl
  · obtain ⟨x, b, rfl, hx, q⟩ := h
    refine blk_cons (ps_if (PW.pt (pw_or (pt_not (pt_val (pe_callB call_isi (by rfl) mI (by decide +kernel) (pa_cons (pv 0) (pa_cons (pe_bltn (v := .ty "tuple") (by rfl) mt (by decide +kernel) rfl) pa_nil)))))
        (pw_or1 (pt_not (pt_chain op_le op_le pe_int (pe_callB call_len_seq (by rfl) ml PySem.boot_len (pa_cons (pv 0) pa_nil)) (pe_glob (v := .int 20000) (by rfl) gM ⟨_, rfl⟩)))))) (pss_one (ps_ret pe_bl)) pss_nil) ?_
    refine blk_cons (ps_ret (pe_callB (cr_all rfl) (by rfl) ma (by decide +kernel) (pa_cons (pe_lc (own := [("item", 1)]) (g := gName 1) (tt := tYes) rfl scCells.nd (pi_tup (pv 0)) (blkOk_by (own := [("item", 1)]) (N := ["value", "item"]) (sc := defScope sCells) (by decide +kernel))
      (fun _ _ _ _ _ => pg_name (i := 1) scCells.nd rfl (Or.inl rfl)) (fun _ _ _ _ _ => pts_nil) (fun _ _ _ _ _ => pe_call GB hr (by rfl) gB FB.kp bB .nil pass0 (pa_cons (pv 1) (pa_cons (pe_glob (v := .int 256) (by rfl) gO ⟨_, rfl⟩) pa_nil)))) pa_nil))) ?_
    refine blk_nil ?_
    rcases hx with ⟨n, t, kk, rfl⟩ | ⟨p, xs, bs, rfl, t, ht, hl, hb, rfl⟩
    · exact ⟨_, rfl, _, _, _, _, false, rfl, .ty "tuple", t, kit_ty kk, _, rfl, iteT (iteT (q _ (Same.refl _)))⟩
    · refine ⟨_, rfl, _, _, _, _, true, rfl, .ty "tuple", t, kit_ty (by decide +kernel), _, rfl, iteF ?_⟩
      refine ⟨_, rfl, p, xs, rfl, .inr ht, _, _, rfl, rfl, _, rfl, ?_⟩
      by_cases h1 : 1 ≤ xs.length
      · rw [decide_eq_true (show (1 : Int) ≤ (xs.length : Int) by omega)]
        refine iteT ⟨_, _, rfl, rfl, _, rfl, ?_⟩
        by_cases h2 : xs.length ≤ 20000
        · rw [decide_eq_true (show (xs.length : Int) ≤ 20000 by omega)]
          refine iteF ?_
          have hbl : bs.length = xs.length := (Paired.length hb).symm
          refine ⟨.ref p, rfl, p, rfl, ⟨_, ht⟩, fun D nD => lc_tup (K := K) (a := p) (xs := xs) (fun i G => Same H G ∧ G D = some (.lst ((bs.take i).map V.bl))) ⟨same_new nD, upd_same⟩ (fun i G _ hP => same_seqT hP.1 ht) (fun i x G hxi hP => ?_) (fun G hP => ?_)⟩
          · obtain ⟨s1, gD⟩ := hP
            obtain ⟨b0, hb0, hn⟩ := paired_get hb hxi
            refine ⟨rfl, ?_⟩
            dsimp only [tYes]
            rw [if_pos rfl]
            refine ⟨x, rfl, x, 256, b0, rfl, hn.same s1, (bs.take i).map V.bl, gD, ?_, fun b o e => ?_, ?_⟩
            · rw [List.length_map, List.length_take, sizeLine_eq]
              omega
            · rw [upd_ne (ne_of_none e nD)]
              exact s1 _ _ e
            · rw [upd_same, List.take_add_one, hb0, List.map_append]
              rfl
          · obtain ⟨s1, gD⟩ := hP
            rw [← hbl, List.take_length] at gD
            refine ⟨D, bs, rfl, sqL gD, ?_⟩
            have e := q G s1
            rw [decide_eq_true ⟨h1, h2⟩, Bool.true_and] at e
            exact e
        · rw [decide_eq_false (show ¬ (xs.length : Int) ≤ 20000 by omega)]
          refine iteT ?_
          have e := q _ (Same.refl _)
          rw [decide_eq_false fun z => h2 z.2] at e
          exact e
      · rw [decide_eq_false (show ¬ (1 : Int) ≤ (xs.length : Int) by omega)]
        refine iteF ⟨_, rfl, iteT ?_⟩
        have e := q _ (Same.refl _)
        rw [decide_eq_false fun z => h1 z.1] at e
        exact e
end
end K9
namespace K9
open PySem PySem.Spec PyProof.Rows L2 Gd
/-- all stands as before but what is in S; all but lists stands as before -/
structure Frm (S : List Addr) (H G : Hp) : Prop where
  kt : KeepT H G
  ks : ∀ b o, b ∉ S → H b = some o → G b = some o
theorem Frm.same {S : List Addr} {H G : Hp} (e : Same H G) : Frm S H G := ⟨.of e, fun b o _ h => e b o h⟩
theorem Frm.trans {S : List Addr} {H G J : Hp} (a : Frm S H G) (b : Frm S G J) : Frm S H J := ⟨a.kt.trans b.kt, fun c o n h => b.ks c o n (a.ks c o n h)⟩
theorem Frm.mono {S T : List Addr} {H G : Hp} (a : Frm S H G) (h : ∀ x ∈ S, x ∈ T) : Frm T H G := ⟨a.kt, fun b o n e => a.ks b o (fun z => n (h b z)) e⟩
theorem Frm.put {S : List Addr} {H : Hp} {p : Addr} {xs : List V} {o : HO} (h : H p = some (.lst xs)) (m : p ∈ S) : Frm S H (upd H p o) := ⟨.put h, fun b x n e => (upd_ne fun z => n (by rw [z]; exact m)).trans e⟩
theorem Frm.new {S : List Addr} {H : Hp} {p : Addr} {o : HO} (h : H p = none) : Frm S H (upd H p o) := .same (same_new h)
theorem Frm.but {h l : Addr} {S : List Addr} {H G : Hp} {L : List Int} {st : Int} (v : Hv H h l L st) (b : But h l H G) (m1 : h ∈ S) (m2 : l ∈ S) : Frm S H G :=
  ⟨.but v b, fun c o n e => b c o (fun z => n (by rw [z]; exact m1)) (fun z => n (by rw [z]; exact m2)) e⟩
theorem Frm.seqT {K : PySem.W.Frag} {S : List Addr} {H G : Hp} {a : Addr} {xs : List V} (f : Frm S H G) (h : SqT K H a xs) : SqT K G a xs := f.kt.seqT h
theorem Hv.frm {h l : Addr} {S : List Addr} {H G : Hp} {L : List Int} {st : Int} (v : Hv H h l L st) (f : Frm S H G) (n1 : h ∉ S) (n2 : l ∉ S) : Hv G h l L st :=
  ⟨f.ks _ _ n1 v.top, f.ks _ _ n2 v.bot, v.ne, v.lo, v.hi, v.len⟩
/-- an event as data -/
def evD (e : Ev) : PyData := match e with
  | none => .none
  | some (a, o) => .tuple [.int (a : Int), .int o]
theorem noList_ev (evs : List Ev) : noListAll (evs.map evD) = true := noListAll_mem fun d hd => by
  obtain ⟨e, _, rfl⟩ := List.mem_map.mp hd
  cases e <;> rfl
/-! the fields of a disk -/
theorem pc_ : ¬ (("present" : Str) = "cells") := by decide +kernel
theorem hc_ : ¬ (("happened" : Str) = "cells") := by decide +kernel
theorem hp_ : ¬ (("happened" : Str) = "present") := by decide +kernel
theorem cp_ : ¬ (("cells" : Str) = "present") := fun z => pc_ z.symm
theorem ch_ : ¬ (("cells" : Str) = "happened") := fun z => hc_ z.symm
theorem ph_ : ¬ (("present" : Str) = "happened") := fun z => hp_ z.symm
def df (c l e : Addr) : List (Str × V) := putF "happened" (.ref e) (putF "present" (.ref l) (putF "cells" (.ref c) []))
theorem df_c (c l e : Addr) : (df c l e).lookup ("cells" : Str) = some (.ref c) := by unfold df; rw [lookup_putF, if_neg ch_, lookup_putF, if_neg cp_, lookup_putF, if_pos rfl]
theorem df_p (c l e : Addr) : (df c l e).lookup ("present" : Str) = some (.ref l) := by unfold df; rw [lookup_putF, if_neg ph_, lookup_putF, if_pos rfl]
theorem df_h (c l e : Addr) : (df c l e).lookup ("happened" : Str) = some (.ref e) := by unfold df; rw [lookup_putF, if_pos rfl]
theorem df_no (c l e : Addr) {m : Str} (h1 : ¬ m = "cells") (h2 : ¬ m = "present") (h3 : ¬ m = "happened") : (df c l e).lookup m = none := by
  unfold df
  rw [lookup_putF, if_neg h3, lookup_putF, if_neg h2, lookup_putF, if_neg h1]
  rfl
theorem len_putF (f : Str) (v : V) : ∀ fs : List (Str × V), (putF f v fs).length ≤ fs.length + 1
  | [] => Nat.le_refl _
  | (g, u) :: r => by
    have ih := len_putF f v r
    unfold putF
    split
    · exact Nat.le_succ _
    · exact Nat.succ_le_succ ih
structure DiskAt (K : PySem.W.Frag) (C : Addr) (H : Hp) (p dx c l e : Addr) (cells pres : List Int) (evs : List Ev) : Prop where
  obj : H p = some (.ins C dx (df c l e))
  cel : SqT K H c (cells.map V.int)
  pre : H l = some (.lst (pres.map V.int))
  hap : ∃ vs, H e = some (.lst vs) ∧ DpAll K H vs (evs.map evD)
  ne : l ≠ e
theorem DiskAt.frm {K : PySem.W.Frag} {C : Addr} {S : List Addr} {H G : Hp} {p dx c l e : Addr} {cells pres : List Int} {evs : List Ev} (d : DiskAt K C H p dx c l e cells pres evs) (f : Frm S H G) (n1 : l ∉ S) (n2 : e ∉ S) : DiskAt K C G p dx c l e cells pres evs := by
  obtain ⟨vs, h1, h2⟩ := d.hap
  exact ⟨f.kt _ _ d.obj (by intro _ q; cases q), f.seqT d.cel, f.ks _ _ n1 d.pre, ⟨vs, f.ks _ _ n2 h1, dpAll_keep f.kt _ _ (noList_ev evs) h2⟩, d.ne⟩
structure DTxt (K : PySem.W.Frag) (mg : Str → Option Value) (C : Addr) : Prop where
  cl : Cls K C
  nC : NoAttr K C "cells"
  nP : NoAttr K C "present"
  nH : NoAttr K C "happened"
  mgC : mg "Disk" = some (.ref C)
section
variable {P : Program} {w : World} {K : PySem.W.Frag} {mg : Str → Option Value} {base : Heap}
/-! ### look, put, flush, events -/
def spLook (K : PySem.W.Frag) (C : Addr) : Sp := fun vs H Q _ => ∃ (p dx c l e : Addr) (cells pres : List Int) (evs : List Ev) (a : Nat) (v : Int), vs = [.ref p, .int (a : Int)] ∧ DiskAt K C H p dx c l e cells pres evs ∧ pres[a]? = some v ∧ Q (.int v) H
theorem ok_look {f C : Addr} {fd : FuncData} {k : Nat} (F : Fun K "look" "Disk.look" sLook f fd) (T : DTxt K mg C) : FnOk P w K mg base CX0 (k + 1) f fd ["self", "at"] (spLook K C) := by
  refine F.ok scLook (fun vs H Q E h => ?_) (fun cdv A outer s H vs Q E hr h => ?_)
  · obtain ⟨p, dx, c, l, e, cells, pres, evs, a, v, rfl, _⟩ := h
    rfl
  · obtain ⟨p, dx, c, l, e, cells, pres, evs, a, v, rfl, d, hv, q⟩ := h
    refine blk_cons (ps_ret (pe_ix ix_list (pe_fld (pv 0) rfl) (pv 1) (fun _ _ => rfl))) ?_
    refine blk_nil ?_
    exact ⟨_, rfl, p, C, dx, _, _, rfl, d.obj, T.cl, T.nP, df_p _ _ _, _, rfl, l, _, _, .int v, rfl, rfl, sqL d.pre, atI_nat (by rw [List.getElem?_map, hv]; rfl), q⟩
def spPut (K : PySem.W.Frag) (C : Addr) : Sp := fun vs H Q _ => ∃ (p dx c l e : Addr) (cells pres : List Int) (evs : List Ev) (a : Nat) (o : Int), vs = [.ref p, .int (a : Int), .int o] ∧ DiskAt K C H p dx c l e cells pres evs ∧ a < pres.length ∧ evs.length ≤ 1000 ∧
  ∀ G, Frm [l, e] H G → DiskAt K C G p dx c l e cells (pres.set a o) (evs ++ [some (a, o)]) → Q .non G
theorem ixN_nat {n a : Nat} (h : a < n) : ixN n (a : Int) = some a := by
  unfold ixN
  rw [if_pos (by omega), if_pos (by omega)]
  rfl
theorem ok_put {f C : Addr} {fd : FuncData} {k : Nat} (F : Fun K "put" "Disk.put" sPut f fd) (T : DTxt K mg C) : FnOk P w K mg base CX0 (k + 1) f fd ["self", "at", "octet"] (spPut K C) := by
  refine F.ok scPut (fun vs H Q E h => ?_) (fun cdv A outer s H vs Q E hr h => ?_)
  · obtain ⟨p, dx, c, l, e, cells, pres, evs, a, o, rfl, _⟩ := h
    rfl
  · obtain ⟨p, dx, c, l, e, cells, pres, evs, a, o, rfl, d, ha, hl, q⟩ := h
    refine blk_cons (ps_asg (pv 2) (pg_sub (pe_fld (pv 0) rfl) (pv 1) set_list)) ?_
    refine blk_cons (ps_expr (pe_bm PySem.F.plainAttrs_list PySem.F.slot_list_append PySem.F.type_list_append mt_append (pe_fld (pv 0) rfl) (pa_cons (pe_tup (pa_cons (pv 1) (pa_cons (pv 2) pa_nil))) pa_nil))) ?_
    refine blk_nil ?_
    obtain ⟨vs, h1, h2⟩ := d.hap
    have npl : p ≠ l := ne_of d.obj d.pre (by intro z; cases z)
    have npe : p ≠ e := ne_of d.obj h1 (by intro z; cases z)
    refine ⟨_, rfl, _, rfl, p, C, dx, _, _, rfl, d.obj, T.cl, T.nP, df_p _ _ _, _, rfl, l, _, _, a, rfl, rfl, d.pre, ixN_nat (by rw [List.length_map]; exact ha), ?_⟩
    have f1 : Frm [l, e] H (upd H l (.lst ((pres.map V.int).set a (.int o)))) := .put d.pre (by simp)
    have h1' : (upd H l (.lst ((pres.map V.int).set a (.int o)))) e = some (.lst vs) := (upd_ne d.ne.symm).trans h1
    refine ⟨_, rfl, p, C, dx, _, _, rfl, (upd_ne npl).trans d.obj, T.cl, T.nH, df_h _ _ _, .inl ⟨rfl, _, sqL h1'⟩, _, rfl, _, rfl, by show 2 ≤ sizeLine; decide, fun t nt => ?_⟩
    have f2 := f1.trans (.new (S := [l, e]) (o := .tup [.int (a : Int), .int o]) nt)
    have h1'' := (upd_ne (o := .tup [.int (a : Int), .int o]) (ne_of_none h1' nt)).trans h1'
    have nte : t ≠ e := (ne_of_none h1' nt).symm
    have ntl : l ≠ t := ne_of_none (upd_same (H := H)) nt
    refine ⟨e, vs, _, rfl, rfl, h1'', ?_, ?_⟩
    · rw [dpAll_len h2, List.length_map]
      exact small1000 hl
    have f3 := f2.trans (.put (S := [l, e]) (o := .lst (vs ++ [.ref t])) h1'' (by simp))
    refine q _ f3 ⟨f3.kt _ _ d.obj (by intro _ z; cases z), f3.seqT d.cel, ?_, ⟨_, upd_same, ?_⟩, d.ne⟩
    · rw [upd_ne d.ne, upd_ne ntl, upd_same, List.map_set]
    · rw [List.map_append]
      refine dpAll_snoc (dpAll_keep f3.kt _ _ (noList_ev evs) h2) ?_
      exact .tup (sqT ((upd_ne nte).trans upd_same)) (.cons (.int _) (.cons (.int _) .nil))
def spFlush (K : PySem.W.Frag) (C : Addr) : Sp := fun vs H Q _ => ∃ (p dx c l e : Addr) (cells pres : List Int) (evs : List Ev), vs = [.ref p] ∧ DiskAt K C H p dx c l e cells pres evs ∧ evs.length ≤ 1000 ∧
  ∀ G, Frm [l, e] H G → DiskAt K C G p dx c l e cells pres (evs ++ [none]) → Q .non G
theorem ok_flush {f C : Addr} {fd : FuncData} {k : Nat} (F : Fun K "flush" "Disk.flush" sFlush f fd) (T : DTxt K mg C) : FnOk P w K mg base CX0 (k + 1) f fd ["self"] (spFlush K C) := by
  refine F.ok scFlush (fun vs H Q E h => ?_) (fun cdv A outer s H vs Q E hr h => ?_)
  · obtain ⟨p, dx, c, l, e, cells, pres, evs, rfl, _⟩ := h
    rfl
  · obtain ⟨p, dx, c, l, e, cells, pres, evs, rfl, d, hl, q⟩ := h
    refine blk_cons (ps_expr (pe_bm PySem.F.plainAttrs_list PySem.F.slot_list_append PySem.F.type_list_append mt_append (pe_fld (pv 0) rfl) (pa_cons pe_non pa_nil))) ?_
    refine blk_nil ?_
    obtain ⟨vs, h1, h2⟩ := d.hap
    refine ⟨_, rfl, p, C, dx, _, _, rfl, d.obj, T.cl, T.nH, df_h _ _ _, .inl ⟨rfl, _, sqL h1⟩, e, vs, _, rfl, rfl, h1, ?_, ?_⟩
    · rw [dpAll_len h2, List.length_map]
      exact small1000 hl
    have f1 : Frm [l, e] H (upd H e (.lst (vs ++ [.non]))) := .put h1 (by simp)
    refine q _ f1 ⟨f1.kt _ _ d.obj (by intro _ z; cases z), f1.seqT d.cel, (upd_ne d.ne).trans d.pre, ⟨_, upd_same, ?_⟩, d.ne⟩
    rw [List.map_append]
    exact dpAll_snoc (dpAll_keep f1.kt _ _ (noList_ev evs) h2) .non
def spEvents (K : PySem.W.Frag) (C : Addr) : Sp := fun vs H Q _ => ∃ (p dx c l e : Addr) (cells pres : List Int) (evs : List Ev), vs = [.ref p] ∧ DiskAt K C H p dx c l e cells pres evs ∧
  ∀ G t us, Same H G → SqT K G t us → DpAll K G us (evs.map evD) → Q (.ref t) G
theorem ok_events {f C : Addr} {fd : FuncData} {k : Nat} (F : Fun K "events" "Disk.events" sEvents f fd) (T : DTxt K mg C) (mt : mg "tuple" = none) : FnOk P w K mg base CX0 (k + 1) f fd ["self"] (spEvents K C) := by
  refine F.ok scEvents (fun vs H Q E h => ?_) (fun cdv A outer s H vs Q E hr h => ?_)
  · obtain ⟨p, dx, c, l, e, cells, pres, evs, rfl, _⟩ := h
    rfl
  · obtain ⟨p, dx, c, l, e, cells, pres, evs, rfl, d, q⟩ := h
    refine blk_cons (ps_ret (pe_callTy call_tuple_of (by rfl) mt (by decide +kernel) (pa_cons (pe_fld (pv 0) rfl) pa_nil))) ?_
    refine blk_nil ?_
    obtain ⟨vs, h1, h2⟩ := d.hap
    exact ⟨_, rfl, p, C, dx, _, _, rfl, d.obj, T.cl, T.nH, df_h _ _ _, e, vs, rfl, .inl ⟨sqL h1, fun t nt => q _ t vs (same_new nt) (sqT upd_same) (dpAll_same (same_new nt) _ _ h2)⟩⟩
/-! ### a disk of good cells -/
def spInit (K : PySem.W.Frag) (C : Addr) : Sp := fun vs H Q _ => ∃ (p dx c : Addr) (ns : List Int), vs = [.ref p, .ref c] ∧ H p = some (.ins C dx []) ∧ CellsV K H (.ref c) true ∧ SqT K H c (ns.map V.int) ∧
  ∀ G l e, (∀ b o, b ≠ p → H b = some o → G b = some o) → H l = none → H e = none → DiskAt K C G p dx c l e ns ns [] → Q .non G
theorem ok_init {f C fC fN fB : Addr} {fd fdC fdN fdB : FuncData} {k : Nat} {t1 t2 : Tok} (F : Fun K "__init__" "Disk.__init__" sInit f fd) (T : DTxt K mg C) (FC : Fun K "are_cells" "are_cells" sCells fC fdC) (bC : Binds K fdC ["value"] []) (gC : mg "are_cells" = some (.ref fC))
    (GC : FnOk P w K mg base CX0 (k + 1) fC fdC ["value"] (spCells K)) (mL : mg "list" = none) : FnOk P w K mg base CX0 (k + 1 + 1) f fd ["self", "cells"] (spInit K C) := by
  refine F.ok scInit (fun vs H Q E h => ?_) (fun cdv A outer s H vs Q E hr h => ?_)
  · obtain ⟨p, dx, c, ns, rfl, _⟩ := h
    rfl
  · obtain ⟨p, dx, c, ns, rfl, hp, hc, ht, q⟩ := h
    refine blk_cons (ps_if (pt_not (pt_val (pe_call GC hr (by rfl) gC FC.kp bC .nil pass0 (pa_cons (pv 1) pa_nil)))) (pss_one ps_never) pss_nil) ?_
    refine blk_cons (ps_fld (pv 0) (pv 1) rfl) ?_
    refine blk_cons (ps_fld (pv 0) (pe_callTy call_list_of (by rfl) mL (by decide +kernel) (pa_cons (pv 1) pa_nil)) rfl) ?_
    refine blk_cons (ps_fld (pv 0) (pe_lst pa_nil) rfl) ?_
    refine blk_nil ?_
    refine ⟨_, rfl, .ref c, true, rfl, hc, fun G1 s1 => ⟨_, rfl, iteF ?_⟩⟩
    have hp1 := s1 _ _ hp
    have ht1 := same_seqT s1 ht
    have ncp : ∀ {o : HO} {G : Hp}, G p = some (.ins C dx []) → SqT K G c (ns.map V.int) → SqT K (upd G p o) c (ns.map V.int) := fun {o G} e h => by
      rcases h with (z | ⟨o', z⟩) | z
      · exact .inl (.inl ((upd_ne (ne_of z e (by intro q; cases q))).trans z))
      · exact .inl (.inr ⟨o', (upd_ne (ne_of z e (by intro q; cases q))).trans z⟩)
      · exact .inr z
    refine ⟨_, rfl, _, rfl, p, C, dx, _, rfl, hp1, T.cl, T.nC, by show 0 < 1000; decide, ?_⟩
    have ht2 := ncp (o := .ins C dx (putF "cells" (.ref c) [])) hp1 ht1
    refine ⟨.ref c, rfl, c, _, rfl, .inr ht2, fun l nl => ⟨_, rfl, p, C, dx, _, rfl, (upd_ne (ne_of_none upd_same nl)).trans upd_same, T.cl, T.nP, by show 1 < 1000; decide, ?_⟩⟩
    refine ⟨Nat.zero_le _, fun e ne => ?_⟩
    have npl : p ≠ l := ne_of_none upd_same nl
    have npe : p ≠ e := ne_of_none upd_same ne
    have nle : l ≠ e := by
      have z : (upd (upd (upd G1 p (.ins C dx (putF "cells" (.ref c) []))) l (.lst (ns.map V.int))) p (.ins C dx (putF "present" (.ref l) (putF "cells" (.ref c) [])))) l = some (.lst (ns.map V.int)) := (upd_ne npl.symm).trans upd_same
      exact ne_of_none z ne
    refine ⟨_, rfl, p, C, dx, _, rfl, (upd_ne npe).trans upd_same, T.cl, T.nH, Nat.lt_of_le_of_lt (len_putF _ _ _) (by show 2 < 1000; decide), ?_⟩
    have nl0 : H l = none := by
      cases z : H l with
      | none => rfl
      | some o => exact nomatch ((upd_ne npl.symm).trans (s1 _ _ z)).symm.trans nl
    have ne0 : H e = none := by
      cases z : H e with
      | none => rfl
      | some o => exact nomatch ((upd_ne npe.symm).trans ((upd_ne (Ne.symm nle)).trans ((upd_ne npe.symm).trans (s1 _ _ z)))).symm.trans ne
    have keep : ∀ b o, b ≠ p → H b = some o → (upd (upd (upd (upd (upd G1 p (.ins C dx (putF "cells" (.ref c) []))) l (.lst (ns.map V.int))) p (.ins C dx (putF "present" (.ref l) (putF "cells" (.ref c) [])))) e (.lst [])) p (.ins C dx (df c l e))) b = some o := fun b o hb z =>
      (upd_ne hb).trans ((upd_ne (ne_of_none z ne0)).trans ((upd_ne hb).trans ((upd_ne (ne_of_none z nl0)).trans ((upd_ne hb).trans (s1 _ _ z)))))
    refine q _ l e keep nl0 ne0 ⟨upd_same, ?_, ?_, ⟨[], (upd_ne npe.symm).trans upd_same, .nil⟩, nle⟩
    · rcases ht with (z | ⟨o', z⟩) | z
      · exact .inl (.inl (keep _ _ (ne_of z hp (by intro q; cases q)) z))
      · exact .inl (.inr ⟨o', keep _ _ (ne_of z hp (by intro q; cases q)) z⟩)
      · exact .inr z
    · rw [upd_ne npl.symm, upd_ne nle, upd_ne npl.symm, upd_same]
end
end K9
namespace K9
open PySem PySem.Spec PyProof.Rows L2 Gd
abbrev ik (a : Nat) : Key := Sum.inl (a : Int)
theorem ik_inj {a b : Nat} (h : ik a = ik b) : a = b := by
  have : (a : Int) = (b : Int) := Sum.inl.inj h
  omega
theorem keys_put {kvs : List (Key × V)} {ps : List Nat} (h : kvs.map (·.1) = ps.map ik) (a : Nat) (v : V) : (putK kvs (ik a) v).map (·.1) = (if a ∈ ps then ps else ps ++ [a]).map ik := by
  have hm : (kvs.any fun kv => decide (kv.1 = ik a)) = decide (a ∈ ps) := by
    rw [Bool.eq_iff_iff, List.any_eq_true, decide_eq_true_iff]
    constructor
    · rintro ⟨kv, h1, h2⟩
      have e := of_decide_eq_true h2
      have : kv.1 ∈ kvs.map (·.1) := List.mem_map.mpr ⟨kv, h1, rfl⟩
      rw [h, e] at this
      obtain ⟨b, hb, eb⟩ := List.mem_map.mp this
      exact ik_inj eb ▸ hb
    · intro ha
      have : ik a ∈ kvs.map (·.1) := by
        rw [h]
        exact List.mem_map.mpr ⟨a, ha, rfl⟩
      obtain ⟨kv, h1, h2⟩ := List.mem_map.mp this
      exact ⟨kv, h1, decide_eq_true h2⟩
  unfold putK
  rw [hm]
  by_cases ha : a ∈ ps
  · rw [decide_eq_true ha, if_pos rfl, if_pos ha, List.map_map, ← h]
    refine List.map_congr_left fun kv _ => ?_
    show (if kv.1 = ik a then (kv.1, v) else kv).1 = kv.1
    split <;> rfl
  · rw [decide_eq_false ha, if_neg Bool.false_ne_true, if_neg ha, List.map_append, List.map_append, h]
    rfl
theorem ev_some {K : PySem.W.Frag} {H : Hp} {x : V} {a : Nat} {o : Int} (h : Dp K H x (evD (some (a, o)))) : ∃ t, x = .ref t ∧ SqT K H t [.int (a : Int), .int o] := by
  cases h with
  | tup hs ha =>
    refine ⟨_, rfl, ?_⟩
    cases ha with
    | cons a1 r =>
    cases r with
    | cons a2 r =>
    cases r
    cases a1
    cases a2
    exact hs
theorem ev_none {K : PySem.W.Frag} {H : Hp} {x : V} (h : Dp K H x (evD none)) : x = .non := by
  cases h
  rfl
/-- the event at a place of a tuple of events -/
theorem ev_at {K : PySem.W.Frag} {H : Hp} {us : List V} {evs : List Ev} {i : Nat} {x : V} (h : DpAll K H us (evs.map evD)) (hx : us[i]? = some x) : ∃ e, evs[i]? = some e ∧ Dp K H x (evD e) := by
  have hl := dpAll_len h
  rw [List.length_map] at hl
  have hi : i < evs.length := by rw [← hl]; exact (List.getElem?_eq_some_iff.mp hx).1
  obtain ⟨v, hv, dv⟩ := dpAll_get h (i := i) (d := evD evs[i]) (by rw [List.getElem?_map, List.getElem?_eq_getElem hi]; rfl)
  have e : v = x := Option.some.inj (hv.symm.trans hx)
  subst e
  exact ⟨evs[i], List.getElem?_eq_getElem hi, dv⟩
theorem take_succ_ev {evs : List Ev} {i : Nat} {e : Ev} (h : evs[i]? = some e) : evs.take (i + 1) = evs.take i ++ [e] := by
  rw [List.take_add_one, h]
  rfl
/-- the pending places, sorted -/
structure Srt (evs : List Ev) (ps : List Int) : Prop where
  perm : ps.Perm ((pend evs).map fun a : Nat => (a : Int))
  srt : ps.Pairwise (· ≤ ·)
theorem laid_snoc : ∀ (l : List (Nat × Int)) (ps : List Int) (a : Nat) (o : Int), laid ps (l ++ [(a, o)]) = (laid ps l).set a o
  | [], _, _, _ => rfl
  | (b, u) :: r, ps, a, o => by rw [List.cons_append, laid, laid, laid_snoc r]
theorem map_at {ns : List Int} {i : Nat} {x : V} (h : (ns.map V.int)[i]? = some x) : ∃ n, ns[i]? = some n ∧ x = .int n := by
  rw [List.getElem?_map] at h
  cases e : ns[i]? with
  | none => rw [e] at h; cases h
  | some n => rw [e] at h; exact ⟨n, rfl, (Option.some.inj h).symm⟩
theorem srt_nat {evs : List Ev} {ps : List Int} (h : Srt evs ps) {n : Int} (m : n ∈ ps) : ∃ a : Nat, n = (a : Int) ∧ a ∈ pend evs := by
  obtain ⟨a, ha, e⟩ := List.mem_map.mp ((h.perm.mem_iff).mp m)
  exact ⟨a, e.symm, ha⟩
theorem free_of {H G : Hp} (e : Same H G) {l : Addr} (h : G l = none) : H l = none := e.free h
section
variable {P : Program} {w : World} {K : PySem.W.Frag} {mg : Str → Option Value} {base : Heap}
def spPend (K : PySem.W.Frag) : Sp := fun vs H Q _ => ∃ (t : Addr) (us : List V) (evs : List Ev), vs = [.ref t] ∧ SqT K H t us ∧ DpAll K H us (evs.map evD) ∧ evs.length < 64 ∧
  ∀ G q ps, Same H G → SqT K G q (ps.map V.int) → Srt evs ps → Q (.ref q) G
theorem ok_pend {f : Addr} {fd : FuncData} {k : Nat} (F : Fun K "pending_places" "pending_places" sPend f fd) (mt : mg "tuple" = none) (ms : mg "sorted" = none) : FnOk P w K mg base CX0 (k + 1) f fd ["events"] (spPend K) := by
  refine F.ok scPend (fun vs H Q E h => ?_) (fun cdv A outer s H vs Q E hr h => ?_)
  · obtain ⟨t, us, evs, rfl, _⟩ := h
    rfl
  · obtain ⟨t, us, evs, rfl, ht, hd, hl, q⟩ := h
    refine blk_cons (ps_set (i := 1) scPend.nd rfl (.inl rfl) pe_dnewK) ?_
    refine blk_cons (ps_for PassesOwn.never rfl (pi_tup (pv 0)) (pg_name (i := 2) scPend.nd rfl (.inl rfl)) (pss_one (ps_if (pt_cmpR op_isN (pv 2) pe_non (nomark _)) (pss_one (ps_set (i := 1) scPend.nd rfl (.inl rfl) pe_dnewK))
      (pss_one (ps_dput (hu_of hr) (pv 1) (pe_ix ix_tup (pv 2) pe_int (fun _ _ => rfl)) pe_bl rfl))))) ?_
    refine blk_cons (ps_ret (pe_callTy call_tuple_of (by rfl) mt (by decide +kernel) (pa_cons (pe_callB (call_sortedDI rfl) (by rfl) ms (by decide +kernel) (pa_cons (pv 1) pa_nil)) pa_nil))) ?_
    refine blk_nil ?_
    have hlen := dpAll_len hd
    rw [List.length_map] at hlen
    intro d nd
    refine ⟨.ref t, rfl, t, rfl, ⟨_, same_seqT (same_new nd) ht⟩, for_tup (xs := us) (fun i σ G => Same H G ∧ ∃ (d : Addr) (kvs : List (Key × V)) (y : Option V), σ = [some (.ref t), some (.ref d), y] ∧ H d = none ∧ G d = some (.dK kvs) ∧ kvs.map (·.1) = (pend (evs.take i)).map ik)
      ⟨same_new nd, d, [], none, rfl, nd, upd_same, rfl⟩ (fun i σ G _ hP => same_seqT hP.1 ht) (fun i x σ G hx hP => ?_) (fun σ G hP => ?_)⟩
    · obtain ⟨sm, d, kvs, y, rfl, nd, gd, hk⟩ := hP
      obtain ⟨e, he, hde⟩ := ev_at hd hx
      have he2 := take_succ_ev he
      have hi : i < evs.length := (List.getElem?_eq_some_iff.mp he).1
      cases e with
      | none =>
        obtain rfl := ev_none hde
        refine ⟨_, rfl, rfl, _, rfl, iteT fun d2 nd2 => ⟨sm.trans (same_new nd2), d2, [], _, rfl, sm.free nd2, upd_same, ?_⟩⟩
        rw [he2, pend_snoc]
        rfl
      | some p =>
        obtain ⟨a, o⟩ := p
        obtain ⟨tt, rfl, htt⟩ := ev_some hde
        have hkl : kvs.length < sizeLine := by
          have h1 := congrArg List.length hk
          rw [List.length_map, List.length_map] at h1
          have h2 := pend_len (evs.take i)
          rw [List.length_take] at h2
          exact small1000 (by omega)
        refine ⟨_, rfl, rfl, _, rfl, iteF ⟨.ref d, rfl, .ref tt, rfl, tt, _, 0, .int (a : Int), rfl, rfl, same_seqT sm htt, atI_nat (j := 0) rfl, d, _, rfl, DPut.k (k := ik a) gd hkl, ?_⟩⟩
        refine ⟨fun b ob e => ?_, d, _, _, rfl, nd, upd_same, ?_⟩
        · rw [upd_ne (ne_of_none e nd)]
          exact sm _ _ e
        · rw [he2, pend_snoc]
          exact keys_put hk a _
    · obtain ⟨sm, d, kvs, y, rfl, nd, gd, hk⟩ := hP
      rw [hlen, List.take_length] at hk
      refine ⟨.ref d, rfl, d, kvs, (pend evs).map fun a : Nat => (a : Int), rfl, .inl gd, ?_, ?_, fun ys p hp hs np => ?_⟩
      · rw [hk, List.map_map]
        rfl
      · rw [List.length_map]
        exact Nat.lt_of_le_of_lt (pend_len evs) hl
      · refine ⟨p, _, rfl, .inl ⟨sqL upd_same, fun t2 nt2 => ?_⟩⟩
        exact q _ t2 ys ((sm.trans (same_new np)).trans (same_new nt2)) (sqT upd_same) ⟨hp, hs⟩
/-! ### cut_cells -/
theorem ev_lt {evs : List Ev} {n : Nat} (h : ∀ a o, some (a, o) ∈ evs → a < n) {i : Nat} {a : Nat} {o : Int} (he : evs[i]? = some (some (a, o))) : a < n := h a o (List.mem_of_getElem? he)
def spCut (K : PySem.W.Frag) : Sp := fun vs H Q _ => ∃ (c t z : Addr) (cells : List Int) (us : List V) (evs : List Ev) (oct : List Int), vs = [.ref c, .ref t, .ref z] ∧ SqT K H c (cells.map V.int) ∧ SqT K H t us ∧ DpAll K H us (evs.map evD) ∧ evs.length < 64 ∧
  (∀ a o, some (a, o) ∈ evs → a < cells.length) ∧ SqT K H z (oct.map V.int) ∧ oct.length = (pend evs).length ∧
  ∀ G q ps, Same H G → Srt evs ps → SqT K G q ((laid (replay cells evs) ((ps.map Int.toNat).zip oct)).map V.int) → Q (.ref q) G
theorem ok_cut {f fP : Addr} {fd fdP : FuncData} {k : Nat} (F : Fun K "cut_cells" "cut_cells" sCut f fd) (FP : Fun K "pending_places" "pending_places" sPend fP fdP) (bP : Binds K fdP ["events"] []) (gP : mg "pending_places" = some (.ref fP))
    (mt : mg "tuple" = none) (ms : mg "sorted" = none) (mL : mg "list" = none) (mz : mg "zip" = none) : FnOk P w K mg base CX0 (k + 1 + 1) f fd ["cells", "events", "octets"] (spCut K) := by
  have GP : FnOk P w K mg base CX0 (k + 1) fP fdP ["events"] (spPend K) := ok_pend FP mt ms
  refine F.ok scCut (fun vs H Q E h => ?_) (fun cdv A outer s H vs Q E hr h => ?_)
  · obtain ⟨c, t, z, cells, us, evs, oct, rfl, _⟩ := h
    rfl
  · obtain ⟨c, t, z, cells, us, evs, oct, rfl, hc, ht, hd, hl, hlt, hz, hol, q⟩ := h
    refine blk_cons (ps_set (i := 3) scCut.nd rfl (.inl rfl) (pe_callTy call_list_of (by rfl) mL (by decide +kernel) (pa_cons (pv 0) pa_nil))) ?_
    refine blk_cons (ps_for PassesOwn.never rfl (pi_tup (pv 1)) (pg_name (i := 4) scCut.nd rfl (.inl rfl)) (pss_one (ps_if (pt_cmpR op_notN (pv 4) pe_non (nomark _))
      (pss_one (ps_asg (pe_ix ix_tup (pv 4) pe_int (fun _ _ => rfl)) (pg_sub (pv 3) (pe_ix ix_tup (pv 4) pe_int (fun _ _ => rfl)) set_list))) pss_nil))) ?_
    refine blk_cons (ps_for PassesOwn.never rfl (RZ.pi_zipA (by rfl) mz (pa_cons (pe_call GP hr (by rfl) gP FP.kp bP .nil pass0 (pa_cons (pv 1) pa_nil)) (pa_cons (pv 2) pa_nil))) (pg_tup rfl (pgs_cons (pg_name (i := 5) scCut.nd rfl (.inl rfl)) (pgs_cons (pg_name (i := 6) scCut.nd rfl (.inl rfl)) pgs_nil)))
      (pss_one (ps_asg (pv 6) (pg_sub (pv 3) (pv 5) set_list)))) ?_
    refine blk_cons (ps_ret (pe_callTy call_tuple_of (by rfl) mt (by decide +kernel) (pa_cons (pv 3) pa_nil))) ?_
    refine blk_nil ?_
    have hlen := dpAll_len hd
    rw [List.length_map] at hlen
    refine ⟨.ref c, rfl, c, _, rfl, .inr hc, fun L nL => ?_⟩
    refine ⟨.ref t, rfl, t, rfl, ⟨_, same_seqT (same_new nL) ht⟩, for_tup (xs := us) (fun i σ G => Same H G ∧ (∃ y : Option V, σ = [some (.ref c), some (.ref t), some (.ref z), some (.ref L), y, none, none]) ∧ G L = some (.lst ((replay cells (evs.take i)).map V.int)))
      ⟨same_new nL, ⟨none, rfl⟩, upd_same⟩ (fun i σ G _ hP => same_seqT hP.1 ht) (fun i x σ G hx hP => ?_) (fun σ G hP => ?_)⟩
    · obtain ⟨sm, ⟨y, rfl⟩, gL⟩ := hP
      obtain ⟨e, he, hde⟩ := ev_at hd hx
      have he2 := take_succ_ev he
      cases e with
      | none =>
        obtain rfl := ev_none hde
        refine ⟨_, rfl, rfl, _, rfl, iteF ⟨sm, ⟨_, rfl⟩, ?_⟩⟩
        rw [he2, replay_snoc]
        exact gL
      | some p =>
        obtain ⟨a, o⟩ := p
        obtain ⟨tt, rfl, htt⟩ := ev_some hde
        have htt2 := same_seqT sm htt
        have ha : a < (replay cells (evs.take i)).length := by
          rw [replay_len]
          exact ev_lt hlt he
        refine ⟨_, rfl, rfl, _, rfl, iteT ⟨_, rfl, tt, _, 1, .int o, rfl, rfl, htt2, atI_nat (j := 1) rfl, .ref L, rfl, _, rfl, tt, _, 0, .int (a : Int), rfl, rfl, htt2, atI_nat (j := 0) rfl, L, _, _, a, rfl, rfl, gL, ixN_nat (by rw [List.length_map]; exact ha), ?_⟩⟩
        refine ⟨fun b ob e => ?_, ⟨_, rfl⟩, ?_⟩
        · rw [upd_ne (ne_of_none e nL)]
          exact sm _ _ e
        · rw [upd_same, he2, replay_snoc, ← List.map_set]
          rfl
    · obtain ⟨sm, ⟨y, rfl⟩, gL⟩ := hP
      rw [hlen, List.take_length] at gL
      refine ⟨.ref t, rfl, t, us, evs, rfl, same_seqT sm ht, dpAll_same sm _ _ hd, hl, fun G1 pq ps s1 hpq hsr => ?_⟩
      have sm1 := sm.trans s1
      have hpl : ps.length = (pend evs).length := by rw [hsr.perm.length_eq, List.length_map]
      refine ⟨.ref z, rfl, pq, z, _, _, rfl, .inr ⟨hpq, same_seqT sm1 hz, ?_⟩⟩
      refine RZ.for_zipT (xs := ps.map V.int) (ys := oct.map V.int) (by rw [List.length_map, List.length_map, hpl, hol])
        (fun i σ G => Same H G ∧ KeepT G1 G ∧ (∃ y4 y5 y6 : Option V, σ = [some (.ref c), some (.ref t), some (.ref z), some (.ref L), y4, y5, y6]) ∧ G L = some (.lst ((laid (replay cells evs) (((ps.map Int.toNat).zip oct).take i)).map V.int)))
        ⟨sm1, .of (Same.refl _), ⟨_, _, _, rfl⟩, by rw [List.take_zero]; exact s1 _ _ gL⟩ (fun i σ G hP => ⟨hP.2.1.seqT hpq, hP.2.1.seqT (same_seqT sm1 hz)⟩) (fun i x y T σ G hx hy hP nT => ?_) (fun σ G hP => ?_)
      · obtain ⟨smG, kG, ⟨y4, y5, y6, rfl⟩, gL2⟩ := hP
        obtain ⟨n, hn, rfl⟩ := map_at hx
        obtain ⟨o, ho, rfl⟩ := map_at hy
        obtain ⟨a, rfl, ha⟩ := srt_nat hsr (List.mem_of_getElem? hn)
        have nTL : L ≠ T := ne_of_none gL2 nT
        have hal : a < (laid (replay cells evs) (((ps.map Int.toNat).zip oct).take i)).length := by
          rw [laid_len, replay_len]
          exact pend_in hlt a ha
        have gL3 := (upd_ne (o := .tup [.int (a : Int), .int o]) nTL).trans gL2
        refine ⟨T, [.int (a : Int), .int o], rfl, sqT upd_same, rfl, _, _, rfl, _, _, rfl, rfl, _, rfl, .ref L, rfl, _, rfl, L, _, _, a, rfl, rfl, gL3, ixN_nat (by rw [List.length_map]; exact hal), ?_⟩
        refine ⟨fun b ob e => ?_, kG.trans ((KeepT.of (same_new nT)).trans (.put gL3)), ⟨_, _, _, rfl⟩, ?_⟩
        · rw [upd_ne (ne_of_none e nL)]
          exact same_new nT _ _ (smG _ _ e)
        · have hz2 : ((ps.map Int.toNat).zip oct)[i]? = some (a, o) := by
            rw [List.getElem?_zip_eq_some]
            refine ⟨?_, ho⟩
            rw [List.getElem?_map, hn]
            rfl
          rw [upd_same, ← List.map_set, List.take_add_one, hz2]
          show some (HO.lst (List.map V.int ((laid (replay cells evs) (((ps.map Int.toNat).zip oct).take i)).set a o))) = some (HO.lst (List.map V.int (laid (replay cells evs) (((ps.map Int.toNat).zip oct).take i ++ [(a, o)]))))
          rw [laid_snoc]
      · obtain ⟨smG, kG, ⟨y4, y5, y6, rfl⟩, gL2⟩ := hP
        have e : ((ps.map Int.toNat).zip oct).take (ps.map V.int).length = (ps.map Int.toNat).zip oct := List.take_of_length_le (by
          rw [List.length_zip, List.length_map, List.length_map]
          exact Nat.min_le_left _ _)
        rw [e] at gL2
        exact ⟨_, rfl, L, _, rfl, .inl ⟨sqL gL2, fun q2 nq2 => q _ q2 ps (smG.trans (same_new nq2)) hsr (sqT upd_same)⟩⟩
end
end K9
namespace K9
open PySem PySem.Spec PyProof.Rows L2 Gd
theorem rev_at {evs : List Ev} {i : Nat} (hi : i < evs.length) : evs.reverse.drop i = evs[evs.length - 1 - i]'(by omega) :: evs.reverse.drop (i + 1) := by
  have h : i < evs.reverse.length := by rw [List.length_reverse]; exact hi
  rw [List.drop_eq_getElem_cons h, List.getElem_reverse]
theorem ev_get {K : PySem.W.Frag} {H : Hp} {us : List V} {evs : List Ev} {i : Nat} (h : DpAll K H us (evs.map evD)) (hi : i < evs.length) : ∃ v, us[evs.length - 1 - i]? = some v ∧ Dp K H v (evD (evs[evs.length - 1 - i]'(by omega))) :=
  dpAll_get h (i := evs.length - 1 - i) (by rw [List.getElem?_map, List.getElem?_eq_getElem (by omega)]; rfl)
structure SrtM (evs : List Ev) (ps : List Int) : Prop where
  srt : ps.Pairwise (· ≤ ·)
  nd : ps.Nodup
  mem : ∀ x, x ∈ ps ↔ ∃ a ∈ pend evs, x = (a : Int)
theorem SrtM.one {evs : List Ev} {ps qs : List Int} (h : SrtM evs ps) (g : SrtM evs qs) : ps = qs := sorted_same h.srt g.srt h.nd g.nd fun x => (h.mem x).trans (g.mem x).symm
theorem nd_ints {l : List Nat} (h : l.Nodup) : (l.map fun a : Nat => (a : Int)).Nodup := by
  induction l with
  | nil => exact List.nodup_nil
  | cons a r ih =>
    obtain ⟨h1, h2⟩ := List.nodup_cons.mp h
    rw [List.map_cons]
    refine List.nodup_cons.mpr ⟨fun z => ?_, ih h2⟩
    obtain ⟨b, hb, e⟩ := List.mem_map.mp z
    have : b = a := by omega
    exact h1 (this ▸ hb)
theorem Srt.m {evs : List Ev} {ps : List Int} (h : Srt evs ps) : SrtM evs ps :=
  ⟨h.srt, h.perm.nodup_iff.mpr (nd_ints (pend_nd evs)), fun x => h.perm.mem_iff.trans ⟨fun z => let ⟨a, ha, e⟩ := List.mem_map.mp z; ⟨a, ha, e.symm⟩, fun ⟨a, ha, e⟩ => List.mem_map.mpr ⟨a, ha, e.symm⟩⟩⟩
theorem inV_ints (a : Int) (l : List Int) : inV (.int a) (l.map V.int) = decide (a ∈ l) := by
  induction l with
  | nil => rfl
  | cons b r ih =>
    have e : inV (.int a) ((b :: r).map V.int) = (eqV (.int b) (.int a) || inV (.int a) (r.map V.int)) := rfl
    rw [e, ih]
    by_cases h : b = a
    · subst h
      have : eqV (.int b) (.int b) = true := by simp [eqV]
      rw [this, Bool.true_or]
      exact (decide_eq_true List.mem_cons_self).symm
    · have : eqV (.int b) (.int a) = false := by simp [eqV, h]
      rw [this, Bool.false_or]
      exact decide_eq_decide.mpr ⟨fun z => List.mem_cons_of_mem _ z, fun z => (List.mem_cons.mp z).resolve_left fun e => h e.symm⟩
theorem flat_ints (l : List Int) : (l.map V.int).all flatV = true := List.all_eq_true.mpr fun x hx => by
  obtain ⟨n, _, rfl⟩ := List.mem_map.mp hx
  rfl
section
variable {P : Program} {w : World} {K : PySem.W.Frag} {mg : Str → Option Value} {base : Heap}
/-! ### _law_octet -/
def spOctet : Sp := fun vs H Q _ => ∃ (h l : Addr) (L : List Int) (st : Int), vs = [.ref h] ∧ Hv H h l L st ∧ ∀ (G : Hp) (L' : List Int) (st' o : Int), But h l H G → Hv G h l L' st' → 0 ≤ o → o < 256 → Q (.int o) G
theorem ok_octet {f fD fP : Addr} {fd fdD fdP : FuncData} {k : Nat} (F : Fun K "_law_octet" "_law_octet" sOctet f fd) (FD : Fun K "_law_draw" "_law_draw" sDraw fD fdD) (FP : Fun K "_law_pick" "_law_pick" sPick fP fdP)
    (bD : Binds K fdD ["heap", "many"] []) (bP : Binds K fdP ["heap", "some"] []) (gD : mg "_law_draw" = some (.ref fD)) (gP : mg "_law_pick" = some (.ref fP)) (ml : mg "len" = none) (mi : mg "int" = none) : FnOk P w K mg base CX0 (k + 1 + 1 + 1) f fd ["heap"] spOctet := by
  have GD : FnOk P w K mg base CX0 (k + 1 + 1) fD fdD ["heap", "many"] spDraw := ok_draw FD mi
  have GP : FnOk P w K mg base CX0 (k + 1 + 1) fP fdP ["heap", "some"] (spPick K) := ok_pick FP FD bD gD ml mi
  refine F.ok scOctet (fun vs H Q E h => ?_) (fun cdv A outer s H vs Q E hr h => ?_)
  · obtain ⟨h, l, L, st, rfl, _⟩ := h
    rfl
  · obtain ⟨h, l, L, st, rfl, hv, q⟩ := h
    refine blk_cons (ps_set (i := 1) scOctet.nd rfl (.inl rfl) (pe_call GD hr (by rfl) gD FD.kp bD .nil pass0 (pa_cons (pv 0) (pa_cons pe_int pa_nil)))) ?_
    refine blk_cons (ps_if (pt_cmpR op_eq (pv 1) pe_int (nomark _)) (pss_one (ps_ret (pe_call GP hr (by rfl) gP FP.kp bP .nil pass0 (pa_cons (pv 0) (pa_cons (pe_lst (pa_cons pe_int (pa_cons pe_int (pa_cons pe_int (pa_cons pe_int (pa_cons pe_int (pa_cons pe_int pa_nil))))))) pa_nil))))) pss_nil) ?_
    refine blk_cons (ps_ret (pe_call GD hr (by rfl) gD FD.kp bD .nil pass0 (pa_cons (pv 0) (pa_cons (pe_ifExp (pt_cmpR op_lt (pv 1) pe_int (nomark _)) pe_int pe_int) pa_nil)))) ?_
    refine blk_nil ?_
    refine ⟨.ref h, rfl, h, l, L, st, 4, rfl, hv, by decide, by decide, fun G1 L1 st1 kn b1 hv1 k0 k1 => ?_⟩
    refine ⟨_, rfl, rfl, _, rfl, ite2 (fun _ => ?_) (fun _ => ?_)⟩
    · refine ⟨.ref h, rfl, by show 6 ≤ sizeLine; decide, fun p np => ?_⟩
      refine ⟨h, l, L1, st1, p, [.int 0, .int 255, .int 1, .int 254, .int 128, .int 127], rfl, hv1.new np, sqL upd_same, (ne_of_none hv1.top np).symm, (ne_of_none hv1.bot np).symm, by decide, by decide, fun G2 L2 st2 i x b2 hv2 hx => ?_⟩
      have hb := (b1.new np).trans b2
      match i, hx with
      | 0, hx => cases hx; exact q _ _ _ _ hb hv2 (by decide) (by decide)
      | 1, hx => cases hx; exact q _ _ _ _ hb hv2 (by decide) (by decide)
      | 2, hx => cases hx; exact q _ _ _ _ hb hv2 (by decide) (by decide)
      | 3, hx => cases hx; exact q _ _ _ _ hb hv2 (by decide) (by decide)
      | 4, hx => cases hx; exact q _ _ _ _ hb hv2 (by decide) (by decide)
      | 5, hx => cases hx; exact q _ _ _ _ hb hv2 (by decide) (by decide)
      | _ + 6, hx => simp at hx
    · refine ⟨.ref h, rfl, _, rfl, _, _, rfl, rfl, _, rfl, ite2 (fun _ => ?_) (fun _ => ?_)⟩
      · exact ⟨h, l, L1, st1, 256, rfl, hv1, by decide, by decide, fun G2 L2 st2 o b2 hv2 o0 o1 => q _ _ _ _ (b1.trans b2) hv2 o0 o1⟩
      · exact ⟨h, l, L1, st1, 3, rfl, hv1, by decide, by decide, fun G2 L2 st2 o b2 hv2 o0 o1 => q _ _ _ _ (b1.trans b2) hv2 o0 (by omega)⟩
/-! ### _law_last -/
def spLast (K : PySem.W.Frag) : Sp := fun vs H Q _ => ∃ (t : Addr) (us : List V) (evs : List Ev) (a : Nat) (old : Int), vs = [.ref t, .int (a : Int), .int old] ∧ (SqL K H t us ∨ SqT K H t us) ∧ DpAll K H us (evs.map evD) ∧ evs.length ≤ 1000 ∧ Q (.int (lastOf evs a old)) H
theorem ok_last {f : Addr} {fd : FuncData} {k : Nat} (F : Fun K "_law_last" "_law_last" sLast f fd) (mr : mg "range" = none) (ml : mg "len" = none) : FnOk P w K mg base CX0 (k + 1) f fd ["events", "at", "old"] (spLast K) := by
  refine F.ok scLast (fun vs H Q E h => ?_) (fun cdv A outer s H vs Q E hr h => ?_)
  · obtain ⟨t, us, evs, a, old, rfl, _⟩ := h
    rfl
  · obtain ⟨t, us, evs, a, old, rfl, ht, hd, hl, q⟩ := h
    refine blk_cons (ps_for PassesOwn.never rfl (pi_range1 (by rfl) mr (pa_cons (pe_callB call_len_seq (by rfl) ml PySem.boot_len (pa_cons (pv 0) pa_nil)) pa_nil)) (pg_name (i := 3) scLast.nd rfl (.inl rfl))
      (pss_cons (ps_set (i := 4) scLast.nd rfl (.inl rfl) (pe_ix ix_seq (pv 0) (pe_op op_sub (pe_op op_sub (pe_callB call_len_seq (by rfl) ml PySem.boot_len (pa_cons (pv 0) pa_nil)) pe_int) (pv 3)) (fun _ _ => rfl)))
      (pss_one (ps_if (PW.pt (pw_and (pt_cmpR op_notN (pv 4) pe_non (nomark _)) (pw_and1 (pt_cmpR op_eq (pe_ix ix_tup (pv 4) pe_int (fun _ _ => rfl)) (pv 1) (nomark _))))) (pss_one (ps_ret (pe_ix ix_tup (pv 4) pe_int (fun _ _ => rfl)))) pss_nil)))) ?_
    refine blk_cons (ps_ret (pv 2)) ?_
    refine blk_nil ?_
    have hlen := dpAll_len hd
    rw [List.length_map] at hlen
    refine ⟨.ref t, rfl, t, us, rfl, ht, _, rfl, by omega, by omega, for_range (lo := 0) (fun i σ G => G = H ∧ (∃ y3 y4 : Option V, σ = [some (.ref t), some (.int (a : Int)), some (.int old), y3, y4]) ∧ lastOf evs a old = lastR (evs.reverse.drop i) a old)
      ⟨rfl, ⟨_, _, rfl⟩, rfl⟩ (fun i σ G hi hP => ?_) (fun σ G hP => ?_)⟩
    · obtain ⟨rfl, ⟨y3, y4, rfl⟩, hlast⟩ := hP
      have hi2 : i < evs.length := by omega
      obtain ⟨v, hv, dv⟩ := ev_get hd hi2
      rw [rev_at hi2] at hlast
      generalize evs[evs.length - 1 - i] = e at dv hlast
      have hat : atI us ((us.length : Int) - 1 - (0 + (i : Int))) = some v := at_of (j := evs.length - 1 - i) (by omega) hv
      have fin : ∀ σ2 : L2.St, σ2 = [some (.ref t), some (.int (a : Int)), some (.int old), some (.int (0 + (i : Int))), some v] →
          lastR (e :: evs.reverse.drop (i + 1)) a old = lastR (evs.reverse.drop (i + 1)) a old → G = G ∧ (∃ y3 y4 : Option V, σ2 = [some (.ref t), some (.int (a : Int)), some (.int old), y3, y4]) ∧ lastOf evs a old = lastR (evs.reverse.drop (i + 1)) a old := fun σ2 h1 h2 => ⟨rfl, ⟨_, _, h1⟩, hlast.trans h2⟩
      have ixr : ∀ Q : VK, Q v G → rIx K (.ref t) (.int ((us.length : Int) - 1 - (0 + (i : Int)))) G Q := fun Q hq => by
        rcases ht with z | z
        · exact .inl ⟨t, us, _, v, rfl, rfl, z, hat, hq⟩
        · exact .inr (.inl ⟨t, us, _, v, rfl, rfl, z, hat, hq⟩)
      refine ⟨.ref t, rfl, .ref t, rfl, t, us, rfl, ht, _, _, rfl, rfl, _, rfl, _, _, rfl, rfl, ixr _ ?_⟩
      cases e with
      | none =>
        obtain rfl := ev_none dv
        exact ⟨_, rfl, rfl, _, rfl, iteF (iteF (fin _ rfl rfl))⟩
      | some p =>
        obtain ⟨b, o⟩ := p
        obtain ⟨tt, rfl, htt⟩ := ev_some dv
        refine ⟨_, rfl, rfl, _, rfl, iteT ⟨_, rfl, tt, _, 0, .int (b : Int), rfl, rfl, htt, atI_nat (j := 0) rfl, _, rfl, rfl, _, rfl, ?_⟩⟩
        by_cases hb : b = a
        · subst hb
          rw [decide_eq_true rfl]
          refine iteT ⟨_, rfl, tt, _, 1, .int o, rfl, rfl, htt, atI_nat (j := 1) rfl, ?_⟩
          rw [hlast] at q
          have e2 : lastR (some (b, o) :: evs.reverse.drop (i + 1)) b old = o := if_pos rfl
          rw [e2] at q
          exact q
        · rw [decide_eq_false (show ¬ V.int (b : Int) = V.int (a : Int) from fun z => hb (by have := V.int.inj z; omega))]
          exact iteF (fin _ rfl (if_neg hb))
    · obtain ⟨rfl, ⟨y3, y4, rfl⟩, hlast⟩ := hP
      refine ⟨_, rfl, ?_⟩
      have e : (us.length : Int).toNat = evs.reverse.length := by rw [List.length_reverse]; omega
      rw [e, List.drop_length] at hlast
      rw [hlast] at q
      exact q
/-! ### _law_pending -/
def spLPend (K : PySem.W.Frag) : Sp := fun vs H Q _ => ∃ (t : Addr) (us : List V) (evs : List Ev), vs = [.ref t] ∧ SqT K H t us ∧ DpAll K H us (evs.map evD) ∧ evs.length < 64 ∧
  ∀ G q ps, Same H G → PlT G q (ps.map V.int) → SrtM evs ps → Q (.ref q) G
theorem ok_lpend {f : Addr} {fd : FuncData} {k : Nat} (F : Fun K "_law_pending" "_law_pending" sLPend f fd) (mr : mg "range" = none) (ml : mg "len" = none) (mt : mg "tuple" = none) (ms : mg "sorted" = none) : FnOk P w K mg base CX0 (k + 1) f fd ["events"] (spLPend K) := by
  refine F.ok scLPend (fun vs H Q E h => ?_) (fun cdv A outer s H vs Q E hr h => ?_)
  · obtain ⟨t, us, evs, rfl, _⟩ := h
    rfl
  · obtain ⟨t, us, evs, rfl, ht, hd, hl, q⟩ := h
    refine blk_cons (ps_set (i := 1) scLPend.nd rfl (.inl rfl) (pe_lst pa_nil)) ?_
    refine blk_cons (ps_for PassesOwn.never rfl (pi_range1 (by rfl) mr (pa_cons (pe_callB call_len_seq (by rfl) ml PySem.boot_len (pa_cons (pv 0) pa_nil)) pa_nil)) (pg_name (i := 2) scLPend.nd rfl (.inl rfl))
      (pss_cons (ps_set (i := 3) scLPend.nd rfl (.inl rfl) (pe_ix ix_tup (pv 0) (pe_op op_sub (pe_op op_sub (pe_callB call_len_seq (by rfl) ml PySem.boot_len (pa_cons (pv 0) pa_nil)) pe_int) (pv 2)) (fun _ _ => rfl)))
      (pss_cons (ps_if (pt_cmpR op_isN (pv 3) pe_non (nomark _)) (pss_one ps_break) pss_nil)
      (pss_one (ps_if (pt_cmpR op_notIn_seq (pe_ix ix_tup (pv 3) pe_int (fun _ _ => rfl)) (pv 1) (by rfl))
        (pss_one (ps_expr (pe_bm PySem.F.plainAttrs_list PySem.F.slot_list_append PySem.F.type_list_append mt_append (pv 1) (pa_cons (pe_ix ix_tup (pv 3) pe_int (fun _ _ => rfl)) pa_nil)))) pss_nil))))) ?_
    refine blk_cons (ps_ret (pe_callTy call_tuple_pl (by rfl) mt (by decide +kernel) (pa_cons (pe_callB cr_sorted (by rfl) ms (by decide +kernel) (pa_cons (pv 1) pa_nil)) pa_nil))) ?_
    refine blk_nil ?_
    have hlen := dpAll_len hd
    rw [List.length_map] at hlen
    refine ⟨Nat.zero_le _, fun D nD => ?_⟩
    dsimp only [gName]
    refine seq_out (t := tFor _ _ _) (fun σ' G' => Same H G' ∧ (∃ y2 y3 : Option V, σ' = [some (.ref t), some (.ref D), y2, y3]) ∧ G' D = some (.lst (((backP evs.reverse []).map fun a : Nat => (a : Int)).map V.int)) ∧ (backP evs.reverse []).length ≤ evs.length) (fun N hN => ?_) (fun σ' G' hR => ?_)
    · refine ⟨.ref t, rfl, t, us, rfl, .inr (same_seqT (same_new nD) ht), _, rfl, by omega, by omega, for_range (lo := 0) (fun i σ G => Same H G ∧ (∃ y2 y3 : Option V, σ = [some (.ref t), some (.ref D), y2, y3]) ∧
          ∃ fnd : List Nat, G D = some (.lst ((fnd.map fun a : Nat => (a : Int)).map V.int)) ∧ backP evs.reverse [] = backP (evs.reverse.drop i) fnd ∧ fnd.length ≤ i)
        ⟨same_new nD, ⟨_, _, rfl⟩, [], upd_same, rfl, Nat.le_refl _⟩ (fun i σ G hi hP => ?_) (fun σ G hP => ?_)⟩
      · obtain ⟨sm, ⟨y2, y3, rfl⟩, fnd, gD, hb, fl⟩ := hP
        have hi2 : i < evs.length := by omega
        obtain ⟨v, hv, dv⟩ := ev_get hd hi2
        rw [rev_at hi2] at hb
        generalize evs[evs.length - 1 - i] = e at dv hb
        have ht2 := same_seqT sm ht
        have hat : atI us ((us.length : Int) - 1 - (0 + (i : Int))) = some v := at_of (j := evs.length - 1 - i) (by omega) hv
        refine ⟨.ref t, rfl, .ref t, rfl, t, us, rfl, .inr ht2, _, _, rfl, rfl, _, rfl, _, _, rfl, rfl, t, us, _, v, rfl, rfl, ht2, hat, ?_⟩
        cases e with
        | none =>
          obtain rfl := ev_none dv
          refine ⟨_, rfl, rfl, _, rfl, iteT ?_⟩
          have e2 : backP evs.reverse [] = fnd := hb
          exact hN _ _ ⟨sm, ⟨_, _, rfl⟩, by rw [e2]; exact gD, by rw [e2]; omega⟩
        | some p =>
          obtain ⟨a, o⟩ := p
          obtain ⟨tt, rfl, htt⟩ := ev_some dv
          have htt2 := same_seqT sm htt
          refine ⟨_, rfl, rfl, _, rfl, iteF ⟨_, rfl, tt, _, 0, .int (a : Int), rfl, rfl, htt2, atI_nat (j := 0) rfl, _, rfl, D, _, rfl, .inl (sqL gD), rfl, flat_ints _, _, rfl, ?_⟩⟩
          rw [inV_ints]
          have hmem : ((a : Int) ∈ fnd.map fun a : Nat => (a : Int)) ↔ a ∈ fnd := by
            constructor
            · intro z
              obtain ⟨b, hb, e⟩ := List.mem_map.mp z
              have : b = a := by omega
              exact this ▸ hb
            · intro z
              exact List.mem_map.mpr ⟨a, z, rfl⟩
          by_cases ha : a ∈ fnd
          · rw [decide_eq_true (hmem.mpr ha)]
            refine iteF ⟨sm, ⟨_, _, rfl⟩, fnd, gD, ?_, by omega⟩
            have e2 : backP (some (a, o) :: evs.reverse.drop (i + 1)) fnd = backP (evs.reverse.drop (i + 1)) fnd := by rw [backP, if_pos ha]
            exact hb.trans e2
          · rw [decide_eq_false fun z => ha (hmem.mp z)]
            refine iteT ⟨.ref D, rfl, .inl ⟨rfl, _, sqL gD⟩, _, rfl, tt, _, 0, .int (a : Int), rfl, rfl, htt2, atI_nat (j := 0) rfl, D, _, _, rfl, rfl, gD, ?_, fun b ob e => ?_, ⟨_, _, rfl⟩, fnd ++ [a], ?_, ?_, ?_⟩
            · rw [List.length_map, List.length_map]
              exact small1000 (by omega)
            · rw [upd_ne (ne_of_none e nD)]
              exact sm _ _ e
            · rw [upd_same, List.map_append, List.map_append]
              rfl
            · have e2 : backP (some (a, o) :: evs.reverse.drop (i + 1)) fnd = backP (evs.reverse.drop (i + 1)) (fnd ++ [a]) := by rw [backP, if_neg ha]
              exact hb.trans e2
            · rw [List.length_append]
              exact Nat.succ_le_succ fl
      · obtain ⟨sm, ⟨y2, y3, rfl⟩, fnd, gD, hb, fl⟩ := hP
        have e : (us.length : Int).toNat = evs.reverse.length := by rw [List.length_reverse]; omega
        rw [e, List.drop_length] at hb
        have e2 : backP evs.reverse [] = fnd := hb
        refine hN _ _ ⟨sm, ⟨_, _, rfl⟩, by rw [e2]; exact gD, ?_⟩
        rw [e2]
        rw [e, List.length_reverse] at fl
        exact fl
    · obtain ⟨sm, ⟨y2, y3, rfl⟩, gD, fl⟩ := hR
      refine ⟨_, rfl, D, _, rfl, sqL gD, ?_, fun ns' p hp hs np => ?_⟩
      · rw [List.length_map]
        omega
      · refine ⟨p, _, rfl, sqL upd_same, fun t2 G2 nt2 s2 pl2 => q _ t2 ns' ((sm.trans (same_new np)).trans s2) pl2 ⟨hs, ?_, fun x => ?_⟩⟩
        · exact hp.nodup_iff.mpr (nd_ints (backP_nd _ _ List.nodup_nil))
        · rw [hp.mem_iff]
          constructor
          · intro z
            obtain ⟨a, ha, e⟩ := List.mem_map.mp z
            exact ⟨a, (back_mem evs a).mp ha, e.symm⟩
          · rintro ⟨a, ha, e⟩
            exact List.mem_map.mpr ⟨a, (back_mem evs a).mpr ha, e.symm⟩
end
end K9
namespace K9
open PySem PySem.Spec PyProof.Rows L2 Gd
theorem idx_nat {ps : List Int} (h : ∀ x ∈ ps, 0 ≤ x) (b : Nat) : (ps.map Int.toNat).idxOf? b = if (b : Int) ∈ ps then some (ps.idxOf (b : Int)) else none := by
  induction ps with
  | nil => rfl
  | cons x r ih =>
    have hx := h x List.mem_cons_self
    have ihr := ih fun y hy => h y (List.mem_cons_of_mem _ hy)
    rw [List.map_cons, List.idxOf?_cons, ihr]
    by_cases e : x = b
    · subst e
      simp
    · have e1 : (x.toNat == b) = false := beq_eq_false_iff_ne.mpr (by omega)
      have e2 : (x == (b : Int)) = false := beq_eq_false_iff_ne.mpr e
      rw [e1]
      by_cases m : (b : Int) ∈ r
      · rw [if_pos m, if_pos (List.mem_cons_of_mem _ m), List.idxOf_cons, e2]
        rfl
      · rw [if_neg m, if_neg fun z => (List.mem_cons.mp z).elim (fun z => e z.symm) m]
        rfl
theorem nd_nat {ps : List Int} (h : ∀ x ∈ ps, 0 ≤ x) (n : ps.Nodup) : (ps.map Int.toNat).Nodup := by
  induction ps with
  | nil => exact List.nodup_nil
  | cons x r ih =>
    obtain ⟨n1, n2⟩ := List.nodup_cons.mp n
    rw [List.map_cons]
    refine List.nodup_cons.mpr ⟨fun z => ?_, ih (fun y hy => h y (List.mem_cons_of_mem _ hy)) n2⟩
    obtain ⟨y, hy, e⟩ := List.mem_map.mp z
    have h1 := h y (List.mem_cons_of_mem _ hy)
    have h2 := h x List.mem_cons_self
    have : y = x := by omega
    exact n1 (this ▸ hy)
def dueL (cells : List Int) (evs : List Ev) (ps oct : List Int) : List Int := laid (replay cells evs) ((ps.map Int.toNat).zip oct)
theorem due_len (cells : List Int) (evs : List Ev) (ps oct : List Int) : (dueL cells evs ps oct).length = cells.length := by rw [dueL, laid_len, replay_len]
theorem due_at {cells : List Int} {evs : List Ev} {ps oct : List Int} {i : Nat} {c : Int} (hs : ∀ x ∈ ps, 0 ≤ x) (nd : ps.Nodup) (hl : ps.length = oct.length) (hc : cells[i]? = some c) :
    (dueL cells evs ps oct)[i]? = if (i : Int) ∈ ps then oct[ps.idxOf (i : Int)]? else some (lastOf evs i c) := by
  have e1 : ((ps.map Int.toNat).zip oct).map (·.1) = ps.map Int.toNat := List.map_fst_zip (by rw [List.length_map]; omega)
  have e2 : ((ps.map Int.toNat).zip oct).map (·.2) = oct := List.map_snd_zip (by rw [List.length_map]; omega)
  rw [dueL, laid_get _ _ (by rw [e1]; exact nd_nat hs nd) (by rw [replay_len]; exact (List.getElem?_eq_some_iff.mp hc).1), e1, e2, idx_nat hs, replay_get hc]
  by_cases m : (i : Int) ∈ ps
  · rw [if_pos m, if_pos m]
  · rw [if_neg m, if_neg m]
/-- an octet -/
def Oct (o : Int) : Prop := 0 ≤ o ∧ o < 256
theorem lastR_oct {a : Nat} {old : Int} (h0 : Oct old) : ∀ {evs : List Ev}, (∀ b o, some (b, o) ∈ evs → Oct o) → Oct (lastR evs a old)
  | [], _ => h0
  | none :: r, h => lastR_oct h0 (evs := r) fun b o m => h b o (List.mem_cons_of_mem _ m)
  | some (b, o) :: r, h => by
    rw [lastR]
    split
    · exact h b o List.mem_cons_self
    · exact lastR_oct h0 (evs := r) fun b o m => h b o (List.mem_cons_of_mem _ m)
theorem last_oct {a : Nat} {old : Int} {evs : List Ev} (h0 : Oct old) (h : ∀ b o, some (b, o) ∈ evs → Oct o) : Oct (lastOf evs a old) := lastR_oct h0 fun b o m => h b o (List.mem_reverse.mp m)
theorem due_oct {cells : List Int} {evs : List Ev} {ps oct : List Int} (hs : ∀ x ∈ ps, 0 ≤ x) (nd : ps.Nodup) (hl : ps.length = oct.length) (hc : ∀ c ∈ cells, Oct c) (he : ∀ b o, some (b, o) ∈ evs → Oct o) (ho : ∀ o ∈ oct, Oct o) :
    ∀ x ∈ dueL cells evs ps oct, Oct x := by
  intro x hx
  obtain ⟨i, hi, e⟩ := List.getElem_of_mem hx
  rw [due_len] at hi
  have hci : cells[i]? = some cells[i] := List.getElem?_eq_getElem hi
  have h1 := due_at (evs := evs) hs nd hl hci
  have h2 : (dueL cells evs ps oct)[i]? = some x := by
    rw [← e]
    exact List.getElem?_eq_getElem _
  rw [h2] at h1
  by_cases m : (i : Int) ∈ ps
  · rw [if_pos m] at h1
    exact ho x (List.mem_of_getElem? h1.symm)
  · rw [if_neg m] at h1
    obtain rfl := Option.some.inj h1
    exact last_oct (hc _ (List.getElem_mem hi)) he
theorem cost_ints : ∀ l : List Int, costAll (l.map .int) = 12 * l.length
  | [] => by rw [List.map_nil, costAll]; rfl
  | x :: r => by
    rw [List.map_cons, costAll, cost_ints r, costD, List.length_cons]
    omega
theorem ints_fine {l : List Int} (h : ∀ x ∈ l, x.natAbs < 10 ^ 9) (hl : l.length ≤ 1000) : fine (.tuple (l.map .int)) = true ∧ (PyData.tuple (l.map .int)).depth ≤ 60 ∧ costD (.tuple (l.map .int)) ≤ sizeLine := by
  refine ⟨?_, ?_, ?_⟩
  · rw [fine]
    refine fineAll_mem fun d hd => ?_
    obtain ⟨x, hx, rfl⟩ := List.mem_map.mp hd
    rw [fine]
    exact decide_eq_true (h x hx)
  · rw [PyData.depth]
    have : PyData.depthAll (l.map .int) ≤ 1 := depthAll_mem fun d hd => by
      obtain ⟨x, _, rfl⟩ := List.mem_map.mp hd
      simp [PyData.depth]
    omega
  · rw [costD, cost_ints, sizeLine_eq]
    omega
theorem oct_nat {x : Int} (h : Oct x) : x.natAbs < 10 ^ 9 := by
  have h1 := h.1
  have h2 := h.2
  omega
/-- what the law's cuts are of -/
structure Evs (n : Nat) (evs : List Ev) : Prop where
  at_ : ∀ a o, some (a, o) ∈ evs → a < n
  oc : ∀ a o, some (a, o) ∈ evs → Oct o
  len : evs.length < 64
theorem dp_tup {K : PySem.W.Frag} {H : Hp} {q : Addr} {l : List Int} (h : SqT K H q (l.map V.int)) : Dp K H (.ref q) (.tuple (l.map .int)) := .tup h (dpAll_ints l)
theorem srt_pos {evs : List Ev} {ps : List Int} (h : Srt evs ps) : ∀ x ∈ ps, 0 ≤ x := fun x hx => by
  obtain ⟨a, rfl, _⟩ := srt_nat h hx
  omega
theorem srt_oct {evs : List Ev} {ps : List Int} {n : Nat} (h : Srt evs ps) (he : Evs n evs) (hn : n ≤ 1000) : (∀ x ∈ ps, x.natAbs < 10 ^ 9) ∧ ps.length ≤ 1000 := by
  refine ⟨fun x hx => ?_, ?_⟩
  · obtain ⟨a, rfl, ha⟩ := srt_nat h hx
    have := pend_in he.at_ a ha
    omega
  · rw [h.perm.length_eq, List.length_map]
    have := pend_len evs
    have := he.len
    omega
section
variable {P : Program} {w : World} {K : PySem.W.Frag} {mg : Str → Option Value} {base : Heap}
def spCutR (K : PySem.W.Frag) : Sp := fun vs H Q _ => ∃ (h l c t : Addr) (L : List Int) (st : Int) (cells : List Int) (us : List V) (evs : List Ev), vs = [.ref h, .ref c, .ref t] ∧ Hv H h l L st ∧ SqT K H c (cells.map V.int) ∧ SqT K H t us ∧ DpAll K H us (evs.map evD) ∧
  Evs cells.length evs ∧ cells.length ≤ 1000 ∧ (∀ x ∈ cells, Oct x) ∧ ∀ (G : Hp) (L' : List Int) (st' : Int), But h l H G → Hv G h l L' st' → Q (.bl true) G
theorem ok_cutR {f fD fP fO fL fQ fG fC : Addr} {fd fdD fdP fdO fdL fdQ fdG fdC : FuncData} {k : Nat} (F : Fun K "_law_cut_right" "_law_cut_right" sCutR f fd) (FD : Fun K "_law_draw" "_law_draw" sDraw fD fdD) (FP : Fun K "_law_pick" "_law_pick" sPick fP fdP)
    (FO : Fun K "_law_octet" "_law_octet" sOctet fO fdO) (FL : Fun K "_law_last" "_law_last" sLast fL fdL) (FQ : Fun K "_law_pending" "_law_pending" sLPend fQ fdQ) (FG : Fun K "pending_places" "pending_places" sPend fG fdG) (FC : Fun K "cut_cells" "cut_cells" sCut fC fdC)
    (bD : Binds K fdD ["heap", "many"] []) (bP : Binds K fdP ["heap", "some"] []) (bO : Binds K fdO ["heap"] []) (bL : Binds K fdL ["events", "at", "old"] []) (bQ : Binds K fdQ ["events"] []) (bG : Binds K fdG ["events"] []) (bC : Binds K fdC ["cells", "events", "octets"] [])
    (kG : KwB fdG ["events"] ["events"] id) (kC : KwB fdC ["cells", "events", "octets"] ["octets", "events", "cells"] List.reverse)
    (gD : mg "_law_draw" = some (.ref fD)) (gP : mg "_law_pick" = some (.ref fP)) (gO : mg "_law_octet" = some (.ref fO)) (gL : mg "_law_last" = some (.ref fL)) (gQ : mg "_law_pending" = some (.ref fQ)) (gG : mg "pending_places" = some (.ref fG)) (gC : mg "cut_cells" = some (.ref fC))
    (ml : mg "len" = none) (mi : mg "int" = none) (mr : mg "range" = none) (mt : mg "tuple" = none) (ms : mg "sorted" = none) (mL : mg "list" = none) (mz : mg "zip" = none) (mp : mg "repr" = none) :
    FnG P w K mg base (k + 1 + 1 + 1 + 1) f fd ["heap", "cells", "events"] (spCutR K) := by
  have GP : FnOk P w K mg base CX0 (k + 1 + 1 + 1) fP fdP ["heap", "some"] (spPick K) := ok_pick FP FD bD gD ml mi
  have GO : FnOk P w K mg base CX0 (k + 1 + 1 + 1) fO fdO ["heap"] spOctet := ok_octet FO FD FP bD bP gD gP ml mi
  have GL : FnOk P w K mg base CX0 (k + 1 + 1 + 1) fL fdL ["events", "at", "old"] (spLast K) := ok_last FL mr ml
  have GQ : FnOk P w K mg base CX0 (k + 1 + 1 + 1) fQ fdQ ["events"] (spLPend K) := ok_lpend FQ mr ml mt ms
  have GG : FnOk P w K mg base CX0 (k + 1 + 1 + 1) fG fdG ["events"] (spPend K) := ok_pend FG mt ms
  have GC : FnOk P w K mg base CX0 (k + 1 + 1 + 1) fC fdC ["cells", "events", "octets"] (spCut K) := ok_cut FC FG bG gG mt ms mL mz
  refine okG F scCutR (fun vs H Q E h => ?_) (fun cdv A outer s H vs Q E hrg h => ?_)
  · obtain ⟨h, l, c, t, L, st, cells, us, evs, rfl, _⟩ := h
    rfl
  · obtain ⟨h, l, c, t, L, st, cells, us, evs, rfl, hv, hc, ht, hd, hE, hn, hco, q⟩ := h
    have hr := hrg.rm
    have hgd := hrg.gd
    refine blk_cons (ps_set (i := 3) scCutR.nd rfl (.inl rfl) (pe_call GQ hr (by rfl) gQ FQ.kp bQ .nil pass0 (pa_cons (pv 2) pa_nil))) ?_
    refine blk_cons (ps_if (PW.pt (pw_or (pt_cmpR op_ne (pe_callB (call_reprF hgd hr.units) (by rfl) mp (by decide +kernel) (pa_cons (pe_call GG hr (by rfl) gG FG.kp bG .nil pass0 (pa_cons (pv 2) pa_nil)) pa_nil)) (pe_callB (call_reprF hgd hr.units) (by rfl) mp (by decide +kernel) (pa_cons (pv 3) pa_nil)) (nomark _))
      (pw_or1 (pt_cmpR (op_neD hr.units) (pe_kwG (E := E0) (gV := id) (FnG.of GG) hrg (by rfl) gG FG.kp kG (fun _ r => r) (pk_cons (pv 2) pk_nil)) (pv 3) (nomark _))))) (pss_one (ps_ret pe_bl)) pss_nil) ?_
    refine blk_cons (ps_set (i := 5) scCutR.nd rfl (.inl rfl) (pe_callTy call_tuple_of (by rfl) mt (by decide +kernel) (pa_cons (pe_lc (own := [("at", 4)]) (g := gName 4) (tt := tYes) rfl scCutR.nd (pi_tup (pv 3))
      (blkOk_by (own := [("at", 4)]) (N := ["heap", "cells", "events", "places", "at", "octets", "due"]) (sc := defScope sCutR) (by decide +kernel)) (fun _ _ _ _ _ => pg_name (i := 4) scCutR.nd rfl (Or.inl rfl)) (fun _ _ _ _ _ => pts_nil)
      (fun _ _ _ _ _ => pe_call GP hr (by rfl) gP FP.kp bP .nil pass0 (pa_cons (pv 0) (pa_cons (pe_lst (pa_cons (pe_call GO hr (by rfl) gO FO.kp bO .nil pass0 (pa_cons (pv 0) pa_nil)) (pa_cons (pe_ix (r := rIxT K) ix_tup (pv 1) (pv 4) (fun _ _ => rfl)) (pa_cons (pe_call GL hr (by rfl) gL FL.kp bL .nil pass0 (pa_cons (pv 2) (pa_cons (pv 4) (pa_cons pe_int pa_nil)))) pa_nil)))) pa_nil)))) pa_nil))) ?_
    refine blk_cons (ps_set (i := 6) scCutR.nd rfl (.inl rfl) (pe_lst pa_nil)) ?_
    refine blk_cons (ps_for PassesOwn.never rfl (pi_range1 (by rfl) mr (pa_cons (pe_callB call_len_seq (by rfl) ml PySem.boot_len (pa_cons (pv 1) pa_nil)) pa_nil)) (pg_name (i := 4) scCutR.nd rfl (.inl rfl))
      (pss_one (ps_expr (pe_bm PySem.F.plainAttrs_list PySem.F.slot_list_append PySem.F.type_list_append mt_append (pv 6) (pa_cons (pe_ifExp (pt_cmpR op_in_seq (pv 4) (pv 3) (by rfl))
        (pe_ix ix_tup (pv 5) (pe_bmT PySem.F.plainAttrs_tuple PySem.F.slot_tuple_index PySem.F.type_tuple_index mt_indexI (pv 3) (pa_cons (pv 4) pa_nil)) (fun _ _ => rfl))
        (pe_call GL hr (by rfl) gL FL.kp bL .nil pass0 (pa_cons (pv 2) (pa_cons (pv 4) (pa_cons (pe_ix ix_tup (pv 1) (pv 4) (fun _ _ => rfl)) pa_nil))))) pa_nil))))) ?_
    refine blk_cons (ps_if (pt_cmpR op_ne (pe_callB (call_reprF hgd hr.units) (by rfl) mp (by decide +kernel) (pa_cons (pe_call GC hr (by rfl) gC FC.kp bC .nil pass0 (pa_cons (pv 1) (pa_cons (pv 2) (pa_cons (pv 5) pa_nil)))) pa_nil))
      (pe_callB (call_reprF hgd hr.units) (by rfl) mp (by decide +kernel) (pa_cons (pe_callTy call_tuple_of (by rfl) mt (by decide +kernel) (pa_cons (pv 6) pa_nil)) pa_nil)) (nomark _)) (pss_one (ps_ret pe_bl)) pss_nil) ?_
    refine blk_cons (ps_ret (pe_cmpR (op_eqD hr.units) (pe_kwG (E := E0) (gV := List.reverse) (FnG.of GC) hrg (by rfl) gC FC.kp kC (fun _ r => r.reverse) (pk_cons (pv 5) (pk_cons (pv 2) (pk_cons (pv 1) pk_nil))))
      (pe_callTy call_tuple_of (by rfl) mt (by decide +kernel) (pa_cons (pv 6) pa_nil)) (nomark _))) ?_
    refine blk_nil ?_
    have noh : ∀ {G : Hp}, KeepT H G → DpAll K G us (evs.map evD) := fun kt => dpAll_keep kt _ _ (noList_ev evs) hd
    -- places = _law_pending(events)
    refine ⟨.ref t, rfl, t, us, evs, rfl, ht, hd, hE.len, fun G1 pq ps s1 hpl0 hsm => ?_⟩
    have hpq : SqT K G1 pq (ps.map V.int) := hpl0.sq
    -- repr(pending_places(events)) != repr(places)
    refine ⟨.ref t, rfl, t, us, evs, rfl, same_seqT s1 ht, dpAll_same s1 _ _ hd, hE.len, fun G2 pr qs s2 hpr hsr => ?_⟩
    obtain rfl : qs = ps := hsr.m.one hsm
    obtain ⟨hb1, hb2⟩ := srt_oct hsr hE hn
    obtain ⟨hf, hdep, hco2⟩ := ints_fine hb1 hb2
    refine ⟨pr, _, rfl, dp_tup hpr, hf, hdep, hco2, .ref pq, rfl, pq, _, rfl, dp_tup (same_seqT s2 hpq), hf, hdep, hco2, rfl, _, rfl, ?_⟩
    rw [decide_eq_true rfl]
    refine iteF ?_
    -- pending_places(events=events) != places
    refine ⟨.ref t, rfl, rfl, t, us, evs, rfl, same_seqT (s1.trans s2) ht, dpAll_same (s1.trans s2) _ _ hd, hE.len, fun G3 pr2 rs s3 hpr2 hsr2 => ?_⟩
    obtain rfl : rs = qs := hsr2.m.one hsm
    have s13 := (s1.trans s2).trans s3
    refine ⟨.ref pq, rfl, _, _, dp_tup hpr2, dp_tup (same_seqT (s2.trans s3) hpq), fine_shaped hf hdep, fine_shaped hf hdep, _, rfl, ?_⟩
    rw [fine_eqv hf]
    refine iteF ?_
    have hpl3 := hpl0.same (s2.trans s3)
    have hpq3 := same_seqT (s2.trans s3) hpq
    have hv3 := hv.same s13
    have hc3 := same_seqT s13 hc
    have ht3 := same_seqT s13 ht
    have hd3 := dpAll_same s13 _ _ hd
    have hpos := srt_pos hsr
    have hnd := hsm.nd
    have hrl : rs.length = (pend evs).length := by rw [hsr.perm.length_eq, List.length_map]
    have hin : ∀ x ∈ rs, ∃ a : Nat, x = (a : Int) ∧ a < cells.length := fun x hx => by
      obtain ⟨a, e, ha⟩ := srt_nat hsr hx
      exact ⟨a, e, pend_in hE.at_ a ha⟩
    have hpl : (pend evs).length < 64 := Nat.lt_of_le_of_lt (pend_len evs) hE.len
    clear hpr2 hsr2 hpr s1 s2 s3 hpq hpl0
    -- octets = tuple([..])
    refine ⟨.ref pq, rfl, pq, rfl, ⟨_, hpq3⟩, fun D nD => ?_⟩
    have neh : h ≠ D := ne_of_none hv3.top nD
    have nel : l ≠ D := ne_of_none hv3.bot nD
    refine lc_tup (K := K) (a := pq) (xs := rs.map V.int) (fun i G => But h l G3 G ∧ (∃ L4 st4, Hv G h l L4 st4) ∧ ∃ oct : List Int, G D = some (.lst (oct.map V.int)) ∧ oct.length = i ∧ ∀ o ∈ oct, Oct o)
      ⟨(But.refl _ _ _).new nD, ⟨_, _, hv3.new nD⟩, [], upd_same, rfl, fun o ho => absurd ho List.not_mem_nil⟩ (fun i G _ hP => (KeepT.but hv3 hP.1).seqT hpq3) (fun i x G hx hP => ?_) (fun G hP => ?_)
    · obtain ⟨b4, ⟨L4, st4, hv4⟩, oct, gD, ol, ho⟩ := hP
      obtain ⟨n, hn1, rfl⟩ := map_at hx
      obtain ⟨a, rfl, ha⟩ := hin n (List.mem_of_getElem? hn1)
      have k4 := KeepT.but hv3 b4
      refine ⟨rfl, ?_⟩
      dsimp only [tYes]
      rw [if_pos rfl]
      have hil : i < rs.length := (List.getElem?_eq_some_iff.mp hn1).1
      refine ⟨.ref h, rfl, .ref h, rfl, h, l, L4, st4, rfl, hv4, fun G5 L5 st5 o5 b5 hv5 o50 o51 => ?_⟩
      have k5 := k4.trans (KeepT.but hv4 b5)
      refine ⟨.ref c, rfl, _, rfl, c, _, _, .int cells[a], rfl, rfl, k5.seqT hc3, atI_nat (by rw [List.getElem?_map, List.getElem?_eq_getElem ha]; rfl), ?_⟩
      refine ⟨.ref t, rfl, _, rfl, t, us, evs, a, 0, rfl, .inr (k5.seqT ht3), dpAll_keep k5 _ _ (noList_ev evs) hd3, Nat.le_of_lt (Nat.lt_of_lt_of_le hE.len (by decide)), ?_⟩
      refine ⟨by show 3 ≤ sizeLine; decide, fun p np => ?_⟩
      refine ⟨h, l, L5, st5, p, [.int o5, .int cells[a], .int (lastOf evs a 0)], rfl, hv5.new np, sqL upd_same, (ne_of_none hv5.top np).symm, (ne_of_none hv5.bot np).symm, by show 0 < 3; decide, by show 3 < 1000; decide, fun G6 L6 st6 j x b6 hv6 hx6 => ?_⟩
      obtain ⟨o, rfl, hoo⟩ : ∃ o, x = .int o ∧ Oct o := by
        match j, hx6 with
        | 0, hx6 => cases hx6; exact ⟨_, rfl, o50, o51⟩
        | 1, hx6 => cases hx6; exact ⟨_, rfl, hco _ (List.getElem_mem ha)⟩
        | 2, hx6 => cases hx6; exact ⟨_, rfl, last_oct ⟨by decide, by decide⟩ hE.oc⟩
        | _ + 3, hx6 => simp at hx6
      have b46 : But h l G G6 := (b5.new np).trans b6
      refine ⟨oct.map V.int, b46 _ _ neh.symm nel.symm gD, ?_, fun b ob b1 b2 e => ?_, ⟨L6, st6, ?_⟩, oct ++ [o], ?_, ?_, ?_⟩
      · rw [List.length_map]
        exact small1000 (by omega)
      · rw [upd_ne (ne_of_none e nD)]
        exact b46 _ _ b1 b2 (b4 _ _ b1 b2 e)
      · exact ⟨(upd_ne neh).trans hv6.top, (upd_ne nel).trans hv6.bot, hv6.ne, hv6.lo, hv6.hi, hv6.len⟩
      · rw [upd_same, List.map_append]
        rfl
      · rw [List.length_append, ol]
        rfl
      · intro o' hm
        rcases List.mem_append.mp hm with e | e
        · exact ho o' e
        · obtain rfl : o' = o := by simpa using e
          exact hoo
    obtain ⟨b4, ⟨L4, st4, hv4⟩, oct, gD, ol, ho⟩ := hP
    have k4 := KeepT.but hv3 b4
    rw [List.length_map] at ol
    refine ⟨D, _, rfl, .inl ⟨sqL gD, fun q5 nq5 => ?_⟩⟩
    have hv5 := hv4.new (o := .tup (oct.map V.int)) nq5
    have k5 : KeepT G3 (upd G q5 (.tup (oct.map V.int))) := k4.trans (.of (same_new nq5))
    have b5 : But h l H (upd G q5 (.tup (oct.map V.int))) := fun c o h1 h2 e => (b4.new nq5) c o h1 h2 (s13 _ _ e)
    have hq5 : SqT K (upd G q5 (.tup (oct.map V.int))) q5 (oct.map V.int) := sqT upd_same
    generalize upd G q5 (.tup (oct.map V.int)) = G5 at hv5 k5 b5 hq5 ⊢
    have hpl5 := hpl3.keep k5
    have hpq5 := k5.seqT hpq3
    have hc5 := k5.seqT hc3
    have ht5 := k5.seqT ht3
    have hd5 := dpAll_keep k5 _ _ (noList_ev evs) hd3
    have hll : rs.length = oct.length := ol.symm
    have hdo := due_oct (evs := evs) hpos hnd hll hco hE.oc ho
    obtain ⟨tf, tdep, tco⟩ := ints_fine (l := dueL cells evs rs oct) (fun x hx => oct_nat (hdo x hx)) (by rw [due_len]; exact hn)
    -- due = []
    refine ⟨Nat.zero_le _, fun E nE => ?_⟩
    dsimp only [gName]
    refine seq_out (t := tFor _ _ _) (fun σ' G' => Same G5 G' ∧ (∃ y4 : Option V, σ' = [some (.ref h), some (.ref c), some (.ref t), some (.ref pq), y4, some (.ref q5), some (.ref E)]) ∧ G' E = some (.lst ((dueL cells evs rs oct).map V.int))) (fun N hN => ?_) (fun σ' G' hR => ?_)
    · refine ⟨.ref c, rfl, c, _, rfl, .inr (same_seqT (same_new nE) hc5), _, rfl, by omega, by rw [List.length_map]; omega, for_range (lo := 0) (fun i σ G => Same G5 G ∧ (∃ y4 : Option V, σ = [some (.ref h), some (.ref c), some (.ref t), some (.ref pq), y4, some (.ref q5), some (.ref E)]) ∧ G E = some (.lst (((dueL cells evs rs oct).take i).map V.int)))
        ⟨same_new nE, ⟨_, rfl⟩, upd_same⟩ (fun i σ G hi hP => ?_) (fun σ G hP => ?_)⟩
      · obtain ⟨sm, ⟨y4, rfl⟩, gE⟩ := hP
        have hi2 : i < cells.length := by
          rw [List.length_map] at hi
          omega
        have hci : cells[i]? = some cells[i] := List.getElem?_eq_getElem hi2
        have hda := due_at (evs := evs) hpos hnd hll hci
        have fin : ∀ v, (dueL cells evs rs oct)[i]? = some v → ∀ σ', σ' = [some (.ref h), some (.ref c), some (.ref t), some (.ref pq), some (.int (0 + (i : Int))), some (.ref q5), some (.ref E)] →
            ∃ l0 vs v1, V.ref E = .ref l0 ∧ [V.int v] = [v1] ∧ G l0 = some (.lst vs) ∧ vs.length < sizeLine ∧ (fun σ G => Same G5 G ∧ (∃ y4 : Option V, σ = [some (.ref h), some (.ref c), some (.ref t), some (.ref pq), y4, some (.ref q5), some (.ref E)]) ∧ G E = some (.lst (((dueL cells evs rs oct).take (i + 1)).map V.int))) σ' (upd G l0 (.lst (vs ++ [v1]))) := fun v hv σ' e => by
          refine ⟨E, _, _, rfl, rfl, gE, ?_, fun b ob e => ?_, ⟨_, e⟩, ?_⟩
          · rw [List.length_map, List.length_take, due_len]
            exact small1000 (by omega)
          · rw [upd_ne (ne_of_none e nE)]
            exact sm _ _ e
          · rw [upd_same, List.take_add_one, hv, List.map_append]
            rfl
        refine ⟨.ref E, rfl, .inl ⟨rfl, _, sqL gE⟩, _, rfl, _, rfl, pq, _, rfl, .inr (same_seqT sm hpq5), rfl, flat_ints _, _, rfl, ?_⟩
        have ez : (0 + (i : Int)) = (i : Int) := by omega
        rw [ez, inV_ints]
        rw [ez] at fin
        by_cases m : (i : Int) ∈ rs
        · rw [if_pos m] at hda
          rw [decide_eq_true m]
          have hix : rs.idxOf (i : Int) < oct.length := by
            rw [← hll]
            exact List.idxOf_lt_length_of_mem m
          rw [List.getElem?_eq_getElem hix] at hda
          refine iteT ⟨.ref q5, rfl, .ref pq, rfl, ⟨pq, _, rfl, hpl5.same sm⟩, _, rfl, pq, rs, _, rfl, rfl, same_seqT sm hpq5, m, q5, _, _, _, rfl, rfl, same_seqT sm hq5, atI_nat (by rw [List.getElem?_map, List.getElem?_eq_getElem hix]; rfl), fin _ hda _ rfl⟩
        · rw [if_neg m] at hda
          rw [decide_eq_false m]
          refine iteF ⟨.ref t, rfl, _, rfl, .ref c, rfl, _, rfl, c, _, _, _, rfl, rfl, same_seqT sm hc5, atI_nat (by rw [List.getElem?_map, hci]; rfl), t, us, evs, i, cells[i], rfl, .inr (same_seqT sm ht5), dpAll_same sm _ _ hd5, Nat.le_of_lt (Nat.lt_of_lt_of_le hE.len (by decide)), fin _ hda _ rfl⟩
      · obtain ⟨sm, ⟨y4, rfl⟩, gE⟩ := hP
        have e : (((cells.map V.int).length : Int)).toNat = (dueL cells evs rs oct).length := by rw [List.length_map, due_len]; omega
        rw [e, List.take_length] at gE
        exact hN _ _ ⟨sm, ⟨_, rfl⟩, gE⟩
    obtain ⟨sm, ⟨y4, rfl⟩, gE⟩ := hR
    have hEl := hE.len
    -- repr(cut_cells(..)) != repr(tuple(due))
    refine ⟨.ref c, rfl, .ref t, rfl, .ref q5, rfl, c, t, q5, cells, us, evs, oct, rfl, same_seqT sm hc5, same_seqT sm ht5, dpAll_same sm _ _ hd5, hE.len, hE.at_, same_seqT sm hq5, by rw [← hrl, hll], fun G6 q6 ps6 s6 hs6 hq6 => ?_⟩
    obtain rfl : ps6 = rs := hs6.m.one hsm
    refine ⟨q6, _, rfl, dp_tup (l := dueL cells evs ps6 oct) hq6, tf, tdep, tco, ?_⟩
    refine ⟨.ref E, rfl, E, _, rfl, .inl ⟨sqL (s6 _ _ gE), fun q7 nq7 => ⟨q7, _, rfl, dp_tup (l := dueL cells evs ps6 oct) (sqT upd_same), tf, tdep, tco, rfl, _, rfl, ?_⟩⟩⟩
    rw [decide_eq_true rfl]
    refine iteF ?_
    have s67 := (sm.trans s6).trans (same_new (o := .tup ((dueL cells evs ps6 oct).map V.int)) nq7)
    have gE7 : (upd G6 q7 (.tup ((dueL cells evs ps6 oct).map V.int))) E = _ := (upd_ne (ne_of_none (s6 _ _ gE) nq7)).trans (s6 _ _ gE)
    generalize upd G6 q7 (.tup ((dueL cells evs ps6 oct).map V.int)) = G7 at s67 gE7 ⊢
    -- cut_cells(octets=.., events=.., cells=..) == tuple(due)
    refine ⟨.ref q5, rfl, .ref t, rfl, .ref c, rfl, rfl, c, t, q5, cells, us, evs, oct, rfl, same_seqT s67 hc5, same_seqT s67 ht5, dpAll_same s67 _ _ hd5, hE.len, hE.at_, same_seqT s67 hq5, by rw [← hrl, hll], fun G8 q8 ps8 s8 hs8 hq8 => ?_⟩
    obtain rfl : ps8 = ps6 := hs8.m.one hsm
    refine ⟨.ref E, rfl, E, _, rfl, .inl ⟨sqL (s8 _ _ gE7), fun q9 nq9 => ?_⟩⟩
    refine ⟨_, _, dp_tup (l := dueL cells evs ps8 oct) (same_seqT (same_new nq9) hq8), dp_tup (l := dueL cells evs ps8 oct) (sqT upd_same), fine_shaped tf tdep, fine_shaped tf tdep, ?_⟩
    rw [fine_eqv tf]
    have s59 := (s67.trans s8).trans (same_new (o := .tup ((dueL cells evs ps8 oct).map V.int)) nq9)
    exact q _ L4 st4 (fun b o h1 h2 e => s59 _ _ (b5 b o h1 h2 e)) (hv5.same s59)
end
end K9
namespace K9
open PySem PySem.Spec PyProof.Rows L2 Gd
structure Sep (h l dl de r : Addr) : Prop where
  n1 : dl ≠ h
  n2 : dl ≠ l
  n3 : de ≠ h
  n4 : de ≠ l
  n5 : r ≠ h
  n6 : r ≠ l
  n7 : r ≠ dl
  n8 : r ≠ de
/-- the law's game with one disk: the draws, the disk, its cells, what happened -/
structure Pl (K : PySem.W.Frag) (C : Addr) (H : Hp) (h l p dx c dl de r : Addr) (L : List Int) (st : Int) (cells : List Int) (evs : List Ev) : Prop where
  hv : Hv H h l L st
  dk : DiskAt K C H p dx c dl de cells (replay cells evs) evs
  run : ∃ us, H r = some (.lst us) ∧ DpAll K H us (evs.map evD)
  ev : Evs cells.length evs
theorem Pl.frm {K : PySem.W.Frag} {C : Addr} {S : List Addr} {H G : Hp} {h l p dx c dl de r : Addr} {L L' : List Int} {st st' : Int} {cells : List Int} {evs : List Ev} (d : Pl K C H h l p dx c dl de r L st cells evs) (f : Frm S H G) (v : Hv G h l L' st') (n1 : dl ∉ S) (n2 : de ∉ S) (n3 : r ∉ S) :
    Pl K C G h l p dx c dl de r L' st' cells evs := by
  obtain ⟨us, h1, h2⟩ := d.run
  exact ⟨v, d.dk.frm f n1 n2, ⟨us, f.ks _ _ n3 h1, dpAll_keep f.kt _ _ (noList_ev evs) h2⟩, d.ev⟩
theorem Sep.two {h l dl de r : Addr} (s : Sep h l dl de r) : dl ∉ [h, l] ∧ de ∉ [h, l] ∧ r ∉ [h, l] := by
  refine ⟨fun z => ?_, fun z => ?_, fun z => ?_⟩
  · rcases List.mem_cons.mp z with z | z
    · exact s.n1 z
    · exact s.n2 (List.mem_singleton.mp z)
  · rcases List.mem_cons.mp z with z | z
    · exact s.n3 z
    · exact s.n4 (List.mem_singleton.mp z)
  · rcases List.mem_cons.mp z with z | z
    · exact s.n5 z
    · exact s.n6 (List.mem_singleton.mp z)
theorem Pl.but {K : PySem.W.Frag} {C : Addr} {H G : Hp} {h l p dx c dl de r : Addr} {L L' : List Int} {st st' : Int} {cells : List Int} {evs : List Ev} (d : Pl K C H h l p dx c dl de r L st cells evs) (s : Sep h l dl de r) (b : But h l H G) (v : Hv G h l L' st') :
    Pl K C G h l p dx c dl de r L' st' cells evs := d.frm (S := [h, l]) (.but d.hv b (by simp) (by simp)) v s.two.1 s.two.2.1 s.two.2.2
theorem Pl.same {K : PySem.W.Frag} {C : Addr} {H G : Hp} {h l p dx c dl de r : Addr} {L : List Int} {st : Int} {cells : List Int} {evs : List Ev} (d : Pl K C H h l p dx c dl de r L st cells evs) (e : Same H G) :
    Pl K C G h l p dx c dl de r L st cells evs := d.frm (S := []) (.same e) (d.hv.same e) (by simp) (by simp) (by simp)
theorem fine_evs {evs : List Ev} {n : Nat} (h : Evs n evs) (hn : n ≤ 1000) : fine (.list (evs.map evD)) = true ∧ (PyData.list (evs.map evD)).depth ≤ 60 ∧ costD (.list (evs.map evD)) ≤ sizeLine := by
  have f1 : ∀ e ∈ evs, fine (evD e) = true := fun e he => by
    cases e with
    | none => simp [evD, fine]
    | some p =>
      obtain ⟨a, o⟩ := p
      have h1 := h.at_ a o he
      have h2 := oct_nat (h.oc a o he)
      simp only [evD, fine, fineAll, Bool.and_true, Bool.and_eq_true, decide_eq_true_eq]
      exact ⟨by omega, h2⟩
  have c1 : ∀ l : List Ev, costAll (l.map evD) ≤ 40 * l.length := fun l => by
    induction l with
    | nil => rw [List.map_nil, costAll]; exact Nat.le_refl 0
    | cons e r ih =>
      rw [List.map_cons, costAll, List.length_cons]
      have : costD (evD e) ≤ 30 := by
        cases e with
        | none => simp [evD, costD]
        | some p => simp [evD, costD, costAll]
      omega
  refine ⟨?_, ?_, ?_⟩
  · rw [fine]
    refine fineAll_mem fun d hd => ?_
    obtain ⟨e, he, rfl⟩ := List.mem_map.mp hd
    exact f1 e he
  · rw [PyData.depth]
    have : PyData.depthAll (evs.map evD) ≤ 2 := depthAll_mem fun d hd => by
      obtain ⟨e, _, rfl⟩ := List.mem_map.mp hd
      cases e <;> simp [evD, PyData.depth, PyData.depthAll]
    omega
  · rw [costD, sizeLine_eq]
    have := c1 evs
    have := h.len
    omega
theorem Evs.snoc {n : Nat} {evs : List Ev} {e : Ev} (h : Evs n evs) (h1 : ∀ a o, e = some (a, o) → a < n ∧ Oct o) (hl : evs.length < 63) : Evs n (evs ++ [e]) := by
  refine ⟨fun a o m => ?_, fun a o m => ?_, by rw [List.length_append]; show _ + 1 < 64; omega⟩
  · rcases List.mem_append.mp m with z | z
    · exact h.at_ a o z
    · exact (h1 a o (List.mem_singleton.mp z).symm).1
  · rcases List.mem_append.mp m with z | z
    · exact h.oc a o z
    · exact (h1 a o (List.mem_singleton.mp z).symm).2
section
variable {P : Program} {w : World} {K : PySem.W.Frag} {mg : Str → Option Value} {base : Heap}
def spPlay (K : PySem.W.Frag) (C : Addr) : Sp := fun vs H Q _ => ∃ (h l p dx c dl de r : Addr) (L : List Int) (st : Int) (cells : List Int) (evs : List Ev), vs = [.ref h, .ref p, .ref c, .ref r] ∧ Pl K C H h l p dx c dl de r L st cells evs ∧ Sep h l dl de r ∧
  1 ≤ cells.length ∧ cells.length ≤ 1000 ∧ (∀ x ∈ cells, Oct x) ∧ evs.length < 60 ∧
  ∀ (G : Hp) (L' : List Int) (st' : Int) (evs' : List Ev), Frm [h, l, dl, de, r] H G → Pl K C G h l p dx c dl de r L' st' cells evs' → evs'.length ≤ evs.length + 1 → Q (.bl true) G
theorem ok_play {C f fD fP fO fL mL mP mF : Addr} {fd fdD fdP fdO fdL dL dP dF : FuncData} {k : Nat} (F : Fun K "_law_play" "_law_play" sPlay f fd) (FD : Fun K "_law_draw" "_law_draw" sDraw fD fdD) (FP : Fun K "_law_pick" "_law_pick" sPick fP fdP)
    (FO : Fun K "_law_octet" "_law_octet" sOctet fO fdO) (FL : Fun K "_law_last" "_law_last" sLast fL fdL) (T : DTxt K mg C)
    (ML : Meth K C "look" mL) (MP : Meth K C "put" mP) (MF : Meth K C "flush" mF) (FmL : Fun K "look" "Disk.look" sLook mL dL) (FmP : Fun K "put" "Disk.put" sPut mP dP) (FmF : Fun K "flush" "Disk.flush" sFlush mF dF)
    (bD : Binds K fdD ["heap", "many"] []) (bP : Binds K fdP ["heap", "some"] []) (bO : Binds K fdO ["heap"] []) (bL : Binds K fdL ["events", "at", "old"] []) (bmL : Binds K dL ["self", "at"] []) (bmP : Binds K dP ["self", "at", "octet"] []) (bmF : Binds K dF ["self"] [])
    (kL : KBn K dL ["self", "at"] 1 ["at"] (· ++ ·) (· ++ ·)) (kP : KBn K dP ["self", "at", "octet"] 1 ["octet", "at"] (fun a b => a ++ b.reverse) (fun a b => a ++ b.reverse))
    (gD : mg "_law_draw" = some (.ref fD)) (gP : mg "_law_pick" = some (.ref fP)) (gO : mg "_law_octet" = some (.ref fO)) (gL : mg "_law_last" = some (.ref fL))
    (ml : mg "len" = none) (mi : mg "int" = none) (mr : mg "range" = none) (mp : mg "repr" = none) :
    FnG P w K mg base (k + 1 + 1 + 1 + 1) f fd ["heap", "disk", "cells", "events"] (spPlay K C) := by
  have GD : FnOk P w K mg base CX0 (k + 1 + 1 + 1) fD fdD ["heap", "many"] spDraw := ok_draw FD mi
  have GO : FnOk P w K mg base CX0 (k + 1 + 1 + 1) fO fdO ["heap"] spOctet := ok_octet FO FD FP bD bP gD gP ml mi
  have GL : FnOk P w K mg base CX0 (k + 1 + 1 + 1) fL fdL ["events", "at", "old"] (spLast K) := ok_last FL mr ml
  have HL : FnOk P w K mg base CX0 (k + 1 + 1 + 1) mL dL ["self", "at"] (spLook K C) := ok_look FmL T
  have HP : FnOk P w K mg base CX0 (k + 1 + 1 + 1) mP dP ["self", "at", "octet"] (spPut K C) := ok_put FmP T
  have HF : FnOk P w K mg base CX0 (k + 1 + 1 + 1) mF dF ["self"] (spFlush K C) := ok_flush FmF T
  refine okG F scPlay (fun vs H Q E h => ?_) (fun cdv A outer s H vs Q E hrg h => ?_)
  · obtain ⟨h, l, p, dx, c, dl, de, r, L, st, cells, evs, rfl, _⟩ := h
    rfl
  · obtain ⟨h, l, p, dx, c, dl, de, r, L, st, cells, evs, rfl, pl, sp, hn1, hn, hco, hel, q⟩ := h
    have hr := hrg.rm
    have hgd := hrg.gd
    refine blk_cons (ps_par (i := 4) (j := 5) rfl scPlay.nd rfl rfl (by decide) rfl rfl (pa_cons (pe_callB call_len_seq (by rfl) ml PySem.boot_len (pa_cons (pv 2) pa_nil)) (pa_cons (pe_call GD hr (by rfl) gD FD.kp bD .nil pass0 (pa_cons (pv 0) (pa_cons pe_int pa_nil))) pa_nil)) (by rfl)) ?_
    refine blk_cons (ps_if (pt_cmpR op_eq (pv 5) pe_int (nomark _))
      (pss_cons (ps_if (pt_cmpR op_notN (pe_meth0 (pv 1) T.cl MF HF hr bmF .nil pass0) pe_non (nomark _)) (pss_one (ps_ret pe_bl)) pss_nil)
      (pss_one (ps_expr (pe_bm PySem.F.plainAttrs_list PySem.F.slot_list_append PySem.F.type_list_append mt_append (pv 3) (pa_cons pe_non pa_nil)))))
      (pss_one (ps_if (pt_cmpR op_lt (pv 5) pe_int (nomark _))
        (pss_cons (ps_set (i := 6) scPlay.nd rfl (.inl rfl) (pe_ifExp (PW.pt (pw_or (pt_cmpR op_gt (pv 5) pe_int (nomark _)) (pw_or (pt_cmpR (op_eqD hr.units) (pv 3) (pe_lst pa_nil) (nomark _)) (pw_or1 (pt_cmpR op_isN (pe_ix ix_list (pv 3) (pe_un un_neg pe_int) (fun _ _ => rfl)) pe_non (nomark _))))))
            (pe_call GD hr (by rfl) gD FD.kp bD .nil pass0 (pa_cons (pv 0) (pa_cons (pv 4) pa_nil)))
            (pe_ix ix_tup (pe_ix ix_list (pv 3) (pe_un un_neg pe_int) (fun _ _ => rfl)) pe_int (fun _ _ => rfl))))
        (pss_cons (ps_set (i := 7) scPlay.nd rfl (.inl rfl) (pe_call GO hr (by rfl) gO FO.kp bO .nil pass0 (pa_cons (pv 0) pa_nil)))
        (pss_cons (ps_set (i := 8) scPlay.nd rfl (.inl rfl) (pe_ifExp (pt_cmpR op_gt (pv 5) pe_int (nomark _)) (pe_meth (pv 1) T.cl MP HP hr bmP .nil pass0 (pa_cons (pv 6) (pa_cons (pv 7) pa_nil)))
            (pe_methK (pv 1) T.cl MP (FnG.of HP) hrg kP (pk_cons (pv 7) (pk_cons (pv 6) pk_nil)))))
        (pss_cons (ps_expr (pe_bm PySem.F.plainAttrs_list PySem.F.slot_list_append PySem.F.type_list_append mt_append (pv 3) (pa_cons (pe_tup (pa_cons (pv 6) (pa_cons (pv 7) pa_nil))) pa_nil)))
        (pss_one (ps_if (PW.pt (pw_or (pt_cmpR op_notN (pv 8) pe_non (nomark _)) (pw_or1 (pt_cmpR op_ne (pe_meth (pv 1) T.cl ML HL hr bmL .nil pass0 (pa_cons (pv 6) pa_nil)) (pv 7) (nomark _))))) (pss_one (ps_ret pe_bl)) pss_nil)))))) pss_nil))) ?_
    refine blk_cons (ps_set (i := 6) scPlay.nd rfl (.inl rfl) (pe_call GD hr (by rfl) gD FD.kp bD .nil pass0 (pa_cons (pv 0) (pa_cons (pv 4) pa_nil)))) ?_
    refine blk_cons (ps_ret (pe_and (pe_cmpR op_eq (pe_callB call_reprI (by rfl) mp (by decide +kernel) (pa_cons (pe_meth (pv 1) T.cl ML HL hr bmL .nil pass0 (pa_cons (pv 6) pa_nil)) pa_nil))
        (pe_callB call_reprI (by rfl) mp (by decide +kernel) (pa_cons (pe_call GL hr (by rfl) gL FL.kp bL .nil pass0 (pa_cons (pv 3) (pa_cons (pv 6) (pa_cons (pe_ix ix_tup (pv 2) (pv 6) (fun _ _ => rfl)) pa_nil)))) pa_nil)) (nomark _))
      (pe_one (pe_cmpR op_eq (pe_methK (pv 1) T.cl ML (FnG.of HL) hrg kL (pk_cons (pv 6) pk_nil)) (pe_meth (pv 1) T.cl ML HL hr bmL .nil pass0 (pa_cons (pv 6) pa_nil)) (nomark _))))) ?_
    refine blk_nil ?_
    refine ⟨.ref c, rfl, c, _, rfl, .inr pl.dk.cel, .ref h, rfl, h, l, L, st, 8, rfl, pl.hv, by decide, by decide, fun G1 L1 st1 kn b1 hv1 k0 k1 => ⟨_, _, rfl, ?_⟩⟩
    have pl1 := pl.but sp b1 hv1
    have fr1 : Frm [h, l, dl, de, r] H G1 := .but pl.hv b1 (by simp) (by simp)
    have nol : dl ∉ [r] ∧ de ∉ [r] ∧ h ∉ [r] ∧ l ∉ [r] := ⟨fun z => sp.n7 (List.mem_singleton.mp z).symm, fun z => sp.n8 (List.mem_singleton.mp z).symm, fun z => sp.n5 (List.mem_singleton.mp z).symm, fun z => sp.n6 (List.mem_singleton.mp z).symm⟩
    have nod : r ∉ [dl, de] ∧ h ∉ [dl, de] ∧ l ∉ [dl, de] := by
      refine ⟨fun z => ?_, fun z => ?_, fun z => ?_⟩
      · exact (List.mem_cons.mp z).elim sp.n7 fun z => sp.n8 (List.mem_singleton.mp z)
      · exact (List.mem_cons.mp z).elim (fun z => sp.n1 z.symm) fun z => sp.n3 (List.mem_singleton.mp z).symm
      · exact (List.mem_cons.mp z).elim (fun z => sp.n2 z.symm) fun z => sp.n4 (List.mem_singleton.mp z).symm
    dsimp only [gName]
    refine seq_out (t := tIfS _ _ _) (fun σ' G' => ∃ (y6 y7 y8 : Option V) (evs' : List Ev) (L' : List Int) (st' : Int), σ' = [some (.ref h), some (.ref p), some (.ref c), some (.ref r), some (.int ((cells.map V.int).length : Int)), some (.int kn), y6, y7, y8] ∧
      Pl K C G' h l p dx c dl de r L' st' cells evs' ∧ Frm [h, l, dl, de, r] H G' ∧ evs'.length ≤ evs.length + 1) (fun N hN => ?_) (fun σ' G' hR => ?_)
    · refine ⟨_, rfl, rfl, _, rfl, ite2 (fun _ => ?_) (fun _ => ?_)⟩
      · -- flush
        refine ⟨.ref p, rfl, p, dx, _, rfl, pl1.dk.obj, df_no _ _ _ (by decide +kernel) (by decide +kernel) (by decide +kernel), p, dx, c, dl, de, cells, _, evs, rfl, pl1.dk, by omega, fun G2 f2 d2 => ⟨rfl, _, rfl, iteF ?_⟩⟩
        obtain ⟨us, hr1, hd1⟩ := pl1.run
        have hr2 := f2.ks _ _ nod.1 hr1
        have hd2 := dpAll_keep f2.kt _ _ (noList_ev evs) hd1
        refine ⟨.ref r, rfl, .inl ⟨rfl, _, sqL hr2⟩, r, us, _, rfl, rfl, hr2, ?_, ?_⟩
        · rw [dpAll_len hd2, List.length_map]
          exact small1000 (by omega)
        have f3 : Frm [r] G2 (upd G2 r (.lst (us ++ [.non]))) := .put hr2 (by simp)
        refine hN _ _ ⟨_, _, _, evs ++ [none], L1, st1, rfl, ⟨Hv.frm (Hv.frm hv1 f2 nod.2.1 nod.2.2) f3 nol.2.2.1 nol.2.2.2, ?_, ⟨_, upd_same, ?_⟩, pl1.ev.snoc (fun _ _ z => nomatch z) (by omega)⟩, ?_, ?_⟩
        · rw [replay_snoc]
          exact d2.frm f3 nol.1 nol.2.1
        · rw [List.map_append]
          exact dpAll_snoc (dpAll_keep f3.kt _ _ (noList_ev evs) hd2) .non
        · exact (fr1.trans (f2.mono (by simp))).trans (f3.mono (by simp))
        · rw [List.length_append]
          exact Nat.le_refl _
      refine ⟨_, rfl, _, _, rfl, rfl, _, rfl, ite2 (fun _ => ?_) (fun _ => ?_)⟩
      · -- a put: its place
        dsimp only [gName]
        refine seq_out (t := tAsg _ _) (fun σ' G' => ∃ (a : Nat) (L' : List Int) (st' : Int), a < cells.length ∧ σ' = [some (.ref h), some (.ref p), some (.ref c), some (.ref r), some (.int ((cells.map V.int).length : Int)), some (.int kn), some (.int (a : Int)), none, none] ∧
          Pl K C G' h l p dx c dl de r L' st' cells evs ∧ Frm [h, l, dl, de, r] H G') (fun N2 hN2 => ?_) (fun σ' G' hR => ?_)
        · have draw : ∀ G2, Same G1 G2 → ∃ (h0 l0 : Addr) (L0 : List Int) (st0 m : Int), [V.ref h, V.int ((cells.map V.int).length : Int)] = [V.ref h0, V.int m] ∧ Hv G2 h0 l0 L0 st0 ∧ 0 < m ∧ m < 1000000000 ∧
              ∀ (G : Hp) (L' : List Int) (st' r0 : Int), But h0 l0 G2 G → Hv G h0 l0 L' st' → 0 ≤ r0 → r0 < m → N2 [some (.ref h), some (.ref p), some (.ref c), some (.ref r), some (.int ((cells.map V.int).length : Int)), some (.int kn), some (.int r0), none, none] G := fun G2 s2 => by
            refine ⟨h, l, L1, st1, _, rfl, hv1.same s2, by rw [List.length_map]; omega, by rw [List.length_map]; omega, fun G L' st' r0 b hv r1 r2 => ?_⟩
            obtain ⟨a, rfl⟩ := Int.eq_ofNat_of_zero_le r1
            rw [List.length_map] at r2
            exact hN2 _ _ ⟨a, L', st', by omega, rfl, (pl1.same s2).but sp b hv, (fr1.trans (.same s2)).trans (.but (hv1.same s2) b (by simp) (by simp))⟩
          obtain ⟨us, hr1, hd1⟩ := pl1.run
          refine ⟨_, rfl, _, _, rfl, rfl, _, rfl, ite2 (fun _ => ?_) (fun _ => ?_)⟩
          · exact ⟨.ref h, rfl, _, rfl, draw G1 (Same.refl _)⟩
          refine ⟨.ref r, rfl, Nat.zero_le _, fun q1 nq1 => ⟨_, _, .lst (sqL ((upd_ne (ne_of_none hr1 nq1)).trans hr1)) (dpAll_same (same_new nq1) _ _ hd1), .lst (sqL upd_same) .nil, fine_shaped (fine_evs pl1.ev hn).1 (fine_evs pl1.ev hn).2.1, rfl, _, rfl, ?_⟩⟩
          have s1 : Same G1 (upd G1 q1 (.lst [])) := same_new nq1
          generalize upd G1 q1 (.lst []) = G2 at s1 ⊢
          rw [eqv_nilD]
          rcases List.eq_nil_or_concat evs with e | ⟨ev0, e, ee⟩
          · subst e
            exact iteT ⟨.ref h, rfl, _, rfl, draw G2 s1⟩
          rw [List.concat_eq_append] at ee
          subst ee
          have hd1' := hd1
          rw [List.map_append] at hd1'
          obtain ⟨us0, v, rfl, hd0, dv⟩ := dpAll_last hd1'
          have e0 : ((ev0 ++ [e]).map evD).isEmpty = false := by
            rw [List.map_append]
            cases ev0.map evD <;> rfl
          rw [e0]
          refine iteF ⟨.ref r, rfl, 1, rfl, r, _, -1, _, rfl, rfl, sqL (s1 _ _ hr1), atI_last _ _, ?_⟩
          cases e with
          | none =>
            obtain rfl := ev_none dv
            exact ⟨rfl, _, rfl, iteT ⟨.ref h, rfl, _, rfl, draw G2 s1⟩⟩
          | some bo =>
            obtain ⟨b, o⟩ := bo
            obtain ⟨tt, rfl, htt⟩ := ev_some dv
            refine ⟨rfl, _, rfl, iteF ⟨.ref r, rfl, 1, rfl, r, _, -1, _, rfl, rfl, sqL (s1 _ _ hr1), atI_last _ _, tt, _, 0, .int (b : Int), rfl, rfl, same_seqT s1 htt, atI_nat (j := 0) rfl, ?_⟩⟩
            exact hN2 _ _ ⟨b, L1, st1, pl1.ev.at_ b o (by simp), rfl, pl1.same s1, fr1.trans (.same s1)⟩
        obtain ⟨a, L2, st2, ha, rfl, pl2, fr2⟩ := hR
        -- octet
        refine ⟨.ref h, rfl, h, l, L2, st2, rfl, pl2.hv, fun G3 L3 st3 o b3 hv3 o0 o1 => ?_⟩
        have pl3 := pl2.but sp b3 hv3
        have fr3 : Frm [h, l, dl, de, r] H G3 := fr2.trans (.but pl2.hv b3 (by simp) (by simp))
        have hap : a < (replay cells evs).length := by
          rw [replay_len]
          exact ha
        -- told
        dsimp only [gName]
        refine seq_out (t := tAsg _ _) (fun σ' G' => σ' = [some (.ref h), some (.ref p), some (.ref c), some (.ref r), some (.int ((cells.map V.int).length : Int)), some (.int kn), some (.int (a : Int)), some (.int o), some .non] ∧
          Frm [dl, de] G3 G' ∧ DiskAt K C G' p dx c dl de cells ((replay cells evs).set a o) (evs ++ [some (a, o)])) (fun N3 hN3 => ?_) (fun σ' G' hR => ?_)
        · refine ⟨_, rfl, _, _, rfl, rfl, _, rfl, ite2 (fun _ => ?_) (fun _ => ?_)⟩
          · exact ⟨.ref p, rfl, p, dx, _, rfl, pl3.dk.obj, df_no _ _ _ (by decide +kernel) (by decide +kernel) (by decide +kernel), _, rfl, _, rfl, p, dx, c, dl, de, cells, _, evs, a, o, rfl, pl3.dk, hap, by omega, fun G4 f4 d4 => hN3 _ _ ⟨rfl, f4, d4⟩⟩
          · exact ⟨.ref p, rfl, p, dx, _, rfl, pl3.dk.obj, df_no _ _ _ (by decide +kernel) (by decide +kernel) (by decide +kernel), _, rfl, _, rfl, rfl, p, dx, c, dl, de, cells, _, evs, a, o, rfl, pl3.dk, hap, by omega, fun G4 f4 d4 => hN3 _ _ ⟨rfl, f4, d4⟩⟩
        obtain ⟨rfl, f4, d4⟩ := hR
        -- events.append((at, octet))
        obtain ⟨us, hr3, hd3⟩ := pl3.run
        have hr4 := f4.ks _ _ nod.1 hr3
        have hd4 := dpAll_keep f4.kt _ _ (noList_ev evs) hd3
        refine ⟨.ref r, rfl, .inl ⟨rfl, _, sqL hr4⟩, _, rfl, _, rfl, by show 2 ≤ sizeLine; decide, fun tt nt => ⟨r, us, _, rfl, rfl, (upd_ne (ne_of_none hr4 nt)).trans hr4, ?_, ?_⟩⟩
        · rw [dpAll_len hd4, List.length_map]
          exact small1000 (by omega)
        have f5 : Frm [r] G' (upd (upd G' tt (.tup [.int (a : Int), .int o])) r (.lst (us ++ [.ref tt]))) := (Frm.new nt).trans (.put ((upd_ne (ne_of_none hr4 nt)).trans hr4) (by simp))
        have ntr : tt ≠ r := (ne_of_none hr4 nt).symm
        have d5 := d4.frm f5 nol.1 nol.2.1
        have pl5 : Pl K C (upd (upd G' tt (.tup [.int (a : Int), .int o])) r (.lst (us ++ [.ref tt]))) h l p dx c dl de r L3 st3 cells (evs ++ [some (a, o)]) := by
          refine ⟨Hv.frm (Hv.frm hv3 f4 nod.2.1 nod.2.2) f5 nol.2.2.1 nol.2.2.2, ?_, ⟨_, upd_same, ?_⟩, pl3.ev.snoc (fun a' o' z => ?_) (by omega)⟩
          · rw [replay_snoc]
            exact d5
          · rw [List.map_append]
            exact dpAll_snoc (dpAll_keep f5.kt _ _ (noList_ev evs) hd4) (.tup (sqT ((upd_ne ntr).trans upd_same)) (.cons (.int _) (.cons (.int _) .nil)))
          · cases z
            exact ⟨ha, o0, o1⟩
        have fr5 := (fr3.trans (f4.mono (by simp))).trans (f5.mono (by simp))
        generalize upd (upd G' tt (.tup [.int (a : Int), .int o])) r (.lst (us ++ [.ref tt])) = G5 at d5 pl5 fr5 ⊢
        -- if told is not None or disk.look(at) != octet
        refine ⟨_, rfl, rfl, _, rfl, iteF ?_⟩
        refine ⟨.ref p, rfl, p, dx, _, rfl, d5.obj, df_no _ _ _ (by decide +kernel) (by decide +kernel) (by decide +kernel), _, rfl, p, dx, c, dl, de, cells, _, _, a, o, rfl, d5, List.getElem?_set_self hap, _, rfl, rfl, _, rfl, ?_⟩
        rw [decide_eq_true rfl]
        exact iteF (hN _ _ ⟨_, _, _, evs ++ [some (a, o)], L3, st3, rfl, pl5, fr5, by rw [List.length_append]; exact Nat.le_refl _⟩)
      · exact hN _ _ ⟨_, _, _, evs, L1, st1, rfl, pl1, fr1, Nat.le_succ _⟩
    obtain ⟨y6, y7, y8, evs', L2, st2, rfl, pl2, fr2, hl2⟩ := hR
    -- at = _law_draw(heap, many)
    refine ⟨.ref h, rfl, _, rfl, h, l, L2, st2, _, rfl, pl2.hv, by rw [List.length_map]; omega, by rw [List.length_map]; omega, fun G3 L3 st3 r3 b3 hv3 r30 r31 => ?_⟩
    obtain ⟨a, rfl⟩ := Int.eq_ofNat_of_zero_le r30
    rw [List.length_map] at r31
    have ha : a < cells.length := by omega
    have pl3 := pl2.but sp b3 hv3
    have fr3 := fr2.trans (.but pl2.hv b3 (by simp) (by simp))
    have hca : cells[a]? = some cells[a] := List.getElem?_eq_getElem ha
    have hva := replay_get hca evs'
    have hoct : Oct (lastOf evs' a cells[a]) := last_oct (hco _ (List.getElem_mem ha)) pl3.ev.oc
    have hlog : (lastOf evs' a cells[a]).natAbs.log2 < 1920 := Flt.log2_lt_of (by decide) (Nat.lt_of_lt_of_le (oct_nat hoct) (by decide))
    obtain ⟨us, hr3, hd3⟩ := pl3.run
    refine ⟨.ref p, rfl, p, dx, _, rfl, pl3.dk.obj, df_no _ _ _ (by decide +kernel) (by decide +kernel) (by decide +kernel), _, rfl, p, dx, c, dl, de, cells, _, evs', a, _, rfl, pl3.dk, hva, _, rfl, hlog, ?_⟩
    refine ⟨.ref r, rfl, _, rfl, .ref c, rfl, _, rfl, c, _, _, .int cells[a], rfl, rfl, pl3.dk.cel, atI_nat (by rw [List.getElem?_map, hca]; rfl), r, us, evs', a, cells[a], rfl, .inl (sqL hr3), hd3, by omega, _, rfl, hlog, rfl, _, rfl, ?_⟩
    rw [decide_eq_true rfl]
    refine iteT ?_
    refine ⟨.ref p, rfl, p, dx, _, rfl, pl3.dk.obj, df_no _ _ _ (by decide +kernel) (by decide +kernel) (by decide +kernel), _, rfl, rfl, p, dx, c, dl, de, cells, _, evs', a, _, rfl, pl3.dk, hva, ?_⟩
    refine ⟨.ref p, rfl, p, dx, _, rfl, pl3.dk.obj, df_no _ _ _ (by decide +kernel) (by decide +kernel) (by decide +kernel), _, rfl, p, dx, c, dl, de, cells, _, evs', a, _, rfl, pl3.dk, hva, rfl, ?_⟩
    rw [decide_eq_true rfl]
    exact q _ L3 st3 evs' fr3 pl3 hl2
end
end K9
namespace K9
open PySem PySem.Spec PyProof.Rows L2 Gd
/-- what is told of the class Refused -/
structure RTxt (K : PySem.W.Frag) (mg : Str → Option Value) (CR fR : Addr) : Prop where
  ox : OexC K CR
  nW : PySem.W.findIn K (.ref CR) "word" = some none
  iC : PySem.W.findIn K (.ref CR) "__init__" = some (some (.ref fR))
  tI : PySem.W.typeIn K (.ref fR) = some (.type "function")
  gR : mg "Refused" = some (.ref CR)
abbrev xdW : HO := .xd [(("word" : Str), .str "cells")]
section
variable {P : Program} {w : World} {K : PySem.W.Frag} {mg : Str → Option Value} {base : Heap}
def spIRef (K : PySem.W.Frag) (C : Addr) : Sp := fun vs H Q _ => ∃ (a : Addr) (z : Str), vs = [.ref a, .str z] ∧ H a = some (exo a C none) ∧ ∀ dx, H dx = none → dx ≠ a → Q .non (upd (upd H dx (exd dx [("word", .str z)])) a (exo a C (some dx)))
theorem ok_iref {f C : Addr} {fd : FuncData} {k : Nat} (F : Fun K "__init__" "Refused.__init__" sIRef f fd) (T : RTxt K mg C f) : FnOk P w K mg base CX0 (k + 1) f fd ["self", "word"] (spIRef K C) := by
  refine F.ok scIRef (fun vs H Q E h => ?_) (fun cdv A outer s H vs Q E hr h => ?_)
  · obtain ⟨a, z, rfl, _⟩ := h
    rfl
  · obtain ⟨a, z, rfl, ha, q⟩ := h
    refine blk_cons (ps_ost (pv 0) (pv 1)) ?_
    refine blk_nil ?_
    exact ⟨_, rfl, _, rfl, a, C, rfl, T.ox, T.nW, .inl ⟨ha, fun dx h1 h2 => q dx h1 h2⟩⟩
/-! ### __init__ of a disk, of any value -/
def spInitX (K : PySem.W.Frag) (C CR : Addr) : Sp := fun vs H Q E => ∃ (p dx : Addr) (x : V) (b : Bool), vs = [.ref p, x] ∧ H p = some (.ins C dx []) ∧ CellsV K H x b ∧
  (b = true → ∃ (c : Addr) (ns : List Int), x = .ref c ∧ SqT K H c (ns.map V.int) ∧ ∀ G l e, (∀ b o, b ≠ p → H b = some o → G b = some o) → H l = none → H e = none → DiskAt K C G p dx c l e ns ns [] → Q .non G) ∧
  (b = false → ∀ d G, H d = none → Same H G → G d = some xdW → E (.ref CR) (some d) G)
theorem ok_initX {f C CR fC fR : Addr} {fd fdC fdR : FuncData} {k : Nat} (F : Fun K "__init__" "Disk.__init__" sInit f fd) (T : DTxt K mg C) (FC : Fun K "are_cells" "are_cells" sCells fC fdC) (bC : Binds K fdC ["value"] []) (gC : mg "are_cells" = some (.ref fC))
    (GC : FnOk P w K mg base CX0 (k + 1 + 1 + 1) fC fdC ["value"] (spCells K)) (FR : Fun K "__init__" "Refused.__init__" sIRef fR fdR) (TR : RTxt K mg CR fR) (bR : Binds K fdR ["self", "word"] []) (mL : mg "list" = none) : FnOk P w K mg base (L2.CX P w) (k + 1 + 1 + 1 + 1) f fd ["self", "cells"] (spInitX K C CR) := by
  have GR : FnOk P w K mg base CX0 (k + 1 + 1) fR fdR ["self", "word"] (spIRef K CR) := ok_iref FR TR
  refine F.okX scInit (fun vs H Q E h => ?_) (fun cdv A outer s H vs Q E hr h => ?_)
  · obtain ⟨p, dx, x, b, rfl, _⟩ := h
    rfl
  · obtain ⟨p, dx, x, b, rfl, hp, hc, qT, qF⟩ := h
    refine blk_cons (ps_if (pt_not (pt_val (pe_call GC hr (by rfl) gC FC.kp bC .nil pass0 (pa_cons (pv 1) pa_nil)))) (pss_one (ps_raise rfl (takes_of rfl rfl rfl rfl) (pmk_oex TR.ox TR.iC TR.tI GR hr bR .nil pass0 (by rfl) TR.gR (pa_cons pe_str pa_nil)))) pss_nil) ?_
    refine blk_cons (ps_fld (pv 0) (pv 1) rfl) ?_
    refine blk_cons (ps_fld (pv 0) (pe_callTy call_list_of (by rfl) mL (by decide +kernel) (pa_cons (pv 1) pa_nil)) rfl) ?_
    refine blk_cons (ps_fld (pv 0) (pe_lst pa_nil) rfl) ?_
    refine blk_nil ?_
    refine ⟨_, rfl, x, b, rfl, hc, fun G1 s1 => ⟨_, rfl, ?_⟩⟩
    cases b with
    | false =>
      refine iteT ⟨by show 1 ≤ 1000; decide, fun a na => ⟨a, _, rfl, upd_same, fun dx2 n1 n2 => ⟨rfl, dx2, [("word", .str "cells")], upd_same, (upd_ne n2).trans upd_same, ?_, ?_⟩⟩⟩
      · exact (upd_ne n2).symm.trans n1
      · have n3 : G1 dx2 = none := (upd_ne n2).symm.trans n1
        refine qF rfl dx2 _ (s1.free n3) (fun b o e => ?_) upd_same
        have e1 := s1 _ _ e
        have ba : b ≠ a := ne_of_none e1 na
        have bd : b ≠ dx2 := ne_of_none e1 n3
        rw [upd_ne bd, del_ne ba, upd_ne ba, upd_ne bd, upd_ne ba]
        exact e1
    | true =>
      obtain ⟨c, ns, rfl, ht, q⟩ := qT rfl
      refine iteF ?_
      have hp1 := s1 _ _ hp
      have ht1 := same_seqT s1 ht
      have ncp : ∀ {o : HO} {G : Hp}, G p = some (.ins C dx []) → SqT K G c (ns.map V.int) → SqT K (upd G p o) c (ns.map V.int) := fun {o G} e h => by
        rcases h with (z | ⟨o', z⟩) | z
        · exact .inl (.inl ((upd_ne (ne_of z e (by intro q; cases q))).trans z))
        · exact .inl (.inr ⟨o', (upd_ne (ne_of z e (by intro q; cases q))).trans z⟩)
        · exact .inr z
      refine ⟨_, rfl, _, rfl, p, C, dx, _, rfl, hp1, T.cl, T.nC, by show 0 < 1000; decide, ?_⟩
      have ht2 := ncp (o := .ins C dx (putF "cells" (.ref c) [])) hp1 ht1
      refine ⟨.ref c, rfl, c, _, rfl, .inr ht2, fun l nl => ⟨_, rfl, p, C, dx, _, rfl, (upd_ne (ne_of_none upd_same nl)).trans upd_same, T.cl, T.nP, by show 1 < 1000; decide, ?_⟩⟩
      refine ⟨Nat.zero_le _, fun e ne => ?_⟩
      have npl : p ≠ l := ne_of_none upd_same nl
      have npe : p ≠ e := ne_of_none upd_same ne
      have nle : l ≠ e := by
        have z : (upd (upd (upd G1 p (.ins C dx (putF "cells" (.ref c) []))) l (.lst (ns.map V.int))) p (.ins C dx (putF "present" (.ref l) (putF "cells" (.ref c) [])))) l = some (.lst (ns.map V.int)) := (upd_ne npl.symm).trans upd_same
        exact ne_of_none z ne
      refine ⟨_, rfl, p, C, dx, _, rfl, (upd_ne npe).trans upd_same, T.cl, T.nH, Nat.lt_of_le_of_lt (len_putF _ _ _) (by show 2 < 1000; decide), ?_⟩
      have nl0 : H l = none := by
        cases z : H l with
        | none => rfl
        | some o => exact nomatch ((upd_ne npl.symm).trans (s1 _ _ z)).symm.trans nl
      have ne0 : H e = none := by
        cases z : H e with
        | none => rfl
        | some o => exact nomatch ((upd_ne npe.symm).trans ((upd_ne (Ne.symm nle)).trans ((upd_ne npe.symm).trans (s1 _ _ z)))).symm.trans ne
      have keep : ∀ b o, b ≠ p → H b = some o → (upd (upd (upd (upd (upd G1 p (.ins C dx (putF "cells" (.ref c) []))) l (.lst (ns.map V.int))) p (.ins C dx (putF "present" (.ref l) (putF "cells" (.ref c) [])))) e (.lst [])) p (.ins C dx (df c l e))) b = some o := fun b o hb z =>
        (upd_ne hb).trans ((upd_ne (ne_of_none z ne0)).trans ((upd_ne hb).trans ((upd_ne (ne_of_none z nl0)).trans ((upd_ne hb).trans (s1 _ _ z)))))
      refine q _ l e keep nl0 ne0 ⟨upd_same, ?_, ?_, ⟨[], (upd_ne npe.symm).trans upd_same, .nil⟩, nle⟩
      · rcases ht with (z | ⟨o', z⟩) | z
        · exact .inl (.inl (keep _ _ (ne_of z hp (by intro q; cases q)) z))
        · exact .inl (.inr ⟨o', keep _ _ (ne_of z hp (by intro q; cases q)) z⟩)
        · exact .inr z
      · rw [upd_ne npl.symm, upd_ne nle, upd_ne npl.symm, upd_same]
end
end K9
namespace Gd
open PySem PySem.Spec PyProof.Rows L2
/-- isinstance(e, c), e the error that the suite holds; its class is told by the reading -/
theorem call_isE3 {X : Cx} {a D : Addr} {cls : Value} {oe : Obj} {d : Option Addr} {pn : List (Addr × Obj)} (T : L2.ExcC X.K D) (hz : Zc cls d oe) (hf : ∃ vs, oe.data = .fields vs) :
    CallR (X.suite a ((a, oe) :: pn)) (.builtin "isinstance") (fun xs H Q => cls = .ref D ∧ ∃ (c : V) (u : Value) (b : Bool), xs = [.ref a, c] ∧ ClsV c u ∧ PySem.W.kitOne X.K (.ref D) u = some b ∧ (d = none ∨ ∃ dd fs, d = some dd ∧ H dd = some (.xd fs) ∧ fs.lookup ("__class__" : Str) = none) ∧ Q (.bl b) H) := by
  intro pins s σ H xs us Q I r h
  obtain ⟨e, h⟩ := h
  subst e
  exact call_isE2 T hz hf pins s σ H xs us Q I r h
/-- a statement's reading, kept shut -/
def tWr (t : TS) : TS := t
theorem ps_wr {X : Cx} {st : Stmt} {t : TS} (h : PS X st t) : PS X st (tWr t) := h
end Gd
namespace K9
open PySem PySem.Spec PyProof.Rows L2 Gd
/-- what is told of the errors -/
structure ETxt (K : PySem.W.Frag) (mg : Str → Option Value) (CR CD CB CN : Addr) : Prop where
  gD : mg "DeskError" = some (.ref CD)
  gB : mg "Broken" = some (.ref CB)
  gN : mg "InvalidNumber" = some (.ref CN)
  exm : PySem.W.exmOne K (.ref CR) (.ref CD) = some true
  exr : PySem.W.exmOne K (.ref CR) (.ref CR) = some true
  isR : PySem.W.kitOne K (.ref CR) (.ref CR) = some true
  isB : PySem.W.kitOne K (.ref CR) (.ref CB) = some false
  isN : PySem.W.kitOne K (.ref CR) (.ref CN) = some false
  exC : ExcC K CR
  xf : XfC K CR
/-- a value that is no cells, whatever is drawn -/
def Od (K : PySem.W.Frag) (h l : Addr) (H : Hp) (x : V) : Prop := ∀ G, But h l H G → CellsV K G x false
theorem Od.mono {K : PySem.W.Frag} {h l : Addr} {H G : Hp} {x : V} (d : Od K h l H x) (b : But h l H G) : Od K h l G x := fun J c => d J (b.trans c)
theorem od_snoc {K : PySem.W.Frag} {h l : Addr} {H G : Hp} {xs : List V} {x : V} (d : ∀ y ∈ xs, Od K h l H y) (b : But h l H G) (o : Od K h l G x) : ∀ y ∈ xs ++ [x], Od K h l G y := fun y hy => by
  rcases List.mem_append.mp hy with z | z
  · exact (d y z).mono b
  · exact List.mem_singleton.mp z ▸ o
theorem num_int {K : PySem.W.Frag} {H : Hp} (lim i : Int) : NumV K H lim (.int i) (decide (0 ≤ i ∧ i < lim)) := .inl ⟨i, rfl, rfl⟩
/-- a tuple, no cells -/
theorem od_tup {K : PySem.W.Frag} {h l : Addr} {H : Hp} {p : Addr} {xs : List V} {bs : List Bool} (e : H p = some (.tup xs)) (n1 : p ≠ h) (n2 : p ≠ l) (hl : xs.length ≤ 30000) (hb : ∀ G, But h l H G → NumVs K G 256 xs bs) (z : (decide (1 ≤ xs.length ∧ xs.length ≤ 20000) && bs.all id) = false) : Od K h l H (.ref p) := fun G b => by
  have g := b _ _ n1 n2 e
  exact .inr ⟨p, xs, bs, rfl, .base (.tup g), sqT g, hl, hb G b, z.symm⟩
theorem od_lst {K : PySem.W.Frag} {h l : Addr} {H : Hp} {p : Addr} {xs : List V} (e : H p = some (.lst xs)) (n1 : p ≠ h) (n2 : p ≠ l) : Od K h l H (.ref p) := fun G b => .inl ⟨"list", .base (.lst (b _ _ n1 n2 e)), by decide +kernel, rfl⟩
theorem od_dict {K : PySem.W.Frag} {h l : Addr} {H : Hp} {p : Addr} {xs : List (Key × V)} (e : H p = some (.dK xs)) (n1 : p ≠ h) (n2 : p ≠ l) : Od K h l H (.ref p) := fun G b => .inl ⟨"dict", .base (.dK (b _ _ n1 n2 e)), by decide +kernel, rfl⟩
theorem tyT {K : PySem.W.Frag} {H : Hp} {c : Addr} {xs : List V} (h : SqT K H c xs) : TyN K H (.ref c) "tuple" := by
  rcases h with (z | ⟨o, z⟩) | ⟨o, its, n, hk, hc, _⟩
  · exact .base (.tup z)
  · exact .fTuple z
  · exact .kTuple hk hc
theorem cells_good {K : PySem.W.Frag} {H : Hp} {c : Addr} {ns : List Int} (h : SqT K H c (ns.map V.int)) (ho : ∀ n ∈ ns, Oct n) (h1 : 1 ≤ ns.length) (h2 : ns.length ≤ 20000) : CellsV K H (.ref c) true := by
  have key : ∀ l : List Int, (∀ n ∈ l, Oct n) → NumVs K H 256 (l.map V.int) (l.map fun _ => true) ∧ (l.map fun _ => true).all id = true := fun l hl => by
    induction l with
    | nil => exact ⟨.nil, rfl⟩
    | cons x r ih =>
      obtain ⟨i1, i2⟩ := ih fun n hn => hl n (List.mem_cons_of_mem _ hn)
      exact ⟨.cons (.inl ⟨x, rfl, (decide_eq_true (show 0 ≤ x ∧ x < 256 from hl x List.mem_cons_self)).symm⟩) i1, i2⟩
  obtain ⟨k1, k2⟩ := key ns ho
  refine .inr ⟨c, _, _, rfl, tyT h, h, by rw [List.length_map]; omega, k1, ?_⟩
  rw [k2, Bool.and_true, List.length_map]
  exact (decide_eq_true ⟨h1, h2⟩).symm
/-- what __init__ asks of good cells -/
theorem init_good {K : PySem.W.Frag} {C CR c p dx : Addr} {H : Hp} {ns : List Int} {Q : VK} {E : XK} (h : SqT K H c (ns.map V.int)) (ho : ∀ n ∈ ns, Oct n) (h1 : 1 ≤ ns.length) (h2 : ns.length ≤ 20000) (np : H p = none) (nd : H dx = none) (ne : dx ≠ p)
    (q : ∀ G l e, Same H G → H l = none → H e = none → l ≠ p → e ≠ p → DiskAt K C G p dx c l e ns ns [] → Q .non G) : spInitX K C CR [.ref p, .ref c] (upd (upd H dx (.own p)) p (.ins C dx [])) Q E := by
  have np2 : (upd H dx (.own p)) p = none := (upd_ne (Ne.symm ne)).trans np
  have sm : Same H (upd (upd H dx (.own p)) p (.ins C dx [])) := (same_new nd).trans (same_new np2)
  refine ⟨p, dx, .ref c, true, rfl, upd_same, cells_good (same_seqT sm h) ho h1 h2, fun _ => ⟨c, ns, rfl, same_seqT sm h, fun G l e kp nl nE d => ?_⟩, fun z => nomatch z⟩
  have nlp : l ≠ p := fun z => by
    rw [z, upd_same] at nl
    cases nl
  have nep : e ≠ p := fun z => by
    rw [z, upd_same] at nE
    cases nE
  exact q G l e (fun b o e => kp b o (ne_of_none e np) (sm _ _ e)) (sm.free nl) (sm.free nE) nlp nep d
/-- good cells, whatever is drawn -/
def Gc (h l : Addr) (H : Hp) (x : V) : Prop := ∃ (c : Addr) (ns : List Int), x = .ref c ∧ c ≠ h ∧ c ≠ l ∧ H c = some (.tup (ns.map V.int)) ∧ (∀ n ∈ ns, Oct n) ∧ 1 ≤ ns.length ∧ ns.length ≤ 300
theorem Gc.mono {h l : Addr} {H G : Hp} {x : V} (d : Gc h l H x) (b : But h l H G) : Gc h l G x := let ⟨c, ns, e, n1, n2, g, r⟩ := d; ⟨c, ns, e, n1, n2, b _ _ n1 n2 g, r⟩
theorem gc_snoc {h l : Addr} {H G : Hp} {xs : List V} {x : V} (d : ∀ y ∈ xs, Gc h l H y) (b : But h l H G) (o : Gc h l G x) : ∀ y ∈ xs ++ [x], Gc h l G y := fun y hy => by
  rcases List.mem_append.mp hy with z | z
  · exact (d y z).mono b
  · exact List.mem_singleton.mp z ▸ o
theorem gc_new {h l p : Addr} {H : Hp} {L : List Int} {st : Int} {ns : List Int} (v : Hv H h l L st) (n : H p = none) (ok : (ns.all (fun i => decide (0 ≤ i ∧ i < 256)) && decide (1 ≤ ns.length ∧ ns.length ≤ 300)) = true) : Gc h l (upd H p (.tup (ns.map V.int))) (.ref p) := by
  obtain ⟨h1, h2⟩ := Bool.and_eq_true_iff.mp ok
  have h3 := of_decide_eq_true h2
  exact ⟨p, ns, rfl, (ne_of_none v.top n).symm, (ne_of_none v.bot n).symm, upd_same, fun i hi => of_decide_eq_true (p := 0 ≤ i ∧ i < 256) (List.all_eq_true.mp h1 i hi), h3.1, h3.2⟩
section
variable {P : Program} {w : World} {K : PySem.W.Frag} {mg : Str → Option Value} {base : Heap}
def spOdds : Sp := fun vs H Q _ => ∃ (h l : Addr) (L : List Int) (st : Int), vs = [.ref h] ∧ Hv H h l L st ∧ ∀ (G : Hp) (L' : List Int) (st' : Int), But h l H G → Hv G h l L' st' → Q (.bl true) G
theorem ok_odds {C CR CD CB CN f fD fP fI fC fN fB fR mL : Addr} {fd fdD fdP fdI fdC fdN fdB fdR dL : FuncData} {k : Nat} {t1 t2 : Tok} (F : Fun K "_law_odds_right" "_law_odds_right" sOdds f fd) (FD : Fun K "_law_draw" "_law_draw" sDraw fD fdD) (FP : Fun K "_law_pick" "_law_pick" sPick fP fdP)
    (FI : Fun K "__init__" "Disk.__init__" sInit fI fdI) (T : DTxt K mg C) (M : Mk K C fI) (FC : Fun K "are_cells" "are_cells" sCells fC fdC) (FB : Fun K "is_number_below" "is_number_below" sNumB fB fdB) (FN : Fun K "is_number" "is_number" sNum fN fdN)
    (FR : Fun K "__init__" "Refused.__init__" sIRef fR fdR) (TR : RTxt K mg CR fR) (TE : ETxt K mg CR CD CB CN) (ML : Meth K C "look" mL) (FmL : Fun K "look" "Disk.look" sLook mL dL)
    (bD : Binds K fdD ["heap", "many"] []) (bP : Binds K fdP ["heap", "some"] []) (bI : Binds K fdI ["self", "cells"] []) (bC : Binds K fdC ["value"] []) (bN : Binds K fdN ["value"] []) (bB : Binds K fdB ["value", "limit"] []) (bR : Binds K fdR ["self", "word"] []) (bmL : Binds K dL ["self", "at"] [])
    (kI : KBn K fdI ["self", "cells"] 1 ["cells"] (· ++ ·) (· ++ ·))
    (gD : mg "_law_draw" = some (.ref fD)) (gP : mg "_law_pick" = some (.ref fP)) (gC : mg "are_cells" = some (.ref fC)) (gN : mg "is_number" = some (.ref fN)) (gB : mg "is_number_below" = some (.ref fB)) (gM : mg "MOST_CELLS" = some (.int 20000 t1)) (gO : mg "OCTETS" = some (.int 256 t2))
    (ml : mg "len" = none) (mi : mg "int" = none) (mr : mg "range" = none) (mI : mg "isinstance" = none) (mb : mg "bool" = none) (mt : mg "tuple" = none) (ma : mg "all" = none) (mL' : mg "list" = none) :
    FnG P w K mg base (k + 1 + 1 + 1 + 1 + 1 + 1) f fd ["heap"] spOdds := by
  have GP : FnOk P w K mg base CX0 (k + 1 + 1 + 1 + 1 + 1) fP fdP ["heap", "some"] (spPick K) := ok_pick FP FD bD gD ml mi
  have GC : FnOk P w K mg base CX0 (k + 1 + 1 + 1) fC fdC ["value"] (spCells K) := ok_cells FC FB FN bN bB gN gB gM gO mI mi mb mt ml ma
  have GI : FnOk P w K mg base (L2.CX P w) (k + 1 + 1 + 1 + 1) fI fdI ["self", "cells"] (spInitX K C CR) := ok_initX FI T FC bC gC GC FR TR bR mL'
  have HL : FnOk P w K mg base CX0 (k + 1 + 1 + 1 + 1 + 1) mL dL ["self", "at"] (spLook K C) := ok_look FmL T
  refine okG F scOdds (fun vs H Q E h => ?_) (fun cdv A outer s H vs Q E hrg h => ?_)
  · obtain ⟨h, l, L, st, rfl, _⟩ := h
    rfl
  · obtain ⟨h, l, L, st, rfl, hv, q⟩ := h
    have hr := hrg.rm
    have hgd := hrg.gd
    refine blk_cons (ps_set (i := 1) scOdds.nd rfl (.inl rfl) (pe_lst (pa_cons (pe_tup pa_nil) (pa_cons (pe_lst (pa_cons pe_int pa_nil)) (pa_cons (pe_tup (pa_cons pe_int pa_nil)) (pa_cons (pe_tup (pa_cons pe_int (pa_cons (pe_un un_neg pe_int) pa_nil))) (pa_cons (pe_tup (pa_cons pe_bl pa_nil)) (pa_cons (pe_tup (pa_cons pe_int (pa_cons pe_bl pa_nil)))
      (pa_cons (pe_tup (pa_cons pe_non pa_nil)) (pa_cons (pe_tup (pa_cons pe_str pa_nil)) (pa_cons (pe_tup (pa_cons pe_int (pa_cons (pe_tup (pa_cons pe_int pa_nil)) pa_nil))) (pa_cons pe_non (pa_cons pe_int (pa_cons pe_str (pa_cons pe_dnewK (pa_cons (pe_tup (pa_cons pe_int (pa_cons pe_int (pa_cons pe_int (pa_cons pe_int (pa_cons pe_int (pa_cons pe_int pa_nil)))))))
      (pa_cons (pe_lst (pa_cons (pe_tup (pa_cons pe_int pa_nil)) pa_nil)) pa_nil))))))))))))))))) ?_
    refine blk_cons (ps_for PassesOwn.never rfl (pi_range1 (by rfl) mr (pa_cons pe_int pa_nil)) (pg_name (i := 2) scOdds.nd rfl (.inl rfl)) (pss_one (ps_wr (ps_try_as (i := 3) rfl rfl scOdds.nd rfl rfl ⟨rfl, by decide, .inl TE.gD⟩ takes0
      (fun W pn xe tk _ => pss_cons (ps_expr (pe_makeS (E := fun σ => WE W σ) M GI hr (by rfl) T.mgC bI (fun σ => passAt tk σ) (pa_cons (pe_call GP hr (by rfl) gP FP.kp bP .nil pass0 (pa_cons (pv 0) (pa_cons (pv 1) pa_nil))) pa_nil))) (pss_one (ps_ret pe_bl)))
      (fun a oe cls d pn hz hf => pss_one (ps_if (PW.pt (pw_or (pt_not (pt_val (pe_callB (call_isE3 TE.exC hz hf) (by rfl) mI (by decide +kernel) (pa_cons (pv 3) (pa_cons (pe_glob (v := .ref CR) (by rfl) TR.gR rfl) pa_nil)))))
          (pw_or (pt_val (pe_callB (call_isE3 TE.exC hz hf) (by rfl) mI (by decide +kernel) (pa_cons (pv 3) (pa_cons (pe_glob (v := .ref CB) (by rfl) TE.gB rfl) pa_nil))))
          (pw_or (pt_val (pe_callB (call_isE3 TE.exC hz hf) (by rfl) mI (by decide +kernel) (pa_cons (pv 3) (pa_cons (pe_glob (v := .ref CN) (by rfl) TE.gN rfl) pa_nil))))
          (pw_or1 (pt_cmpR op_ne (pe_xf TE.xf TR.nW hz hf (pv 3)) pe_str (nomark _))))))) (pss_one (ps_ret pe_bl)) pss_nil)))))) ?_
    refine blk_cons (ps_set (i := 4) scOdds.nd rfl (.inl rfl) (pe_call GP hr (by rfl) gP FP.kp bP .nil pass0 (pa_cons (pv 0) (pa_cons (pe_lst (pa_cons (pe_tup (pa_cons pe_int pa_nil)) (pa_cons (pe_tup (pa_cons pe_int pa_nil)) (pa_cons (pe_tup (pa_cons pe_int (pa_cons pe_int pa_nil))) (pa_cons (pe_tup (pa_cons pe_int (pa_cons pe_int (pa_cons pe_int pa_nil)))) pa_nil))))) pa_nil)))) ?_
    refine blk_cons (ps_ret (pe_and (pe_cmpR (op_eqD hr.units) (pe_fld (pe_make M GI hr (by rfl) T.mgC bI .nil passL (pa_cons (pv 4) pa_nil)) rfl) (pv 4) (nomark _))
      (pe_one (pe_cmpR op_eq (pe_meth (pe_makeK0 M GI hr (by rfl) T.mgC kI passL (pk_cons (pv 4) pk_nil)) T.cl ML HL hr bmL .nil pass0 (pa_cons (pe_op op_sub (pe_callB call_len_seq (by rfl) ml PySem.boot_len (pa_cons (pv 4) pa_nil)) pe_int) pa_nil))
        (pe_ix ix_tup (pv 4) (pe_un un_neg pe_int) (fun _ _ => rfl)) (nomark _))))) ?_
    refine blk_nil ?_
    dsimp only [gName]
    refine seq_out (t := tAsg _ _) (fun σ' G' => ∃ (q0 : Addr) (xs : List V), σ' = [some (.ref h), some (.ref q0), none, none, none] ∧ G' q0 = some (.lst xs) ∧ xs.length = 15 ∧ q0 ≠ h ∧ q0 ≠ l ∧ Hv G' h l L st ∧ But h l H G' ∧ ∀ y ∈ xs, Od K h l G' y) (fun N hN => ?_) (fun σ' G' hR => ?_)
    · have d0 : ∀ y ∈ ([] : List V), Od K h l H y := fun y hy => absurd hy List.not_mem_nil
      refine ⟨Nat.zero_le _, fun p1 n1 => ?_⟩
      have v1 := hv.new (o := .tup []) n1
      have d1 := od_snoc d0 ((But.refl h l _).new (o := .tup []) n1) (od_tup (K := K) (bs := []) upd_same (ne_of_none hv.top n1).symm (ne_of_none hv.bot n1).symm (by show 0 ≤ 30000; decide) (fun G b => .nil) rfl)
      refine ⟨by show 1 ≤ sizeLine; decide, fun p2 n2 => ?_⟩
      have v2 := v1.new (o := .lst [.int 0]) n2
      have d2 := od_snoc d1 ((But.refl h l _).new (o := .lst [.int 0]) n2) (od_lst (K := K) upd_same (ne_of_none v1.top n2).symm (ne_of_none v1.bot n2).symm)
      refine ⟨by show 1 ≤ sizeLine; decide, fun p3 n3 => ?_⟩
      have v3 := v2.new (o := .tup [.int 256]) n3
      have d3 := od_snoc d2 ((But.refl h l _).new (o := .tup [.int 256]) n3) (od_tup (K := K) (bs := [decide ((0 : Int) ≤ (256) ∧ ((256) : Int) < 256)]) upd_same (ne_of_none v2.top n3).symm (ne_of_none v2.bot n3).symm (by show 1 ≤ 30000; decide) (fun G b => (.cons (num_int 256 (256)) .nil)) rfl)
      refine ⟨1, rfl, by show 2 ≤ sizeLine; decide, fun p4 n4 => ?_⟩
      have v4 := v3.new (o := .tup [.int 0, .int (-1)]) n4
      have d4 := od_snoc d3 ((But.refl h l _).new (o := .tup [.int 0, .int (-1)]) n4) (od_tup (K := K) (bs := [decide ((0 : Int) ≤ (0) ∧ ((0) : Int) < 256), decide ((0 : Int) ≤ (-1) ∧ ((-1) : Int) < 256)]) upd_same (ne_of_none v3.top n4).symm (ne_of_none v3.bot n4).symm (by show 2 ≤ 30000; decide) (fun G b => (.cons (num_int 256 (0)) (.cons (num_int 256 (-1)) .nil))) rfl)
      refine ⟨by show 1 ≤ sizeLine; decide, fun p5 n5 => ?_⟩
      have v5 := v4.new (o := .tup [.bl true]) n5
      have d5 := od_snoc d4 ((But.refl h l _).new (o := .tup [.bl true]) n5) (od_tup (K := K) (bs := [false]) upd_same (ne_of_none v4.top n5).symm (ne_of_none v4.bot n5).symm (by show 1 ≤ 30000; decide) (fun G b => (.cons (.inr (.inl ⟨_, rfl, rfl⟩)) .nil)) rfl)
      refine ⟨by show 2 ≤ sizeLine; decide, fun p6 n6 => ?_⟩
      have v6 := v5.new (o := .tup [.int 0, .bl false]) n6
      have d6 := od_snoc d5 ((But.refl h l _).new (o := .tup [.int 0, .bl false]) n6) (od_tup (K := K) (bs := [decide ((0 : Int) ≤ (0) ∧ ((0) : Int) < 256), false]) upd_same (ne_of_none v5.top n6).symm (ne_of_none v5.bot n6).symm (by show 2 ≤ 30000; decide) (fun G b => (.cons (num_int 256 (0)) (.cons (.inr (.inl ⟨_, rfl, rfl⟩)) .nil))) rfl)
      refine ⟨by show 1 ≤ sizeLine; decide, fun p7 n7 => ?_⟩
      have v7 := v6.new (o := .tup [.non]) n7
      have d7 := od_snoc d6 ((But.refl h l _).new (o := .tup [.non]) n7) (od_tup (K := K) (bs := [false]) upd_same (ne_of_none v6.top n7).symm (ne_of_none v6.bot n7).symm (by show 1 ≤ 30000; decide) (fun G b => (.cons (.inr (.inr ⟨"NoneType", TyN.non, by decide +kernel, rfl⟩)) .nil)) rfl)
      refine ⟨by show 1 ≤ sizeLine; decide, fun p8 n8 => ?_⟩
      have v8 := v7.new (o := .tup [.str (Str.ofString "0")]) n8
      have d8 := od_snoc d7 ((But.refl h l _).new (o := .tup [.str (Str.ofString "0")]) n8) (od_tup (K := K) (bs := [false]) upd_same (ne_of_none v7.top n8).symm (ne_of_none v7.bot n8).symm (by show 1 ≤ 30000; decide) (fun G b => (.cons (.inr (.inr ⟨"str", TyN.str _, by decide +kernel, rfl⟩)) .nil)) rfl)
      refine ⟨by show 1 ≤ sizeLine; decide, fun p9 n9 => ?_⟩
      have v9 := v8.new (o := .tup [.int 0]) n9
      have d9 : ∀ y ∈ _, Od K h l _ y := fun y hy => (d8 y hy).mono ((But.refl h l _).new (o := .tup [.int 0]) n9)
      refine ⟨by show 2 ≤ sizeLine; decide, fun p10 n10 => ?_⟩
      have v10 := v9.new (o := .tup [.int 0, .ref p9]) n10
      have d10 := od_snoc d9 ((But.refl h l _).new (o := .tup [.int 0, .ref p9]) n10) (od_tup (K := K) (bs := [decide ((0 : Int) ≤ (0) ∧ ((0) : Int) < 256), false]) upd_same (ne_of_none v9.top n10).symm (ne_of_none v9.bot n10).symm (by show 2 ≤ 30000; decide) (fun G b => (.cons (num_int 256 (0)) (.cons (.inr (.inr ⟨"tuple", .base (.tup (b _ _ (ne_of_none v8.top n9).symm (ne_of_none v8.bot n9).symm ((upd_ne (ne_of_none upd_same n10)).trans upd_same))), by decide +kernel, rfl⟩)) .nil))) rfl)
      have eNoneType := od_snoc d10 (But.refl h l _) (x := .non) (fun G b => .inl ⟨"NoneType", TyN.non, by decide +kernel, rfl⟩)
      have eint := od_snoc eNoneType (But.refl h l _) (x := .int 5) (fun G b => .inl ⟨"int", TyN.int 5, by decide +kernel, rfl⟩)
      have estr := od_snoc eint (But.refl h l _) (x := .str (Str.ofString "00")) (fun G b => .inl ⟨"str", TyN.str _, by decide +kernel, rfl⟩)
      intro p11 n11
      have v11 := v10.new (o := .dK []) n11
      have d11 := od_snoc estr ((But.refl h l _).new (o := .dK []) n11) (od_dict (K := K) upd_same (ne_of_none v10.top n11).symm (ne_of_none v10.bot n11).symm)
      refine ⟨by show 6 ≤ sizeLine; decide, fun p12 n12 => ?_⟩
      have v12 := v11.new (o := .tup [.int 3, .int 4, .int 5, .int 6, .int 7, .int 300]) n12
      have d12 := od_snoc d11 ((But.refl h l _).new (o := .tup [.int 3, .int 4, .int 5, .int 6, .int 7, .int 300]) n12) (od_tup (K := K) (bs := [decide ((0 : Int) ≤ (3) ∧ ((3) : Int) < 256), decide ((0 : Int) ≤ (4) ∧ ((4) : Int) < 256), decide ((0 : Int) ≤ (5) ∧ ((5) : Int) < 256), decide ((0 : Int) ≤ (6) ∧ ((6) : Int) < 256), decide ((0 : Int) ≤ (7) ∧ ((7) : Int) < 256), decide ((0 : Int) ≤ (300) ∧ ((300) : Int) < 256)]) upd_same (ne_of_none v11.top n12).symm (ne_of_none v11.bot n12).symm (by show 6 ≤ 30000; decide) (fun G b => (.cons (num_int 256 (3)) (.cons (num_int 256 (4)) (.cons (num_int 256 (5)) (.cons (num_int 256 (6)) (.cons (num_int 256 (7)) (.cons (num_int 256 (300)) .nil))))))) rfl)
      refine ⟨by show 1 ≤ sizeLine; decide, fun p13 n13 => ?_⟩
      have v13 := v12.new (o := .tup [.int 1]) n13
      have d13 : ∀ y ∈ _, Od K h l _ y := fun y hy => (d12 y hy).mono ((But.refl h l _).new (o := .tup [.int 1]) n13)
      refine ⟨by show 1 ≤ sizeLine; decide, fun p14 n14 => ?_⟩
      have v14 := v13.new (o := .lst [.ref p13]) n14
      have d14 := od_snoc d13 ((But.refl h l _).new (o := .lst [.ref p13]) n14) (od_lst (K := K) upd_same (ne_of_none v13.top n14).symm (ne_of_none v13.bot n14).symm)
      refine ⟨by show 15 ≤ sizeLine; decide, fun q0 nq0 => ?_⟩
      have hv1 := v14.new (o := .lst [.ref p1, .ref p2, .ref p3, .ref p4, .ref p5, .ref p6, .ref p7, .ref p8, .ref p10, .non, .int 5, .str (Str.ofString "00"), .ref p11, .ref p12, .ref p14]) nq0
      have dA : ∀ y ∈ [V.ref p1, .ref p2, .ref p3, .ref p4, .ref p5, .ref p6, .ref p7, .ref p8, .ref p10, .non, .int 5, .str (Str.ofString "00"), .ref p11, .ref p12, .ref p14], Od K h l _ y := fun y hy => (d14 y hy).mono ((But.refl h l _).new (o := .lst [.ref p1, .ref p2, .ref p3, .ref p4, .ref p5, .ref p6, .ref p7, .ref p8, .ref p10, .non, .int 5, .str (Str.ofString "00"), .ref p11, .ref p12, .ref p14]) nq0)
      have bt := (((((((((((((((But.refl h l H).new n1).new n2).new n3).new n4).new n5).new n6).new n7).new n8).new n9).new n10).new n11).new n12).new n13).new n14).new (o := .lst [.ref p1, .ref p2, .ref p3, .ref p4, .ref p5, .ref p6, .ref p7, .ref p8, .ref p10, .non, .int 5, .str (Str.ofString "00"), .ref p11, .ref p12, .ref p14]) nq0
      have nqh : q0 ≠ h := (ne_of_none v14.top nq0).symm
      have nql : q0 ≠ l := (ne_of_none v14.bot nq0).symm
      exact hN _ _ ⟨q0, _, rfl, upd_same, rfl, nqh, nql, hv1, bt, dA⟩
    obtain ⟨q0, xs, rfl, gq, xl, nqh, nql, hv0, b0, dA⟩ := hR
    -- the loop
    refine seq_out (t := tFor _ _ _) (fun σ' G' => ∃ (y2 : Option V) (L' : List Int) (st' : Int), σ' = [some (.ref h), some (.ref q0), y2, none, none] ∧ Hv G' h l L' st' ∧ But h l H G') (fun N hN => ?_) (fun σ' G1 hR => ?_)
    · refine ⟨_, rfl, by decide, by decide, for_range (lo := 0) (fun i σ G => ∃ (y2 : Option V) (L' : List Int) (st' : Int), σ = [some (.ref h), some (.ref q0), y2, none, none] ∧ Hv G h l L' st' ∧ But h l G' G)
        ⟨none, L, st, rfl, hv0, But.refl _ _ _⟩ (fun i σ G hi hP => ?_) (fun σ G hP => ?_)⟩
      · obtain ⟨y2, L1, st1, rfl, hv1, b1⟩ := hP
        have gq1 := b1 _ _ nqh nql gq
        dsimp only [tWr, gName]
        refine ⟨.ref h, rfl, .ref q0, rfl, h, l, L1, st1, q0, xs, rfl, hv1, sqL gq1, nqh, nql, by omega, by omega, fun G2 L2 st2 j x b2 hv2 hx => ?_⟩
        intro p dx np nd nep
        have np2 : (upd G2 dx (.own p)) p = none := (upd_ne (Ne.symm nep)).trans np
        have sm : Same G2 (upd (upd G2 dx (.own p)) p (.ins C dx [])) := (same_new nd).trans (same_new np2)
        refine ⟨p, dx, x, false, rfl, upd_same, dA x (List.mem_of_getElem? hx) _ ((b1.trans b2).same sm), (fun z => nomatch z), fun _ d G3 hd s3 gd => ?_⟩
        refine ⟨true, TE.exm, fun _ a na => ?_, fun z => nomatch z⟩
        refine ⟨_, rfl, rfl, .ref CR, _, true, rfl, .own CR, TE.isR, .inr ⟨d, _, rfl, gd, by decide +kernel⟩, _, rfl, iteF ?_⟩
        refine ⟨_, rfl, rfl, .ref CB, _, false, rfl, .own CB, TE.isB, .inr ⟨d, _, rfl, gd, by decide +kernel⟩, _, rfl, iteF ?_⟩
        refine ⟨_, rfl, rfl, .ref CN, _, false, rfl, .own CN, TE.isN, .inr ⟨d, _, rfl, gd, by decide +kernel⟩, _, rfl, iteF ?_⟩
        refine ⟨_, rfl, rfl, rfl, d, _, .str "cells", rfl, gd, by decide +kernel, rfl, _, rfl, ?_⟩
        rw [decide_eq_true rfl]
        exact iteF ⟨_, L2, st2, rfl, (hv2.same sm).same s3, ((b1.trans b2).same sm).same s3⟩
      · obtain ⟨y2, L1, st1, rfl, hv1, b1⟩ := hP
        exact hN _ _ ⟨_, L1, st1, rfl, hv1, b0.trans b1⟩
    obtain ⟨y2, L1, st1, rfl, hv1, b1⟩ := hR
    -- cells
    refine seq_out (t := tAsg _ _) (fun σ' G' => ∃ (c : Addr) (ns : List Int) (L' : List Int) (st' : Int), σ' = [some (.ref h), some (.ref q0), y2, none, some (.ref c)] ∧ SqT K G' c (ns.map V.int) ∧ (∀ n ∈ ns, Oct n) ∧ 1 ≤ ns.length ∧ ns.length ≤ 300 ∧ Hv G' h l L' st' ∧ But h l H G') (fun N hN => ?_) (fun σ' G2 hR => ?_)
    · have d0 : ∀ y ∈ ([] : List V), Gc h l G1 y := fun y hy => absurd hy List.not_mem_nil
      refine ⟨.ref h, rfl, by show 1 ≤ sizeLine; decide, fun p1 n1 => ?_⟩
      have v1 := hv1.new (o := .tup [.int 0]) n1
      have d1 := gc_snoc d0 ((But.refl h l _).new (o := .tup [.int 0]) n1) (gc_new (ns := [0]) hv1 n1 (by decide +kernel))
      refine ⟨by show 1 ≤ sizeLine; decide, fun p2 n2 => ?_⟩
      have v2 := v1.new (o := .tup [.int 255]) n2
      have d2 := gc_snoc d1 ((But.refl h l _).new (o := .tup [.int 255]) n2) (gc_new (ns := [255]) v1 n2 (by decide +kernel))
      refine ⟨by show 2 ≤ sizeLine; decide, fun p3 n3 => ?_⟩
      have v3 := v2.new (o := .tup [.int 0, .int 255]) n3
      have d3 := gc_snoc d2 ((But.refl h l _).new (o := .tup [.int 0, .int 255]) n3) (gc_new (ns := [0, 255]) v2 n3 (by decide +kernel))
      refine ⟨by show 3 ≤ sizeLine; decide, fun p4 n4 => ?_⟩
      have v4 := v3.new (o := .tup [.int 255, .int 0, .int 1]) n4
      have d4 := gc_snoc d3 ((But.refl h l _).new (o := .tup [.int 255, .int 0, .int 1]) n4) (gc_new (ns := [255, 0, 1]) v3 n4 (by decide +kernel))
      refine ⟨by show 4 ≤ sizeLine; decide, fun p5 n5 => ?_⟩
      have v5 := v4.new (o := .lst [.ref p1, .ref p2, .ref p3, .ref p4]) n5
      have b5 := ((((b1.new n1).new n2).new n3).new n4).new (o := .lst [.ref p1, .ref p2, .ref p3, .ref p4]) n5
      have c5 := (But.refl h l _).new (o := .lst [.ref p1, .ref p2, .ref p3, .ref p4]) n5
      refine ⟨h, l, L1, st1, p5, [.ref p1, .ref p2, .ref p3, .ref p4], rfl, v5, sqL upd_same, (ne_of_none v4.top n5).symm, (ne_of_none v4.bot n5).symm, by show 0 < 4; decide, by show 4 < 1000; decide, fun G3 L3 st3 j x b3 hv3 hx => ?_⟩
      obtain ⟨c, ns, rfl, nc1, nc2, gc, ho, hl1, hl2⟩ := ((d4 x (List.mem_of_getElem? hx)).mono c5).mono b3
      exact hN _ _ ⟨c, ns, L3, st3, rfl, sqT gc, ho, hl1, hl2, hv3, b5.trans b3⟩
    obtain ⟨c, ns, L2, st2, rfl, hc, ho, hl1, hl2, hv2, b2⟩ := hR
    have hne : ns ≠ [] := fun z => by
      rw [z] at hl1
      simp at hl1
    -- Disk(cells).cells == cells and ..
    refine ⟨_, rfl, fun p dx np nd nep => init_good hc ho hl1 (by omega) np nd nep fun G3 dl de s3 _ _ _ _ dk => ⟨rfl, ?_⟩⟩
    have hf := ints_fine (l := ns) (fun x hx => oct_nat (ho x hx)) (by omega)
    have hc3 := same_seqT s3 hc
    refine ⟨p, C, dx, _, _, rfl, dk.obj, T.cl, T.nC, df_c _ _ _, _, rfl, _, _, dp_tup hc3, dp_tup hc3, fine_shaped hf.1 hf.2.1, fine_shaped hf.1 hf.2.1, _, rfl, ?_⟩
    rw [fine_eqv hf.1]
    refine iteT ?_
    refine ⟨_, rfl, rfl, rfl, fun p2 dx2 np2 nd2 nep2 => init_good hc3 ho hl1 (by omega) np2 nd2 nep2 fun G4 dl2 de2 s4 _ _ _ _ dk2 => ⟨rfl, ?_⟩⟩
    have hc4 := same_seqT s4 hc3
    refine ⟨p2, dx2, _, rfl, dk2.obj, df_no _ _ _ (by decide +kernel) (by decide +kernel) (by decide +kernel), _, rfl, c, _, rfl, .inr hc4, _, _, rfl, rfl, p2, dx2, c, dl2, de2, ns, ns, [], ns.length - 1, ns.getLast hne, ?_, dk2, ?_, ?_⟩
    · rw [List.length_map]
      show [V.ref p2, V.int ((ns.length : Int) - 1)] = _
      have e : (ns.length : Int) - 1 = ((ns.length - 1 : Nat) : Int) := by omega
      rw [e]
    · rw [← List.getLast?_eq_getElem?, List.getLast?_eq_getLast hne]
    · refine ⟨_, rfl, 1, rfl, c, _, -1, _, rfl, rfl, hc4, last_map hne, rfl, ?_⟩
      rw [decide_eq_true rfl]
      exact q _ L2 st2 (b2.same (s3.trans s4)) ((hv2.same s3).same s4)
end
end K9
namespace Gd
open PySem PySem.Spec PyProof.Rows L2
abbrev rRep (K : PySem.W.Frag) : V → V → Hp → VK → Prop := fun x y H Q => ∃ (l : Addr) (k : Int) (z : V), x = .ref l ∧ y = .int k ∧ SqT K H l [z] ∧ 2 ≤ k ∧ k ≤ 100000 ∧ ∀ p, H p = none → Q (.ref p) (upd H p (.tup (List.replicate k.toNat z)))
theorem op_repK {X : Cx} : OpR X (binaryOp .Mult) (rRep X.K) := op_rep1
end Gd
namespace K9
open PySem PySem.Spec PyProof.Rows L2 Gd
theorem rep_tup {K : PySem.W.Frag} {H : Hp} {p : Addr} {k : Nat} {o : Int} (e : H p = some (.tup (List.replicate k (.int o)))) : SqT K H p ((List.replicate k o).map V.int) := by
  rw [List.map_replicate]
  exact sqT e
theorem rep_num {K : PySem.W.Frag} {H : Hp} {o : Int} (ho : Oct o) : ∀ k : Nat, NumVs K H 256 (List.replicate k (.int o)) (List.replicate k true)
  | 0 => .nil
  | k + 1 => by
    rw [List.replicate_succ, List.replicate_succ]
    exact .cons (.inl ⟨o, rfl, (decide_eq_true (show 0 ≤ o ∧ o < 256 from ho)).symm⟩) (rep_num ho k)
section
variable {P : Program} {w : World} {K : PySem.W.Frag} {mg : Str → Option Value} {base : Heap}
theorem ok_great {C CR CD CB CN f fD fP fO fI fC fN fB fR mL mP mE : Addr} {fd fdD fdP fdO fdI fdC fdN fdB fdR dL dP dE : FuncData} {k : Nat} {t1 t2 : Tok} (F : Fun K "_law_great_right" "_law_great_right" sGreat f fd) (FD : Fun K "_law_draw" "_law_draw" sDraw fD fdD) (FP : Fun K "_law_pick" "_law_pick" sPick fP fdP)
    (FO : Fun K "_law_octet" "_law_octet" sOctet fO fdO) (FI : Fun K "__init__" "Disk.__init__" sInit fI fdI) (T : DTxt K mg C) (M : Mk K C fI) (FC : Fun K "are_cells" "are_cells" sCells fC fdC) (FB : Fun K "is_number_below" "is_number_below" sNumB fB fdB) (FN : Fun K "is_number" "is_number" sNum fN fdN)
    (FR : Fun K "__init__" "Refused.__init__" sIRef fR fdR) (TR : RTxt K mg CR fR) (TE : ETxt K mg CR CD CB CN) (ML : Meth K C "look" mL) (FmL : Fun K "look" "Disk.look" sLook mL dL) (MP : Meth K C "put" mP) (FmP : Fun K "put" "Disk.put" sPut mP dP) (ME : Meth K C "events" mE) (FmE : Fun K "events" "Disk.events" sEvents mE dE)
    (bD : Binds K fdD ["heap", "many"] []) (bP : Binds K fdP ["heap", "some"] []) (bO : Binds K fdO ["heap"] []) (bI : Binds K fdI ["self", "cells"] []) (bC : Binds K fdC ["value"] []) (bN : Binds K fdN ["value"] []) (bB : Binds K fdB ["value", "limit"] []) (bR : Binds K fdR ["self", "word"] []) (bmL : Binds K dL ["self", "at"] [])
    (bmP : Binds K dP ["self", "at", "octet"] []) (bmE : Binds K dE ["self"] [])
    (gD : mg "_law_draw" = some (.ref fD)) (gP : mg "_law_pick" = some (.ref fP)) (gOc : mg "_law_octet" = some (.ref fO)) (gC : mg "are_cells" = some (.ref fC)) (gN : mg "is_number" = some (.ref fN)) (gB : mg "is_number_below" = some (.ref fB)) (gM : mg "MOST_CELLS" = some (.int 20000 t1)) (gO : mg "OCTETS" = some (.int 256 t2))
    (ml : mg "len" = none) (mi : mg "int" = none) (mI : mg "isinstance" = none) (mb : mg "bool" = none) (mt : mg "tuple" = none) (ma : mg "all" = none) (mL' : mg "list" = none) :
    FnG P w K mg base (k + 1 + 1 + 1 + 1 + 1 + 1) f fd ["heap"] spOdds := by
  have GO : FnOk P w K mg base CX0 (k + 1 + 1 + 1 + 1 + 1) fO fdO ["heap"] spOctet := ok_octet FO FD FP bD bP gD gP ml mi
  have GC : FnOk P w K mg base CX0 (k + 1 + 1 + 1) fC fdC ["value"] (spCells K) := ok_cells FC FB FN bN bB gN gB gM gO mI mi mb mt ml ma
  have GI : FnOk P w K mg base (L2.CX P w) (k + 1 + 1 + 1 + 1) fI fdI ["self", "cells"] (spInitX K C CR) := ok_initX FI T FC bC gC GC FR TR bR mL'
  have HL : FnOk P w K mg base CX0 (k + 1 + 1 + 1 + 1 + 1) mL dL ["self", "at"] (spLook K C) := ok_look FmL T
  have HP : FnOk P w K mg base CX0 (k + 1 + 1 + 1 + 1 + 1) mP dP ["self", "at", "octet"] (spPut K C) := ok_put FmP T
  have HE : FnOk P w K mg base CX0 (k + 1 + 1 + 1 + 1 + 1) mE dE ["self"] (spEvents K C) := ok_events FmE T mt
  refine okG F scGreat (fun vs H Q E h => ?_) (fun cdv A outer s H vs Q E hrg h => ?_)
  · obtain ⟨h, l, L, st, rfl, _⟩ := h
    rfl
  · obtain ⟨h, l, L, st, rfl, hv, q⟩ := h
    have hr := hrg.rm
    have hgd := hrg.gd
    refine blk_cons (ps_set (i := 1) scGreat.nd rfl (.inl rfl) (pe_call GO hr (by rfl) gOc FO.kp bO .nil pass0 (pa_cons (pv 0) pa_nil))) ?_
    refine blk_cons (ps_set (i := 2) scGreat.nd rfl (.inl rfl) (pe_make M GI hr (by rfl) T.mgC bI .nil passL (pa_cons (pe_op (r := rRep K) op_repK (pe_tup (pa_cons (pv 1) pa_nil)) pe_int) pa_nil))) ?_
    refine blk_cons (ps_expr (pe_meth (pv 2) T.cl MP HP hr bmP .nil pass0 (pa_cons pe_int (pa_cons (pe_op op_sub pe_int (pv 1)) pa_nil)))) ?_
    refine blk_cons (ps_if (PW.pt (pw_or (pt_cmpR op_ne (pe_meth (pv 2) T.cl ML HL hr bmL .nil pass0 (pa_cons pe_int pa_nil)) (pe_op op_sub pe_int (pv 1)) (nomark _))
      (pw_or (pt_cmpR op_ne (pe_meth (pv 2) T.cl ML HL hr bmL .nil pass0 (pa_cons pe_int pa_nil)) (pv 1) (nomark _))
      (pw_or1 (pt_cmpR (op_neD hr.units) (pe_meth0 (pv 2) T.cl ME HE hr bmE .nil pass0) (pe_tup (pa_cons (pe_tup (pa_cons pe_int (pa_cons (pe_op op_sub pe_int (pv 1)) pa_nil))) pa_nil)) (nomark _)))))) (pss_one (ps_ret pe_bl)) pss_nil) ?_
    refine blk_cons (ps_try_as (i := 3) rfl rfl scGreat.nd rfl rfl ⟨rfl, by decide, .inl TR.gR⟩ takes0
      (fun W pn xe tk _ => pss_cons (ps_expr (pe_makeS (E := fun σ => WE W σ) M GI hr (by rfl) T.mgC bI (fun σ => passAt tk σ) (pa_cons (pe_op (r := rRep K) op_repK (pe_tup (pa_cons (pv 1) pa_nil)) pe_int) pa_nil))) (pss_one (ps_ret pe_bl)))
      (fun a oe cls d pn hz hf => pss_one (ps_ret (pe_cmpR op_eq (pe_xf TE.xf TR.nW hz hf (pv 3)) pe_str (nomark _))))) ?_
    refine blk_nil ?_
    -- octet
    refine ⟨.ref h, rfl, h, l, L, st, rfl, hv, fun G1 L1 st1 o b1 hv1 o0 o1 => ?_⟩
    have oo : Oct o := ⟨o0, o1⟩
    -- disk = Disk((octet,) * 20000)
    refine ⟨_, rfl, by show 1 ≤ sizeLine; decide, fun p1 n1 => ?_⟩
    refine ⟨p1, _, .int o, rfl, rfl, sqT upd_same, by decide, by decide, fun p2 n2 => ?_⟩
    have s2 : Same G1 _ := (same_new (o := .tup [.int o]) n1).trans (same_new (o := .tup (List.replicate (20000 : Int).toNat (.int o))) n2)
    have hc := rep_tup (K := K) (upd_same (H := upd G1 p1 (.tup [.int o])) (a := p2) (o := .tup (List.replicate (20000 : Int).toNat (.int o))))
    generalize upd (upd G1 p1 (.tup [.int o])) p2 (.tup (List.replicate (20000 : Int).toNat (.int o))) = G2 at s2 hc ⊢
    have hlen : (List.replicate (20000 : Int).toNat o).length = 20000 := List.length_replicate
    have hmem : ∀ n ∈ List.replicate (20000 : Int).toNat o, n = o := fun n hn => List.eq_of_mem_replicate hn
    generalize List.replicate (20000 : Int).toNat o = ns at hc hlen hmem
    have hv2 := hv1.same s2
    intro p dx np nd nep
    refine init_good hc (fun n hn => hmem n hn ▸ oo) (by omega) (by omega) np nd nep fun G3 dl de s3 nl ne _ _ dk => ⟨rfl, ?_⟩
    have hv3 := hv2.same s3
    -- disk.put(19999, 255 - octet)
    refine ⟨_, rfl, p, dx, _, rfl, dk.obj, df_no _ _ _ (by decide +kernel) (by decide +kernel) (by decide +kernel), _, rfl, _, _, rfl, rfl, p, dx, p2, dl, de, ns, ns, [], 19999, 255 - o, rfl, dk, by omega, Nat.zero_le _, fun G4 f4 d4 => ?_⟩
    have hv4 : Hv G4 h l L1 st1 := Hv.frm hv3 f4 (fun z => by
      rcases List.mem_cons.mp z with z | z
      · exact absurd hv2.top (by rw [z, nl]; exact fun q => nomatch q)
      · exact absurd hv2.top (by rw [List.mem_singleton.mp z, ne]; exact fun q => nomatch q)) (fun z => by
      rcases List.mem_cons.mp z with z | z
      · exact absurd hv2.bot (by rw [z, nl]; exact fun q => nomatch q)
      · exact absurd hv2.bot (by rw [List.mem_singleton.mp z, ne]; exact fun q => nomatch q))
    have b4 : But h l H G4 := fun b ob h1 h2 e => f4.ks _ _ (fun z => by
      have e2 := s2 _ _ (b1 _ _ h1 h2 e)
      rcases List.mem_cons.mp z with z | z
      · rw [z, nl] at e2; cases e2
      · rw [List.mem_singleton.mp z, ne] at e2; cases e2) (s3 _ _ (s2 _ _ (b1 _ _ h1 h2 e)))
    have g0 : (ns.set 19999 (255 - o))[0]? = some o := by
      rw [List.getElem?_set_ne (by decide), List.getElem?_eq_getElem (by omega), hmem _ (List.getElem_mem _)]
    have g1 : (ns.set 19999 (255 - o))[19999]? = some (255 - o) := List.getElem?_set_self (by omega)
    -- the questions
    refine ⟨_, rfl, p, dx, _, rfl, d4.obj, df_no _ _ _ (by decide +kernel) (by decide +kernel) (by decide +kernel), p, dx, p2, dl, de, ns, _, _, 19999, 255 - o, rfl, d4, g1, _, rfl, _, _, rfl, rfl, rfl, _, rfl, ?_⟩
    rw [decide_eq_true rfl]
    refine iteF ?_
    refine ⟨_, rfl, p, dx, _, rfl, d4.obj, df_no _ _ _ (by decide +kernel) (by decide +kernel) (by decide +kernel), p, dx, p2, dl, de, ns, _, _, 0, o, rfl, d4, g0, _, rfl, rfl, _, rfl, ?_⟩
    rw [decide_eq_true rfl]
    refine iteF ?_
    refine ⟨_, rfl, p, dx, _, rfl, d4.obj, df_no _ _ _ (by decide +kernel) (by decide +kernel) (by decide +kernel), p, dx, p2, dl, de, ns, _, _, rfl, d4, fun G5 t5 us s5 ht5 hd5 => ?_⟩
    refine ⟨_, rfl, _, _, rfl, rfl, by show 2 ≤ sizeLine; decide, fun p6 n6 => ⟨by show 1 ≤ sizeLine; decide, fun p7 n7 => ?_⟩⟩
    have ev : Evs 20000 [some (19999, 255 - o)] := by
      refine ⟨fun a' o' m => ?_, fun a' o' m => ?_, by show 1 < 64; decide⟩
      · cases List.mem_singleton.mp m; decide
      · cases List.mem_singleton.mp m
        exact ⟨by omega, by omega⟩
    have s7 : Same G5 _ := (same_new (o := .tup [.int 19999, .int (255 - o)]) n6).trans (same_new (o := .tup [.ref p6]) n7)
    have hf : fine (.tuple ([some (19999, 255 - o)].map evD)) = true ∧ (PyData.tuple ([some (19999, 255 - o)].map evD)).depth ≤ 60 := by
      constructor
      · have e : (255 - o).natAbs < 10 ^ 9 := by omega
        simp only [List.map_cons, List.map_nil, evD, fine, fineAll, Bool.and_true, Bool.and_eq_true, decide_eq_true_eq]
        exact ⟨by decide, e⟩
      · simp [evD, PyData.depth, PyData.depthAll]
    refine ⟨.tuple ([some (19999, 255 - o)].map evD), .tuple ([some (19999, 255 - o)].map evD), .tup (same_seqT s7 ht5) (dpAll_same s7 _ _ hd5), .tup (sqT upd_same) (.cons (.tup (sqT ((upd_ne (ne_of_none upd_same n7)).trans upd_same)) (.cons (.int _) (.cons (.int _) .nil))) .nil), fine_shaped hf.1 hf.2, fine_shaped hf.1 hf.2, _, rfl, ?_⟩
    rw [fine_eqv hf.1]
    refine iteF ?_
    have hv7 := (hv4.same s5).same s7
    have b7 := (b4.same s5).same s7
    generalize upd (upd G5 p6 (.tup [.int 19999, .int (255 - o)])) p7 (.tup [.ref p6]) = G7 at hv7 b7 ⊢
    -- a disk that is too great
    refine ⟨_, rfl, by show 1 ≤ sizeLine; decide, fun p8 n8 => ?_⟩
    refine ⟨p8, _, .int o, rfl, rfl, sqT upd_same, by decide, by decide, fun p9 n9 => ?_⟩
    have s9 : Same G7 _ := (same_new (o := .tup [.int o]) n8).trans (same_new (o := .tup (List.replicate (20001 : Int).toNat (.int o))) n9)
    have hc9 := sqT (K := K) (upd_same (H := upd G7 p8 (.tup [.int o])) (a := p9) (o := .tup (List.replicate (20001 : Int).toNat (.int o))))
    generalize upd (upd G7 p8 (.tup [.int o])) p9 (.tup (List.replicate (20001 : Int).toNat (.int o))) = G9 at s9 hc9 ⊢
    have hl9 : (List.replicate (20001 : Int).toNat (V.int o)).length = 20001 := List.length_replicate
    have hn9 : ∀ J : Hp, ∃ bs, NumVs K J 256 (List.replicate (20001 : Int).toNat (.int o)) bs := fun J => ⟨_, rep_num oo _⟩
    generalize List.replicate (20001 : Int).toNat (V.int o) = xs9 at hc9 hl9 hn9
    intro p' dx' np' nd' ne'
    have np2 : (upd G9 dx' (.own p')) p' = none := (upd_ne (Ne.symm ne')).trans np'
    have sm : Same G9 (upd (upd G9 dx' (.own p')) p' (.ins C dx' [])) := (same_new nd').trans (same_new np2)
    obtain ⟨bs, hbs⟩ := hn9 (upd (upd G9 dx' (.own p')) p' (.ins C dx' []))
    have ht9 := same_seqT sm hc9
    refine ⟨p', dx', .ref p9, false, rfl, upd_same, .inr ⟨p9, xs9, bs, rfl, tyT ht9, ht9, by omega, hbs, ?_⟩, (fun z => nomatch z), fun _ d G3 hd s3 gd => ?_⟩
    · rw [decide_eq_false (by omega), Bool.false_and]
    refine ⟨true, TE.exr, fun _ a na => ?_, fun z => nomatch z⟩
    refine ⟨_, rfl, rfl, rfl, d, _, .str "cells", rfl, gd, by decide +kernel, rfl, ?_⟩
    rw [decide_eq_true rfl]
    exact q _ L1 st1 (((b7.same s9).same sm).same s3) (((hv7.same s9).same sm).same s3)
end
end K9
/-! Two disks and what the law holds of them. -/
namespace K9
open PySem PySem.Spec PyProof.Rows L2 Gd
/-- a disk of the law: itself, its dict, its cells, its lists, the law's run -/
structure Gm where
  p : Addr
  dx : Addr
  c : Addr
  dl : Addr
  de : Addr
  r : Addr
  cells : List Int
abbrev Gm.S (h l : Addr) (g : Gm) : List Addr := [h, l, g.dl, g.de, g.r]
structure Two (K : PySem.W.Frag) (C : Addr) (H : Hp) (h l D RW RN : Addr) (g : Nat → Gm) (L : List Int) (st : Int) (e : Nat → List Ev) : Prop where
  pl : ∀ a, a < 2 → Pl K C H h l (g a).p (g a).dx (g a).c (g a).dl (g a).de (g a).r L st (g a).cells (e a)
  lD : H D = some (.lst [.ref (g 0).p, .ref (g 1).p])
  lW : H RW = some (.lst [.ref (g 0).c, .ref (g 1).c])
  lN : H RN = some (.lst [.ref (g 0).r, .ref (g 1).r])
structure Far (h l D RW RN : Addr) (g : Nat → Gm) : Prop where
  sep : ∀ a, a < 2 → Sep h l (g a).dl (g a).de (g a).r
  cr : ∀ a b, a < 2 → b < 2 → a ≠ b → (g a).dl ∉ (g b).S h l ∧ (g a).de ∉ (g b).S h l ∧ (g a).r ∉ (g b).S h l
  nD : ∀ b, b < 2 → D ∉ (g b).S h l
  nW : ∀ b, b < 2 → RW ∉ (g b).S h l
  nN : ∀ b, b < 2 → RN ∉ (g b).S h l
  lo : ∀ a, a < 2 → 1 ≤ (g a).cells.length
  hi : ∀ a, a < 2 → (g a).cells.length ≤ 1000
  oc : ∀ a, a < 2 → ∀ x ∈ (g a).cells, Oct x
theorem two_at (f : Nat → V) {a : Nat} (h : a < 2) : atI [f 0, f 1] (a : Int) = some (f a) := by
  match a, h with
  | 0, _ => rfl
  | 1, _ => rfl
theorem Two.hv {K : PySem.W.Frag} {C : Addr} {H : Hp} {h l D RW RN : Addr} {g : Nat → Gm} {L : List Int} {st : Int} {e : Nat → List Ev} (t : Two K C H h l D RW RN g L st e) : Hv H h l L st := (t.pl 0 (by decide)).hv
theorem Two.but {K : PySem.W.Frag} {C : Addr} {H G : Hp} {h l D RW RN : Addr} {g : Nat → Gm} {L L' : List Int} {st st' : Int} {e : Nat → List Ev} (t : Two K C H h l D RW RN g L st e) (f : Far h l D RW RN g) (b : But h l H G) (v : Hv G h l L' st') : Two K C G h l D RW RN g L' st' e := by
  have n : ∀ {x : Addr}, x ∉ (g 0).S h l → x ≠ h ∧ x ≠ l := fun z => ⟨fun e => z (e ▸ List.mem_cons_self), fun e => z (e ▸ List.mem_cons_of_mem _ List.mem_cons_self)⟩
  exact ⟨fun a ha => (t.pl a ha).but (f.sep a ha) b v, b _ _ (n (f.nD 0 (by decide))).1 (n (f.nD 0 (by decide))).2 t.lD, b _ _ (n (f.nW 0 (by decide))).1 (n (f.nW 0 (by decide))).2 t.lW, b _ _ (n (f.nN 0 (by decide))).1 (n (f.nN 0 (by decide))).2 t.lN⟩
theorem Two.same {K : PySem.W.Frag} {C : Addr} {H G : Hp} {h l D RW RN : Addr} {g : Nat → Gm} {L : List Int} {st : Int} {e : Nat → List Ev} (t : Two K C H h l D RW RN g L st e) (s : Same H G) : Two K C G h l D RW RN g L st e :=
  ⟨fun a ha => (t.pl a ha).same s, s _ _ t.lD, s _ _ t.lW, s _ _ t.lN⟩
theorem Two.step {K : PySem.W.Frag} {C : Addr} {H G : Hp} {h l D RW RN : Addr} {g : Nat → Gm} {L L' : List Int} {st st' : Int} {e : Nat → List Ev} {a : Nat} {e1 : List Ev} (t : Two K C H h l D RW RN g L st e) (f : Far h l D RW RN g) (ha : a < 2) (fr : Frm ((g a).S h l) H G)
    (p : Pl K C G h l (g a).p (g a).dx (g a).c (g a).dl (g a).de (g a).r L' st' (g a).cells e1) : Two K C G h l D RW RN g L' st' (fun b => if b = a then e1 else e b) := by
  refine ⟨fun b hb => ?_, fr.ks _ _ (f.nD a ha) t.lD, fr.ks _ _ (f.nW a ha) t.lW, fr.ks _ _ (f.nN a ha) t.lN⟩
  by_cases z : b = a
  · subst z
    show Pl K C G h l (g b).p (g b).dx (g b).c (g b).dl (g b).de (g b).r L' st' (g b).cells (if b = b then e1 else e b)
    rw [if_pos rfl]
    exact p
  · show Pl K C G h l (g b).p (g b).dx (g b).c (g b).dl (g b).de (g b).r L' st' (g b).cells (if b = a then e1 else e b)
    rw [if_neg z]
    obtain ⟨n1, n2, n3⟩ := f.cr b a hb ha z
    exact (t.pl b hb).frm fr p.hv n1 n2 n3
theorem fine_tup {xs : List PyData} (h : fine (.list xs) = true ∧ (PyData.list xs).depth ≤ 60 ∧ costD (.list xs) ≤ sizeLine) : fine (.tuple xs) = true ∧ (PyData.tuple xs).depth ≤ 60 ∧ costD (.tuple xs) ≤ sizeLine := by
  obtain ⟨h1, h2, h3⟩ := h
  rw [fine] at h1
  rw [PyData.depth] at h2
  rw [costD] at h3
  refine ⟨?_, ?_, ?_⟩
  · rw [fine]
    exact h1
  · rw [PyData.depth]
    exact h2
  · rw [costD]
    exact h3
theorem Evs.take {n : Nat} {evs : List Ev} (h : Evs n evs) (i : Nat) : Evs n (evs.take i) :=
  ⟨fun a o m => h.at_ a o ((List.take_sublist i evs).mem m), fun a o m => h.oc a o ((List.take_sublist i evs).mem m), Nat.lt_of_le_of_lt (by rw [List.length_take]; exact Nat.min_le_right _ _) h.len⟩
theorem dpAll_take {K : PySem.W.Frag} {H : Hp} : ∀ {us : List V} {ds : List PyData} (i : Nat), DpAll K H us ds → DpAll K H (us.take i) (ds.take i)
  | _, _, 0, _ => by rw [List.take_zero, List.take_zero]; exact .nil
  | _, _, i + 1, .nil => by rw [List.take_nil, List.take_nil]; exact .nil
  | _, _, i + 1, .cons a r => by rw [List.take_succ_cons, List.take_succ_cons]; exact .cons a (dpAll_take i r)
theorem cut_take (us : List V) (n : Nat) (h : n ≤ us.length) : cutV us none (some (n : Int)) = us.take n := by
  unfold cutV
  rw [HT.sIx_none, HT.sIx_nat, List.drop_zero, Nat.sub_zero, Nat.min_eq_left h]
/-- rows: tuples of octets -/
def Row (G : Hp) (c : Addr) (ns : List Int) : Prop := G c = some (.tup (ns.map V.int)) ∧ (∀ n ∈ ns, Oct n) ∧ 1 ≤ ns.length ∧ ns.length ≤ 300
theorem Row.keep {H G : Hp} {c : Addr} {ns : List Int} (r : Row H c ns) (k : KeepT H G) : Row G c ns := ⟨k _ _ r.1 (by intro _ z; cases z), r.2⟩
theorem paired_snoc {α β : Type} {R : α → β → Prop} : ∀ {xs : List α} {ys : List β} {x : α} {y : β}, Paired R xs ys → R x y → Paired R (xs ++ [x]) (ys ++ [y])
  | _, _, _, _, .nil, r => .cons r .nil
  | _, _, _, _, .cons a t, r => .cons a (paired_snoc t r)
theorem paired_mono {α β : Type} {R S : α → β → Prop} (h : ∀ a b, R a b → S a b) : ∀ {xs : List α} {ys : List β}, Paired R xs ys → Paired S xs ys
  | _, _, .nil => .nil
  | _, _, .cons a t => .cons (h _ _ a) (paired_mono h t)
/-- the disks, one after another -/
def PvD (K : PySem.W.Frag) (C : Addr) (H4 : Hp) (D c0 c1 : Addr) (n0 n1 : List Int) : Nat → Hp → Prop
  | 0, G => Same H4 G ∧ G D = some (.lst [])
  | 1, G => Same H4 G ∧ ∃ p0 x0 l0 e0 : Addr, G D = some (.lst [.ref p0]) ∧ DiskAt K C G p0 x0 c0 l0 e0 n0 n0 [] ∧ H4 l0 = none ∧ H4 e0 = none ∧ l0 ≠ D ∧ e0 ≠ D
  | _, G => Same H4 G ∧ ∃ p0 x0 l0 e0 p1 x1 l1 e1 : Addr, G D = some (.lst [.ref p0, .ref p1]) ∧ DiskAt K C G p0 x0 c0 l0 e0 n0 n0 [] ∧ DiskAt K C G p1 x1 c1 l1 e1 n1 n1 [] ∧
      (H4 l0 = none ∧ H4 e0 = none ∧ H4 l1 = none ∧ H4 e1 = none) ∧ (l0 ≠ D ∧ e0 ≠ D ∧ l1 ≠ D ∧ e1 ≠ D) ∧ l1 ≠ l0 ∧ l1 ≠ e0 ∧ e1 ≠ l0 ∧ e1 ≠ e0
theorem evs_nil (n : Nat) : Evs n [] := ⟨fun _ _ m => absurd m List.not_mem_nil, fun _ _ m => absurd m List.not_mem_nil, by show 0 < 64; decide⟩
/-- what stands in a list, not in another -/
theorem nin5 {x h l a b c : Addr} (h1 : x ≠ h) (h2 : x ≠ l) (h3 : x ≠ a) (h4 : x ≠ b) (h5 : x ≠ c) : x ∉ [h, l, a, b, c] := fun z => by
  rcases List.mem_cons.mp z with z | z
  · exact h1 z
  rcases List.mem_cons.mp z with z | z
  · exact h2 z
  rcases List.mem_cons.mp z with z | z
  · exact h3 z
  rcases List.mem_cons.mp z with z | z
  · exact h4 z
  · exact h5 (List.mem_singleton.mp z)
end K9
namespace Gd
open PySem PySem.Spec PyProof.Rows L2
abbrev rTup (K : PySem.W.Frag) : List V → Hp → VK → Prop := fun xs H Q => ∃ p ys, xs = [.ref p] ∧ ((SqL K H p ys ∧ ∀ l, H l = none → Q (.ref l) (upd H l (.tup ys))) ∨ (SqT K H p ys ∧ Q (.ref p) H))
theorem call_tupK {X : Cx} : CallR X (.type "tuple") (rTup X.K) := call_tuple_of
end Gd
namespace K9
open PySem PySem.Spec PyProof.Rows L2 Gd
abbrev nLaw : List Str := ["script", "heap", "turn", "sizes", "at", "rows", "disks", "runs", "events", "many", "row", "place"]
section
variable {P : Program} {w : World} {K : PySem.W.Frag} {mg : Str → Option Value} {base : Heap}
def spLaw (K : PySem.W.Frag) : Sp := fun vs H Q _ => ∃ (a : Addr) (ns : List Int), vs = [.ref a] ∧ SqL K H a (ns.map V.int) ∧ ns.length ≤ 63 ∧ ∀ G, Q (.bl true) G
theorem ok_law {C CR CD CB CN f fH fD fP fO fL fQ fX fY fZ fW fI fC fN fB fR fG fU mL mP mF mE : Addr} {fd fdH fdD fdP fdO fdL fdQ fdX fdY fdZ fdW fdI fdC fdN fdB fdR fdG fdU dL dP dF dE : FuncData} {t1 t2 : Tok} (F : Fun K "law" "law" sLaw f fd)
    (FH : Fun K "_law_heap" "_law_heap" sHeap fH fdH) (FD : Fun K "_law_draw" "_law_draw" sDraw fD fdD) (FP : Fun K "_law_pick" "_law_pick" sPick fP fdP) (FO : Fun K "_law_octet" "_law_octet" sOctet fO fdO) (FL : Fun K "_law_last" "_law_last" sLast fL fdL) (FQ : Fun K "_law_pending" "_law_pending" sLPend fQ fdQ)
    (FX : Fun K "_law_cut_right" "_law_cut_right" sCutR fX fdX) (FY : Fun K "_law_play" "_law_play" sPlay fY fdY) (FZ : Fun K "_law_odds_right" "_law_odds_right" sOdds fZ fdZ) (FW : Fun K "_law_great_right" "_law_great_right" sGreat fW fdW)
    (FI : Fun K "__init__" "Disk.__init__" sInit fI fdI) (T : DTxt K mg C) (M : Mk K C fI) (FC : Fun K "are_cells" "are_cells" sCells fC fdC) (FB : Fun K "is_number_below" "is_number_below" sNumB fB fdB) (FN : Fun K "is_number" "is_number" sNum fN fdN) (FG : Fun K "pending_places" "pending_places" sPend fG fdG) (FU : Fun K "cut_cells" "cut_cells" sCut fU fdU)
    (FR : Fun K "__init__" "Refused.__init__" sIRef fR fdR) (TR : RTxt K mg CR fR) (TE : ETxt K mg CR CD CB CN) (ML : Meth K C "look" mL) (FmL : Fun K "look" "Disk.look" sLook mL dL) (MP : Meth K C "put" mP) (FmP : Fun K "put" "Disk.put" sPut mP dP) (MF : Meth K C "flush" mF) (FmF : Fun K "flush" "Disk.flush" sFlush mF dF) (ME : Meth K C "events" mE) (FmE : Fun K "events" "Disk.events" sEvents mE dE)
    (bH : Binds K fdH ["script"] []) (bD : Binds K fdD ["heap", "many"] []) (bP : Binds K fdP ["heap", "some"] []) (bO : Binds K fdO ["heap"] []) (bL : Binds K fdL ["events", "at", "old"] []) (bQ : Binds K fdQ ["events"] []) (bX : Binds K fdX ["heap", "cells", "events"] []) (bY : Binds K fdY ["heap", "disk", "cells", "events"] []) (bZ : Binds K fdZ ["heap"] []) (bW : Binds K fdW ["heap"] [])
    (bI : Binds K fdI ["self", "cells"] []) (bC : Binds K fdC ["value"] []) (bN : Binds K fdN ["value"] []) (bB : Binds K fdB ["value", "limit"] []) (bG : Binds K fdG ["events"] []) (bU : Binds K fdU ["cells", "events", "octets"] []) (bR : Binds K fdR ["self", "word"] []) (bmL : Binds K dL ["self", "at"] []) (bmP : Binds K dP ["self", "at", "octet"] []) (bmF : Binds K dF ["self"] []) (bmE : Binds K dE ["self"] [])
    (kI : KBn K fdI ["self", "cells"] 1 ["cells"] (· ++ ·) (· ++ ·)) (kL : KBn K dL ["self", "at"] 1 ["at"] (· ++ ·) (· ++ ·)) (kP : KBn K dP ["self", "at", "octet"] 1 ["octet", "at"] (fun a b => a ++ b.reverse) (fun a b => a ++ b.reverse)) (kG : KwB fdG ["events"] ["events"] id) (kU : KwB fdU ["cells", "events", "octets"] ["octets", "events", "cells"] List.reverse)
    (gH : mg "_law_heap" = some (.ref fH)) (gD : mg "_law_draw" = some (.ref fD)) (gP : mg "_law_pick" = some (.ref fP)) (gOc : mg "_law_octet" = some (.ref fO)) (gL : mg "_law_last" = some (.ref fL)) (gQ : mg "_law_pending" = some (.ref fQ)) (gX : mg "_law_cut_right" = some (.ref fX)) (gY : mg "_law_play" = some (.ref fY)) (gZ : mg "_law_odds_right" = some (.ref fZ)) (gW : mg "_law_great_right" = some (.ref fW))
    (gC : mg "are_cells" = some (.ref fC)) (gN : mg "is_number" = some (.ref fN)) (gB : mg "is_number_below" = some (.ref fB)) (gG : mg "pending_places" = some (.ref fG)) (gU : mg "cut_cells" = some (.ref fU)) (gM : mg "MOST_CELLS" = some (.int 20000 t1)) (gO : mg "OCTETS" = some (.int 256 t2))
    (ml : mg "len" = none) (mi : mg "int" = none) (mr : mg "range" = none) (mI : mg "isinstance" = none) (mb : mg "bool" = none) (mt : mg "tuple" = none) (ma : mg "all" = none) (mL' : mg "list" = none) (ms : mg "sorted" = none) (mz : mg "zip" = none) (mp : mg "repr" = none) (mab : mg "abs" = none) :
    FnG P w K mg base 7 f fd ["script"] (spLaw K) := by
  have GH : FnOk P w K mg base CX0 6 fH fdH ["script"] (spHeap K) := ok_heap FH mab mi
  have GD : FnOk P w K mg base CX0 6 fD fdD ["heap", "many"] spDraw := ok_draw FD mi
  have GP : FnOk P w K mg base CX0 6 fP fdP ["heap", "some"] (spPick K) := ok_pick FP FD bD gD ml mi
  have GO : FnOk P w K mg base CX0 6 fO fdO ["heap"] spOctet := ok_octet FO FD FP bD bP gD gP ml mi
  have GL : FnOk P w K mg base CX0 6 fL fdL ["events", "at", "old"] (spLast K) := ok_last FL mr ml
  have GG : FnOk P w K mg base CX0 6 fG fdG ["events"] (spPend K) := ok_pend FG mt ms
  have GU : FnOk P w K mg base CX0 6 fU fdU ["cells", "events", "octets"] (spCut K) := ok_cut FU FG bG gG mt ms mL' mz
  have GX : FnG P w K mg base 6 fX fdX ["heap", "cells", "events"] (spCutR K) := ok_cutR FX FD FP FO FL FQ FG FU bD bP bO bL bQ bG bU kG kU gD gP gOc gL gQ gG gU ml mi mr mt ms mL' mz mp
  have GY : FnG P w K mg base 6 fY fdY ["heap", "disk", "cells", "events"] (spPlay K C) := ok_play FY FD FP FO FL T ML MP MF FmL FmP FmF bD bP bO bL bmL bmP bmF kL kP gD gP gOc gL ml mi mr mp
  have GZ : FnG P w K mg base 6 fZ fdZ ["heap"] spOdds := ok_odds FZ FD FP FI T M FC FB FN FR TR TE ML FmL bD bP bI bC bN bB bR bmL kI gD gP gC gN gB gM gO ml mi mr mI mb mt ma mL'
  have GW : FnG P w K mg base 6 fW fdW ["heap"] spOdds := ok_great FW FD FP FO FI T M FC FB FN FR TR TE ML FmL MP FmP ME FmE bD bP bO bI bC bN bB bR bmL bmP bmE gD gP gOc gC gN gB gM gO ml mi mI mb mt ma mL'
  have GC : FnOk P w K mg base CX0 3 fC fdC ["value"] (spCells K) := ok_cells FC FB FN bN bB gN gB gM gO mI mi mb mt ml ma
  have GI : FnOk P w K mg base (L2.CX P w) 4 fI fdI ["self", "cells"] (spInitX K C CR) := ok_initX FI T FC bC gC GC FR TR bR mL'
  have HL : FnOk P w K mg base CX0 6 mL dL ["self", "at"] (spLook K C) := ok_look FmL T
  have HE : FnOk P w K mg base CX0 6 mE dE ["self"] (spEvents K C) := ok_events FmE T mt
  refine okG F scLaw (fun vs H Q E h => ?_) (fun cdv A outer s H vs Q E hrg h => ?_)
  · obtain ⟨a, ns, rfl, _⟩ := h
    rfl
  · obtain ⟨a, ns, rfl, hS, hlen, q⟩ := h
    have hr := hrg.rm
    have hgd := hrg.gd
    have hr5 : Room (4 + 1) (A.deeper (envOfC "law" (defScope sLaw) s.heap.objs.size f cdv)) := hr.mono (by decide)
    -- heap
    refine blk_cons (ps_set (i := 1) scLaw.nd rfl (.inr rfl) (pe_call GH hr (by rfl) gH FH.kp bH .nil pass0 (pa_cons (pv 0) pa_nil))) ?_
    -- sizes
    refine blk_cons (ps_setLc (i := 3) (own := [("turn", 2)]) (g := gName 2) (tt := tYes) rfl scLaw.nd rfl rfl (sw_true rfl rfl rfl (by decide +kernel)) (pi_range1 (by rfl) mr (pa_cons pe_int pa_nil)) (blkOk_by (own := [("turn", 2)]) (N := nLaw) (sc := defScope sLaw) (by decide +kernel))
      (fun _ _ _ _ _ => pg_name (i := 2) scLaw.nd rfl (Or.inl rfl)) (fun _ _ _ _ _ => pts_nil)
      (fun _ _ _ _ _ => pe_call GP hr (by rfl) gP FP.kp bP .nil pass0 (pa_cons (pv 1) (pa_cons (pe_lst (pa_cons pe_int (pa_cons pe_int (pa_cons pe_int (pa_cons pe_int (pa_cons pe_int (pa_cons pe_int (pa_cons pe_int pa_nil)))))))) pa_nil)))) ?_
    refine blk_cons (ps_if (PW.pt (pw_and (pt_cmpR op_gt (pe_callB call_len_seq (by rfl) ml PySem.boot_len (pa_cons (pv 0) pa_nil)) pe_int (nomark _)) (pw_and1 (pt_cmpR op_eq (pe_call GD hr (by rfl) gD FD.kp bD .nil pass0 (pa_cons (pv 1) (pa_cons pe_int pa_nil))) pe_int (nomark _)))))
      (pss_one (ps_set (i := 3) scLaw.nd rfl (.inl rfl) (pe_lst (pa_cons pe_int (pa_cons (pe_ix ix_list (pv 3) pe_int (fun _ _ => rfl)) pa_nil))))) pss_nil) ?_
    -- rows
    refine blk_cons (ps_set (i := 5) scLaw.nd rfl (.inr rfl) (pe_lc (own := [("many", 9)]) (g := gName 9) (tt := tYes) rfl scLaw.nd (pi_list (pv 3)) (blkOk_by (own := [("many", 9)]) (N := nLaw) (sc := defScope sLaw) (by decide +kernel))
      (fun _ _ _ _ _ => pg_name (i := 9) scLaw.nd rfl (Or.inl rfl)) (fun _ _ _ _ _ => pts_nil)
      (fun _ _ _ _ _ => pe_callTy (T := "tuple") (r := rTup K) call_tupK (by rfl) mt (by decide +kernel) (pa_cons (pe_lc (own := [("at", 4)]) (g := gName 4) (tt := tYes) rfl scLaw.nd (pi_range1 (by rfl) mr (pa_cons (pv 9) pa_nil)) (blkOk_by (own := [("at", 4)]) (N := nLaw) (by rfl))
        (fun _ _ _ _ _ => pg_name (i := 4) scLaw.nd rfl (Or.inl rfl)) (fun _ _ _ _ _ => pts_nil) (fun _ _ _ _ _ => pe_call GO hr (by rfl) gOc FO.kp bO .nil pass0 (pa_cons (pv 1) pa_nil))) pa_nil)))) ?_
    -- disks, runs
    refine blk_cons (ps_asg (pe_tup (pa_cons (pe_lc (own := [("row", 10)]) (g := gName 10) (tt := tYes) rfl scLaw.nd (pi_list (pv 5)) (blkOk_by (own := [("row", 10)]) (N := nLaw) (sc := defScope sLaw) (by decide +kernel))
      (fun _ _ _ _ _ => pg_name (i := 10) scLaw.nd rfl (Or.inl rfl)) (fun _ _ _ _ _ => pts_nil) (fun _ _ _ _ _ => pe_make M GI hr5 (by rfl) T.mgC bI .nil passL (pa_cons (pv 10) pa_nil))) (pa_cons (pe_lst (pa_cons (pe_lst pa_nil) (pa_cons (pe_lst pa_nil) pa_nil))) pa_nil)))
      (pg_tup rfl (pgs_cons (pg_name (i := 6) scLaw.nd rfl (.inr rfl)) (pgs_cons (pg_name (i := 7) scLaw.nd rfl (.inl rfl)) pgs_nil)))) ?_
    -- the game
    refine blk_cons (ps_for PassesOwn.never rfl (pi_range1 (by rfl) mr (pa_cons (pe_op op_add (pe_op op_add pe_int (pe_call GD hr (by rfl) gD FD.kp bD .nil pass0 (pa_cons (pv 1) (pa_cons pe_int pa_nil))))
        (pe_op op_mul pe_int (pe_callTy call_int1 (by rfl) mi (by decide +kernel) (pa_cons (pe_cmpR op_gt (pe_callB call_len_seq (by rfl) ml PySem.boot_len (pa_cons (pv 0) pa_nil)) pe_int (nomark _)) pa_nil)))) pa_nil)) (pg_name (i := 2) scLaw.nd rfl (.inl rfl))
      (pss_cons (ps_set (i := 4) scLaw.nd rfl (.inr rfl) (pe_call GD hr (by rfl) gD FD.kp bD .nil pass0 (pa_cons (pv 1) (pa_cons pe_int pa_nil))))
      (pss_cons (ps_if (pt_not (pt_val (pe_callG (E := E0) GY hrg (by rfl) gY FY.kp bY .nil (pa_cons (pv 1) (pa_cons (pe_ix ix_list (pv 6) (pv 4) (fun _ _ => rfl)) (pa_cons (pe_ix ix_list (pv 5) (pv 4) (fun _ _ => rfl)) (pa_cons (pe_ix ix_list (pv 7) (pv 4) (fun _ _ => rfl)) pa_nil))))))) (pss_one (ps_ret pe_bl)) pss_nil)
      (pss_one (ps_if (PW.pt (pw_and (pt_cmpR op_gt (pv 2) pe_int (nomark _)) (pw_and (pt_cmpR op_eq (pe_call GD hr (by rfl) gD FD.kp bD .nil pass0 (pa_cons (pv 1) (pa_cons pe_int pa_nil))) pe_int (nomark _))
        (pw_and1 (pt_cmpR op_ne (pe_callB (call_reprF hgd hr.units) (by rfl) mp (by decide +kernel) (pa_cons (pe_meth0 (pe_ix ix_list (pv 6) (pv 4) (fun _ _ => rfl)) T.cl ME HE hr bmE .nil pass0) pa_nil))
          (pe_callB (call_reprF hgd hr.units) (by rfl) mp (by decide +kernel) (pa_cons (pe_callTy call_tuple_of (by rfl) mt (by decide +kernel) (pa_cons (pe_ix ix_list (pv 7) (pv 4) (fun _ _ => rfl)) pa_nil)) pa_nil)) (nomark _)))))) (pss_one (ps_ret pe_bl)) pss_nil))))) ?_
    -- the looks
    refine blk_cons (ps_for PassesOwn.never rfl (pi_range1 (by rfl) mr (pa_cons pe_int pa_nil)) (pg_name (i := 4) scLaw.nd rfl (.inr rfl))
      (pss_cons (ps_set (i := 8) scLaw.nd rfl (.inr rfl) (pe_meth0 (pe_ix ix_list (pv 6) (pv 4) (fun _ _ => rfl)) T.cl ME HE hr bmE .nil pass0))
      (pss_cons (ps_if (PW.pt (pw_or (pt_cmpR op_ne (pe_callB (call_reprF hgd hr.units) (by rfl) mp (by decide +kernel) (pa_cons (pv 8) pa_nil)) (pe_callB (call_reprF hgd hr.units) (by rfl) mp (by decide +kernel) (pa_cons (pe_callTy call_tuple_of (by rfl) mt (by decide +kernel) (pa_cons (pe_ix ix_list (pv 7) (pv 4) (fun _ _ => rfl)) pa_nil)) pa_nil)) (nomark _))
        (pw_or1 (pt_cmpR (op_neD hr.units) (pe_fld (pe_ix ix_list (pv 6) (pv 4) (fun _ _ => rfl)) rfl) (pe_ix ix_list (pv 5) (pv 4) (fun _ _ => rfl)) (nomark _))))) (pss_one (ps_ret pe_bl)) pss_nil)
      (pss_cons (ps_for PassesOwn.never rfl (pi_range1 (by rfl) mr (pa_cons pe_int pa_nil)) (pg_name (i := 2) scLaw.nd rfl (.inl rfl))
        (pss_one (ps_if (pt_not (pt_val (pe_callG (E := E0) GX hrg (by rfl) gX FX.kp bX .nil (pa_cons (pv 1) (pa_cons (pe_ix ix_list (pv 5) (pv 4) (fun _ _ => rfl))
          (pa_cons (pe_slice sl_tupA (pv 8) po_none (po_some (pe_call GP hr (by rfl) gP FP.kp bP .nil pass0 (pa_cons (pv 1) (pa_cons (pe_lst (pa_cons (pe_call GD hr (by rfl) gD FD.kp bD .nil pass0 (pa_cons (pv 1) (pa_cons (pe_op op_add (pe_callB call_len_seq (by rfl) ml PySem.boot_len (pa_cons (pv 8) pa_nil)) pe_int) pa_nil)))
            (pa_cons (pe_callB call_len_seq (by rfl) ml PySem.boot_len (pa_cons (pv 8) pa_nil)) pa_nil))) pa_nil))))) pa_nil)))))) (pss_one (ps_ret pe_bl)) pss_nil)))
      (pss_one (ps_if (pt_cmpR (op_neD hr.units) (pe_lc (own := [("place", 11)]) (g := gName 11) (tt := tYes) rfl scLaw.nd (pi_range1 (by rfl) mr (pa_cons (pe_callB call_len_seq (by rfl) ml PySem.boot_len (pa_cons (pe_ix ix_list (pv 5) (pv 4) (fun _ _ => rfl)) pa_nil)) pa_nil))
          (blkOk_by (own := [("place", 11)]) (N := nLaw) (sc := defScope sLaw) (by decide +kernel)) (fun _ _ _ _ _ => pg_name (i := 11) scLaw.nd rfl (Or.inl rfl)) (fun _ _ _ _ _ => pts_nil)
          (fun _ _ _ _ _ => pe_meth (pe_ix (r := rIxL K) ix_list (pv 6) (pv 4) (fun _ _ => rfl)) T.cl ML HL hr bmL .nil pass0 (pa_cons (pv 11) pa_nil)))
        (pe_lc (own := [("place", 11)]) (g := gName 11) (tt := tYes) rfl scLaw.nd (pi_range1 (by rfl) mr (pa_cons (pe_callB call_len_seq (by rfl) ml PySem.boot_len (pa_cons (pe_ix ix_list (pv 5) (pv 4) (fun _ _ => rfl)) pa_nil)) pa_nil))
          (blkOk_by (own := [("place", 11)]) (N := nLaw) (sc := defScope sLaw) (by decide +kernel)) (fun _ _ _ _ _ => pg_name (i := 11) scLaw.nd rfl (Or.inl rfl)) (fun _ _ _ _ _ => pts_nil)
          (fun _ _ _ _ _ => pe_call GL hr (by rfl) gL FL.kp bL .nil pass0 (pa_cons (pv 8) (pa_cons (pv 11) (pa_cons (pe_ix (r := rIxT K) ix_tup (pe_ix (r := rIxL K) ix_list (pv 5) (pv 4) (fun _ _ => rfl)) (pv 11) (fun _ _ => rfl)) pa_nil))))) (nomark _)) (pss_one (ps_ret pe_bl)) pss_nil)))))) ?_
    -- odds, great ones
    refine blk_cons (ps_if (PW.pt (pw_or (pt_not (pt_val (pe_callG (E := E0) GZ hrg (by rfl) gZ FZ.kp bZ .nil (pa_cons (pv 1) pa_nil)))) (pw_or1 (PW.pt (pw_and (pt_cmpR op_gt (pe_callB call_len_seq (by rfl) ml PySem.boot_len (pa_cons (pv 0) pa_nil)) pe_int (nomark _))
      (pw_and (pt_cmpR op_eq (pe_call GD hr (by rfl) gD FD.kp bD .nil pass0 (pa_cons (pv 1) (pa_cons pe_int pa_nil))) pe_int (nomark _)) (pw_and1 (pt_not (pt_val (pe_callG (E := E0) GW hrg (by rfl) gW FW.kp bW .nil (pa_cons (pv 1) pa_nil))))))))))) (pss_one (ps_ret pe_bl)) pss_nil) ?_
    -- the written ones
    refine blk_cons (ps_if (PW.pt (pw_or (pt_cmpR (op_neD hr.units) (pe_call GG hr (by rfl) gG FG.kp bG .nil pass0 (pa_cons (pe_tup pa_nil) pa_nil)) (pe_tup pa_nil) (nomark _))
      (pw_or1 (pt_cmpR (op_neD hr.units) (pe_call GG hr (by rfl) gG FG.kp bG .nil pass0 (pa_cons (pe_tup (pa_cons (pe_tup (pa_cons pe_int (pa_cons pe_int pa_nil))) (pa_cons pe_non (pa_cons (pe_tup (pa_cons pe_int (pa_cons pe_int pa_nil))) (pa_cons (pe_tup (pa_cons pe_int (pa_cons pe_int pa_nil))) (pa_cons (pe_tup (pa_cons pe_int (pa_cons pe_int pa_nil))) pa_nil)))))) pa_nil))
        (pe_tup (pa_cons pe_int (pa_cons pe_int pa_nil))) (nomark _))))) (pss_one (ps_ret pe_bl)) pss_nil) ?_
    refine blk_cons (ps_ret (pe_cmpR (op_eqD hr.units) (pe_call GU hr (by rfl) gU FU.kp bU .nil pass0 (pa_cons (pe_tup (pa_cons pe_int (pa_cons pe_int (pa_cons pe_int (pa_cons pe_int pa_nil)))))
      (pa_cons (pe_tup (pa_cons (pe_tup (pa_cons pe_int (pa_cons pe_int pa_nil))) (pa_cons (pe_tup (pa_cons pe_int (pa_cons pe_int pa_nil))) (pa_cons pe_non (pa_cons (pe_tup (pa_cons pe_int (pa_cons pe_int pa_nil))) (pa_cons (pe_tup (pa_cons pe_int (pa_cons pe_int pa_nil))) pa_nil))))))
      (pa_cons (pe_tup (pa_cons pe_int (pa_cons pe_int pa_nil))) pa_nil)))) (pe_tup (pa_cons pe_int (pa_cons pe_int (pa_cons pe_int (pa_cons pe_int pa_nil))))) (nomark _))) ?_
    refine blk_nil ?_
    -- heap
    refine ⟨.ref a, rfl, a, ns, rfl, hS, hlen, fun G0 h l L st s0 nh nl hv => ?_⟩
    have atA : ∀ G : Hp, (∀ o, H a = some o → G a = some o) → SqL K G a (ns.map V.int) := fun G k => by
      rcases hS with (z | ⟨o, z⟩) | z
      · exact .inl (.inl (k _ z))
      · exact .inl (.inr ⟨o, k _ z⟩)
      · exact .inr z
    have naB : ∀ {o : HO}, H a = some o → a ≠ h ∧ a ≠ l := fun e => ⟨ne_of_none e nh, ne_of_none e nl⟩
    have kA0 : ∀ o, H a = some o → G0 a = some o := fun o e => s0 _ _ e
    -- sizes = [.. for turn in range(2)]
    dsimp only [gName]
    refine seq_out (t := tAsg _ _) (fun σ' G' => ∃ (z : Addr) (ms : List Int) (L' : List Int) (st' : Int), σ' = [some (.ref a), some (.ref h), none, some (.ref z), none, none, none, none, none, none, none, none] ∧ G' z = some (.lst (ms.map V.int)) ∧ z ≠ h ∧ z ≠ l ∧ ms.length = 2 ∧ (∀ m ∈ ms, 1 ≤ m ∧ m ≤ 300) ∧ Hv G' h l L' st' ∧ ∀ o, H a = some o → G' a = some o) (fun N hN => ?_) (fun σ' G1 hR => ?_)
    · refine ⟨_, rfl, by decide, by decide, fun D nD => ?_⟩
      have neh : h ≠ D := ne_of_none hv.top nD
      have nel : l ≠ D := ne_of_none hv.bot nD
      refine lc_range (lo := 0) (n := 2) (fun i G => But h l G0 G ∧ (∃ L4 st4, Hv G h l L4 st4) ∧ ∃ ms : List Int, G D = some (.lst (ms.map V.int)) ∧ ms.length = i ∧ ∀ m ∈ ms, 1 ≤ m ∧ m ≤ 300)
        ⟨(But.refl _ _ _).new nD, ⟨_, _, hv.new nD⟩, [], upd_same, rfl, fun o ho => absurd ho List.not_mem_nil⟩ (fun i G hi hP => ?_) (fun G hP => ?_)
      · obtain ⟨b4, ⟨L4, st4, hv4⟩, ms, gD, ml2, hm⟩ := hP
        refine ⟨rfl, ?_⟩
        dsimp only [tYes]
        rw [if_pos rfl]
        refine ⟨.ref h, rfl, by show 7 ≤ sizeLine; decide, fun p np => ?_⟩
        refine ⟨h, l, L4, st4, p, [.int 1, .int 2, .int 3, .int 5, .int 7, .int 9, .int 4], rfl, hv4.new np, sqL upd_same, (ne_of_none hv4.top np).symm, (ne_of_none hv4.bot np).symm, by show 0 < 7; decide, by show 7 < 1000; decide, fun G6 L6 st6 j x b6 hv6 hx6 => ?_⟩
        obtain ⟨o, rfl, hoo⟩ : ∃ o : Int, x = .int o ∧ 1 ≤ o ∧ o ≤ 300 := by
          match j, hx6 with
          | 0, hx6 => cases hx6; exact ⟨_, rfl, by decide, by decide⟩
          | 1, hx6 => cases hx6; exact ⟨_, rfl, by decide, by decide⟩
          | 2, hx6 => cases hx6; exact ⟨_, rfl, by decide, by decide⟩
          | 3, hx6 => cases hx6; exact ⟨_, rfl, by decide, by decide⟩
          | 4, hx6 => cases hx6; exact ⟨_, rfl, by decide, by decide⟩
          | 5, hx6 => cases hx6; exact ⟨_, rfl, by decide, by decide⟩
          | 6, hx6 => cases hx6; exact ⟨_, rfl, by decide, by decide⟩
          | _ + 7, hx6 => simp at hx6
        have b46 : But h l G G6 := ((But.refl h l G).new np).trans b6
        refine ⟨ms.map V.int, b46 _ _ neh.symm nel.symm gD, ?_, fun b ob b1 b2 e => ?_, ⟨L6, st6, ?_⟩, ms ++ [o], ?_, ?_, ?_⟩
        · rw [List.length_map]
          exact small1000 (by omega)
        · rw [upd_ne (ne_of_none e nD)]
          exact b46 _ _ b1 b2 (b4 _ _ b1 b2 e)
        · exact ⟨(upd_ne neh).trans hv6.top, (upd_ne nel).trans hv6.bot, hv6.ne, hv6.lo, hv6.hi, hv6.len⟩
        · rw [upd_same, List.map_append]
          rfl
        · rw [List.length_append, ml2]
          rfl
        · intro o' hm'
          rcases List.mem_append.mp hm' with e | e
          · exact hm o' e
          · obtain rfl : o' = o := by simpa using e
            exact hoo
      · obtain ⟨b4, ⟨L4, st4, hv4⟩, ms, gD, ml2, hm⟩ := hP
        exact hN _ _ ⟨D, ms, L4, st4, rfl, gD, neh.symm, nel.symm, ml2, hm, hv4, fun o e => b4 _ _ (naB e).1 (naB e).2 (kA0 o e)⟩
    obtain ⟨z, ms, L1, st1, rfl, gz, nzh, nzl, ml2, hm, hv1, kA1⟩ := hR
    -- if len(script) > 1 and _law_draw(heap, 6) == 0
    refine seq_out (t := tIfS _ _ _) (fun σ' G' => ∃ (z : Addr) (ms : List Int) (L' : List Int) (st' : Int), σ' = [some (.ref a), some (.ref h), none, some (.ref z), none, none, none, none, none, none, none, none] ∧ G' z = some (.lst (ms.map V.int)) ∧ z ≠ h ∧ z ≠ l ∧ ms.length = 2 ∧ (∀ m ∈ ms, 1 ≤ m ∧ m ≤ 300) ∧ Hv G' h l L' st' ∧ ∀ o, H a = some o → G' a = some o) (fun N hN => ?_) (fun σ' G1 hR => ?_)
    · refine ⟨.ref a, rfl, a, _, rfl, .inl (atA _ kA1), _, _, rfl, rfl, _, rfl, ite2 (fun _ => ?_) (fun _ => hN _ _ ⟨z, ms, L1, st1, rfl, gz, nzh, nzl, ml2, hm, hv1, kA1⟩)⟩
      refine ⟨.ref h, rfl, h, l, L1, st1, 6, rfl, hv1, by decide, by decide, fun G2 L2 st2 r b2 hv2 r0 r1 => ?_⟩
      have kA2 : ∀ o, H a = some o → G2 a = some o := fun o e => b2 _ _ (naB e).1 (naB e).2 (kA1 o e)
      have gz2 := b2 _ _ nzh nzl gz
      refine ⟨rfl, _, rfl, ite2 (fun _ => ?_) (fun _ => hN _ _ ⟨z, ms, L2, st2, rfl, gz2, nzh, nzl, ml2, hm, hv2, kA2⟩)⟩
      match ms, ml2, gz2, hm with
      | [m0, m1], _, gz2, hm =>
        refine ⟨.ref z, rfl, z, _, 0, .int m0, rfl, rfl, sqL gz2, atI_nat (j := 0) rfl, by show 2 ≤ sizeLine; decide, fun z2 nz2 => ?_⟩
        exact hN _ _ ⟨z2, [300, m0], L2, st2, rfl, upd_same, (ne_of_none hv2.top nz2).symm, (ne_of_none hv2.bot nz2).symm, rfl, fun m hm2 => by
          rcases List.mem_cons.mp hm2 with e | e
          · rw [e]
            exact ⟨by decide, by decide⟩
          · exact hm m (List.mem_singleton.mp e ▸ List.mem_cons_self), hv2.new nz2, fun o e => (same_new nz2) _ _ (kA2 o e)⟩
    obtain ⟨z, ms, L1, st1, rfl, gz, nzh, nzl, ml2, hm, hv1, kA1⟩ := hR
    -- rows
    refine seq_out (t := tAsg _ _) (fun σ' G' => ∃ (RW c0 c1 : Addr) (n0 n1 : List Int) (L' : List Int) (st' : Int), σ' = [some (.ref a), some (.ref h), none, some (.ref z), none, some (.ref RW), none, none, none, none, none, none] ∧ G' RW = some (.lst [.ref c0, .ref c1]) ∧ RW ≠ h ∧ RW ≠ l ∧ Row G' c0 n0 ∧ Row G' c1 n1 ∧ Hv G' h l L' st' ∧ ∀ o, H a = some o → G' a = some o) (fun N hN => ?_) (fun σ' G2 hR => ?_)
    · refine ⟨.ref z, rfl, z, rfl, ⟨_, sqL gz⟩, fun D nD => ?_⟩
      have neh : h ≠ D := ne_of_none hv1.top nD
      have nel : l ≠ D := ne_of_none hv1.bot nD
      refine lc_list (K := K) (a := z) (xs := ms.map V.int) (fun i G => But h l G1 G ∧ (∃ L4 st4, Hv G h l L4 st4) ∧ ∃ (cs : List Addr) (nss : List (List Int)), G D = some (.lst (cs.map V.ref)) ∧ cs.length = i ∧ Paired (Row G) cs nss)
        ⟨(But.refl _ _ _).new nD, ⟨_, _, hv1.new nD⟩, [], [], upd_same, rfl, .nil⟩ (fun i G _ hP => sqL (hP.1 _ _ nzh nzl gz)) (fun i x G hx hP => ?_) (fun G hP => ?_)
      · obtain ⟨b4, ⟨L4, st4, hv4⟩, cs, nss, gD, cl, hcs⟩ := hP
        obtain ⟨m, hm1, rfl⟩ := map_at hx
        obtain ⟨m1, m2⟩ := hm m (List.mem_of_getElem? hm1)
        have hi : i < ms.length := (List.getElem?_eq_some_iff.mp hm1).1
        refine ⟨rfl, ?_⟩
        dsimp only [tYes]
        rw [if_pos rfl]
        refine ⟨_, rfl, _, rfl, by omega, by omega, fun D2 nD2 => ?_⟩
        have neh2 : h ≠ D2 := ne_of_none hv4.top nD2
        have nel2 : l ≠ D2 := ne_of_none hv4.bot nD2
        refine lc_range (lo := 0) (n := m.toNat) (fun j J => But h l G J ∧ (∃ L4 st4, Hv J h l L4 st4) ∧ ∃ os : List Int, J D2 = some (.lst (os.map V.int)) ∧ os.length = j ∧ ∀ o ∈ os, Oct o)
          ⟨(But.refl _ _ _).new nD2, ⟨_, _, hv4.new nD2⟩, [], upd_same, rfl, fun o ho => absurd ho List.not_mem_nil⟩ (fun j J hj hQ => ?_) (fun J hQ => ?_)
        · obtain ⟨b5, ⟨L5, st5, hv5⟩, os, gD2, ol, ho⟩ := hQ
          refine ⟨rfl, ?_⟩
          dsimp only [tYes]
          rw [if_pos rfl]
          refine ⟨.ref h, rfl, h, l, L5, st5, rfl, hv5, fun G6 L6 st6 o b6 hv6 o0 o1 => ?_⟩
          refine ⟨os.map V.int, b6 _ _ neh2.symm nel2.symm gD2, ?_, fun b ob e1 e2 e => ?_, ⟨L6, st6, ?_⟩, os ++ [o], ?_, ?_, ?_⟩
          · rw [List.length_map]
            exact small1000 (by omega)
          · rw [upd_ne (ne_of_none e nD2)]
            exact b6 _ _ e1 e2 (b5 _ _ e1 e2 e)
          · exact ⟨(upd_ne neh2).trans hv6.top, (upd_ne nel2).trans hv6.bot, hv6.ne, hv6.lo, hv6.hi, hv6.len⟩
          · rw [upd_same, List.map_append]
            rfl
          · rw [List.length_append, ol]
            rfl
          · intro o' hm'
            rcases List.mem_append.mp hm' with e | e
            · exact ho o' e
            · obtain rfl : o' = o := by simpa using e
              exact ⟨o0, o1⟩
        · obtain ⟨b5, ⟨L5, st5, hv5⟩, os, gD2, ol, ho⟩ := hQ
          refine ⟨D2, _, rfl, .inl ⟨sqL gD2, fun c nc => ?_⟩⟩
          have gD5 := b5 _ _ neh.symm nel.symm gD
          have gD6 := (upd_ne (o := .tup (os.map V.int)) (ne_of_none gD5 nc)).trans gD5
          have ncD : c ≠ D := (ne_of_none gD5 nc).symm
          refine ⟨_, gD6, ?_, fun b ob e1 e2 e => ?_, ⟨L5, st5, ?_⟩, cs ++ [c], nss ++ [os], ?_, ?_, ?_⟩
          · rw [List.length_map]
            exact small1000 (by omega)
          · rw [upd_ne (ne_of_none e nD)]
            have e4 := b5 _ _ e1 e2 (b4 _ _ e1 e2 e)
            exact (upd_ne (ne_of_none e4 nc)).trans e4
          · have hv6 := hv5.new (o := .tup (os.map V.int)) nc
            exact ⟨(upd_ne neh).trans hv6.top, (upd_ne nel).trans hv6.bot, hv6.ne, hv6.lo, hv6.hi, hv6.len⟩
          · rw [upd_same, List.map_append]
            rfl
          · rw [List.length_append, cl]
            rfl
          · have k1 : KeepT G (upd (upd J c (.tup (os.map V.int))) D (.lst (cs.map V.ref ++ [.ref c]))) := ((KeepT.but hv4 b5).trans (.of (same_new nc))).trans (.put gD6)
            exact paired_snoc (paired_mono (fun _ _ r => r.keep k1) hcs) ⟨(upd_ne ncD).trans upd_same, ho, by omega, by omega⟩
      · obtain ⟨b4, ⟨L4, st4, hv4⟩, cs, nss, gD, cl, hcs⟩ := hP
        rw [List.length_map, ml2] at cl
        match cs, nss, cl, gD, hcs with
        | [c0, c1], _, _, gD, .cons r0 (.cons r1 .nil) => exact hN _ _ ⟨D, c0, c1, _, _, L4, st4, rfl, gD, neh.symm, nel.symm, r0, r1, hv4, fun o e => b4 _ _ (naB e).1 (naB e).2 (kA1 o e)⟩
    obtain ⟨RW, c0, c1, n0, n1, L2, st2, rfl, gRW, nWh, nWl, row0, row1, hv2, kA2⟩ := hR
    -- disks, runs
    refine seq_out (t := tAsg _ _) (fun σ' G' => ∃ (D RN : Addr) (g : Nat → Gm) (L' : List Int) (st' : Int), σ' = [some (.ref a), some (.ref h), none, some (.ref z), none, some (.ref RW), some (.ref D), some (.ref RN), none, none, none, none] ∧ Two K C G' h l D RW RN g L' st' (fun _ => []) ∧ Far h l D RW RN g ∧
      (∀ o, H a = some o → ∀ b, b < 2 → a ∉ (g b).S h l) ∧ ∀ o, H a = some o → G' a = some o) (fun N hN => ?_) (fun σ' G3 hR => ?_)
    · refine ⟨.ref RW, rfl, RW, rfl, ⟨_, sqL gRW⟩, fun D nD => ?_⟩
      refine lc_list (K := K) (a := RW) (xs := [.ref c0, .ref c1]) (PvD K C G2 D c0 c1 n0 n1) ⟨same_new nD, upd_same⟩ (fun i G _ hP => ?_) (fun i x G hx hP => ?_) (fun G hP => ?_)
      · match i, hP with
        | 0, hP => exact sqL (hP.1 _ _ gRW)
        | 1, hP => exact sqL (hP.1 _ _ gRW)
        | _ + 2, hP => exact sqL (hP.1 _ _ gRW)
      · refine ⟨rfl, ?_⟩
        dsimp only [tYes]
        rw [if_pos rfl]
        match i, hx, hP with
        | 0, hx, hP =>
          cases hx
          obtain ⟨s1, gD⟩ := hP
          refine ⟨_, rfl, fun p dx np nd nep => init_good (sqT (s1 _ _ row0.1)) row0.2.1 row0.2.2.1 (Nat.le_trans row0.2.2.2 (by decide)) np nd nep fun G5 dl de s5 nl' ne' _ _ dk => ⟨rfl, [], s5 _ _ gD, by show 0 < sizeLine; decide, ?_⟩⟩
          have gD5 := s5 _ _ gD
          have e1 : dl ≠ D := (ne_of_none gD nl').symm
          have e2 : de ≠ D := (ne_of_none gD ne').symm
          refine ⟨fun b o e => ?_, p, dx, dl, de, upd_same, dk.frm (S := [D]) (.put gD5 (by simp)) (by simpa using e1) (by simpa using e2), s1.free nl', s1.free ne', e1, e2⟩
          exact (upd_ne (ne_of_none e nD)).trans (s5 _ _ (s1 _ _ e))
        | 1, hx, hP =>
          cases hx
          obtain ⟨s1, p0, x0, l0, e0, gD, dk0, f1, f2, f3, f4⟩ := hP
          refine ⟨_, rfl, fun p dx np nd nep => init_good (sqT (s1 _ _ row1.1)) row1.2.1 row1.2.2.1 (Nat.le_trans row1.2.2.2 (by decide)) np nd nep fun G5 dl de s5 nl' ne' _ _ dk => ⟨rfl, [.ref p0], s5 _ _ gD, by show 1 < sizeLine; decide, ?_⟩⟩
          have gD5 := s5 _ _ gD
          have e1 : dl ≠ D := (ne_of_none gD nl').symm
          have e2 : de ≠ D := (ne_of_none gD ne').symm
          obtain ⟨hv0, he0, _⟩ := dk0.hap
          have dk5 := (dk0.frm (S := []) (.same s5) (by simp) (by simp)).frm (S := [D]) (.put (o := .lst ([.ref p0] ++ [.ref p])) gD5 (by simp)) (by simpa using f3) (by simpa using f4)
          refine ⟨fun b o e => ?_, p0, x0, l0, e0, p, dx, dl, de, upd_same, dk5, dk.frm (S := [D]) (.put gD5 (by simp)) (by simpa using e1) (by simpa using e2), ⟨f1, f2, s1.free nl', s1.free ne'⟩, ⟨f3, f4, e1, e2⟩,
            (ne_of_none dk0.pre nl').symm, (ne_of_none he0 nl').symm, (ne_of_none dk0.pre ne').symm, (ne_of_none he0 ne').symm⟩
          exact (upd_ne (ne_of_none e nD)).trans (s5 _ _ (s1 _ _ e))
        | _ + 2, hx, _ => simp at hx
      · obtain ⟨s1, p0, x0, l0, e0, p1, x1, l1, e1, gD, dk0, dk1, ⟨f1, f2, f3, f4⟩, ⟨d1, d2, d3, d4⟩, q1, q2, q3, q4⟩ := hP
        have hvG := hv2.same s1
        have gW := s1 _ _ gRW
        obtain ⟨_, he0, _⟩ := dk0.hap
        obtain ⟨_, he1, _⟩ := dk1.hap
        have hl0 := dk0.pre
        have hl1 := dk1.pre
        refine ⟨Nat.zero_le _, fun r0 nr0 => ⟨Nat.zero_le _, fun r1 nr1 => ⟨by show 2 ≤ sizeLine; decide, fun RN nRN => ⟨by show 2 ≤ sizeLine; decide, fun tq ntq => ⟨tq, _, rfl, sqT upd_same, rfl, _, _, rfl, _, _, rfl, rfl, ?_⟩⟩⟩⟩⟩
        have t1 : Same G (upd G r0 (.lst [])) := same_new nr0
        have t2 := t1.trans (same_new (o := .lst []) nr1)
        have t3 := t2.trans (same_new (o := .lst [.ref r0, .ref r1]) nRN)
        have t4 := t3.trans (same_new (o := .tup [.ref D, .ref RN]) ntq)
        have g0 := (same_new (o := .lst []) nr1) _ _ (upd_same (H := G) (a := r0) (o := .lst []))
        have g01 := (same_new (o := .lst [.ref r0, .ref r1]) nRN) _ _ g0
        have g1 := (same_new (o := .lst [.ref r0, .ref r1]) nRN) _ _ (upd_same (H := upd G r0 (.lst [])) (a := r1) (o := .lst []))
        have gN := (same_new (o := .tup [.ref D, .ref RN]) ntq) _ _ (upd_same (H := upd (upd G r0 (.lst [])) r1 (.lst [])) (a := RN) (o := .lst [.ref r0, .ref r1]))
        have gr0 := (same_new (o := .tup [.ref D, .ref RN]) ntq) _ _ g01
        have gr1 := (same_new (o := .tup [.ref D, .ref RN]) ntq) _ _ g1
        have fr0 : ∀ {x : Addr} {o : HO}, G x = some o → r0 ≠ x := fun e => (ne_of_none e nr0).symm
        have fr1 : ∀ {x : Addr} {o : HO}, G x = some o → r1 ≠ x := fun e => (ne_of_none (t1 _ _ e) nr1).symm
        have frN : ∀ {x : Addr} {o : HO}, G x = some o → RN ≠ x := fun e => (ne_of_none (t2 _ _ e) nRN).symm
        have r10 : r1 ≠ r0 := (ne_of_none upd_same nr1).symm
        have rN0 : RN ≠ r0 := (ne_of_none g0 nRN).symm
        have rN1 : RN ≠ r1 := (ne_of_none upd_same nRN).symm
        have fh : ∀ {x : Addr}, G2 x = none → x ≠ h := fun e => (ne_of_none hv2.top e).symm
        have fl : ∀ {x : Addr}, G2 x = none → x ≠ l := fun e => (ne_of_none hv2.bot e).symm
        have fw : ∀ {x : Addr}, G2 x = none → RW ≠ x := fun e => ne_of_none gRW e
        refine hN _ _ ⟨D, RN, fun b => if b = 0 then ⟨p0, x0, c0, l0, e0, r0, n0⟩ else ⟨p1, x1, c1, l1, e1, r1, n1⟩, L2, st2, rfl, ⟨fun b hb => ?_, t4 _ _ gD, t4 _ _ gW, gN⟩, ⟨fun b hb => ?_, fun b c hb hc hbc => ?_, fun b hb => ?_, fun b hb => ?_, fun b hb => ?_, fun b hb => ?_, fun b hb => ?_, fun b hb => ?_⟩, fun o e b hb => ?_, fun o e => t4 _ _ (s1 _ _ (kA2 o e))⟩
        · match b, hb with
          | 0, _ => exact ⟨hvG.same t4, dk0.frm (S := []) (.same t4) (by simp) (by simp), ⟨[], gr0, .nil⟩, evs_nil _⟩
          | 1, _ => exact ⟨hvG.same t4, dk1.frm (S := []) (.same t4) (by simp) (by simp), ⟨[], gr1, .nil⟩, evs_nil _⟩
        · match b, hb with
          | 0, _ => exact ⟨fh f1, fl f1, fh f2, fl f2, fr0 hvG.top, fr0 hvG.bot, fr0 hl0, fr0 he0⟩
          | 1, _ => exact ⟨fh f3, fl f3, fh f4, fl f4, fr1 hvG.top, fr1 hvG.bot, fr1 hl1, fr1 he1⟩
        · match b, c, hb, hc with
          | 0, 0, _, _ => exact absurd rfl hbc
          | 1, 1, _, _ => exact absurd rfl hbc
          | 0, 1, _, _ => exact ⟨nin5 (fh f1) (fl f1) q1.symm q3.symm (fr1 hl0).symm, nin5 (fh f2) (fl f2) q2.symm q4.symm (fr1 he0).symm, nin5 (fr0 hvG.top) (fr0 hvG.bot) (fr0 hl1) (fr0 he1) r10.symm⟩
          | 1, 0, _, _ => exact ⟨nin5 (fh f3) (fl f3) q1 q2 (fr0 hl1).symm, nin5 (fh f4) (fl f4) q3 q4 (fr0 he1).symm, nin5 (fr1 hvG.top) (fr1 hvG.bot) (fr1 hl0) (fr1 he0) r10⟩
        · match b, hb with
          | 0, _ => exact nin5 (fh nD) (fl nD) d1.symm d2.symm (fr0 gD).symm
          | 1, _ => exact nin5 (fh nD) (fl nD) d3.symm d4.symm (fr1 gD).symm
        · match b, hb with
          | 0, _ => exact nin5 nWh nWl (fw f1) (fw f2) (fr0 gW).symm
          | 1, _ => exact nin5 nWh nWl (fw f3) (fw f4) (fr1 gW).symm
        · match b, hb with
          | 0, _ => exact nin5 (frN hvG.top) (frN hvG.bot) (frN hl0) (frN he0) rN0
          | 1, _ => exact nin5 (frN hvG.top) (frN hvG.bot) (frN hl1) (frN he1) rN1
        · match b, hb with
          | 0, _ => exact row0.2.2.1
          | 1, _ => exact row1.2.2.1
        · match b, hb with
          | 0, _ => exact Nat.le_trans row0.2.2.2 (by decide)
          | 1, _ => exact Nat.le_trans row1.2.2.2 (by decide)
        · match b, hb with
          | 0, _ => exact row0.2.1
          | 1, _ => exact row1.2.1
        · have ea := kA2 o e
          have eG := s1 _ _ ea
          match b, hb with
          | 0, _ => exact nin5 (naB e).1 (naB e).2 (ne_of_none ea f1) (ne_of_none ea f2) (fr0 eG).symm
          | 1, _ => exact nin5 (naB e).1 (naB e).2 (ne_of_none ea f3) (ne_of_none ea f4) (fr1 eG).symm
    obtain ⟨D, RN, g, L3, st3, rfl, tw3, far, naS, kA3⟩ := hR
    -- the game
    refine seq_out (t := tFor _ _ _) (fun σ' G' => ∃ (y2 y4 : Option V) (e : Nat → List Ev) (L' : List Int) (st' : Int), σ' = [some (.ref a), some (.ref h), y2, some (.ref z), y4, some (.ref RW), some (.ref D), some (.ref RN), none, none, none, none] ∧ Two K C G' h l D RW RN g L' st' e ∧ (∀ b, b < 2 → (e b).length < 60) ∧ ∀ o, H a = some o → G' a = some o) (fun N hN => ?_) (fun σ' G4 hR => ?_)
    · refine ⟨.ref h, rfl, h, l, L3, st3, 9, rfl, tw3.hv, by decide, by decide, fun G5 L5 st5 r b5 hv5 r0 r1 => ?_⟩
      have tw5 := tw3.but far b5 hv5
      have kA5 : ∀ o, H a = some o → G5 a = some o := fun o e => b5 _ _ (naB e).1 (naB e).2 (kA3 o e)
      refine ⟨_, _, rfl, rfl, .ref a, rfl, a, _, rfl, .inl (atA _ kA5), _, _, rfl, rfl, .inr ⟨_, rfl, _, _, rfl, rfl, .inl ⟨by decide, by decide⟩, _, _, rfl, rfl, _, rfl, ?_, ?_, ?_⟩⟩
      · split <;> omega
      · split <;> omega
      refine for_range (lo := 0) (fun i σ G => ∃ (y2 y4 : Option V) (e : Nat → List Ev) (L' : List Int) (st' : Int), σ = [some (.ref a), some (.ref h), y2, some (.ref z), y4, some (.ref RW), some (.ref D), some (.ref RN), none, none, none, none] ∧ Two K C G h l D RW RN g L' st' e ∧ (∀ b, b < 2 → (e b).length ≤ i) ∧ ∀ o, H a = some o → G a = some o)
        ⟨none, none, fun _ => [], L5, st5, rfl, tw5, fun b hb => Nat.le_refl _, kA5⟩ (fun i σ G hi hP => ?_) (fun σ G hP => ?_)
      · obtain ⟨y2, y4, e, L6, st6, rfl, tw6, hel, kA6⟩ := hP
        have hi2 : i < 33 := by
          revert hi
          split <;> intro hi <;> omega
        dsimp only [gName]
        -- at = _law_draw(heap, 2)
        refine ⟨.ref h, rfl, h, l, L6, st6, 2, rfl, tw6.hv, by decide, by decide, fun G7 L7 st7 r7 b7 hv7 r70 r71 => ?_⟩
        obtain ⟨b, rfl⟩ := Int.eq_ofNat_of_zero_le r70
        have hb : b < 2 := by omega
        have tw7 := tw6.but far b7 hv7
        have kA7 : ∀ o, H a = some o → G7 a = some o := fun o e => b7 _ _ (naB e).1 (naB e).2 (kA6 o e)
        -- if not _law_play(..)
        refine ⟨.ref h, rfl, _, rfl, _, rfl, D, _, _, _, rfl, rfl, sqL tw7.lD, two_at (fun a => .ref (g a).p) hb, _, rfl, _, rfl, RW, _, _, _, rfl, rfl, sqL tw7.lW, two_at (fun a => .ref (g a).c) hb, _, rfl, _, rfl, RN, _, _, _, rfl, rfl, sqL tw7.lN, two_at (fun a => .ref (g a).r) hb, ?_⟩
        refine ⟨h, l, (g b).p, (g b).dx, (g b).c, (g b).dl, (g b).de, (g b).r, L7, st7, (g b).cells, e b, rfl, tw7.pl b hb, far.sep b hb, far.lo b hb, far.hi b hb, far.oc b hb, by have := hel b hb; omega, fun G8 L8 st8 e1 fr8 pl8 hl8 => ?_⟩
        refine ⟨_, rfl, iteF ?_⟩
        have tw8 := tw7.step far hb fr8 pl8
        have kA8 : ∀ o, H a = some o → G8 a = some o := fun o e => fr8.ks _ _ (naS o e b hb) (kA7 o e)
        obtain ⟨e8, he8⟩ : ∃ e8 : Nat → List Ev, e8 = fun c => if c = b then e1 else e c := ⟨_, rfl⟩
        rw [← he8] at tw8
        have hel8 : ∀ c, c < 2 → (e8 c).length ≤ i + 1 := fun c hc => by
          rw [he8]
          show (if c = b then e1 else e c).length ≤ i + 1
          have h1 := hel c hc
          have h2 := hel b hb
          split <;> omega
        clear he8 hl8 pl8 fr8
        have fin : ∀ (G9 : Hp) (L9 : List Int) (st9 : Int) (y : Option V), Two K C G9 h l D RW RN g L9 st9 e8 → (∀ o, H a = some o → G9 a = some o) → ∃ (y2 y4 : Option V) (e : Nat → List Ev) (L' : List Int) (st' : Int), [some (.ref a), some (.ref h), some (.int (0 + (i : Int))), some (.ref z), some (.int (b : Int)), some (.ref RW), some (.ref D), some (.ref RN), none, none, none, none] = [some (.ref a), some (.ref h), y2, some (.ref z), y4, some (.ref RW), some (.ref D), some (.ref RN), none, none, none, none] ∧ Two K C G9 h l D RW RN g L' st' e ∧ (∀ b, b < 2 → (e b).length ≤ i + 1) ∧ ∀ o, H a = some o → G9 a = some o :=
          fun G9 L9 st9 y tw k => ⟨_, _, e8, L9, st9, rfl, tw, hel8, k⟩
        -- if turn > 5 and ..
        refine ⟨_, rfl, _, _, rfl, rfl, _, rfl, ite2 (fun _ => ?_) (fun _ => fin G8 L8 st8 none tw8 kA8)⟩
        refine ⟨.ref h, rfl, h, l, L8, st8, 5, rfl, tw8.hv, by decide, by decide, fun G9 L9 st9 r9 b9 hv9 r90 r91 => ?_⟩
        have tw9 := tw8.but far b9 hv9
        have kA9 : ∀ o, H a = some o → G9 a = some o := fun o e => b9 _ _ (naB e).1 (naB e).2 (kA8 o e)
        refine ⟨rfl, _, rfl, ite2 (fun _ => ?_) (fun _ => fin G9 L9 st9 none tw9 kA9)⟩
        have pl9 := tw9.pl b hb
        obtain ⟨us, hr9, hd9⟩ := pl9.run
        obtain ⟨f1, f2, f3⟩ := fine_tup (fine_evs pl9.ev (far.hi b hb))
        refine ⟨_, rfl, _, rfl, D, _, _, _, rfl, rfl, sqL tw9.lD, two_at (fun a => .ref (g a).p) hb, (g b).p, (g b).dx, _, rfl, pl9.dk.obj, df_no _ _ _ (by decide +kernel) (by decide +kernel) (by decide +kernel), (g b).p, (g b).dx, (g b).c, (g b).dl, (g b).de, (g b).cells, _, e8 b, rfl, pl9.dk, fun G10 t10 us10 s10 ht10 hd10 => ?_⟩
        refine ⟨t10, _, rfl, .tup ht10 hd10, f1, f2, f3, ?_⟩
        refine ⟨_, rfl, _, rfl, RN, _, _, _, rfl, rfl, sqL (s10 _ _ tw9.lN), two_at (fun a => .ref (g a).r) hb, (g b).r, us, rfl, .inl ⟨sqL (s10 _ _ hr9), fun q11 nq11 => ?_⟩⟩
        have s11 := s10.trans (same_new (o := .tup us) nq11)
        refine ⟨q11, _, rfl, .tup (sqT upd_same) (dpAll_same s11 _ _ hd9), f1, f2, f3, rfl, _, rfl, ?_⟩
        rw [decide_eq_true rfl]
        exact iteF (fin _ L9 st9 none (tw9.same s11) fun o e => s11 _ _ (kA9 o e))
      · obtain ⟨y2, y4, e, L6, st6, rfl, tw6, hel, kA6⟩ := hP
        refine hN _ _ ⟨_, _, e, L6, st6, rfl, tw6, fun b hb => Nat.lt_of_le_of_lt (hel b hb) ?_, kA6⟩
        split <;> omega
    obtain ⟨y2, y4, e, L4, st4, rfl, tw4, hel, kA4⟩ := hR
    -- the looks
    refine seq_out (t := tFor _ _ _) (fun σ' G' => ∃ (y2 y4 y8 : Option V) (L' : List Int) (st' : Int), σ' = [some (.ref a), some (.ref h), y2, some (.ref z), y4, some (.ref RW), some (.ref D), some (.ref RN), y8, none, none, none] ∧ Two K C G' h l D RW RN g L' st' e ∧ ∀ o, H a = some o → G' a = some o) (fun N hN => ?_) (fun σ' G5 hR => ?_)
    · refine ⟨_, rfl, by decide, by decide, for_range (lo := 0) (fun i σ G => ∃ (y2 y4 y8 : Option V) (L' : List Int) (st' : Int), σ = [some (.ref a), some (.ref h), y2, some (.ref z), y4, some (.ref RW), some (.ref D), some (.ref RN), y8, none, none, none] ∧ Two K C G h l D RW RN g L' st' e ∧ ∀ o, H a = some o → G a = some o)
        ⟨y2, y4, none, L4, st4, rfl, tw4, kA4⟩ (fun i σ G hi hP => ?_) (fun σ G hP => ?_)⟩
      · obtain ⟨y2, y4, y8, L6, st6, rfl, tw6, kA6⟩ := hP
        have hb : i < 2 := hi
        dsimp only [gName]
        have ez : (0 + (i : Int)) = (i : Int) := by omega
        rw [ez]
        -- events = disks[at].events()
        have pl6 := tw6.pl i hb
        obtain ⟨us, hr6, hd6⟩ := pl6.run
        obtain ⟨f1, f2, f3⟩ := fine_tup (fine_evs pl6.ev (far.hi i hb))
        refine ⟨_, rfl, _, rfl, D, _, _, _, rfl, rfl, sqL tw6.lD, two_at (fun a => .ref (g a).p) hb, (g i).p, (g i).dx, _, rfl, pl6.dk.obj, df_no _ _ _ (by decide +kernel) (by decide +kernel) (by decide +kernel), (g i).p, (g i).dx, (g i).c, (g i).dl, (g i).de, (g i).cells, _, e i, rfl, pl6.dk, fun G7 t7 us7 s7 ht7 hd7 => ?_⟩
        have tw7 := tw6.same s7
        have kA7 : ∀ o, H a = some o → G7 a = some o := fun o e => s7 _ _ (kA6 o e)
        -- repr(events) != repr(tuple(runs[at]))
        refine ⟨_, rfl, t7, _, rfl, .tup ht7 hd7, f1, f2, f3, _, rfl, _, rfl, RN, _, _, _, rfl, rfl, sqL tw7.lN, two_at (fun a => .ref (g a).r) hb, (g i).r, us, rfl, .inl ⟨sqL (s7 _ _ hr6), fun q8 nq8 => ?_⟩⟩
        have s8 := same_new (o := .tup us) nq8
        refine ⟨q8, _, rfl, .tup (sqT upd_same) (dpAll_same (s7.trans s8) _ _ hd6), f1, f2, f3, rfl, _, rfl, ?_⟩
        rw [decide_eq_true rfl]
        refine iteF ?_
        have tw8 := tw7.same s8
        have kA8 : ∀ o, H a = some o → (upd G7 q8 (.tup us)) a = some o := fun o e => s8 _ _ (kA7 o e)
        have ht8 := same_seqT s8 ht7
        have hd8 := dpAll_same s8 _ _ hd7
        generalize upd G7 q8 (.tup us) = G8 at tw8 kA8 ht8 hd8 ⊢
        have pl8 := tw8.pl i hb
        -- disks[at].cells != rows[at]
        obtain ⟨c1', c2', _⟩ := ints_fine (l := (g i).cells) (fun x hx => oct_nat (far.oc i hb x hx)) (far.hi i hb)
        refine ⟨_, rfl, _, rfl, D, _, _, _, rfl, rfl, sqL tw8.lD, two_at (fun a => .ref (g a).p) hb, (g i).p, C, (g i).dx, _, _, rfl, pl8.dk.obj, T.cl, T.nC, df_c _ _ _, _, rfl, _, rfl, RW, _, _, _, rfl, rfl, sqL tw8.lW, two_at (fun a => .ref (g a).c) hb, _, _, dp_tup pl8.dk.cel, dp_tup pl8.dk.cel, fine_shaped c1' c2', fine_shaped c1' c2', _, rfl, ?_⟩
        rw [fine_eqv c1']
        refine iteF ?_
        have hlu : us7.length = (e i).length := by rw [dpAll_len hd8, List.length_map]
        have hl60 := hel i hb
        -- three cuts
        dsimp only [tNext]
        refine seq_out (t := tFor _ _ _) (fun σ' G' => ∃ (y2 : Option V) (L' : List Int) (st' : Int), σ' = [some (.ref a), some (.ref h), y2, some (.ref z), some (.int (i : Int)), some (.ref RW), some (.ref D), some (.ref RN), some (.ref t7), none, none, none] ∧ Two K C G' h l D RW RN g L' st' e ∧ SqT K G' t7 us7 ∧ DpAll K G' us7 ((e i).map evD) ∧ ∀ o, H a = some o → G' a = some o) (fun N2 hN2 => ?_) (fun σ' G9 hR => ?_)
        · refine ⟨_, rfl, by decide, by decide, for_range (lo := 0) (fun j σ G => ∃ (y2 : Option V) (L' : List Int) (st' : Int), σ = [some (.ref a), some (.ref h), y2, some (.ref z), some (.int (i : Int)), some (.ref RW), some (.ref D), some (.ref RN), some (.ref t7), none, none, none] ∧ Two K C G h l D RW RN g L' st' e ∧ SqT K G t7 us7 ∧ DpAll K G us7 ((e i).map evD) ∧ ∀ o, H a = some o → G a = some o)
            ⟨_, L6, st6, rfl, tw8, ht8, hd8, kA8⟩ (fun j σ G hj hP => ?_) (fun σ G hP => ?_)⟩
          · obtain ⟨y2, L9, st9, rfl, tw9, ht9, hd9, kA9⟩ := hP
            dsimp only [gName]
            refine ⟨_, rfl, _, rfl, _, rfl, RW, _, _, _, rfl, rfl, sqL tw9.lW, two_at (fun a => .ref (g a).c) hb, ?_⟩
            refine ⟨_, rfl, _, rfl, _, rfl, _, rfl, t7, _, rfl, .inr ht9, _, _, rfl, rfl, h, l, L9, st9, _, rfl, tw9.hv, by omega, by omega, fun G10 L10 st10 r10 b10 hv10 r100 r101 => ?_⟩
            have tw10 := tw9.but far b10 hv10
            have k10 := KeepT.but tw9.hv b10
            have kA10 : ∀ o, H a = some o → G10 a = some o := fun o e => b10 _ _ (naB e).1 (naB e).2 (kA9 o e)
            refine ⟨_, rfl, t7, _, rfl, .inr (k10.seqT ht9), by show 2 ≤ sizeLine; decide, fun p11 n11 => ?_⟩
            refine ⟨h, l, L10, st10, p11, [.int r10, .int (us7.length : Int)], rfl, hv10.new n11, sqL upd_same, (ne_of_none hv10.top n11).symm, (ne_of_none hv10.bot n11).symm, by show 0 < 2; decide, by show 2 < 1000; decide, fun G12 L12 st12 j12 x12 b12 hv12 hx12 => ?_⟩
            obtain ⟨n, rfl, hnl⟩ : ∃ n : Nat, x12 = .int (n : Int) ∧ n ≤ us7.length := by
              match j12, hx12 with
              | 0, hx =>
                cases hx
                obtain ⟨n, rfl⟩ := Int.eq_ofNat_of_zero_le r100
                exact ⟨n, rfl, by omega⟩
              | 1, hx =>
                cases hx
                exact ⟨_, rfl, Nat.le_refl _⟩
              | _ + 2, hx => simp at hx
            have s11 : Same G10 (upd G10 p11 (.lst [.int r10, .int (us7.length : Int)])) := same_new n11
            have tw12 := (tw10.same s11).but far b12 hv12
            have k12 : KeepT G10 G12 := (KeepT.of s11).trans (KeepT.but (hv10.same s11) b12)
            have kA12 : ∀ o, H a = some o → G12 a = some o := fun o e => b12 _ _ (naB e).1 (naB e).2 (s11 _ _ (kA10 o e))
            have ht12 := k12.seqT (k10.seqT ht9)
            have hd12 := dpAll_keep (k10.trans k12) _ _ (noList_ev (e i)) hd9
            have pl12 := tw12.pl i hb
            have fin : ∀ (G13 : Hp) (L13 : List Int) (st13 : Int), But h l G12 G13 → Hv G13 h l L13 st13 → ∃ (y2 : Option V) (L' : List Int) (st' : Int), [some (.ref a), some (.ref h), some (.int (0 + (j : Int))), some (.ref z), some (.int (i : Int)), some (.ref RW), some (.ref D), some (.ref RN), some (.ref t7), none, none, none] = [some (.ref a), some (.ref h), y2, some (.ref z), some (.int (i : Int)), some (.ref RW), some (.ref D), some (.ref RN), some (.ref t7), none, none, none] ∧ Two K C G13 h l D RW RN g L' st' e ∧ SqT K G13 t7 us7 ∧ DpAll K G13 us7 ((e i).map evD) ∧ ∀ o, H a = some o → G13 a = some o := fun G13 L13 st13 b13 hv13 =>
              ⟨_, L13, st13, rfl, tw12.but far b13 hv13, (KeepT.but hv12 b13).seqT ht12, dpAll_keep (KeepT.but hv12 b13) _ _ (noList_ev (e i)) hd12, fun o e => b13 _ _ (naB e).1 (naB e).2 (kA12 o e)⟩
            refine ⟨(n : Int), rfl, t7, us7, rfl, ht12, fun _ => ?_, fun _ p13 n13 => ?_⟩
            · exact ⟨h, l, (g i).c, t7, L12, st12, (g i).cells, us7, e i, rfl, hv12, pl12.dk.cel, ht12, hd12, pl12.ev, far.hi i hb, far.oc i hb, fun G13 L13 st13 b13 hv13 => ⟨_, rfl, iteF (fin G13 L13 st13 b13 hv13)⟩⟩
            · have s13 := same_new (o := .tup (cutV us7 none (some (n : Int)))) n13
              have hp13 : SqT K (upd G12 p13 (.tup (cutV us7 none (some (n : Int))))) p13 (us7.take n) := by
                rw [cut_take us7 n hnl]
                exact sqT upd_same
              have hd13 := dpAll_same s13 _ _ (dpAll_take n hd12)
              rw [← List.map_take] at hd13
              exact ⟨h, l, (g i).c, p13, L12, st12, (g i).cells, us7.take n, (e i).take n, rfl, hv12.same s13, same_seqT s13 pl12.dk.cel, hp13, hd13, pl12.ev.take n, far.hi i hb, far.oc i hb, fun G13 L13 st13 b13 hv13 => ⟨_, rfl, iteF (fin G13 L13 st13 (fun b o h1 h2 e => b13 b o h1 h2 (s13 _ _ e)) hv13)⟩⟩
          · obtain ⟨y2, L9, st9, rfl, tw9, ht9, hd9, kA9⟩ := hP
            exact hN2 _ _ ⟨_, L9, st9, rfl, tw9, ht9, hd9, kA9⟩
        obtain ⟨y2', L9, st9, rfl, tw9, ht9, hd9, kA9⟩ := hR
        -- [disks[at].look(place) ..] != [_law_last(..) ..]
        have pl9 := tw9.pl i hb
        have hrl : (replay (g i).cells (e i)).length = (g i).cells.length := replay_len _ _
        have hhi := far.hi i hb
        refine ⟨_, rfl, _, rfl, RW, _, _, _, rfl, rfl, sqL tw9.lW, two_at (fun a => .ref (g a).c) hb, (g i).c, _, rfl, .inr pl9.dk.cel, _, rfl, by omega, by rw [List.length_map]; omega, fun D1 nD1 => ?_⟩
        refine lc_range (lo := 0) (fun j G => Same G9 G ∧ G D1 = some (.lst (((replay (g i).cells (e i)).take j).map V.int))) ⟨same_new nD1, upd_same⟩ (fun j G hj hP => ?_) (fun G hP => ?_)
        · obtain ⟨s10, gD1⟩ := hP
          rw [List.length_map] at hj
          have hj2 : j < (replay (g i).cells (e i)).length := by omega
          have hv := List.getElem?_eq_getElem hj2
          have tw10 := tw9.same s10
          have pl10 := tw10.pl i hb
          refine ⟨rfl, ?_⟩
          dsimp only [tYes]
          rw [if_pos rfl]
          refine ⟨_, rfl, _, rfl, D, _, _, _, rfl, rfl, sqL tw10.lD, two_at (fun a => .ref (g a).p) hb, (g i).p, (g i).dx, _, rfl, pl10.dk.obj, df_no _ _ _ (by decide +kernel) (by decide +kernel) (by decide +kernel), _, rfl, (g i).p, (g i).dx, (g i).c, (g i).dl, (g i).de, (g i).cells, _, e i, j, _, by rw [Int.zero_add]; rfl, pl10.dk, hv, ?_⟩
          refine ⟨_, gD1, ?_, fun b ob e => ?_, ?_⟩
          · rw [List.length_map, List.length_take]
            exact small1000 (by omega)
          · rw [upd_ne (ne_of_none e nD1)]
            exact s10 _ _ e
          · rw [upd_same, List.take_add_one, hv, List.map_append]
            rfl
        obtain ⟨s10, gD1⟩ := hP
        have e10 : (((g i).cells.map V.int).length : Int).toNat = (replay (g i).cells (e i)).length := by rw [List.length_map]; omega
        rw [e10, List.take_length] at gD1
        have tw10 := tw9.same s10
        have pl10 := tw10.pl i hb
        have ht10 := same_seqT s10 ht9
        have hd10 := dpAll_same s10 _ _ hd9
        have kA10 : ∀ o, H a = some o → G a = some o := fun o e => s10 _ _ (kA9 o e)
        refine ⟨_, rfl, _, rfl, RW, _, _, _, rfl, rfl, sqL tw10.lW, two_at (fun a => .ref (g a).c) hb, (g i).c, _, rfl, .inr pl10.dk.cel, _, rfl, by omega, by rw [List.length_map]; omega, fun D2 nD2 => ?_⟩
        refine lc_range (lo := 0) (fun j J => Same G J ∧ J D2 = some (.lst (((replay (g i).cells (e i)).take j).map V.int))) ⟨same_new nD2, upd_same⟩ (fun j J hj hP => ?_) (fun J hP => ?_)
        · obtain ⟨s11, gD2⟩ := hP
          rw [List.length_map] at hj
          have hj2 : j < (g i).cells.length := by omega
          have hcj : (g i).cells[j]? = some (g i).cells[j] := List.getElem?_eq_getElem hj2
          have hv := replay_get hcj (e i)
          have tw11 := tw10.same s11
          have pl11 := tw11.pl i hb
          refine ⟨rfl, ?_⟩
          dsimp only [tYes]
          rw [if_pos rfl]
          refine ⟨_, rfl, _, rfl, _, rfl, _, rfl, RW, _, _, _, rfl, rfl, sqL tw11.lW, two_at (fun a => .ref (g a).c) hb, _, rfl, (g i).c, _, _, .int (g i).cells[j], rfl, rfl, pl11.dk.cel, at_of (j := j) (by omega) (by rw [List.getElem?_map, hcj]; rfl), t7, us7, e i, j, (g i).cells[j], by rw [Int.zero_add]; rfl, .inr (same_seqT s11 ht10), dpAll_same s11 _ _ hd10, by omega, ?_⟩
          refine ⟨_, gD2, ?_, fun b ob e => ?_, ?_⟩
          · rw [List.length_map, List.length_take]
            exact small1000 (by omega)
          · rw [upd_ne (ne_of_none e nD2)]
            exact s11 _ _ e
          · rw [upd_same, List.take_add_one, hv, List.map_append]
            rfl
        obtain ⟨s11, gD2⟩ := hP
        rw [e10, List.take_length] at gD2
        have fl : fine (.list ((replay (g i).cells (e i)).map .int)) = true := by
          rw [fine]
          refine fineAll_mem fun d hd => ?_
          obtain ⟨x, hx, rfl⟩ := List.mem_map.mp hd
          obtain ⟨j, hj, ex⟩ := List.getElem_of_mem hx
          have hj2 : j < (g i).cells.length := by omega
          have hv := replay_get (List.getElem?_eq_getElem hj2) (e i)
          rw [List.getElem?_eq_getElem hj, ex] at hv
          rw [fine, Option.some.inj hv]
          exact decide_eq_true (oct_nat (last_oct (far.oc i hb _ (List.getElem_mem hj2)) (tw9.pl i hb).ev.oc))
        refine ⟨_, _, dp_ints (s11 _ _ gD1), dp_ints gD2, shaped_ints _, shaped_ints _, _, rfl, ?_⟩
        rw [fine_eqv fl]
        exact iteF ⟨_, _, _, L9, st9, rfl, tw10.same s11, fun o e => s11 _ _ (kA10 o e)⟩
      · obtain ⟨y2, y4, y8, L6, st6, rfl, tw6, kA6⟩ := hP
        exact hN _ _ ⟨_, _, _, L6, st6, rfl, tw6, kA6⟩
    obtain ⟨y2, y4, y8, L5, st5, rfl, tw5, kA5⟩ := hR
    -- odds, great ones
    refine seq_out (t := tIfS _ _ _) (fun _ _ => True) (fun N hN => ?_) (fun σ' G6 _ => ?_)
    · refine ⟨_, rfl, h, l, L5, st5, rfl, tw5.hv, fun G6 L6 st6 b6 hv6 => ⟨_, rfl, iteF ?_⟩⟩
      have kA6 : ∀ o, H a = some o → G6 a = some o := fun o e => b6 _ _ (naB e).1 (naB e).2 (kA5 o e)
      refine ⟨.ref a, rfl, a, _, rfl, .inl (atA _ kA6), _, _, rfl, rfl, _, rfl, ite2 (fun _ => ?_) (fun _ => hN _ _ trivial)⟩
      refine ⟨_, rfl, h, l, L6, st6, 12, rfl, hv6, by decide, by decide, fun G7 L7 st7 r7 b7 hv7 r70 r71 => ?_⟩
      refine ⟨rfl, _, rfl, ite2 (fun _ => ?_) (fun _ => hN _ _ trivial)⟩
      exact ⟨_, rfl, h, l, L7, st7, rfl, hv7, fun G8 L8 st8 b8 hv8 => ⟨_, rfl, iteF (hN _ _ trivial)⟩⟩
    -- the written ones
    refine seq_out (t := tIfS _ _ _) (fun _ _ => True) (fun N hN => ?_) (fun σ' G6 _ => ?_)
    · refine ⟨Nat.zero_le _, fun p1 n1 => ?_⟩
      refine ⟨p1, [], [], rfl, sqT upd_same, .nil, by decide, fun G7 q7 ps7 s7 hq7 hs7 => ⟨Nat.zero_le _, fun p2 n2 => ?_⟩⟩
      have e7 : ps7 = [] := List.Perm.eq_nil hs7.perm
      subst e7
      refine ⟨.tuple [], .tuple [], .tup (same_seqT (same_new n2) hq7) .nil, .tup (sqT upd_same) .nil, rfl, rfl, _, rfl, ?_⟩
      rw [show PyData.eqv (.tuple []) (.tuple []) = true by decide +kernel]
      refine iteF ?_
      generalize upd G7 p2 (.tup []) = G7
      have ud0 : DpAll K G7 [] [] := .nil
      refine ⟨by show 2 ≤ sizeLine; decide, fun up1 un1 => ?_⟩
      have ud1 := dpAll_snoc (dpAll_same (same_new (o := .tup [.int 3, .int 1]) un1) _ _ ud0) (.tup (ds := [.int 3, .int 1]) (sqT upd_same) (.cons (.int _) (.cons (.int _) .nil)))
      have ud1' := dpAll_snoc ud1 (.non)
      refine ⟨by show 2 ≤ sizeLine; decide, fun up2 un2 => ?_⟩
      have ud2 := dpAll_snoc (dpAll_same (same_new (o := .tup [.int 4, .int 0]) un2) _ _ ud1') (.tup (ds := [.int 4, .int 0]) (sqT upd_same) (.cons (.int _) (.cons (.int _) .nil)))
      refine ⟨by show 2 ≤ sizeLine; decide, fun up3 un3 => ?_⟩
      have ud3 := dpAll_snoc (dpAll_same (same_new (o := .tup [.int 2, .int 9]) un3) _ _ ud2) (.tup (ds := [.int 2, .int 9]) (sqT upd_same) (.cons (.int _) (.cons (.int _) .nil)))
      refine ⟨by show 2 ≤ sizeLine; decide, fun up4 un4 => ?_⟩
      have ud4 := dpAll_snoc (dpAll_same (same_new (o := .tup [.int 4, .int 7]) un4) _ _ ud3) (.tup (ds := [.int 4, .int 7]) (sqT upd_same) (.cons (.int _) (.cons (.int _) .nil)))
      refine ⟨by show 5 ≤ sizeLine; decide, fun uq unq => ?_⟩
      have uD := dpAll_same (same_new (o := .tup [.ref up1, .non, .ref up2, .ref up3, .ref up4]) unq) _ _ ud4
      refine ⟨uq, [.ref up1, .non, .ref up2, .ref up3, .ref up4], [some (3, 1), none, some (4, 0), some (2, 9), some (4, 7)], rfl, sqT upd_same, uD, by decide, fun G8 q8 ps8 s8 hq8 hs8 => ⟨by show 2 ≤ sizeLine; decide, fun p9 n9 => ?_⟩⟩
      have m8 : SrtM [some (3, 1), none, some (4, 0), some (2, 9), some (4, 7)] [2, 4] := by
        have e : pend [some (3, 1), none, some (4, 0), some (2, 9), some (4, 7)] = [4, 2] := by decide +kernel
        refine ⟨by decide, by decide, fun x => ?_⟩
        rw [e]
        simp only [List.mem_cons, List.not_mem_nil, or_false]
        constructor
        · rintro (rfl | rfl)
          · exact ⟨2, .inr rfl, rfl⟩
          · exact ⟨4, .inl rfl, rfl⟩
        · rintro ⟨b, rfl | rfl, rfl⟩
          · exact .inr rfl
          · exact .inl rfl
      obtain rfl : ps8 = [2, 4] := hs8.m.one m8
      refine ⟨_, _, dp_tup (l := [2, 4]) (same_seqT (same_new n9) hq8), dp_tup (l := [2, 4]) (sqT upd_same), by decide +kernel, by decide +kernel, _, rfl, ?_⟩
      rw [show PyData.eqv (.tuple ([2, 4].map .int)) (.tuple ([2, 4].map .int)) = true by decide +kernel]
      exact iteF (hN _ _ trivial)
    refine ⟨by show 4 ≤ sizeLine; decide, fun c1 m1 => ?_⟩
    have hc1 := sqT (K := K) (upd_same (H := G6) (a := c1) (o := .tup [.int 5, .int 6, .int 7, .int 8]))
    generalize upd G6 c1 (.tup [.int 5, .int 6, .int 7, .int 8]) = G7 at hc1 ⊢
    have wd0 : DpAll K G7 [] [] := .nil
    refine ⟨by show 2 ≤ sizeLine; decide, fun wp1 wn1 => ?_⟩
    have wd1 := dpAll_snoc (dpAll_same (same_new (o := .tup [.int 1, .int 9]) wn1) _ _ wd0) (.tup (ds := [.int 1, .int 9]) (sqT upd_same) (.cons (.int _) (.cons (.int _) .nil)))
    refine ⟨by show 2 ≤ sizeLine; decide, fun wp2 wn2 => ?_⟩
    have wd2 := dpAll_snoc (dpAll_same (same_new (o := .tup [.int 0, .int 4]) wn2) _ _ wd1) (.tup (ds := [.int 0, .int 4]) (sqT upd_same) (.cons (.int _) (.cons (.int _) .nil)))
    have wd2' := dpAll_snoc wd2 (.non)
    refine ⟨by show 2 ≤ sizeLine; decide, fun wp3 wn3 => ?_⟩
    have wd3 := dpAll_snoc (dpAll_same (same_new (o := .tup [.int 2, .int 3]) wn3) _ _ wd2') (.tup (ds := [.int 2, .int 3]) (sqT upd_same) (.cons (.int _) (.cons (.int _) .nil)))
    refine ⟨by show 2 ≤ sizeLine; decide, fun wp4 wn4 => ?_⟩
    have wd4 := dpAll_snoc (dpAll_same (same_new (o := .tup [.int 0, .int 2]) wn4) _ _ wd3) (.tup (ds := [.int 0, .int 2]) (sqT upd_same) (.cons (.int _) (.cons (.int _) .nil)))
    refine ⟨by show 5 ≤ sizeLine; decide, fun wq wnq => ?_⟩
    have wD := dpAll_same (same_new (o := .tup [.ref wp1, .ref wp2, .non, .ref wp3, .ref wp4]) wnq) _ _ wd4
    have sW : Same G7 _ := (((((same_new (o := .tup [.int 1, .int 9]) wn1).trans (same_new (o := .tup [.int 0, .int 4]) wn2)).trans (same_new (o := .tup [.int 2, .int 3]) wn3)).trans (same_new (o := .tup [.int 0, .int 2]) wn4)).trans (same_new (o := .tup [.ref wp1, .ref wp2, .non, .ref wp3, .ref wp4]) wnq))
    refine ⟨by show 2 ≤ sizeLine; decide, fun c3 m3 => ?_⟩
    have s3 := same_new (o := .tup [.int 77, .int 0]) m3
    refine ⟨c1, wq, c3, [5, 6, 7, 8], [.ref wp1, .ref wp2, .non, .ref wp3, .ref wp4], [some (1, 9), some (0, 4), none, some (2, 3), some (0, 2)], [77, 0], rfl, same_seqT (sW.trans s3) hc1, same_seqT s3 (sqT upd_same), dpAll_same s3 _ _ wD, by decide, ?_, sqT upd_same, by decide +kernel, fun G8 q8 ps8 s8 hs8 hq8 => ⟨by show 4 ≤ sizeLine; decide, fun p9 n9 => ?_⟩⟩
    · intro a' o' m
      simp only [List.mem_cons, List.not_mem_nil, or_false, Option.some.injEq, Prod.mk.injEq, reduceCtorEq, false_or] at m
      show a' < 4
      omega
    have m8 : SrtM [some (1, 9), some (0, 4), none, some (2, 3), some (0, 2)] [0, 2] := by
      have e : pend [some (1, 9), some (0, 4), none, some (2, 3), some (0, 2)] = [2, 0] := by decide +kernel
      refine ⟨by decide, by decide, fun x => ?_⟩
      rw [e]
      simp only [List.mem_cons, List.not_mem_nil, or_false]
      constructor
      · rintro (rfl | rfl)
        · exact ⟨0, .inr rfl, rfl⟩
        · exact ⟨2, .inl rfl, rfl⟩
      · rintro ⟨b, rfl | rfl, rfl⟩
        · exact .inr rfl
        · exact .inl rfl
    obtain rfl : ps8 = [0, 2] := hs8.m.one m8
    have hq9 := dp_tup (l := [77, 9, 0, 8]) (same_seqT (same_new (o := .tup [.int 77, .int 9, .int 0, .int 8]) n9) hq8)
    refine ⟨_, _, hq9, dp_tup (l := [77, 9, 0, 8]) (sqT upd_same), by decide +kernel, by decide +kernel, ?_⟩
    rw [show PyData.eqv (.tuple ([77, 9, 0, 8].map .int)) (.tuple ([77, 9, 0, 8].map .int)) = true by decide +kernel]
    exact q _
end
end K9
namespace K9
open PySem PySem.Spec PyProof.Rows L2 Gd
theorem kit_yes {K : PySem.W.Frag} {A B : Addr} (h1 : PySem.W.isClsIn K B = true) (h2 : PySem.W.typeIn K (.ref B) = some (.type "type")) (h3 : PySem.W.subIn K (.ref A) (.ref B) = some true) : PySem.W.kitOne K (.ref A) (.ref B) = some true := by
  unfold PySem.W.kitOne
  split
  · rfl
  · have e : ((PySem.W.clsIn K B).isSome && PySem.W.typeIn K (.ref B) == some (.type "type")) = true := by
      have h1' : (PySem.W.clsIn K B).isSome = true := h1
      rw [h1', h2] <;> rfl
    show (if ((PySem.W.clsIn K B).isSome && PySem.W.typeIn K (.ref B) == some (.type "type")) = true then PySem.W.subIn K (.ref A) (.ref B) else none) = some true
    rw [if_pos e]
    exact h3
theorem kit_no {K : PySem.W.Frag} {A B : Addr} (h1 : PySem.W.isClsIn K B = true) (h2 : PySem.W.typeIn K (.ref B) = some (.type "type")) (h0 : PySem.W.subIn K (.ref A) (.ref A) = some true) (h3 : PySem.W.subIn K (.ref A) (.ref B) = some false) : PySem.W.kitOne K (.ref A) (.ref B) = some false := by
  have ne : (Value.ref A == Value.ref B) = false := by
    cases e : (Value.ref A == Value.ref B) with
    | false => rfl
    | true =>
      have z := eq_of_beq e
      rw [← z, h0] at h3
      cases h3
  unfold PySem.W.kitOne
  rw [ne]
  have e : ((PySem.W.clsIn K B).isSome && PySem.W.typeIn K (.ref B) == some (.type "type")) = true := by
    have h1' : (PySem.W.clsIn K B).isSome = true := h1
    rw [h1', h2] <;> rfl
  show (if ((PySem.W.clsIn K B).isSome && PySem.W.typeIn K (.ref B) == some (.type "type")) = true then PySem.W.subIn K (.ref A) (.ref B) else none) = some false
  rw [if_pos e]
  exact h3
theorem all_mk {l : PySem.W.OpenLaw} {w : World} {K : PySem.W.Frag} {h : Heap} {mg : Str → Option Value} {fa C CR CD CB CN fN fB fC fG fU fH fD fP fO fL fQ fX fY fZ fW fV fR fI mL mP mF mE : Addr} (X : K.In h) (G : h.Ns mainGlobals mg) (hfa : mg "law" = some (.ref fa))
    {nm qn : Str} {Nn : Addr} {bs : List Value} {sn : List Str} {sub : List Value} {ab : Bool} {col : Option Bool} {dd : Option Addr} {m0 m1 m2 m3 m5 : Option Value} {tM tO : Tok}
    {odN anN odB anB odC anC odG anG odU anU odH anH odD anD odP anP odO anO odL anL odQ anQ odX anX odY anY odZ anZ odW anW odV anV odR anR odI anI odml anml odmp anmp odmf anmf odme anme : Option Addr} {slN slB slC slG slU slH slD slP slO slL slQ slX slY slZ slW slV slR slI slml slmp slmf slme : Array (Option Value)} {ocN kVN dcN pmN cdN ctN ocB kVB dcB pmB cdB ctB ocC kVC dcC pmC cdC ctC ocG kVG dcG pmG cdG ctG ocU kVU dcU pmU cdU ctU ocH kVH dcH pmH cdH ctH ocD kVD dcD pmD cdD ctD ocP kVP dcP pmP cdP ctP ocO kVO dcO pmO cdO ctO ocL kVL dcL pmL cdL ctL ocQ kVQ dcQ pmQ cdQ ctQ ocX kVX dcX pmX cdX ctX ocY kVY dcY pmY cdY ctY ocZ kVZ dcZ pmZ cdZ ctZ ocW kVW dcW pmW cdW ctW ocV kVV dcV pmV cdV ctV ocR kVR dcR pmR cdR ctR ocI kVI dcI pmI cdI ctI ocml kVml dcml pmml cdml ctml ocmp kVmp dcmp pmmp cdmp ctmp ocmf kVmf dcmf pmmf cdmf ctmf ocme kVme dcme pmme cdme ctme : Value}
    (aN : PySem.W.nsIn K mainGlobals "is_number" = some (some (.ref fN)))
    (lN : K.lookup fN = some ⟨ocN, odN, .func (PySem.W.fnOf "is_number" "is_number" (defArgs sNum) (defBody sNum) (defScope sNum) .none kVN dcN pmN anN cdN ctN), slN⟩)
    (cN : PySem.W.codeIn K cdN "is_number" = true)
    (kN : PySem.W.keepIn K (.ref fN) = true)
    (aB : PySem.W.nsIn K mainGlobals "is_number_below" = some (some (.ref fB)))
    (lB : K.lookup fB = some ⟨ocB, odB, .func (PySem.W.fnOf "is_number_below" "is_number_below" (defArgs sNumB) (defBody sNumB) (defScope sNumB) .none kVB dcB pmB anB cdB ctB), slB⟩)
    (cB : PySem.W.codeIn K cdB "is_number_below" = true)
    (kB : PySem.W.keepIn K (.ref fB) = true)
    (aC : PySem.W.nsIn K mainGlobals "are_cells" = some (some (.ref fC)))
    (lC : K.lookup fC = some ⟨ocC, odC, .func (PySem.W.fnOf "are_cells" "are_cells" (defArgs sCells) (defBody sCells) (defScope sCells) .none kVC dcC pmC anC cdC ctC), slC⟩)
    (cC : PySem.W.codeIn K cdC "are_cells" = true)
    (kC : PySem.W.keepIn K (.ref fC) = true)
    (aG : PySem.W.nsIn K mainGlobals "pending_places" = some (some (.ref fG)))
    (lG : K.lookup fG = some ⟨ocG, odG, .func (PySem.W.fnOf "pending_places" "pending_places" (defArgs sPend) (defBody sPend) (defScope sPend) .none kVG dcG pmG anG cdG ctG), slG⟩)
    (cG : PySem.W.codeIn K cdG "pending_places" = true)
    (kG : PySem.W.keepIn K (.ref fG) = true)
    (aU : PySem.W.nsIn K mainGlobals "cut_cells" = some (some (.ref fU)))
    (lU : K.lookup fU = some ⟨ocU, odU, .func (PySem.W.fnOf "cut_cells" "cut_cells" (defArgs sCut) (defBody sCut) (defScope sCut) .none kVU dcU pmU anU cdU ctU), slU⟩)
    (cU : PySem.W.codeIn K cdU "cut_cells" = true)
    (kU : PySem.W.keepIn K (.ref fU) = true)
    (aH : PySem.W.nsIn K mainGlobals "_law_heap" = some (some (.ref fH)))
    (lH : K.lookup fH = some ⟨ocH, odH, .func (PySem.W.fnOf "_law_heap" "_law_heap" (defArgs sHeap) (defBody sHeap) (defScope sHeap) .none kVH dcH pmH anH cdH ctH), slH⟩)
    (cH : PySem.W.codeIn K cdH "_law_heap" = true)
    (kH : PySem.W.keepIn K (.ref fH) = true)
    (aD : PySem.W.nsIn K mainGlobals "_law_draw" = some (some (.ref fD)))
    (lD : K.lookup fD = some ⟨ocD, odD, .func (PySem.W.fnOf "_law_draw" "_law_draw" (defArgs sDraw) (defBody sDraw) (defScope sDraw) .none kVD dcD pmD anD cdD ctD), slD⟩)
    (cD : PySem.W.codeIn K cdD "_law_draw" = true)
    (kD : PySem.W.keepIn K (.ref fD) = true)
    (aP : PySem.W.nsIn K mainGlobals "_law_pick" = some (some (.ref fP)))
    (lP : K.lookup fP = some ⟨ocP, odP, .func (PySem.W.fnOf "_law_pick" "_law_pick" (defArgs sPick) (defBody sPick) (defScope sPick) .none kVP dcP pmP anP cdP ctP), slP⟩)
    (cP : PySem.W.codeIn K cdP "_law_pick" = true)
    (kP : PySem.W.keepIn K (.ref fP) = true)
    (aO : PySem.W.nsIn K mainGlobals "_law_octet" = some (some (.ref fO)))
    (lO : K.lookup fO = some ⟨ocO, odO, .func (PySem.W.fnOf "_law_octet" "_law_octet" (defArgs sOctet) (defBody sOctet) (defScope sOctet) .none kVO dcO pmO anO cdO ctO), slO⟩)
    (cO : PySem.W.codeIn K cdO "_law_octet" = true)
    (kO : PySem.W.keepIn K (.ref fO) = true)
    (aL : PySem.W.nsIn K mainGlobals "_law_last" = some (some (.ref fL)))
    (lL : K.lookup fL = some ⟨ocL, odL, .func (PySem.W.fnOf "_law_last" "_law_last" (defArgs sLast) (defBody sLast) (defScope sLast) .none kVL dcL pmL anL cdL ctL), slL⟩)
    (cL : PySem.W.codeIn K cdL "_law_last" = true)
    (kL : PySem.W.keepIn K (.ref fL) = true)
    (aQ : PySem.W.nsIn K mainGlobals "_law_pending" = some (some (.ref fQ)))
    (lQ : K.lookup fQ = some ⟨ocQ, odQ, .func (PySem.W.fnOf "_law_pending" "_law_pending" (defArgs sLPend) (defBody sLPend) (defScope sLPend) .none kVQ dcQ pmQ anQ cdQ ctQ), slQ⟩)
    (cQ : PySem.W.codeIn K cdQ "_law_pending" = true)
    (kQ : PySem.W.keepIn K (.ref fQ) = true)
    (aX : PySem.W.nsIn K mainGlobals "_law_cut_right" = some (some (.ref fX)))
    (lX : K.lookup fX = some ⟨ocX, odX, .func (PySem.W.fnOf "_law_cut_right" "_law_cut_right" (defArgs sCutR) (defBody sCutR) (defScope sCutR) .none kVX dcX pmX anX cdX ctX), slX⟩)
    (cX : PySem.W.codeIn K cdX "_law_cut_right" = true)
    (kX : PySem.W.keepIn K (.ref fX) = true)
    (aY : PySem.W.nsIn K mainGlobals "_law_play" = some (some (.ref fY)))
    (lY : K.lookup fY = some ⟨ocY, odY, .func (PySem.W.fnOf "_law_play" "_law_play" (defArgs sPlay) (defBody sPlay) (defScope sPlay) .none kVY dcY pmY anY cdY ctY), slY⟩)
    (cY : PySem.W.codeIn K cdY "_law_play" = true)
    (kY : PySem.W.keepIn K (.ref fY) = true)
    (aZ : PySem.W.nsIn K mainGlobals "_law_odds_right" = some (some (.ref fZ)))
    (lZ : K.lookup fZ = some ⟨ocZ, odZ, .func (PySem.W.fnOf "_law_odds_right" "_law_odds_right" (defArgs sOdds) (defBody sOdds) (defScope sOdds) .none kVZ dcZ pmZ anZ cdZ ctZ), slZ⟩)
    (cZ : PySem.W.codeIn K cdZ "_law_odds_right" = true)
    (kZ : PySem.W.keepIn K (.ref fZ) = true)
    (aW : PySem.W.nsIn K mainGlobals "_law_great_right" = some (some (.ref fW)))
    (lW : K.lookup fW = some ⟨ocW, odW, .func (PySem.W.fnOf "_law_great_right" "_law_great_right" (defArgs sGreat) (defBody sGreat) (defScope sGreat) .none kVW dcW pmW anW cdW ctW), slW⟩)
    (cW : PySem.W.codeIn K cdW "_law_great_right" = true)
    (kW : PySem.W.keepIn K (.ref fW) = true)
    (aV : PySem.W.nsIn K mainGlobals "law" = some (some (.ref fV)))
    (lV : K.lookup fV = some ⟨ocV, odV, .func (PySem.W.fnOf "law" "law" (defArgs sLaw) (defBody sLaw) (defScope sLaw) .none kVV dcV pmV anV cdV ctV), slV⟩)
    (cV : PySem.W.codeIn K cdV "law" = true)
    (kV : PySem.W.keepIn K (.ref fV) = true)
    (gC : PySem.W.nsIn K mainGlobals "Disk" = some (some (.ref C)))
    (gCR : PySem.W.nsIn K mainGlobals "Refused" = some (some (.ref CR)))
    (gCD : PySem.W.nsIn K mainGlobals "DeskError" = some (some (.ref CD)))
    (gCB : PySem.W.nsIn K mainGlobals "Broken" = some (some (.ref CB)))
    (gCN : PySem.W.nsIn K mainGlobals "InvalidNumber" = some (some (.ref CN)))
    (aR : PySem.W.findIn K (.ref CR) "__init__" = some (some (.ref fR)))
    (lR : K.lookup fR = some ⟨ocR, odR, .func (PySem.W.fnOf "__init__" "Refused.__init__" (defArgs sIRef) (defBody sIRef) (defScope sIRef) .none kVR dcR pmR anR cdR ctR), slR⟩)
    (cR : PySem.W.codeIn K cdR "Refused.__init__" = true)
    (kR : PySem.W.keepIn K (.ref fR) = true)
    (iR : PySem.W.isFn K (.ref fR) = true)
    (aI : PySem.W.findIn K (.ref C) "__init__" = some (some (.ref fI)))
    (lI : K.lookup fI = some ⟨ocI, odI, .func (PySem.W.fnOf "__init__" "Disk.__init__" (defArgs sInit) (defBody sInit) (defScope sInit) .none kVI dcI pmI anI cdI ctI), slI⟩)
    (cI : PySem.W.codeIn K cdI "Disk.__init__" = true)
    (kI : PySem.W.keepIn K (.ref fI) = true)
    (iI : PySem.W.isFn K (.ref fI) = true)
    (aml : PySem.W.findIn K (.ref C) "look" = some (some (.ref mL)))
    (lml : K.lookup mL = some ⟨ocml, odml, .func (PySem.W.fnOf "look" "Disk.look" (defArgs sLook) (defBody sLook) (defScope sLook) .none kVml dcml pmml anml cdml ctml), slml⟩)
    (cml : PySem.W.codeIn K cdml "Disk.look" = true)
    (kml : PySem.W.keepIn K (.ref mL) = true)
    (iml : PySem.W.isFn K (.ref mL) = true)
    (amp : PySem.W.findIn K (.ref C) "put" = some (some (.ref mP)))
    (lmp : K.lookup mP = some ⟨ocmp, odmp, .func (PySem.W.fnOf "put" "Disk.put" (defArgs sPut) (defBody sPut) (defScope sPut) .none kVmp dcmp pmmp anmp cdmp ctmp), slmp⟩)
    (cmp : PySem.W.codeIn K cdmp "Disk.put" = true)
    (kmp : PySem.W.keepIn K (.ref mP) = true)
    (imp : PySem.W.isFn K (.ref mP) = true)
    (amf : PySem.W.findIn K (.ref C) "flush" = some (some (.ref mF)))
    (lmf : K.lookup mF = some ⟨ocmf, odmf, .func (PySem.W.fnOf "flush" "Disk.flush" (defArgs sFlush) (defBody sFlush) (defScope sFlush) .none kVmf dcmf pmmf anmf cdmf ctmf), slmf⟩)
    (cmf : PySem.W.codeIn K cdmf "Disk.flush" = true)
    (kmf : PySem.W.keepIn K (.ref mF) = true)
    (imf : PySem.W.isFn K (.ref mF) = true)
    (ame : PySem.W.findIn K (.ref C) "events" = some (some (.ref mE)))
    (lme : K.lookup mE = some ⟨ocme, odme, .func (PySem.W.fnOf "events" "Disk.events" (defArgs sEvents) (defBody sEvents) (defScope sEvents) .none kVme dcme pmme anme cdme ctme), slme⟩)
    (cme : PySem.W.codeIn K cdme "Disk.events" = true)
    (kme : PySem.W.keepIn K (.ref mE) = true)
    (ime : PySem.W.isFn K (.ref mE) = true)
    (pg : PySem.W.plainGet K C Str.empty = true)
    (hd : PySem.W.hasDictIn K C = true)
    (po : PySem.W.plainOver K C = true)
    (sa : PySem.W.findIn K (.ref C) "__setattr__" = some (some (.builtin "object.__setattr__")))
    (nC : PySem.W.findIn K (.ref C) "cells" = some none)
    (nP : PySem.W.findIn K (.ref C) "present" = some none)
    (nH : PySem.W.findIn K (.ref C) "happened" = some none)
    (mk : PySem.W.makesIn K C = true)
    (kpC : PySem.W.keepIn K (.ref C) = true)
    (xR : K.lookup CR = some (excClassObj nm qn CR Nn bs [.ref CD, .type "ValueError", .type "Exception", .type "BaseException", .type "object"] true sn sub ab col dd m0 m1 m2 m3 m5 "ValueError.__new__"))
    (saR : PySem.W.findIn K (.ref CR) "__setattr__" = some (some (.builtin "object.__setattr__")))
    (exC : PySem.W.subIn K (.ref CR) (.type "BaseException") = some true)
    (tyC : PySem.W.typeIn K (.ref CR) = some (.type "type"))
    (kCR : PySem.W.keepIn K (.ref CR) = true)
    (nW : PySem.W.findIn K (.ref CR) "word" = some none)
    (tI : PySem.W.typeIn K (.ref fR) = some (.type "function"))
    (sRR : PySem.W.subIn K (.ref CR) (.ref CR) = some true)
    (sRD : PySem.W.subIn K (.ref CR) (.ref CD) = some true)
    (sRB : PySem.W.subIn K (.ref CR) (.ref CB) = some false)
    (sRN : PySem.W.subIn K (.ref CR) (.ref CN) = some false)
    (eCD : PySem.W.subIn K (.ref CD) (.type "BaseException") = some true)
    (hCD : PySem.W.hasDictIn K CD = true)
    (tCD : PySem.W.typeIn K (.ref CD) = some (.type "type"))
    (hCB : PySem.W.isClsIn K CB = true)
    (tCB : PySem.W.typeIn K (.ref CB) = some (.type "type"))
    (hCN : PySem.W.isClsIn K CN = true)
    (tCN : PySem.W.typeIn K (.ref CN) = some (.type "type"))
    (iCR : PySem.W.isClsIn K CR = true)
    (hg : PySem.W.findIn K (.ref CR) "__getattribute__" = some (some (.builtin "BaseException.__getattribute__")))
    (hk : PySem.W.findIn K (.ref CR) "__getattr__" = some none)
    (hdR : PySem.W.hasDictIn K CR = true)
    (haR : PySem.W.findIn K (.ref CR) "__class__" = some (some (.builtin "object.__class__")))
    (hn : PySem.W.specialIn K (.builtin "object.__class__") "__get__" = some (some (.builtin "getset_descriptor.__get__")))
    (ht : PySem.W.takesIn K (.builtin "object.__class__") = some true)
    (hm : PySem.W.mroIn K CR (.type "object") = some true)
    (vM : PySem.W.nsIn K mainGlobals "MOST_CELLS" = some (some (.int 20000 tM)))
    (vO : PySem.W.nsIn K mainGlobals "OCTETS" = some (some (.int 256 tO)))
    (z0 : PySem.W.nsIn K mainGlobals "len" = some none)
    (z1 : PySem.W.nsIn K mainGlobals "int" = some none)
    (z2 : PySem.W.nsIn K mainGlobals "range" = some none)
    (z3 : PySem.W.nsIn K mainGlobals "isinstance" = some none)
    (z4 : PySem.W.nsIn K mainGlobals "bool" = some none)
    (z5 : PySem.W.nsIn K mainGlobals "tuple" = some none)
    (z6 : PySem.W.nsIn K mainGlobals "all" = some none)
    (z7 : PySem.W.nsIn K mainGlobals "list" = some none)
    (z8 : PySem.W.nsIn K mainGlobals "sorted" = some none)
    (z9 : PySem.W.nsIn K mainGlobals "zip" = some none)
    (z10 : PySem.W.nsIn K mainGlobals "repr" = some none)
    (z11 : PySem.W.nsIn K mainGlobals "abs" = some none)
    : ∃ fd : FuncData, (∀ (s : Shared) (v : Value), BindsTo s fd ⟨[v], []⟩ [("script", v)]) ∧ ∀ base : Heap, K.In base → base.Ns mainGlobals mg → FnG l.prog w K mg base 7 fa fd ["script"] (spLaw K) := by
  have e := hfa.symm.trans (PySem.W.mg_of X G aV)
  cases e
  have FN := fun_mk (st := sNum) lN cN kN
  have FB := fun_mk (st := sNumB) lB cB kB
  have FC := fun_mk (st := sCells) lC cC kC
  have FG := fun_mk (st := sPend) lG cG kG
  have FU := fun_mk (st := sCut) lU cU kU
  have FH := fun_mk (st := sHeap) lH cH kH
  have FD := fun_mk (st := sDraw) lD cD kD
  have FP := fun_mk (st := sPick) lP cP kP
  have FO := fun_mk (st := sOctet) lO cO kO
  have FL := fun_mk (st := sLast) lL cL kL
  have FQ := fun_mk (st := sLPend) lQ cQ kQ
  have FX := fun_mk (st := sCutR) lX cX kX
  have FY := fun_mk (st := sPlay) lY cY kY
  have FZ := fun_mk (st := sOdds) lZ cZ kZ
  have FW := fun_mk (st := sGreat) lW cW kW
  have FV := fun_mk (st := sLaw) lV cV kV
  have FR := fun_mk (st := sIRef) lR cR kR
  have FI := fun_mk (st := sInit) lI cI kI
  have Fml := fun_mk (st := sLook) lml cml kml
  have Fmp := fun_mk (st := sPut) lmp cmp kmp
  have Fmf := fun_mk (st := sFlush) lmf cmf kmf
  have Fme := fun_mk (st := sEvents) lme cme kme
  have bN := FN.binds (ps := ["value"]) fun _ _ _ _ _ _ us hl => match us, hl with | [_], _ => rfl
  have bB := FB.binds (ps := ["value", "limit"]) fun _ _ _ _ _ _ us hl => match us, hl with | [_, _], _ => rfl
  have bC := FC.binds (ps := ["value"]) fun _ _ _ _ _ _ us hl => match us, hl with | [_], _ => rfl
  have bG := FG.binds (ps := ["events"]) fun _ _ _ _ _ _ us hl => match us, hl with | [_], _ => rfl
  have bU := FU.binds (ps := ["cells", "events", "octets"]) fun _ _ _ _ _ _ us hl => match us, hl with | [_, _, _], _ => rfl
  have bH := FH.binds (ps := ["script"]) fun _ _ _ _ _ _ us hl => match us, hl with | [_], _ => rfl
  have bD := FD.binds (ps := ["heap", "many"]) fun _ _ _ _ _ _ us hl => match us, hl with | [_, _], _ => rfl
  have bP := FP.binds (ps := ["heap", "some"]) fun _ _ _ _ _ _ us hl => match us, hl with | [_, _], _ => rfl
  have bO := FO.binds (ps := ["heap"]) fun _ _ _ _ _ _ us hl => match us, hl with | [_], _ => rfl
  have bL := FL.binds (ps := ["events", "at", "old"]) fun _ _ _ _ _ _ us hl => match us, hl with | [_, _, _], _ => rfl
  have bQ := FQ.binds (ps := ["events"]) fun _ _ _ _ _ _ us hl => match us, hl with | [_], _ => rfl
  have bX := FX.binds (ps := ["heap", "cells", "events"]) fun _ _ _ _ _ _ us hl => match us, hl with | [_, _, _], _ => rfl
  have bY := FY.binds (ps := ["heap", "disk", "cells", "events"]) fun _ _ _ _ _ _ us hl => match us, hl with | [_, _, _, _], _ => rfl
  have bZ := FZ.binds (ps := ["heap"]) fun _ _ _ _ _ _ us hl => match us, hl with | [_], _ => rfl
  have bW := FW.binds (ps := ["heap"]) fun _ _ _ _ _ _ us hl => match us, hl with | [_], _ => rfl
  have bR := FR.binds (ps := ["self", "word"]) fun _ _ _ _ _ _ us hl => match us, hl with | [_, _], _ => rfl
  have bI := FI.binds (ps := ["self", "cells"]) fun _ _ _ _ _ _ us hl => match us, hl with | [_, _], _ => rfl
  have bml := Fml.binds (ps := ["self", "at"]) fun _ _ _ _ _ _ us hl => match us, hl with | [_, _], _ => rfl
  have bmp := Fmp.binds (ps := ["self", "at", "octet"]) fun _ _ _ _ _ _ us hl => match us, hl with | [_, _, _], _ => rfl
  have bmf := Fmf.binds (ps := ["self"]) fun _ _ _ _ _ _ us hl => match us, hl with | [_], _ => rfl
  have bme := Fme.binds (ps := ["self"]) fun _ _ _ _ _ _ us hl => match us, hl with | [_], _ => rfl
  have kwI : KBn K _ ["self", "cells"] 1 ["cells"] (· ++ ·) (· ++ ·) := kbn_of FI (fun _ _ _ _ _ _ us ws h1 h2 => match us, ws, h1, h2 with | [_], [_], _, _ => rfl) fun a b => a.append b
  have kwL : KBn K _ ["self", "at"] 1 ["at"] (· ++ ·) (· ++ ·) := kbn_of Fml (fun _ _ _ _ _ _ us ws h1 h2 => match us, ws, h1, h2 with | [_], [_], _, _ => rfl) fun a b => a.append b
  have kwP : KBn K _ ["self", "at", "octet"] 1 ["octet", "at"] (fun a b => a ++ b.reverse) (fun a b => a ++ b.reverse) := kbn_of Fmp (fun _ _ _ _ _ _ us ws h1 h2 => match us, ws, h1, h2 with | [_], [_, _], _, _ => rfl) fun a b => a.append b.reverse
  have kwG := kwB_of (ps := ["events"]) (ks := ["events"]) (g := id) FG fun _ _ _ _ _ _ ws hl => match ws, hl with | [_], _ => rfl
  have kwU := kwB_of (ps := ["cells", "events", "octets"]) (ks := ["octets", "events", "cells"]) (g := List.reverse) FU fun _ _ _ _ _ _ ws hl => match ws, hl with | [_, _, _], _ => rfl
  have cl : Cls K C := ⟨pg, hd, po, sa⟩
  have T : DTxt K mg C := ⟨cl, nC, nP, nH, PySem.W.mg_of X G gC⟩
  have M : Mk K C fI := ⟨mk, aI, iI, kpC⟩
  have ox : OexC K CR := ⟨⟨nm, qn, Nn, bs, _, sn, sub, ab, col, dd, m0, m1, m2, m3, m5, xR, rfl⟩, saR, exC, tyC, kCR⟩
  have TR : RTxt K mg CR fR := ⟨ox, nW, aR, tI, PySem.W.mg_of X G gCR⟩
  have TE : ETxt K mg CR CD CB CN := ⟨PySem.W.mg_of X G gCD, PySem.W.mg_of X G gCB, PySem.W.mg_of X G gCN, PySem.W.exm_ref eCD hCD tCD sRD, PySem.W.exm_ref exC hdR tyC sRR, kit_yes iCR tyC sRR, kit_no hCB tCB sRR sRB, kit_no hCN tCN sRR sRN, ⟨hg, hk, exC, hdR, haR, hn, ht, hm⟩, ⟨hg, hk, exC, hdR⟩⟩
  exact ⟨PySem.W.fnOf "law" "law" (defArgs sLaw) (defBody sLaw) (defScope sLaw) .none kVV dcV pmV anV cdV ctV, fun s v => .of_eq rfl, fun base _ _ =>
    ok_law FV FH FD FP FO FL FQ FX FY FZ FW FI T M FC FB FN FG FU FR TR TE ⟨aml, iml, kml⟩ Fml ⟨amp, imp, kmp⟩ Fmp ⟨amf, imf, kmf⟩ Fmf ⟨ame, ime, kme⟩ Fme bH bD bP bO bL bQ bX bY bZ bW bI bC bN bB bG bU bR bml bmp bmf bme kwI kwL kwP kwG kwU (PySem.W.mg_of X G aH) (PySem.W.mg_of X G aD) (PySem.W.mg_of X G aP) (PySem.W.mg_of X G aO) (PySem.W.mg_of X G aL) (PySem.W.mg_of X G aQ) (PySem.W.mg_of X G aX) (PySem.W.mg_of X G aY) (PySem.W.mg_of X G aZ) (PySem.W.mg_of X G aW) (PySem.W.mg_of X G aC) (PySem.W.mg_of X G aN) (PySem.W.mg_of X G aB) (PySem.W.mg_of X G aG) (PySem.W.mg_of X G aU) (PySem.W.mg_of X G vM) (PySem.W.mg_of X G vO) (PySem.W.mg_none_of X G z0) (PySem.W.mg_none_of X G z1) (PySem.W.mg_none_of X G z2) (PySem.W.mg_none_of X G z3) (PySem.W.mg_none_of X G z4) (PySem.W.mg_none_of X G z5) (PySem.W.mg_none_of X G z6) (PySem.W.mg_none_of X G z7) (PySem.W.mg_none_of X G z8) (PySem.W.mg_none_of X G z9) (PySem.W.mg_none_of X G z10) (PySem.W.mg_none_of X G z11)⟩
end K9
open PySem PySem.W PyProof.Rows
set_option maxHeartbeats 0 in
theorem PySem.Challenge.cw_neverregret_k59_whole_disks_and_cuts_holds : PySem.Challenge.rw_neverregret_k59_whole_disks_and_cuts.Holds := by
  w_on; o_law; k_head; (case hw => w_witness2)
  k_fill
  refine Gd.walk_G (l := PySem.Challenge.rw_neverregret_k59_whole_disks_and_cuts) (n := 63) (k := 7) (x := "script") (sp := fun w => K9.spLaw _) rfl (by decide) rfl ⟨rfl, by decide, by decide⟩ (fun w h Y => PySem.W.kIn_of Y) ?F (fun _ _ a ns hl _ _ hS => ⟨a, ns, rfl, hS, hl, fun _ => rfl⟩)
  case F =>
    intro w mg fa h KX G hmg
    refine' K9.all_mk KX G hmg ?aN ?lN ?cN ?kN ?aB ?lB ?cB ?kB ?aC ?lC ?cC ?kC ?aG ?lG ?cG ?kG ?aU ?lU ?cU ?kU ?aH ?lH ?cH ?kH ?aD ?lD ?cD ?kD ?aP ?lP ?cP ?kP ?aO ?lO ?cO ?kO ?aL ?lL ?cL ?kL ?aQ ?lQ ?cQ ?kQ ?aX ?lX ?cX ?kX ?aY ?lY ?cY ?kY ?aZ ?lZ ?cZ ?kZ ?aW ?lW ?cW ?kW ?aV ?lV ?cV ?kV ?gC ?gCR ?gCD ?gCB ?gCN ?aR ?lR ?cR ?kR ?iR ?aI ?lI ?cI ?kI ?iI ?aml ?lml ?cml ?kml ?iml ?amp ?lmp ?cmp ?kmp ?imp ?amf ?lmf ?cmf ?kmf ?imf ?ame ?lme ?cme ?kme ?ime ?pg ?hd ?po ?sa ?nC ?nP ?nH ?mk ?kpC ?xR ?saR ?exC ?tyC ?kCR ?nW ?tI ?sRR ?sRD ?sRB ?sRN ?eCD ?hCD ?tCD ?hCB ?tCB ?hCN ?tCN ?iCR ?hg ?hk ?hdR ?haR ?hn ?ht ?hm ?vM ?vO ?z0 ?z1 ?z2 ?z3 ?z4 ?z5 ?z6 ?z7 ?z8 ?z9 ?z10 ?z11
    (case aN => k_is); (case lN => k_is); (case cN => k_is); (case kN => k_is); (case aB => k_is); (case lB => k_is); (case cB => k_is); (case kB => k_is); (case aC => k_is); (case lC => k_is); (case cC => k_is); (case kC => k_is); (case aG => k_is); (case lG => k_is); (case cG => k_is); (case kG => k_is); (case aU => k_is); (case lU => k_is); (case cU => k_is); (case kU => k_is); (case aH => k_is); (case lH => k_is); (case cH => k_is); (case kH => k_is); (case aD => k_is); (case lD => k_is); (case cD => k_is); (case kD => k_is); (case aP => k_is); (case lP => k_is); (case cP => k_is); (case kP => k_is); (case aO => k_is); (case lO => k_is); (case cO => k_is); (case kO => k_is); (case aL => k_is); (case lL => k_is); (case cL => k_is); (case kL => k_is); (case aQ => k_is); (case lQ => k_is); (case cQ => k_is); (case kQ => k_is); (case aX => k_is); (case lX => k_is); (case cX => k_is); (case kX => k_is); (case aY => k_is); (case lY => k_is); (case cY => k_is); (case kY => k_is); (case aZ => k_is); (case lZ => k_is); (case cZ => k_is); (case kZ => k_is); (case aW => k_is); (case lW => k_is); (case cW => k_is); (case kW => k_is); (case aV => k_is); (case lV => k_is); (case cV => k_is); (case kV => k_is); (case gC => k_is); (case gCR => k_is); (case gCD => k_is); (case gCB => k_is); (case gCN => k_is); (case aR => k_is); (case lR => k_is); (case cR => k_is); (case kR => k_is); (case iR => k_is); (case aI => k_is); (case lI => k_is); (case cI => k_is); (case kI => k_is); (case iI => k_is); (case aml => k_is); (case lml => k_is); (case cml => k_is); (case kml => k_is); (case iml => k_is); (case amp => k_is); (case lmp => k_is); (case cmp => k_is); (case kmp => k_is); (case imp => k_is); (case amf => k_is); (case lmf => k_is); (case cmf => k_is); (case kmf => k_is); (case imf => k_is); (case ame => k_is); (case lme => k_is); (case cme => k_is); (case kme => k_is); (case ime => k_is); (case pg => k_is); (case hd => k_is); (case po => k_is); (case sa => k_is); (case nC => k_is); (case nP => k_is); (case nH => k_is); (case mk => k_is); (case kpC => k_is); (case xR => k_is); (case saR => k_is); (case exC => k_is); (case tyC => k_is); (case kCR => k_is); (case nW => k_is); (case tI => k_is); (case sRR => first | k_is | rfl); (case sRD => k_is); (case sRB => k_is); (case sRN => k_is); (case eCD => k_is); (case hCD => k_is); (case tCD => k_is); (case hCB => k_is); (case tCB => k_is); (case hCN => k_is); (case tCN => k_is); (case iCR => k_is); (case hg => k_is); (case hk => k_is); (case hdR => k_is); (case haR => k_is); (case hn => k_is); (case ht => k_is); (case hm => k_is); (case vM => k_is); (case vO => k_is); (case z0 => k_is); (case z1 => k_is); (case z2 => k_is); (case z3 => k_is); (case z4 => k_is); (case z5 => k_is); (case z6 => k_is); (case z7 => k_is); (case z8 => k_is); (case z9 => k_is); (case z10 => k_is); (case z11 => k_is)
