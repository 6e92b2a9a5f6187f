import PyProof.Rows.All
import Wide.All
import OpenK.AllK
import Wide.FinOn
import HandS.ForMost
import HandS.Style
import HandS.Wide
import HandS.EndBits
import HandS.FStrTup
import Flt.Len
import KE.KxIndex
import HandS.ForExc
import HandS.IsInst
import HandS.ExcInit
import HandS.ExcField
import HandS.MakeKwOnly
import HandS.TupMul
import HandS.Zip
import HandS.TupAny
import HandS.More
import HandS.ExcIs
import KE.KExcIs
import KE.KIndexOf
import KE.GoesEnum
import HandS.Iter
import HandS.Strs
import HandS.SetFor
import HandS.TryOnly
import PySem.Challenge.RW_neverregret_k60_whole_journals_cut_anywh
set_option Elab.async false
set_option linter.all false
set_option maxRecDepth 100000
/-! Defs whose promise holds where no repr is under way: so that repr of data is the text of the data. -/
namespace Gd
open PySem PySem.Spec PyProof.Rows L2
/-- room, and nothing is being shown -/
structure RmG (k : Nat) (A : Around) : Prop where
  rm : Room k A
  gd : A.guards = some []
theorem RmG.mono {j k : Nat} {A : Around} (r : RmG k A) (h : j ≤ k) : RmG j A := ⟨r.rm.mono h, r.gd⟩
structure FnG (P : Program) (w : World) (K : PySem.W.Frag) (mg : Str → Option Value) (base : Heap) (k : Nat) (f : Addr) (fd : FuncData) (ps : List Str) (sp : Sp) : Prop where
  len : ∀ xs H Q E, sp xs H Q E → xs.length = ps.length
  go : ∀ (A : Around) (out : List Env) (s : Shared) (H : Hp) (ar : Args) (us : List Value) (xs : List V) (Q : VK) (E : XK),
    RmG k A → Env0 P w K mg base A out s H → BindsTo s fd ar (ps.zip us) → Vals xs us → sp xs H Q E →
    codeAny (model P w) A (.call (.ref f) ar) (CR CX0 out P w H s Q E) s
section
variable {P : Program} {w : World} {K : PySem.W.Frag} {mg : Str → Option Value} {base : Heap}
theorem FnG.of {k : Nat} {f : Addr} {fd : FuncData} {ps : List Str} {sp : Sp} (F : FnOk P w K mg base CX0 k f fd ps sp) : FnG P w K mg base k f fd ps sp :=
  ⟨F.len, fun A out s H ar us xs Q E hr => F.run A out s H ar us xs Q E hr.rm⟩
theorem FnG.mono {j k : Nat} {f : Addr} {fd : FuncData} {ps : List Str} {sp : Sp} (F : FnG P w K mg base j f fd ps sp) (h : j ≤ k) : FnG P w K mg base k f fd ps sp :=
  ⟨F.len, fun A out s H ar us xs Q E hr => F.go A out s H ar us xs Q E (hr.mono h)⟩
/-- a def of the text, by its body -/
theorem okG {x qual : Str} {st : Stmt} {f : Addr} {fd : FuncData} {N ps : List Str} {k : Nat} {sp : Sp} (F : Fun K x qual st f fd) (S : FnScope N ps (defScope st))
    (len : ∀ xs H Q E, sp xs H Q E → xs.length = ps.length)
    (body : ∀ (cdv : Value) (A : Around) (out : List Env) (s : Shared) (H : Hp) (xs : List V) (Q : VK) (E : XK),
      RmG k (A.deeper (envOfC qual (defScope st) s.heap.objs.size f cdv)) → sp xs H Q E →
      ∃ t, PSs (cxOf CX0 P w K mg base N qual (defScope st) f cdv A out s H E).nox (defBody st) t ∧ t { nx := fun _ G => Q .non G, rt := Q } (start N xs) H) :
    FnG P w K mg base (k + 1) f fd ps sp := by
  obtain ⟨oc, od, kV, doc, pm, an, cv, ct, osl, rfl, lk, hc⟩ := F.ex
  refine ⟨len, fun A out s H ar us xs Q E hr e0 hb rv hsp => ?_⟩
  have hl := len _ _ _ _ hsp
  have up : ∀ b o, base.get? b = some o → s.heap.get? b = some o := fun b o e => (e0.bs b o e).1
  have KX := e0.mod.kin.keeps up
  have lim := e0.mod.nolimit.keeps up
  refine codeAny_call_function hr.rm.depth (KX _ _ lk) rfl S.co S.gen rfl (PySem.W.codeRec_of KX hc) (hb _ _ _ _ ?_)
  refine wpAny_newFunctionEnv_cells S.kind (fun y hy => ?_) fun env he s1 I1 => ?_
  · rcases S.par y.1 (List.of_mem_zip hy).1 with q | q
    · exact .inl q
    · exact .inr ⟨q, PySem.W.cellsFrom_some _ _ _ (.inl q)⟩
  subst he
  refine ⟨lim.keeps I1.toInCall.keep, codeAny_func ?_⟩
  obtain ⟨t, ht, hq⟩ := body cv A out s H xs Q E ⟨hr.rm.deeper _, hr.gd⟩ hsp
  refine wpAny_mono (ht.nox.run [] s1 (start N xs) H _ (inv_start S hr.rm.hd e0 hl rv I1) hq) (fun fl s' hs => ?_) fun _ _ z => z
  cases fl with
  | ret u => obtain ⟨v, σ', G, J, r1, q⟩ := hs; exact ⟨v, G, J.os, J.bare, J.base, J.hok, r1, q⟩
  | next => obtain ⟨σ', G, J, q⟩ := hs; exact ⟨.non, G, J.os, J.bare, J.base, J.hok, rfl, q⟩
  | brk => exact (hs.choose_spec.choose_spec.2).elim
  | cont => exact (hs.choose_spec.choose_spec.2).elim
end
section
variable {X : Cx} {k : Nat} {f : Addr} {fd : FuncData} {ps ks : List Str} {sp : Sp} {dvs : List V} {ds : List Value} {E : XK} {x : Str} {p pos : Pos} {e : Expr} {es : List Expr} {kws : List Keyword} {t tk : TA}
theorem run_G {pins : List (Addr × Obj)} {σ : L2.St} {H : Hp} {s : Shared} {Q : VK} {ar : Args} {us : List Value} {xs : List V} (F : FnG X.prog X.w X.K X.mg X.base k f fd ps sp) (hr : RmG k X.A)
    (I : Inv X pins σ H s) (b : BindsTo s fd ar (ps.zip us)) (rv : Vals xs us) (h : sp xs H Q E) : codeAny (model X.prog X.w) X.A (.call (.ref f) ar) (fun r s' => ∃ u, r = .ok (.ret u) ∧ EP X pins σ Q u s') s := by
  refine codeAny_mono (F.go X.A X.stack s H ar us xs Q E hr I.env0 b rv h) fun r s' hq => ?_
  rcases r with e | fl
  · exact hq.elim
  · cases fl with
    | ret u => exact ⟨u, rfl, I.after hq⟩
    | next => exact hq.elim
    | brk => exact hq.elim
    | cont => exact hq.elim
theorem call_G {pins : List (Addr × Obj)} {σ : L2.St} {H : Hp} {s : Shared} {Q : VK} {us : List Value} {xs : List V} (F : FnG X.prog X.w X.K X.mg X.base k f fd ps sp) (hr : RmG k X.A) (hb : Binds X.K fd ps ds) (hd : Vals dvs ds)
    (I : Inv X pins σ H s) (rv : Vals xs us) (h : sp (xs ++ dvs) H Q E) : wpAny (model X.prog X.w) X.A (call (.ref f) us) (EP X pins σ Q) X.xe s := by
  have r2 : Vals (xs ++ dvs) (us ++ ds) := rv.append hd
  have hl : (us ++ ds).length = ps.length := r2.length.symm.trans (F.len _ _ _ _ h)
  refine wpAny_call (codeAny_mono (run_G F hr I (hb s us I.kIn hl) r2 h) fun r s' hq => ?_)
  obtain ⟨u, rfl, z⟩ := hq
  exact z
/-- f(e, ..) -/
theorem pe_callG (F : FnG X.prog X.w X.K X.mg X.base k f fd ps sp) (hr : RmG k X.A) (hg : Gl X x) (hm : X.mg x = some (.ref f)) (hk : PySem.W.keepIn X.K (.ref f) = true) (hb : Binds X.K fd ps ds) (hd : Vals dvs ds)
    (ha : PA X (e :: es) t) (h1 : (x == ("__debug__" : Str)) = false := by decide)
    (h2 : starEach (e :: es) X.env = (false, eval e X.env) :: starEach es X.env := by rfl) (h3 : (backTo pos (starEach es X.env)).any (·.1) = false := by rfl) :
    PE X (.Call (.Name x p) (e :: es) [] pos) (tCall sp dvs E t) :=
  ⟨fun pins s σ H Q I h => wpAny_Call_Name_kw (ld_glob I hg hm (PySem.W.callWith_K (h₀ := X.base) I.ok.mod.kin hk
    (thn (ha.run pos pins s σ H _ I h) fun us s1 ⟨vs, H1, I1, r, q⟩ => ⟨I1.kIn, call_G F hr hb hd I1 r q⟩) h2 h3) h1)⟩
/-- repr of data -/
theorem call_repr (hg : X.A.guards = some []) (hu : X.A.units + 64 < cLine) : CallR X (.builtin "repr") (fun xs H Q => ∃ a d, xs = [.ref a] ∧ Dp X.K H (.ref a) d ∧ d.showable = true ∧ d.hasDict = false ∧ d.depth ≤ 60 ∧ d.shown.length ≤ sizeLine ∧ Q (.str d.shown) H) := by
  intro pins s σ H xs us Q I r h
  obtain ⟨a, d, rfl, hp, hs, hn, hd, hz, q⟩ := h
  obtain ⟨u, rfl, ru⟩ := vals1 r
  obtain rfl : u = .ref a := ru
  obtain ⟨as, rd⟩ := Dp.reads I d _ _ hp rfl
  exact repr_of_reads' rd hs (PyData.noDict_hsm hn) hg (by omega) (fun _ _ z => z) (fun h' u tk hk => ⟨.str d.shown, H, I.kept hk, ⟨_, rfl⟩, q⟩) hz
/-- repr of an int -/
theorem call_reprI : CallR X (.builtin "repr") (fun xs H Q => ∃ i, xs = [.int i] ∧ i.natAbs.log2 < 1920 ∧ Q (.str (toString i)) H) := by
  intro pins s σ H xs us Q I r h
  obtain ⟨i, rfl, hz, q⟩ := h
  obtain ⟨u, rfl, tk, rfl⟩ := vals1 r
  exact PySem.P.repr_of_int hz ⟨.str _, H, I.tok _, ⟨_, rfl⟩, q⟩
end
end Gd
/-! The end of a law row, from a promise that holds where no repr is under way. -/
namespace Gd
open PySem PySem.Spec PyProof.Rows L2
section
variable {P : Program} {w : World} {K : PySem.W.Frag} {mg mb : Str → Option Value} {k : Nat} {fa a : Addr} {fd : FuncData} {x : Str} {sp : Sp} {s : Shared} {vs : List Value} {ns : List Int}
/-- the heap H tracks nothing but the script -/
structure Bare (K : PySem.W.Frag) (a : Addr) (H : Hp) : Prop where
  one : ∀ b, H b ≠ none → b = a
  out : H a ≠ none → K.lookup a = none
theorem hid_map {H : Hp} (ha : s.heap.get? a = some { cls := .type "list", data := .seq vs.toArray }) (B : Bare K a H) {b : Addr} {m : Str → Option Value} (h : s.heap.Ns b m) : (hidT s.heap H).Ns b m := by
  obtain ⟨o, es, ep, e, d, r⟩ := h
  refine ⟨o, es, ep, hidT_get e ?_, d, r⟩
  cases q : H b with
  | none => rfl
  | some u =>
    have z := B.one b (by simp [q])
    subst z
    have z2 := Option.some.inj (ha.symm.trans e)
    subst z2
    exact absurd d (by intro z; cases z)
theorem hid_in {H : Hp} (KX : K.In s.heap) (B : Bare K a H) : K.In (hidT s.heap H) := fun b o e => hidT_get (KX b o e) (by
  cases q : H b with
  | none => rfl
  | some u =>
    have z := B.one b (by simp [q])
    subst z
    have z2 := B.out (by simp [q])
    rw [z2] at e
    cases e)
theorem end_core (KX : K.In s.heap) (hns : s.heap.Ns mainGlobals mg) (hb : s.heap.Ns builtinsNs mb) (hbb : ∀ y : Str, y ≠ "__name__" → mb y = bootBuiltins y) (hlim : s.heap.NoLimit) (hg : s.gens = #[])
    (ha : s.heap.get? a = some { cls := .type "list", data := .seq vs.toArray }) (hr : Room k callerA)
    (F : ∀ base : Heap, K.In base → base.Ns mainGlobals mg → FnG P w K mg base k fa fd [x] sp) (hbind : ∀ (t : Shared) (u : Value), BindsTo t fd ⟨[u], []⟩ [(x, u)])
    {H : Hp} (hO : Only H) (hok : HOk P w H s.heap) (B : Bare K a H) (h : sp [.ref a] H (fun v _ => v = .bl true) fun _ _ _ => False) :
    codeAny (model P w) callerA (.call (.ref fa) ⟨[.ref a], []⟩) (fun r s' => r = .ok (.ret (.bool true)) ∧ OldK s.heap s'.heap ∧ s'.os = s.os ∧ AllBare s'.gens) s := by
  have KB := hid_in KX B
  have NB := hid_map ha B hns
  have MB : Mod K mg (hidT s.heap H) := ⟨KB, NB, ⟨mb, hid_map ha B hb, hbb⟩, hlim.elim fun mc z => ⟨mc, hid_map ha B z.1, z.2⟩⟩
  have e0 : Env0 P w K mg (hidT s.heap H) callerA [] s H :=
    ⟨rfl, MB, fun b o e => of_hidT e, Nat.le_of_eq (hidT_size _ _), trivial, fun b z => (nomatch (show b ∈ ([] : List Addr) from z)), hok, .of_eq hg⟩
  refine codeAny_mono ((F _ KB NB).go callerA [] s H ⟨[.ref a], []⟩ [.ref a] [.ref a] _ _ ⟨hr, rfl⟩ e0 (hbind s (.ref a)) (.cons rfl .nil) h) fun r s' z => ?_
  rcases r with e | fl
  · exact z.elim
  · cases fl with
    | next => exact z.elim
    | brk => exact z.elim
    | cont => exact z.elim
    | ret u =>
      obtain ⟨v, G, os, bare, un, okG, ru, rfl⟩ := z
      obtain rfl : u = Value.bool true := ru
      refine ⟨rfl, OldK.of_keep fun b o e => ?_, os, bare⟩
      cases q : H b with
      | none => exact un.keep b o e q (fun z => nomatch (show b ∈ ([] : List Addr) from z)) (fun z => nomatch z)
      | some u =>
        rcases hO b with z | ⟨ob, xs, z⟩
        · exact nomatch q.symm.trans z
        · have e1 := (hok b _ z).1
          have e2 := (okG b _ (un.frzs b ob _ z)).1
          exact e2.trans (e1.symm.trans e)
theorem end_call (KX : K.In s.heap) (hns : s.heap.Ns mainGlobals mg) (hb : s.heap.Ns builtinsNs mb) (hbb : ∀ y : Str, y ≠ "__name__" → mb y = bootBuiltins y) (hlim : s.heap.NoLimit) (hg : s.gens = #[])
    (ha : s.heap.get? a = some { cls := .type "list", data := .seq vs.toArray }) (hi : IntsAre vs ns) (hl : ns.length ≤ sizeLine) (hr : Room k callerA)
    (F : ∀ base : Heap, K.In base → base.Ns mainGlobals mg → FnG P w K mg base k fa fd [x] sp) (hbind : ∀ (t : Shared) (u : Value), BindsTo t fd ⟨[u], []⟩ [(x, u)])
    (hsp : ∀ H : Hp, Only H → SqL K H a (ns.map V.int) → sp [.ref a] H (fun v _ => v = .bl true) fun _ _ _ => False) :
    codeAny (model P w) callerA (.call (.ref fa) ⟨[.ref a], []⟩) (fun r s' => r = .ok (.ret (.bool true)) ∧ OldK s.heap s'.heap ∧ s'.os = s.os ∧ AllBare s'.gens) s := by
  have rv := vals_ints hi
  cases hk : K.lookup a with
  | some o =>
    have e := Option.some.inj (ha.symm.trans (KX a o hk))
    subst e
    have hO : Only fun _ => none := fun _ => .inl rfl
    exact end_core KX hns hb hbb hlim hg ha hr F hbind hO (fun b u z => nomatch (show (none : Option HO) = some u from z)) ⟨fun b z => absurd rfl z, fun z => absurd rfl z⟩
      (hsp _ hO (.inr ⟨_, vs.toArray, _, hk, rfl, rfl, rfl, by rw [List.size_toArray, hi.length]; exact hl, by simpa using rv⟩))
  | none =>
    let H : Hp := fun b => if b = a then some (.frz { cls := .type "list", data := .seq vs.toArray } (.lst (ns.map V.int))) else none
    have at_a : H a = some (.frz { cls := .type "list", data := .seq vs.toArray } (.lst (ns.map V.int))) := if_pos rfl
    have off : ∀ {b}, b ≠ a → H b = none := fun h => if_neg h
    have hO : Only H := fun b => by
      by_cases z : b = a
      · exact .inr ⟨_, _, if_pos z⟩
      · exact .inl (off z)
    refine end_core KX hns hb hbb hlim hg ha hr F hbind hO (fun b u z => ?_) ⟨fun b z => ?_, fun _ => hk⟩ (hsp H hO (.inl (.inr ⟨_, at_a⟩)))
    · by_cases y : b = a
      · subst y
        have z2 := Option.some.inj (at_a.symm.trans z)
        subst z2
        exact ⟨ha, by rw [List.length_map]; exact hl, vs, _, rv, ha⟩
      · exact nomatch (off y).symm.trans z
    · by_cases y : b = a
      · exact y
      · exact absurd (off y) z
end
theorem walk_G {l : PySem.W.OpenLaw} {n k : Nat} {q : Program} {loose : List Str} {XP : (Str → Option Value) → Heap → Prop} {YP : World → Heap → Prop} {d : DefRec} {K : Params → PySem.W.Frag} {sp : World → Sp} {x : Str}
    (hn : l.most = some n) (hn2 : n ≤ sizeLine) (hdf : d.params.defaults = []) (hr : Room k callerA) (hY : ∀ (w : World) (h : Heap), YP w h → (K w.params).In h)
    (F : ∀ (w : World) (mg : Str → Option Value) (fa : Addr) (h : Heap), (K w.params).In h → h.Ns mainGlobals mg → mg d.name = some (.ref fa) →
      ∃ fd : FuncData, (∀ (t : Shared) (u : Value), BindsTo t fd ⟨[u], []⟩ [(x, u)]) ∧ ∀ base : Heap, (K w.params).In base → base.Ns mainGlobals mg → FnG l.prog w (K w.params) mg base k fa fd [x] (sp w))
    (hsp : ∀ (w : World) (H : Hp) (a : Addr) (ns : List Int), ns.length ≤ n → (∀ z ∈ ns, Builtin.Int.intBits z ≤ 1048576) → Only H → SqL (K w.params) H a (ns.map V.int) → sp w [.ref a] H (fun v _ => v = .bl true) fun _ _ _ => False) :
    PySem.W.WalkO q loose XP YP l.row.toRowW d [] (fun f vs => PySem.call f vs) := by
  refine Att.attach_callB hn hdf fun w s₀ s mg mb fa o pm cd doc a vs ns G Y ho hd hcd hm hobj hi hl hbits hg => ?_
  obtain ⟨fd, hb, hF⟩ := F w mg fa _ (hY w _ Y) G.T.g hm
  exact end_call (hY w _ Y) G.T.g G.T.b G.T.builtins G.T.nolimit hg hobj hi (Nat.le_trans hl hn2) hr hF hb fun H hO hS => hsp w H a ns hl hbits hO hS
end Gd
/-! Data: what stays of it, and what its repr costs. -/
namespace Gd
open PySem PySem.Spec PyProof.Rows L2
mutual
theorem dp_same {K : PySem.W.Frag} {H G : Hp} (e : Same H G) : ∀ (d : PyData) (v : V), Dp K H v d → Dp K G v d
  | .none, _, h => by cases h; exact .non
  | .bool b, _, h => by cases h; exact .bl b
  | .int i, _, h => by cases h; exact .int i
  | .str x, _, h => by cases h; exact .str x
  | .list ds, _, h => by
    cases h with
    | lst hs ha => exact .lst (e.seq hs) (dpAll_same e ds _ ha)
  | .tuple ds, _, h => by
    cases h with
    | tup hs ha =>
      refine .tup ?_ (dpAll_same e ds _ ha)
      rcases hs with (z | ⟨o, z⟩) | z
      · exact .inl (.inl (e _ _ z))
      · exact .inl (.inr ⟨o, e _ _ z⟩)
      · exact .inr z
  | .dict _, _, h => by cases h
theorem dpAll_same {K : PySem.W.Frag} {H G : Hp} (e : Same H G) : ∀ (ds : List PyData) (vs : List V), DpAll K H vs ds → DpAll K G vs ds
  | [], _, h => by cases h; exact .nil
  | d :: ds, _, h => by
    cases h with
    | cons h1 h2 => exact .cons (dp_same e d _ h1) (dpAll_same e ds _ h2)
end
theorem same_seqT {K : PySem.W.Frag} {H H' : Hp} {a : Addr} {xs : List V} (e : Same H H') (h : SqT K H a xs) : SqT K H' a xs := by
  rcases h with (z | ⟨o, z⟩) | z
  · exact .inl (.inl (e _ _ z))
  · exact .inl (.inr ⟨o, e _ _ z⟩)
  · exact .inr z
theorem same_new {H : Hp} {p : Addr} {o : HO} (h : H p = none) : Same H (upd H p o) := fun b x e => (upd_ne (ne_of_none e h)).trans e
theorem sqT {K : PySem.W.Frag} {H : Hp} {a : Addr} {xs : List V} (h : H a = some (.tup xs)) : SqT K H a xs := .inl (.inl h)
theorem sqL {K : PySem.W.Frag} {H : Hp} {a : Addr} {xs : List V} (h : H a = some (.lst xs)) : SqL K H a xs := .inl (.inl h)
theorem dpAll_snoc {K : PySem.W.Frag} {H : Hp} {v : V} {d : PyData} : ∀ {vs : List V} {ds : List PyData}, DpAll K H vs ds → Dp K H v d → DpAll K H (vs ++ [v]) (ds ++ [d])
  | _, _, .nil, h => .cons h .nil
  | _, _, .cons a r, h => .cons a (dpAll_snoc r h)
theorem dpAll_len {K : PySem.W.Frag} {H : Hp} : ∀ {vs : List V} {ds : List PyData}, DpAll K H vs ds → vs.length = ds.length
  | _, _, .nil => rfl
  | _, _, .cons _ r => by rw [List.length_cons, List.length_cons, dpAll_len r]
theorem dpAll_get {K : PySem.W.Frag} {H : Hp} : ∀ {vs : List V} {ds : List PyData} {i : Nat} {d : PyData}, DpAll K H vs ds → ds[i]? = some d → ∃ v, vs[i]? = some v ∧ Dp K H v d
  | _, _, _, _, .nil, e => by simp at e
  | _, _, 0, _, .cons a _, e => by simp at e; subst e; exact ⟨_, rfl, a⟩
  | _, _, i + 1, d, .cons _ r, e => by
    obtain ⟨v, h1, h2⟩ := dpAll_get (i := i) (d := d) r (by simpa using e)
    exact ⟨v, by simpa using h1, h2⟩
theorem dpAll_ints {K : PySem.W.Frag} {H : Hp} : ∀ ns : List Int, DpAll K H (ns.map V.int) (ns.map .int)
  | [] => .nil
  | n :: ns => .cons (.int n) (dpAll_ints ns)
theorem dpAll_strs {K : PySem.W.Frag} {H : Hp} : ∀ ns : List Str, DpAll K H (ns.map V.str) (ns.map .str)
  | [] => .nil
  | n :: ns => .cons (.str n) (dpAll_strs ns)
/-! what repr and == ask of data -/
mutual
/-- plain data: no dicts, signs below 1000, ints below 10 ^ 9 in size -/
def fine : PyData → Bool
  | .none | .bool _ => true
  | .int i => decide (i.natAbs < 10 ^ 9)
  | .str x => x.cps.toList.all (· < 1000)
  | .list xs | .tuple xs => fineAll xs
  | .dict _ => false
def fineAll : List PyData → Bool
  | [] => true
  | x :: xs => fine x && fineAll xs
end
mutual
def costD : PyData → Nat
  | .none => 4
  | .bool _ => 5
  | .int _ => 10
  | .str x => 10 * x.length + 2
  | .list xs | .tuple xs => costAll xs + 2
  | .dict _ => 0
def costAll : List PyData → Nat
  | [] => 0
  | x :: xs => costD x + 2 + costAll xs
end
theorem fine_str {x : Str} : fine (.str x) = true ↔ ∀ c ∈ x.cps.toList, c < 1000 := by
  rw [fine, List.all_eq_true]
  exact ⟨fun h c hc => of_decide_eq_true (h c hc), fun h c hc => decide_eq_true (h c hc)⟩
mutual
theorem fine_lay : ∀ d : PyData, fine d = true → d.canLay0 = true
  | .none, _ => rfl
  | .bool _, _ => rfl
  | .int _, _ => rfl
  | .str x, h => by
    have h' := fine_str.mp h
    show x.cps.all _ = true
    rw [Array.all_eq_true']
    intro c hc
    have := h' c (by simpa using hc)
    exact decide_eq_true (by omega)
  | .list xs, h => by rw [PyData.canLay0]; exact fineAll_lay xs (by simpa [fine] using h)
  | .tuple xs, h => by rw [PyData.canLay0]; exact fineAll_lay xs (by simpa [fine] using h)
  | .dict _, h => by simp [fine] at h
theorem fineAll_lay : ∀ ds : List PyData, fineAll ds = true → PyData.canLayAll0 ds = true
  | [], _ => rfl
  | x :: xs, h => by
    have h' : fine x = true ∧ fineAll xs = true := by simpa [fineAll] using h
    rw [PyData.canLayAll0, fine_lay x h'.1, fineAll_lay xs h'.2]; rfl
end
mutual
theorem fine_show : ∀ d : PyData, fine d = true → d.showable = true
  | .none, _ => by simp [PyData.showable]
  | .bool _, _ => by simp [PyData.showable]
  | .int i, h => by
    have h' : i.natAbs < 10 ^ 9 := by simpa [fine] using h
    have : i.natAbs.log2 < 1920 := Flt.log2_lt_of (by decide) (Nat.lt_of_lt_of_le h' (by decide))
    simpa [PyData.showable] using this
  | .str x, h => by simp [PyData.showable]
  | .list xs, h => by rw [PyData.showable]; exact fineAll_show xs (by simpa [fine] using h)
  | .tuple xs, h => by rw [PyData.showable]; exact fineAll_show xs (by simpa [fine] using h)
  | .dict _, h => by simp [fine] at h
theorem fineAll_show : ∀ ds : List PyData, fineAll ds = true → PyData.showableAll ds = true
  | [], _ => by simp [PyData.showableAll]
  | x :: xs, h => by
    have h' : fine x = true ∧ fineAll xs = true := by simpa [fineAll] using h
    rw [PyData.showableAll, fine_show x h'.1, fineAll_show xs h'.2]; rfl
end
theorem list_text (ts : List Str) : (listText ts).length ≤ piled ts + 2 := by
  rw [listText_eq_join]
  have e1 : (("[" : Str)).length = 1 := rfl
  have e2 : (("]" : Str)).length = 1 := rfl
  rw [strLen_append, strLen_append, e1, e2]
  by_cases h : ts = []
  · subst h; decide +kernel
  · have := join_length_add ts h
    omega
mutual
theorem shown_cost : ∀ d : PyData, fine d = true → d.shown.length ≤ costD d
  | .none, _ => by rw [PyData.shown]; decide +kernel
  | .bool b, _ => by rw [PyData.shown]; cases b <;> decide +kernel
  | .int i, h => by
    have h' : i.natAbs < 10 ^ 9 := by simpa [fine] using h
    rw [PyData.shown, PySem.ofString_length]
    exact int_text_length_le10 (k := 9) (by decide) h'
  | .str x, h => by
    have h' := fine_str.mp h
    rw [PyData.shown, costD]
    exact StrLaws.reprText_len x fun c hc => Nat.lt_trans (h' c hc) (by decide)
  | .list xs, h => by
    rw [PyData.shown, costD]
    have := shownAll_cost xs (by simpa [fine] using h)
    have := list_text (PyData.shownAll xs)
    omega
  | .tuple xs, h => by
    rw [PyData.shown, costD]
    have := shownAll_cost xs (by simpa [fine] using h)
    have := PySem.fmt_text (PyData.shownAll xs)
    omega
  | .dict _, h => by simp [fine] at h
theorem shownAll_cost : ∀ ds : List PyData, fineAll ds = true → piled (PyData.shownAll ds) ≤ costAll ds
  | [], _ => by rw [PyData.shownAll, costAll, piled_nil]; exact Nat.le_refl 0
  | x :: xs, h => by
    have h' : fine x = true ∧ fineAll xs = true := by simpa [fineAll] using h
    have h1 := shown_cost x h'.1
    have h2 := shownAll_cost xs h'.2
    rw [PyData.shownAll, costAll, piled_cons]
    omega
end
theorem fine_shaped {d : PyData} (h : fine d = true) (hd : d.depth ≤ 60) : SeqAt.shaped d = true := by
  unfold SeqAt.shaped
  rw [fine_lay d h]
  exact decide_eq_true (by omega)
theorem fine_eqv {d : PyData} (h : fine d = true) : PyData.eqv d d = true := SeqAt.eqv_refl d (fine_lay d h)
theorem fineAll_mem : ∀ {ds : List PyData}, (∀ d ∈ ds, fine d = true) → fineAll ds = true
  | [], _ => by simp [fineAll]
  | x :: xs, h => by simp [fineAll, h x List.mem_cons_self, fineAll_mem fun d hd => h d (List.mem_cons_of_mem _ hd)]
theorem depthAll_mem {n : Nat} : ∀ {ds : List PyData}, (∀ d ∈ ds, d.depth ≤ n) → PyData.depthAll ds ≤ n
  | [], _ => by simp [PyData.depthAll]
  | x :: xs, h => by
    have h1 := h x List.mem_cons_self
    have h2 := depthAll_mem (n := n) (ds := xs) fun d hd => h d (List.mem_cons_of_mem _ hd)
    simp only [PyData.depthAll]
    omega
/-- repr(x), x plain data at an address: its text; what is asked is told by fine and costD -/
theorem call_reprF {X : Cx} (hg : X.A.guards = some []) (hu : X.A.units + 64 < cLine) : CallR X (.builtin "repr") (fun xs H Q => ∃ a d, xs = [.ref a] ∧ Dp X.K H (.ref a) d ∧ fine d = true ∧ d.depth ≤ 60 ∧ costD d ≤ sizeLine ∧ Q (.str d.shown) H) := by
  intro pins s σ H xs us Q I r h
  obtain ⟨a, d, e, hp, hf, hd, hz, q⟩ := h
  exact call_repr hg hu pins s σ H xs us Q I r ⟨a, d, e, hp, fine_show d hf, PyData.hasDict_of_canLay d (fine_lay d hf), hd, Nat.le_trans (shown_cost d hf) hz, q⟩
end Gd
/-! Calls that give all by keywords. -/
namespace Gd
open PySem PySem.Spec PyProof.Rows L2
/-- how a call by keywords alone binds: g puts their values in the parameters' order -/
def KwB (fd : FuncData) (ps ks : List Str) (g : List Value → List Value) : Prop := ∀ (s : Shared) (ws : List Value), ws.length = ks.length → BindsTo s fd ⟨[], ks.zip ws⟩ (ps.zip (g ws))
theorem kwB_of {K : PySem.W.Frag} {x qual : Str} {st : Stmt} {f : Addr} {fd : FuncData} {ps ks : List Str} {g : List Value → List Value} (F : Fun K x qual st f fd)
    (h : ∀ (kV doc pm : Value) (an : Option Addr) (cv ct : Value) (ws : List Value), ws.length = ks.length → bindArgs (PySem.W.fnOf x qual (defArgs st) (defBody st) (defScope st) .none kV doc pm an cv ct) ⟨[], ks.zip ws⟩ = pure (ps.zip (g ws))) : KwB fd ps ks g := by
  obtain ⟨oc, od, kV, doc, pm, an, cv, ct, osl, rfl, lk, hc⟩ := F.ex
  exact fun s ws hl => .of_eq (h kV doc pm an cv ct ws hl)
def tKw (m : Nat) (sp : Sp) (gV : List V → List V) (E : XK) (tk : TA) : TE := fun σ H Q => tk σ H fun zs H2 => zs.length = m ∧ sp (gV zs) H2 Q E
section
variable {X : Cx} {k : Nat} {f : Addr} {fd : FuncData} {ps ks : List Str} {sp : Sp} {E : XK} {x : Str} {p pos : Pos} {kws : List Keyword} {tk : TA}
/-- f(k = v, ..) -/
theorem pe_kwG {g : List Value → List Value} {gV : List V → List V} (F : FnG X.prog X.w X.K X.mg X.base k f fd ps sp) (hr : RmG k X.A) (hg : Gl X x) (hm : X.mg x = some (.ref f)) (hk : PySem.W.keepIn X.K (.ref f) = true)
    (hb : KwB fd ps ks g) (hv : ∀ {zs : List V} {ws : List Value}, zs.length = ks.length → Vals zs ws → Vals (gV zs) (g ws)) (hkw : PK X kws tk)
    (h1 : (backToKw pos (keywordEach kws X.env)).all (·.1.isSome) = true := by rfl) (h2 : (backToKw pos (keywordEach kws X.env)).filterMap (·.1) = ks := by rfl) (h3 : (x == ("__debug__" : Str)) = false := by decide)
    (h4 : ((backTo pos (starEach [] X.env)).any (·.1) || (backToKw pos (keywordEach kws X.env)).any (·.1.isNone)) = false := by rfl) :
    PE X (.Call (.Name x p) [] kws pos) (tKw ks.length sp gV E tk) := by
  refine ⟨fun pins s σ H Q I h => wpAny_Call_Name_kw (ld_glob I hg hm (PySem.W.callWith_KW0 (h₀ := X.base) I.ok.mod.kin hk h1 ?_ h4) h3)⟩
  refine thn (hkw.run pos pins s σ H _ I h) fun ws s2 ⟨zs, H2, I2, rz, l, q⟩ => ⟨I2.kIn, ?_⟩
  rw [h2]
  have r2 := hv l rz
  refine wpAny_call (codeAny_mono (run_G F hr I2 (hb s2 ws (rz.length.symm.trans l)) r2 q) fun r s' hq => ?_)
  obtain ⟨u, rfl, z⟩ := hq
  exact z
end
end Gd
/-! What the laws' proofs share: the source of draws, what is kept, blocks. -/
namespace Gd
open PySem PySem.Spec PyProof.Rows L2
/-- the law's source of draws at h: its list at l, its number -/
structure Hv (H : Hp) (h l : Addr) (L : List Int) (st : Int) : Prop where
  top : H h = some (.lst [.ref l, .int st])
  bot : H l = some (.lst (L.map V.int))
  ne : l ≠ h
  lo : 0 ≤ st
  hi : st < 2147483647
  len : L.length ≤ 63
/-- all but the source stands as before -/
def But (h l : Addr) (H G : Hp) : Prop := ∀ b o, b ≠ h → b ≠ l → H b = some o → G b = some o
theorem Hv.new {H : Hp} {h l p : Addr} {L : List Int} {st : Int} {o : HO} (v : Hv H h l L st) (n : H p = none) : Hv (upd H p o) h l L st :=
  ⟨(upd_ne (ne_of_none v.top n)).trans v.top, (upd_ne (ne_of_none v.bot n)).trans v.bot, v.ne, v.lo, v.hi, v.len⟩
theorem Hv.same {H G : Hp} {h l : Addr} {L : List Int} {st : Int} (v : Hv H h l L st) (e : Same H G) : Hv G h l L st :=
  ⟨e _ _ v.top, e _ _ v.bot, v.ne, v.lo, v.hi, v.len⟩
theorem Hv.setL {H : Hp} {h l : Addr} {L M : List Int} {st : Int} (v : Hv H h l L st) (hl : M.length ≤ 63) : Hv (upd H l (.lst (M.map V.int))) h l M st :=
  ⟨(upd_ne v.ne.symm).trans v.top, upd_same, v.ne, v.lo, v.hi, hl⟩
theorem Hv.setN {H : Hp} {h l : Addr} {L : List Int} {st n : Int} (v : Hv H h l L st) (h0 : 0 ≤ n) (h1 : n < 2147483647) : Hv (upd H h (.lst [.ref l, .int n])) h l L n :=
  ⟨upd_same, (upd_ne v.ne).trans v.bot, v.ne, h0, h1, v.len⟩
theorem But.refl (h l : Addr) (H : Hp) : But h l H H := fun _ _ _ _ e => e
theorem But.trans {h l : Addr} {H G J : Hp} (a : But h l H G) (b : But h l G J) : But h l H J := fun c o h1 h2 e => b c o h1 h2 (a c o h1 h2 e)
theorem But.new {h l p : Addr} {H G : Hp} {o : HO} (a : But h l H G) (n : G p = none) : But h l H (upd G p o) := fun c x h1 h2 e =>
  (upd_ne (ne_of_none (a c x h1 h2 e) n)).trans (a c x h1 h2 e)
theorem But.same {h l : Addr} {H G J : Hp} (a : But h l H G) (e : Same G J) : But h l H J := fun c x h1 h2 z => e _ _ (a c x h1 h2 z)
theorem But.atL {h l : Addr} {H G : Hp} {o : HO} (a : But h l H G) : But h l H (upd G l o) := fun c x h1 h2 e => (upd_ne h2).trans (a c x h1 h2 e)
theorem But.atH {h l : Addr} {H G : Hp} {o : HO} (a : But h l H G) : But h l H (upd G h o) := fun c x h1 h2 e => (upd_ne h1).trans (a c x h1 h2 e)
theorem fresh_of {h l p : Addr} {H G : Hp} (a : But h l H G) {o : HO} (h1 : p ≠ h) (h2 : p ≠ l) (e : G p = none) : H p = none := by
  cases q : H p with
  | none => rfl
  | some o => exact nomatch (a p o h1 h2 q).symm.trans e
theorem eqv_nil (L : List Int) : PyData.eqv (.list (L.map .int)) (.list []) = decide (L = []) := by
  cases L with
  | nil => rfl
  | cons x r => simp [PyData.eqv, PyData.eqvAll]
theorem shaped_ints (L : List Int) : SeqAt.shaped (.list (L.map .int)) = true := PySem.W.ke_shaped_ints L
theorem dp_ints {K : PySem.W.Frag} {H : Hp} {l : Addr} {L : List Int} (h : H l = some (.lst (L.map V.int))) : Dp K H (.ref l) (.list (L.map .int)) := .lst (sqL h) (dpAll_ints L)
theorem last_map {L : List Int} (h : L ≠ []) : atI (L.map V.int) (-1) = some (.int (L.getLast h)) := by
  have e : L.map V.int = L.dropLast.map V.int ++ [.int (L.getLast h)] := by
    rw [← List.map_singleton, ← List.map_append, List.dropLast_concat_getLast]
  rw [e]
  exact atI_last _ _
theorem last_get {L : List Int} (h : L ≠ []) : (L.map V.int)[(L.map V.int).length - 1]? = some (.int (L.getLast h)) := by
  rw [List.length_map, List.getElem?_map, ← List.getLast?_eq_getElem?, List.getLast?_eq_getLast h]
  rfl
theorem drop_map (L : List Int) : (L.map V.int).dropLast = L.dropLast.map V.int := by rw [List.map_dropLast]
/-- all but lists stands as before -/
def KeepT (H G : Hp) : Prop := ∀ b o, H b = some o → (∀ xs, o ≠ .lst xs) → G b = some o
theorem KeepT.of {H G : Hp} (e : Same H G) : KeepT H G := fun b o h _ => e b o h
theorem KeepT.trans {H G J : Hp} (a : KeepT H G) (b : KeepT G J) : KeepT H J := fun c o h n => b c o (a c o h n) n
theorem KeepT.put {H : Hp} {p : Addr} {xs : List V} {o : HO} (h : H p = some (.lst xs)) : KeepT H (upd H p o) := fun b x e n => by
  have ne : b ≠ p := fun z => by
    subst z
    have z2 := Option.some.inj (h.symm.trans e)
    exact n _ z2.symm
  exact (upd_ne ne).trans e
theorem KeepT.but {h l : Addr} {H G : Hp} {L : List Int} {st : Int} (v : Hv H h l L st) (b : But h l H G) : KeepT H G := fun c o e n =>
  b c o (fun z => by subst z; exact n _ (Option.some.inj (v.top.symm.trans e)).symm) (fun z => by subst z; exact n _ (Option.some.inj (v.bot.symm.trans e)).symm) e
theorem KeepT.seqT {K : PySem.W.Frag} {H G : Hp} {a : Addr} {xs : List V} (e : KeepT H G) (h : SqT K H a xs) : SqT K G a xs := by
  rcases h with (z | ⟨o, z⟩) | z
  · exact .inl (.inl (e _ _ z (by intro _ q; cases q)))
  · exact .inl (.inr ⟨o, e _ _ z (by intro _ q; cases q)⟩)
  · exact .inr z
mutual
def noList : PyData → Bool
  | .none | .bool _ | .int _ | .str _ => true
  | .tuple xs => noListAll xs
  | .list _ | .dict _ => false
def noListAll : List PyData → Bool
  | [] => true
  | x :: xs => noList x && noListAll xs
end
mutual
theorem dp_keep {K : PySem.W.Frag} {H G : Hp} (e : KeepT H G) : ∀ (d : PyData) (v : V), noList d = true → Dp K H v d → Dp K G v d
  | .none, _, _, h => by cases h; exact .non
  | .bool b, _, _, h => by cases h; exact .bl b
  | .int i, _, _, h => by cases h; exact .int i
  | .str x, _, _, h => by cases h; exact .str x
  | .list ds, _, n, _ => by simp [noList] at n
  | .tuple ds, _, n, h => by
    cases h with
    | tup hs ha => exact .tup (e.seqT hs) (dpAll_keep e ds _ (by simpa [noList] using n) ha)
  | .dict _, _, _, h => by cases h
theorem dpAll_keep {K : PySem.W.Frag} {H G : Hp} (e : KeepT H G) : ∀ (ds : List PyData) (vs : List V), noListAll ds = true → DpAll K H vs ds → DpAll K G vs ds
  | [], _, _, h => by cases h; exact .nil
  | d :: ds, _, n, h => by
    have n' : noList d = true ∧ noListAll ds = true := by simpa [noListAll] using n
    cases h with
    | cons h1 h2 => exact .cons (dp_keep e d _ n'.1 h1) (dpAll_keep e ds _ n'.2 h2)
end
theorem noListAll_mem : ∀ {ds : List PyData}, (∀ d ∈ ds, noList d = true) → noListAll ds = true
  | [], _ => rfl
  | x :: xs, h => by rw [noListAll, h x List.mem_cons_self, noListAll_mem fun d hd => h d (List.mem_cons_of_mem _ hd)]; rfl
theorem lt_one (a b : Nat) : decide (([a] : List Nat) < [b]) = decide (a < b) := by
  by_cases h : a < b
  · rw [decide_eq_true h]
    exact decide_eq_true (List.Lex.rel h)
  · rw [decide_eq_false h]
    refine decide_eq_false fun z => ?_
    cases z with
    | rel z => exact h z
    | cons z => cases z
theorem if_out {c : TT} {t u : TS} {D : Ends} {σ : L2.St} {G : Hp} (R : Bool) (h1 : ∀ B : Bool → Hp → Prop, (∀ G', Same G G' → B R G') → c σ G B) (h2 : ∀ G', Same G G' → if R = true then t D σ G' else u D σ G') : tIfS c t u D σ G := h1 _ h2
theorem seq_out {t u : TS} {D : Ends} {σ : L2.St} {G : Hp} (R : L2.St → Hp → Prop) (h1 : ∀ N : L2.St → Hp → Prop, (∀ σ' G', R σ' G' → N σ' G') → t { D with nx := N } σ G) (h2 : ∀ σ' G', R σ' G' → u D σ' G') : tSeq t u D σ G := h1 (u D) h2
theorem But.seqL {K : PySem.W.Frag} {h l p : Addr} {H G : Hp} {xs : List V} (b : But h l H G) (h1 : p ≠ h) (h2 : p ≠ l) (e : SqL K H p xs) : SqL K G p xs := by
  rcases e with (z | ⟨o, z⟩) | z
  · exact .inl (.inl (b _ _ h1 h2 z))
  · exact .inl (.inr ⟨o, b _ _ h1 h2 z⟩)
  · exact .inr z
theorem for_str {x : Str} {g : TG} {tb : TS} {D : Ends} {σ : L2.St} {H : Hp} (Pv : Nat → L2.St → Hp → Prop) (h0 : Pv 0 σ H)
    (hs : ∀ i c σ H, x.cps.toList[i]? = some c → Pv i σ H → g (.str ⟨#[c]⟩) σ H fun σ2 H2 => tb { D with nx := Pv (i + 1), ct := Pv (i + 1), bk := D.nx } σ2 H2) (hd : ∀ σ H, Pv x.cps.toList.length σ H → D.nx σ H) :
    ∃ W : Nat → Nat → L2.St → Hp → Prop, (∃ m, W 0 m σ H) ∧ ∀ i m σ H, W i m σ H →
      ((Its x).stop i H ∧ D.nx σ H) ∨ ((Its x).go i H ∧ ∃ N : L2.St → Hp → Prop, (∀ σ' H', N σ' H' → ∃ m', m' < m ∧ W (i + 1) m' σ' H') ∧ ∀ v H', (Its x).yld i H v H' → g v σ H' fun σ2 H2 => tb { D with nx := N, ct := N, bk := D.nx } σ2 H2) := by
  refine ⟨fun i m σ H => m = x.cps.toList.length - i ∧ i ≤ x.cps.toList.length ∧ Pv i σ H, ⟨_, rfl, Nat.zero_le _, h0⟩, fun i m σ H hw => ?_⟩
  obtain ⟨rfl, hi, hp⟩ := hw
  by_cases hlt : i < x.cps.toList.length
  · refine .inr ⟨by show i < x.cps.size; simpa using hlt, Pv (i + 1), fun σ' H' hp' => ⟨_, by omega, rfl, hlt, hp'⟩, fun v H' hy => ?_⟩
    obtain ⟨rfl, c, hc, rfl⟩ := hy
    exact hs i c σ _ (by simpa using hc) hp
  · have e : i = x.cps.toList.length := by omega
    subst e
    exact .inl ⟨by show x.cps.size ≤ _; simp, hd σ H hp⟩
section
variable {X : Cx}
end
theorem dpAll_last {K : PySem.W.Frag} {H : Hp} : ∀ {ds : List PyData} {d : PyData} {vs : List V}, DpAll K H vs (ds ++ [d]) → ∃ us v, vs = us ++ [v] ∧ DpAll K H us ds ∧ Dp K H v d
  | [], d, vs, h => by
    cases h with
    | cons a r => cases r; exact ⟨[], _, rfl, .nil, a⟩
  | x :: r, d, vs, h => by
    cases h with
    | cons a t =>
      obtain ⟨us, v, e, h1, h2⟩ := dpAll_last t
      exact ⟨_ :: us, v, by rw [e]; rfl, .cons a h1, h2⟩
theorem ix_last {α : Type} (us : List α) (v : α) : ixN (us ++ [v]).length (-1) = some us.length := by
  unfold ixN
  rw [List.length_append, if_neg (by decide), if_pos (by show -((us.length + 1 : Nat) : Int) ≤ -1; omega)]
  show some (-1 + ((us.length + 1 : Nat) : Int)).toNat = _
  congr 1
  omega
theorem set_last {α : Type} (us : List α) (v u : α) : (us ++ [v]).set us.length u = us ++ [u] := by
  rw [List.set_append_right _ _ (Nat.le_refl _), Nat.sub_self]
  rfl
theorem eqv_nilD (ds : List PyData) : PyData.eqv (.list ds) (.list []) = ds.isEmpty := by
  cases ds with
  | nil => rfl
  | cons x r => simp [PyData.eqv, PyData.eqvAll]
theorem sg_ne {c n : Nat} {s : Str} (e : s = ⟨#[n]⟩) (h : c ≠ n) : ¬ V.str ⟨#[c]⟩ = V.str s := fun z => h (by
  rw [e] at z
  have e2 : (⟨#[c]⟩ : Str) = ⟨#[n]⟩ := V.str.inj z
  injection e2 with e2
  simpa using e2)
theorem fold_mem (c : Nat) (a : Array Nat) : ∀ (n : Nat) (b : Array Nat), c ∈ ((List.replicate n a).foldl (· ++ ·) b).toList → c ∈ b.toList ∨ c ∈ a.toList
  | 0, b, h => .inl h
  | n + 1, b, h => by
    rw [List.replicate_succ, List.foldl_cons] at h
    rcases fold_mem c a n (b ++ a) h with z | z
    · rw [Array.toList_append] at z
      exact List.mem_append.mp z
    · exact .inr z
theorem mul_mem {c : Nat} {x : Str} {i : Int} (h : c ∈ (Txt.mul x i).cps.toList) : c ∈ x.cps.toList := by
  unfold Txt.mul at h
  split at h
  · exact absurd h (by simp [Str.empty])
  · split at h
    · exact h
    · rcases fold_mem c x.cps _ _ h with z | z
      · simp at z
      · exact z
section
variable {X : Cx}
/-- z * i, z a short text -/
theorem op_mulT : OpR X (binaryOp .Mult) (fun x y H Q => ∃ z i, x = .str z ∧ y = .int i ∧ z.length ≤ 16 ∧ 0 ≤ i ∧ i ≤ 1048576 ∧ ∀ u : Str, (u.length : Int) = (z.length : Int) * i → (∀ c ∈ u.cps.toList, c ∈ z.cps.toList) → Q (.str u) H) := by
  intro pins s σ H x y v u Q I rx ry h
  obtain ⟨z, i, rfl, rfl, h1, h2, h3, q⟩ := h
  obtain ⟨t, rfl⟩ := rx
  obtain ⟨t2, rfl⟩ := ry
  exact PySem.W.KXi.mul rfl h1 (by omega) h3 fun t' k _ e => ⟨.str _, H, I.tok k, ⟨t', rfl⟩, q _ (e h2) fun c hc => mul_mem hc⟩
end
theorem app_list (a b : Str) : (a ++ b).cps.toList = a.cps.toList ++ b.cps.toList := by
  show (a.cps ++ b.cps).toList = _
  rw [Array.toList_append]
theorem sum_le {α : Type} {f : α → Nat} {b : Nat} : ∀ {l : List α}, (∀ x ∈ l, f x ≤ b) → (l.map f).sum ≤ l.length * b
  | [], _ => Nat.zero_le _
  | x :: r, h => by
    have h1 := h x List.mem_cons_self
    have h2 := sum_le (f := f) (b := b) (l := r) fun y hy => h y (List.mem_cons_of_mem _ hy)
    rw [List.map_cons, List.sum_cons, List.length_cons, Nat.succ_mul]
    omega
theorem blk_cons {X : Cx} {st : Stmt} {r : List Stmt} {t : TS} {G : TS → Prop} (h : PS X st t) (n : ∃ u, PSs X r u ∧ G (tSeq t u)) : ∃ u, PSs X (st :: r) u ∧ G u := n.elim fun u z => ⟨_, pss_cons h z.1, z.2⟩
theorem blk_nil {X : Cx} {G : TS → Prop} (h : G tNext) : ∃ u, PSs X [] u ∧ G u := ⟨_, pss_nil, h⟩
end Gd
/-! Further rules: what may raise at known slots, keywords, isinstance of a caught error with its own dict, places in tuples. -/
namespace Gd
open PySem PySem.Spec PyProof.Rows L2
/-- a call by positional values and keywords, no defaults -/
theorem kbn_of {K : PySem.W.Frag} {x qual : Str} {st : Stmt} {f : Addr} {fd : FuncData} {ps ks : List Str} {n : Nat} {g : List Value → List Value → List Value} {gV : List V → List V → List V} (F : Fun K x qual st f fd)
    (h : ∀ (kV doc pm : Value) (an : Option Addr) (cv ct : Value) (us ws : List Value), us.length = n → ws.length = ks.length → bindArgs (PySem.W.fnOf x qual (defArgs st) (defBody st) (defScope st) .none kV doc pm an cv ct) ⟨us, ks.zip ws⟩ = pure (ps.zip (g us ws)))
    (r : ∀ {vs : List V} {us : List Value} {zs : List V} {ws : List Value}, Vals vs us → Vals zs ws → Vals (gV vs zs) (g us ws)) : KBn K fd ps n ks g gV := by
  obtain ⟨oc, od, kV, doc, pm, an, cv, ct, osl, rfl, lk, hc⟩ := F.ex
  exact ⟨fun s us ws _ l1 l2 => .of_eq (h kV doc pm an cv ct us ws l1 l2), r⟩
section
variable {X : Cx} {CX : CXT} {k n : Nat} {f C : Addr} {fd : FuncData} {ps ks : List Str} {sp : Sp} {x m : Str} {p pos apos : Pos} {e o : Expr} {es : List Expr} {kws : List Keyword} {t tk ta : TA} {to : TE} {g : List Value → List Value → List Value} {gV : List V → List V → List V}
/-- f(k = v, ..), f raising nothing -/
def tKn (m : Nat) (sp : Sp) (gV : List V → List V → List V) (tk : TA) : TE := fun σ H Q => tk σ H fun zs H2 => zs.length = m ∧ sp (gV [] zs) H2 Q E0
theorem pe_kwN (F : FnG X.prog X.w X.K X.mg X.base k f fd ps sp) (hr : RmG k X.A) (hg : Gl X x) (hm : X.mg x = some (.ref f)) (hk : PySem.W.keepIn X.K (.ref f) = true) (hb : KBn X.K fd ps 0 ks g gV) (hkw : PK X kws tk)
    (h1 : (backToKw pos (keywordEach kws X.env)).all (·.1.isSome) = true := by rfl) (h2 : (backToKw pos (keywordEach kws X.env)).filterMap (·.1) = ks := by rfl) (h3 : (x == ("__debug__" : Str)) = false := by decide)
    (h4 : ((backTo pos (starEach [] X.env)).any (·.1) || (backToKw pos (keywordEach kws X.env)).any (·.1.isNone)) = false := by rfl) :
    PE X (.Call (.Name x p) [] kws pos) (tKn ks.length sp gV tk) := by
  refine ⟨fun pins s σ H Q I h => wpAny_Call_Name_kw (ld_glob I hg hm (PySem.W.callWith_KW0 (h₀ := X.base) I.ok.mod.kin hk h1 ?_ h4) h3)⟩
  refine thn (hkw.run pos pins s σ H _ I h) fun ws s2 ⟨zs, H2, I2, rz, l, q⟩ => ⟨I2.kIn, ?_⟩
  rw [h2]
  refine wpAny_call (codeAny_mono (run_G F hr I2 (hb.to s2 [] ws I2.kIn rfl (rz.length.symm.trans l)) (hb.rel .nil rz) q) fun r s' hq => ?_)
  obtain ⟨u, rfl, z⟩ := hq
  exact z
/-- o.m(k = v, ..), m raising nothing -/
def tMKn (C : Addr) (m : Str) (l : Nat) (sp : Sp) (gV : List V → List V → List V) (to : TE) (tk : TA) : TE := fun σ H Q => to σ H fun x H1 => ∃ a dx fs, x = .ref a ∧ H1 a = some (.ins C dx fs) ∧ fs.lookup m = none ∧ tk σ H1 fun zs H2 => zs.length = l ∧ sp (gV [x] zs) H2 Q E0
theorem pe_methK {pl : Sem Bool} (he : PE X o to) (c : Cls X.K C) (hm : Meth X.K C m f) (F : FnG X.prog X.w X.K X.mg X.base k f fd ps sp) (hr : RmG k X.A) (hb : KBn X.K fd ps 1 ks g gV) (hkw : PK X kws tk)
    (h1 : (backToKw pos (keywordEach kws X.env)).all (·.1.isSome) = true := by rfl) (h2 : (backToKw pos (keywordEach kws X.env)).filterMap (·.1) = ks := by rfl)
    (h4 : ((backTo pos (starEach [] X.env)).any (·.1) || (backToKw pos (keywordEach kws X.env)).any (·.1.isNone)) = false := by rfl)
    (ht : eval (.Call (.Attribute o m apos) [] kws pos) X.env = (do
      let ov ← eval o X.env
      standAt apos.atName
      let (f, first) ← holding [ov] (getMethod ov m pl)
      callWith pos f first (backTo pos (starEach [] X.env)) (backToKw pos (keywordEach kws X.env))) := by rfl) :
    PE X (.Call (.Attribute o m apos) [] kws pos) (tMKn C m ks.length sp gV to tk) := by
  refine ⟨fun pins s σ H Q I h => PySem.W.methodCall_KW (pl := pl) (thn (he.run pins s σ H _ I h) fun u s1 ⟨x, H1, I1, rx, a, dx, fs, ex, ea, l, q⟩ => ?_) ht⟩
  subst ex
  obtain rfl : u = Value.ref a := rx
  refine getmeth_ok I1 ea c hm l (PySem.W.callWith_KW0 (first := [.ref a]) (h₀ := X.base) I.ok.mod.kin hm.kp h1 ?_ h4)
  refine thn (hkw.run pos pins s1 σ H1 _ I1 q) fun ws s2 ⟨zs, H2, I2, rz, l, q⟩ => ⟨I2.kIn, ?_⟩
  rw [h2]
  refine wpAny_call (codeAny_mono (run_G F hr I2 (hb.to s2 [.ref a] ws I2.kIn rfl (rz.length.symm.trans l)) (hb.rel (.cons (show RelV (V.ref a) (Value.ref a) from rfl) .nil) rz) q) fun r s' hq => ?_)
  obtain ⟨u, rfl, z⟩ := hq
  exact z
/-- C(e, ..) whose __init__ may raise; E: what is wanted then, at these slots -/
def tMakeS (C : Addr) (sp : Sp) (E : L2.St → XK) (t : TA) : TE := fun σ H Q => t σ H fun vs H1 => ∀ x dx, H1 x = none → H1 dx = none → dx ≠ x →
  sp (.ref x :: vs) (upd (upd H1 dx (.own x)) x (.ins C dx [])) (fun v H2 => v = .non ∧ Q (.ref x) H2) (E σ)
theorem pe_makeS {E : L2.St → XK} (M : Mk X.K C f) (F : FnOk X.prog X.w X.K X.mg X.base CX k f fd ps sp) (hr : Room (k + 1) X.A) (hg : Gl X x) (hm : X.mg x = some (.ref C)) (hb : Binds X.K fd ps []) (hx : ∀ σ, PassesAt CX X σ (E σ))
    (ha : PA X (e :: es) t) (h1 : (x == ("__debug__" : Str)) = false := by decide) (h2 : starEach (e :: es) X.env = (false, eval e X.env) :: starEach es X.env := by rfl) (h3 : (backTo pos (starEach es X.env)).any (·.1) = false := by rfl) :
    PE X (.Call (.Name x p) (e :: es) [] pos) (tMakeS C sp E t) := by
  refine ⟨fun pins s σ H Q I h => wpAny_Call_Name_kw (ld_glob I hg hm (PySem.W.callWith_K (h₀ := X.base) I.ok.mod.kin M.kp (thn (ha.run pos pins s σ H _ I h) fun us s1 ⟨vs, H1, I1, r, q⟩ => ⟨I1.kIn, ?_⟩) h2 h3) h1)⟩
  have q2 := q (s1.heap.objs.size + 1) s1.heap.objs.size (I1.hok.fresh (Nat.le_succ _)) (I1.hok.fresh (Nat.le_refl _)) (Nat.ne_of_lt (Nat.lt_succ_self _))
  have I2 := Inv.made (C := C) I1
  have r2 : Vals (V.ref (s1.heap.objs.size + 1) :: vs) (Value.ref (s1.heap.objs.size + 1) :: us) := .cons rfl r
  have hl : (Value.ref (s1.heap.objs.size + 1) :: us).length = ps.length := r2.length.symm.trans (F.len _ _ _ _ q2)
  have b := hb _ (Value.ref (s1.heap.objs.size + 1) :: us) I2.kIn (by rw [List.append_nil]; exact hl)
  rw [List.append_nil] at b
  refine wpAny_call (make_map (f := f) I1.kIn M.makes M.init (beq_iff_eq.mp M.fn) (codeAny_mono (F.run _ X.stack _ _ ⟨Value.ref (s1.heap.objs.size + 1) :: us, []⟩ _ _ _ (E σ) (hr.make C us []) (I2.env0.make C us []) b r2 q2) fun r s' hq => ?_))
  rcases r with er | fl
  · exact hx σ pins _ _ er s' I2 hq
  · cases fl with
    | ret u =>
      obtain ⟨v, H', I3, rv, ev, q3⟩ := I2.after hq
      subst ev
      exact ⟨rv, ⟨V.ref (s1.heap.objs.size + 1), H', I3, rfl, q3⟩⟩
    | next => exact hq.elim
    | brk => exact hq.elim
    | cont => exact hq.elim
/-- isinstance(e, c), e the error that the suite holds, of the class at D -/
theorem call_isE2 {a D : Addr} {oe : Obj} {d : Option Addr} {pn : List (Addr × Obj)} (T : L2.ExcC X.K D) (hz : Zc (.ref D) d oe) (hf : ∃ vs, oe.data = .fields vs) :
    CallR (X.suite a ((a, oe) :: pn)) (.builtin "isinstance") (fun xs H Q => ∃ (c : V) (u : Value) (b : Bool), xs = [.ref a, c] ∧ ClsV c u ∧ PySem.W.kitOne X.K (.ref D) u = some b ∧ (d = none ∨ ∃ dd fs, d = some dd ∧ H dd = some (.xd fs) ∧ fs.lookup ("__class__" : Str) = none) ∧ Q (.bl b) H) := by
  intro pins s σ H xs us Q I r h
  obtain ⟨c, u, b, rfl, hc, e, hd, q⟩ := h
  obtain ⟨u1, u2, rfl, r1, r2⟩ := vals2 r
  obtain rfl : u1 = Value.ref a := r1
  have e2 := hc.eq r2
  subst e2
  obtain ⟨ha, _⟩ := I.pin (a, oe) (List.mem_append_left _ List.mem_cons_self)
  obtain ⟨vs, hv⟩ := hf
  have hcl : (PySem.W.clsIn X.K D).isSome = true := by
    obtain ⟨cd, z, _⟩ := PySem.W.any_some T.hd
    rw [z]
    rfl
  obtain ⟨od, J⟩ : ∃ od, PySem.W.InstAt s.heap a oe D od := by
    rcases hd with rfl | ⟨dd, fs, rfl, hx, _⟩
    · exact ⟨none, ha, hz.1, by unfold PySem.W.notCls; rw [hv] <;> rfl, by rw [hz.2]; trivial⟩
    · obtain ⟨mA, hns, _⟩ := (show ObjOk X.prog X.w H s.heap dd (.xd fs) from I.hok dd _ hx)
      obtain ⟨od, ho, _⟩ := lookIn_ns hns
      exact ⟨some od, ha, hz.1, by unfold PySem.W.notCls; rw [hv] <;> rfl, by rw [hz.2]; exact ho⟩
  exact PySem.W.kia_one (PySem.W.kitx_exc (x := a) (ox := oe) (od := od) hcl T.hg T.hk T.hs T.ha T.hn T.ht T.hm) I.kIn J e (fun z => nomatch z) fun tk => ⟨.bl b, H, I.tok tk, rfl, q⟩
end
end Gd
namespace Gd
open PySem PySem.Spec PyProof.Rows L2
section
variable {X : Cx}
/-- t.index(n), n in it -/
theorem mt_indexI : MtR X "tuple.index" (fun x xs H Q => ∃ (p : Addr) (ns : List Int) (z : Int), x = .ref p ∧ xs = [.int z] ∧ SqT X.K H p (ns.map V.int) ∧ z ∈ ns ∧ Q (.int (ns.idxOf z : Nat)) H) := by
  intro pins s σ H x xs v us Q I rx rs h
  obtain ⟨p, ns, z, rfl, rfl, hq, hz, q⟩ := h
  obtain rfl : v = Value.ref p := rx
  obtain ⟨u, rfl, t, rfl⟩ := vals1 rs
  obtain ⟨its, r, pl, _⟩ := I.tuple hq
  exact PySem.SeqAt.tuple_index_ints pl (intsAre_of r) hz ⟨.int (ns.idxOf z : Nat), H, I.tok _, ⟨_, rfl⟩, q⟩
/-- (x,) * k -/
theorem op_rep1 : OpR X (binaryOp .Mult) (fun x y H Q => ∃ (l : Addr) (k : Int) (z : V), x = .ref l ∧ y = .int k ∧ SqT X.K H l [z] ∧ 2 ≤ k ∧ k ≤ 100000 ∧ ∀ p, H p = none → Q (.ref p) (upd H p (.tup (List.replicate k.toNat z)))) := by
  intro pins s σ H x y v u Q I rx ry h
  obtain ⟨l, k, z, rfl, rfl, hT, h1, h2, q⟩ := h
  obtain rfl : v = Value.ref l := rx
  obtain ⟨t, rfl⟩ := ry
  obtain ⟨its, r, ⟨⟨cls, dd, data, sl⟩, ho, hc, n, hd⟩, hs⟩ := I.tuple hT
  simp only at hc hd
  subst hc hd
  obtain ⟨u0, rfl, r0⟩ := vals1 r
  have e1 : ([u0] : List Value).toArray.size = 1 := rfl
  have fl : (List.replicate k.toNat [u0]).flatten = List.replicate k.toNat u0 := by
    generalize k.toNat = m
    induction m with
    | zero => rfl
    | succ m ih => rw [List.replicate_succ, List.flatten_cons, ih, List.replicate_succ]; rfl
  have c0 : (decide (k < -(2 ^ 63)) || decide (k ≥ 2 ^ 63)) = false := by rw [decide_eq_false (by omega), decide_eq_false (by omega)]; rfl
  have c1 : (([u0] : List Value).toArray.isEmpty || k == 1) = false := by
    rw [show ([u0] : List Value).toArray.isEmpty = false from rfl, Bool.false_or]
    exact beq_eq_false_iff_ne.mpr (by omega)
  have c2 : (decide (k ≤ 0) || ([u0] : List Value).toArray.isEmpty) = false := by
    rw [show ([u0] : List Value).toArray.isEmpty = false from rfl, Bool.or_false]
    exact decide_eq_false (by omega)
  have c4 : Builtin.Tuple.tupleTooMany (((([u0] : List Value).toArray.size : Nat) : Int) * k) = false := by
    unfold Builtin.Tuple.tupleTooMany
    rw [e1, sizeLine_eq]
    exact decide_eq_false (by omega)
  have hz : (List.replicate k.toNat u0).length ≤ sizeLine := by
    rw [List.length_replicate, sizeLine_eq]
    omega
  refine wpAny_binaryOp_repeat_ref (T := "tuple") (U := "int") (by decide) ⟨_, ho, rfl⟩ (fun s' => typeIs_int s' k t) noFill_tuple_mul F.fills_int_mul F.slot_int_rmul repeat_tuple F.slot_int_index.lookup
    (call_meets F.slot_int_rmul (typeIs_int s k t) F.entry_int_rmul (F.args_int_rmul_2 _ _) (int_rmul_tuple k t l ([u0] : List Value).toArray n dd sl)
      ⟨ho, rfl, ⟨_, ho, rfl⟩, call_meets F.slot_tuple_mul ⟨_, ho, rfl⟩ F.entry_tuple_mul (F.args_tuple_mul_2 _ _) (tuple_mulW l ([u0] : List Value).toArray n dd sl k t c0 c1 c2 (by rw [e1]; omega) c4 (by rw [size_rep, List.size_toArray, fl]; exact hz)) ⟨ho, ?_⟩⟩)
  rw [size_rep, fl]
  refine ⟨.ref s.heap.objs.size, _, I.laid (t' := s.toks) (o := .tup (List.replicate k.toNat z)) (fun b ob q => Heap.get?_push_of_some _ q) (Nat.le_refl _) ?_, rfl, q _ (I.hok.fresh (Nat.le_refl _))⟩
  refine ⟨by rw [List.length_replicate, sizeLine_eq]; omega, List.replicate k.toNat u0, ?_, IsTup.new _ _⟩
  generalize k.toNat = m
  induction m with
  | zero => exact .nil
  | succ m ih => rw [List.replicate_succ, List.replicate_succ]; exact .cons r0 ih
end
end Gd
namespace Gd
open PySem PySem.Spec PyProof.Rows L2
/-- a tuple that is known to have no attributes of its own -/
def PlT (H : Hp) (p : Addr) (xs : List V) : Prop := ∃ o : Obj, o.cls = .type "tuple" ∧ o.dict = none ∧ H p = some (.frz o (.tup xs))
theorem PlT.sq {K : PySem.W.Frag} {H : Hp} {p : Addr} {xs : List V} (h : PlT H p xs) : SqT K H p xs := let ⟨o, _, _, e⟩ := h; .inl (.inr ⟨o, e⟩)
theorem PlT.same {H G : Hp} {p : Addr} {xs : List V} (h : PlT H p xs) (e : Same H G) : PlT G p xs := let ⟨o, a, b, z⟩ := h; ⟨o, a, b, e _ _ z⟩
theorem PlT.keep {H G : Hp} {p : Addr} {xs : List V} (h : PlT H p xs) (e : KeepT H G) : PlT G p xs := let ⟨o, a, b, z⟩ := h; ⟨o, a, b, e _ _ z (by intro _ q; cases q)⟩
section
variable {X : Cx} {o e : Expr} {es : List Expr} {to : TE} {t : TA} {name : Str} {apos cpos : Pos} {id : String} {r : V → List V → Hp → VK → Prop}
/-- tuple(xs), xs a list: no attributes -/
theorem call_tuple_pl : CallR X (.type "tuple") (fun xs H Q => ∃ p ys, xs = [.ref p] ∧ SqL X.K H p ys ∧ ∀ l G, H l = none → Same H G → PlT G l ys → Q (.ref l) G) := by
  intro pins s σ H xs us Q I r h
  obtain ⟨p, ys, rfl, hq, q⟩ := h
  obtain ⟨u, rfl, rx⟩ := vals1 r
  cases rx
  obtain ⟨its, r', pl, hz⟩ := I.list hq
  have hlen := r'.length
  refine call_tuple_list pl.isList (fun h' kp => ?_) (by simp only [List.size_toArray] <;> omega)
  have I1 : Inv X pins σ H { s with heap := h' } := I.kept (t' := s.toks) kp
  have hn := I1.hok.fresh (Nat.le_refl _)
  have I2 : Inv X pins σ (upd H h'.objs.size (.frz { cls := .type "tuple", data := .seq its.toArray } (.tup ys))) { s with heap := h'.push { cls := .type "tuple", data := .seq its.toArray } } :=
    I1.laid (t' := s.toks) (fun b o e => Heap.get?_push_of_some _ e) (Nat.le_refl _) (show ObjOk X.prog X.w _ _ _ (.frz _ (.tup ys)) from ⟨Heap.get?_push_size _ rfl, hz, its, r', IsTup.new _ _⟩)
  exact ⟨.ref h'.objs.size, _, I2, rfl, q _ _ hn (same_new hn) ⟨_, rfl, rfl, upd_same⟩⟩
/-- t.m(e, ..), t such a tuple -/
def tBMT (r : V → List V → Hp → VK → Prop) (to : TE) (t : TA) : TE := fun σ H Q => to σ H fun x H1 => (∃ p ys, x = .ref p ∧ PlT H1 p ys) ∧ t σ H1 fun xs H2 => r x xs H2 Q
theorem pe_bmT (pa : PlainAttrs "tuple") (slot : Slot "tuple" name id) (hty : typeOf (.builtin id) = pure (.type "method_descriptor")) (hm : MtR X id r) (ho : PE X o to) (ha : PA X (e :: es) t)
    (hbase : attributeBase o name X.env (eval o X.env) = eval o X.env := by rfl)
    (hfew : ((backTo cpos (starEach (e :: es) X.env)).all (fun x => !x.1) && (backToKw cpos (keywordEach [] X.env)).all (fun x => x.1.isSome)
      && decide ((e :: es).length + ([] : List Keyword).length + (if ([] : List Keyword).isEmpty then 0 else 1) < 30)) = true := by rfl)
    (hline : (apos.endLine == cpos.line) = true := by rfl) (hs : starEach (e :: es) X.env = (false, eval e X.env) :: starEach es X.env := by rfl) (hplain : (backTo cpos (starEach es X.env)).any (·.1) = false := by rfl) :
    PE X (.Call (.Attribute o name apos) (e :: es) [] cpos) (tBMT r to t) := by
  refine ⟨fun pins s σ H Q I h => ?_⟩
  refine wpAny_Call_method_late hbase hfew hline rfl (thn (ho.run pins s σ H _ I h) fun v s1 ⟨x, H1, I1, r1, ty, q1⟩ => ?_)
  obtain ⟨p, ys, rfl, ob, hc, hd, hq⟩ := ty
  obtain rfl : v = Value.ref p := r1
  have ho := (I1.hok p _ hq).1
  refine ⟨"tuple", id, pa, slot, hty, ⟨ob, ho, hc⟩, fun a e => ?_, ?_⟩
  · cases e
    exact ⟨ob, ho, hd⟩
  have hA := ha.run cpos pins s1 σ H1 _ I1 q1
  rw [hs] at hA ⊢
  refine Calls.callWith_builtin (by show (false || (backTo cpos (starEach es X.env)).any (·.1)) = false; rw [hplain] <;> rfl) (Calls.evalArgs_plain ?_)
  exact thn hA fun us s2 ⟨vs, H2, I2, r2, q2⟩ => hm pins s2 σ H2 (.ref p) vs _ us Q I2 rfl r2 q2
end
end Gd
/-! What further laws share: values told by their types, numbers, sorted lists, frames. -/
namespace Gd
open PySem PySem.Spec PyProof.Rows L2
/-- a value of a built-in type, by the name of the type -/
def TyN (K : PySem.W.Frag) (H : Hp) (x : V) (n : String) : Prop := TyX K H x (.type n)
theorem TyN.int {K : PySem.W.Frag} {H : Hp} (i : Int) : TyN K H (.int i) "int" := .base (.int i)
theorem TyN.bl {K : PySem.W.Frag} {H : Hp} (b : Bool) : TyN K H (.bl b) "bool" := .base (.bl b)
theorem TyN.non {K : PySem.W.Frag} {H : Hp} : TyN K H .non "NoneType" := .base .non
theorem TyN.str {K : PySem.W.Frag} {H : Hp} (x : Str) : TyN K H (.str x) "str" := .base (.str x)
theorem tyX_same {K : PySem.W.Frag} {H G : Hp} (e : Same H G) {x : V} {t : Value} (h : TyX K H x t) : TyX K G x t := by
  cases h with
  | base b =>
    cases b with
    | non => exact .base .non
    | bl y => exact .base (.bl y)
    | int i => exact .base (.int i)
    | str y => exact .base (.str y)
    | flt y => exact .base (.flt y)
    | lst q => exact .base (.lst (e _ _ q))
    | frz q => exact .base (.frz (e _ _ q))
    | tup q => exact .base (.tup (e _ _ q))
    | dK q => exact .base (.dK (e _ _ q))
    | dT q => exact .base (.dT (e _ _ q))
    | ins q a b c d m => exact .base (.ins (e _ _ q) a b c d m)
  | byt b => exact .byt b
  | set q => exact .set (e _ _ q)
  | kList q c => exact .kList q c
  | kTuple q c => exact .kTuple q c
  | kDict q c => exact .kDict q c
  | fTuple q => exact .fTuple (e _ _ q)
  | fDict q => exact .fDict (e _ _ q)
/-- whether any value is a number below a limit -/
def NumV (K : PySem.W.Frag) (H : Hp) (lim : Int) (x : V) (b : Bool) : Prop :=
  (∃ i, x = .int i ∧ b = decide (0 ≤ i ∧ i < lim)) ∨ (∃ y, x = .bl y ∧ b = false) ∨ (∃ n, TyN K H x n ∧ kitB n "int" = some false ∧ b = false)
theorem NumV.same {K : PySem.W.Frag} {H G : Hp} (e : Same H G) {lim : Int} {x : V} {b : Bool} (h : NumV K H lim x b) : NumV K G lim x b :=
  h.imp id fun h => h.imp id fun ⟨n, t, k, z⟩ => ⟨n, tyX_same e t, k, z⟩
def NumVs (K : PySem.W.Frag) (H : Hp) (lim : Int) : List V → List Bool → Prop := Paired (NumV K H lim)
theorem paired_at {α β : Type} {R : α → β → Prop} : ∀ {xs : List α} {ys : List β} {i : Nat} {x : α}, Paired R xs ys → xs[i]? = some x → ∃ y, ys[i]? = some y ∧ R x y
  | _, _, _, _, .nil, e => by simp at e
  | _, _, 0, _, .cons r _, e => by simp at e; subst e; exact ⟨_, rfl, r⟩
  | _, _, i + 1, x, .cons _ t, e => by
    obtain ⟨y, h1, h2⟩ := paired_at (i := i) (x := x) t (by simpa using e)
    exact ⟨y, by simpa using h1, h2⟩
theorem tyT {K : PySem.W.Frag} {H : Hp} {c : Addr} {xs : List V} (h : SqT K H c xs) : TyN K H (.ref c) "tuple" := by
  rcases h with (z | ⟨o, z⟩) | ⟨o, its, n, hk, hc, _⟩
  · exact .base (.tup z)
  · exact .fTuple z
  · exact .kTuple hk hc
theorem nd_ints {l : List Nat} (h : l.Nodup) : (l.map fun a : Nat => (a : Int)).Nodup := by
  induction l with
  | nil => exact List.nodup_nil
  | cons a r ih =>
    obtain ⟨h1, h2⟩ := List.nodup_cons.mp h
    rw [List.map_cons]
    refine List.nodup_cons.mpr ⟨fun z => ?_, ih h2⟩
    obtain ⟨b, hb, e⟩ := List.mem_map.mp z
    have : b = a := by omega
    exact h1 (this ▸ hb)
theorem inV_ints (a : Int) (l : List Int) : inV (.int a) (l.map V.int) = decide (a ∈ l) := by
  induction l with
  | nil => rfl
  | cons b r ih =>
    have e : inV (.int a) ((b :: r).map V.int) = (eqV (.int b) (.int a) || inV (.int a) (r.map V.int)) := rfl
    rw [e, ih]
    by_cases h : b = a
    · subst h
      have : eqV (.int b) (.int b) = true := by simp [eqV]
      rw [this, Bool.true_or]
      exact (decide_eq_true List.mem_cons_self).symm
    · have : eqV (.int b) (.int a) = false := by simp [eqV, h]
      rw [this, Bool.false_or]
      exact decide_eq_decide.mpr ⟨fun z => List.mem_cons_of_mem _ z, fun z => (List.mem_cons.mp z).resolve_left fun e => h e.symm⟩
theorem flat_ints (l : List Int) : (l.map V.int).all flatV = true := List.all_eq_true.mpr fun x hx => by
  obtain ⟨n, _, rfl⟩ := List.mem_map.mp hx
  rfl
/-- sorted lists with the same things, each once, are one -/
theorem sorted_same : ∀ {a b : List Int}, a.Pairwise (· ≤ ·) → b.Pairwise (· ≤ ·) → a.Nodup → b.Nodup → (∀ x, x ∈ a ↔ x ∈ b) → a = b
  | [], [], _, _, _, _, _ => rfl
  | [], y :: s, _, _, _, _, h => absurd ((h y).mpr List.mem_cons_self) List.not_mem_nil
  | x :: r, [], _, _, _, _, h => absurd ((h x).mp List.mem_cons_self) List.not_mem_nil
  | x :: r, y :: s, pa, pb, na, nb, h => by
    obtain ⟨a1, a2⟩ := List.pairwise_cons.mp pa
    obtain ⟨b1, b2⟩ := List.pairwise_cons.mp pb
    obtain ⟨n1, n2⟩ := List.nodup_cons.mp na
    obtain ⟨m1, m2⟩ := List.nodup_cons.mp nb
    have e : x = y := by
      rcases List.mem_cons.mp ((h x).mp List.mem_cons_self) with z | z
      · exact z
      · rcases List.mem_cons.mp ((h y).mpr List.mem_cons_self) with z2 | z2
        · exact z2.symm
        · exact Int.le_antisymm (a1 y z2) (b1 x z)
    subst e
    rw [sorted_same a2 b2 n2 m2 fun z => ?_]
    constructor
    · intro hz
      rcases List.mem_cons.mp ((h z).mp (List.mem_cons_of_mem _ hz)) with q | q
      · exact absurd (q ▸ hz) n1
      · exact q
    · intro hz
      rcases List.mem_cons.mp ((h z).mpr (List.mem_cons_of_mem _ hz)) with q | q
      · exact absurd (q ▸ hz) m1
      · exact q
theorem cost_ints : ∀ l : List Int, costAll (l.map .int) = 12 * l.length
  | [] => by rw [List.map_nil, costAll]; rfl
  | x :: r => by
    rw [List.map_cons, costAll, cost_ints r, costD, List.length_cons]
    omega
theorem ints_fine {l : List Int} (h : ∀ x ∈ l, x.natAbs < 10 ^ 9) (hl : l.length ≤ 1000) : fine (.tuple (l.map .int)) = true ∧ (PyData.tuple (l.map .int)).depth ≤ 60 ∧ costD (.tuple (l.map .int)) ≤ sizeLine := by
  refine ⟨?_, ?_, ?_⟩
  · rw [fine]
    refine fineAll_mem fun d hd => ?_
    obtain ⟨x, hx, rfl⟩ := List.mem_map.mp hd
    rw [fine]
    exact decide_eq_true (h x hx)
  · rw [PyData.depth]
    have : PyData.depthAll (l.map .int) ≤ 1 := depthAll_mem fun d hd => by
      obtain ⟨x, _, rfl⟩ := List.mem_map.mp hd
      simp [PyData.depth]
    omega
  · rw [costD, cost_ints, sizeLine_eq]
    omega
theorem dp_tup {K : PySem.W.Frag} {H : Hp} {q : Addr} {l : List Int} (h : SqT K H q (l.map V.int)) : Dp K H (.ref q) (.tuple (l.map .int)) := .tup h (dpAll_ints l)
theorem map_at {ns : List Int} {i : Nat} {x : V} (h : (ns.map V.int)[i]? = some x) : ∃ n, ns[i]? = some n ∧ x = .int n := by
  rw [List.getElem?_map] at h
  cases e : ns[i]? with
  | none => rw [e] at h; cases h
  | some n => rw [e] at h; exact ⟨n, rfl, (Option.some.inj h).symm⟩
theorem paired_snoc {α β : Type} {R : α → β → Prop} : ∀ {xs : List α} {ys : List β} {x : α} {y : β}, Paired R xs ys → R x y → Paired R (xs ++ [x]) (ys ++ [y])
  | _, _, _, _, .nil, r => .cons r .nil
  | _, _, _, _, .cons a t, r => .cons a (paired_snoc t r)
theorem paired_mono {α β : Type} {R S : α → β → Prop} (h : ∀ a b, R a b → S a b) : ∀ {xs : List α} {ys : List β}, Paired R xs ys → Paired S xs ys
  | _, _, .nil => .nil
  | _, _, .cons a t => .cons (h _ _ a) (paired_mono h t)
/-- a statement's reading, kept shut -/
def tWr (t : TS) : TS := t
theorem ps_wr {X : Cx} {st : Stmt} {t : TS} (h : PS X st t) : PS X st (tWr t) := h
/-- isinstance(e, c), e the error that the suite holds; its class is told by the reading -/
theorem call_isE3 {X : Cx} {a D : Addr} {cls : Value} {oe : Obj} {d : Option Addr} {pn : List (Addr × Obj)} (T : L2.ExcC X.K D) (hz : Zc cls d oe) (hf : ∃ vs, oe.data = .fields vs) :
    CallR (X.suite a ((a, oe) :: pn)) (.builtin "isinstance") (fun xs H Q => cls = .ref D ∧ ∃ (c : V) (u : Value) (b : Bool), xs = [.ref a, c] ∧ ClsV c u ∧ PySem.W.kitOne X.K (.ref D) u = some b ∧ (d = none ∨ ∃ dd fs, d = some dd ∧ H dd = some (.xd fs) ∧ fs.lookup ("__class__" : Str) = none) ∧ Q (.bl b) H) := by
  intro pins s σ H xs us Q I r h
  obtain ⟨e, h⟩ := h
  subst e
  exact call_isE2 T hz hf pins s σ H xs us Q I r h
abbrev rTup (K : PySem.W.Frag) : List V → Hp → VK → Prop := fun xs H Q => ∃ p ys, xs = [.ref p] ∧ ((SqL K H p ys ∧ ∀ l, H l = none → Q (.ref l) (upd H l (.tup ys))) ∨ (SqT K H p ys ∧ Q (.ref p) H))
theorem call_tupK {X : Cx} : CallR X (.type "tuple") (rTup X.K) := call_tuple_of
theorem kit_yes {K : PySem.W.Frag} {A B : Addr} (h1 : PySem.W.isClsIn K B = true) (h2 : PySem.W.typeIn K (.ref B) = some (.type "type")) (h3 : PySem.W.subIn K (.ref A) (.ref B) = some true) : PySem.W.kitOne K (.ref A) (.ref B) = some true := by
  unfold PySem.W.kitOne
  split
  · rfl
  · have e : ((PySem.W.clsIn K B).isSome && PySem.W.typeIn K (.ref B) == some (.type "type")) = true := by
      have h1' : (PySem.W.clsIn K B).isSome = true := h1
      rw [h1', h2] <;> rfl
    show (if ((PySem.W.clsIn K B).isSome && PySem.W.typeIn K (.ref B) == some (.type "type")) = true then PySem.W.subIn K (.ref A) (.ref B) else none) = some true
    rw [if_pos e]
    exact h3
theorem kit_no {K : PySem.W.Frag} {A B : Addr} (h1 : PySem.W.isClsIn K B = true) (h2 : PySem.W.typeIn K (.ref B) = some (.type "type")) (h0 : PySem.W.subIn K (.ref A) (.ref A) = some true) (h3 : PySem.W.subIn K (.ref A) (.ref B) = some false) : PySem.W.kitOne K (.ref A) (.ref B) = some false := by
  have ne : (Value.ref A == Value.ref B) = false := by
    cases e : (Value.ref A == Value.ref B) with
    | false => rfl
    | true =>
      have z := eq_of_beq e
      rw [← z, h0] at h3
      cases h3
  unfold PySem.W.kitOne
  rw [ne]
  have e : ((PySem.W.clsIn K B).isSome && PySem.W.typeIn K (.ref B) == some (.type "type")) = true := by
    have h1' : (PySem.W.clsIn K B).isSome = true := h1
    rw [h1', h2] <;> rfl
  show (if ((PySem.W.clsIn K B).isSome && PySem.W.typeIn K (.ref B) == some (.type "type")) = true then PySem.W.subIn K (.ref A) (.ref B) else none) = some false
  rw [if_pos e]
  exact h3
/-- all stands as before but what is in S; all but lists stands as before -/
structure Frm (S : List Addr) (H G : Hp) : Prop where
  kt : KeepT H G
  ks : ∀ b o, b ∉ S → H b = some o → G b = some o
theorem Frm.same {S : List Addr} {H G : Hp} (e : Same H G) : Frm S H G := ⟨.of e, fun b o _ h => e b o h⟩
theorem Frm.trans {S : List Addr} {H G J : Hp} (a : Frm S H G) (b : Frm S G J) : Frm S H J := ⟨a.kt.trans b.kt, fun c o n h => b.ks c o n (a.ks c o n h)⟩
theorem Frm.mono {S T : List Addr} {H G : Hp} (a : Frm S H G) (h : ∀ x ∈ S, x ∈ T) : Frm T H G := ⟨a.kt, fun b o n e => a.ks b o (fun z => n (h b z)) e⟩
theorem Frm.put {S : List Addr} {H : Hp} {p : Addr} {xs : List V} {o : HO} (h : H p = some (.lst xs)) (m : p ∈ S) : Frm S H (upd H p o) := ⟨.put h, fun b x n e => (upd_ne fun z => n (by rw [z]; exact m)).trans e⟩
theorem Frm.new {S : List Addr} {H : Hp} {p : Addr} {o : HO} (h : H p = none) : Frm S H (upd H p o) := .same (same_new h)
theorem Frm.but {h l : Addr} {S : List Addr} {H G : Hp} {L : List Int} {st : Int} (v : Hv H h l L st) (b : But h l H G) (m1 : h ∈ S) (m2 : l ∈ S) : Frm S H G :=
  ⟨.but v b, fun c o n e => b c o (fun z => n (by rw [z]; exact m1)) (fun z => n (by rw [z]; exact m2)) e⟩
theorem Frm.seqT {K : PySem.W.Frag} {S : List Addr} {H G : Hp} {a : Addr} {xs : List V} (f : Frm S H G) (h : SqT K H a xs) : SqT K G a xs := f.kt.seqT h
theorem Hv.frm {h l : Addr} {S : List Addr} {H G : Hp} {L : List Int} {st : Int} (v : Hv H h l L st) (f : Frm S H G) (n1 : h ∉ S) (n2 : l ∉ S) : Hv G h l L st :=
  ⟨f.ks _ _ n1 v.top, f.ks _ _ n2 v.bot, v.ne, v.lo, v.hi, v.len⟩
theorem ixN_nat {n a : Nat} (h : a < n) : ixN n (a : Int) = some a := by
  unfold ixN
  rw [if_pos (by omega), if_pos (by omega)]
  rfl
theorem lc_str {x : Str} {g : TG} {tt : TT} {te : TE} {vs : List Nat} {σ : L2.St} {H1 : Hp} {D : Addr} {Qd : Hp → Prop} (Pv : Nat → Hp → Prop) (h0 : Pv 0 (upd H1 D (.lst [])))
    (hs : ∀ i c H, x.cps.toList[i]? = some c → Pv i H → g (.str ⟨#[c]⟩) (wipe σ vs) H fun σ2 H2 => wipe σ2 vs = wipe σ vs ∧ tt σ2 H2 fun b H3 =>
      if b = true then te σ2 H3 fun y H4 => ∃ acc, H4 D = some (.lst acc) ∧ acc.length < sizeLine ∧ Pv (i + 1) (upd H4 D (.lst (acc ++ [y]))) else Pv (i + 1) H3) (hd : ∀ H, Pv x.cps.toList.length H → Qd H) :
    ∃ W : Nat → Nat → Hp → Prop, (∃ m, W 0 m (upd H1 D (.lst []))) ∧ ∀ i m H, W i m H →
      ((Its x).stop i H ∧ Qd H) ∨ ((Its x).go i H ∧ ∃ Nx : Hp → Prop, (∀ H', Nx H' → ∃ m', m' < m ∧ W (i + 1) m' H') ∧ ∀ v H', (Its x).yld i H v H' → g v (wipe σ vs) H' fun σ2 H2 => wipe σ2 vs = wipe σ vs ∧ tt σ2 H2 fun b H3 =>
        if b = true then te σ2 H3 fun y H4 => ∃ acc, H4 D = some (.lst acc) ∧ acc.length < sizeLine ∧ Nx (upd H4 D (.lst (acc ++ [y]))) else Nx H3) := by
  refine ⟨fun i m H => m = x.cps.toList.length - i ∧ i ≤ x.cps.toList.length ∧ Pv i H, ⟨_, rfl, Nat.zero_le _, h0⟩, fun i m H hw => ?_⟩
  obtain ⟨rfl, hi, hp⟩ := hw
  by_cases hlt : i < x.cps.toList.length
  · refine .inr ⟨by show i < x.cps.size; simpa using hlt, Pv (i + 1), fun H' hp' => ⟨_, by omega, rfl, hlt, hp'⟩, fun v H' hy => ?_⟩
    obtain ⟨rfl, c, hc, rfl⟩ := hy
    exact hs i c _ (by simpa using hc) hp
  · have e : i = x.cps.toList.length := by omega
    subst e
    exact .inl ⟨by show x.cps.size ≤ _; simp, hd H hp⟩
end Gd
/-! enumerate of a tuple. -/
namespace Gd
open PySem PySem.Spec PyProof.Rows L2
set_option maxHeartbeats 1000000 in
theorem en_new {u : Value} {ob : Obj} {N : Heap → Prop} (B : Begins u ob N) :
    Meets (Builtin.«enumerate.__new__» ⟨[.type "enumerate", u], []⟩) (fun _ R z => N z.heap ∧
      R (.ok (.ret (.ref (z.heap.push ob).objs.size))) { z with heap := (z.heap.push ob).push { cls := .type "enumerate", data := .fields #[.none, .bool false, .ref z.heap.objs.size, rawInt 0, .none, .none] } }) := by
  refine .of_wp fun prog w A R z hz => ?_
  obtain ⟨hp, ga, dr, tk, os⟩ := z
  obtain ⟨n1, fin⟩ := hz
  have sb := sub_enumerate
  have it1 : ∀ {A2 : Around} {E2 : Value → Shared → Prop} {Q2 : Value → Shared → Prop}, Q2 (.ref hp.objs.size) ⟨hp.push ob, ga, dr, tk, os⟩ → wpAny (model prog w) A2 (pyIter u) Q2 E2 ⟨hp, ga, dr, tk, os⟩ :=
    fun y => B.iter prog w _ _ ⟨hp, ga, dr, tk, os⟩ _ n1 y
  wp_walk using it1
  refine wpAny_stack_any fun st => wpAny_pure ?_
  split
  · rename_i c _ _ _ _ _
    cases (c == Value.type "enumerate")
    · wp_walk using it1
      exact ⟨_, rfl, fin⟩
    · wp_walk using it1
      exact ⟨_, rfl, fin⟩
  · wp_walk using it1
    exact ⟨_, rfl, fin⟩
theorem en_call {prog : Program} {w : World} {A : Around} {E : Value → Shared → Prop} {z : Shared} {u : Value} {ob : Obj} {N : Heap → Prop} {Q : Value → Shared → Prop} (B : Begins u ob N) (n1 : N z.heap)
    (fin : ∀ g, IsEnum g (z.heap.objs.size + 1) z.heap.objs.size 0 .none → g.get? z.heap.objs.size = some ob → (∀ b o, z.heap.get? b = some o → g.get? b = some o) → Q (.ref (z.heap.objs.size + 1)) { z with heap := g }) :
    wpAny (model prog w) A (call (.type "enumerate") [u]) Q E z := by
  refine callType_new F.called_enumerate (by decide) (F.typeCall_enumerate_1 _) (F.newCall_enumerate_1 _) (fun x => F.args_object_init_2 x _) F.entry_enumerate_new (en_new B) ⟨n1, ?_⟩
  have sz : (z.heap.push ob).objs.size = z.heap.objs.size + 1 := Heap.size_push ..
  have top := Heap.get?_push_size (z.heap.push ob) (o := { cls := .type "enumerate", data := .fields #[.none, .bool false, .ref z.heap.objs.size, rawInt 0, .none, .none] }) rfl
  show _ ∧ _
  rw [sz] at top ⊢
  exact ⟨⟨_, top, rfl⟩, fin _ top (Heap.get?_push_of_some _ (Heap.get?_push_size _ B.free)) fun b o e => Heap.get?_push_of_some _ (Heap.get?_push_of_some _ e)⟩
/-- the tuple at a, each item in a new pair with its number -/
def ItEn (K : PySem.W.Frag) (a : Addr) : It where
  go i H := ∃ (xs : List V) (x : V), SqT K H a xs ∧ xs[i]? = some x
  yld i H v G := ∃ T x, v = .ref T ∧ H T = none ∧ G = upd H T (.tup [.int (i : Nat), x]) ∧ ∀ xs, SqT K H a xs → xs[i]? = some x
  stop i H := ∃ xs : List V, SqT K H a xs ∧ xs.length ≤ i
theorem turn_en {P : Program} {w : World} {K : PySem.W.Frag} {ts : List Expr} {kk : Nat} {tp : Pos} (a e r : Addr) :
    Turn P w K (.Tuple ts kk tp) (ItEn K a) [e, r] e (fun i h => (∃ old, IsEnum h e r ((i : Nat) : Int) old) ∧ h.IsTupleIter r a i) where
  mem := List.mem_cons_self
  obj := fun i h st b hb => by
    obtain ⟨⟨old, he⟩, o, ho, hc, hd⟩ := st
    rcases List.mem_cons.mp hb with z | z
    · subst z
      exact ⟨_, he, fun v q => nomatch q⟩
    · refine ⟨o, List.mem_singleton.mp z ▸ ho, fun v q => ?_⟩
      rw [hd] at q
      cases q
  keep := fun i h g st k => by
    obtain ⟨⟨old, he⟩, hr⟩ := st
    exact ⟨⟨old, k e List.mem_cons_self _ he⟩, hr.at fun o z => k r (List.mem_cons_of_mem _ List.mem_cons_self) o z⟩
  item := by
    intro X h1 h2 h3 calm i pins z σ H E I fp st gg
    subst h1 h2 h3
    obtain ⟨⟨old, he⟩, hr⟩ := st
    obtain ⟨xs, x, hq, hx⟩ := gg
    obtain ⟨its, rv, pt, _⟩ := I.tuple hq
    obtain ⟨u, hu, ru⟩ := rv.get hx
    have tup : z.heap.IsTuple a its.toArray := pt
    have el : e < z.heap.objs.size := Heap.lt_size he
    obtain ⟨o1, g1, c1, d1⟩ := id hr
    have rl : r < z.heap.objs.size := Heap.lt_size g1
    obtain ⟨o2, g2, c2, _⟩ := id tup
    have er : e ≠ r := fun q => by
      have y := Option.some.inj (he.symm.trans (q ▸ g1))
      rw [← y] at c1
      exact absurd (Value.type.inj c1) (by decide)
    have ea : e ≠ a := fun q => by
      have y := Option.some.inj (he.symm.trans (q ▸ g2))
      rw [← y] at c2
      exact absurd (Value.type.inj c2) (by decide)
    have ra : a ≠ r := fun q => by
      have y := Option.some.inj (g1.symm.trans (q ▸ g2))
      rw [← y, c1] at c2
      exact absurd (Value.type.inj c2) (by decide)
    have hd : X.A.in1.handled = none := I.ok.hd calm
    have hlt : i < its.toArray.size := by
      have q := (List.getElem?_eq_some_iff.mp hu).1
      simpa using q
    have nin : e ∉ [r, a] := fun q => (List.mem_cons.mp q).elim er fun q => ea (List.mem_singleton.mp q)
    refine wpAny_pyNext_enum_itemD (Draws.tuple (prog := X.prog) (w := X.w) hd r a ra its.toArray) he ⟨hr, tup⟩ hlt er nin fun y g tk py ho st2 hT hsz hk => ?_
    have hy : y = u := by
      have q : its.toArray[i]? = some y := py
      have q2 : its.toArray[i]? = some u := by simpa using hu
      exact Option.some.inj (q.symm.trans q2)
    subst hy
    refine ⟨_, rfl, wpAny_letOwnedTupleGo_enum (s := { z with heap := g, toks := tk + 1 }) ho fun g2 he2 sb => ?_⟩
    have keep : ∀ b o, b ∉ [e, r] → z.heap.get? b = some o → g2.get? b = some o := fun b o nb q => by
      have nbe : b ≠ e := fun w => nb (by rw [w]; exact List.mem_cons_self)
      have nbr : b ≠ r := fun w => nb (by rw [w]; exact List.mem_cons_of_mem _ List.mem_cons_self)
      exact (sb.2 b nbe).trans (hk b o nbe nbr q)
    have T2 : g2.get? z.heap.objs.size = some { cls := .type "tuple", data := .seq #[.int i tk, y] } := (sb.2 _ (Nat.ne_of_gt el)).trans hT
    have fit : ObjOk X.prog X.w (upd H z.heap.objs.size (.tup [.int (i : Nat), x])) g2 z.heap.objs.size (.tup [.int (i : Nat), x]) :=
      ⟨by show 2 ≤ sizeLine; decide, [.int i tk, y], .cons ⟨_, rfl⟩ (.cons ru .nil), ⟨_, T2, rfl, _, rfl⟩⟩
    have J : Inv X pins σ (upd H z.heap.objs.size (.tup [.int (i : Nat), x])) { z with heap := g2, toks := tk + 1 } := I.turnedNew (ch := [e, r]) keep fp (Nat.le_refl _) fit
    refine ⟨.ref z.heap.objs.size, _, J, rfl, ⟨_, x, rfl, I.hok.fresh (Nat.le_refl _), rfl, fun ys hy => by rw [I.tuple_inj hy hq]; exact hx⟩, ⟨⟨y, ?_⟩, ?_⟩, fun b hb => ?_⟩
    · have e1 : ((i + 1 : Nat) : Int) = (i : Int) + 1 := by omega
      rw [e1]
      exact he2
    · exact st2.1.at fun o q => (sb.2 r (Ne.symm er)).trans q
    · have lt : b < z.heap.objs.size := by
        rcases List.mem_cons.mp hb with w | w
        · exact w ▸ el
        · exact List.mem_singleton.mp w ▸ rl
      rw [upd_ne (Nat.ne_of_lt lt)]
      exact (fp b hb).1
  done := by
    intro X h1 h2 h3 calm i pins z σ H E I fp st gg
    subst h1 h2 h3
    obtain ⟨⟨old, he⟩, hr⟩ := st
    obtain ⟨xs, hq, hx⟩ := gg
    obtain ⟨its, rv, pt, _⟩ := I.tuple hq
    have tup : z.heap.IsTuple a its.toArray := pt
    have hl := rv.length
    obtain ⟨f0, f1, f2, f3, f4, f5⟩ := fp r (List.mem_cons_of_mem _ List.mem_cons_self)
    obtain ⟨o1, g1, c1, d1⟩ := id hr
    obtain ⟨o2, g2, c2, _⟩ := id tup
    have ra : a ≠ r := fun q => by
      have y := Option.some.inj (g1.symm.trans (q ▸ g2))
      rw [← y, c1] at c2
      exact absurd (Value.type.inj c2) (by decide)
    have hT : z.TypeIs (.ref e) "enumerate" := ⟨_, he, rfl⟩
    have hd : X.A.in1.handled = none := I.ok.hd calm
    unfold pyNext
    refine wpAny_bind (wpAny_attempt (wpAny_callSpecial?_slot (name := Str.ofString "__next__") hT F.slot_enumerate_next
      (wpAny_call_entry F.slot_enumerate_next hT F.entry_enumerate_next ?_ (F.args_enumerate_next_1 _))))
    show wpAny _ _ (field (.ref e) 2 >>= _) _ _ _
    refine wpAny_bind (wpAny_field he rfl (x := .ref r) rfl ?_)
    refine wpAny_bind (wpAny_nextOf_tuple_end hd hr tup (by simp; omega) fun g x hext hstop => ?_)
    obtain ⟨o, ho, hc⟩ := hstop
    refine wpAny_bind (wpAny_isInstance (T := "StopIteration") (b := true) ⟨o, ho, hc⟩ isSubtype_stop ?_)
    exact wpAny_pure ⟨rfl, I.turned (t' := z.toks) (fun b o hb q => hext b o hb q) f0 f1 f3 f4 f5⟩
  self := fun A i z Q E st h => by
    obtain ⟨⟨_, he⟩, _⟩ := st
    exact wpAny_pyIter_enum he h
def iEn (K : PySem.W.Frag) (ta : TA) : TI := fun σ H R => ta σ H fun vs G => ∃ a xs, vs = [.ref a] ∧ SqT K G a xs ∧ R (ItEn K a) G
/-- for i, x in enumerate(t) -/
theorem pi_enT {X : Cx} {e : Expr} {ta : TA} {p pos tp : Pos} {ts : List Expr} {kk : Nat} (hg : Gl X "enumerate") (hm : X.mg "enumerate" = none) (ha : PA X [e] ta) (hs : starEach [e] X.env = [(false, eval e X.env)] := by rfl) :
    PI X (.Tuple ts kk tp) (.Call (.Name "enumerate" p) [e] [] pos) (iEn X.K ta) := by
  refine ⟨fun pins s σ H R I h => ?_⟩
  refine Call_ (ld_blt I hg hm boot_enumerate (PyProof.Rows.callWith_type1 (thn (ha.run pos pins s σ H _ I h) fun us s1 ⟨vs, H1, I1, r1, a, xs, ev, hq, q⟩ => ?_) hs rfl))
  subst ev
  obtain ⟨u, rfl, ru⟩ := vals1 r1
  obtain rfl : u = Value.ref a := ru
  obtain ⟨its, rv, pt, _⟩ := I1.tuple hq
  refine en_call (begins_tuple a its.toArray) (show s1.heap.IsTuple a its.toArray from pt) fun g he hr hk => wpAny_pyIter_enum he ?_
  have I2 : Inv X pins σ H1 { s1 with heap := g } := I1.kept (t' := s1.toks) hk
  refine ⟨s1.heap.objs.size + 1, [s1.heap.objs.size + 1, s1.heap.objs.size], _, _, H1, rfl, I2, turn_en a (s1.heap.objs.size + 1) s1.heap.objs.size, ⟨⟨.none, he⟩, _, hr, rfl, rfl⟩, fun b hb => ?_, q⟩
  have ge : s1.heap.objs.size ≤ b := by
    rcases List.mem_cons.mp hb with z | z
    · exact z ▸ Nat.le_succ _
    · exact List.mem_singleton.mp z ▸ Nat.le_refl _
  exact I1.fpOk ge (I1.hok.fresh ge)
theorem for_en {K : PySem.W.Frag} {a : Addr} {xs : List V} {g : TG} {tb : TS} {D : Ends} {σ : L2.St} {H : Hp} (Pv : Nat → L2.St → Hp → Prop) (h0 : Pv 0 σ H) (stay : ∀ i σ G, i ≤ xs.length → Pv i σ G → SqT K G a xs)
    (hs : ∀ i x T σ G, xs[i]? = some x → Pv i σ G → G T = none → g (.ref T) σ (upd G T (.tup [.int (i : Nat), x])) fun σ2 H2 => tb { D with nx := Pv (i + 1), ct := Pv (i + 1), bk := D.nx } σ2 H2) (hd : ∀ σ G, Pv xs.length σ G → D.nx σ G) :
    ∃ W : Nat → Nat → L2.St → Hp → Prop, (∃ m, W 0 m σ H) ∧ ∀ i m σ H, W i m σ H →
      ((ItEn K a).stop i H ∧ D.nx σ H) ∨ ((ItEn K a).go i H ∧ ∃ N : L2.St → Hp → Prop, (∀ σ' H', N σ' H' → ∃ m', m' < m ∧ W (i + 1) m' σ' H') ∧ ∀ v H', (ItEn K a).yld i H v H' → g v σ H' fun σ2 H2 => tb { D with nx := N, ct := N, bk := D.nx } σ2 H2) := by
  refine ⟨fun i m σ G => m = xs.length - i ∧ i ≤ xs.length ∧ Pv i σ G, ⟨_, rfl, Nat.zero_le _, h0⟩, fun i m σ G hw => ?_⟩
  obtain ⟨rfl, hi, hp⟩ := hw
  have hq := stay i σ G hi hp
  by_cases hlt : i < xs.length
  · refine .inr ⟨⟨xs, xs[i], hq, List.getElem?_eq_getElem hlt⟩, Pv (i + 1), fun σ' H' hp' => ⟨_, by omega, rfl, hlt, hp'⟩, fun v G' hy => ?_⟩
    obtain ⟨T, x, rfl, hT, rfl, hx⟩ := hy
    exact hs i x T σ G (hx xs hq) hp hT
  · have e : i = xs.length := by omega
    subst e
    exact .inl ⟨⟨xs, hq, Nat.le_refl _⟩, hd σ G hp⟩
theorem lc_en {K : PySem.W.Frag} {a : Addr} {xs : List V} {g : TG} {tt : TT} {te : TE} {vs : List Nat} {σ : L2.St} {H1 : Hp} {D : Addr} {Qd : Hp → Prop} (Pv : Nat → Hp → Prop) (h0 : Pv 0 (upd H1 D (.lst []))) (stay : ∀ i G, i ≤ xs.length → Pv i G → SqT K G a xs)
    (hs : ∀ i x T G, xs[i]? = some x → Pv i G → G T = none → g (.ref T) (wipe σ vs) (upd G T (.tup [.int (i : Nat), x])) fun σ2 H2 => wipe σ2 vs = wipe σ vs ∧ tt σ2 H2 fun b H3 =>
      if b = true then te σ2 H3 fun y H4 => ∃ acc, H4 D = some (.lst acc) ∧ acc.length < sizeLine ∧ Pv (i + 1) (upd H4 D (.lst (acc ++ [y]))) else Pv (i + 1) H3) (hd : ∀ H, Pv xs.length H → Qd H) :
    ∃ W : Nat → Nat → Hp → Prop, (∃ m, W 0 m (upd H1 D (.lst []))) ∧ ∀ i m H, W i m H →
      ((ItEn K a).stop i H ∧ Qd H) ∨ ((ItEn K a).go i H ∧ ∃ Nx : Hp → Prop, (∀ H', Nx H' → ∃ m', m' < m ∧ W (i + 1) m' H') ∧ ∀ v H', (ItEn K a).yld i H v H' → g v (wipe σ vs) H' fun σ2 H2 => wipe σ2 vs = wipe σ vs ∧ tt σ2 H2 fun b H3 =>
        if b = true then te σ2 H3 fun y H4 => ∃ acc, H4 D = some (.lst acc) ∧ acc.length < sizeLine ∧ Nx (upd H4 D (.lst (acc ++ [y]))) else Nx H3) := by
  refine ⟨fun i m G => m = xs.length - i ∧ i ≤ xs.length ∧ Pv i G, ⟨_, rfl, Nat.zero_le _, h0⟩, fun i m G hw => ?_⟩
  obtain ⟨rfl, hi, hp⟩ := hw
  have hq := stay i G hi hp
  by_cases hlt : i < xs.length
  · refine .inr ⟨⟨xs, xs[i], hq, List.getElem?_eq_getElem hlt⟩, Pv (i + 1), fun H' hp' => ⟨_, by omega, rfl, hlt, hp'⟩, fun v G' hy => ?_⟩
    obtain ⟨T, x, rfl, hT, rfl, hx⟩ := hy
    exact hs i x T G (hx xs hq) hp hT
  · have e : i = xs.length := by omega
    subst e
    exact .inl ⟨⟨xs, hq, Nat.le_refl _⟩, hd G hp⟩
end Gd
/-! Tables as data and as objects: what the laws share. -/
namespace Gd
open PySem PySem.Spec PyProof.Rows L2
theorem strs_inv {K : PySem.W.Frag} {H : Hp} : ∀ {ss : List Str} {vs : List V}, DpAll K H vs (ss.map .str) → vs = ss.map V.str
  | [], _, h => by cases h; rfl
  | s :: r, _, h => by
    cases h with
    | cons a t =>
      cases a
      rw [strs_inv t]
      rfl
theorem ints_inv {K : PySem.W.Frag} {H : Hp} : ∀ {ns : List Int} {vs : List V}, DpAll K H vs (ns.map .int) → vs = ns.map V.int
  | [], _, h => by cases h; rfl
  | s :: r, _, h => by
    cases h with
    | cons a t =>
      cases a
      rw [ints_inv t]
      rfl
theorem tup_inv {K : PySem.W.Frag} {H : Hp} {v : V} {ds : List PyData} (h : Dp K H v (.tuple ds)) : ∃ q vs, v = .ref q ∧ SqT K H q vs ∧ DpAll K H vs ds := by
  cases h with
  | tup hs ha => exact ⟨_, _, rfl, hs, ha⟩
theorem tints_inv {K : PySem.W.Frag} {H : Hp} {v : V} {ns : List Int} (h : Dp K H v (.tuple (ns.map .int))) : ∃ q, v = .ref q ∧ SqT K H q (ns.map V.int) := by
  obtain ⟨q, vs, rfl, hs, ha⟩ := tup_inv h
  rw [ints_inv ha] at hs
  exact ⟨q, rfl, hs⟩
theorem dp_tup_strs {K : PySem.W.Frag} {H : Hp} {q : Addr} {l : List Str} (h : SqT K H q (l.map V.str)) : Dp K H (.ref q) (.tuple (l.map .str)) := .tup h (dpAll_strs l)
/-- a name: one to eight small letters -/
def Nm (z : Str) : Prop := (1 ≤ z.length ∧ z.length ≤ 8) ∧ ∀ c ∈ z.cps.toList, 97 ≤ c ∧ c ≤ 122
/-- names, ascending -/
def AscS (ss : List Str) : Prop := ss.Pairwise fun x y => x.cps.toList < y.cps.toList
def AscI (ns : List Int) : Prop := ns.Pairwise (· < ·)
theorem pw_next {α : Type} {R : α → α → Prop} : ∀ {l : List α} {i : Nat} {x y : α}, l.Pairwise R → l[i]? = some x → l[i + 1]? = some y → R x y
  | [], _, _, _, _, h, _ => by simp at h
  | a :: r, 0, x, y, p, h1, h2 => by
    simp at h1 h2
    subst h1
    exact (List.pairwise_cons.mp p).1 y (List.mem_of_getElem? h2)
  | a :: r, i + 1, x, y, p, h1, h2 => pw_next (l := r) (i := i) (List.pairwise_cons.mp p).2 (by simpa using h1) (by simpa using h2)
/-- whether any value is a tuple of numbers below a limit -/
def NumsV (K : PySem.W.Frag) (H : Hp) (lim : Int) (x : V) (b : Bool) : Prop :=
  (∃ n, TyN K H x n ∧ kitB n "tuple" = some false ∧ b = false) ∨ (∃ (p : Addr) (xs : List V) (bs : List Bool), x = .ref p ∧ SqT K H p xs ∧ xs.length ≤ 1000 ∧ NumVs K H lim xs bs ∧ b = bs.all id)
/-- names and lots -/
structure TD where
  kinds : List Str
  types : List (Str × List Int)
structure TOk (t : TD) : Prop where
  k1 : 1 ≤ t.kinds.length
  k8 : t.kinds.length ≤ 8
  kn : ∀ z ∈ t.kinds, Nm z
  ka : AscS t.kinds
  t12 : t.types.length ≤ 12
  tn : ∀ p ∈ t.types, Nm p.1
  ta : AscS (t.types.map (·.1))
  la : ∀ p ∈ t.types, AscI p.2
  lb : ∀ p ∈ t.types, ∀ n ∈ p.2, 0 ≤ n ∧ n < (t.kinds.length : Int)
def kindsD (t : TD) : PyData := .tuple (t.kinds.map .str)
def typeD (p : Str × List Int) : PyData := .tuple [.str p.1, .tuple (p.2.map .int)]
def typesD (t : TD) : PyData := .tuple (t.types.map typeD)
theorem asc_len {ns : List Int} {k : Nat} (h : AscI ns) (b : ∀ n ∈ ns, 0 ≤ n ∧ n < (k : Int)) : ns.length ≤ k := by
  have key : ∀ (l : List Int) (lo : Int), AscI l → (∀ n ∈ l, lo ≤ n ∧ n < (k : Int)) → (l.length : Int) ≤ max 0 ((k : Int) - lo) := by
    intro l
    induction l with
    | nil => intro lo _ _; simp; omega
    | cons x r ih =>
      intro lo p q
      obtain ⟨p1, p2⟩ := List.pairwise_cons.mp p
      have hx := q x List.mem_cons_self
      have := ih (x + 1) p2 fun n hn => ⟨by have := p1 n hn; omega, (q n (List.mem_cons_of_mem _ hn)).2⟩
      rw [List.length_cons]
      omega
  have := key ns 0 h b
  omega
theorem TOk.lot8 {t : TD} (h : TOk t) {p : Str × List Int} (m : p ∈ t.types) : p.2.length ≤ 8 := Nat.le_trans (asc_len (h.la p m) (h.lb p m)) h.k8
theorem kinds_sq {K : PySem.W.Frag} {H : Hp} {pk : Addr} {t : TD} (h : Dp K H (.ref pk) (kindsD t)) : SqT K H pk (t.kinds.map V.str) := by
  obtain ⟨q, vs, e, hs, ha⟩ := tup_inv h
  cases e
  rw [strs_inv ha] at hs
  exact hs
theorem types_sq {K : PySem.W.Frag} {H : Hp} {pt : Addr} {t : TD} (h : Dp K H (.ref pt) (typesD t)) : ∃ us, SqT K H pt us ∧ DpAll K H us (t.types.map typeD) := by
  obtain ⟨q, vs, e, hs, ha⟩ := tup_inv h
  cases e
  exact ⟨vs, hs, ha⟩
theorem type_inv {K : PySem.W.Frag} {H : Hp} {v : V} {p : Str × List Int} (h : Dp K H v (typeD p)) : ∃ q l, v = .ref q ∧ SqT K H q [.str p.1, .ref l] ∧ SqT K H l (p.2.map V.int) := by
  obtain ⟨q, vs, rfl, hs, ha⟩ := tup_inv h
  cases ha with
  | cons a r =>
  cases r with
  | cons b r =>
  cases r
  cases a
  obtain ⟨l, rfl, hl⟩ := tints_inv b
  exact ⟨q, l, rfl, hs, hl⟩
theorem type_at {K : PySem.W.Frag} {H : Hp} {us : List V} {t : TD} {i : Nat} {x : V} (h : DpAll K H us (t.types.map typeD)) (e : us[i]? = some x) : ∃ p, t.types[i]? = some p ∧ Dp K H x (typeD p) := by
  have hl := dpAll_len h
  rw [List.length_map] at hl
  have hi : i < t.types.length := by rw [← hl]; exact (List.getElem?_eq_some_iff.mp e).1
  obtain ⟨v, hv, dv⟩ := dpAll_get h (i := i) (d := typeD t.types[i]) (by rw [List.getElem?_map, List.getElem?_eq_getElem hi]; rfl)
  obtain rfl : v = x := Option.some.inj (hv.symm.trans e)
  exact ⟨_, List.getElem?_eq_getElem hi, dv⟩
theorem types_at {K : PySem.W.Frag} {H : Hp} {us : List V} {t : TD} {i : Nat} {p : Str × List Int} (h : DpAll K H us (t.types.map typeD)) (e : t.types[i]? = some p) : ∃ x, us[i]? = some x ∧ Dp K H x (typeD p) :=
  dpAll_get h (i := i) (d := typeD p) (by rw [List.getElem?_map, e]; rfl)
theorem noList_strs (l : List Str) : noListAll (l.map .str) = true := noListAll_mem fun d hd => by
  obtain ⟨x, _, rfl⟩ := List.mem_map.mp hd
  rfl
theorem noList_intsD (l : List Int) : noListAll (l.map .int) = true := noListAll_mem fun d hd => by
  obtain ⟨x, _, rfl⟩ := List.mem_map.mp hd
  rfl
theorem noList_kinds (t : TD) : noList (kindsD t) = true := by
  rw [kindsD, noList]
  exact noList_strs _
theorem noList_type (p : Str × List Int) : noList (typeD p) = true := by
  simp [typeD, noList, noListAll, noList_intsD]
theorem noList_types (t : TD) : noList (typesD t) = true := by
  rw [typesD, noList]
  exact noListAll_mem fun d hd => by
    obtain ⟨p, _, rfl⟩ := List.mem_map.mp hd
    exact noList_type p
mutual
theorem dp_sq {K : PySem.W.Frag} {H G : Hp} (e : ∀ a xs, SqT K H a xs → SqT K G a xs) : ∀ (d : PyData) (v : V), noList d = true → Dp K H v d → Dp K G v d
  | .none, _, _, h => by cases h; exact .non
  | .bool b, _, _, h => by cases h; exact .bl b
  | .int i, _, _, h => by cases h; exact .int i
  | .str x, _, _, h => by cases h; exact .str x
  | .list ds, _, n, _ => by simp [noList] at n
  | .tuple ds, _, n, h => by
    cases h with
    | tup hs ha => exact .tup (e _ _ hs) (dpAll_sq e ds _ (by simpa [noList] using n) ha)
  | .dict _, _, _, h => by cases h
theorem dpAll_sq {K : PySem.W.Frag} {H G : Hp} (e : ∀ a xs, SqT K H a xs → SqT K G a xs) : ∀ (ds : List PyData) (vs : List V), noListAll ds = true → DpAll K H vs ds → DpAll K G vs ds
  | [], _, _, h => by cases h; exact .nil
  | d :: ds, _, n, h => by
    have n' : noList d = true ∧ noListAll ds = true := by simpa [noListAll] using n
    cases h with
    | cons h1 h2 => exact .cons (dp_sq e d _ n'.1 h1) (dpAll_sq e ds _ n'.2 h2)
end
/-- tuples stand, where all but an instance stands -/
theorem sqT_ins {K : PySem.W.Frag} {H G : Hp} {p C dx : Addr} {fs : List (Str × V)} (hp : H p = some (.ins C dx fs)) (k : ∀ b o, b ≠ p → H b = some o → G b = some o) (a : Addr) (xs : List V) (h : SqT K H a xs) : SqT K G a xs := by
  rcases h with (z | ⟨o, z⟩) | z
  · exact .inl (.inl (k _ _ (ne_of z hp (by intro q; cases q)) z))
  · exact .inl (.inr ⟨o, k _ _ (ne_of z hp (by intro q; cases q)) z⟩)
  · exact .inr z
/-! costs -/
theorem nm_fine {z : Str} (h : Nm z) : fine (.str z) = true := fine_str.mpr fun c hc => by have := h.2 c hc; omega
theorem type_fine {p : Str × List Int} {k : Nat} (h : Nm p.1) (b : ∀ n ∈ p.2, 0 ≤ n ∧ n < (k : Int)) (hk : k ≤ 8) : fine (typeD p) = true := by
  have e : fineAll (p.2.map .int) = true := fineAll_mem fun d hd => by
    obtain ⟨x, hx, rfl⟩ := List.mem_map.mp hd
    have := b x hx
    rw [fine]
    exact decide_eq_true (by omega)
  simp only [typeD, fine, fineAll, e, Bool.and_true]
  have := nm_fine h
  rw [fine] at this
  exact this
theorem lot_cost (l : List Int) : costAll (l.map .int) = 12 * l.length := cost_ints l
theorem table_fine {t : TD} (h : TOk t) : (fine (kindsD t) = true ∧ (kindsD t).depth ≤ 5 ∧ costD (kindsD t) ≤ 1000) ∧ (fine (typesD t) = true ∧ (typesD t).depth ≤ 5 ∧ costD (typesD t) ≤ 10000) := by
  have cs : ∀ l : List Str, (∀ z ∈ l, Nm z) → costAll (l.map .str) ≤ 84 * l.length := fun l hl => by
    induction l with
    | nil => rw [List.map_nil, costAll]; exact Nat.le_refl 0
    | cons z r ih =>
      have h1 := ih fun y hy => hl y (List.mem_cons_of_mem _ hy)
      have h2 := (hl z List.mem_cons_self).1.2
      rw [List.map_cons, costAll, costD, List.length_cons]
      omega
  have ct : ∀ l : List (Str × List Int), (∀ p ∈ l, Nm p.1 ∧ p.2.length ≤ 8) → costAll (l.map typeD) ≤ 300 * l.length := fun l hl => by
    induction l with
    | nil => rw [List.map_nil, costAll]; exact Nat.le_refl 0
    | cons p r ih =>
      have h1 := ih fun y hy => hl y (List.mem_cons_of_mem _ hy)
      have h2 := (hl p List.mem_cons_self).1.1.2
      have h3 := (hl p List.mem_cons_self).2
      rw [List.map_cons, costAll, List.length_cons]
      simp only [typeD, costD, costAll, lot_cost]
      omega
  refine ⟨⟨?_, ?_, ?_⟩, ?_, ?_, ?_⟩
  · rw [kindsD, fine]
    exact fineAll_mem fun d hd => by
      obtain ⟨z, hz, rfl⟩ := List.mem_map.mp hd
      exact nm_fine (h.kn z hz)
  · rw [kindsD, PyData.depth]
    have : PyData.depthAll (t.kinds.map .str) ≤ 1 := depthAll_mem fun d hd => by
      obtain ⟨z, _, rfl⟩ := List.mem_map.mp hd
      simp [PyData.depth]
    omega
  · rw [kindsD, costD]
    have h1 := cs t.kinds h.kn
    have h2 := h.k8
    omega
  · rw [typesD, fine]
    exact fineAll_mem fun d hd => by
      obtain ⟨p, hp, rfl⟩ := List.mem_map.mp hd
      exact type_fine (h.tn p hp) (h.lb p hp) h.k8
  · rw [typesD, PyData.depth]
    have : PyData.depthAll (t.types.map typeD) ≤ 3 := depthAll_mem fun d hd => by
      obtain ⟨p, _, rfl⟩ := List.mem_map.mp hd
      have e : PyData.depthAll (p.2.map .int) ≤ 1 := depthAll_mem fun d hd => by
        obtain ⟨x, _, rfl⟩ := List.mem_map.mp hd
        simp [PyData.depth]
      simp only [typeD, PyData.depth, PyData.depthAll]
      omega
    omega
  · rw [typesD, costD]
    have h1 := ct t.types fun p hp => ⟨h.tn p hp, h.lot8 hp⟩
    have h2 := h.t12
    omega
/-! the object -/
theorem tk_ : ¬ (("types" : Str) = "kinds") := by decide +kernel
theorem kt_ : ¬ (("kinds" : Str) = "types") := fun z => tk_ z.symm
def tf (pk pt : Addr) : List (Str × V) := putF "types" (.ref pt) (putF "kinds" (.ref pk) [])
theorem tf_k (pk pt : Addr) : (tf pk pt).lookup ("kinds" : Str) = some (.ref pk) := by unfold tf; rw [lookup_putF, if_neg kt_, lookup_putF, if_pos rfl]
theorem tf_t (pk pt : Addr) : (tf pk pt).lookup ("types" : Str) = some (.ref pt) := by unfold tf; rw [lookup_putF, if_pos rfl]
theorem tf_no (pk pt : Addr) {m : Str} (h1 : ¬ m = "kinds") (h2 : ¬ m = "types") : (tf pk pt).lookup m = none := by
  unfold tf
  rw [lookup_putF, if_neg h2, lookup_putF, if_neg h1]
  rfl
theorem len_putF2 (f : Str) (v : V) : ∀ fs : List (Str × V), (putF f v fs).length ≤ fs.length + 1
  | [] => Nat.le_refl _
  | (g, u) :: r => by
    have ih := len_putF2 f v r
    unfold putF
    split
    · exact Nat.le_succ _
    · exact Nat.succ_le_succ ih
structure TblAt (K : PySem.W.Frag) (C : Addr) (H : Hp) (p dx pk pt : Addr) (t : TD) : Prop where
  obj : H p = some (.ins C dx (tf pk pt))
  kd : Dp K H (.ref pk) (kindsD t)
  td : Dp K H (.ref pt) (typesD t)
theorem TblAt.keep {K : PySem.W.Frag} {C : Addr} {H G : Hp} {p dx pk pt : Addr} {t : TD} (d : TblAt K C H p dx pk pt t) (k : KeepT H G) : TblAt K C G p dx pk pt t :=
  ⟨k _ _ d.obj (by intro _ q; cases q), dp_keep k _ _ (noList_kinds t) d.kd, dp_keep k _ _ (noList_types t) d.td⟩
theorem TblAt.same {K : PySem.W.Frag} {C : Addr} {H G : Hp} {p dx pk pt : Addr} {t : TD} (d : TblAt K C H p dx pk pt t) (k : Same H G) : TblAt K C G p dx pk pt t := d.keep (.of k)
structure TTxt (K : PySem.W.Frag) (mg : Str → Option Value) (C : Addr) : Prop where
  cl : Cls K C
  nK : NoAttr K C "kinds"
  nT : NoAttr K C "types"
  mgC : mg "Table" = some (.ref C)
end Gd
/-! The names that the laws draw: letters, order. -/
namespace Gd
open PySem PySem.Spec PyProof.Rows L2
theorem lt_tri : ∀ a b : List Nat, a < b ∨ a = b ∨ b < a
  | [], [] => .inr (.inl rfl)
  | [], y :: s => .inl List.Lex.nil
  | x :: r, [] => .inr (.inr List.Lex.nil)
  | x :: r, y :: s => by
    rcases Nat.lt_trichotomy x y with h | h | h
    · exact .inl (List.Lex.rel h)
    · subst h
      rcases lt_tri r s with h | h | h
      · exact .inl (List.Lex.cons h)
      · exact .inr (.inl (by rw [h]))
      · exact .inr (.inr (List.Lex.cons h))
    · exact .inr (.inr (List.Lex.rel h))
theorem lt_tr : ∀ {a b c : List Nat}, a < b → b < c → a < c := fun {a b c} h1 h2 => List.lt_trans h1 h2
theorem str_ext {x y : Str} (h : x.cps.toList = y.cps.toList) : x = y := by
  obtain ⟨a⟩ := x
  obtain ⟨b⟩ := y
  have : a = b := Array.toList_inj.mp h
  rw [this]
theorem rising_asc : ∀ (l : List Str) (p : Str), risingS p l = true → (p :: l).Nodup → AscS (p :: l)
  | [], p, _, _ => List.pairwise_singleton _ _
  | x :: r, p, h, n => by
    have h' : (!ltCps x.cps.toList p.cps.toList && risingS x r) = true := h
    obtain ⟨h1, h2⟩ := Bool.and_eq_true_iff.mp h'
    obtain ⟨n1, n2⟩ := List.nodup_cons.mp n
    have ih := rising_asc r x h2 n2
    have hlt : p.cps.toList < x.cps.toList := by
      rcases lt_tri p.cps.toList x.cps.toList with z | z | z
      · exact z
      · exact absurd (str_ext z ▸ List.mem_cons_self) n1
      · rw [ltCps_eq, decide_eq_true z] at h1
        cases h1
    refine List.pairwise_cons.mpr ⟨fun y hy => ?_, ih⟩
    rcases List.mem_cons.mp hy with e | e
    · exact e ▸ hlt
    · exact lt_tr hlt ((List.pairwise_cons.mp ih).1 y e)
theorem sorted_asc {l : List Str} (h : sortedS l = true) (n : l.Nodup) : AscS l := by
  cases l with
  | nil => exact List.Pairwise.nil
  | cons p r => exact rising_asc r p h n
theorem nodup_of {α : Type} : ∀ {l : List α}, (∀ (i j : Nat) (x : α), l[i]? = some x → l[j]? = some x → i = j) → l.Nodup
  | [], _ => List.nodup_nil
  | a :: r, h => by
    refine List.nodup_cons.mpr ⟨fun m => ?_, nodup_of fun i j x h1 h2 => ?_⟩
    · obtain ⟨k, hk, e⟩ := List.getElem_of_mem m
      have := h 0 (k + 1) a rfl (by rw [List.getElem?_cons_succ, List.getElem?_eq_getElem hk, e])
      omega
    · have := h (i + 1) (j + 1) x (by rw [List.getElem?_cons_succ]; exact h1) (by rw [List.getElem?_cons_succ]; exact h2)
      omega
/-- the letter of a place -/
def letN (first : Nat) (i : Nat) : Nat := 97 + (first + 7 * i) % 26
def nameN (front : Str) (first i : Nat) : Str := front ++ ⟨#[letN first i]⟩
/-- what stands ahead of the letter -/
def Front (z : Str) : Prop := z.length ≤ 7 ∧ ∀ c ∈ z.cps.toList, 97 ≤ c ∧ c ≤ 122
theorem name_cps (front : Str) (first i : Nat) : (nameN front first i).cps.toList = front.cps.toList ++ [letN first i] := app_list _ _
theorem name_len (front : Str) (first i : Nat) : (nameN front first i).length = front.length + 1 := by
  show (nameN front first i).cps.size = front.cps.size + 1
  have := congrArg List.length (name_cps front first i)
  simpa using this
theorem name_nm {front : Str} (h : Front front) (first i : Nat) : Nm (nameN front first i) := by
  have h1 := h.1
  refine ⟨by rw [name_len]; omega, fun c hc => ?_⟩
  rw [name_cps] at hc
  rcases List.mem_append.mp hc with z | z
  · exact h.2 c z
  · have e := List.mem_singleton.mp z
    unfold letN at e
    omega
theorem name_inj {front : Str} {first i j : Nat} (hi : i < 12) (hj : j < 12) (h : nameN front first i = nameN front first j) : i = j := by
  have e := congrArg (fun z : Str => z.cps.toList) h
  simp only [name_cps] at e
  have e2 := List.append_cancel_left e
  have e3 : letN first i = letN first j := by simpa using e2
  unfold letN at e3
  omega
def namesN (front : Str) (first n : Nat) : List Str := (List.range n).map (nameN front first)
theorem namesN_succ (front : Str) (first n : Nat) : namesN front first (n + 1) = namesN front first n ++ [nameN front first n] := by
  unfold namesN
  rw [List.range_succ, List.map_append]
  rfl
theorem namesN_len (front : Str) (first n : Nat) : (namesN front first n).length = n := by
  unfold namesN
  rw [List.length_map, List.length_range]
theorem namesN_get {front : Str} {first n i : Nat} {x : Str} (h : (namesN front first n)[i]? = some x) : i < n ∧ x = nameN front first i := by
  have hi : i < n := by
    have := (List.getElem?_eq_some_iff.mp h).1
    rw [namesN_len] at this
    exact this
  unfold namesN at h
  rw [List.getElem?_map, List.getElem?_range hi] at h
  exact ⟨hi, (Option.some.inj h).symm⟩
theorem namesN_at {front : Str} {first n i : Nat} (hi : i < n) : (namesN front first n)[i]? = some (nameN front first i) := by
  unfold namesN
  rw [List.getElem?_map, List.getElem?_range hi]
  rfl
/-- good names, each once -/
def GoodN (n : Nat) (l : List Str) : Prop := l.length = n ∧ (∀ z ∈ l, Nm z) ∧ l.Nodup
theorem names_good {front : Str} (h : Front front) (first : Nat) {n : Nat} (hn : n ≤ 12) : GoodN n (namesN front first n) := by
  refine ⟨namesN_len _ _ _, fun z hz => ?_, nodup_of fun i j x h1 h2 => ?_⟩
  · obtain ⟨i, _, rfl⟩ := List.mem_map.mp hz
    exact name_nm h _ _
  · obtain ⟨i1, e1⟩ := namesN_get h1
    obtain ⟨j1, e2⟩ := namesN_get h2
    exact name_inj (by omega) (by omega) (e1.symm.trans e2)
theorem names_o {front : Str} (h : Front front) (first : Nat) {n a : Nat} (hn : n ≤ 12) (hl : (nameN front first a).length < 8) {o : Str} (ho : o.cps.toList = [111]) : GoodN n ((namesN front first n).set a (nameN front first a ++ o)) := by
  have lo : o.length = 1 := by
    have := congrArg List.length ho
    simpa [Str.length] using this
  have l2 : (nameN front first a ++ o).length = front.length + 2 := by rw [strLen_append, name_len, lo]
  have nm2 : Nm (nameN front first a ++ o) := by
    rw [name_len] at hl
    refine ⟨by rw [l2]; omega, fun c hc => ?_⟩
    rw [app_list] at hc
    rcases List.mem_append.mp hc with z | z
    · exact (name_nm h first a).2 c z
    · rw [ho] at z
      have := List.mem_singleton.mp z
      omega
  refine ⟨by rw [List.length_set, namesN_len], fun z hz => ?_, nodup_of fun i j x h1 h2 => ?_⟩
  · rcases List.mem_or_eq_of_mem_set hz with m | m
    · obtain ⟨i, _, rfl⟩ := List.mem_map.mp m
      exact name_nm h _ _
    · exact m ▸ nm2
  · have key : ∀ i x, ((namesN front first n).set a (nameN front first a ++ o))[i]? = some x → (i = a ∧ x = nameN front first a ++ o) ∨ (i ≠ a ∧ i < n ∧ x = nameN front first i) := by
      intro i x hx
      by_cases z : i = a
      · subst z
        have hi := (List.getElem?_eq_some_iff.mp hx).1
        rw [List.length_set] at hi
        rw [List.getElem?_set_self hi] at hx
        exact .inl ⟨rfl, (Option.some.inj hx).symm⟩
      · rw [List.getElem?_set_ne (Ne.symm z)] at hx
        obtain ⟨q1, q2⟩ := namesN_get hx
        exact .inr ⟨z, q1, q2⟩
    rcases key i x h1 with ⟨a1, e1⟩ | ⟨a1, b1, e1⟩
    · rcases key j x h2 with ⟨a2, e2⟩ | ⟨a2, b2, e2⟩
      · rw [a1, a2]
      · have := congrArg Str.length (e1.symm.trans e2)
        rw [l2, name_len] at this
        omega
    · rcases key j x h2 with ⟨a2, e2⟩ | ⟨a2, b2, e2⟩
      · have := congrArg Str.length (e1.symm.trans e2)
        rw [l2, name_len] at this
        omega
      · exact name_inj (by omega) (by omega) (e1.symm.trans e2)
theorem good_perm {n : Nat} {l m : List Str} (h : GoodN n l) (p : m.Perm l) : GoodN n m := ⟨p.length_eq.trans h.1, fun z hz => h.2.1 z (p.mem_iff.mp hz), p.nodup_iff.mpr h.2.2⟩
abbrev zAbc : Str := Str.ofString "abcdefghijklmnopqrstuvwxyz"
theorem abc_at {i : Nat} (h : i < 26) : zAbc.cps.toList[i]? = some (97 + i) := by
  have : ∀ i : Fin 26, zAbc.cps.toList[i.val]? = some (97 + i.val) := by decide +kernel
  exact this ⟨i, h⟩
theorem front_lit {z : Str} (h : (decide (z.length ≤ 7) && z.cps.toList.all fun c => decide (97 ≤ c ∧ c ≤ 122)) = true) : Front z := by
  obtain ⟨h1, h2⟩ := Bool.and_eq_true_iff.mp h
  exact ⟨of_decide_eq_true h1, fun c hc => of_decide_eq_true (p := 97 ≤ c ∧ c ≤ 122) (List.all_eq_true.mp h2 c hc)⟩
end Gd
/-! {e for a in xs for b in ys}, numbers; len(set(t)). -/
namespace Gd
open PySem PySem.Spec PyProof.Rows L2
/-- the set comprehension with two clauses, no tests -/
abbrev sx (elt t0 i0 t1 i1 : Expr) (sc : Scope) (pos : Pos) : Expr := .SetComp elt [⟨t0, i0, [], 0⟩, ⟨t1, i1, [], 0⟩] sc pos
theorem sx_turn0 (elt t0 i0 t1 i1 : Expr) (sc : Scope) (pos : Pos) (it acc : Value) (env : Env) : compTurn (sx elt t0 i0 t1 i1 sc pos) 0 it acc env = (standAt i0.pos >>= fun _ => pyNext it >>= fun r => match r with
    | none => pure (.done .next)
    | some v => letOwnedTupleGo t0 it v >>= fun _ => assign t0 env v >>= fun _ =>
      (eval i1 env >>= fun x => standAt i1.pos >>= fun _ => foldedSetIterable i1 env x >>= fun x => holding [x] (pyIter x) >>= fun j => runOwn (.compStart (sx elt t0 i0 t1 i1 sc pos) 1 j acc env) env >>= fun _ =>
        again (.compLoop (sx elt t0 i0 t1 i1 sc pos) 0 it acc env))) := by rfl
theorem sx_turn1 (elt t0 i0 t1 i1 : Expr) (sc : Scope) (pos : Pos) (it acc : Value) (env : Env) : compTurn (sx elt t0 i0 t1 i1 sc pos) 1 it acc env = (standAt i1.pos >>= fun _ => pyNext it >>= fun r => match r with
    | none => pure (.done .next)
    | some v => letOwnedTupleGo t1 it v >>= fun _ => assign t1 env v >>= fun _ =>
      (eval elt env >>= fun x => standAt elt.pos >>= fun _ => call (.builtin "set.add") [acc, x] >>= fun _ => pure ()) >>= fun _ =>
        again (.compLoop (sx elt t0 i0 t1 i1 sc pos) 1 it acc env)) := by rfl
section
variable {prog : Program} {w : World} {A : Around} {R : Result → Shared → Prop} {z : Shared} {elt t0 i0 t1 i1 : Expr} {sc : Scope} {pos : Pos} {it acc : Value} {env : Env}
abbrev nB (prog : Program) (w : World) (A : Around) (env : Env) (R : Result → Shared → Prop) : Value → Shared → Prop := notedBy (model prog w) A env fun e y => R (.error e) y
/-- the first clause's loop -/
theorem sx_loop0 (hs : ∀ x, foldedSetIterable i1 env x = pure x) (J : Nat → Shared → Prop)
    (turn : ∀ n y, J n y → wpAny (model prog w) A (pyNext it) (fun r y1 => match r with
      | none => R (.ok .next) y1
      | some v => wpAny (model prog w) A (letOwnedTupleGo t0 it v) (fun _ y2 => wpAny (model prog w) A (assign t0 env v) (fun _ y3 => wpAny (model prog w) A (eval i1 env) (fun x y4 => wpAny (model prog w) A (pyIter x) (fun j y5 =>
          codeAny (model prog w) A (.compStart (sx elt t0 i0 t1 i1 sc pos) 1 j acc env) (fun r y6 => match r with
            | .ok _ => ∃ m, m < n ∧ J m y6
            | .error _ => False) y5) (nB prog w A env R) y4) (nB prog w A env R) y3) (nB prog w A env R) y2) (nB prog w A env R) y1) (nB prog w A env R) y)
    (n : Nat) (h : J n z) : codeAny (model prog w) A (.compLoop (sx elt t0 i0 t1 i1 sc pos) 0 it acc env) R z := by
  refine codeAny_loop rfl J (fun n y hJ => ?_) n h
  show wpAny _ A ((compTurn (sx elt t0 i0 t1 i1 sc pos) 0 it acc env).onRaise (fun x => do noteFrame x env; theTreesLotGoes x)) _ _ y
  refine wpAny_noted ?_
  rw [sx_turn0]
  refine wpAny_bind (wpAny_standAt (wpAny_bind (wpAny_mono (turn n y hJ) (fun r y1 q1 => ?_) fun _ _ e => e)))
  cases r with
  | none => exact wpAny_pure q1
  | some v =>
    refine wpAny_bind (wpAny_mono q1 (fun _ y2 q2 => wpAny_bind (wpAny_mono q2 (fun _ y3 q3 => wpAny_bind (wpAny_mono q3 (fun x y4 q4 => ?_) fun _ _ e => e)) fun _ _ e => e)) fun _ _ e => e)
    refine wpAny_bind (wpAny_standAt (wpAny_bind (wpAny_of_eq (hs x) (wpAny_bind (wpAny_holding (wpAny_mono q4 (fun j y5 q5 => ?_) fun _ _ e => e))))))
    refine wpAny_bind (wpAny_runOwn ?_)
    rw [Around.mark_none]
    refine codeAny_mono q5 fun r y6 hr => ?_
    cases r with
    | error e => exact hr.elim
    | ok f =>
      first
        | exact wpAny_pure ⟨rfl, hr⟩
        | exact wpAny_bind (wpAny_pure (wpAny_pure ⟨rfl, hr⟩))
/-- the second's -/
theorem sx_loop1 (J : Nat → Shared → Prop)
    (turn : ∀ n y, J n y → wpAny (model prog w) A (pyNext it) (fun r y1 => match r with
      | none => R (.ok .next) y1
      | some v => wpAny (model prog w) A (letOwnedTupleGo t1 it v) (fun _ y2 => wpAny (model prog w) A (assign t1 env v) (fun _ y3 => wpAny (model prog w) A (eval elt env) (fun x y4 =>
          wpAny (model prog w) A (call (.builtin "set.add") [acc, x]) (fun _ y5 => ∃ m, m < n ∧ J m y5) (nB prog w A env R) y4) (nB prog w A env R) y3) (nB prog w A env R) y2) (nB prog w A env R) y1) (nB prog w A env R) y)
    (n : Nat) (h : J n z) : codeAny (model prog w) A (.compLoop (sx elt t0 i0 t1 i1 sc pos) 1 it acc env) R z := by
  refine codeAny_loop rfl J (fun n y hJ => ?_) n h
  show wpAny _ A ((compTurn (sx elt t0 i0 t1 i1 sc pos) 1 it acc env).onRaise (fun x => do noteFrame x env; theTreesLotGoes x)) _ _ y
  refine wpAny_noted ?_
  rw [sx_turn1]
  refine wpAny_bind (wpAny_standAt (wpAny_bind (wpAny_mono (turn n y hJ) (fun r y1 q1 => ?_) fun _ _ e => e)))
  cases r with
  | none => exact wpAny_pure q1
  | some v =>
    refine wpAny_bind (wpAny_mono q1 (fun _ y2 q2 => wpAny_bind (wpAny_mono q2 (fun _ y3 q3 => ?_) fun _ _ e => e)) fun _ _ e => e)
    exact wpAny_bind (wpAny_bind (wpAny_mono q3 (fun x y4 q4 => wpAny_bind (wpAny_standAt (wpAny_bind (wpAny_mono q4 (fun _ y5 q5 => wpAny_pure (wpAny_pure ⟨rfl, q5⟩)) fun _ _ e => e)))) fun _ _ e => e))
/-- a clause's start -/
theorem sx_start {d : Nat} {g : Comprehension} (hg : (clausesOf (sx elt t0 i0 t1 i1 sc pos))[d]? = some g) (ha : g.is_async = 0) (h0 : codeAny (model prog w) A (.compLoop (sx elt t0 i0 t1 i1 sc pos) d it acc env) R z)
    (h1 : wpAny (model prog w) A (pyIter it) (fun j y => codeAny (model prog w) A (.compLoop (sx elt t0 i0 t1 i1 sc pos) d j acc env) R y) (notedBy (model prog w) A env fun x y => R (.error x) y) z) :
    codeAny (model prog w) A (.compStart (sx elt t0 i0 t1 i1 sc pos) d it acc env) R z := by
  refine codeAny_of_tree ?_
  show wpAny _ _ ((compStart (sx elt t0 i0 t1 i1 sc pos) d it acc env).onRaise (fun x => do noteFrame x env; standAt theWindowsPlace)) _ _ z
  refine wpAny_notedAt ?_
  unfold compStart
  rw [hg]
  have e0 : (Option.some g).elim false (fun x => x.is_async != 0) = false := by
    show (g.is_async != 0) = false
    rw [ha]
    rfl
  rw [e0]
  show wpAny _ _ (ask >>= _) _ _ z
  refine wpAny_bind (wpAny_askSetting (wpAny_ite ?_))
  split
  · first
      | exact wpAny_bind (wpAny_pure (wpAny_pure (And.intro rfl h0)))
      | exact wpAny_pure (And.intro rfl h0)
  · first
      | exact wpAny_bind (wpAny_rule (wpAny_bind (wpAny_standAt (wpAny_bind (wpAny_mono h1 (fun j y q => wpAny_pure (And.intro rfl q)) fun _ _ e => e)))))
      | (refine wpAny_bind (wpAny_rule ?_); show wpAny _ _ (standAt g.iter.pos >>= _) _ _ z; exact wpAny_bind (wpAny_standAt (wpAny_bind (wpAny_mono h1 (fun j y q => wpAny_pure (And.intro rfl q)) fun _ _ e => e))))
end
theorem fresh_set {prog : Program} {w : World} {A : Around} {E : Value → Shared → Prop} {z : Shared} {Q : Value → Shared → Prop}
    (h : Q (.ref z.heap.objs.size) { z with heap := z.heap.push { cls := .type "set", dict := none, data := .set #[] 0 (.fresh 0 0 (!w.params.followText "set-order")) } }) : wpAny (model prog w) A (newSet (.type "set")) Q E z := by
  unfold newSet
  refine wpAny_bind (wpAny_byText ?_)
  exact wpAny_newObj_type h (by show 0 ≤ _; exact Nat.zero_le _)
/-- the reading: the set at D, kept by W, W1 -/
def tSx (w : World) (wi : TI) (g : TG) (wi1 : TI) (g1 : TG) (te : TE) (vs vs1 : List Nat) : TE := fun σ H Q => wi σ H fun J H1 => ∀ D, H1 D = none → ∃ W : Nat → Nat → Hp → Prop, (∃ m, W 0 m (upd H1 D (SetO w D (fun _ => false) 0))) ∧ ∀ i m G, W i m G →
  (J.stop i G ∧ Q (.ref D) G) ∨ (J.go i G ∧ ∃ N : Hp → Prop, (∀ G', N G' → ∃ n, n < m ∧ W (i + 1) n G') ∧ ∀ x G', J.yld i G x G' → g x (wipe σ vs) G' fun σ2 G2 => wipe σ2 vs = wipe σ vs ∧ wi1 σ2 G2 fun J1 G3 => ∃ W1 : Nat → Nat → Hp → Prop, (∃ m, W1 0 m G3) ∧
    ∀ j k G4, W1 j k G4 → (J1.stop j G4 ∧ N G4) ∨ (J1.go j G4 ∧ ∃ N1 : Hp → Prop, (∀ G', N1 G' → ∃ n, n < k ∧ W1 (j + 1) n G') ∧ ∀ y G', J1.yld j G4 y G' → g1 y (wipe σ2 vs1) G' fun σ3 G5 => wipe σ3 vs1 = wipe σ2 vs1 ∧
      te σ3 G5 fun u G6 => ∃ (k0 : Int) (S : Int → Bool) (c : Nat), u = .int k0 ∧ G6 D = some (SetO w D S c) ∧ c + 1 < scanBound ∧ N1 (upd G6 D (SetO w D (fun a => S a || decide (a = k0)) (if S k0 = true then c else c + 1)))))
section
variable {X : Cx}
theorem pe_sx {elt t0 i0 t1 i1 : Expr} {sc : Scope} {own : List (Str × Nat)} {vs1 : List Nat} {pos : Pos} {wi wi1 : TI} {g g1 : TG} {te : TE} (hc : X.calm = true) (hN : X.N.Nodup) (hi : PI X t0 i0 wi) (ok : BlkOk X.N X.env.scope sc own) (hv : ∀ i ∈ vs1, i ∈ own.map (·.2))
    (hg : ∀ (s : Shared) (H : Hp) (C : Addr) (cl : List (Str × Addr)) (fp : List Addr), PG (X.blk s H sc (compEnvC sc cl C X.env) fp) t0 g) (hi1 : ∀ (s : Shared) (H : Hp) (C : Addr) (cl : List (Str × Addr)) (fp : List Addr), PI (X.blk s H sc (compEnvC sc cl C X.env) fp) t1 i1 wi1)
    (hg1 : ∀ (s : Shared) (H : Hp) (C : Addr) (cl : List (Str × Addr)) (fp : List Addr), PG (X.blk s H sc (compEnvC sc cl C X.env) fp) t1 g1) (he : ∀ (s : Shared) (H : Hp) (C : Addr) (cl : List (Str × Addr)) (fp : List Addr), PE (X.blk s H sc (compEnvC sc cl C X.env) fp) elt te)
    (hs : ∀ x, foldedSetIterable i0 X.env x = pure x := by intro _; rfl) (hs1 : ∀ env x, foldedSetIterable i1 env x = pure x := by intro _ _; rfl) :
    PE X (sx elt t0 i0 t1 i1 sc pos) (tSx X.w wi g wi1 g1 te (own.map (·.2)) vs1) := by
  refine ⟨fun pins s σ H Q I h => ?_⟩
  rw [arm_eval_SetComp]
  have hfree : ∀ y ∈ sc.names, y.2 = .free → ∃ c, X.env.cells.lookup y.1 = some c := fun y hy e => by
    rcases ok.free y hy e with k | k
    · exact I.ok.has _ (.inl k)
    · exact I.ok.has _ (.inr k)
  show wpAny _ _ (comprehension (sx elt t0 i0 t1 i1 sc pos) sc X.env (firstIterPos [⟨t0, i0, [], 0⟩, ⟨t1, i1, [], 0⟩] pos) (newSet (.type "set")) false (eval i0 X.env)) _ _ s
  refine wpAny_comprehension_free (use := none) rfl hs (closure_ok hfree) ok.kind (fun y hy e => by rw [ok.uniq y hy, e])
    (thn (hi.run pins s σ H _ I h) fun xv s1 hx => thn hx fun itv s2 h2 => ?_)
  obtain ⟨it, fp, tn, J, H2, e, I2, T, st2, f2, q⟩ := h2
  subst e
  refine fresh_set (newEnv_comp ?_)
  generalize hD : s2.heap.objs.size = D
  have nD : H2 D = none := I2.hok.fresh (Nat.le_of_eq hD)
  obtain ⟨W, ⟨m0, w0⟩, turn⟩ := q D nD
  have fr := setR_fresh (h := s2.heap) X.w
  rw [hD] at fr
  have big : ∀ b o, s2.heap.get? b = some o → (s2.heap.push { cls := .type "set", dict := none, data := .set #[] 0 (.fresh 0 0 (!X.w.params.followText "set-order")) }).get? b = some o := fun b o e => Heap.get?_push_of_some _ e
  have grow : s2.heap.objs.size < (s2.heap.push { cls := .type "set", dict := none, data := .set #[] 0 (.fresh 0 0 (!X.w.params.followText "set-order")) }).objs.size := by
    rw [Heap.size_push]
    exact Nat.lt_succ_self _
  generalize hp3 : s2.heap.push { cls := .type "set", dict := none, data := .set #[] 0 (.fresh 0 0 (!X.w.params.followText "set-order")) } = p3 at fr big grow ⊢
  generalize hs3 : ({ s2 with heap := p3 } : Shared) = s3
  have h3 : s3.heap = p3 := by rw [← hs3]
  have I3 : Inv X pins σ (upd H2 D (SetO X.w D (fun _ => false) 0)) s3 := by
    rw [← hs3]
    exact I2.laid (t' := s2.toks) big (Nat.le_of_eq hD) (setO_new fr)
  have szf : ∀ b ∈ fp, b < s2.heap.objs.size := fun b hb => by
    obtain ⟨o, e, _⟩ := T.obj _ _ st2 b hb
    exact Heap.lt_size e
  have f3 : ∀ b ∈ fp, FpOk X pins (upd H2 D (SetO X.w D (fun _ => false) 0)) b ∧ b < s3.heap.objs.size := fun b hb => by
    have lt := szf b hb
    refine ⟨⟨?_, (f2 b hb).2⟩, by rw [h3]; exact Nat.lt_trans lt grow⟩
    rw [upd_ne (by rw [← hD]; exact Nat.ne_of_lt lt)]
    exact (f2 b hb).1
  have st3 : tn 0 s3.heap := T.keep _ _ _ st2 fun b _ o e => by rw [h3]; exact big b o e
  have I4 := block_start I3 ok hN f3
  have pg := hg s3 (upd H2 D (SetO X.w D (fun _ => false) 0)) s3.heap.objs.size (cellsFrom (s3.heap.objs.size + 1) sc.names (cloFrom X.env.cells sc.names [])) fp
  have pe := he s3 (upd H2 D (SetO X.w D (fun _ => false) 0)) s3.heap.objs.size (cellsFrom (s3.heap.objs.size + 1) sc.names (cloFrom X.env.cells sc.names [])) fp
  have pj := hi1 s3 (upd H2 D (SetO X.w D (fun _ => false) 0)) s3.heap.objs.size (cellsFrom (s3.heap.objs.size + 1) sc.names (cloFrom X.env.cells sc.names [])) fp
  have ph := hg1 s3 (upd H2 D (SetO X.w D (fun _ => false) 0)) s3.heap.objs.size (cellsFrom (s3.heap.objs.size + 1) sc.names (cloFrom X.env.cells sc.names [])) fp
  have nfp : ∀ b ∈ fp, (upd H2 D (SetO X.w D (fun _ => false) 0)) b = none := fun b hb => (f3 b hb).1.1
  show codeAny _ _ (.compStart (sx elt t0 i0 t1 i1 sc pos) 0 (.ref it) (.ref D) (compEnvC sc (cellsFrom (s3.heap.objs.size + 1) sc.names (cloFrom X.env.cells sc.names [])) s3.heap.objs.size X.env)) (compPost (model X.prog X.w) X.A X.xe none (EP X pins σ Q) (.ref D) s3.heap.objs.size) { s3 with heap := pushCells (s3.heap.push { cls := .type "dict", data := .dict #[] }) sc.names }
  generalize hce : compEnvC sc (cellsFrom (s3.heap.objs.size + 1) sc.names (cloFrom X.env.cells sc.names [])) s3.heap.objs.size X.env = ce at I4 pg pe pj ph ⊢
  have cL : ce.locals = s3.heap.objs.size := by subst hce; rfl
  generalize hH3 : upd H2 D (SetO X.w D (fun _ => false) 0) = H3 at I3 I4 pg pe pj ph w0 nfp f3
  generalize hs4 : ({ s3 with heap := pushCells (s3.heap.push { cls := .type "dict", data := .dict #[] }) sc.names } : Shared) = s4 at I4 ⊢
  have st4 : tn 0 s4.heap := T.keep _ _ _ st3 fun b _ o e => by rw [← hs4]; exact pushCells_keeps _ _ _ _ (Heap.get?_push_of_some _ e)
  have fpk : ∀ {τ : L2.St} {G : Hp} {y : Shared}, Inv (X.blk s3 H3 sc ce fp) [] τ G y → (∀ b ∈ fp, G b = none) → ∀ b ∈ fp, FpOk (X.blk s3 H3 sc ce fp) [] G b := fun {τ G y} K1 nn b hb =>
    ⟨nn b hb, (K1.ok.exf b hb).1, K1.ok.exfs b hb, .inl hb, fun x c e => (K1.ok.exf b hb).2 x c e, fun p hp => absurd (show p ∈ ([] : List (Addr × Obj)) ++ [] from hp) (by simp)⟩
  have loop : codeAny (model X.prog X.w) X.A (.compLoop (sx elt t0 i0 t1 i1 sc pos) 0 (.ref it) (.ref D) ce) (compPost (model X.prog X.w) X.A X.xe none (EP X pins σ Q) (.ref D) s3.heap.objs.size) s4 := by
    refine sx_loop0 (hs1 ce) (fun n y => ∃ i G, Inv (X.blk s3 H3 sc ce fp) [] (wipe σ (own.map (·.2))) G y ∧ tn i y.heap ∧ (∀ b ∈ fp, G b = none) ∧ W i n G) ?_ m0 ⟨0, H3, I4, st4, nfp, w0⟩
    rintro n s5 ⟨i, H5, I5, st5, n5, w5⟩
    rcases turn i n H5 w5 with ⟨stop, fin⟩ | ⟨go, N, hN2, step⟩
    · refine thnF (T.done (X.blk s3 H3 sc ce fp) rfl rfl rfl hc i [] s5 _ H5 (fun _ _ => False) I5 (fpk I5 n5) st5 stop) fun r s6 ⟨hr, I6⟩ => ?_
      subst hr
      have I7 : Inv X pins σ H5 s6 := I3.call' (ch := fp) I6.os I6.base I6.hok I6.bare fun b hb => ⟨(f3 b hb).1.2.2.2.1, (f3 b hb).1.2.1, (f3 b hb).1.2.2.2.2.1, (f3 b hb).1.2.2.2.2.2⟩
      have nC : H5 s3.heap.objs.size = none := by
        have z : H5 ce.locals = none := I6.free
        rw [cL] at z
        exact z
      obtain ⟨m, hm, _⟩ := I6.loc
      have hm : s6.heap.Ns ce.locals m := hm
      rw [cL] at hm
      obtain ⟨g0, g1', g2, g3, g4, g5⟩ := I3.fpOk (Nat.le_refl _) nC
      exact ⟨m, hm, fun h'' sb => ⟨.ref D, H5, I7.turned (t' := s6.toks) (fun b o hb e => (sb.2 b hb).trans e) g0 g1' g3 g4 g5, rfl, fin⟩⟩
    · refine thnF (T.item (X.blk s3 H3 sc ce fp) rfl rfl rfl hc i [] s5 _ H5 (fun _ _ => False) I5 (fpk I5 n5) st5 go) fun r s6 ⟨u, hr, h6⟩ => ?_
      subst hr
      refine thnF h6 fun _ s7 ⟨x, H7, I7, r7, y7, st7, n7⟩ => ?_
      have I7' := I7.pinned (fpk I7 n7) (T.obj _ _ st7)
      refine thnF (pg.run _ s7 _ H7 x u _ I7' r7 (step x H7 y7)) fun _ s8 ⟨σ8, H8, I8, hw8, q8⟩ => ?_
      have back : ∀ {τ : L2.St} {y : Shared} {G : Hp}, Inv (X.blk s3 H3 sc ce fp) ([] ++ pinsAt fp s7.heap) τ G y → (wipe σ (own.map (·.2))).length = τ.length → (∀ (j : Nat) v, (wipe σ (own.map (·.2)))[j]? = some (some v) → τ[j]? = some (some v)) → N G →
          ∃ m, m < n ∧ ∃ i G, Inv (X.blk s3 H3 sc ce fp) [] (wipe σ (own.map (·.2))) G y ∧ tn i y.heap ∧ (∀ b ∈ fp, G b = none) ∧ W i m G := fun {τ y G} K1 hl hk nx => by
        obtain ⟨m', hm, w'⟩ := hN2 G nx
        have pin : ∀ b ∈ fp, ∀ o, s7.heap.get? b = some o → y.heap.get? b = some o ∧ G b = none := fun b hb o e =>
          let z := K1.pin (b, o) (List.mem_append_right _ (List.mem_append_right _ (mem_pinsAt hb e)))
          ⟨z.1, z.2.1⟩
        refine ⟨m', hm, i + 1, G, (K1.unpinned (pins := [])).weak hl hk, T.keep _ _ _ st7 fun b hb o e => (pin b hb o e).1, fun b hb => ?_, w'⟩
        obtain ⟨o, e, _⟩ := T.obj _ _ st7 b hb
        exact (pin b hb o e).2
      have hl8 : (wipe σ (own.map (·.2))).length = σ8.length := by rw [← hw8, wipe_length]
      have hk9 : ∀ (j : Nat) v, (wipe σ (own.map (·.2)))[j]? = some (some v) → (wipe σ8 vs1)[j]? = some (some v) := fun j v e => by
        rw [← hw8] at e
        obtain ⟨e1, e2⟩ := wipe_some e
        rw [wipe_out fun z => e2 (hv j z)]
        exact e1
      refine thnF (pj.run _ s8 σ8 H8 _ I8 q8) fun xv s10 hx => thnF hx fun itv s11 h11 => ?_
      obtain ⟨it1, fp1, tn1, J1, H11, e1, I11, T1, st11, f11, W1, ⟨m1, w1⟩, turn1⟩ := h11
      subst e1
      have fpk1 : ∀ {G : Hp}, (∀ b ∈ fp1, G b = none) → ∀ b ∈ fp1, FpOk (X.blk s3 H3 sc ce fp) ([] ++ pinsAt fp s7.heap) G b := fun nn b hb => ⟨nn b hb, (f11 b hb).2⟩
      have loop1 : codeAny (model X.prog X.w) X.A (.compLoop (sx elt t0 i0 t1 i1 sc pos) 1 (.ref it1) (.ref D) ce)
          (fun r y => match r with
            | .ok _ => ∃ m, m < n ∧ ∃ i G, Inv (X.blk s3 H3 sc ce fp) [] (wipe σ (own.map (·.2))) G y ∧ tn i y.heap ∧ (∀ b ∈ fp, G b = none) ∧ W i m G
            | .error _ => False) s11 := by
        refine sx_loop1 (fun k y => ∃ j G, Inv (X.blk s3 H3 sc ce fp) ([] ++ pinsAt fp s7.heap) (wipe σ8 vs1) G y ∧ tn1 j y.heap ∧ (∀ b ∈ fp1, G b = none) ∧ W1 j k G) ?_ m1 ⟨0, H11, I11.weak (wipe_length _ _) (fun j v e => (wipe_some e).1), st11, fun b hb => (f11 b hb).1, w1⟩
        rintro k s12 ⟨j, H12, I12, st12, n12, w12⟩
        rcases turn1 j k H12 w12 with ⟨stop1, nx1⟩ | ⟨go1, N1, hN1, step1⟩
        · refine thnF (T1.done (X.blk s3 H3 sc ce fp) rfl rfl rfl hc j _ s12 (wipe σ8 vs1) H12 (fun _ _ => False) I12 (fpk1 n12) st12 stop1) fun r s13 ⟨hr, I13⟩ => ?_
          subst hr
          exact back I13 (hl8.trans (wipe_length σ8 vs1).symm) hk9 nx1
        · refine thnF (T1.item (X.blk s3 H3 sc ce fp) rfl rfl rfl hc j _ s12 (wipe σ8 vs1) H12 (fun _ _ => False) I12 (fpk1 n12) st12 go1) fun r s13 ⟨u1, hr, h13⟩ => ?_
          subst hr
          refine thnF h13 fun _ s14 ⟨x1, H14, I14, r14, y14, st14, n14⟩ => ?_
          have I14' := I14.pinned (fpk1 n14) (T1.obj _ _ st14)
          refine thnF (ph.run _ s14 (wipe σ8 vs1) H14 x1 u1 _ I14' r14 (step1 x1 H14 y14)) fun _ s15 ⟨σ15, H15, I15, hw15, q15⟩ => ?_
          refine thnF (pe.run _ s15 σ15 H15 _ I15 q15) fun uv s17 ⟨yv, H17, I17, r17, k0, S, c, ey, hD17, room, nx⟩ => ?_
          subst ey
          refine thnF (mt_sadd (X := X.blk s3 H3 sc ce fp) _ s17 σ15 H17 (.ref D) [.int k0] _ [uv] (fun _ G => N1 G) I17 rfl (.cons r17 .nil) ⟨D, k0, S, c, rfl, rfl, hD17, room, nx⟩) fun _ s18 ⟨_, H18, I18, _, nx18⟩ => ?_
          obtain ⟨m', hm, w'⟩ := hN1 H18 nx18
          have pin : ∀ b ∈ fp1, ∀ o, s14.heap.get? b = some o → s18.heap.get? b = some o ∧ H18 b = none := fun b hb o e =>
            let z := I18.pin (b, o) (List.mem_append_right _ (List.mem_append_right _ (mem_pinsAt hb e)))
            ⟨z.1, z.2.1⟩
          refine ⟨m', hm, j + 1, H18, I18.unpinned.weak (by rw [← hw15, wipe_length]) (fun j v e => by rw [← hw15] at e; exact (wipe_some e).1), T1.keep _ _ _ st14 fun b hb o e => (pin b hb o e).1, fun b hb => ?_, w'⟩
          obtain ⟨o, e, _⟩ := T1.obj _ _ st14 b hb
          exact (pin b hb o e).2
      exact sx_start (d := 1) rfl rfl loop1 (T1.self X.A 0 _ _ _ st11 loop1)
  exact sx_start (d := 0) rfl rfl loop (T.self X.A 0 _ _ _ st4 loop)
end
end Gd
namespace Gd
open PySem PySem.Spec PyProof.Rows L2
theorem perm_sub : ∀ {ks ns : List Int}, ks.Nodup → (∀ x ∈ ks, x ∈ ns) → ks.length ≤ ns.length ∧ (ks.length = ns.length → ns.Perm ks)
  | [], ns, _, _ => ⟨Nat.zero_le _, fun e => by
    rw [List.length_nil] at e
    rw [List.eq_nil_of_length_eq_zero e.symm]⟩
  | x :: r, ns, n, h => by
    obtain ⟨n1, n2⟩ := List.nodup_cons.mp n
    have hx := h x List.mem_cons_self
    have p := List.perm_cons_erase hx
    have hl := List.length_erase_of_mem hx
    have hp := List.length_pos_of_mem hx
    obtain ⟨i1, i2⟩ := perm_sub (ns := ns.erase x) n2 fun y hy => by
      have hy2 := h y (List.mem_cons_of_mem _ hy)
      have ne : y ≠ x := fun e => n1 (e ▸ hy)
      exact (List.mem_erase_of_ne ne).mpr hy2
    refine ⟨by rw [List.length_cons]; omega, fun e => ?_⟩
    rw [List.length_cons] at e
    exact p.trans ((i2 (by omega)).cons x)
theorem count_nd {ks ns : List Int} (n : ks.Nodup) (h : ∀ x, x ∈ ks ↔ x ∈ ns) : ks.length ≤ ns.length ∧ (ks.length = ns.length ↔ ns.Nodup) := by
  obtain ⟨h1, h2⟩ := perm_sub n fun x hx => (h x).mp hx
  refine ⟨h1, fun e => ?_, fun d => ?_⟩
  · exact ((h2 e).nodup_iff).mpr n
  · have := (perm_sub d fun x hx => (h x).mpr hx).1
    omega
def tLenSetT (K : PySem.W.Frag) (ta : TE) : TE := fun σ H Q => ta σ H fun x G => ∃ (l : Addr) (ns : List Int), x = .ref l ∧ SqT K G l (ns.map V.int) ∧ ns.length ≤ 1000 ∧ ∀ c : Nat, c ≤ ns.length → (c = ns.length ↔ ns.Nodup) → Q (.int (c : Nat)) G
/-- len(set(t)), t a tuple of ints -/
theorem pe_lenSetT {X : Cx} {a : Expr} {ta : TE} {p p2 q pos : Pos} (hg : Gl X "len") (hm : X.mg "len" = none) (hg2 : Gl X "set") (hm2 : X.mg "set" = none) (ha : PE X a ta) (hc : X.calm = true := by rfl)
    (na : starEach [a] X.env = (false, eval a X.env) :: starEach [] X.env := by rfl) : PE X (.Call (.Name "len" p) [.Call (.Name "set" p2) [a] [] q] [] pos) (tLenSetT X.K ta) := by
  refine ⟨fun pins s σ H Q I h => ?_⟩
  refine Call_ (ld_blt I hg hm boot_len (PyProof.Rows.callWith_builtin1 (PyProof.Rows.args_cons ?_ rfl) rfl rfl))
  refine Call_ (ld_blt I hg2 hm2 boot_set (PyProof.Rows.callWith_type1 (PyProof.Rows.args_cons (thn (ha.run pins s σ H _ I h) fun v y ⟨x, G, J, rx, l, ns, ex, hq, hl, fin⟩ => PyProof.Rows.args_nil ?_) na) na rfl))
  subst ex
  cases rx
  obtain ⟨its, r, pl, _⟩ := J.tuple hq
  refine call_set_tupI (P := X.prog) (w := X.w) ns (J.ok.hd hc) (show y.heap.IsTuple l its.toArray from pl) (by simpa using intsAre_of r) (by unfold scanBound; omega) fun g tk c hS _ hk => ?_
  refine PyProof.Rows.args_nil ?_
  obtain ⟨o, es, ep, t, ho, hex, hd, _, hn, hS2, _, hf, hz, _⟩ := hS
  have K2 : Inv X pins σ G { y with heap := g, toks := tk } := J.kept hk
  have cnt := count_nd (ks := es.toList.map keyOf) (ns := ns) hn fun x => by
    have := hS2 x
    rw [decide_eq_true_eq] at this
    exact this.symm
  rw [List.length_map, Array.length_toList, hz] at cnt
  exact call_len_set ho hex hd hf (by rw [hz] <;> omega) ⟨.int c, G, K2.tok _, ⟨_, by rw [hz]⟩, fin c cnt.1 cnt.2⟩
/-- a walk over a tuple, whatever its turn is -/
theorem w_tup {K : PySem.W.Frag} {a : Addr} {xs : List V} {Body : Nat → V → Hp → (Hp → Prop) → Prop} {Q : Hp → Prop} {H0 : Hp} (Pv : Nat → Hp → Prop) (h0 : Pv 0 H0) (stay : ∀ i G, i ≤ xs.length → Pv i G → SqT K G a xs)
    (hs : ∀ i x G, xs[i]? = some x → Pv i G → Body i x G (Pv (i + 1))) (hd : ∀ G, Pv xs.length G → Q G) :
    ∃ W : Nat → Nat → Hp → Prop, (∃ m, W 0 m H0) ∧ ∀ i m G, W i m G → ((Itt K a).stop i G ∧ Q G) ∨ ((Itt K a).go i G ∧ ∃ N : Hp → Prop, (∀ G', N G' → ∃ n, n < m ∧ W (i + 1) n G') ∧ ∀ x G', (Itt K a).yld i G x G' → Body i x G' N) := by
  refine ⟨fun i m G => m = xs.length - i ∧ i ≤ xs.length ∧ Pv i G, ⟨_, rfl, Nat.zero_le _, h0⟩, fun i m G hw => ?_⟩
  obtain ⟨rfl, hi, hp⟩ := hw
  have hq := stay i G hi hp
  by_cases hlt : i < xs.length
  · refine .inr ⟨⟨xs, xs[i], hq, List.getElem?_eq_getElem hlt⟩, Pv (i + 1), fun G' hp' => ⟨_, by omega, rfl, hlt, hp'⟩, fun x G' hy => ?_⟩
    obtain ⟨rfl, hx⟩ := hy
    exact hs i x _ (hx xs hq) hp
  · have e : i = xs.length := by omega
    subst e
    exact .inl ⟨⟨xs, hq, Nat.le_refl _⟩, hd G hp⟩
/-- the set at D holds just ks -/
def SetL (w : World) (G : Hp) (D : Addr) (ks : List Int) : Prop := ks.Nodup ∧ ∃ S : Int → Bool, (∀ k, S k = true ↔ k ∈ ks) ∧ G D = some (SetO w D S ks.length)
theorem SetL.add {w : World} {G : Hp} {D : Addr} {ks : List Int} {S : Int → Bool} (n : ks.Nodup) (h : ∀ k, S k = true ↔ k ∈ ks) (k0 : Int) :
    SetL w (upd G D (SetO w D (fun a => S a || decide (a = k0)) (if S k0 = true then ks.length else ks.length + 1))) D (if k0 ∈ ks then ks else ks ++ [k0]) := by
  by_cases m : k0 ∈ ks
  · rw [if_pos m, if_pos ((h k0).mpr m)]
    refine ⟨n, _, fun k => ?_, upd_same⟩
    rw [Bool.or_eq_true, h, decide_eq_true_iff]
    exact ⟨fun z => z.elim id fun e => e ▸ m, .inl⟩
  · rw [if_neg m, if_neg fun z => m ((h k0).mp z)]
    refine ⟨?_, _, fun k => ?_, by rw [upd_same, List.length_append]; rfl⟩
    · refine List.nodup_append.mpr ⟨n, by simp, fun x hx y hy => ?_⟩
      rw [List.mem_singleton] at hy
      rw [hy]
      exact fun e => m (e ▸ hx)
    · rw [Bool.or_eq_true, h, decide_eq_true_iff, List.mem_append, List.mem_singleton]
theorem nd_bound {ks : List Int} {n : Nat} (h : ks.Nodup) (b : ∀ k ∈ ks, 0 ≤ k ∧ k < (n : Int)) : ks.length ≤ n := by
  have := (perm_sub (ns := (List.range n).map fun i : Nat => (i : Int)) h fun x hx => ?_).1
  · rw [List.length_map, List.length_range] at this
    exact this
  · obtain ⟨h0, h1⟩ := b x hx
    obtain ⟨j, rfl⟩ := Int.eq_ofNat_of_zero_le h0
    exact List.mem_map.mpr ⟨j, List.mem_range.mpr (by omega), rfl⟩
theorem asc_same {a b : List Int} (ha : AscI a) (hb : AscI b) (h : ∀ x, x ∈ a ↔ x ∈ b) : a = b :=
  sorted_same (ha.imp fun h => Int.le_of_lt h) (hb.imp fun h => Int.le_of_lt h) (ha.imp fun h => Int.ne_of_lt h) (hb.imp fun h => Int.ne_of_lt h) h
end Gd
/-! What gives data, and tests by repr that it is as is due. -/
namespace Gd
open PySem PySem.Spec PyProof.Rows L2
/-- t gives the data d, and all stands as before -/
def Gv (K : PySem.W.Frag) (σ : L2.St) (H : Hp) (t : TE) (d : PyData) : Prop := ∀ Q : VK, (∀ v G, Same H G → Dp K G v d → Q v G) → t σ H Q
/-- plain data that repr and == serve -/
structure Fd (d : PyData) : Prop where
  f : fine d = true
  dp : d.depth ≤ 60
  c : costD d ≤ sizeLine
theorem Fd.sh {d : PyData} (h : Fd d) : SeqAt.shaped d = true := fine_shaped h.f h.dp
abbrev rReprF (K : PySem.W.Frag) : List V → Hp → VK → Prop := fun xs H Q => ∃ a d, xs = [.ref a] ∧ Dp K H (.ref a) d ∧ fine d = true ∧ d.depth ≤ 60 ∧ costD d ≤ sizeLine ∧ Q (.str d.shown) H
abbrev tRe (K : PySem.W.Frag) (t : TE) : TE := tCB (rReprF K) (tCons t tNil)
theorem re_gv {K : PySem.W.Frag} {σ : L2.St} {H : Hp} {t : TE} {ds : List PyData} (hd : Fd (.tuple ds)) (h : Gv K σ H t (.tuple ds)) (Q : VK) (q : ∀ G, Same H G → Q (.str (PyData.tuple ds).shown) G) : tRe K t σ H Q := by
  refine h _ fun v G s dv => ?_
  cases dv with
  | tup hs ha => exact ⟨_, _, rfl, .tup hs ha, hd.f, hd.dp, hd.c, q G s⟩
/-- repr(a) != repr(b), both as is due -/
theorem re_no {K : PySem.W.Frag} {σ : L2.St} {H : Hp} {t1 t2 : TE} {ds : List PyData} (hd : Fd (.tuple ds)) (h1 : Gv K σ H t1 (.tuple ds)) (h2 : ∀ G, Same H G → Gv K σ G t2 (.tuple ds)) {B : Bool → Hp → Prop} (hB : ∀ G, Same H G → B false G) :
    tTest (tOp rNe (tRe K t1) (tRe K t2)) σ H B := by
  refine re_gv hd h1 _ fun G1 s1 => re_gv hd (h2 G1 s1) _ fun G2 s2 => ⟨rfl, _, rfl, ?_⟩
  rw [decide_eq_true rfl]
  exact hB _ (s1.trans s2)
/-- a != b, both as is due -/
theorem ne_no {K : PySem.W.Frag} {σ : L2.St} {H : Hp} {t1 t2 : TE} {d : PyData} (nl : noList d = true) (hd : Fd d) (h1 : Gv K σ H t1 d) (h2 : ∀ G, Same H G → Gv K σ G t2 d) {B : Bool → Hp → Prop} (hB : ∀ G, Same H G → B false G) :
    tTest (tOp (rNeD K) t1 t2) σ H B := by
  refine h1 _ fun v1 G1 s1 d1 => h2 G1 s1 _ fun v2 G2 s2 d2 => ⟨d, d, dp_same s2 _ _ d1, d2, hd.sh, hd.sh, _, rfl, ?_⟩
  rw [fine_eqv hd.f]
  exact hB _ (s1.trans s2)
/-- repr(a) != repr(b) or c != e, all as is due -/
theorem re_ne_no {K : PySem.W.Frag} {σ : L2.St} {H : Hp} {t1 t2 t3 t4 : TE} {ds : List PyData} (nl : noList (.tuple ds) = true) (hd : Fd (.tuple ds)) (h1 : Gv K σ H t1 (.tuple ds)) (h2 : ∀ G, Same H G → Gv K σ G t2 (.tuple ds)) (h3 : ∀ G, Same H G → Gv K σ G t3 (.tuple ds)) (h4 : ∀ G, Same H G → Gv K σ G t4 (.tuple ds))
    {B : Bool → Hp → Prop} (hB : ∀ G, Same H G → B false G) : tOr (tTest (tOp rNe (tRe K t1) (tRe K t2))) (tTest (tOp (rNeD K) t3 t4)) σ H B := by
  refine re_no hd h1 h2 fun G1 s1 => iteF ?_
  exact ne_no nl hd (h3 G1 s1) (fun G s => h4 G (s1.trans s)) fun G2 s2 => hB _ (s1.trans s2)
theorem gv_var {K : PySem.W.Frag} {σ : L2.St} {H : Hp} {i : Nat} {v : V} {d : PyData} (h : σ[i]? = some (some v)) (dv : Dp K H v d) : Gv K σ H (tVar i) d := fun Q q => ⟨v, h, q _ _ (Same.refl _) dv⟩
theorem ints_fd {l : List Int} (h : ∀ x ∈ l, x.natAbs < 10 ^ 9) (hl : l.length ≤ 1000) : Fd (.tuple (l.map .int)) := let ⟨a, b, c⟩ := ints_fine h hl; ⟨a, b, c⟩
/-- repr of a bool -/
theorem call_reprB {X : Cx} : CallR X (.builtin "repr") (fun xs H Q => ∃ b, xs = [.bl b] ∧ Q (.str (if b then "True" else "False")) H) := by
  intro pins s σ H xs us Q I r h
  obtain ⟨b, rfl, q⟩ := h
  obtain ⟨u, rfl, ru⟩ := vals1 r
  cases ru
  exact PySem.P.repr_of_bool ⟨.str _, H, I.tok _, ⟨_, rfl⟩, q⟩
/-- the law's rows of truths -/
structure TrsAt (H : Hp) (a : Addr) (rs : List Addr) (tl kl : Nat) (acc : Nat → Int → Bool) : Prop where
  top : H a = some (.lst (rs.map V.ref))
  len : rs.length = tl
  row : ∀ i r, rs[i]? = some r → H r = some (.lst ((List.range kl).map fun k : Nat => V.bl (acc i (k : Int))))
theorem TrsAt.same {H G : Hp} {a : Addr} {rs : List Addr} {tl kl : Nat} {acc : Nat → Int → Bool} (d : TrsAt H a rs tl kl acc) (s : Same H G) : TrsAt G a rs tl kl acc := ⟨s _ _ d.top, d.len, fun i r e => s _ _ (d.row i r e)⟩
theorem TrsAt.but {h l : Addr} {H G : Hp} {a : Addr} {rs : List Addr} {tl kl : Nat} {acc : Nat → Int → Bool} (d : TrsAt H a rs tl kl acc) (b : But h l H G) (n : ∀ x ∈ a :: rs, x ≠ h ∧ x ≠ l) : TrsAt G a rs tl kl acc :=
  ⟨b _ _ (n a List.mem_cons_self).1 (n a List.mem_cons_self).2 d.top, d.len, fun i r e => let m := n r (List.mem_cons_of_mem _ (List.mem_of_getElem? e)); b _ _ m.1 m.2 (d.row i r e)⟩
/-- truths[at][kind] -/
theorem trs_ix {K : PySem.W.Frag} {H : Hp} {a : Addr} {rs : List Addr} {tl kl : Nat} {acc : Nat → Int → Bool} (d : TrsAt H a rs tl kl acc) {i k : Nat} (hi : i < tl) (hk : k < kl) : ∃ r, SqL K H a (rs.map V.ref) ∧ (rs.map V.ref)[i]? = some (.ref r) ∧
    SqL K H r ((List.range kl).map fun k : Nat => V.bl (acc i (k : Int))) ∧ ((List.range kl).map fun k : Nat => V.bl (acc i (k : Int)))[k]? = some (.bl (acc i (k : Int))) := by
  have hl : i < rs.length := by rw [d.len]; exact hi
  refine ⟨rs[i], sqL d.top, ?_, sqL (d.row i _ (List.getElem?_eq_getElem hl)), ?_⟩
  · rw [List.getElem?_map, List.getElem?_eq_getElem hl]
    rfl
  · rw [List.getElem?_map, List.getElem?_range hk]
    rfl
end Gd
/-! What all laws share further: calls by keywords, tuples joined and cut, displays of data. -/
namespace Gd
open PySem PySem.Spec PyProof.Rows L2
section
variable {X : Cx} {CX : CXT} {k : Nat} {f : Addr} {fd : FuncData} {ps ks : List Str} {sp : Sp} {E : XK} {x : Str} {p pos : Pos} {e : Expr} {es : List Expr} {kws : List Keyword} {t tk : TA}
/-- f(k = v, ..), f may raise, but not here -/
theorem pe_kwP {g : List Value → List Value} {gV : List V → List V} (F : FnOk X.prog X.w X.K X.mg X.base CX k f fd ps sp) (hr : Room k X.A) (hg : Gl X x) (hm : X.mg x = some (.ref f)) (hk : PySem.W.keepIn X.K (.ref f) = true)
    (hb : KwB fd ps ks g) (hx : Passes CX X E) (hv : ∀ {zs : List V} {ws : List Value}, zs.length = ks.length → Vals zs ws → Vals (gV zs) (g ws)) (hkw : PK X kws tk)
    (h1 : (backToKw pos (keywordEach kws X.env)).all (·.1.isSome) = true := by rfl) (h2 : (backToKw pos (keywordEach kws X.env)).filterMap (·.1) = ks := by rfl) (h3 : (x == ("__debug__" : Str)) = false := by decide)
    (h4 : ((backTo pos (starEach [] X.env)).any (·.1) || (backToKw pos (keywordEach kws X.env)).any (·.1.isNone)) = false := by rfl) :
    PE X (.Call (.Name x p) [] kws pos) (tKw ks.length sp gV E tk) := by
  refine ⟨fun pins s σ H Q I h => wpAny_Call_Name_kw (ld_glob I hg hm (PySem.W.callWith_KW0 (h₀ := X.base) I.ok.mod.kin hk h1 ?_ h4) h3)⟩
  refine thn (hkw.run pos pins s σ H _ I h) fun ws s2 ⟨zs, H2, I2, rz, l, q⟩ => ⟨I2.kIn, ?_⟩
  rw [h2]
  have r2 := hv l rz
  refine wpAny_call (codeAny_mono (F.run X.A X.stack s2 H2 ⟨[], ks.zip ws⟩ (g ws) (gV zs) Q E hr I2.env0 (hb s2 ws (rz.length.symm.trans l)) r2 q) fun r s' hq => ?_)
  cases r with
  | error e => exact hx pins σ H2 s2 e s' I2 hq
  | ok fl =>
    cases fl with
    | ret u => exact I2.after hq
    | next => exact False.elim hq
    | brk => exact False.elim hq
    | cont => exact False.elim hq
end
theorem cat_to {K : PySem.W.Frag} {H : Hp} {a b : Addr} {xs ys : List V} {Q : VK} (ha : SqT K H a xs) (hb : SqT K H b ys) (hl : xs.length + ys.length ≤ 5000) (q : ∀ G r, Same H G → SqT K G r (xs ++ ys) → Q (.ref r) G) : rCatA K (.ref a) (.ref b) H Q := by
  refine ⟨a, b, xs, ys, rfl, rfl, ha, hb, by rw [sizeLine_eq]; omega, fun e => ?_, fun _ e => ?_, fun _ _ p np => q _ p (same_new np) (sqT upd_same)⟩
  · subst e
    exact q H b (Same.refl _) hb
  · subst e
    exact q H a (Same.refl _) (by rw [List.append_nil]; exact ha)
theorem slA_to {K : PySem.W.Frag} {H : Hp} {a : Addr} {xs : List V} {lo hi : Option Int} {Q : VK} (ha : SqT K H a xs) (q : ∀ G r, Same H G → SqT K G r (cutV xs lo hi) → Q (.ref r) G) : rSlA K (.ref a) lo hi H Q := by
  refine ⟨a, xs, rfl, ha, fun ⟨e1, e2⟩ => ?_, fun _ p np => q _ p (same_new np) (sqT upd_same)⟩
  refine q H a (Same.refl _) ?_
  have e : cutV xs lo hi = xs := by
    unfold cutV
    rw [e1, e2, List.drop_zero, Nat.sub_zero, List.take_of_length_le (Nat.le_refl _)]
  rw [e]
  exact ha
theorem cut_to {xs : List V} {n : Nat} (h : n ≤ xs.length) : cutV xs none (some (n : Int)) = xs.take n := by
  unfold cutV
  rw [HT.sIx_none, HT.sIx_nat, List.drop_zero, Nat.sub_zero, Nat.min_eq_left h]
theorem cut_from {xs : List V} {n : Nat} (h : n ≤ xs.length) : cutV xs (some (n : Int)) none = xs.drop n := by
  unfold cutV
  rw [HT.sIx_none, HT.sIx_nat, Nat.min_eq_left h, List.take_of_length_le (by rw [List.length_drop]; exact Nat.le_refl _)]
theorem paired_take {α β : Type} {R : α → β → Prop} : ∀ {xs : List α} {ys : List β} (n : Nat), Paired R xs ys → Paired R (xs.take n) (ys.take n)
  | _, _, 0, _ => .nil
  | _, _, n + 1, .nil => .nil
  | _, _, n + 1, .cons a t => .cons a (paired_take n t)
theorem paired_drop {α β : Type} {R : α → β → Prop} : ∀ {xs : List α} {ys : List β} (n : Nat), Paired R xs ys → Paired R (xs.drop n) (ys.drop n)
  | _, _, 0, h => h
  | _, _, n + 1, .nil => .nil
  | _, _, n + 1, .cons a t => paired_drop n t
theorem paired_app {α β : Type} {R : α → β → Prop} : ∀ {xs : List α} {ys : List β} {us : List α} {ws : List β}, Paired R xs ys → Paired R us ws → Paired R (xs ++ us) (ys ++ ws)
  | _, _, _, _, .nil, h => h
  | _, _, _, _, .cons a t, h => .cons a (paired_app t h)
theorem perm_pop {L M : List Int} {k : Nat} {y : Int} (h : L[k]? = some y) : (L.eraseIdx k ++ (M ++ [y])).Perm (L ++ M) := by
  obtain ⟨hk, e⟩ := List.getElem?_eq_some_iff.mp h
  have p1 : (y :: L.eraseIdx k).Perm L := by
    have e2 : L = L.take k ++ y :: L.drop (k + 1) := by
      rw [← e, ← List.drop_eq_getElem_cons hk, List.take_append_drop]
    rw [List.eraseIdx_eq_take_drop_succ]
    refine List.Perm.trans ?_ (List.Perm.of_eq e2.symm)
    exact List.perm_middle.symm
  have p2 : (L.eraseIdx k ++ (M ++ [y])).Perm (y :: (L.eraseIdx k ++ M)) := by
    rw [← List.append_assoc]
    exact List.perm_append_singleton _ _
  exact p2.trans (p1.append_right M)
theorem erase_map (l : List Int) (k : Nat) : (l.map V.int).eraseIdx k = (l.eraseIdx k).map V.int := by
  rw [List.eraseIdx_eq_take_drop_succ, List.eraseIdx_eq_take_drop_succ, List.map_append, List.map_take, List.map_drop]
/-- the arguments give the data ds, and all stands as before -/
def GvA (K : PySem.W.Frag) (σ : L2.St) (H : Hp) (t : TA) (ds : List PyData) : Prop := ∀ Q : List V → Hp → Prop, (∀ vs G, Same H G → DpAll K G vs ds → Q vs G) → t σ H Q
theorem gvA_nil {K : PySem.W.Frag} {σ : L2.St} {H : Hp} : GvA K σ H tNil [] := fun Q q => q _ _ (Same.refl _) .nil
theorem gvA_cons {K : PySem.W.Frag} {σ : L2.St} {H : Hp} {t : TE} {ta : TA} {d : PyData} {ds : List PyData} (h1 : Gv K σ H t d) (h2 : ∀ G, Same H G → GvA K σ G ta ds) : GvA K σ H (tCons t ta) (d :: ds) := fun Q q =>
  h1 _ fun v G s dv => h2 G s _ fun vs G2 s2 dvs => q _ _ (s.trans s2) (.cons (dp_same s2 _ _ dv) dvs)
theorem gv_tup {K : PySem.W.Frag} {σ : L2.St} {H : Hp} {ta : TA} {ds : List PyData} (h : GvA K σ H ta ds) (l : Nat.ble ds.length 1000 = true := by rfl) : Gv K σ H (tTup ta) (.tuple ds) := fun Q q =>
  h _ fun vs G s dvs => ⟨by have := Nat.le_of_ble_eq_true l; rw [dpAll_len dvs, sizeLine_eq]; omega, fun p np => q _ _ (s.trans (same_new np)) (.tup (sqT upd_same) (dpAll_same (same_new np) _ _ dvs))⟩
theorem gv_int {K : PySem.W.Frag} {σ : L2.St} {H : Hp} {i : Int} : Gv K σ H (tC (.int i)) (.int i) := fun Q q => q _ _ (Same.refl _) (.int i)
theorem gv_str {K : PySem.W.Frag} {σ : L2.St} {H : Hp} {z : Str} : Gv K σ H (tC (.str z)) (.str z) := fun Q q => q _ _ (Same.refl _) (.str z)
theorem gv_tup0 {K : PySem.W.Frag} {σ : L2.St} {H : Hp} : Gv K σ H (tTup tNil) (.tuple []) := gv_tup gvA_nil
end Gd
namespace K6
open PySem PySem.Spec PyProof.Rows L2 Gd
def topS (i : Nat) : Stmt := PySem.Challenge.pw_neverregret_k60_whole_journals_cut_anywh.main.body.getD i (.Pass ⟨0, 0, 0, 0⟩)
abbrev s_Refused_init : Stmt := inClass (topS 2) 0
abbrev n_Refused_init : List Str := ["self", "word"]
theorem sc_Refused_init : FnScope n_Refused_init ["self", "word"] (defScope s_Refused_init) := ⟨rfl, rfl, rfl, by decide +kernel, rfl, by decide +kernel, by decide +kernel⟩
abbrev s_Broken_init : Stmt := inClass (topS 3) 0
abbrev n_Broken_init : List Str := ["self", "word"]
theorem sc_Broken_init : FnScope n_Broken_init ["self", "word"] (defScope s_Broken_init) := ⟨rfl, rfl, rfl, by decide +kernel, rfl, by decide +kernel, by decide +kernel⟩
abbrev s_Journal_init : Stmt := inClass (topS 6) 0
abbrev n_Journal_init : List Str := ["self", "disk"]
theorem sc_Journal_init : FnScope n_Journal_init ["self", "disk"] (defScope s_Journal_init) := ⟨rfl, rfl, rfl, by decide +kernel, rfl, by decide +kernel, by decide +kernel⟩
abbrev s_Journal_records : Stmt := inClass (topS 6) 1
abbrev n_Journal_records : List Str := ["self", "found", "at", "behind", "place"]
theorem sc_Journal_records : FnScope n_Journal_records ["self"] (defScope s_Journal_records) := ⟨rfl, rfl, rfl, by decide +kernel, rfl, by decide +kernel, by decide +kernel⟩
abbrev s_Journal_write : Stmt := inClass (topS 6) 2
abbrev n_Journal_write : List Str := ["self", "record", "chain", "behind", "stop"]
theorem sc_Journal_write : FnScope n_Journal_write ["self", "record"] (defScope s_Journal_write) := ⟨rfl, rfl, rfl, by decide +kernel, rfl, by decide +kernel, by decide +kernel⟩
abbrev s_Journal_renew : Stmt := inClass (topS 6) 3
abbrev n_Journal_renew : List Str := ["self", "records", "chain", "record", "bank", "begin", "stop"]
theorem sc_Journal_renew : FnScope n_Journal_renew ["self", "records"] (defScope s_Journal_renew) := ⟨rfl, rfl, rfl, by decide +kernel, rfl, by decide +kernel, by decide +kernel⟩
abbrev s_bank_begin : Stmt := topS 7
abbrev n_bank_begin : List Str := ["disk", "bank"]
theorem sc_bank_begin : FnScope n_bank_begin ["disk", "bank"] (defScope s_bank_begin) := ⟨rfl, rfl, rfl, by decide +kernel, rfl, by decide +kernel, by decide +kernel⟩
abbrev s_bank_end : Stmt := topS 8
abbrev n_bank_end : List Str := ["disk", "bank"]
theorem sc_bank_end : FnScope n_bank_end ["disk", "bank"] (defScope s_bank_end) := ⟨rfl, rfl, rfl, by decide +kernel, rfl, by decide +kernel, by decide +kernel⟩
abbrev s_behind_link : Stmt := topS 9
abbrev n_behind_link : List Str := ["disk", "at"]
theorem sc_behind_link : FnScope n_behind_link ["disk", "at"] (defScope s_behind_link) := ⟨rfl, rfl, rfl, by decide +kernel, rfl, by decide +kernel, by decide +kernel⟩
abbrev s_chain_end : Stmt := topS 10
abbrev n_chain_end : List Str := ["disk", "begin", "stop", "at"]
theorem sc_chain_end : FnScope n_chain_end ["disk", "begin", "stop"] (defScope s_chain_end) := ⟨rfl, rfl, rfl, by decide +kernel, rfl, by decide +kernel, by decide +kernel⟩
abbrev s_link_of : Stmt := topS 11
abbrev n_link_of : List Str := ["record"]
theorem sc_link_of : FnScope n_link_of ["record"] (defScope s_link_of) := ⟨rfl, rfl, rfl, by decide +kernel, rfl, by decide +kernel, by decide +kernel⟩
abbrev s_put_chain : Stmt := topS 12
abbrev n_put_chain : List Str := ["disk", "begin", "octets", "stop", "at", "octet"]
theorem sc_put_chain : FnScope n_put_chain ["disk", "begin", "octets", "stop"] (defScope s_put_chain) := ⟨rfl, rfl, rfl, by decide +kernel, rfl, by decide +kernel, by decide +kernel⟩
abbrev s_is_number : Stmt := topS 14
abbrev n_is_number : List Str := ["value"]
theorem sc_is_number : FnScope n_is_number ["value"] (defScope s_is_number) := ⟨rfl, rfl, rfl, by decide +kernel, rfl, by decide +kernel, by decide +kernel⟩
abbrev s_is_number_below : Stmt := topS 15
abbrev n_is_number_below : List Str := ["value", "limit"]
theorem sc_is_number_below : FnScope n_is_number_below ["value", "limit"] (defScope s_is_number_below) := ⟨rfl, rfl, rfl, by decide +kernel, rfl, by decide +kernel, by decide +kernel⟩
abbrev s_Disk_init : Stmt := inClass (topS 19) 0
abbrev n_Disk_init : List Str := ["self", "cells"]
theorem sc_Disk_init : FnScope n_Disk_init ["self", "cells"] (defScope s_Disk_init) := ⟨rfl, rfl, rfl, by decide +kernel, rfl, by decide +kernel, by decide +kernel⟩
abbrev s_Disk_look : Stmt := inClass (topS 19) 1
abbrev n_Disk_look : List Str := ["self", "at"]
theorem sc_Disk_look : FnScope n_Disk_look ["self", "at"] (defScope s_Disk_look) := ⟨rfl, rfl, rfl, by decide +kernel, rfl, by decide +kernel, by decide +kernel⟩
abbrev s_Disk_put : Stmt := inClass (topS 19) 2
abbrev n_Disk_put : List Str := ["self", "at", "octet"]
theorem sc_Disk_put : FnScope n_Disk_put ["self", "at", "octet"] (defScope s_Disk_put) := ⟨rfl, rfl, rfl, by decide +kernel, rfl, by decide +kernel, by decide +kernel⟩
abbrev s_Disk_flush : Stmt := inClass (topS 19) 3
abbrev n_Disk_flush : List Str := ["self"]
theorem sc_Disk_flush : FnScope n_Disk_flush ["self"] (defScope s_Disk_flush) := ⟨rfl, rfl, rfl, by decide +kernel, rfl, by decide +kernel, by decide +kernel⟩
abbrev s_Disk_events : Stmt := inClass (topS 19) 4
abbrev n_Disk_events : List Str := ["self"]
theorem sc_Disk_events : FnScope n_Disk_events ["self"] (defScope s_Disk_events) := ⟨rfl, rfl, rfl, by decide +kernel, rfl, by decide +kernel, by decide +kernel⟩
abbrev s_are_cells : Stmt := topS 20
abbrev n_are_cells : List Str := ["value", "item"]
theorem sc_are_cells : FnScope n_are_cells ["value"] (defScope s_are_cells) := ⟨rfl, rfl, rfl, by decide +kernel, rfl, by decide +kernel, by decide +kernel⟩
abbrev s__law_heap : Stmt := topS 22
abbrev n__law_heap : List Str := ["script", "cell", "cells", "stir"]
theorem sc__law_heap : FnScope n__law_heap ["script"] (defScope s__law_heap) := ⟨rfl, rfl, rfl, by decide +kernel, rfl, by decide +kernel, by decide +kernel⟩
abbrev s__law_draw : Stmt := topS 23
abbrev n__law_draw : List Str := ["heap", "many", "rest"]
theorem sc__law_draw : FnScope n__law_draw ["heap", "many"] (defScope s__law_draw) := ⟨rfl, rfl, rfl, by decide +kernel, rfl, by decide +kernel, by decide +kernel⟩
abbrev s__law_pick : Stmt := topS 24
abbrev n__law_pick : List Str := ["heap", "some"]
theorem sc__law_pick : FnScope n__law_pick ["heap", "some"] (defScope s__law_pick) := ⟨rfl, rfl, rfl, by decide +kernel, rfl, by decide +kernel, by decide +kernel⟩
abbrev s__law_octet : Stmt := topS 25
abbrev n__law_octet : List Str := ["heap", "kind"]
theorem sc__law_octet : FnScope n__law_octet ["heap"] (defScope s__law_octet) := ⟨rfl, rfl, rfl, by decide +kernel, rfl, by decide +kernel, by decide +kernel⟩
abbrev s__law_record : Stmt := topS 26
abbrev n__law_record : List Str := ["heap", "long", "at"]
theorem sc__law_record : FnScope n__law_record ["heap", "long"] (defScope s__law_record) := ⟨rfl, rfl, rfl, by decide +kernel, rfl, by decide +kernel, by decide +kernel⟩
abbrev s__law_lasting : Stmt := topS 27
abbrev n__law_lasting : List Str := ["cells", "events", "now", "lasts", "pending", "event", "at"]
theorem sc__law_lasting : FnScope n__law_lasting ["cells", "events"] (defScope s__law_lasting) := ⟨rfl, rfl, rfl, by decide +kernel, rfl, by decide +kernel, by decide +kernel⟩
abbrev s__law_left : Stmt := topS 28
abbrev n__law_left : List Str := ["heap", "cells", "events", "lasts", "pending", "now", "way", "at"]
theorem sc__law_left : FnScope n__law_left ["heap", "cells", "events"] (defScope s__law_left) := ⟨rfl, rfl, rfl, by decide +kernel, rfl, by decide +kernel, by decide +kernel⟩
abbrev s__law_opened : Stmt := topS 29
abbrev n__law_opened : List Str := ["cells", "disk", "records"]
theorem sc__law_opened : FnScope n__law_opened ["cells"] (defScope s__law_opened) := ⟨rfl, rfl, rfl, by decide +kernel, rfl, by decide +kernel, by decide +kernel⟩
abbrev s__law_base : Stmt := topS 30
abbrev n__law_base : List Str := ["cells", "events", "flushed", "now", "event", "at"]
theorem sc__law_base : FnScope n__law_base ["cells", "events"] (defScope s__law_base) := ⟨rfl, rfl, rfl, by decide +kernel, rfl, by decide +kernel, by decide +kernel⟩
abbrev s__law_cuts_right : Stmt := topS 31
abbrev n__law_cuts_right : List Str := ["heap", "disk", "begun", "old", "new", "cuts", "events", "base", "since", "ends", "end", "found", "turn"]
theorem sc__law_cuts_right : FnScope n__law_cuts_right ["heap", "disk", "begun", "old", "new", "cuts"] (defScope s__law_cuts_right) := ⟨rfl, rfl, rfl, by decide +kernel, rfl, by decide +kernel, by decide +kernel⟩
abbrev s__law_call : Stmt := topS 32
abbrev n__law_call : List Str := ["heap", "journal", "renews", "records", "part", "error"]
theorem sc__law_call : FnScope n__law_call ["heap", "journal", "renews", "records", "part"] (defScope s__law_call) := ⟨rfl, rfl, rfl, by decide +kernel, rfl, by decide +kernel, by decide +kernel⟩
abbrev s__law_turn : Stmt := topS 33
abbrev n__law_turn : List Str := ["heap", "journal", "old", "long", "cuts", "disk", "renews", "part", "begun", "new", "told", "at", "record"]
theorem sc__law_turn : FnScope n__law_turn ["heap", "journal", "old", "long", "cuts"] (defScope s__law_turn) := ⟨rfl, rfl, rfl, by decide +kernel, rfl, by decide +kernel, by decide +kernel⟩
abbrev s__law_day_right : Stmt := topS 34
abbrev n__law_day_right : List Str := ["heap", "many", "turns", "cuts", "journal", "records", "turn", "since", "behind", "disk", "end", "cells", "fresh"]
theorem sc__law_day_right : FnScope n__law_day_right ["heap", "many", "turns", "cuts"] (defScope s__law_day_right) := ⟨rfl, rfl, rfl, by decide +kernel, rfl, by decide +kernel, by decide +kernel⟩
abbrev s__law_many_right : Stmt := topS 35
abbrev n__law_many_right : List Str := ["journal", "other", "turn"]
theorem sc__law_many_right : FnScope n__law_many_right [] (defScope s__law_many_right) := ⟨rfl, rfl, rfl, by decide +kernel, rfl, by decide +kernel, by decide +kernel⟩
abbrev s__law_strange_right : Stmt := topS 36
abbrev n__law_strange_right : List Str := ["heap", "cells", "journal", "error", "records", "at", "record"]
theorem sc__law_strange_right : FnScope n__law_strange_right ["heap"] (defScope s__law_strange_right) := ⟨rfl, rfl, rfl, by decide +kernel, rfl, by decide +kernel, by decide +kernel⟩
abbrev s_law : Stmt := topS 37
abbrev n_law : List Str := ["script", "heap", "sizes", "journal", "at"]
theorem sc_law : FnScope n_law ["script"] (defScope s_law) := ⟨rfl, rfl, rfl, by decide +kernel, rfl, by decide +kernel, by decide +kernel⟩
end K6
namespace K6
open PySem PySem.Spec PyProof.Rows L2 Gd
section
variable {P : Program} {w : World} {K : PySem.W.Frag} {mg : Str → Option Value} {base : Heap}
def spDraw : Sp := fun vs H Q _ => ∃ (h l : Addr) (L : List Int) (st m : Int), vs = [.ref h, .int m] ∧ Hv H h l L st ∧ 0 < m ∧ m < 1000000000 ∧
  ∀ G L' st' r, But h l H G → Hv G h l L' st' → 0 ≤ r → r < m → Q (.int r) G
theorem ok_draw {f : Addr} {fd : FuncData} {k : Nat} (F : Fun K "_law_draw" "_law_draw" s__law_draw f fd) (mi : mg "int" = none) : FnOk P w K mg base CX0 (k + 1) f fd ["heap", "many"] spDraw := by
  refine F.ok sc__law_draw (fun vs H Q E h => ?_) (fun cdv A outer s H vs Q E hr h => ?_)
  · obtain ⟨h, l, L, st, m, rfl, _⟩ := h
    rfl
  · obtain ⟨h, l, L, st, m, rfl, hv, h0, h1, q⟩ := h
    refine ⟨_, pss_cons (ps_while PassesOwn.never (PW.pt (pw_and (pt_cmpR (op_neD hr.units) (pe_ix ix_list (pv 0) pe_int (fun _ _ => rfl)) (pe_lst pa_nil) (nomark _))
        (pw_and1 (pt_cmpR op_eq (pe_ix ix_list (pe_ix ix_list (pv 0) pe_int (fun _ _ => rfl)) (pe_un un_neg pe_int) (fun _ _ => rfl)) pe_int (nomark _)))))
        (pss_one (ps_expr (pe_bm0 PySem.F.plainAttrs_list PySem.F.slot_list_pop PySem.F.type_list_pop mt_pop (pe_ix ix_list (pv 0) pe_int (fun _ _ => rfl))))))
      (pss_cons (ps_if (pt_cmpR (op_neD hr.units) (pe_ix ix_list (pv 0) pe_int (fun _ _ => rfl)) (pe_lst pa_nil) (nomark _))
        (pss_cons (ps_set (i := 2) sc__law_draw.nd rfl (.inl rfl) (pe_bm0 PySem.F.plainAttrs_list PySem.F.slot_list_pop PySem.F.type_list_pop mt_pop (pe_ix ix_list (pv 0) pe_int (fun _ _ => rfl))))
          (pss_cons (ps_expr (pe_bm PySem.F.plainAttrs_list PySem.F.slot_list_append PySem.F.type_list_append mt_append (pe_ix ix_list (pv 0) pe_int (fun _ _ => rfl)) (pa_cons (pe_op op_fdivN (pv 2) (pv 1)) pa_nil)))
            (pss_one (ps_ret (pe_op op_mod (pe_callTy call_int1 (by rfl) mi (by decide +kernel) (pa_cons (pv 2) pa_nil)) (pv 1)))))) pss_nil)
      (pss_cons (ps_asg (pe_op op_mod (pe_callTy call_int1 (by rfl) mi (by decide +kernel) (pa_cons (pe_op op_add (pe_op op_mul (pe_ix ix_list (pv 0) pe_int (fun _ _ => rfl)) pe_int) pe_int) pa_nil)) pe_int) (pg_sub (pv 0) pe_int set_list))
      (pss_one (ps_ret (pe_op op_mod (pe_callTy call_int1 (by rfl) mi (by decide +kernel) (pa_cons (pe_op op_fdivN (pe_ix ix_list (pv 0) pe_int (fun _ _ => rfl)) pe_int) pa_nil)) (pv 1)))))), ?_⟩
    refine ⟨fun n σ G => ∃ M, n = M.length ∧ σ = [some (.ref h), some (.int m), none] ∧ Hv G h l M st ∧ But h l H G, ⟨_, L, rfl, rfl, hv, But.refl _ _ _⟩, fun n σ G hw => ?_⟩
    obtain ⟨M, rfl, rfl, hg, bt⟩ := hw
    refine ⟨.ref h, rfl, h, _, 0, .ref l, rfl, rfl, sqL hg.top, atI_nat (j := 0) rfl, Nat.zero_le _, fun p np => ?_⟩
    refine ⟨.list (M.map .int), .list [], dp_ints (hg.new np).bot, .lst (sqL upd_same) .nil, shaped_ints M, rfl, _, rfl, ?_⟩
    have hg1 := hg.new (o := .lst []) np
    have bt1 := bt.new (o := .lst []) np
    rw [eqv_nil]
    by_cases hM : M = []
    · -- the list is empty: a new number
      subst hM
      refine iteF ?_
      refine iteF ?_
      -- if heap[0] != []
      refine ⟨.ref h, rfl, h, _, 0, .ref l, rfl, rfl, sqL hg1.top, atI_nat (j := 0) rfl, Nat.zero_le _, fun p2 np2 => ?_⟩
      refine ⟨.list (([] : List Int).map .int), .list [], dp_ints (hg1.new np2).bot, .lst (sqL upd_same) .nil, shaped_ints [], rfl, _, rfl, ?_⟩
      have hg2 := hg1.new (o := .lst []) np2
      have bt2 := bt1.new (o := .lst []) np2
      rw [eqv_nil]
      refine iteF ?_
      -- heap[1] = int(heap[1] * 48271 + 17) % 2147483647
      have hlo := hv.lo
      have hhi := hv.hi
      refine ⟨.ref h, rfl, h, _, 1, .int st, rfl, rfl, sqL hg2.top, atI_nat (j := 1) rfl, _, _, rfl, rfl, .inl ⟨by omega, by omega⟩, _, _, rfl, rfl, .inl ⟨_, rfl, _, _, rfl, rfl, (by show (0 : Int) < 2147483647; decide), ?_⟩⟩
      have n0 := Int.emod_nonneg (st * 69621 + 59) (show (2147483647 : Int) ≠ 0 by decide)
      have n1 := Int.emod_lt_of_pos (st * 69621 + 59) (show (0 : Int) < 2147483647 by decide)
      refine ⟨.ref h, rfl, h, _, 1, 1, rfl, rfl, hg2.top, rfl, ?_⟩
      have hg3 := hg2.setN n0 n1
      have bt3 : But h l H _ := bt2.atH (o := .lst [.ref l, .int ((st * 69621 + 59) % 2147483647)])
      -- return int(heap[1] // 32) % many
      refine ⟨.ref h, rfl, h, _, 1, _, rfl, rfl, sqL upd_same, atI_nat (j := 1) rfl, _, _, rfl, rfl, ⟨by decide, by decide⟩, .inl ⟨_, rfl, .int m, rfl, _, _, rfl, rfl, h0, ?_⟩⟩
      exact q _ _ _ _ bt3 hg3 (Int.emod_nonneg _ (by omega)) (Int.emod_lt_of_pos _ h0)
    · rw [decide_eq_false hM]
      refine iteT ?_
      -- heap[0][-1] == 0
      refine ⟨.ref h, rfl, h, _, 0, .ref l, rfl, rfl, sqL hg1.top, atI_nat (j := 0) rfl, 1, rfl, l, _, -1, _, rfl, rfl, sqL hg1.bot, last_map hM, rfl, _, rfl, ?_⟩
      have lt : M.dropLast.length < M.length := by
        have := List.length_pos_iff.mpr hM
        rw [List.length_dropLast]
        omega
      by_cases hz : M.getLast hM = 0
      · -- it ends in 0: pop
        rw [hz, decide_eq_true rfl]
        refine iteT ?_
        refine ⟨fun σ' G' => σ' = [some (.ref h), some (.int m), none] ∧ Hv G' h l M.dropLast st ∧ But h l H G', fun σ' G' z => ⟨_, lt, _, rfl, z.1, z.2.1, z.2.2⟩, ?_⟩
        refine ⟨.ref h, rfl, h, _, 0, .ref l, rfl, rfl, sqL hg1.top, atI_nat (j := 0) rfl, .inl ⟨rfl, _, sqL hg1.bot⟩, l, _, _, rfl, rfl, hg1.bot, last_get hM, rfl, ?_, ?_⟩
        · rw [drop_map]
          exact hg1.setL (Nat.le_trans (Nat.le_of_lt lt) hg1.len)
        · exact bt1.atL
      · -- the loop's end
        rw [decide_eq_false (show ¬ V.int (M.getLast hM) = V.int 0 from fun z => hz (V.int.inj z))]
        refine iteF ?_
        -- if heap[0] != []
        refine ⟨.ref h, rfl, h, _, 0, .ref l, rfl, rfl, sqL hg1.top, atI_nat (j := 0) rfl, Nat.zero_le _, fun p2 np2 => ?_⟩
        refine ⟨.list (M.map .int), .list [], dp_ints (hg1.new np2).bot, .lst (sqL upd_same) .nil, shaped_ints M, rfl, _, rfl, ?_⟩
        have hg2 := hg1.new (o := .lst []) np2
        have bt2 := bt1.new (o := .lst []) np2
        rw [eqv_nil, decide_eq_false hM]
        refine iteT ?_
        -- rest = heap[0].pop()
        refine ⟨.ref h, rfl, h, _, 0, .ref l, rfl, rfl, sqL hg2.top, atI_nat (j := 0) rfl, .inl ⟨rfl, _, sqL hg2.bot⟩, l, _, _, rfl, rfl, hg2.bot, last_get hM, ?_⟩
        rw [drop_map]
        have hg3 := hg2.setL (M := M.dropLast) (Nat.le_trans (Nat.le_of_lt lt) hg1.len)
        have bt3 : But h l H _ := bt2.atL (o := .lst (M.dropLast.map V.int))
        -- heap[0].append(rest // many)
        refine ⟨.ref h, rfl, h, _, 0, .ref l, rfl, rfl, sqL hg3.top, atI_nat (j := 0) rfl, .inl ⟨rfl, _, sqL hg3.bot⟩, .int (M.getLast hM), rfl, .int m, rfl, _, _, rfl, rfl, ⟨by omega, by omega⟩, l, _, _, rfl, rfl, hg3.bot, ?_, ?_⟩
        · have := hg1.len
          rw [List.length_map]
          exact small1000 (by omega)
        have e : M.dropLast.map V.int ++ [.int ((M.getLast hM).fdiv m)] = (M.dropLast ++ [(M.getLast hM).fdiv m]).map V.int := by
          rw [List.map_append]
          rfl
        rw [e]
        have hg4 := hg3.setL (M := M.dropLast ++ [(M.getLast hM).fdiv m]) (by
          have := hg1.len
          rw [List.length_append]
          show _ + 1 ≤ 63
          omega)
        have bt4 : But h l H _ := bt3.atL (o := .lst ((M.dropLast ++ [(M.getLast hM).fdiv m]).map V.int))
        -- return int(rest) % many
        refine ⟨.int (M.getLast hM), rfl, .inl ⟨_, rfl, .int m, rfl, _, _, rfl, rfl, h0, ?_⟩⟩
        exact q _ _ _ _ bt4 hg4 (Int.emod_nonneg _ (by omega)) (Int.emod_lt_of_pos _ h0)
def spPick (K : PySem.W.Frag) : Sp := fun vs H Q _ => ∃ (h l : Addr) (L : List Int) (st : Int) (p : Addr) (xs : List V), vs = [.ref h, .ref p] ∧ Hv H h l L st ∧ SqL K H p xs ∧ p ≠ h ∧ p ≠ l ∧ 0 < xs.length ∧ xs.length < 1000 ∧
  ∀ (G : Hp) (L' : List Int) (st' : Int) (i : Nat) (x : V), But h l H G → Hv G h l L' st' → xs[i]? = some x → Q x G
theorem ok_pick {f fD : Addr} {fd fdD : FuncData} {k : Nat} (F : Fun K "_law_pick" "_law_pick" s__law_pick f fd) (FD : Fun K "_law_draw" "_law_draw" s__law_draw fD fdD) (bD : Binds K fdD ["heap", "many"] []) (gD : mg "_law_draw" = some (.ref fD))
    (ml : mg "len" = none) (mi : mg "int" = none) : FnOk P w K mg base CX0 (k + 1 + 1) f fd ["heap", "some"] (spPick K) := by
  have GD : FnOk P w K mg base CX0 (k + 1) fD fdD ["heap", "many"] spDraw := ok_draw FD mi
  refine F.ok sc__law_pick (fun vs H Q E h => ?_) (fun cdv A outer s H vs Q E hr h => ?_)
  · obtain ⟨h, l, L, st, p, xs, rfl, _⟩ := h
    rfl
  · obtain ⟨h, l, L, st, p, xs, rfl, hv, hs, n1, n2, h0, h1, q⟩ := h
    refine ⟨_, pss_one (ps_ret (pe_ix ix_list (pv 1) (pe_call GD hr (by rfl) gD FD.kp bD .nil pass0 (pa_cons (pv 0) (pa_cons (pe_callB call_len_seq (by rfl) ml PySem.boot_len (pa_cons (pv 1) pa_nil)) pa_nil))) (fun _ _ => rfl))), ?_⟩
    refine ⟨.ref p, rfl, .ref h, rfl, .ref p, rfl, p, xs, rfl, .inl hs, h, l, L, st, xs.length, rfl, hv, by omega, by omega, fun G L' st' r bt hv' r0 r1 => ?_⟩
    obtain ⟨i, rfl⟩ := Int.eq_ofNat_of_zero_le r0
    have hi : i < xs.length := by omega
    exact ⟨p, xs, _, xs[i], rfl, rfl, bt.seqL n1 n2 hs, atI_nat (List.getElem?_eq_getElem hi), q G L' st' i _ bt hv' (List.getElem?_eq_getElem hi)⟩
def spHeap (K : PySem.W.Frag) : Sp := fun vs H Q _ => ∃ (a : Addr) (ns : List Int), vs = [.ref a] ∧ SqL K H a (ns.map V.int) ∧ ns.length ≤ 63 ∧
  ∀ (G : Hp) (h l : Addr) (L : List Int) (st : Int), Same H G → H h = none → H l = none → Hv G h l L st → Q (.ref h) G
theorem ok_heap {f : Addr} {fd : FuncData} {k : Nat} (F : Fun K "_law_heap" "_law_heap" s__law_heap f fd) (ma : mg "abs" = none) (mi : mg "int" = none) : FnOk P w K mg base CX0 (k + 1) f fd ["script"] (spHeap K) := by
  refine F.ok sc__law_heap (fun vs H Q E h => ?_) (fun cdv A outer s H vs Q E hr h => ?_)
  · obtain ⟨a, ns, rfl, _⟩ := h
    rfl
  · obtain ⟨a, ns, rfl, hs, hl, q⟩ := h
    refine ⟨_, pss_cons (ps_par (i := 2) (j := 3) rfl sc__law_heap.nd rfl rfl (by decide) rfl rfl (pa_cons (pe_lc (own := [("cell", 1)]) (g := gName 1) (tt := tYes) rfl sc__law_heap.nd (pi_list (pe_slice sl_list (pv 0) po_none (po_some pe_int)))
          (blkOk_by (own := [("cell", 1)]) (N := ["script", "cell", "cells", "stir"]) (sc := defScope s__law_heap) (by decide +kernel)) (fun _ _ _ _ _ => pg_name (i := 1) sc__law_heap.nd rfl (Or.inl rfl)) (fun _ _ _ _ _ => pts_nil)
          (fun _ _ _ _ _ => pe_op op_add (pe_op op_mul pe_int (pe_callB call_abs (by rfl) ma (by decide +kernel) (pa_cons (pv 1) pa_nil))) (pe_callTy call_int1 (by rfl) mi (by decide +kernel) (pa_cons (pe_cmpR op_lt (pv 1) pe_int (nomark _)) pa_nil)))) (pa_cons pe_int pa_nil)) (by rfl))
      (pss_cons (ps_for PassesOwn.never rfl (pi_list (pv 2)) (pg_name (i := 1) sc__law_heap.nd rfl (.inl rfl))
        (pss_one (ps_set (i := 3) sc__law_heap.nd rfl (.inl rfl) (pe_op op_mod (pe_callTy call_int1 (by rfl) mi (by decide +kernel) (pa_cons (pe_op op_add (pe_op op_add (pe_op op_mul (pv 3) pe_int) (pe_op op_mod (pe_callTy call_int1 (by rfl) mi (by decide +kernel) (pa_cons (pv 1) pa_nil)) pe_int)) pe_int) pa_nil)) pe_int))))
      (pss_one (ps_ret (pe_lst (pa_cons (pe_revL (pe_lc (own := [("cell", 1)]) (g := gName 1) rfl sc__law_heap.nd (pi_list (pv 2))
          (blkOk_by (own := [("cell", 1)]) (N := ["script", "cell", "cells", "stir"]) (sc := defScope s__law_heap) (by decide +kernel)) (fun _ _ _ _ _ => pg_name (i := 1) sc__law_heap.nd rfl (Or.inl rfl))
          (fun _ _ _ _ _ => pts_one (pt_cmpR op_ge (pv 1) (pe_op op_pow pe_int pe_int) (nomark _))) (fun _ _ _ _ _ => pv 1))) (pa_cons (pv 3) pa_nil)))))), ?_⟩
    -- script[:60]
    refine ⟨.ref a, rfl, 60, rfl, a, _, rfl, hs, fun p np => ⟨p, rfl, ⟨_, sqL upd_same⟩, fun D nD => ?_⟩⟩
    have s1 : Same H _ := same_new (o := .lst (cutV (ns.map V.int) none (some 60))) np
    have ecut : cutV (ns.map V.int) none (some 60) = (ns.take 60).map V.int := by
      unfold cutV
      rw [HT.sIx_none, show (some (60 : Int)) = some ((60 : Nat) : Int) from rfl, HT.sIx_nat, List.drop_zero, Nat.sub_zero, List.length_map, List.map_take]
      by_cases z : 60 ≤ ns.length
      · rw [Nat.min_eq_left z]
      · rw [Nat.min_eq_right (by omega), List.take_of_length_le (by rw [List.length_map]; exact Nat.le_refl _), List.take_of_length_le (by rw [List.length_map]; omega)]
    rw [ecut] at s1 nD ⊢
    refine lc_list (K := K) (a := p) (xs := (ns.take 60).map V.int) (fun i G => Same (upd H p (.lst ((ns.take 60).map V.int))) G ∧ ∃ cs : List Int, G D = some (.lst (cs.map V.int)) ∧ cs.length = i)
      ⟨same_new nD, [], upd_same, rfl⟩ (fun i G _ hP => sqL (hP.1 _ _ upd_same)) (fun i x G hx hP => ?_) (fun G hP => ?_)
    · obtain ⟨s2, cs, gD, cl⟩ := hP
      obtain ⟨n, hn, rfl⟩ : ∃ n, (ns.take 60)[i]? = some n ∧ V.int n = x := by
        rw [List.getElem?_map] at hx
        cases e : (ns.take 60)[i]? with
        | none => rw [e] at hx; cases hx
        | some n => rw [e] at hx; exact ⟨n, rfl, Option.some.inj hx⟩
      have hi := (List.getElem?_eq_some_iff.mp hn).1
      rw [List.length_take] at hi
      refine ⟨rfl, ?_⟩
      dsimp only [tYes]
      rw [if_pos rfl]
      refine ⟨_, rfl, n, rfl, 2, _, rfl, rfl, .inl ⟨by decide, by decide⟩, _, rfl, _, _, rfl, rfl, .inr ⟨_, rfl, _, _, rfl, rfl, cs.map V.int, gD, ?_, fun b o e => ?_, cs ++ [2 * (if n < 0 then -n else n) + (if decide (n < 0) = true then 1 else 0)], ?_, ?_⟩⟩
      · rw [List.length_map]
        exact small1000 (by omega)
      · rw [upd_ne (ne_of_none e nD)]
        exact s2 _ _ e
      · rw [upd_same, List.map_append]
        rfl
      · rw [List.length_append, cl]
        rfl
    · obtain ⟨s2, cs, gD, cl⟩ := hP
      have sG := s1.trans s2
      rw [List.length_map, List.length_take] at cl
      refine ⟨_, _, rfl, ?_⟩
      -- for cell in cells
      refine ⟨.ref D, rfl, D, rfl, ⟨_, sqL gD⟩, for_list (xs := cs.map V.int) (fun i σ G' => G' = G ∧ ∃ (st : Int) (y : Option V), σ = [some (.ref a), y, some (.ref D), some (.int st)] ∧ 0 ≤ st ∧ st < 2147483647)
        ⟨rfl, 50047, none, rfl, by decide, by decide⟩ (fun i σ G' _ hP => by rw [hP.1]; exact sqL gD) (fun i x σ G' hx hP => ?_) (fun σ G' hP => ?_)⟩
      · obtain ⟨rfl, st, y, rfl, h0, h1⟩ := hP
        obtain ⟨n, rfl⟩ : ∃ n, V.int n = x := by
          rw [List.getElem?_map] at hx
          cases e : cs[i]? with
          | none => rw [e] at hx; cases hx
          | some n => rw [e] at hx; exact ⟨n, Option.some.inj hx⟩
        refine ⟨_, rfl, _, _, rfl, rfl, .inl ⟨by omega, by omega⟩, _, rfl, .inl ⟨_, rfl, _, _, rfl, rfl, (by show (0 : Int) < 2147483563; decide), _, _, rfl, rfl, _, _, rfl, rfl, .inl ⟨_, rfl, _, _, rfl, rfl, (by show (0 : Int) < 2147483647; decide), rfl, _, _, rfl, ?_, ?_⟩⟩⟩
        · exact Int.emod_nonneg _ (by decide)
        · exact Int.emod_lt_of_pos _ (by decide)
      · obtain ⟨rfl, st, y, rfl, h0, h1⟩ := hP
        refine ⟨.ref D, rfl, D, rfl, ⟨_, sqL gD⟩, fun D2 nD2 => ?_⟩
        refine lc_list (K := K) (a := D) (xs := cs.map V.int) (fun i G2 => Same G' G2 ∧ ∃ es : List Int, G2 D2 = some (.lst (es.map V.int)) ∧ es.length ≤ i)
          ⟨same_new nD2, [], upd_same, Nat.le_refl _⟩ (fun i G2 _ hP => sqL (hP.1 _ _ gD)) (fun i x G2 hx hP => ?_) (fun G2 hP => ?_)
        · obtain ⟨s3, es, gE, el⟩ := hP
          obtain ⟨n, hn, rfl⟩ : ∃ n, cs[i]? = some n ∧ V.int n = x := by
            rw [List.getElem?_map] at hx
            cases e : cs[i]? with
            | none => rw [e] at hx; cases hx
            | some n => rw [e] at hx; exact ⟨n, rfl, Option.some.inj hx⟩
          have hi := (List.getElem?_eq_some_iff.mp hn).1
          refine ⟨rfl, _, rfl, 10, 18, rfl, rfl, ⟨by decide, by decide, by decide⟩, _, _, rfl, rfl, _, rfl, ite2 (fun _ => ?_) (fun _ => ⟨s3, es, gE, Nat.le_succ_of_le el⟩)⟩
          refine ⟨_, rfl, es.map V.int, gE, ?_, fun b o e => ?_, es ++ [n], ?_, ?_⟩
          · rw [List.length_map]
            exact small1000 (by omega)
          · rw [upd_ne (ne_of_none e nD2)]
            exact s3 _ _ e
          · rw [upd_same, List.map_append]
            rfl
          · rw [List.length_append]
            exact Nat.succ_le_succ el
        · obtain ⟨s3, es, gE, el⟩ := hP
          rw [List.length_map] at el
          refine ⟨D2, _, rfl, sqL gE, fun l nl => ?_⟩
          refine ⟨_, rfl, by show 2 ≤ sizeLine; decide, fun h nh => ?_⟩
          have s4 : Same G2 _ := same_new (o := .lst (es.map V.int).reverse) nl
          have s5 := s4.trans (same_new (o := .lst [.ref l, .int st]) nh)
          have up : ∀ b, G2 b = none → H b = none := fun b e => by
            cases z : H b with
            | none => rfl
            | some o => exact nomatch (s3 _ _ (sG _ _ z)).symm.trans e
          have nlh : l ≠ h := ne_of_none upd_same nh
          refine q _ h l es.reverse st ((sG.trans s3).trans s5) (up h ((by
            cases z : G2 h with
            | none => rfl
            | some o => exact nomatch (s4 _ _ z).symm.trans nh))) (up l nl) ⟨upd_same, ?_, nlh, h0, h1, ?_⟩
          · rw [upd_ne nlh, upd_same, List.map_reverse]
          · rw [List.length_reverse]
            omega
end
end K6
/-! Journals: the mathematics. -/
namespace K6
open PySem
/-- an event: a put, or a flush -/
abbrev Ev := Option (Nat × Int)
/-- what a put does to the cells -/
def act (ps : List Int) (e : Ev) : List Int := match e with
  | none => ps
  | some (a, o) => ps.set a o
def replay (cells : List Int) (evs : List Ev) : List Int := evs.foldl act cells
theorem replay_len (cells : List Int) : ∀ evs : List Ev, (replay cells evs).length = cells.length := by
  intro evs
  unfold replay
  induction evs generalizing cells with
  | nil => rfl
  | cons e r ih =>
    rw [List.foldl_cons, ih]
    cases e with
    | none => rfl
    | some p => exact List.length_set
theorem replay_snoc (cells : List Int) (evs : List Ev) (e : Ev) : replay cells (evs ++ [e]) = act (replay cells evs) e := by
  unfold replay
  rw [List.foldl_append]
  rfl
theorem replay_app (cells : List Int) (a b : List Ev) : replay cells (a ++ b) = replay (replay cells a) b := by
  unfold replay
  rw [List.foldl_append]
def Oct (o : Int) : Prop := 0 ≤ o ∧ o < 256
/-- what lasts, the places that are pending, what is there now -/
structure L3 where
  lasts : List Int
  pend : List Nat
  now : List Int
def st3 (s : L3) (e : Ev) : L3 := match e with
  | none => ⟨s.now, [], s.now⟩
  | some (a, o) => ⟨s.lasts, s.pend ++ [a], s.now.set a o⟩
def look3 (base : List Int) (evs : List Ev) : L3 := evs.foldl st3 ⟨base, [], base⟩
theorem look3_snoc (base : List Int) (evs : List Ev) (e : Ev) : look3 base (evs ++ [e]) = st3 (look3 base evs) e := by
  unfold look3
  rw [List.foldl_append]
  rfl
theorem look3_now (base : List Int) (evs : List Ev) : (look3 base evs).now = replay base evs := by
  have key : ∀ (l : List Ev) (s : L3), (l.foldl st3 s).now = l.foldl act s.now := by
    intro l
    induction l with
    | nil => exact fun _ => rfl
    | cons e r ih =>
      intro s
      rw [List.foldl_cons, List.foldl_cons, ih]
      cases e <;> rfl
  exact key evs _
structure L3Ok (n : Nat) (s : L3) : Prop where
  l1 : s.lasts.length = n
  l2 : s.now.length = n
  eq : ∀ a, a ∉ s.pend → s.lasts[a]? = s.now[a]?
theorem st3_ok {n : Nat} {s : L3} (h : L3Ok n s) (e : Ev) : L3Ok n (st3 s e) := by
  cases e with
  | none => exact ⟨h.l2, h.l2, fun _ _ => rfl⟩
  | some p =>
    obtain ⟨a, o⟩ := p
    refine ⟨h.l1, (List.length_set).trans h.l2, fun b hb => ?_⟩
    have hb' : b ∉ s.pend ++ [a] := hb
    rw [List.mem_append, List.mem_singleton] at hb'
    show s.lasts[b]? = (s.now.set a o)[b]?
    rw [List.getElem?_set_ne (fun e => hb' (.inr e.symm))]
    exact h.eq b fun z => hb' (.inl z)
theorem look3_ok (base : List Int) (evs : List Ev) : L3Ok base.length (look3 base evs) := by
  have key : ∀ (l : List Ev) (s : L3), L3Ok base.length s → L3Ok base.length (l.foldl st3 s) := by
    intro l
    induction l with
    | nil => exact fun _ h => h
    | cons e r ih => exact fun s h => ih _ (st3_ok h e)
  exact key evs _ ⟨rfl, rfl, fun _ _ => rfl⟩
/-- all is flushed -/
def Flushed (evs : List Ev) : Prop := evs = [] ∨ ∃ r, evs = r ++ [none]
theorem look3_flushed {base : List Int} {evs : List Ev} (h : Flushed evs) : look3 base evs = ⟨replay base evs, [], replay base evs⟩ := by
  rcases h with rfl | ⟨r, rfl⟩
  · rfl
  · rw [look3_snoc, replay_snoc]
    show L3.mk _ _ _ = _
    rw [look3_now]
    rfl
theorem look3_app {base : List Int} {evs : List Ev} (h : Flushed evs) (r : List Ev) : look3 base (evs ++ r) = look3 (replay base evs) r := by
  have e : look3 base (evs ++ r) = r.foldl st3 (look3 base evs) := by
    unfold look3
    rw [List.foldl_append]
  rw [e, look3_flushed h]
  rfl
/-- cells that a cut leaves -/
structure Left (s : L3) (cs : List Int) : Prop where
  len : cs.length = s.lasts.length
  oct : ∀ o ∈ cs, Oct o
  eq : ∀ a, a ∉ s.pend → cs[a]? = s.lasts[a]?
/-! chains of records -/
inductive Chain (now : List Int) (stop : Nat) : Nat → List (List Int) → Nat → Prop
  | nil {i : Nat} : i ≤ stop → (i < stop → now[i]? = some 0) → Chain now stop i [] i
  | cons {i e n : Nat} {x hi lo : Int} {rs : List (List Int)} : i + 3 ≤ stop → now[i]? = some x → x ≠ 0 → now[i + 1]? = some hi → now[i + 2]? = some lo → (n : Int) = 256 * hi + lo → i + 3 + n ≤ stop → Chain now stop (i + 3 + n) rs e → Chain now stop i ((now.drop (i + 3)).take n :: rs) e
/-- a piece of a chain -/
inductive Seg (now : List Int) (stop : Nat) : Nat → List (List Int) → Nat → Prop
  | nil {i : Nat} : Seg now stop i [] i
  | snoc {i j n : Nat} {x hi lo : Int} {rs : List (List Int)} : Seg now stop i rs j → j + 3 ≤ stop → now[j]? = some x → x ≠ 0 → now[j + 1]? = some hi → now[j + 2]? = some lo → (n : Int) = 256 * hi + lo → j + 3 + n ≤ stop → Seg now stop i (rs ++ [(now.drop (j + 3)).take n]) (j + 3 + n)
theorem seg_chain {now : List Int} {stop i j e : Nat} {rs ss : List (List Int)} (h : Seg now stop i rs j) : Chain now stop j ss e → Chain now stop i (rs ++ ss) e := by
  induction h generalizing ss with
  | nil => exact fun c => c
  | snoc s h1 h2 h3 h4 h5 h6 h7 ih =>
    intro c
    rw [List.append_assoc]
    exact ih (.cons h1 h2 h3 h4 h5 h6 h7 c)
theorem chain_one {now : List Int} {stop i : Nat} {rs ss : List (List Int)} {e f : Nat} (a : Chain now stop i rs e) (b : Chain now stop i ss f) : rs = ss ∧ e = f := by
  induction a generalizing ss f with
  | nil h1 h2 =>
    cases b with
    | nil => exact ⟨rfl, rfl⟩
    | cons g1 g2 g3 =>
      have := h2 (by omega)
      rw [this] at g2
      exact absurd (Option.some.inj g2).symm g3
  | cons h1 h2 h3 h4 h5 h6 h7 h8 ih =>
    cases b with
    | nil g1 g2 =>
      have := g2 (by omega)
      rw [h2] at this
      exact absurd (Option.some.inj this) h3
    | cons g1 g2 g3 g4 g5 g6 g7 g8 =>
      rw [h4] at g4
      rw [h5] at g5
      cases g4
      cases g5
      have : _ = _ := h6.trans g6.symm
      have en := Int.ofNat.inj this
      subst en
      obtain ⟨e1, e2⟩ := ih g8
      rw [e1]
      exact ⟨rfl, e2⟩
/-- what follows a piece of a chain -/
theorem seg_rest {now : List Int} {stop i j e : Nat} {rs ss : List (List Int)} (h : Seg now stop i rs j) : Chain now stop i ss e → ∃ ts, ss = rs ++ ts ∧ Chain now stop j ts e := by
  induction h generalizing ss with
  | nil => exact fun c => ⟨ss, rfl, c⟩
  | snoc s h1 h2 h3 h4 h5 h6 h7 ih =>
    intro c
    obtain ⟨ts, rfl, c2⟩ := ih c
    cases c2 with
    | nil g1 g2 =>
      have := g2 (by omega)
      rw [h2] at this
      exact absurd (Option.some.inj this) h3
    | cons g1 g2 g3 g4 g5 g6 g7 g8 =>
      rw [h4] at g4
      rw [h5] at g5
      cases g4
      cases g5
      have en := Int.ofNat.inj (h6.trans g6.symm)
      subst en
      exact ⟨_, by rw [List.append_assoc]; rfl, g8⟩
theorem chain_le {now : List Int} {stop i e : Nat} {rs : List (List Int)} (h : Chain now stop i rs e) : i ≤ e ∧ e ≤ stop ∧ (e < stop → now[e]? = some 0) := by
  induction h with
  | nil h1 h2 => exact ⟨Nat.le_refl _, h1, h2⟩
  | cons h1 h2 h3 h4 h5 h6 h7 h8 ih => exact ⟨by omega, ih.2.1, ih.2.2⟩
theorem drop_take_eq {now now' : List Int} {i n : Nat} (h : ∀ k, i ≤ k → k < i + n → now'[k]? = now[k]?) : (now'.drop i).take n = (now.drop i).take n := by
  refine List.ext_getElem? fun k => ?_
  rw [List.getElem?_take, List.getElem?_take]
  by_cases hk : k < n
  · rw [if_pos hk, if_pos hk, List.getElem?_drop, List.getElem?_drop]
    exact h _ (by omega) (by omega)
  · rw [if_neg hk, if_neg hk]
/-- cells that agree up to the end have the same chain -/
theorem chain_same {now now' : List Int} {stop i e : Nat} {rs : List (List Int)} (h : Chain now stop i rs e) (hs : ∀ k, i ≤ k → k < e → now'[k]? = now[k]?) (he : e < stop → now'[e]? = some 0) : Chain now' stop i rs e := by
  induction h with
  | nil h1 h2 => exact .nil h1 he
  | @cons i e n x hi lo rs h1 h2 h3 h4 h5 h6 h7 h8 ih =>
    have le := (chain_le h8).1
    have e1 : (now.drop (i + 3)).take n = (now'.drop (i + 3)).take n := (drop_take_eq fun k a b => hs k (by omega) (by omega)).symm
    rw [e1]
    exact .cons h1 ((hs i (by omega) (by omega)).trans h2) h3 ((hs (i + 1) (by omega) (by omega)).trans h4) ((hs (i + 2) (by omega) (by omega)).trans h5) h6 h7 (ih (fun k a b => hs k (by omega) b) he)
/-- one more link -/
theorem chain_snoc {now now' : List Int} {stop i e : Nat} {rs : List (List Int)} {f : Nat} {ss : List (List Int)} (h : Chain now stop i rs e) (hs : ∀ k, i ≤ k → k < e → now'[k]? = now[k]?) (c : Chain now' stop e ss f) : Chain now' stop i (rs ++ ss) f := by
  induction h with
  | nil h1 h2 => exact c
  | @cons i e n x hi lo rs h1 h2 h3 h4 h5 h6 h7 h8 ih =>
    have le := (chain_le h8).1
    have e1 : (now.drop (i + 3)).take n = (now'.drop (i + 3)).take n := (drop_take_eq fun k a b => hs k (by omega) (by omega)).symm
    rw [e1]
    exact .cons h1 ((hs i (by omega) (by omega)).trans h2) h3 ((hs (i + 1) (by omega) (by omega)).trans h4) ((hs (i + 2) (by omega) (by omega)).trans h5) h6 h7 (ih (fun k a b => hs k (by omega) b) c)
/-- the link of a record -/
def linkOf (r : List Int) : List Int := 1 :: ((r.length / 256 : Nat) : Int) :: ((r.length % 256 : Nat) : Int) :: r
theorem linkOf_len (r : List Int) : (linkOf r).length = r.length + 3 := rfl
def sizeOf3 (rs : List (List Int)) : Nat := (rs.map fun r => r.length + 3).sum
theorem chain_size {now : List Int} {stop i e : Nat} {rs : List (List Int)} (hl : stop ≤ now.length) (h : Chain now stop i rs e) : e = i + sizeOf3 rs := by
  induction h with
  | nil => rfl
  | @cons i e n x hi lo rs h1 h2 h3 h4 h5 h6 h7 h8 ih =>
    rw [ih]
    show _ = i + (((now.drop (i + 3)).take n).length + 3 + sizeOf3 rs)
    rw [List.length_take, List.length_drop]
    omega
/-- octets that stand in cells at a place -/
def At (now : List Int) (i : Nat) (os : List Int) : Prop := ∀ k o, os[k]? = some o → now[i + k]? = some o
theorem at_drop {now : List Int} {i : Nat} {os : List Int} (h : At now i os) : (now.drop i).take os.length = os := by
  refine List.ext_getElem? fun k => ?_
  rw [List.getElem?_take]
  by_cases hk : k < os.length
  · rw [if_pos hk, List.getElem?_drop, List.getElem?_eq_getElem hk]
    exact h k _ (List.getElem?_eq_getElem hk)
  · rw [if_neg hk, List.getElem?_eq_none (by omega)]
/-- links one behind another, and an end, are a chain -/
theorem chain_of {now : List Int} {stop : Nat} : ∀ {rs : List (List Int)} {i : Nat}, (∀ r ∈ rs, r.length < 65536) → At now i (rs.map linkOf).flatten → i + sizeOf3 rs ≤ stop → (i + sizeOf3 rs < stop → now[i + sizeOf3 rs]? = some 0) → Chain now stop i rs (i + sizeOf3 rs)
  | [], i, _, _, h1, h2 => .nil h1 h2
  | r :: rs, i, hr, ha, h1, h2 => by
    have e0 : sizeOf3 (r :: rs) = r.length + 3 + sizeOf3 rs := rfl
    have ef : ((r :: rs).map linkOf).flatten = linkOf r ++ (rs.map linkOf).flatten := rfl
    rw [ef] at ha
    have g : ∀ k o, (linkOf r)[k]? = some o → now[i + k]? = some o := fun k o e => ha k o (by
      have hk := (List.getElem?_eq_some_iff.mp e).1
      rw [List.getElem?_append_left hk]
      exact e)
    have hr0 := hr r List.mem_cons_self
    have at3 : At now (i + 3) r := fun k o e => by
      have := g (k + 3) o e
      rw [show i + 3 + k = i + (k + 3) by omega]
      exact this
    have ih := chain_of (now := now) (stop := stop) (rs := rs) (i := i + 3 + r.length) (fun x hx => hr x (List.mem_cons_of_mem _ hx)) (fun k o e => by
      have := ha (k + (r.length + 3)) o (by
        rw [List.getElem?_append_right (by rw [linkOf_len]; omega), linkOf_len, Nat.add_sub_cancel]
        exact e)
      rw [show i + 3 + r.length + k = i + (k + (r.length + 3)) by omega]
      exact this) (by omega) (fun z => by
      have := h2 (by omega)
      rw [show i + 3 + r.length + sizeOf3 rs = i + sizeOf3 (r :: rs) by omega]
      exact this)
    rw [show i + 3 + r.length + sizeOf3 rs = i + sizeOf3 (r :: rs) by omega] at ih
    have c : Chain now stop i ((now.drop (i + 3)).take r.length :: rs) (i + sizeOf3 (r :: rs)) := .cons (x := 1) (hi := ((r.length / 256 : Nat) : Int)) (lo := ((r.length % 256 : Nat) : Int)) (by omega) (g 0 _ rfl) (by decide) (g 1 _ rfl) (g 2 _ rfl) (by omega) (by omega) ih
    rw [at_drop at3] at c
    exact c
end K6
namespace K6
open PySem PySem.Spec PyProof.Rows L2 Gd
section
variable {P : Program} {w : World} {K : PySem.W.Frag} {mg : Str → Option Value} {base : Heap}
def spNumB (K : PySem.W.Frag) : Sp := fun vs H Q _ => ∃ (x : V) (lim : Int) (b : Bool), vs = [x, .int lim] ∧ NumV K H lim x b ∧ Q (.bl b) H
def spNum (K : PySem.W.Frag) : Sp := fun vs H Q _ => ∃ x : V, vs = [x] ∧ ((∃ i, x = .int i ∧ Q (.bl (decide (0 ≤ i))) H) ∨ (∃ y, x = .bl y ∧ Q (.bl false) H) ∨ (∃ n, TyN K H x n ∧ kitB n "int" = some false ∧ Q (.bl false) H))
theorem ok_num {f : Addr} {fd : FuncData} {k : Nat} (F : Fun K "is_number" "is_number" s_is_number f fd) (mI : mg "isinstance" = none) (mi : mg "int" = none) (mb : mg "bool" = none) : FnOk P w K mg base CX0 (k + 1) f fd ["value"] (spNum K) := by
  refine F.ok sc_is_number (fun vs H Q E h => ?_) (fun cdv A outer s H vs Q E hr h => ?_)
  · obtain ⟨x, rfl, _⟩ := h
    rfl
  · obtain ⟨x, rfl, q⟩ := h
    refine blk_cons (ps_ret (pe_and (pe_callB call_isi (by rfl) mI (by decide +kernel) (pa_cons (pv 0) (pa_cons (pe_bltn (v := .ty "int") (by rfl) mi (by decide +kernel) rfl) pa_nil)))
      (pe_and (pe_not (pe_callB call_isi (by rfl) mI (by decide +kernel) (pa_cons (pv 0) (pa_cons (pe_bltn (v := .ty "bool") (by rfl) mb (by decide +kernel) rfl) pa_nil)))) (pe_one (pe_cmpR op_ge (pv 0) pe_int (nomark _)))))) ?_
    refine blk_nil ?_
    rcases q with ⟨i, rfl, q⟩ | ⟨y, rfl, q⟩ | ⟨n, t, kk, q⟩
    · refine ⟨_, rfl, _, _, _, _, true, rfl, .ty "int", TyN.int i, kit_ty (by decide +kernel), _, rfl, iteT ?_⟩
      refine ⟨_, rfl, _, _, _, _, false, rfl, .ty "bool", TyN.int i, kit_ty (by decide +kernel), _, rfl, _, rfl, iteT ?_⟩
      exact ⟨_, rfl, _, _, rfl, rfl, q⟩
    · refine ⟨_, rfl, _, _, _, _, true, rfl, .ty "int", TyN.bl y, kit_ty (by decide +kernel), _, rfl, iteT ?_⟩
      exact ⟨_, rfl, _, _, _, _, true, rfl, .ty "bool", TyN.bl y, kit_ty (by decide +kernel), _, rfl, _, rfl, iteF q⟩
    · exact ⟨_, rfl, _, _, _, _, false, rfl, .ty "int", t, kit_ty kk, _, rfl, iteF q⟩
theorem ok_numB {f fN : Addr} {fd fdN : FuncData} {k : Nat} (F : Fun K "is_number_below" "is_number_below" s_is_number_below f fd) (FN : Fun K "is_number" "is_number" s_is_number fN fdN) (bN : Binds K fdN ["value"] []) (gN : mg "is_number" = some (.ref fN))
    (mI : mg "isinstance" = none) (mi : mg "int" = none) (mb : mg "bool" = none) : FnOk P w K mg base CX0 (k + 1 + 1) f fd ["value", "limit"] (spNumB K) := by
  have GN : FnOk P w K mg base CX0 (k + 1) fN fdN ["value"] (spNum K) := ok_num FN mI mi mb
  refine F.ok sc_is_number_below (fun vs H Q E h => ?_) (fun cdv A outer s H vs Q E hr h => ?_)
  · obtain ⟨x, lim, b, rfl, _⟩ := h
    rfl
  · obtain ⟨x, lim, b, rfl, hx, q⟩ := h
    refine blk_cons (ps_ret (pe_and (pe_call GN hr (by rfl) gN FN.kp bN .nil pass0 (pa_cons (pv 0) pa_nil)) (pe_one (pe_cmpR op_lt (pv 0) (pv 1) (nomark _))))) ?_
    refine blk_nil ?_
    rcases hx with ⟨i, rfl, rfl⟩ | ⟨y, rfl, rfl⟩ | ⟨n, t, kk, rfl⟩
    · refine ⟨_, rfl, _, rfl, .inl ⟨i, rfl, _, rfl, ?_⟩⟩
      by_cases h0 : 0 ≤ i
      · rw [decide_eq_true h0]
        refine iteT ⟨_, rfl, _, rfl, _, _, rfl, rfl, ?_⟩
        have e : decide (0 ≤ i ∧ i < lim) = decide (i < lim) := decide_eq_decide.mpr ⟨fun z => z.2, fun z => ⟨h0, z⟩⟩
        rw [e] at q
        exact q
      · rw [decide_eq_false h0]
        refine iteF ?_
        rw [decide_eq_false fun z => h0 z.1] at q
        exact q
    · exact ⟨_, rfl, _, rfl, .inr (.inl ⟨y, rfl, _, rfl, iteF q⟩)⟩
    · exact ⟨_, rfl, _, rfl, .inr (.inr ⟨n, t, kk, _, rfl, iteF q⟩)⟩
/-! ### are_cells -/
/-- whether any value is a tuple of octets -/
def CellsV (K : PySem.W.Frag) (H : Hp) (x : V) (b : Bool) : Prop :=
  (∃ n, TyN K H x n ∧ kitB n "tuple" = some false ∧ b = false) ∨
  (∃ (p : Addr) (xs : List V) (bs : List Bool), x = .ref p ∧ TyN K H x "tuple" ∧ SqT K H p xs ∧ xs.length ≤ 30000 ∧ NumVs K H 256 xs bs ∧ b = (decide (1 ≤ xs.length ∧ xs.length ≤ 20000) && bs.all id))
def spCells (K : PySem.W.Frag) : Sp := fun vs H Q _ => ∃ (x : V) (b : Bool), vs = [x] ∧ CellsV K H x b ∧ ∀ G, Same H G → Q (.bl b) G
theorem ok_cells {f fN fB : Addr} {fd fdN fdB : FuncData} {k : Nat} {t1 t2 : Tok} (F : Fun K "are_cells" "are_cells" s_are_cells f fd) (FB : Fun K "is_number_below" "is_number_below" s_is_number_below fB fdB) (FN : Fun K "is_number" "is_number" s_is_number fN fdN) (bN : Binds K fdN ["value"] []) (bB : Binds K fdB ["value", "limit"] []) (gN : mg "is_number" = some (.ref fN)) (gB : mg "is_number_below" = some (.ref fB))
    (gM : mg "MOST_CELLS" = some (.int 20000 t1)) (gO : mg "OCTETS" = some (.int 256 t2)) (mI : mg "isinstance" = none) (mi : mg "int" = none) (mb : mg "bool" = none) (mt : mg "tuple" = none) (ml : mg "len" = none) (ma : mg "all" = none) :
    FnOk P w K mg base CX0 (k + 1 + 1 + 1) f fd ["value"] (spCells K) := by
  have GB : FnOk P w K mg base CX0 (k + 1 + 1) fB fdB ["value", "limit"] (spNumB K) := ok_numB FB FN bN gN mI mi mb
  refine F.ok sc_are_cells (fun vs H Q E h => ?_) (fun cdv A outer s H vs Q E hr h => ?_)
  · obtain ⟨x, b, rfl, _⟩ := h
    rfl
  · obtain ⟨x, b, rfl, hx, q⟩ := h
    refine blk_cons (ps_if (PW.pt (pw_or (pt_not (pt_val (pe_callB call_isi (by rfl) mI (by decide +kernel) (pa_cons (pv 0) (pa_cons (pe_bltn (v := .ty "tuple") (by rfl) mt (by decide +kernel) rfl) pa_nil)))))
        (pw_or1 (pt_not (pt_chain op_le op_le pe_int (pe_callB call_len_seq (by rfl) ml PySem.boot_len (pa_cons (pv 0) pa_nil)) (pe_glob (v := .int 20000) (by rfl) gM ⟨_, rfl⟩)))))) (pss_one (ps_ret pe_bl)) pss_nil) ?_
    refine blk_cons (ps_ret (pe_callB (cr_all rfl) (by rfl) ma (by decide +kernel) (pa_cons (pe_lc (own := [("item", 1)]) (g := gName 1) (tt := tYes) rfl sc_are_cells.nd (pi_tup (pv 0)) (blkOk_by (own := [("item", 1)]) (N := ["value", "item"]) (sc := defScope s_are_cells) (by decide +kernel))
      (fun _ _ _ _ _ => pg_name (i := 1) sc_are_cells.nd rfl (Or.inl rfl)) (fun _ _ _ _ _ => pts_nil) (fun _ _ _ _ _ => pe_call GB hr (by rfl) gB FB.kp bB .nil pass0 (pa_cons (pv 1) (pa_cons (pe_glob (v := .int 256) (by rfl) gO ⟨_, rfl⟩) pa_nil)))) pa_nil))) ?_
    refine blk_nil ?_
    rcases hx with ⟨n, t, kk, rfl⟩ | ⟨p, xs, bs, rfl, t, ht, hl, hb, rfl⟩
    · exact ⟨_, rfl, _, _, _, _, false, rfl, .ty "tuple", t, kit_ty kk, _, rfl, iteT (iteT (q _ (Same.refl _)))⟩
    · refine ⟨_, rfl, _, _, _, _, true, rfl, .ty "tuple", t, kit_ty (by decide +kernel), _, rfl, iteF ?_⟩
      refine ⟨_, rfl, p, xs, rfl, .inr ht, _, _, rfl, rfl, _, rfl, ?_⟩
      by_cases h1 : 1 ≤ xs.length
      · rw [decide_eq_true (show (1 : Int) ≤ (xs.length : Int) by omega)]
        refine iteT ⟨_, _, rfl, rfl, _, rfl, ?_⟩
        by_cases h2 : xs.length ≤ 20000
        · rw [decide_eq_true (show (xs.length : Int) ≤ 20000 by omega)]
          refine iteF ?_
          have hbl : bs.length = xs.length := (Paired.length hb).symm
          refine ⟨.ref p, rfl, p, rfl, ⟨_, ht⟩, fun D nD => lc_tup (K := K) (a := p) (xs := xs) (fun i G => Same H G ∧ G D = some (.lst ((bs.take i).map V.bl))) ⟨same_new nD, upd_same⟩ (fun i G _ hP => same_seqT hP.1 ht) (fun i x G hxi hP => ?_) (fun G hP => ?_)⟩
          · obtain ⟨s1, gD⟩ := hP
            obtain ⟨b0, hb0, hn⟩ := paired_at hb hxi
            refine ⟨rfl, ?_⟩
            dsimp only [tYes]
            rw [if_pos rfl]
            refine ⟨x, rfl, x, 256, b0, rfl, hn.same s1, (bs.take i).map V.bl, gD, ?_, fun b o e => ?_, ?_⟩
            · rw [List.length_map, List.length_take, sizeLine_eq]
              omega
            · rw [upd_ne (ne_of_none e nD)]
              exact s1 _ _ e
            · rw [upd_same, List.take_add_one, hb0, List.map_append]
              rfl
          · obtain ⟨s1, gD⟩ := hP
            rw [← hbl, List.take_length] at gD
            refine ⟨D, bs, rfl, sqL gD, ?_⟩
            have e := q G s1
            rw [decide_eq_true ⟨h1, h2⟩, Bool.true_and] at e
            exact e
        · rw [decide_eq_false (show ¬ (xs.length : Int) ≤ 20000 by omega)]
          refine iteT ?_
          have e := q _ (Same.refl _)
          rw [decide_eq_false fun z => h2 z.2] at e
          exact e
      · rw [decide_eq_false (show ¬ (1 : Int) ≤ (xs.length : Int) by omega)]
        refine iteF ⟨_, rfl, iteT ?_⟩
        have e := q _ (Same.refl _)
        rw [decide_eq_false fun z => h1 z.1] at e
        exact e
end
end K6
namespace K6
open PySem PySem.Spec PyProof.Rows L2 Gd
/-- an event as data -/
def evD (e : Ev) : PyData := match e with
  | none => .none
  | some (a, o) => .tuple [.int (a : Int), .int o]
theorem noList_ev (evs : List Ev) : noListAll (evs.map evD) = true := noListAll_mem fun d hd => by
  obtain ⟨e, _, rfl⟩ := List.mem_map.mp hd
  cases e <;> rfl
/-! the fields of a disk -/
theorem pc_ : ¬ (("present" : Str) = "cells") := by decide +kernel
theorem hc_ : ¬ (("happened" : Str) = "cells") := by decide +kernel
theorem hp_ : ¬ (("happened" : Str) = "present") := by decide +kernel
theorem cp_ : ¬ (("cells" : Str) = "present") := fun z => pc_ z.symm
theorem ch_ : ¬ (("cells" : Str) = "happened") := fun z => hc_ z.symm
theorem ph_ : ¬ (("present" : Str) = "happened") := fun z => hp_ z.symm
def df (c l e : Addr) : List (Str × V) := putF "happened" (.ref e) (putF "present" (.ref l) (putF "cells" (.ref c) []))
theorem df_c (c l e : Addr) : (df c l e).lookup ("cells" : Str) = some (.ref c) := by unfold df; rw [lookup_putF, if_neg ch_, lookup_putF, if_neg cp_, lookup_putF, if_pos rfl]
theorem df_p (c l e : Addr) : (df c l e).lookup ("present" : Str) = some (.ref l) := by unfold df; rw [lookup_putF, if_neg ph_, lookup_putF, if_pos rfl]
theorem df_h (c l e : Addr) : (df c l e).lookup ("happened" : Str) = some (.ref e) := by unfold df; rw [lookup_putF, if_pos rfl]
theorem df_no (c l e : Addr) {m : Str} (h1 : ¬ m = "cells") (h2 : ¬ m = "present") (h3 : ¬ m = "happened") : (df c l e).lookup m = none := by
  unfold df
  rw [lookup_putF, if_neg h3, lookup_putF, if_neg h2, lookup_putF, if_neg h1]
  rfl
theorem len_putF (f : Str) (v : V) : ∀ fs : List (Str × V), (putF f v fs).length ≤ fs.length + 1
  | [] => Nat.le_refl _
  | (g, u) :: r => by
    have ih := len_putF f v r
    unfold putF
    split
    · exact Nat.le_succ _
    · exact Nat.succ_le_succ ih
structure DiskAt (K : PySem.W.Frag) (C : Addr) (H : Hp) (p dx c l e : Addr) (cells pres : List Int) (evs : List Ev) : Prop where
  obj : H p = some (.ins C dx (df c l e))
  cel : SqT K H c (cells.map V.int)
  pre : H l = some (.lst (pres.map V.int))
  hap : ∃ vs, H e = some (.lst vs) ∧ DpAll K H vs (evs.map evD)
  ne : l ≠ e
theorem DiskAt.frm {K : PySem.W.Frag} {C : Addr} {S : List Addr} {H G : Hp} {p dx c l e : Addr} {cells pres : List Int} {evs : List Ev} (d : DiskAt K C H p dx c l e cells pres evs) (f : Frm S H G) (n1 : l ∉ S) (n2 : e ∉ S) : DiskAt K C G p dx c l e cells pres evs := by
  obtain ⟨vs, h1, h2⟩ := d.hap
  exact ⟨f.kt _ _ d.obj (by intro _ q; cases q), f.seqT d.cel, f.ks _ _ n1 d.pre, ⟨vs, f.ks _ _ n2 h1, dpAll_keep f.kt _ _ (noList_ev evs) h2⟩, d.ne⟩
theorem DiskAt.same {K : PySem.W.Frag} {C : Addr} {H G : Hp} {p dx c l e : Addr} {cells pres : List Int} {evs : List Ev} (d : DiskAt K C H p dx c l e cells pres evs) (s : Same H G) : DiskAt K C G p dx c l e cells pres evs := d.frm (S := []) (.same s) List.not_mem_nil List.not_mem_nil
structure DTxt (K : PySem.W.Frag) (mg : Str → Option Value) (C : Addr) : Prop where
  cl : Cls K C
  nC : NoAttr K C "cells"
  nP : NoAttr K C "present"
  nH : NoAttr K C "happened"
  mgC : mg "Disk" = some (.ref C)
section
variable {P : Program} {w : World} {K : PySem.W.Frag} {mg : Str → Option Value} {base : Heap}
/-! ### look, put, flush, events -/
def spLook (K : PySem.W.Frag) (C : Addr) : Sp := fun vs H Q _ => ∃ (p dx c l e : Addr) (cells pres : List Int) (evs : List Ev) (a : Nat) (v : Int), vs = [.ref p, .int (a : Int)] ∧ DiskAt K C H p dx c l e cells pres evs ∧ pres[a]? = some v ∧ Q (.int v) H
theorem ok_look {f C : Addr} {fd : FuncData} {k : Nat} (F : Fun K "look" "Disk.look" s_Disk_look f fd) (T : DTxt K mg C) : FnOk P w K mg base CX0 (k + 1) f fd ["self", "at"] (spLook K C) := by
  refine F.ok sc_Disk_look (fun vs H Q E h => ?_) (fun cdv A outer s H vs Q E hr h => ?_)
  · obtain ⟨p, dx, c, l, e, cells, pres, evs, a, v, rfl, _⟩ := h
    rfl
  · obtain ⟨p, dx, c, l, e, cells, pres, evs, a, v, rfl, d, hv, q⟩ := h
    refine blk_cons (ps_ret (pe_ix ix_list (pe_fld (pv 0) rfl) (pv 1) (fun _ _ => rfl))) ?_
    refine blk_nil ?_
    exact ⟨_, rfl, p, C, dx, _, _, rfl, d.obj, T.cl, T.nP, df_p _ _ _, _, rfl, l, _, _, .int v, rfl, rfl, sqL d.pre, atI_nat (by rw [List.getElem?_map, hv]; rfl), q⟩
def spPut (K : PySem.W.Frag) (C : Addr) : Sp := fun vs H Q _ => ∃ (p dx c l e : Addr) (cells pres : List Int) (evs : List Ev) (a : Nat) (o : Int), vs = [.ref p, .int (a : Int), .int o] ∧ DiskAt K C H p dx c l e cells pres evs ∧ a < pres.length ∧ evs.length ≤ 1000000 ∧
  ∀ G, Frm [l, e] H G → DiskAt K C G p dx c l e cells (pres.set a o) (evs ++ [some (a, o)]) → Q .non G
theorem ok_put {f C : Addr} {fd : FuncData} {k : Nat} (F : Fun K "put" "Disk.put" s_Disk_put f fd) (T : DTxt K mg C) : FnOk P w K mg base CX0 (k + 1) f fd ["self", "at", "octet"] (spPut K C) := by
  refine F.ok sc_Disk_put (fun vs H Q E h => ?_) (fun cdv A outer s H vs Q E hr h => ?_)
  · obtain ⟨p, dx, c, l, e, cells, pres, evs, a, o, rfl, _⟩ := h
    rfl
  · obtain ⟨p, dx, c, l, e, cells, pres, evs, a, o, rfl, d, ha, hl, q⟩ := h
    refine blk_cons (ps_asg (pv 2) (pg_sub (pe_fld (pv 0) rfl) (pv 1) set_list)) ?_
    refine blk_cons (ps_expr (pe_bm PySem.F.plainAttrs_list PySem.F.slot_list_append PySem.F.type_list_append mt_append (pe_fld (pv 0) rfl) (pa_cons (pe_tup (pa_cons (pv 1) (pa_cons (pv 2) pa_nil))) pa_nil))) ?_
    refine blk_nil ?_
    obtain ⟨vs, h1, h2⟩ := d.hap
    have npl : p ≠ l := ne_of d.obj d.pre (by intro z; cases z)
    have npe : p ≠ e := ne_of d.obj h1 (by intro z; cases z)
    refine ⟨_, rfl, _, rfl, p, C, dx, _, _, rfl, d.obj, T.cl, T.nP, df_p _ _ _, _, rfl, l, _, _, a, rfl, rfl, d.pre, ixN_nat (by rw [List.length_map]; exact ha), ?_⟩
    have f1 : Frm [l, e] H (upd H l (.lst ((pres.map V.int).set a (.int o)))) := .put d.pre (by simp)
    have h1' : (upd H l (.lst ((pres.map V.int).set a (.int o)))) e = some (.lst vs) := (upd_ne d.ne.symm).trans h1
    refine ⟨_, rfl, p, C, dx, _, _, rfl, (upd_ne npl).trans d.obj, T.cl, T.nH, df_h _ _ _, .inl ⟨rfl, _, sqL h1'⟩, _, rfl, _, rfl, by show 2 ≤ sizeLine; decide, fun t nt => ?_⟩
    have f2 := f1.trans (.new (S := [l, e]) (o := .tup [.int (a : Int), .int o]) nt)
    have h1'' := (upd_ne (o := .tup [.int (a : Int), .int o]) (ne_of_none h1' nt)).trans h1'
    have nte : t ≠ e := (ne_of_none h1' nt).symm
    have ntl : l ≠ t := ne_of_none (upd_same (H := H)) nt
    refine ⟨e, vs, _, rfl, rfl, h1'', ?_, ?_⟩
    · rw [dpAll_len h2, List.length_map]
      rw [sizeLine_eq]; omega
    have f3 := f2.trans (.put (S := [l, e]) (o := .lst (vs ++ [.ref t])) h1'' (by simp))
    refine q _ f3 ⟨f3.kt _ _ d.obj (by intro _ z; cases z), f3.seqT d.cel, ?_, ⟨_, upd_same, ?_⟩, d.ne⟩
    · rw [upd_ne d.ne, upd_ne ntl, upd_same, List.map_set]
    · rw [List.map_append]
      refine dpAll_snoc (dpAll_keep f3.kt _ _ (noList_ev evs) h2) ?_
      exact .tup (sqT ((upd_ne nte).trans upd_same)) (.cons (.int _) (.cons (.int _) .nil))
def spFlush (K : PySem.W.Frag) (C : Addr) : Sp := fun vs H Q _ => ∃ (p dx c l e : Addr) (cells pres : List Int) (evs : List Ev), vs = [.ref p] ∧ DiskAt K C H p dx c l e cells pres evs ∧ evs.length ≤ 1000000 ∧
  ∀ G, Frm [l, e] H G → DiskAt K C G p dx c l e cells pres (evs ++ [none]) → Q .non G
theorem ok_flush {f C : Addr} {fd : FuncData} {k : Nat} (F : Fun K "flush" "Disk.flush" s_Disk_flush f fd) (T : DTxt K mg C) : FnOk P w K mg base CX0 (k + 1) f fd ["self"] (spFlush K C) := by
  refine F.ok sc_Disk_flush (fun vs H Q E h => ?_) (fun cdv A outer s H vs Q E hr h => ?_)
  · obtain ⟨p, dx, c, l, e, cells, pres, evs, rfl, _⟩ := h
    rfl
  · obtain ⟨p, dx, c, l, e, cells, pres, evs, rfl, d, hl, q⟩ := h
    refine blk_cons (ps_expr (pe_bm PySem.F.plainAttrs_list PySem.F.slot_list_append PySem.F.type_list_append mt_append (pe_fld (pv 0) rfl) (pa_cons pe_non pa_nil))) ?_
    refine blk_nil ?_
    obtain ⟨vs, h1, h2⟩ := d.hap
    refine ⟨_, rfl, p, C, dx, _, _, rfl, d.obj, T.cl, T.nH, df_h _ _ _, .inl ⟨rfl, _, sqL h1⟩, e, vs, _, rfl, rfl, h1, ?_, ?_⟩
    · rw [dpAll_len h2, List.length_map]
      rw [sizeLine_eq]; omega
    have f1 : Frm [l, e] H (upd H e (.lst (vs ++ [.non]))) := .put h1 (by simp)
    refine q _ f1 ⟨f1.kt _ _ d.obj (by intro _ z; cases z), f1.seqT d.cel, (upd_ne d.ne).trans d.pre, ⟨_, upd_same, ?_⟩, d.ne⟩
    rw [List.map_append]
    exact dpAll_snoc (dpAll_keep f1.kt _ _ (noList_ev evs) h2) .non
def spEvents (K : PySem.W.Frag) (C : Addr) : Sp := fun vs H Q _ => ∃ (p dx c l e : Addr) (cells pres : List Int) (evs : List Ev), vs = [.ref p] ∧ DiskAt K C H p dx c l e cells pres evs ∧
  ∀ G t us, Same H G → SqT K G t us → DpAll K G us (evs.map evD) → Q (.ref t) G
theorem ok_events {f C : Addr} {fd : FuncData} {k : Nat} (F : Fun K "events" "Disk.events" s_Disk_events f fd) (T : DTxt K mg C) (mt : mg "tuple" = none) : FnOk P w K mg base CX0 (k + 1) f fd ["self"] (spEvents K C) := by
  refine F.ok sc_Disk_events (fun vs H Q E h => ?_) (fun cdv A outer s H vs Q E hr h => ?_)
  · obtain ⟨p, dx, c, l, e, cells, pres, evs, rfl, _⟩ := h
    rfl
  · obtain ⟨p, dx, c, l, e, cells, pres, evs, rfl, d, q⟩ := h
    refine blk_cons (ps_ret (pe_callTy call_tuple_of (by rfl) mt (by decide +kernel) (pa_cons (pe_fld (pv 0) rfl) pa_nil))) ?_
    refine blk_nil ?_
    obtain ⟨vs, h1, h2⟩ := d.hap
    exact ⟨_, rfl, p, C, dx, _, _, rfl, d.obj, T.cl, T.nH, df_h _ _ _, e, vs, rfl, .inl ⟨sqL h1, fun t nt => q _ t vs (same_new nt) (sqT upd_same) (dpAll_same (same_new nt) _ _ h2)⟩⟩
/-! ### a disk of good cells -/
def spInit (K : PySem.W.Frag) (C : Addr) : Sp := fun vs H Q _ => ∃ (p dx c : Addr) (ns : List Int), vs = [.ref p, .ref c] ∧ H p = some (.ins C dx []) ∧ CellsV K H (.ref c) true ∧ SqT K H c (ns.map V.int) ∧
  ∀ G l e, (∀ b o, b ≠ p → H b = some o → G b = some o) → H l = none → H e = none → DiskAt K C G p dx c l e ns ns [] → Q .non G
theorem ok_init {f C fC : Addr} {fd fdC : FuncData} {k : Nat} (F : Fun K "__init__" "Disk.__init__" s_Disk_init f fd) (T : DTxt K mg C) (FC : Fun K "are_cells" "are_cells" s_are_cells fC fdC) (bC : Binds K fdC ["value"] []) (gC : mg "are_cells" = some (.ref fC))
    (GC : FnOk P w K mg base CX0 (k + 1) fC fdC ["value"] (spCells K)) (mL : mg "list" = none) : FnOk P w K mg base CX0 (k + 1 + 1) f fd ["self", "cells"] (spInit K C) := by
  refine F.ok sc_Disk_init (fun vs H Q E h => ?_) (fun cdv A outer s H vs Q E hr h => ?_)
  · obtain ⟨p, dx, c, ns, rfl, _⟩ := h
    rfl
  · obtain ⟨p, dx, c, ns, rfl, hp, hc, ht, q⟩ := h
    refine blk_cons (ps_if (pt_not (pt_val (pe_call GC hr (by rfl) gC FC.kp bC .nil pass0 (pa_cons (pv 1) pa_nil)))) (pss_one ps_never) pss_nil) ?_
    refine blk_cons (ps_fld (pv 0) (pv 1) rfl) ?_
    refine blk_cons (ps_fld (pv 0) (pe_callTy call_list_of (by rfl) mL (by decide +kernel) (pa_cons (pv 1) pa_nil)) rfl) ?_
    refine blk_cons (ps_fld (pv 0) (pe_lst pa_nil) rfl) ?_
    refine blk_nil ?_
    refine ⟨_, rfl, .ref c, true, rfl, hc, fun G1 s1 => ⟨_, rfl, iteF ?_⟩⟩
    have hp1 := s1 _ _ hp
    have ht1 := same_seqT s1 ht
    have ncp : ∀ {o : HO} {G : Hp}, G p = some (.ins C dx []) → SqT K G c (ns.map V.int) → SqT K (upd G p o) c (ns.map V.int) := fun {o G} e h => by
      rcases h with (z | ⟨o', z⟩) | z
      · exact .inl (.inl ((upd_ne (ne_of z e (by intro q; cases q))).trans z))
      · exact .inl (.inr ⟨o', (upd_ne (ne_of z e (by intro q; cases q))).trans z⟩)
      · exact .inr z
    refine ⟨_, rfl, _, rfl, p, C, dx, _, rfl, hp1, T.cl, T.nC, by show 0 < 1000; decide, ?_⟩
    have ht2 := ncp (o := .ins C dx (putF "cells" (.ref c) [])) hp1 ht1
    refine ⟨.ref c, rfl, c, _, rfl, .inr ht2, fun l nl => ⟨_, rfl, p, C, dx, _, rfl, (upd_ne (ne_of_none upd_same nl)).trans upd_same, T.cl, T.nP, by show 1 < 1000; decide, ?_⟩⟩
    refine ⟨Nat.zero_le _, fun e ne => ?_⟩
    have npl : p ≠ l := ne_of_none upd_same nl
    have npe : p ≠ e := ne_of_none upd_same ne
    have nle : l ≠ e := by
      have z : (upd (upd (upd G1 p (.ins C dx (putF "cells" (.ref c) []))) l (.lst (ns.map V.int))) p (.ins C dx (putF "present" (.ref l) (putF "cells" (.ref c) [])))) l = some (.lst (ns.map V.int)) := (upd_ne npl.symm).trans upd_same
      exact ne_of_none z ne
    refine ⟨_, rfl, p, C, dx, _, rfl, (upd_ne npe).trans upd_same, T.cl, T.nH, Nat.lt_of_le_of_lt (len_putF _ _ _) (by show 2 < 1000; decide), ?_⟩
    have nl0 : H l = none := by
      cases z : H l with
      | none => rfl
      | some o => exact nomatch ((upd_ne npl.symm).trans (s1 _ _ z)).symm.trans nl
    have ne0 : H e = none := by
      cases z : H e with
      | none => rfl
      | some o => exact nomatch ((upd_ne npe.symm).trans ((upd_ne (Ne.symm nle)).trans ((upd_ne npe.symm).trans (s1 _ _ z)))).symm.trans ne
    have keep : ∀ b o, b ≠ p → H b = some o → (upd (upd (upd (upd (upd G1 p (.ins C dx (putF "cells" (.ref c) []))) l (.lst (ns.map V.int))) p (.ins C dx (putF "present" (.ref l) (putF "cells" (.ref c) [])))) e (.lst [])) p (.ins C dx (df c l e))) b = some o := fun b o hb z =>
      (upd_ne hb).trans ((upd_ne (ne_of_none z ne0)).trans ((upd_ne hb).trans ((upd_ne (ne_of_none z nl0)).trans ((upd_ne hb).trans (s1 _ _ z)))))
    refine q _ l e keep nl0 ne0 ⟨upd_same, ?_, ?_, ⟨[], (upd_ne npe.symm).trans upd_same, .nil⟩, nle⟩
    · rcases ht with (z | ⟨o', z⟩) | z
      · exact .inl (.inl (keep _ _ (ne_of z hp (by intro q; cases q)) z))
      · exact .inl (.inr ⟨o', keep _ _ (ne_of z hp (by intro q; cases q)) z⟩)
      · exact .inr z
    · rw [upd_ne npl.symm, upd_ne nle, upd_ne npl.symm, upd_same]
end
end K6
/-! What a call of a journal does, and what a cut in it leaves. -/
namespace K6
open PySem
def putsAt : Nat → List Int → List Ev
  | _, [] => []
  | i, o :: r => some (i, o) :: putsAt (i + 1) r
theorem putsAt_len : ∀ (os : List Int) (i : Nat), (putsAt i os).length = os.length
  | [], _ => rfl
  | o :: r, i => by rw [putsAt, List.length_cons, putsAt_len r, List.length_cons]
theorem putsAt_snoc : ∀ (os : List Int) (i : Nat) (o : Int), putsAt i (os ++ [o]) = putsAt i os ++ [some (i + os.length, o)]
  | [], i, o => rfl
  | x :: r, i, o => by
    rw [List.cons_append, putsAt, putsAt_snoc r (i + 1) o, putsAt, List.cons_append, List.length_cons, show i + 1 + r.length = i + (r.length + 1) by omega]
theorem putsAt_mem : ∀ {os : List Int} {i : Nat} {e : Ev}, e ∈ putsAt i os → ∃ k o, e = some (i + k, o) ∧ os[k]? = some o
  | [], _, _, h => absurd h List.not_mem_nil
  | x :: r, i, e, h => by
    rcases List.mem_cons.mp h with z | z
    · exact ⟨0, x, z, rfl⟩
    · obtain ⟨k, o, e1, e2⟩ := putsAt_mem z
      exact ⟨k + 1, o, by rw [e1, show i + 1 + k = i + (k + 1) by omega], e2⟩
theorem puts_other : ∀ (os : List Int) (now : List Int) (i k : Nat), (k < i ∨ i + os.length ≤ k) → (replay now (putsAt i os))[k]? = now[k]?
  | [], now, i, k, _ => rfl
  | o :: r, now, i, k, h => by
    show (replay (now.set i o) (putsAt (i + 1) r))[k]? = _
    rw [List.length_cons] at h
    rw [puts_other r _ (i + 1) k (by omega), List.getElem?_set_ne (by omega)]
theorem puts_at : ∀ (os : List Int) (now : List Int) (i : Nat), i + os.length ≤ now.length → At (replay now (putsAt i os)) i os
  | [], _, _, _, k, o, e => by simp at e
  | x :: r, now, i, h, k, o, e => by
    show (replay (now.set i x) (putsAt (i + 1) r))[i + k]? = _
    rw [List.length_cons] at h
    match k, e with
    | 0, e =>
      obtain rfl : x = o := by simpa using e
      rw [puts_other r _ (i + 1) (i + 0) (by omega), Nat.add_zero, List.getElem?_set_self (by omega)]
    | k + 1, e =>
      have := puts_at r (now.set i x) (i + 1) (by rw [List.length_set]; omega) k o (by simpa using e)
      rw [show i + (k + 1) = i + 1 + k by omega]
      exact this
/-- what put_chain puts -/
def chainPuts (i : Nat) (os : List Int) (stop : Nat) : List Ev := putsAt i os ++ (if i + os.length < stop then [some (i + os.length, 0)] else [])
theorem chainPuts_mem {i stop : Nat} {os : List Int} {e : Ev} (h : e ∈ chainPuts i os stop) (hs : i + os.length ≤ stop) : ∃ a o, e = some (a, o) ∧ i ≤ a ∧ a < stop ∧ (o ∈ os ∨ o = 0) := by
  rcases List.mem_append.mp h with z | z
  · obtain ⟨k, o, e1, e2⟩ := putsAt_mem z
    have hk := (List.getElem?_eq_some_iff.mp e2).1
    exact ⟨i + k, o, e1, by omega, by omega, .inl (List.mem_of_getElem? e2)⟩
  · split at z
    · exact ⟨i + os.length, 0, List.mem_singleton.mp z, by omega, by omega, .inr rfl⟩
    · exact absurd z List.not_mem_nil
theorem chainPuts_other {i stop k : Nat} {os now : List Int} (hs : i + os.length ≤ stop) (h : k < i ∨ stop ≤ k) : (replay now (chainPuts i os stop))[k]? = now[k]? := by
  unfold chainPuts
  rw [replay_app]
  split
  · show ((replay now (putsAt i os)).set (i + os.length) 0)[k]? = _
    rw [List.getElem?_set_ne (by omega), puts_other _ _ _ _ (by omega)]
  · show (replay now (putsAt i os))[k]? = _
    exact puts_other _ _ _ _ (by omega)
theorem chainPuts_at {i stop : Nat} {os now : List Int} (hs : i + os.length ≤ stop) (hl : stop ≤ now.length) : At (replay now (chainPuts i os stop)) i os ∧ (i + os.length < stop → (replay now (chainPuts i os stop))[i + os.length]? = some 0) := by
  unfold chainPuts
  rw [replay_app]
  constructor
  · intro k o e
    have hk := (List.getElem?_eq_some_iff.mp e).1
    split
    · show ((replay now (putsAt i os)).set (i + os.length) 0)[i + k]? = _
      rw [List.getElem?_set_ne (by omega)]
      exact puts_at _ _ _ (by omega) k o e
    · exact puts_at _ _ _ (by omega) k o e
  · intro h
    rw [if_pos h]
    show ((replay now (putsAt i os)).set (i + os.length) 0)[i + os.length]? = _
    rw [List.getElem?_set_self]
    rw [replay_len]
    omega
/-- puts alone -/
theorem look3_puts {P : List Ev} (h : ∀ e ∈ P, e ≠ none) (now : List Int) : ∃ ps, look3 now P = ⟨now, ps, replay now P⟩ ∧ ∀ a ∈ ps, ∃ o, some (a, o) ∈ P := by
  have key : ∀ (l : List Ev) (s : L3), (∀ e ∈ l, e ≠ none) → ∃ qs, l.foldl st3 s = ⟨s.lasts, s.pend ++ qs, l.foldl act s.now⟩ ∧ ∀ a ∈ qs, ∃ o, some (a, o) ∈ l := by
    intro l
    induction l with
    | nil => exact fun s _ => ⟨[], by rw [List.append_nil]; rfl, fun a h => absurd h List.not_mem_nil⟩
    | cons e r ih =>
      intro s h
      cases e with
      | none => exact absurd rfl (h none List.mem_cons_self)
      | some p =>
        obtain ⟨qs, e1, e2⟩ := ih (st3 s (some p)) fun e he => h e (List.mem_cons_of_mem _ he)
        refine ⟨p.1 :: qs, ?_, fun a ha => ?_⟩
        · rw [List.foldl_cons, e1]
          show L3.mk _ ((s.pend ++ [p.1]) ++ qs) _ = _
          rw [List.append_assoc]
          rfl
        · rcases List.mem_cons.mp ha with z | z
          · exact ⟨p.2, by rw [z]; exact List.mem_cons_self⟩
          · obtain ⟨o, ho⟩ := e2 a z
            exact ⟨o, List.mem_cons_of_mem _ ho⟩
  obtain ⟨qs, e1, e2⟩ := key P ⟨now, [], now⟩ h
  exact ⟨qs, by unfold look3; rw [e1]; rfl, e2⟩
/-! the two banks -/
def bbeg (n b : Nat) : Nat := 1 + b * ((n - 1) / 2)
def bend (n b : Nat) : Nat := bbeg n (b + 1)
theorem bend_eq (n b : Nat) : bend n b = bbeg n b + (n - 1) / 2 := by
  unfold bend bbeg
  rw [Nat.succ_mul]
  omega
theorem bend_le {n b : Nat} (h : 1 ≤ n) (hb : b ≤ 1) : bend n b ≤ n := by
  have : b = 0 ∨ b = 1 := by omega
  rcases this with rfl | rfl
  · unfold bend bbeg
    omega
  · unfold bend bbeg
    omega
/-- a journal's state: its bank, its end, its records -/
structure Jst (now : List Int) (b e : Nat) (rs : List (List Int)) : Prop where
  sel : ∃ s : Int, now[0]? = some s ∧ s % 2 = (b : Int)
  b1 : b ≤ 1
  ch : Chain now (bend now.length b) (bbeg now.length b) rs e
def Jr (now : List Int) (rs : List (List Int)) : Prop := ∃ b e, Jst now b e rs
theorem Jr.one {now : List Int} {rs ss : List (List Int)} (h : Jr now rs) (g : Jr now ss) : rs = ss := by
  obtain ⟨b, e, ⟨s, h1, h2⟩, h3, h4⟩ := h
  obtain ⟨c, f, ⟨t, g1, g2⟩, g3, g4⟩ := g
  rw [h1] at g1
  cases g1
  have : b = c := by omega
  subst this
  exact (chain_one h4 g4).1
/-- two phases: puts, flush, one put, flush -/
def twoEv (P : List Ev) (x : Nat) (v : Int) : List Ev := P ++ [none, some (x, v), none]
theorem twoEv_flushed (P : List Ev) (x : Nat) (v : Int) : Flushed (twoEv P x v) := .inr ⟨P ++ [none, some (x, v)], by unfold twoEv; rw [List.append_assoc]; rfl⟩
theorem cut_two {now : List Int} {P : List Ev} {x : Nat} {v : Int} {rs ss : List (List Int)} (hP : ∀ e ∈ P, e ≠ none)
    (H1 : ∀ cs : List Int, cs.length = now.length → (∀ o ∈ cs, Oct o) → (∀ a, (∀ o, some (a, o) ∉ P) → cs[a]? = now[a]?) → Jr cs rs)
    (H2 : ∀ cs : List Int, cs.length = now.length → (∀ o ∈ cs, Oct o) → (∀ a, a ≠ x → cs[a]? = (replay now P)[a]?) → Jr cs rs ∨ Jr cs ss)
    (H3 : Jr ((replay now P).set x v) ss) {k : Nat} (hk : k ≤ (twoEv P x v).length) {cs : List Int} (L : Left (look3 now ((twoEv P x v).take k)) cs) :
    (Jr cs rs ∨ Jr cs ss) ∧ (k = 0 → Jr cs rs) ∧ (k = (twoEv P x v).length → Jr cs ss) := by
  have lE : (twoEv P x v).length = P.length + 3 := by unfold twoEv; rw [List.length_append]; rfl
  have l0 := (look3_ok now ((twoEv P x v).take k)).l1
  have lc : cs.length = now.length := L.len.trans l0
  rw [lE] at hk
  by_cases h1 : k ≤ P.length
  · have e : (twoEv P x v).take k = P.take k := by unfold twoEv; rw [List.take_append_of_le_length h1]
    rw [e] at L
    obtain ⟨ps, e1, e2⟩ := look3_puts (P := P.take k) (fun e he => hP e ((List.take_sublist k P).mem he)) now
    rw [e1] at L
    have j := H1 cs lc L.oct fun a ha => L.eq a fun z => by
      obtain ⟨o, ho⟩ := e2 a z
      exact ha o ((List.take_sublist k P).mem ho)
    exact ⟨.inl j, fun _ => j, fun z => by omega⟩
  · have e0 : (twoEv P x v).take k = P ++ ([none, some (x, v), none] : List Ev).take (k - P.length) := by
      unfold twoEv
      rw [List.take_append, List.take_of_length_le (by omega)]
    rw [e0] at L
    obtain ⟨ps, e1, e2⟩ := look3_puts hP now
    have f1 : look3 now (P ++ [none]) = ⟨replay now P, [], replay now P⟩ := by
      rw [look3_snoc, e1]
      rfl
    have hk3 : k - P.length = 1 ∨ k - P.length = 2 ∨ k - P.length = 3 := by omega
    rcases hk3 with z | z | z
    · rw [z] at L
      have L' : Left (look3 now (P ++ [none])) cs := L
      rw [f1] at L'
      exact ⟨H2 cs lc L.oct fun a _ => L'.eq a List.not_mem_nil, fun z => by omega, fun z => by omega⟩
    · rw [z] at L
      have L' : Left (look3 now (P ++ [none, some (x, v)])) cs := L
      have f2 : look3 now (P ++ [none, some (x, v)]) = ⟨replay now P, [x], (replay now P).set x v⟩ := by
        rw [show P ++ [none, some (x, v)] = (P ++ [none]) ++ [some (x, v)] by simp, look3_snoc, f1]
        rfl
      rw [f2] at L'
      exact ⟨H2 cs lc L.oct fun a ha => L'.eq a fun m => ha (List.mem_singleton.mp m), fun z => by omega, fun z => by omega⟩
    · rw [z] at L
      have L' : Left (look3 now (P ++ [none, some (x, v), none])) cs := L
      have f2 : look3 now (P ++ [none, some (x, v), none]) = ⟨(replay now P).set x v, [], (replay now P).set x v⟩ := by
        rw [show P ++ [none, some (x, v), none] = ((P ++ [none]) ++ [some (x, v)]) ++ [none] by simp, look3_snoc, look3_snoc, f1]
        rfl
      rw [f2] at L'
      have e : cs = (replay now P).set x v := List.ext_getElem? fun a => L'.eq a List.not_mem_nil
      rw [e]
      exact ⟨.inr H3, fun z => by omega, fun _ => H3⟩
theorem twoEv_now (now : List Int) (P : List Ev) (x : Nat) (v : Int) : replay now (twoEv P x v) = (replay now P).set x v := by
  unfold twoEv
  rw [replay_app]
  rfl
/-- what write puts -/
def wPuts (e : Nat) (r : List Int) (stop : Nat) : List Ev := chainPuts (e + 1) (linkOf r).tail stop
theorem tail_len (r : List Int) : (linkOf r).tail.length = r.length + 2 := rfl
section
variable {now : List Int} {b e : Nat} {rs : List (List Int)} {r : List Int}
theorem w_new (J : Jst now b e rs) (hn : 1 ≤ now.length) (hr : r.length < 65536) (hs : e + r.length + 3 ≤ bend now.length b) {cs : List Int} (lc : cs.length = now.length) (hc : ∀ a, a ≠ e → cs[a]? = (replay now (wPuts e r (bend now.length b)))[a]?) {o : Int} (ho : cs[e]? = some o) :
    (o = 0 → Jst cs b e rs) ∧ (o ≠ 0 → Jst cs b (e + r.length + 3) (rs ++ [r])) := by
  obtain ⟨⟨s, s1, s2⟩, b1, ch⟩ := J
  have le := chain_le ch
  have hb := bend_le hn b1
  have hle : 1 ≤ bbeg now.length b := by unfold bbeg; omega
  have oth : ∀ a, a < e → cs[a]? = now[a]? := fun a ha => by
    rw [hc a (by omega)]
    exact chainPuts_other (by rw [tail_len]; omega) (.inl (by omega))
  have h0 : cs[0]? = some s := by rw [oth 0 (by omega)]; exact s1
  constructor
  · intro z
    refine ⟨⟨s, h0, s2⟩, b1, ?_⟩
    rw [lc]
    exact chain_same ch (fun k _ hk => oth k hk) fun _ => by rw [ho, z]
  · intro z
    refine ⟨⟨s, h0, s2⟩, b1, ?_⟩
    rw [lc]
    obtain ⟨a1, a2⟩ := chainPuts_at (i := e + 1) (stop := bend now.length b) (os := (linkOf r).tail) (now := now) (by rw [tail_len]; omega) hb
    have g : ∀ k o, (linkOf r).tail[k]? = some o → cs[e + 1 + k]? = some o := fun k o ek => (hc _ (by omega)).trans (a1 k o ek)
    have at3 : At cs (e + 3) r := fun k o ek => by
      rw [show e + 3 + k = e + 1 + (k + 2) by omega]
      exact g (k + 2) o ek
    have c1 : Chain cs (bend now.length b) e [(cs.drop (e + 3)).take r.length] (e + 3 + r.length) := .cons (x := o) (hi := ((r.length / 256 : Nat) : Int)) (lo := ((r.length % 256 : Nat) : Int)) (by omega) ho z (g 0 _ rfl) (g 1 _ rfl) (by omega) (by omega) (.nil (by omega) fun hlt => by
      rw [show e + 3 + r.length = e + 1 + (linkOf r).tail.length by rw [tail_len]; omega] at hlt ⊢
      rw [hc _ (by omega)]
      exact a2 hlt)
    rw [at_drop at3] at c1
    rw [show e + r.length + 3 = e + 3 + r.length by omega]
    exact chain_snoc ch (fun k _ hk => oth k hk) c1
/-- what write leaves -/
theorem w_after (J : Jst now b e rs) (hn : 1 ≤ now.length) (hr : r.length < 65536) (hs : e + r.length + 3 ≤ bend now.length b) : Jst (replay now (twoEv (wPuts e r (bend now.length b)) e 1)) b (e + r.length + 3) (rs ++ [r]) := by
  have hb := bend_le hn J.b1
  rw [twoEv_now]
  refine (w_new J hn hr hs (by rw [List.length_set, replay_len]) (fun a ha => by rw [List.getElem?_set_ne (Ne.symm ha)]) (o := 1) (List.getElem?_set_self (by rw [replay_len]; omega))).2 (by decide)
theorem w_cut (J : Jst now b e rs) (hn : 1 ≤ now.length) (hr : r.length < 65536) (hs : e + r.length + 3 ≤ bend now.length b) {k : Nat} (hk : k ≤ (twoEv (wPuts e r (bend now.length b)) e 1).length) {cs : List Int} (L : Left (look3 now ((twoEv (wPuts e r (bend now.length b)) e 1).take k)) cs) :
    (Jr cs rs ∨ Jr cs (rs ++ [r])) ∧ (k = 0 → Jr cs rs) ∧ (k = (twoEv (wPuts e r (bend now.length b)) e 1).length → Jr cs (rs ++ [r])) := by
  have hb := bend_le hn J.b1
  have le := chain_le J.ch
  have hle : 1 ≤ bbeg now.length b := by unfold bbeg; omega
  refine cut_two (fun ev he z => ?_) (fun cs lc _ hc => ?_) (fun cs lc _ hc => ?_) ?_ hk L
  · obtain ⟨a, o, e1, _⟩ := chainPuts_mem he (by rw [tail_len]; omega)
    rw [e1] at z
    cases z
  · have oth : ∀ a, a ≤ e → cs[a]? = now[a]? := fun a ha => hc a fun o m => by
      obtain ⟨a', o', e1, g1, _⟩ := chainPuts_mem m (by rw [tail_len]; omega)
      cases e1
      omega
    obtain ⟨⟨s, s1, s2⟩, b1, ch⟩ := J
    refine ⟨b, e, ⟨s, by rw [oth 0 (by omega)]; exact s1, s2⟩, b1, ?_⟩
    rw [lc]
    exact chain_same ch (fun k _ hk => oth k (by omega)) fun hlt => by rw [oth e (Nat.le_refl _)]; exact le.2.2 hlt
  · obtain ⟨o, ho⟩ : ∃ o, cs[e]? = some o := ⟨_, List.getElem?_eq_getElem (by omega)⟩
    have w := w_new J hn hr hs lc hc ho
    by_cases z : o = 0
    · exact .inl ⟨_, _, w.1 z⟩
    · exact .inr ⟨_, _, w.2 z⟩
  · have := w_after J hn hr hs
    rw [twoEv_now] at this
    exact ⟨_, _, this⟩
/-- what renew puts -/
def rPuts (n b : Nat) (ss : List (List Int)) : List Ev := chainPuts (bbeg n (1 - b)) (ss.map linkOf).flatten (bend n (1 - b))
theorem flat_len : ∀ ss : List (List Int), (ss.map linkOf).flatten.length = sizeOf3 ss
  | [] => rfl
  | r :: ss => by
    show (linkOf r ++ (ss.map linkOf).flatten).length = r.length + 3 + sizeOf3 ss
    rw [List.length_append, linkOf_len, flat_len ss]
theorem banks {n b : Nat} (hb : b ≤ 1) : (bend n b ≤ bbeg n (1 - b) ∨ bend n (1 - b) ≤ bbeg n b) ∧ 1 ≤ bbeg n b ∧ 1 ≤ bbeg n (1 - b) := by
  have : b = 0 ∨ b = 1 := by omega
  rcases this with rfl | rfl
  · unfold bend bbeg; omega
  · unfold bend bbeg; omega
theorem r_new (J : Jst now b e rs) (hn : 1 ≤ now.length) {ss : List (List Int)} (hr : ∀ r ∈ ss, r.length < 65536) (hs : bbeg now.length (1 - b) + sizeOf3 ss ≤ bend now.length (1 - b)) {cs : List Int} (lc : cs.length = now.length) (hc : ∀ a, a ≠ 0 → cs[a]? = (replay now (rPuts now.length b ss))[a]?) {o : Int} (ho : cs[0]? = some o) :
    (o % 2 = (b : Int) → Jst cs b e rs) ∧ (o % 2 = ((1 - b : Nat) : Int) → Jst cs (1 - b) (bbeg now.length (1 - b) + sizeOf3 ss) ss) := by
  obtain ⟨_, b1, ch⟩ := J
  have le := chain_le ch
  obtain ⟨bk, bk1, bk2⟩ := banks (n := now.length) b1
  have hb := bend_le hn (show 1 - b ≤ 1 by omega)
  have hf := flat_len ss
  constructor
  · intro z
    refine ⟨⟨o, ho, z⟩, b1, ?_⟩
    rw [lc]
    have oth : ∀ a, bbeg now.length b ≤ a → a < bend now.length b → cs[a]? = now[a]? := fun a h1 h2 => by
      rw [hc a (by omega)]
      exact chainPuts_other (by rw [hf]; omega) (by omega)
    exact chain_same ch (fun k h1 h2 => oth k h1 (by omega)) fun hlt => by rw [oth e (by omega) hlt]; exact le.2.2 hlt
  · intro z
    refine ⟨⟨o, ho, z⟩, by omega, ?_⟩
    rw [lc]
    obtain ⟨a1, a2⟩ := chainPuts_at (i := bbeg now.length (1 - b)) (stop := bend now.length (1 - b)) (os := (ss.map linkOf).flatten) (now := now) (by rw [hf]; omega) hb
    rw [hf] at a2
    exact chain_of hr (fun k o ek => (hc _ (by omega)).trans (a1 k o ek)) hs fun hlt => (hc _ (by omega)).trans (a2 hlt)
theorem r_after (J : Jst now b e rs) (hn : 1 ≤ now.length) {ss : List (List Int)} (hr : ∀ r ∈ ss, r.length < 65536) (hs : bbeg now.length (1 - b) + sizeOf3 ss ≤ bend now.length (1 - b)) : Jst (replay now (twoEv (rPuts now.length b ss) 0 ((1 - b : Nat) : Int))) (1 - b) (bbeg now.length (1 - b) + sizeOf3 ss) ss := by
  rw [twoEv_now]
  refine (r_new J hn hr hs (by rw [List.length_set, replay_len]) (fun a ha => by rw [List.getElem?_set_ne (Ne.symm ha)]) (o := ((1 - b : Nat) : Int)) (List.getElem?_set_self (by rw [replay_len]; omega))).2 ?_
  have := J.b1
  omega
theorem r_cut (J : Jst now b e rs) (hn : 1 ≤ now.length) {ss : List (List Int)} (hr : ∀ r ∈ ss, r.length < 65536) (hs : bbeg now.length (1 - b) + sizeOf3 ss ≤ bend now.length (1 - b)) {k : Nat} (hk : k ≤ (twoEv (rPuts now.length b ss) 0 ((1 - b : Nat) : Int)).length) {cs : List Int} (L : Left (look3 now ((twoEv (rPuts now.length b ss) 0 ((1 - b : Nat) : Int)).take k)) cs) :
    (Jr cs rs ∨ Jr cs ss) ∧ (k = 0 → Jr cs rs) ∧ (k = (twoEv (rPuts now.length b ss) 0 ((1 - b : Nat) : Int)).length → Jr cs ss) := by
  have b1 := J.b1
  obtain ⟨bk, bk1, bk2⟩ := banks (n := now.length) b1
  have le := chain_le J.ch
  have hf := flat_len ss
  refine cut_two (fun ev he z => ?_) (fun cs lc _ hc => ?_) (fun cs lc oc hc => ?_) ?_ hk L
  · obtain ⟨a, o, e1, _⟩ := chainPuts_mem he (by rw [hf]; omega)
    rw [e1] at z
    cases z
  · have oth : ∀ a, a = 0 ∨ (bbeg now.length b ≤ a ∧ a < bend now.length b) → cs[a]? = now[a]? := fun a ha => hc a fun o m => by
      obtain ⟨a', o', e1, g1, g2, _⟩ := chainPuts_mem m (by rw [hf]; omega)
      cases e1
      omega
    obtain ⟨⟨s, s1, s2⟩, _, ch⟩ := J
    refine ⟨b, e, ⟨s, by rw [oth 0 (.inl rfl)]; exact s1, s2⟩, b1, ?_⟩
    rw [lc]
    exact chain_same ch (fun k h1 h2 => oth k (.inr ⟨h1, by omega⟩)) fun hlt => by rw [oth e (.inr ⟨by omega, hlt⟩)]; exact le.2.2 hlt
  · obtain ⟨o, ho⟩ : ∃ o, cs[0]? = some o := ⟨_, List.getElem?_eq_getElem (by omega)⟩
    have w := r_new J hn hr hs lc hc ho
    have := (oc o (List.mem_of_getElem? ho)).1
    by_cases z : o % 2 = (b : Int)
    · exact .inl ⟨_, _, w.1 z⟩
    · exact .inr ⟨_, _, w.2 (by omega)⟩
  · have := r_after J hn hr hs
    rw [twoEv_now] at this
    exact ⟨_, _, this⟩
end
end K6
namespace Gd
open PySem PySem.Spec PyProof.Rows L2
/-- what is told of an error with a word -/
structure WTxt (K : PySem.W.Frag) (mg : Str → Option Value) (nm : Str) (CX fX : Addr) : Prop where
  ox : OexC K CX
  nW : PySem.W.findIn K (.ref CX) "word" = some none
  iC : PySem.W.findIn K (.ref CX) "__init__" = some (some (.ref fX))
  tI : PySem.W.typeIn K (.ref fX) = some (.type "function")
  gR : mg nm = some (.ref CX)
theorem blk_nox {X : Cx} {r : List Stmt} {G : TS → Prop} (h : ∃ u, PSs X.nox r u ∧ G u) : ∃ u, PSs X r u ∧ G u := h.elim fun u z => ⟨u, z.1.nox, z.2⟩
def xdS (z : Str) : HO := .xd [(("word" : Str), .str z)]
def spIRef (K : PySem.W.Frag) (C : Addr) : Sp := fun vs H Q _ => ∃ (a : Addr) (z : Str), vs = [.ref a, .str z] ∧ H a = some (exo a C none) ∧ ∀ dx, H dx = none → dx ≠ a → Q .non (upd (upd H dx (exd dx [("word", .str z)])) a (exo a C (some dx)))
/-- all but lists and instances stands as before -/
def KeepU (H G : Hp) : Prop := ∀ b o, H b = some o → (∀ xs, o ≠ .lst xs) → (∀ C dx fs, o ≠ .ins C dx fs) → G b = some o
theorem KeepU.of {H G : Hp} (e : KeepT H G) : KeepU H G := fun b o h n _ => e b o h n
theorem KeepU.trans {H G J : Hp} (a : KeepU H G) (b : KeepU G J) : KeepU H J := fun c o h n m => b c o (a c o h n m) n m
theorem KeepU.ins {H : Hp} {p C dx : Addr} {fs : List (Str × V)} {o : HO} (h : H p = some (.ins C dx fs)) : KeepU H (upd H p o) := fun b x e _ m => by
  have ne : b ≠ p := fun z => by
    subst z
    exact m _ _ _ (Option.some.inj (h.symm.trans e)).symm
  exact (upd_ne ne).trans e
theorem KeepU.seqT {K : PySem.W.Frag} {H G : Hp} {a : Addr} {xs : List V} (e : KeepU H G) (h : SqT K H a xs) : SqT K G a xs := by
  rcases h with (z | ⟨o, z⟩) | z
  · exact .inl (.inl (e _ _ z (by intro _ q; cases q) (by intro _ _ _ q; cases q)))
  · exact .inl (.inr ⟨o, e _ _ z (by intro _ q; cases q) (by intro _ _ _ q; cases q)⟩)
  · exact .inr z
theorem KeepU.dp {K : PySem.W.Frag} {H G : Hp} (e : KeepU H G) (d : PyData) (v : V) (n : noList d = true) (h : Dp K H v d) : Dp K G v d := dp_sq (fun _ _ z => e.seqT z) d v n h
theorem KeepU.dpAll {K : PySem.W.Frag} {H G : Hp} (e : KeepU H G) (ds : List PyData) (vs : List V) (n : noListAll ds = true) (h : DpAll K H vs ds) : DpAll K G vs ds := dpAll_sq (fun _ _ z => e.seqT z) ds vs n h
/-- all stands but what is in S; all but lists and instances stands -/
structure FrmU (S : List Addr) (H G : Hp) : Prop where
  ku : KeepU H G
  ks : ∀ b o, b ∉ S → H b = some o → G b = some o
theorem FrmU.of {S : List Addr} {H G : Hp} (f : Frm S H G) : FrmU S H G := ⟨.of f.kt, f.ks⟩
theorem FrmU.same {S : List Addr} {H G : Hp} (e : Same H G) : FrmU S H G := .of (.same e)
theorem FrmU.trans {S : List Addr} {H G J : Hp} (a : FrmU S H G) (b : FrmU S G J) : FrmU S H J := ⟨a.ku.trans b.ku, fun c o n h => b.ks c o n (a.ks c o n h)⟩
theorem FrmU.mono {S T : List Addr} {H G : Hp} (a : FrmU S H G) (h : ∀ x ∈ S, x ∈ T) : FrmU T H G := ⟨a.ku, fun b o n e => a.ks b o (fun z => n (h b z)) e⟩
theorem FrmU.ins {S : List Addr} {H : Hp} {p C dx : Addr} {fs : List (Str × V)} {o : HO} (h : H p = some (.ins C dx fs)) (m : p ∈ S) : FrmU S H (upd H p o) := ⟨.ins h, fun b x n e => (upd_ne fun z => n (by rw [z]; exact m)).trans e⟩
theorem Hv.frmU {h l : Addr} {S : List Addr} {H G : Hp} {L : List Int} {st : Int} (v : Hv H h l L st) (f : FrmU S H G) (n1 : h ∉ S) (n2 : l ∉ S) : Hv G h l L st :=
  ⟨f.ks _ _ n1 v.top, f.ks _ _ n2 v.bot, v.ne, v.lo, v.hi, v.len⟩
/-- for i, x in enumerate(list) -/
theorem for_enL {K : PySem.W.Frag} {a : Addr} {xs : List V} {g : TG} {tb : TS} {D : Ends} {σ : L2.St} {H : Hp} (Pv : Nat → L2.St → Hp → Prop) (h0 : Pv 0 σ H) (stay : ∀ i σ G, i ≤ xs.length → Pv i σ G → SqL K G a xs)
    (hs : ∀ i x T σ G, xs[i]? = some x → Pv i σ G → G T = none → g (.ref T) σ (upd G T (.tup [.int (i : Nat), x])) fun σ2 H2 => tb { D with nx := Pv (i + 1), ct := Pv (i + 1), bk := D.nx } σ2 H2) (hd : ∀ σ G, Pv xs.length σ G → D.nx σ G) :
    ∃ W : Nat → Nat → L2.St → Hp → Prop, (∃ m, W 0 m σ H) ∧ ∀ i m σ H, W i m σ H →
      ((Ite K a).stop i H ∧ D.nx σ H) ∨ ((Ite K a).go i H ∧ ∃ N : L2.St → Hp → Prop, (∀ σ' H', N σ' H' → ∃ m', m' < m ∧ W (i + 1) m' σ' H') ∧ ∀ v H', (Ite K a).yld i H v H' → g v σ H' fun σ2 H2 => tb { D with nx := N, ct := N, bk := D.nx } σ2 H2) := by
  refine ⟨fun i m σ G => m = xs.length - i ∧ i ≤ xs.length ∧ Pv i σ G, ⟨_, rfl, Nat.zero_le _, h0⟩, fun i m σ G hw => ?_⟩
  obtain ⟨rfl, hi, hp⟩ := hw
  have hq := stay i σ G hi hp
  by_cases hlt : i < xs.length
  · refine .inr ⟨⟨xs, xs[i], hq, List.getElem?_eq_getElem hlt⟩, Pv (i + 1), fun σ' G' hp' => ⟨_, by omega, rfl, hlt, hp'⟩, fun v G' hy => ?_⟩
    obtain ⟨T, x, rfl, hT, rfl, hx⟩ := hy
    exact hs i x T σ G (hx xs hq) hp hT
  · have e : i = xs.length := by omega
    subst e
    exact .inl ⟨⟨xs, hq, Nat.le_refl _⟩, hd σ G hp⟩
abbrev rLenQ (K : PySem.W.Frag) : List V → Hp → VK → Prop := fun xs H Q => ∃ p ys, xs = [.ref p] ∧ (SqL K H p ys ∨ SqT K H p ys) ∧ Q (.int ys.length) H
end Gd
namespace K6
open PySem PySem.Spec PyProof.Rows L2 Gd
section
variable {P : Program} {w : World} {K : PySem.W.Frag} {mg : Str → Option Value} {base : Heap}
theorem ok_iref {f C : Addr} {fd : FuncData} {k : Nat} (F : Fun K "__init__" "Refused.__init__" s_Refused_init f fd) (T : WTxt K mg "Refused" C f) : FnOk P w K mg base CX0 (k + 1) f fd ["self", "word"] (spIRef K C) := by
  refine F.ok sc_Refused_init (fun vs H Q E h => ?_) (fun cdv A outer s H vs Q E hr h => ?_)
  · obtain ⟨a, z, rfl, _⟩ := h
    rfl
  · obtain ⟨a, z, rfl, ha, q⟩ := h
    refine blk_cons (ps_ost (pv 0) (pv 1)) ?_
    refine blk_nil ?_
    exact ⟨_, rfl, _, rfl, a, C, rfl, T.ox, T.nW, .inl ⟨ha, fun dx h1 h2 => q dx h1 h2⟩⟩
theorem ok_ibrk {f C : Addr} {fd : FuncData} {k : Nat} (F : Fun K "__init__" "Broken.__init__" s_Broken_init f fd) (T : WTxt K mg "Broken" C f) : FnOk P w K mg base CX0 (k + 1) f fd ["self", "word"] (spIRef K C) := by
  refine F.ok sc_Broken_init (fun vs H Q E h => ?_) (fun cdv A outer s H vs Q E hr h => ?_)
  · obtain ⟨a, z, rfl, _⟩ := h
    rfl
  · obtain ⟨a, z, rfl, ha, q⟩ := h
    refine blk_cons (ps_ost (pv 0) (pv 1)) ?_
    refine blk_nil ?_
    exact ⟨_, rfl, _, rfl, a, C, rfl, T.ox, T.nW, .inl ⟨ha, fun dx h1 h2 => q dx h1 h2⟩⟩
/-! ### bank_begin, bank_end -/
def spBeg (K : PySem.W.Frag) (C : Addr) : Sp := fun vs H Q _ => ∃ (p dx c l e : Addr) (cells pres : List Int) (evs : List Ev) (b : Nat), vs = [.ref p, .int (b : Int)] ∧ DiskAt K C H p dx c l e cells pres evs ∧ 1 ≤ cells.length ∧ cells.length ≤ 20000 ∧ b ≤ 2 ∧ Q (.int (bbeg cells.length b : Nat)) H
theorem ok_beg {f C : Addr} {fd : FuncData} {k : Nat} (F : Fun K "bank_begin" "bank_begin" s_bank_begin f fd) (T : DTxt K mg C) (ml : mg "len" = none) : FnOk P w K mg base CX0 (k + 1) f fd ["disk", "bank"] (spBeg K C) := by
  refine F.ok sc_bank_begin (fun vs H Q E h => ?_) (fun cdv A outer s H vs Q E hr h => ?_)
  · obtain ⟨p, dx, c, l, e, cells, pres, evs, b, rfl, _⟩ := h
    rfl
  · obtain ⟨p, dx, c, l, e, cells, pres, evs, b, rfl, d, n1, n2, hb, q⟩ := h
    refine blk_cons (ps_ret (pe_op op_add pe_int (pe_op op_mul (pv 1) (pe_op op_fdiv (pe_op op_sub (pe_callB call_len_seq (by rfl) ml PySem.boot_len (pa_cons (pe_fld (pv 0) rfl) pa_nil)) pe_int) pe_int)))) ?_
    refine blk_nil ?_
    refine ⟨_, rfl, _, rfl, p, C, dx, _, _, rfl, d.obj, T.cl, T.nC, df_c _ _ _, c, _, rfl, .inr d.cel, _, _, rfl, rfl, _, _, rfl, rfl, ⟨by decide, by decide⟩, _, _, rfl, rfl, .inl ⟨by omega, by omega⟩, _, _, rfl, rfl, ?_⟩
    have e1 : ((1 : Int) + (b : Int) * ((((cells.map V.int).length : Int) - 1) / 2)) = ((bbeg cells.length b : Nat) : Int) := by
      rw [List.length_map]
      unfold bbeg
      rw [show ((cells.length : Int) - 1) / 2 = (((cells.length - 1) / 2 : Nat) : Int) by omega]
      push_cast
      omega
    dsimp only
    rw [e1]
    exact q
def spEnd (K : PySem.W.Frag) (C : Addr) : Sp := fun vs H Q _ => ∃ (p dx c l e : Addr) (cells pres : List Int) (evs : List Ev) (b : Nat), vs = [.ref p, .int (b : Int)] ∧ DiskAt K C H p dx c l e cells pres evs ∧ 1 ≤ cells.length ∧ cells.length ≤ 20000 ∧ b ≤ 1 ∧ Q (.int (bend cells.length b : Nat)) H
theorem ok_end {f C fB : Addr} {fd fdB : FuncData} {k : Nat} (F : Fun K "bank_end" "bank_end" s_bank_end f fd) (FB : Fun K "bank_begin" "bank_begin" s_bank_begin fB fdB) (bB : Binds K fdB ["disk", "bank"] []) (gB : mg "bank_begin" = some (.ref fB)) (GB : FnOk P w K mg base CX0 k fB fdB ["disk", "bank"] (spBeg K C)) :
    FnOk P w K mg base CX0 (k + 1) f fd ["disk", "bank"] (spEnd K C) := by
  refine F.ok sc_bank_end (fun vs H Q E h => ?_) (fun cdv A outer s H vs Q E hr h => ?_)
  · obtain ⟨p, dx, c, l, e, cells, pres, evs, b, rfl, _⟩ := h
    rfl
  · obtain ⟨p, dx, c, l, e, cells, pres, evs, b, rfl, d, n1, n2, hb, q⟩ := h
    refine blk_cons (ps_ret (pe_call GB hr (by rfl) gB FB.kp bB .nil pass0 (pa_cons (pv 0) (pa_cons (pe_op op_add (pv 1) pe_int) pa_nil)))) ?_
    refine blk_nil ?_
    refine ⟨_, rfl, _, rfl, _, _, rfl, rfl, p, dx, c, l, e, cells, pres, evs, b + 1, ?_, d, n1, n2, by omega, q⟩
    dsimp only
    rw [show (b : Int) + 1 = ((b + 1 : Nat) : Int) by omega]
    rfl
/-! ### behind_link -/
def spBeh (K : PySem.W.Frag) (C : Addr) : Sp := fun vs H Q _ => ∃ (p dx c l e : Addr) (cells pres : List Int) (evs : List Ev) (a n : Nat) (hi lo : Int), vs = [.ref p, .int (a : Int)] ∧ DiskAt K C H p dx c l e cells pres evs ∧ pres[a + 1]? = some hi ∧ pres[a + 2]? = some lo ∧ (n : Int) = 256 * hi + lo ∧ Q (.int ((a + 3 + n : Nat) : Int)) H
theorem ok_beh {f C mL : Addr} {fd dL : FuncData} {k : Nat} {t : Tok} (F : Fun K "behind_link" "behind_link" s_behind_link f fd) (T : DTxt K mg C) (ML : Meth K C "look" mL) (bL : Binds K dL ["self", "at"] []) (HL : FnOk P w K mg base CX0 k mL dL ["self", "at"] (spLook K C)) (gH : mg "HEAD" = some (.int 3 t)) :
    FnOk P w K mg base CX0 (k + 1) f fd ["disk", "at"] (spBeh K C) := by
  refine F.ok sc_behind_link (fun vs H Q E h => ?_) (fun cdv A outer s H vs Q E hr h => ?_)
  · obtain ⟨p, dx, c, l, e, cells, pres, evs, a, n, hi, lo, rfl, _⟩ := h
    rfl
  · obtain ⟨p, dx, c, l, e, cells, pres, evs, a, n, hi, lo, rfl, d, h1, h2, hn, q⟩ := h
    refine blk_cons (ps_ret (pe_op op_add (pe_op op_add (pe_op op_add (pv 1) (pe_glob (v := .int 3) (by rfl) gH ⟨_, rfl⟩)) (pe_op op_mul pe_int (pe_meth (pv 0) T.cl ML HL hr bL .nil pass0 (pa_cons (pe_op op_add (pv 1) pe_int) pa_nil)))) (pe_meth (pv 0) T.cl ML HL hr bL .nil pass0 (pa_cons (pe_op op_add (pv 1) pe_int) pa_nil)))) ?_
    refine blk_nil ?_
    refine ⟨_, rfl, _, _, rfl, rfl, _, rfl, p, dx, _, rfl, d.obj, df_no _ _ _ (by decide +kernel) (by decide +kernel) (by decide +kernel), _, rfl, _, _, rfl, rfl, p, dx, c, l, e, cells, pres, evs, a + 1, hi, ?_, d, h1, _, _, rfl, rfl, .inl ⟨by decide, by decide⟩, _, _, rfl, rfl, ?_⟩
    · dsimp only
      rw [show (a : Int) + 1 = ((a + 1 : Nat) : Int) by omega]
      rfl
    refine ⟨_, rfl, p, dx, _, rfl, d.obj, df_no _ _ _ (by decide +kernel) (by decide +kernel) (by decide +kernel), _, rfl, _, _, rfl, rfl, p, dx, c, l, e, cells, pres, evs, a + 2, lo, ?_, d, h2, _, _, rfl, rfl, ?_⟩
    · dsimp only
      rw [show (a : Int) + 2 = ((a + 2 : Nat) : Int) by omega]
      rfl
    dsimp only
    rw [show (a : Int) + 3 + 256 * hi + lo = ((a + 3 + n : Nat) : Int) by omega]
    exact q
/-! ### link_of -/
def spLink (K : PySem.W.Frag) : Sp := fun vs H Q _ => ∃ (q : Addr) (r : List Int), vs = [.ref q] ∧ SqT K H q (r.map V.int) ∧ r.length ≤ 30000 ∧ ∀ G d, Same H G → H d = none → G d = some (.lst ((linkOf r).map V.int)) → Q (.ref d) G
theorem ok_link {f : Addr} {fd : FuncData} {k : Nat} (F : Fun K "link_of" "link_of" s_link_of f fd) (ml : mg "len" = none) (mL : mg "list" = none) : FnOk P w K mg base CX0 (k + 1) f fd ["record"] (spLink K) := by
  refine F.ok sc_link_of (fun vs H Q E h => ?_) (fun cdv A outer s H vs Q E hr h => ?_)
  · obtain ⟨q, r, rfl, _⟩ := h
    rfl
  · obtain ⟨q0, r, rfl, hq, hl, q⟩ := h
    refine blk_cons (ps_ret (pe_op op_cat (pe_lst (pa_cons pe_int (pa_cons (pe_op op_fdiv (pe_callB call_len_seq (by rfl) ml PySem.boot_len (pa_cons (pv 0) pa_nil)) pe_int) (pa_cons (pe_op op_mod (pe_callB call_len_seq (by rfl) ml PySem.boot_len (pa_cons (pv 0) pa_nil)) pe_int) pa_nil)))) (pe_callTy call_list_of (by rfl) mL (by decide +kernel) (pa_cons (pv 0) pa_nil)))) ?_
    refine blk_nil ?_
    refine ⟨_, rfl, q0, _, rfl, .inr hq, _, _, rfl, rfl, ⟨by decide, by decide⟩, _, rfl, q0, _, rfl, .inr hq, _, _, rfl, rfl, (by show (0 : Int) < 256; decide), by show 3 ≤ sizeLine; decide, fun p1 n1 => ?_⟩
    have s1 := same_new (o := .lst [V.int 1, V.int (((r.map V.int).length : Int) / 256), V.int (((r.map V.int).length : Int) % 256)]) n1
    refine ⟨_, rfl, q0, _, rfl, .inr (same_seqT s1 hq), fun p2 n2 => ?_⟩
    have s2 := same_new (o := .lst (r.map V.int)) n2
    refine ⟨p1, p2, _, _, rfl, rfl, s2 _ _ upd_same, upd_same, by rw [List.length_map, sizeLine_eq]; show 3 + _ ≤ _; omega, fun p3 n3 => ?_⟩
    have s3 : Same H _ := (s1.trans s2).trans (same_new (o := .lst ([V.int 1, V.int (((r.map V.int).length : Int) / 256), V.int (((r.map V.int).length : Int) % 256)] ++ r.map V.int)) n3)
    refine q _ p3 s3 ((s1.trans s2).free n3) ?_
    dsimp only
    rw [upd_same, List.length_map, show ((r.length : Int) / 256) = ((r.length / 256 : Nat) : Int) by omega, show ((r.length : Int) % 256) = ((r.length % 256 : Nat) : Int) by omega]
    rfl
/-! ### put_chain -/
def spPC (K : PySem.W.Frag) (C : Addr) : Sp := fun vs H Q _ => ∃ (p dx c l e : Addr) (cells pres : List Int) (evs : List Ev) (i : Nat) (os : List Int) (oq : Addr) (stop : Nat), vs = [.ref p, .int (i : Int), .ref oq, .int (stop : Int)] ∧ DiskAt K C H p dx c l e cells pres evs ∧ H oq = some (.lst (os.map V.int)) ∧ oq ≠ l ∧ oq ≠ e ∧ i + os.length ≤ stop ∧ stop ≤ pres.length ∧ stop ≤ 20000 ∧ evs.length + os.length + 1 ≤ 1000000 ∧
  ∀ G, Frm [l, e] H G → DiskAt K C G p dx c l e cells (replay pres (chainPuts i os stop)) (evs ++ chainPuts i os stop) → Q .non G
theorem ok_pc {f C mP : Addr} {fd dP : FuncData} {k : Nat} (F : Fun K "put_chain" "put_chain" s_put_chain f fd) (T : DTxt K mg C) (MP : Meth K C "put" mP) (bP : Binds K dP ["self", "at", "octet"] []) (HP : FnOk P w K mg base CX0 k mP dP ["self", "at", "octet"] (spPut K C)) (mE : mg "enumerate" = none) (ml : mg "len" = none) :
    FnOk P w K mg base CX0 (k + 1) f fd ["disk", "begin", "octets", "stop"] (spPC K C) := by
  refine F.ok sc_put_chain (fun vs H Q E h => ?_) (fun cdv A outer s H vs Q E hr h => ?_)
  · obtain ⟨p, dx, c, l, e, cells, pres, evs, i, os, oq, stop, rfl, _⟩ := h
    rfl
  · obtain ⟨p, dx, c, l, e, cells, pres, evs, i, os, oq, stop, rfl, d, hq, n1, n2, h1, h2, h20, h3, q⟩ := h
    refine blk_cons (ps_for PassesOwn.never rfl (pi_enum (by rfl) mE (pa_cons (pv 2) pa_nil)) (pg_tup rfl (pgs_cons (pg_name (i := 4) sc_put_chain.nd rfl (.inl rfl)) (pgs_cons (pg_name (i := 5) sc_put_chain.nd rfl (.inl rfl)) pgs_nil)))
      (pss_one (ps_expr (pe_meth (pv 0) T.cl MP HP hr bP .nil pass0 (pa_cons (pe_op op_add (pv 1) (pv 4)) (pa_cons (pv 5) pa_nil)))))) ?_
    refine blk_cons (ps_if (pt_cmpR op_lt (pe_op op_add (pv 1) (pe_callB call_len_seq (by rfl) ml PySem.boot_len (pa_cons (pv 2) pa_nil))) (pv 3) (nomark _))
      (pss_one (ps_expr (pe_meth (pv 0) T.cl MP HP hr bP .nil pass0 (pa_cons (pe_op op_add (pv 1) (pe_callB call_len_seq (by rfl) ml PySem.boot_len (pa_cons (pv 2) pa_nil))) (pa_cons pe_int pa_nil))))) pss_nil) ?_
    refine blk_nil ?_
    have nq : oq ∉ [l, e] := fun z => by
      rcases List.mem_cons.mp z with z | z
      · exact n1 z
      · exact n2 (List.mem_singleton.mp z)
    refine seq_out (t := tFor _ _ _) (fun σ' G' => ∃ y4 y5 : Option V, σ' = [some (.ref p), some (.int (i : Int)), some (.ref oq), some (.int (stop : Int)), y4, y5] ∧ Frm [l, e] H G' ∧ DiskAt K C G' p dx c l e cells (replay pres (putsAt i os)) (evs ++ putsAt i os)) (fun N hN => ?_) (fun σ' G1 hR => ?_)
    · refine ⟨_, rfl, oq, _, rfl, sqL hq, for_enL (xs := os.map V.int) (fun j σ G => ∃ y4 y5 : Option V, σ = [some (.ref p), some (.int (i : Int)), some (.ref oq), some (.int (stop : Int)), y4, y5] ∧ Frm [l, e] H G ∧ DiskAt K C G p dx c l e cells (replay pres (putsAt i (os.take j))) (evs ++ putsAt i (os.take j)))
        ⟨_, _, rfl, .same (Same.refl _), by rw [List.take_zero]; show DiskAt K C H p dx c l e cells pres (evs ++ []); rw [List.append_nil]; exact d⟩ (fun j σ G _ hP => ?_) (fun j x Tq σ G hx hP nT => ?_) (fun σ G hP => ?_)⟩
      · obtain ⟨_, _, _, f, _⟩ := hP
        exact sqL (f.ks _ _ nq hq)
      · obtain ⟨y4, y5, rfl, f, dk⟩ := hP
        obtain ⟨o, ho, rfl⟩ := map_at hx
        have hj : j < os.length := (List.getElem?_eq_some_iff.mp ho).1
        have f2 := f.trans (.new (S := [l, e]) (o := .tup [.int (j : Nat), .int o]) nT)
        have dk2 := dk.same (same_new (o := .tup [.int (j : Nat), .int o]) nT)
        have gT' := sqT (K := K) (upd_same (H := G) (a := Tq) (o := .tup [.int (j : Nat), .int o]))
        generalize upd G Tq (.tup [.int (j : Nat), .int o]) = G2 at f2 dk2 gT' ⊢
        refine ⟨Tq, _, rfl, gT', rfl, _, _, rfl, _, _, rfl, rfl, ?_⟩
        refine ⟨_, rfl, p, dx, _, rfl, dk2.obj, df_no _ _ _ (by decide +kernel) (by decide +kernel) (by decide +kernel), _, rfl, _, rfl, _, _, rfl, rfl, _, rfl, p, dx, c, l, e, cells, _, _, i + j, o, ?_, dk2, ?_, ?_, fun G3 f3 d3 => ?_⟩
        · dsimp only
          rw [show (i : Int) + (j : Int) = ((i + j : Nat) : Int) by omega]
          rfl
        · rw [replay_len]
          omega
        · rw [List.length_append, putsAt_len, List.length_take]
          omega
        · have tk : os.take (j + 1) = os.take j ++ [o] := by
            rw [List.take_add_one, ho]
            rfl
          have e0 : putsAt i (os.take (j + 1)) = putsAt i (os.take j) ++ [some (i + j, o)] := by
            rw [tk, putsAt_snoc, List.length_take, Nat.min_eq_left (by omega)]
          refine ⟨_, _, rfl, f2.trans f3, ?_⟩
          rw [e0, replay_snoc, ← List.append_assoc]
          exact d3
      · obtain ⟨y4, y5, rfl, f, dk⟩ := hP
        rw [List.length_map, List.take_length] at dk
        exact hN _ _ ⟨_, _, rfl, f, dk⟩
    obtain ⟨y4, y5, rfl, f, dk⟩ := hR
    have hq1 := f.ks _ _ nq hq
    have e1 : (i : Int) + ((os.map V.int).length : Int) = ((i + os.length : Nat) : Int) := by rw [List.length_map]; omega
    refine ⟨_, rfl, _, rfl, oq, _, rfl, .inl (sqL hq1), _, _, rfl, rfl, _, rfl, _, _, rfl, rfl, _, rfl, ?_⟩
    rw [e1]
    by_cases hlt : i + os.length < stop
    · rw [decide_eq_true (show ((i + os.length : Nat) : Int) < (stop : Int) by omega)]
      refine iteT ⟨_, rfl, p, dx, _, rfl, dk.obj, df_no _ _ _ (by decide +kernel) (by decide +kernel) (by decide +kernel), _, rfl, _, rfl, oq, _, rfl, .inl (sqL hq1), _, _, rfl, rfl, p, dx, c, l, e, cells, _, _, i + os.length, 0, by dsimp only; rw [e1]; rfl, dk, ?_, ?_, fun G3 f3 d3 => ?_⟩
      · rw [replay_len]
        omega
      · rw [List.length_append, putsAt_len]
        omega
      · refine q _ (f.trans f3) ?_
        unfold chainPuts
        rw [if_pos hlt, replay_snoc, ← List.append_assoc]
        exact d3
    · rw [decide_eq_false (show ¬ ((i + os.length : Nat) : Int) < (stop : Int) by omega)]
      refine iteF (q _ f ?_)
      unfold chainPuts
      rw [if_neg hlt, List.append_nil]
      exact dk
end
end K6
namespace K6
open PySem PySem.Spec PyProof.Rows L2 Gd
def OctL (ps : List Int) : Prop := ∀ o ∈ ps, Oct o
theorem OctL.at {ps : List Int} (h : OctL ps) {a : Nat} (ha : a < ps.length) : ∃ x, ps[a]? = some x ∧ Oct x := ⟨ps[a], List.getElem?_eq_getElem ha, h _ (List.getElem_mem ha)⟩
section
variable {P : Program} {w : World} {K : PySem.W.Frag} {mg : Str → Option Value} {base : Heap}
/-! ### chain_end -/
def spCE (K : PySem.W.Frag) (C CB : Addr) : Sp := fun vs H Q E => ∃ (p dx c l e : Addr) (cells pres : List Int) (evs : List Ev) (i stop : Nat), vs = [.ref p, .int (i : Int), .int (stop : Int)] ∧ DiskAt K C H p dx c l e cells pres evs ∧ OctL pres ∧ i ≤ stop ∧ stop ≤ pres.length ∧
  (∀ rs z, Chain pres stop i rs z → Q (.int (z : Nat)) H) ∧ ((∀ rs z, ¬ Chain pres stop i rs z) → ∀ d G, H d = none → Same H G → G d = some (xdS "journal") → E (.ref CB) (some d) G)
theorem ok_ce {f C CB mL fH fB : Addr} {fd dL fdH fdB : FuncData} {k : Nat} {t : Tok} (F : Fun K "chain_end" "chain_end" s_chain_end f fd) (T : DTxt K mg C) (ML : Meth K C "look" mL) (FL : Fun K "look" "Disk.look" s_Disk_look mL dL) (bL : Binds K dL ["self", "at"] [])
    (FH : Fun K "behind_link" "behind_link" s_behind_link fH fdH) (bH : Binds K fdH ["disk", "at"] []) (gBH : mg "behind_link" = some (.ref fH)) (gH : mg "HEAD" = some (.int 3 t)) (FB : Fun K "__init__" "Broken.__init__" s_Broken_init fB fdB) (TB : WTxt K mg "Broken" CB fB) (bB : Binds K fdB ["self", "word"] []) :
    FnOk P w K mg base (L2.CX P w) (k + 1 + 1 + 1) f fd ["disk", "begin", "stop"] (spCE K C CB) := by
  have HL : ∀ {n}, FnOk P w K mg base CX0 (n + 1) mL dL ["self", "at"] (spLook K C) := ok_look FL T
  have GH : FnOk P w K mg base CX0 (k + 1 + 1) fH fdH ["disk", "at"] (spBeh K C) := ok_beh FH T ML bL HL gH
  have GI : FnOk P w K mg base CX0 (k + 1) fB fdB ["self", "word"] (spIRef K CB) := ok_ibrk FB TB
  refine F.okX sc_chain_end (fun vs H Q E h => ?_) (fun cdv A outer s H vs Q E hr h => ?_)
  · obtain ⟨p, dx, c, l, e, cells, pres, evs, i, stop, rfl, _⟩ := h
    rfl
  · obtain ⟨p, dx, c, l, e, cells, pres, evs, i, stop, rfl, d, oc, h1, h2, qT, qF⟩ := h
    refine blk_cons (ps_set (i := 3) sc_chain_end.nd rfl (.inl rfl) (pv 1)) ?_
    refine blk_cons (ps_while (passes_of rfl) (PW.pt (pw_and (pt_cmpR op_lt (pv 3) (pv 2) (nomark _)) (pw_and1 (pt_cmpR op_ne (pe_meth (pv 0) T.cl ML HL hr bL .nil pass0 (pa_cons (pv 3) pa_nil)) pe_int (nomark _)))))
      (pss_cons (ps_if (PW.pt (pw_or (pt_cmpR op_gt (pe_op op_add (pv 3) (pe_glob (v := .int 3) (by rfl) gH ⟨_, rfl⟩)) (pv 2) (nomark _)) (pw_or1 (pt_cmpR op_gt (pe_call GH hr (by rfl) gBH FH.kp bH .nil pass0 (pa_cons (pv 0) (pa_cons (pv 3) pa_nil))) (pv 2) (nomark _)))))
          (pss_one (ps_raise rfl (takes_of rfl rfl rfl rfl) (pmk_oex TB.ox TB.iC TB.tI GI hr bB .nil pass0 (by rfl) TB.gR (pa_cons pe_str pa_nil)))) pss_nil)
        (pss_one (ps_set (i := 3) sc_chain_end.nd rfl (.inl rfl) (pe_call GH hr (by rfl) gBH FH.kp bH .nil pass0 (pa_cons (pv 0) (pa_cons (pv 3) pa_nil))))))) ?_
    refine blk_cons (ps_ret (pv 3)) ?_
    refine blk_nil ?_
    refine ⟨_, rfl, ?_⟩
    refine ⟨fun m σ G => ∃ (j : Nat) (rs : List (List Int)), σ = [some (.ref p), some (.int (i : Int)), some (.int (stop : Int)), some (.int (j : Int))] ∧ G = H ∧ Seg pres stop i rs j ∧ j ≤ stop ∧ m = stop - j,
      ⟨_, i, [], rfl, rfl, .nil, h1, rfl⟩, fun m σ G hw => ?_⟩
    obtain ⟨j, rs, rfl, rfl, sg, hj, rfl⟩ := hw
    refine ⟨_, rfl, _, rfl, _, _, rfl, rfl, _, rfl, ?_⟩
    by_cases hlt : j < stop
    · rw [decide_eq_true (show (j : Int) < (stop : Int) by omega)]
      obtain ⟨x, hx, ox⟩ := oc.at (a := j) (by omega)
      refine iteT ?_
      refine ⟨_, rfl, p, dx, _, rfl, d.obj, df_no _ _ _ (by decide +kernel) (by decide +kernel) (by decide +kernel), _, rfl, p, dx, c, l, e, cells, pres, evs, j, x, rfl, d, hx, rfl, _, rfl, ?_⟩
      rw [dec_int]
      by_cases x0 : x = 0
      · rw [show (!(x == 0)) = false from by rw [beq_iff_eq.mpr x0]; rfl]
        refine iteF ?_
        refine ⟨_, rfl, ?_⟩
        have := seg_chain sg (.nil hj fun _ => by rw [← x0]; exact hx)
        exact qT _ _ this
      · rw [show (!(x == 0)) = true from by rw [beq_eq_false_iff_ne.mpr x0]; rfl]
        refine iteT ?_
        -- no record lies here
        have bad : (¬ (j + 3 ≤ stop ∧ ∃ (hi lo : Int) (n : Nat), pres[j + 1]? = some hi ∧ pres[j + 2]? = some lo ∧ (n : Int) = 256 * hi + lo ∧ j + 3 + n ≤ stop)) → ∀ ss z, ¬ Chain pres stop i ss z := fun nb ss z cc => by
          obtain ⟨ts, _, c2⟩ := seg_rest sg cc
          cases c2 with
          | nil g1 g2 =>
            have := g2 (by omega)
            rw [hx] at this
            exact x0 (Option.some.inj this)
          | cons g1 g2 g3 g4 g5 g6 g7 g8 => exact nb ⟨g1, _, _, _, g4, g5, g6, g7⟩
        have boom : (∀ ss z, ¬ Chain pres stop i ss z) → ∀ σ : L2.St, tMkO CB (spIRef K CB) [] (tCons (tC (.str "journal")) tNil) σ G fun cls d H' => (fun cls d _ H => E cls d H) cls d σ H' := fun no σ => by
          refine ⟨by show 1 ≤ 1000; decide, fun a na => ⟨a, _, rfl, upd_same, fun dx2 n1 n2 => ⟨rfl, dx2, [("word", .str "journal")], upd_same, (upd_ne n2).trans upd_same, ?_, ?_⟩⟩⟩
          · exact (upd_ne n2).symm.trans n1
          · have n3 : G dx2 = none := (upd_ne n2).symm.trans n1
            refine qF no dx2 _ n3 (fun b o e => ?_) upd_same
            have ba : b ≠ a := ne_of_none e na
            have bd : b ≠ dx2 := ne_of_none e n3
            rw [upd_ne bd, del_ne ba, upd_ne ba, upd_ne bd, upd_ne ba]
            exact e
        refine ⟨fun σ' G' => ∃ m', m' < stop - j ∧ ∃ (j : Nat) (rs : List (List Int)), σ' = [some (.ref p), some (.int (i : Int)), some (.int (stop : Int)), some (.int (j : Int))] ∧ G' = G ∧ Seg pres stop i rs j ∧ j ≤ stop ∧ m' = stop - j, fun σ' G' h => h, ?_⟩
        refine ⟨_, rfl, _, _, rfl, rfl, _, rfl, _, _, rfl, rfl, _, rfl, ?_⟩
        by_cases h3 : j + 3 ≤ stop
        · rw [decide_eq_false (show ¬ (j : Int) + 3 > (stop : Int) by omega)]
          refine iteF ?_
          obtain ⟨hi, ghi, ohi⟩ := oc.at (a := j + 1) (by omega)
          obtain ⟨lo, glo, olo⟩ := oc.at (a := j + 2) (by omega)
          obtain ⟨n, hn⟩ : ∃ n : Nat, (n : Int) = 256 * hi + lo := ⟨(256 * hi + lo).toNat, by have := ohi.1; have := olo.1; omega⟩
          refine ⟨_, rfl, _, rfl, p, dx, c, l, e, cells, pres, evs, j, n, hi, lo, rfl, d, ghi, glo, hn, _, rfl, _, _, rfl, rfl, _, rfl, ?_⟩
          by_cases h4 : j + 3 + n ≤ stop
          · rw [decide_eq_false (show ¬ ((j + 3 + n : Nat) : Int) > (stop : Int) by omega)]
            refine iteF ?_
            refine ⟨_, rfl, _, rfl, p, dx, c, l, e, cells, pres, evs, j, n, hi, lo, rfl, d, ghi, glo, hn, ?_⟩
            exact ⟨_, by omega, _, _, rfl, rfl, .snoc sg h3 hx x0 ghi glo hn h4, h4, rfl⟩
          · rw [decide_eq_true (show ((j + 3 + n : Nat) : Int) > (stop : Int) by omega)]
            refine iteT ?_
            refine boom (bad ?_) _
            rintro ⟨_, hi2, lo2, n2, e1, e2, e3, e4⟩
            rw [ghi] at e1
            rw [glo] at e2
            cases e1
            cases e2
            omega
        · rw [decide_eq_true (show (j : Int) + 3 > (stop : Int) by omega)]
          refine iteT ?_
          refine boom (bad ?_) _
          rintro ⟨g, _⟩
          exact h3 g
    · rw [decide_eq_false (show ¬ (j : Int) < (stop : Int) by omega)]
      refine iteF ?_
      refine ⟨_, rfl, ?_⟩
      have e1 : j = stop := by omega
      subst e1
      exact qT _ _ (seg_chain sg (.nil hj fun z => absurd z hlt))
end
end K6
namespace K6
open PySem PySem.Spec PyProof.Rows L2 Gd
theorem DiskAt.frmU {K : PySem.W.Frag} {C : Addr} {S : List Addr} {H G : Hp} {p dx c l e : Addr} {cells pres : List Int} {evs : List Ev} (d : DiskAt K C H p dx c l e cells pres evs) (f : FrmU S H G) (n0 : p ∉ S) (n1 : l ∉ S) (n2 : e ∉ S) : DiskAt K C G p dx c l e cells pres evs := by
  obtain ⟨vs, h1, h2⟩ := d.hap
  exact ⟨f.ks _ _ n0 d.obj, f.ku.seqT d.cel, f.ks _ _ n1 d.pre, ⟨vs, f.ks _ _ n2 h1, f.ku.dpAll _ _ (noList_ev evs) h2⟩, d.ne⟩
/-! the fields of a journal -/
def jf (p : Addr) (b z : Nat) : List (Str × V) := [("disk", .ref p), ("bank", .int (b : Nat)), ("end", .int (z : Nat))]
abbrev jf1 (p : Addr) : List (Str × V) := [("disk", .ref p)]
abbrev jf2 (p : Addr) (b : Nat) : List (Str × V) := [("disk", .ref p), ("bank", .int (b : Nat))]
theorem bd_ : ¬ (("bank" : Str) = "disk") := by decide +kernel
theorem ed_ : ¬ (("end" : Str) = "disk") := by decide +kernel
theorem eb_ : ¬ (("end" : Str) = "bank") := by decide +kernel
theorem jf_2 (p : Addr) (b : Nat) : putF "bank" (.int (b : Nat)) (jf1 p) = jf2 p b := by
  unfold jf1 putF
  rw [if_neg fun z => bd_ z.symm]
  rfl
theorem jf_3 (p : Addr) (b z : Nat) : putF "end" (.int (z : Nat)) (jf2 p b) = jf p b z := by
  unfold jf2 putF
  rw [if_neg fun z => ed_ z.symm]
  unfold putF
  rw [if_neg fun z => eb_ z.symm]
  rfl
theorem jf_e (p : Addr) (b z y : Nat) : putF "end" (.int (y : Nat)) (jf p b z) = jf p b y := by
  unfold jf putF
  rw [if_neg fun z => ed_ z.symm]
  unfold putF
  rw [if_neg fun z => eb_ z.symm]
  unfold putF
  rw [if_pos rfl]
theorem jf_b (p : Addr) (b z y : Nat) : putF "bank" (.int (y : Nat)) (jf p b z) = jf p y z := by
  unfold jf putF
  rw [if_neg fun z => bd_ z.symm]
  unfold putF
  rw [if_pos rfl]
theorem jf_ld (p : Addr) (b z : Nat) : (jf p b z).lookup ("disk" : Str) = some (.ref p) := by
  unfold jf
  rw [List.lookup_cons, beq_self_eq_true]
theorem jf_lb (p : Addr) (b z : Nat) : (jf p b z).lookup ("bank" : Str) = some (.int (b : Nat)) := by
  unfold jf
  rw [List.lookup_cons, beq_eq_false_iff_ne.mpr bd_, List.lookup_cons, beq_self_eq_true]
theorem jf_le (p : Addr) (b z : Nat) : (jf p b z).lookup ("end" : Str) = some (.int (z : Nat)) := by
  unfold jf
  rw [List.lookup_cons, beq_eq_false_iff_ne.mpr ed_, List.lookup_cons, beq_eq_false_iff_ne.mpr eb_, List.lookup_cons, beq_self_eq_true]
theorem jf_no (p : Addr) (b z : Nat) {m : Str} (h1 : ¬ m = "disk") (h2 : ¬ m = "bank") (h3 : ¬ m = "end") : (jf p b z).lookup m = none := by
  unfold jf
  rw [List.lookup_cons, beq_eq_false_iff_ne.mpr h1, List.lookup_cons, beq_eq_false_iff_ne.mpr h2, List.lookup_cons, beq_eq_false_iff_ne.mpr h3]
  rfl
structure JTxt (K : PySem.W.Frag) (mg : Str → Option Value) (CJ : Addr) : Prop where
  cl : Cls K CJ
  nD : NoAttr K CJ "disk"
  nB : NoAttr K CJ "bank"
  nE : NoAttr K CJ "end"
  mgC : mg "Journal" = some (.ref CJ)
structure JAt (K : PySem.W.Frag) (C CJ : Addr) (H : Hp) (j jdx p dx c l e : Addr) (cells pres : List Int) (evs : List Ev) (b z : Nat) (rs : List (List Int)) : Prop where
  obj : H j = some (.ins CJ jdx (jf p b z))
  dk : DiskAt K C H p dx c l e cells pres evs
  oc : OctL pres
  n1 : 1 ≤ pres.length
  n2 : pres.length ≤ 20000
  nc : cells.length = pres.length
  st : Jst pres b z rs
theorem JAt.ne {K : PySem.W.Frag} {C CJ : Addr} {H : Hp} {j jdx p dx c l e : Addr} {cells pres : List Int} {evs : List Ev} {b z : Nat} {rs : List (List Int)} (J : JAt K C CJ H j jdx p dx c l e cells pres evs b z rs) : p ≠ j := fun q => by
  have h := J.dk.obj
  rw [q, J.obj] at h
  have h2 : (jf p b z).lookup ("cells" : Str) = (df c l e).lookup ("cells" : Str) := by
    injection h with h
    injection h with _ _ h
    rw [h]
  rw [df_c, jf_no p b z (by decide +kernel) (by decide +kernel) (by decide +kernel)] at h2
  cases h2
theorem JAt.nl {K : PySem.W.Frag} {C CJ : Addr} {H : Hp} {j jdx p dx c l e : Addr} {cells pres : List Int} {evs : List Ev} {b z : Nat} {rs : List (List Int)} (J : JAt K C CJ H j jdx p dx c l e cells pres evs b z rs) : j ∉ [l, e] := fun m => by
  obtain ⟨vs, h1, _⟩ := J.dk.hap
  rcases List.mem_cons.mp m with q | q
  · have h := J.dk.pre
    rw [← q, J.obj] at h
    cases h
  · rw [← List.mem_singleton.mp q, J.obj] at h1
    cases h1
theorem JAt.same {K : PySem.W.Frag} {C CJ : Addr} {H G : Hp} {j jdx p dx c l e : Addr} {cells pres : List Int} {evs : List Ev} {b z : Nat} {rs : List (List Int)} (J : JAt K C CJ H j jdx p dx c l e cells pres evs b z rs) (s : Same H G) : JAt K C CJ G j jdx p dx c l e cells pres evs b z rs :=
  ⟨s _ _ J.obj, J.dk.same s, J.oc, J.n1, J.n2, J.nc, J.st⟩
theorem JAt.frmU {K : PySem.W.Frag} {C CJ : Addr} {S : List Addr} {H G : Hp} {j jdx p dx c l e : Addr} {cells pres : List Int} {evs : List Ev} {b z : Nat} {rs : List (List Int)} (J : JAt K C CJ H j jdx p dx c l e cells pres evs b z rs) (f : FrmU S H G) (nj : j ∉ S) (n0 : p ∉ S) (n1 : l ∉ S) (n2 : e ∉ S) : JAt K C CJ G j jdx p dx c l e cells pres evs b z rs :=
  ⟨f.ks _ _ nj J.obj, J.dk.frmU f n0 n1 n2, J.oc, J.n1, J.n2, J.nc, J.st⟩
section
variable {P : Program} {w : World} {K : PySem.W.Frag} {mg : Str → Option Value} {base : Heap}
/-! ### Journal.__init__ -/
def spJInit (K : PySem.W.Frag) (C CJ CB : Addr) : Sp := fun vs H Q E => ∃ (j jdx p dx c l e : Addr) (cells pres : List Int) (evs : List Ev), vs = [.ref j, .ref p] ∧ H j = some (.ins CJ jdx []) ∧ p ≠ j ∧ DiskAt K C H p dx c l e cells pres evs ∧ OctL pres ∧ 1 ≤ pres.length ∧ pres.length ≤ 20000 ∧ cells.length = pres.length ∧
  (∀ b z rs G, Jst pres b z rs → FrmU [j] H G → G j = some (.ins CJ jdx (jf p b z)) → Q .non G) ∧ ((∀ rs, ¬ Jr pres rs) → ∀ d G, H d = none → FrmU [j] H G → G d = some (xdS "journal") → E (.ref CB) (some d) G)
theorem ok_jinit {f C CJ CB mL fA fZ fE : Addr} {fd dL fdA fdZ fdE : FuncData} {k : Nat} (F : Fun K "__init__" "Journal.__init__" s_Journal_init f fd) (T : DTxt K mg C) (TJ : JTxt K mg CJ) (ML : Meth K C "look" mL) (bL : Binds K dL ["self", "at"] []) (HL : FnOk P w K mg base CX0 k mL dL ["self", "at"] (spLook K C))
    (FA : Fun K "bank_begin" "bank_begin" s_bank_begin fA fdA) (bA : Binds K fdA ["disk", "bank"] []) (gA : mg "bank_begin" = some (.ref fA)) (GA : FnOk P w K mg base CX0 k fA fdA ["disk", "bank"] (spBeg K C))
    (FZ : Fun K "bank_end" "bank_end" s_bank_end fZ fdZ) (bZ : Binds K fdZ ["disk", "bank"] []) (gZ : mg "bank_end" = some (.ref fZ)) (GZ : FnOk P w K mg base CX0 k fZ fdZ ["disk", "bank"] (spEnd K C))
    (FE : Fun K "chain_end" "chain_end" s_chain_end fE fdE) (bE : Binds K fdE ["disk", "begin", "stop"] []) (gE : mg "chain_end" = some (.ref fE)) (GE : FnOk P w K mg base (L2.CX P w) k fE fdE ["disk", "begin", "stop"] (spCE K C CB)) :
    FnOk P w K mg base (L2.CX P w) (k + 1) f fd ["self", "disk"] (spJInit K C CJ CB) := by
  refine F.okX sc_Journal_init (fun vs H Q E h => ?_) (fun cdv A outer s H vs Q E hr h => ?_)
  · obtain ⟨j, jdx, p, dx, c, l, e, cells, pres, evs, rfl, _⟩ := h
    rfl
  · obtain ⟨j, jdx, p, dx, c, l, e, cells, pres, evs, rfl, hj, npj, d, oc, n1, n2, nc, qT, qF⟩ := h
    refine blk_cons (ps_fld (pv 0) (pv 1) rfl) ?_
    refine blk_cons (ps_fld (pv 0) (pe_op op_mod (pe_meth (pv 1) T.cl ML HL hr bL .nil pass0 (pa_cons pe_int pa_nil)) pe_int) rfl) ?_
    refine blk_cons (ps_fld (pv 0) (pe_call (E := E) GE hr (by rfl) gE FE.kp bE .nil (passes_call (W := fun cls d _ H => E cls d H) (takes_of rfl rfl rfl rfl) (fun _ _ _ _ h => h)) (pa_cons (pv 1) (pa_cons (pe_call GA hr (by rfl) gA FA.kp bA .nil pass0 (pa_cons (pv 1) (pa_cons (pe_fld (pv 0) rfl) pa_nil))) (pa_cons (pe_call GZ hr (by rfl) gZ FZ.kp bZ .nil pass0 (pa_cons (pv 1) (pa_cons (pe_fld (pv 0) rfl) pa_nil))) pa_nil)))) rfl) ?_
    refine blk_nil ?_
    obtain ⟨x, hx, ox⟩ := oc.at (a := 0) (by omega)
    refine ⟨_, rfl, _, rfl, j, CJ, jdx, _, rfl, hj, TJ.cl, TJ.nD, by show 0 < 1000; decide, ?_⟩
    have fr : ∀ {A : Hp} {fs fs' : List (Str × V)}, FrmU [j] H A → A j = some (.ins CJ jdx fs) → FrmU [j] H (upd A j (.ins CJ jdx fs')) := fun f g => f.trans (.ins g (by simp))
    have dk : ∀ {A : Hp}, FrmU [j] H A → DiskAt K C A p dx c l e cells pres evs := fun f => by
      obtain ⟨vs, h1, _⟩ := d.hap
      exact d.frmU f (by simpa using npj) (by simpa using (ne_of d.pre hj (by intro z; cases z))) (by simpa using (ne_of h1 hj (by intro z; cases z)))
    have hx2 : ∃ b : Nat, x % 2 = (b : Int) ∧ b ≤ 1 := ⟨(x % 2).toNat, by omega, by omega⟩
    obtain ⟨b, hb, hb1⟩ := hx2
    have f1 := fr (fs' := jf1 p) (A := H) (.same (Same.refl _)) hj
    have g1 : (upd H j (.ins CJ jdx (jf1 p))) j = some (.ins CJ jdx (jf1 p)) := upd_same
    rw [show putF (("disk" : Str)) (.ref p) [] = jf1 p from rfl]
    generalize upd H j (.ins CJ jdx (jf1 p)) = G1 at f1 g1 ⊢
    have d1 := dk f1
    refine ⟨_, rfl, p, dx, _, rfl, d1.obj, df_no _ _ _ (by decide +kernel) (by decide +kernel) (by decide +kernel), p, dx, c, l, e, cells, pres, evs, 0, x, rfl, d1, hx, _, _, rfl, rfl, (by show (0 : Int) < 2; decide), ?_⟩
    refine ⟨_, rfl, j, CJ, jdx, _, rfl, g1, TJ.cl, TJ.nB, by show 1 < 1000; decide, ?_⟩
    dsimp only
    rw [hb, jf_2]
    have f2 := fr (fs' := jf2 p b) f1 g1
    have g2 : (upd G1 j (.ins CJ jdx (jf2 p b))) j = some (.ins CJ jdx (jf2 p b)) := upd_same
    generalize upd G1 j (.ins CJ jdx (jf2 p b)) = G2 at f2 g2 ⊢
    have d2 := dk f2
    have lb : (jf2 p b).lookup ("bank" : Str) = some (.int (b : Nat)) := by
      rw [List.lookup_cons, beq_eq_false_iff_ne.mpr bd_, List.lookup_cons, beq_self_eq_true]
    have hbe : bend pres.length b ≤ pres.length := bend_le n1 hb1
    refine ⟨_, rfl, _, rfl, _, rfl, j, CJ, jdx, _, _, rfl, g2, TJ.cl, TJ.nB, lb, p, dx, c, l, e, cells, pres, evs, b, rfl, d2, by omega, by omega, by omega, ?_⟩
    refine ⟨_, rfl, _, rfl, j, CJ, jdx, _, _, rfl, g2, TJ.cl, TJ.nB, lb, p, dx, c, l, e, cells, pres, evs, b, rfl, d2, by omega, by omega, by omega, ?_⟩
    rw [nc]
    refine ⟨p, dx, c, l, e, cells, pres, evs, _, _, rfl, d2, oc, by rw [bend_eq]; omega, hbe, fun rs z ch => ?_, fun no dd G nd sm hd => ?_⟩
    · refine ⟨_, rfl, j, CJ, jdx, _, rfl, g2, TJ.cl, TJ.nE, by show 2 < 1000; decide, ?_⟩
      rw [jf_3]
      exact qT b z rs _ ⟨⟨x, hx, hb⟩, hb1, ch⟩ (fr f2 g2) upd_same
    · refine qF (fun rs hJ => ?_) dd G ?_ (f2.trans (.same sm)) hd
      · obtain ⟨b2, z2, ⟨s2, e1, e2⟩, e3, e4⟩ := hJ
        rw [hx] at e1
        cases e1
        have : b2 = b := by omega
        subst this
        exact no _ _ e4
      · cases zz : H dd with
        | none => rfl
        | some o =>
          by_cases q : dd = j
          · rw [q, g2] at nd
            cases nd
          · rw [f2.ks _ _ (by simpa using q) zz] at nd
            cases nd
end
end K6
namespace K6
open PySem PySem.Spec PyProof.Rows L2 Gd
def recD (r : List Int) : PyData := .tuple (r.map .int)
theorem noList_recs (rs : List (List Int)) : noListAll (rs.map recD) = true := noListAll_mem fun d hd => by
  obtain ⟨x, _, rfl⟩ := List.mem_map.mp hd
  rw [recD, noList]
  exact noList_intsD _
theorem chain_len {now : List Int} {stop i z : Nat} {rs : List (List Int)} (h : Chain now stop i rs z) : rs.length ≤ z - i := by
  induction h with
  | nil => exact Nat.zero_le _
  | cons h1 h2 h3 h4 h5 h6 h7 h8 ih =>
    have := chain_le h8
    rw [List.length_cons]
    omega
section
variable {P : Program} {w : World} {K : PySem.W.Frag} {mg : Str → Option Value} {base : Heap}
/-! ### records -/
def spRecs (K : PySem.W.Frag) (C CJ : Addr) : Sp := fun vs H Q _ => ∃ (j jdx p dx c l e : Addr) (cells pres : List Int) (evs : List Ev) (b z : Nat) (rs : List (List Int)), vs = [.ref j] ∧ JAt K C CJ H j jdx p dx c l e cells pres evs b z rs ∧
  ∀ G t, Same H G → Dp K G (.ref t) (.tuple (rs.map recD)) → Q (.ref t) G
theorem ok_recs {f C CJ mL fA fH : Addr} {fd dL fdA fdH : FuncData} {k : Nat} {t : Tok} (F : Fun K "records" "Journal.records" s_Journal_records f fd) (T : DTxt K mg C) (TJ : JTxt K mg CJ) (ML : Meth K C "look" mL) (bL : Binds K dL ["self", "at"] []) (HL : FnOk P w K mg base CX0 k mL dL ["self", "at"] (spLook K C))
    (FA : Fun K "bank_begin" "bank_begin" s_bank_begin fA fdA) (bA : Binds K fdA ["disk", "bank"] []) (gA : mg "bank_begin" = some (.ref fA)) (GA : FnOk P w K mg base CX0 k fA fdA ["disk", "bank"] (spBeg K C))
    (FH : Fun K "behind_link" "behind_link" s_behind_link fH fdH) (bH : Binds K fdH ["disk", "at"] []) (gBH : mg "behind_link" = some (.ref fH)) (GH : FnOk P w K mg base CX0 k fH fdH ["disk", "at"] (spBeh K C)) (gH : mg "HEAD" = some (.int 3 t)) (mt : mg "tuple" = none) (mr : mg "range" = none) :
    FnOk P w K mg base CX0 (k + 1) f fd ["self"] (spRecs K C CJ) := by
  refine F.ok sc_Journal_records (fun vs H Q E h => ?_) (fun cdv A outer s H vs Q E hr h => ?_)
  · obtain ⟨j, jdx, p, dx, c, l, e, cells, pres, evs, b, z, rs, rfl, _⟩ := h
    rfl
  · obtain ⟨j, jdx, p, dx, c, l, e, cells, pres, evs, b, z, rs, rfl, J, q⟩ := h
    refine blk_cons (ps_set (i := 1) sc_Journal_records.nd rfl (.inl rfl) (pe_lst pa_nil)) ?_
    refine blk_cons (ps_set (i := 2) sc_Journal_records.nd rfl (.inl rfl) (pe_call GA hr (by rfl) gA FA.kp bA .nil pass0 (pa_cons (pe_fld (pv 0) rfl) (pa_cons (pe_fld (pv 0) rfl) pa_nil)))) ?_
    refine blk_cons (ps_while PassesOwn.never (pt_cmpR op_lt (pv 2) (pe_fld (pv 0) rfl) (nomark _))
      (pss_cons (ps_set (i := 3) sc_Journal_records.nd rfl (.inl rfl) (pe_call GH hr (by rfl) gBH FH.kp bH .nil pass0 (pa_cons (pe_fld (pv 0) rfl) (pa_cons (pv 2) pa_nil))))
      (pss_cons (ps_expr (pe_bm PySem.F.plainAttrs_list PySem.F.slot_list_append PySem.F.type_list_append mt_append (pv 1) (pa_cons (pe_callTy call_tuple_of (by rfl) mt (by decide +kernel) (pa_cons (pe_lc (own := [("place", 4)]) (g := gName 4) (tt := tYes) rfl sc_Journal_records.nd (pi_range2 (by rfl) mr (pa_cons (pe_op op_add (pv 2) (pe_glob (v := .int 3) (by rfl) gH ⟨_, rfl⟩)) (pa_cons (pv 3) pa_nil)))
          (blkOk_by (own := [("place", 4)]) (N := n_Journal_records) (sc := defScope s_Journal_records) (by decide +kernel)) (fun _ _ _ _ _ => pg_name (i := 4) sc_Journal_records.nd rfl (Or.inl rfl)) (fun _ _ _ _ _ => pts_nil) (fun _ _ _ _ _ => pe_meth (show PE _ _ (tFld K (tVar 0) "disk") from pe_fld (pv 0) rfl) T.cl ML HL hr bL .nil pass0 (pa_cons (pv 4) pa_nil))) pa_nil)) pa_nil)))
      (pss_one (ps_set (i := 2) sc_Journal_records.nd rfl (.inl rfl) (pv 3)))))) ?_
    refine blk_cons (ps_ret (pe_callTy call_tuple_of (by rfl) mt (by decide +kernel) (pa_cons (pv 1) pa_nil))) ?_
    refine blk_nil ?_
    have hbe : bend pres.length b ≤ pres.length := bend_le J.n1 J.st.b1
    have n2 := J.n2
    refine ⟨Nat.zero_le _, fun F0 nF => ?_⟩
    have s0 := same_new (o := .lst []) nF
    have J1 := J.same s0
    have gF := upd_same (H := H) (a := F0) (o := .lst [])
    generalize hG1 : upd H F0 (.lst []) = G1 at s0 J1 gF ⊢
    refine ⟨_, rfl, j, CJ, jdx, _, _, rfl, J1.obj, TJ.cl, TJ.nD, jf_ld _ _ _, _, rfl, j, CJ, jdx, _, _, rfl, J1.obj, TJ.cl, TJ.nB, jf_lb _ _ _, p, dx, c, l, e, cells, pres, evs, b, rfl, J1.dk, by rw [J.nc]; exact J.n1, by rw [J.nc]; exact n2, by have := J.st.b1; omega, ?_⟩
    rw [J.nc]
    refine ⟨fun m σ G => ∃ (i : Nat) (r1 r2 : List (List Int)) (y3 y4 : Option V), σ = [some (.ref j), some (.ref F0), some (.int (i : Nat)), y3, y4] ∧ Same H G ∧ (∃ vs, G F0 = some (.lst vs) ∧ DpAll K G vs (r1.map recD)) ∧ rs = r1 ++ r2 ∧ Chain pres (bend pres.length b) i r2 z ∧ r1.length ≤ i ∧ m = z - i,
      ⟨_, bbeg pres.length b, [], rs, _, _, rfl, s0, ⟨[], gF, .nil⟩, rfl, J.st.ch, Nat.zero_le _, rfl⟩, fun m σ G hw => ?_⟩
    obtain ⟨i, r1, r2, y3, y4, rfl, sm, ⟨us, gF1, du⟩, er, ch, li, rfl⟩ := hw
    have J2 := J.same sm
    refine ⟨_, rfl, _, rfl, j, CJ, jdx, _, _, rfl, J2.obj, TJ.cl, TJ.nE, jf_le _ _ _, _, _, rfl, rfl, _, rfl, ?_⟩
    cases ch with
    | nil g1 g2 =>
      rw [decide_eq_false (show ¬ ((z : Nat) : Int) < ((z : Nat) : Int) by omega), if_neg Bool.false_ne_true]
      refine ⟨_, rfl, F0, us, rfl, .inl ⟨sqL gF1, fun tq nt => ?_⟩⟩
      rw [er, List.append_nil] at q
      exact q _ tq (sm.trans (same_new nt)) (.tup (sqT upd_same) (dpAll_same (same_new nt) _ _ du))
    | @cons _ _ n x hi lo r3 g1 g2 g3 g4 g5 g6 g7 g8 =>
      have le8 := chain_le g8
      rw [decide_eq_true (show ((i : Nat) : Int) < ((z : Nat) : Int) by omega), if_pos rfl]
      refine ⟨fun σ' G' => ∃ m', m' < z - i ∧ ∃ (i : Nat) (r1 r2 : List (List Int)) (y3 y4 : Option V), σ' = [some (.ref j), some (.ref F0), some (.int (i : Nat)), y3, y4] ∧ Same H G' ∧ (∃ vs, G' F0 = some (.lst vs) ∧ DpAll K G' vs (r1.map recD)) ∧ rs = r1 ++ r2 ∧ Chain pres (bend pres.length b) i r2 z ∧ r1.length ≤ i ∧ m' = z - i, fun σ' G' h => h, ?_⟩
      refine ⟨_, rfl, j, CJ, jdx, _, _, rfl, J2.obj, TJ.cl, TJ.nD, jf_ld _ _ _, _, rfl, p, dx, c, l, e, cells, pres, evs, i, n, hi, lo, rfl, J2.dk, g4, g5, g6, ?_⟩
      refine ⟨_, rfl, .inl ⟨rfl, _, sqL gF1⟩, ?_⟩
      refine ⟨_, rfl, _, _, rfl, rfl, _, rfl, _, _, rfl, ⟨by omega, by omega, by omega, by omega⟩, fun D nD => ?_⟩
      have nFD : F0 ≠ D := ne_of_none gF1 nD
      rw [show (((i + 3 + n : Nat) : Int) - ((i : Int) + 3)).toNat = n by omega]
      refine lc_range (lo := (i : Int) + 3) (n := n) (fun m G' => Same G G' ∧ G' D = some (.lst (((pres.drop (i + 3)).take m).map V.int))) ⟨same_new nD, upd_same⟩ (fun m G' hm hP => ?_) (fun G' hP => ?_)
      · obtain ⟨s1, gD⟩ := hP
        have J3 := J2.same s1
        obtain ⟨o, ho, _⟩ := J.oc.at (a := i + 3 + m) (by omega)
        refine ⟨rfl, ?_⟩
        dsimp only [tYes]
        rw [if_pos rfl]
        refine ⟨_, rfl, j, CJ, jdx, _, _, rfl, J3.obj, TJ.cl, TJ.nD, jf_ld _ _ _, p, dx, _, rfl, J3.dk.obj, df_no _ _ _ (by decide +kernel) (by decide +kernel) (by decide +kernel), _, rfl, p, dx, c, l, e, cells, pres, evs, i + 3 + m, o, ?_, J3.dk, ho, ?_⟩
        · rw [show (i : Int) + 3 + (m : Int) = ((i + 3 + m : Nat) : Int) by omega]
          rfl
        refine ⟨_, gD, ?_, fun bb ob eb => ?_, ?_⟩
        · rw [List.length_map, List.length_take, sizeLine_eq]
          omega
        · rw [upd_ne (ne_of_none eb nD)]
          exact s1 _ _ eb
        · rw [upd_same, List.take_add_one, List.getElem?_drop, ho, List.map_append]
          rfl
      · obtain ⟨s1, gD⟩ := hP
        refine ⟨D, _, rfl, .inl ⟨sqL gD, fun tq nt => ?_⟩⟩
        have s2 := s1.trans (same_new (o := .tup (((pres.drop (i + 3)).take n).map V.int)) nt)
        have gt := sqT (K := K) (upd_same (H := G') (a := tq) (o := .tup (((pres.drop (i + 3)).take n).map V.int)))
        generalize upd G' tq (.tup (((pres.drop (i + 3)).take n).map V.int)) = G3 at s2 gt ⊢
        have gF3 := s2 _ _ gF1
        refine ⟨F0, us, _, rfl, rfl, gF3, ?_, ?_⟩
        · rw [dpAll_len du, List.length_map, sizeLine_eq]
          omega
        have kt : KeepT G3 (upd G3 F0 (.lst (us ++ [.ref tq]))) := .put gF3
        refine ⟨_, rfl, _, by omega, i + 3 + n, r1 ++ [(pres.drop (i + 3)).take n], r3, _, _, rfl, ?_, ⟨_, upd_same, ?_⟩, by rw [er, List.append_assoc]; rfl, g8, by rw [List.length_append]; show _ + 1 ≤ _; omega, rfl⟩
        · exact fun bb ob eb => (upd_ne (ne_of_none eb nF)).trans (s2 _ _ (sm _ _ eb))
        · rw [List.map_append]
          exact dpAll_snoc (dpAll_keep kt _ _ (noList_recs _) (dpAll_same s2 _ _ du)) (dp_tup (kt.seqT gt))
end
end K6
namespace K6
open PySem PySem.Spec PyProof.Rows L2 Gd
theorem replay_oct {pres : List Int} (h : OctL pres) : ∀ {evs : List Ev}, (∀ a o, some (a, o) ∈ evs → Oct o) → OctL (replay pres evs) := by
  intro evs
  induction evs generalizing pres with
  | nil => exact fun _ => h
  | cons ev r ih =>
    intro hh
    show OctL (replay (act pres ev) r)
    refine ih ?_ fun a o m => hh a o (List.mem_cons_of_mem _ m)
    cases ev with
    | none => exact h
    | some x =>
      obtain ⟨a, o⟩ := x
      intro y hy
      rcases List.mem_or_eq_of_mem_set hy with z | z
      · exact h y z
      · exact z ▸ hh a o List.mem_cons_self
theorem linkOf_oct {r : List Int} (h : OctL r) (hl : r.length < 65536) : OctL (linkOf r) := fun o ho => by
  rcases List.mem_cons.mp ho with z | z
  · rw [z]; unfold Oct; omega
  rcases List.mem_cons.mp z with z | z
  · rw [z]; unfold Oct; omega
  rcases List.mem_cons.mp z with z | z
  · rw [z]; unfold Oct; omega
  · exact h o z
theorem twoEv_oct {P : List Ev} {x : Nat} {v : Int} (h : ∀ a o, some (a, o) ∈ P → Oct o) (hv : Oct v) : ∀ a o, some (a, o) ∈ twoEv P x v → Oct o := fun a o m => by
  unfold twoEv at m
  rcases List.mem_append.mp m with z | z
  · exact h a o z
  · simp at z
    rw [z.2]
    exact hv
theorem chainPuts_oct {i stop : Nat} {os : List Int} (hs : i + os.length ≤ stop) (h : OctL os) : ∀ a o, some (a, o) ∈ chainPuts i os stop → Oct o := fun a o m => by
  obtain ⟨a', o', e, _, _, g⟩ := chainPuts_mem m hs
  cases e
  rcases g with z | z
  · exact h _ z
  · rw [z]; unfold Oct; omega
theorem chainPuts_len (i stop : Nat) (os : List Int) : (chainPuts i os stop).length ≤ os.length + 1 := by
  unfold chainPuts
  rw [List.length_append, putsAt_len]
  split
  · exact Nat.le_refl _
  · exact Nat.le_succ _
theorem twoEv_len (P : List Ev) (x : Nat) (v : Int) : (twoEv P x v).length = P.length + 3 := by
  unfold twoEv
  rw [List.length_append]
  rfl
section
variable {P : Program} {w : World} {K : PySem.W.Frag} {mg : Str → Option Value} {base : Heap}
/-! ### write -/
def spWrite (K : PySem.W.Frag) (C CJ CR : Addr) : Sp := fun vs H Q E => ∃ (j jdx p dx c l e qr : Addr) (cells pres : List Int) (evs : List Ev) (b z : Nat) (rs : List (List Int)) (r : List Int), vs = [.ref j, .ref qr] ∧ JAt K C CJ H j jdx p dx c l e cells pres evs b z rs ∧ SqT K H qr (r.map V.int) ∧ OctL r ∧ r.length ≤ 30000 ∧ evs.length ≤ 900000 ∧
  (z + r.length + 3 ≤ bend pres.length b → ∀ G, FrmU [j, l, e] H G → JAt K C CJ G j jdx p dx c l e cells (replay pres (twoEv (wPuts z r (bend pres.length b)) z 1)) (evs ++ twoEv (wPuts z r (bend pres.length b)) z 1) b (z + r.length + 3) (rs ++ [r]) → Q .non G) ∧
  (¬ z + r.length + 3 ≤ bend pres.length b → ∀ d G, H d = none → Same H G → G d = some (xdS "room") → E (.ref CR) (some d) G)
theorem ok_write {f C CJ CR mP mF fL fZ fC fR : Addr} {fd dP dF fdL fdZ fdC fdR : FuncData} {k : Nat} (F : Fun K "write" "Journal.write" s_Journal_write f fd) (T : DTxt K mg C) (TJ : JTxt K mg CJ) (MP : Meth K C "put" mP) (bP : Binds K dP ["self", "at", "octet"] []) (HP : FnOk P w K mg base CX0 (k + 1) mP dP ["self", "at", "octet"] (spPut K C))
    (MF : Meth K C "flush" mF) (bF : Binds K dF ["self"] []) (HF : FnOk P w K mg base CX0 (k + 1) mF dF ["self"] (spFlush K C))
    (FL : Fun K "link_of" "link_of" s_link_of fL fdL) (bL : Binds K fdL ["record"] []) (gL : mg "link_of" = some (.ref fL)) (GL : FnOk P w K mg base CX0 (k + 1) fL fdL ["record"] (spLink K))
    (FZ : Fun K "bank_end" "bank_end" s_bank_end fZ fdZ) (bZ : Binds K fdZ ["disk", "bank"] []) (gZ : mg "bank_end" = some (.ref fZ)) (GZ : FnOk P w K mg base CX0 (k + 1) fZ fdZ ["disk", "bank"] (spEnd K C))
    (FC : Fun K "put_chain" "put_chain" s_put_chain fC fdC) (bC : Binds K fdC ["disk", "begin", "octets", "stop"] []) (gC : mg "put_chain" = some (.ref fC)) (GC : FnOk P w K mg base CX0 (k + 1) fC fdC ["disk", "begin", "octets", "stop"] (spPC K C))
    (FR : Fun K "__init__" "Refused.__init__" s_Refused_init fR fdR) (TR : WTxt K mg "Refused" CR fR) (bR : Binds K fdR ["self", "word"] []) (GR : FnOk P w K mg base CX0 k fR fdR ["self", "word"] (spIRef K CR)) (ml : mg "len" = none) :
    FnOk P w K mg base (L2.CX P w) (k + 1 + 1) f fd ["self", "record"] (spWrite K C CJ CR) := by
  refine F.okX sc_Journal_write (fun vs H Q E h => ?_) (fun cdv A outer s H vs Q E hr h => ?_)
  · obtain ⟨j, jdx, p, dx, c, l, e, qr, cells, pres, evs, b, z, rs, r, rfl, _⟩ := h
    rfl
  · obtain ⟨j, jdx, p, dx, c, l, e, qr, cells, pres, evs, b, z, rs, r, rfl, J, hq, or_, hl, he, qT, qF⟩ := h
    refine blk_cons (ps_set (i := 2) sc_Journal_write.nd rfl (.inl rfl) (pe_call GL hr (by rfl) gL FL.kp bL .nil pass0 (pa_cons (pv 1) pa_nil))) ?_
    refine blk_cons (ps_set (i := 3) sc_Journal_write.nd rfl (.inl rfl) (pe_op op_add (pe_fld (pv 0) rfl) (pe_callB call_len_seq (by rfl) ml PySem.boot_len (pa_cons (pv 2) pa_nil)))) ?_
    refine blk_cons (ps_set (i := 4) sc_Journal_write.nd rfl (.inl rfl) (pe_call GZ hr (by rfl) gZ FZ.kp bZ .nil pass0 (pa_cons (pe_fld (pv 0) rfl) (pa_cons (pe_fld (pv 0) rfl) pa_nil)))) ?_
    refine blk_cons (ps_if (pt_cmpR op_gt (pv 3) (pv 4) (nomark _)) (pss_one (ps_raise rfl (takes_of rfl rfl rfl rfl) (pmk_oex TR.ox TR.iC TR.tI GR hr bR .nil pass0 (by rfl) TR.gR (pa_cons pe_str pa_nil)))) pss_nil) ?_
    refine blk_cons (ps_expr (pe_call GC hr (by rfl) gC FC.kp bC .nil pass0 (pa_cons (pe_fld (pv 0) rfl) (pa_cons (pe_op op_add (pe_fld (pv 0) rfl) pe_int) (pa_cons (pe_slice sl_list (pv 2) (po_some pe_int) po_none) (pa_cons (pv 4) pa_nil)))))) ?_
    refine blk_cons (ps_expr (pe_meth0 (pe_fld (pv 0) rfl) T.cl MF HF hr bF .nil pass0)) ?_
    refine blk_cons (ps_expr (pe_meth (pe_fld (pv 0) rfl) T.cl MP HP hr bP .nil pass0 (pa_cons (pe_fld (pv 0) rfl) (pa_cons (pe_ix ix_list (pv 2) pe_int (fun _ _ => rfl)) pa_nil)))) ?_
    refine blk_cons (ps_expr (pe_meth0 (pe_fld (pv 0) rfl) T.cl MF HF hr bF .nil pass0)) ?_
    refine blk_cons (ps_fld (pv 0) (pv 3) rfl) ?_
    refine blk_nil ?_
    have hbe : bend pres.length b ≤ pres.length := bend_le J.n1 J.st.b1
    have n2 := J.n2
    refine ⟨_, rfl, qr, r, rfl, hq, hl, fun G1 d s1 nd gd => ?_⟩
    have J1 := J.same s1
    refine ⟨_, rfl, j, CJ, jdx, _, _, rfl, J1.obj, TJ.cl, TJ.nE, jf_le _ _ _, _, rfl, d, _, rfl, .inl (sqL gd), _, _, rfl, rfl, ?_⟩
    refine ⟨_, rfl, j, CJ, jdx, _, _, rfl, J1.obj, TJ.cl, TJ.nD, jf_ld _ _ _, _, rfl, j, CJ, jdx, _, _, rfl, J1.obj, TJ.cl, TJ.nB, jf_lb _ _ _, p, dx, c, l, e, cells, pres, evs, b, rfl, J1.dk, by rw [J.nc]; exact J.n1, by rw [J.nc]; exact n2, J.st.b1, ?_⟩
    refine ⟨_, rfl, _, rfl, _, _, rfl, rfl, _, rfl, ?_⟩
    dsimp only
    rw [J.nc, List.length_map, linkOf_len, show ((z : Nat) : Int) + ((r.length + 3 : Nat) : Int) = ((z + r.length + 3 : Nat) : Int) by omega]
    by_cases fit : z + r.length + 3 ≤ bend pres.length b
    · rw [decide_eq_false (show ¬ ((z + r.length + 3 : Nat) : Int) > ((bend pres.length b : Nat) : Int) by omega)]
      refine iteF ?_
      refine ⟨_, rfl, j, CJ, jdx, _, _, rfl, J1.obj, TJ.cl, TJ.nD, jf_ld _ _ _, _, rfl, j, CJ, jdx, _, _, rfl, J1.obj, TJ.cl, TJ.nE, jf_le _ _ _, _, _, rfl, rfl, _, rfl, _, rfl, d, _, rfl, sqL gd, fun oq noq => ⟨_, rfl, ?_⟩⟩
      have ecut : cutV ((linkOf r).map V.int) (some 1) none = (linkOf r).tail.map V.int := by
        rw [show (some 1 : Option Int) = some ((1 : Nat) : Int) from rfl, cut_from (by rw [List.length_map, linkOf_len]; omega)]
        rfl
      rw [ecut]
      have s2 := s1.trans (same_new (o := .lst ((linkOf r).tail.map V.int)) noq)
      have J2 := J.same s2
      have goq := upd_same (H := G1) (a := oq) (o := .lst ((linkOf r).tail.map V.int))
      have gd2 := (same_new (o := .lst ((linkOf r).tail.map V.int)) noq) _ _ gd
      have noql : oq ≠ l := (ne_of_none J1.dk.pre noq).symm
      have noqe : oq ≠ e := by
        obtain ⟨us, h1, _⟩ := J1.dk.hap
        exact (ne_of_none h1 noq).symm
      have ndl : d ≠ l := (ne_of_none J.dk.pre nd).symm
      have nde : d ≠ e := by
        obtain ⟨us, h1, _⟩ := J.dk.hap
        exact (ne_of_none h1 nd).symm
      have ndm : d ∉ [l, e] := by simp [ndl, nde]
      generalize upd G1 oq (.lst ((linkOf r).tail.map V.int)) = G2 at s2 J2 goq gd2 ⊢
      have cle := chainPuts_len (z + 1) (bend pres.length b) (linkOf r).tail
      rw [tail_len] at cle
      refine ⟨p, dx, c, l, e, cells, pres, evs, z + 1, (linkOf r).tail, oq, bend pres.length b, by dsimp only; rw [show ((z : Nat) : Int) + 1 = ((z + 1 : Nat) : Int) by omega]; rfl, J2.dk, goq, noql, noqe, by rw [tail_len]; omega, hbe, by omega, by rw [tail_len]; omega, fun G3 f3 d3 => ?_⟩
      have o3 : G3 j = some (.ins CJ jdx (jf p b z)) := f3.ks _ _ J.nl J2.obj
      have gd3 := f3.ks _ _ ndm gd2
      refine ⟨_, rfl, j, CJ, jdx, _, _, rfl, o3, TJ.cl, TJ.nD, jf_ld _ _ _, p, dx, _, rfl, d3.obj, df_no _ _ _ (by decide +kernel) (by decide +kernel) (by decide +kernel), p, dx, c, l, e, cells, _, _, rfl, d3, by rw [List.length_append]; omega, fun G4 f4 d4 => ?_⟩
      have o4 : G4 j = some (.ins CJ jdx (jf p b z)) := f4.ks _ _ J.nl o3
      have gd4 := f4.ks _ _ ndm gd3
      have le := chain_le J.st.ch
      refine ⟨_, rfl, j, CJ, jdx, _, _, rfl, o4, TJ.cl, TJ.nD, jf_ld _ _ _, p, dx, _, rfl, d4.obj, df_no _ _ _ (by decide +kernel) (by decide +kernel) (by decide +kernel), _, rfl, j, CJ, jdx, _, _, rfl, o4, TJ.cl, TJ.nE, jf_le _ _ _, _, rfl, d, _, _, .int 1, rfl, rfl, sqL gd4, atI_nat (j := 0) (xs := (linkOf r).map V.int) rfl, p, dx, c, l, e, cells, _, _, z, 1, rfl, d4, by rw [replay_len]; omega, by rw [List.length_append, List.length_append]; show _ + 1 ≤ _; omega, fun G5 f5 d5 => ?_⟩
      have o5 : G5 j = some (.ins CJ jdx (jf p b z)) := f5.ks _ _ J.nl o4
      refine ⟨_, rfl, j, CJ, jdx, _, _, rfl, o5, TJ.cl, TJ.nD, jf_ld _ _ _, p, dx, _, rfl, d5.obj, df_no _ _ _ (by decide +kernel) (by decide +kernel) (by decide +kernel), p, dx, c, l, e, cells, _, _, rfl, d5, by rw [List.length_append, List.length_append, List.length_append]; show _ + 1 + 1 ≤ _; omega, fun G6 f6 d6 => ?_⟩
      have o6 : G6 j = some (.ins CJ jdx (jf p b z)) := f6.ks _ _ J.nl o5
      refine ⟨_, rfl, _, rfl, j, CJ, jdx, _, rfl, o6, TJ.cl, TJ.nE, by show 3 < 1000; decide, ?_⟩
      rw [jf_e]
      have fr : FrmU [j, l, e] H G6 := (FrmU.trans (.same s2) (FrmU.of (((f3.trans f4).trans f5).trans f6))).mono fun x hx => List.mem_cons_of_mem _ hx
      have fr7 : FrmU [j, l, e] H (upd G6 j (.ins CJ jdx (jf p b (z + r.length + 3)))) := fr.trans (.ins o6 (by simp))
      refine qT fit _ fr7 ⟨upd_same, ?_, ?_, ?_, ?_, ?_, ?_⟩
      · have d7 := d6.frmU (S := [j]) (FrmU.ins (o := .ins CJ jdx (jf p b (z + r.length + 3))) o6 (by simp)) (by simpa using J.ne) (by simpa using fun q => J.nl (by simp [q])) (by simpa using fun q => J.nl (by simp [q]))
        have e1 : evs ++ chainPuts (z + 1) (linkOf r).tail (bend pres.length b) ++ [none] ++ [some (z, 1)] ++ [none] = evs ++ twoEv (wPuts z r (bend pres.length b)) z 1 := by
          simp [twoEv, wPuts]
        rw [e1] at d7
        rw [twoEv_now]
        exact d7
      · exact replay_oct J.oc (twoEv_oct (chainPuts_oct (by rw [tail_len]; omega) fun o ho => linkOf_oct or_ (by omega) o (List.mem_of_mem_tail ho)) (by unfold Oct; omega))
      · rw [replay_len]; exact J.n1
      · rw [replay_len]; exact n2
      · rw [replay_len]; exact J.nc
      · exact w_after J.st J.n1 (by omega) fit
    · rw [decide_eq_true (show ((z + r.length + 3 : Nat) : Int) > ((bend pres.length b : Nat) : Int) by omega)]
      refine iteT ⟨by show 1 ≤ 1000; decide, fun a na => ⟨a, _, rfl, upd_same, fun dx2 n1 n2 => ⟨rfl, dx2, [("word", .str "room")], upd_same, (upd_ne n2).trans upd_same, ?_, ?_⟩⟩⟩
      · exact (upd_ne n2).symm.trans n1
      · have n3 : G1 dx2 = none := (upd_ne n2).symm.trans n1
        refine qF fit dx2 _ (s1.free n3) (fun b o e => ?_) upd_same
        have e1 := s1 _ _ e
        have ba : b ≠ a := ne_of_none e1 na
        have bd : b ≠ dx2 := ne_of_none e1 n3
        rw [upd_ne bd, del_ne ba, upd_ne ba, upd_ne bd, upd_ne ba]
        exact e1
end
end K6
namespace K6
open PySem PySem.Spec PyProof.Rows L2 Gd
theorem rec_at {K : PySem.W.Frag} {H : Hp} {us : List V} {ss : List (List Int)} {i : Nat} {x : V} (h : DpAll K H us (ss.map recD)) (hx : us[i]? = some x) : ∃ r, ss[i]? = some r ∧ Dp K H x (recD r) := by
  have hi : i < us.length := (List.getElem?_eq_some_iff.mp hx).1
  rw [dpAll_len h, List.length_map] at hi
  obtain ⟨v, h1, h2⟩ := dpAll_get (i := i) (d := recD ss[i]) h (by rw [List.getElem?_map, List.getElem?_eq_getElem hi]; rfl)
  rw [hx] at h1
  cases h1
  exact ⟨_, List.getElem?_eq_getElem hi, h2⟩
theorem size_take (ss : List (List Int)) (i : Nat) : sizeOf3 (ss.take i) ≤ sizeOf3 ss := by
  have e : sizeOf3 ss = sizeOf3 (ss.take i) + sizeOf3 (ss.drop i) := by
    unfold sizeOf3
    rw [← List.sum_append, ← List.map_append, List.take_append_drop]
  omega
theorem size_mem {ss : List (List Int)} {r : List Int} (h : r ∈ ss) : r.length + 3 ≤ sizeOf3 ss := by
  induction ss with
  | nil => exact absurd h List.not_mem_nil
  | cons x t ih =>
    have e : sizeOf3 (x :: t) = x.length + 3 + sizeOf3 t := rfl
    rcases List.mem_cons.mp h with z | z
    · subst z; omega
    · have := ih z; omega
theorem flat_oct {ss : List (List Int)} (h : ∀ r ∈ ss, OctL r) (hl : ∀ r ∈ ss, r.length < 65536) : OctL (ss.map linkOf).flatten := fun o ho => by
  obtain ⟨l, hl1, hl2⟩ := List.mem_flatten.mp ho
  obtain ⟨r, hr, rfl⟩ := List.mem_map.mp hl1
  exact linkOf_oct (h r hr) (hl r hr) o hl2
section
variable {P : Program} {w : World} {K : PySem.W.Frag} {mg : Str → Option Value} {base : Heap}
/-! ### renew -/
def spRenew (K : PySem.W.Frag) (C CJ CR : Addr) : Sp := fun vs H Q E => ∃ (j jdx p dx c l e qr : Addr) (cells pres : List Int) (evs : List Ev) (b z : Nat) (rs ss : List (List Int)), vs = [.ref j, .ref qr] ∧ JAt K C CJ H j jdx p dx c l e cells pres evs b z rs ∧ Dp K H (.ref qr) (.tuple (ss.map recD)) ∧ (∀ r ∈ ss, OctL r) ∧ sizeOf3 ss ≤ 30000 ∧ evs.length ≤ 900000 ∧
  (bbeg pres.length (1 - b) + sizeOf3 ss ≤ bend pres.length (1 - b) → ∀ G, FrmU [j, l, e] H G → JAt K C CJ G j jdx p dx c l e cells (replay pres (twoEv (rPuts pres.length b ss) 0 ((1 - b : Nat) : Int))) (evs ++ twoEv (rPuts pres.length b ss) 0 ((1 - b : Nat) : Int)) (1 - b) (bbeg pres.length (1 - b) + sizeOf3 ss) ss → Q .non G) ∧
  (¬ bbeg pres.length (1 - b) + sizeOf3 ss ≤ bend pres.length (1 - b) → ∀ d G, H d = none → Same H G → G d = some (xdS "room") → E (.ref CR) (some d) G)
theorem ok_renew {f C CJ CR mP mF fL fA fZ fC fR : Addr} {fd dP dF fdL fdA fdZ fdC fdR : FuncData} {k : Nat} (F : Fun K "renew" "Journal.renew" s_Journal_renew f fd) (T : DTxt K mg C) (TJ : JTxt K mg CJ) (MP : Meth K C "put" mP) (bP : Binds K dP ["self", "at", "octet"] []) (HP : FnOk P w K mg base CX0 (k + 1) mP dP ["self", "at", "octet"] (spPut K C))
    (MF : Meth K C "flush" mF) (bF : Binds K dF ["self"] []) (HF : FnOk P w K mg base CX0 (k + 1) mF dF ["self"] (spFlush K C))
    (FL : Fun K "link_of" "link_of" s_link_of fL fdL) (bL : Binds K fdL ["record"] []) (gL : mg "link_of" = some (.ref fL)) (GL : FnOk P w K mg base CX0 (k + 1) fL fdL ["record"] (spLink K))
    (FA : Fun K "bank_begin" "bank_begin" s_bank_begin fA fdA) (bA : Binds K fdA ["disk", "bank"] []) (gA : mg "bank_begin" = some (.ref fA)) (GA : FnOk P w K mg base CX0 (k + 1) fA fdA ["disk", "bank"] (spBeg K C))
    (FZ : Fun K "bank_end" "bank_end" s_bank_end fZ fdZ) (bZ : Binds K fdZ ["disk", "bank"] []) (gZ : mg "bank_end" = some (.ref fZ)) (GZ : FnOk P w K mg base CX0 (k + 1) fZ fdZ ["disk", "bank"] (spEnd K C))
    (FC : Fun K "put_chain" "put_chain" s_put_chain fC fdC) (bC : Binds K fdC ["disk", "begin", "octets", "stop"] []) (gC : mg "put_chain" = some (.ref fC)) (GC : FnOk P w K mg base CX0 (k + 1) fC fdC ["disk", "begin", "octets", "stop"] (spPC K C))
    (FR : Fun K "__init__" "Refused.__init__" s_Refused_init fR fdR) (TR : WTxt K mg "Refused" CR fR) (bR : Binds K fdR ["self", "word"] []) (GR : FnOk P w K mg base CX0 k fR fdR ["self", "word"] (spIRef K CR)) (ml : mg "len" = none) :
    FnOk P w K mg base (L2.CX P w) (k + 1 + 1) f fd ["self", "records"] (spRenew K C CJ CR) := by
  refine F.okX sc_Journal_renew (fun vs H Q E h => ?_) (fun cdv A outer s H vs Q E hr h => ?_)
  · obtain ⟨j, jdx, p, dx, c, l, e, qr, cells, pres, evs, b, z, rs, ss, rfl, _⟩ := h
    rfl
  · obtain ⟨j, jdx, p, dx, c, l, e, qr, cells, pres, evs, b, z, rs, ss, rfl, J, hq, or_, hl, he, qT, qF⟩ := h
    refine blk_cons (ps_set (i := 2) sc_Journal_renew.nd rfl (.inl rfl) (pe_lst pa_nil)) ?_
    refine blk_cons (ps_for (passes_of rfl) rfl (pi_tup (pv 1)) (pg_name (i := 3) sc_Journal_renew.nd rfl (.inl rfl))
      (pss_one (ps_expr (pe_bm PySem.F.plainAttrs_list PySem.F.slot_list_extend PySem.F.type_list_extend mt_extend (pv 2) (pa_cons (pe_call GL hr (by rfl) gL FL.kp bL .nil pass0 (pa_cons (pv 3) pa_nil)) pa_nil))))) ?_
    refine blk_cons (ps_set (i := 4) sc_Journal_renew.nd rfl (.inl rfl) (pe_op op_sub pe_int (pe_fld (pv 0) rfl))) ?_
    refine blk_cons (ps_set (i := 5) sc_Journal_renew.nd rfl (.inl rfl) (pe_call GA hr (by rfl) gA FA.kp bA .nil pass0 (pa_cons (pe_fld (pv 0) rfl) (pa_cons (pv 4) pa_nil)))) ?_
    refine blk_cons (ps_set (i := 6) sc_Journal_renew.nd rfl (.inl rfl) (pe_call GZ hr (by rfl) gZ FZ.kp bZ .nil pass0 (pa_cons (pe_fld (pv 0) rfl) (pa_cons (pv 4) pa_nil)))) ?_
    refine blk_cons (ps_if (pt_cmpR op_gt (pe_op op_add (pv 5) (pe_callB call_len_seq (by rfl) ml PySem.boot_len (pa_cons (pv 2) pa_nil))) (pv 6) (nomark _)) (pss_one (ps_raise rfl (takes_of rfl rfl rfl rfl) (pmk_oex TR.ox TR.iC TR.tI GR hr bR .nil pass0 (by rfl) TR.gR (pa_cons pe_str pa_nil)))) pss_nil) ?_
    refine blk_cons (ps_expr (pe_call GC hr (by rfl) gC FC.kp bC .nil pass0 (pa_cons (pe_fld (pv 0) rfl) (pa_cons (pv 5) (pa_cons (pv 2) (pa_cons (pv 6) pa_nil)))))) ?_
    refine blk_cons (ps_expr (pe_meth0 (pe_fld (pv 0) rfl) T.cl MF HF hr bF .nil pass0)) ?_
    refine blk_cons (ps_expr (pe_meth (pe_fld (pv 0) rfl) T.cl MP HP hr bP .nil pass0 (pa_cons pe_int (pa_cons (pv 4) pa_nil)))) ?_
    refine blk_cons (ps_expr (pe_meth0 (pe_fld (pv 0) rfl) T.cl MF HF hr bF .nil pass0)) ?_
    refine blk_cons (ps_fld (pv 0) (pv 4) rfl) ?_
    refine blk_cons (ps_fld (pv 0) (pe_op op_add (pv 5) (pe_callB call_len_seq (by rfl) ml PySem.boot_len (pa_cons (pv 2) pa_nil))) rfl) ?_
    refine blk_nil ?_
    have b1 := J.st.b1
    have hbe : bend pres.length (1 - b) ≤ pres.length := bend_le J.n1 (by omega)
    have n2 := J.n2
    obtain ⟨q', us, eq', hus, dus⟩ := tup_inv hq
    cases eq'
    refine ⟨Nat.zero_le _, fun F0 nF => ?_⟩
    have s0 := same_new (o := .lst []) nF
    have J1 := J.same s0
    have gF := upd_same (H := H) (a := F0) (o := .lst [])
    generalize hG1 : upd H F0 (.lst []) = G1 at s0 J1 gF ⊢
    have hf := flat_len ss
    have hl6 : ∀ r ∈ ss, r.length < 65536 := fun r hr => by have := size_mem hr; omega
    dsimp only [gName]
    refine seq_out (t := tFor _ _ _) (fun σ' G' => ∃ y3 : Option V, σ' = [some (.ref j), some (.ref qr), some (.ref F0), y3, none, none, none] ∧ Same H G' ∧ G' F0 = some (.lst ((ss.map linkOf).flatten.map V.int))) (fun N hN => ?_) (fun σ' G2 hR => ?_)
    · refine ⟨_, rfl, qr, rfl, ⟨_, same_seqT s0 hus⟩, for_tup (xs := us) (fun i σ G => ∃ y3 : Option V, σ = [some (.ref j), some (.ref qr), some (.ref F0), y3, none, none, none] ∧ Same H G ∧ G F0 = some (.lst (((ss.take i).map linkOf).flatten.map V.int)))
        ⟨_, rfl, s0, gF⟩ (fun i σ G _ hP => ?_) (fun i x σ G hx hP => ?_) (fun σ G hP => ?_)⟩
      · obtain ⟨_, _, s, _⟩ := hP
        exact same_seqT s hus
      · obtain ⟨y3, rfl, s, gF2⟩ := hP
        obtain ⟨r, hr1, hr2⟩ := rec_at dus hx
        obtain ⟨qx, rfl, hqx⟩ := tints_inv hr2
        have hrm := List.mem_of_getElem? hr1
        have := size_mem hrm
        have st1 := size_take ss i
        have ft := flat_len (ss.take i)
        refine ⟨_, rfl, .inl ⟨rfl, _, sqL gF2⟩, ?_⟩
        refine ⟨_, rfl, qx, r, rfl, same_seqT s hqx, by omega, fun G3 d s3 nd gd => ?_⟩
        have gF3 := s3 _ _ gF2
        refine ⟨F0, d, _, _, rfl, rfl, gF3, gd, ?_, _, rfl, ?_, ?_⟩
        · rw [List.length_map, List.length_map, ft, linkOf_len, sizeLine_eq]
          omega
        · exact fun bb ob eb => (upd_ne (ne_of_none eb nF)).trans (s3 _ _ (s _ _ eb))
        · rw [upd_same, List.take_add_one, hr1, List.map_append, List.flatten_append, List.map_append]
          simp
      · obtain ⟨y3, rfl, s, gF2⟩ := hP
        rw [dpAll_len dus, List.length_map, List.take_length] at gF2
        exact hN _ _ ⟨_, rfl, s, gF2⟩
    obtain ⟨y3, rfl, s2, gF2⟩ := hR
    have J2 := J.same s2
    have ml1 : (((ss.map linkOf).flatten.map V.int).length : Int) = ((sizeOf3 ss : Nat) : Int) := by rw [List.length_map, hf]
    refine ⟨_, rfl, j, CJ, jdx, _, _, rfl, J2.obj, TJ.cl, TJ.nB, jf_lb _ _ _, _, _, rfl, rfl, ?_⟩
    dsimp only
    rw [show (1 : Int) - ((b : Nat) : Int) = ((1 - b : Nat) : Int) by omega]
    refine ⟨_, rfl, j, CJ, jdx, _, _, rfl, J2.obj, TJ.cl, TJ.nD, jf_ld _ _ _, _, rfl, p, dx, c, l, e, cells, pres, evs, 1 - b, rfl, J2.dk, by rw [J.nc]; exact J.n1, by rw [J.nc]; exact n2, by omega, ?_⟩
    refine ⟨_, rfl, j, CJ, jdx, _, _, rfl, J2.obj, TJ.cl, TJ.nD, jf_ld _ _ _, _, rfl, p, dx, c, l, e, cells, pres, evs, 1 - b, rfl, J2.dk, by rw [J.nc]; exact J.n1, by rw [J.nc]; exact n2, by omega, ?_⟩
    refine ⟨_, rfl, _, rfl, F0, _, rfl, .inl (sqL gF2), _, _, rfl, rfl, _, rfl, _, _, rfl, rfl, _, rfl, ?_⟩
    dsimp only
    rw [J.nc, ml1, show ((bbeg pres.length (1 - b) : Nat) : Int) + ((sizeOf3 ss : Nat) : Int) = ((bbeg pres.length (1 - b) + sizeOf3 ss : Nat) : Int) by omega]
    by_cases fit : bbeg pres.length (1 - b) + sizeOf3 ss ≤ bend pres.length (1 - b)
    · rw [decide_eq_false (show ¬ ((bbeg pres.length (1 - b) + sizeOf3 ss : Nat) : Int) > ((bend pres.length (1 - b) : Nat) : Int) by omega)]
      refine iteF ?_
      have nFl : F0 ≠ l := (ne_of_none J.dk.pre nF).symm
      have nFe : F0 ≠ e := by
        obtain ⟨us, h1, _⟩ := J.dk.hap
        exact (ne_of_none h1 nF).symm
      have nFm : F0 ∉ [l, e] := by simp [nFl, nFe]
      have cle := chainPuts_len (bbeg pres.length (1 - b)) (bend pres.length (1 - b)) (ss.map linkOf).flatten
      rw [hf] at cle
      refine ⟨_, rfl, j, CJ, jdx, _, _, rfl, J2.obj, TJ.cl, TJ.nD, jf_ld _ _ _, _, rfl, _, rfl, _, rfl, p, dx, c, l, e, cells, pres, evs, bbeg pres.length (1 - b), (ss.map linkOf).flatten, F0, bend pres.length (1 - b), rfl, J2.dk, gF2, nFl, nFe, by rw [hf]; omega, hbe, by omega, by rw [hf]; omega, fun G3 f3 d3 => ?_⟩
      have o3 : G3 j = some (.ins CJ jdx (jf p b z)) := f3.ks _ _ J.nl J2.obj
      have gF3 := f3.ks _ _ nFm gF2
      refine ⟨_, rfl, j, CJ, jdx, _, _, rfl, o3, TJ.cl, TJ.nD, jf_ld _ _ _, p, dx, _, rfl, d3.obj, df_no _ _ _ (by decide +kernel) (by decide +kernel) (by decide +kernel), p, dx, c, l, e, cells, _, _, rfl, d3, by rw [List.length_append]; omega, fun G4 f4 d4 => ?_⟩
      have o4 : G4 j = some (.ins CJ jdx (jf p b z)) := f4.ks _ _ J.nl o3
      have gF4 := f4.ks _ _ nFm gF3
      have n1 := J.n1
      refine ⟨_, rfl, j, CJ, jdx, _, _, rfl, o4, TJ.cl, TJ.nD, jf_ld _ _ _, p, dx, _, rfl, d4.obj, df_no _ _ _ (by decide +kernel) (by decide +kernel) (by decide +kernel), _, rfl, p, dx, c, l, e, cells, _, _, 0, ((1 - b : Nat) : Int), rfl, d4, by rw [replay_len]; omega, by rw [List.length_append, List.length_append]; show _ + 1 ≤ _; omega, fun G5 f5 d5 => ?_⟩
      have o5 : G5 j = some (.ins CJ jdx (jf p b z)) := f5.ks _ _ J.nl o4
      have gF5 := f5.ks _ _ nFm gF4
      refine ⟨_, rfl, j, CJ, jdx, _, _, rfl, o5, TJ.cl, TJ.nD, jf_ld _ _ _, p, dx, _, rfl, d5.obj, df_no _ _ _ (by decide +kernel) (by decide +kernel) (by decide +kernel), p, dx, c, l, e, cells, _, _, rfl, d5, by rw [List.length_append, List.length_append, List.length_append]; show _ + 1 + 1 ≤ _; omega, fun G6 f6 d6 => ?_⟩
      have o6 : G6 j = some (.ins CJ jdx (jf p b z)) := f6.ks _ _ J.nl o5
      have gF6 := f6.ks _ _ nFm gF5
      refine ⟨_, rfl, _, rfl, j, CJ, jdx, _, rfl, o6, TJ.cl, TJ.nB, by show 3 < 1000; decide, ?_⟩
      rw [jf_b]
      have njF : F0 ≠ j := fun q => by
        rw [q, J.obj] at nF
        cases nF
      have o7 := upd_same (H := G6) (a := j) (o := .ins CJ jdx (jf p (1 - b) z))
      have gF7 := (upd_ne (H := G6) (o := .ins CJ jdx (jf p (1 - b) z)) njF).trans gF6
      have fr7 : FrmU [j] G6 (upd G6 j (.ins CJ jdx (jf p (1 - b) z))) := .ins o6 (by simp)
      refine ⟨_, rfl, _, rfl, F0, _, rfl, .inl (sqL gF7), _, _, rfl, rfl, _, rfl, j, CJ, jdx, _, rfl, o7, TJ.cl, TJ.nE, by show 3 < 1000; decide, ?_⟩
      dsimp only
      rw [ml1, show ((bbeg pres.length (1 - b) : Nat) : Int) + ((sizeOf3 ss : Nat) : Int) = ((bbeg pres.length (1 - b) + sizeOf3 ss : Nat) : Int) by omega, jf_e]
      have fr8 : FrmU [j] G6 (upd (upd G6 j (.ins CJ jdx (jf p (1 - b) z))) j (.ins CJ jdx (jf p (1 - b) (bbeg pres.length (1 - b) + sizeOf3 ss)))) := fr7.trans (.ins o7 (by simp))
      have fr : FrmU [j, l, e] H G6 := (FrmU.trans (.same s2) (FrmU.of (((f3.trans f4).trans f5).trans f6))).mono fun x hx => List.mem_cons_of_mem _ hx
      refine qT fit _ (fr.trans (fr8.mono fun x hx => by simp at hx; simp [hx])) ⟨upd_same, ?_, ?_, ?_, ?_, ?_, ?_⟩
      · have d7 := d6.frmU fr8 (by simpa using J.ne) (by simpa using fun q => J.nl (by simp [q])) (by simpa using fun q => J.nl (by simp [q]))
        have e1 : evs ++ chainPuts (bbeg pres.length (1 - b)) (ss.map linkOf).flatten (bend pres.length (1 - b)) ++ [none] ++ [some (0, ((1 - b : Nat) : Int))] ++ [none] = evs ++ twoEv (rPuts pres.length b ss) 0 ((1 - b : Nat) : Int) := by
          simp [twoEv, rPuts]
        rw [e1] at d7
        rw [twoEv_now]
        exact d7
      · exact replay_oct J.oc (twoEv_oct (chainPuts_oct (by rw [hf]; omega) (flat_oct or_ hl6)) (by unfold Oct; omega))
      · rw [replay_len]; exact J.n1
      · rw [replay_len]; exact n2
      · rw [replay_len]; exact J.nc
      · exact r_after J.st J.n1 hl6 fit
    · rw [decide_eq_true (show ((bbeg pres.length (1 - b) + sizeOf3 ss : Nat) : Int) > ((bend pres.length (1 - b) : Nat) : Int) by omega)]
      refine iteT ⟨by show 1 ≤ 1000; decide, fun a na => ⟨a, _, rfl, upd_same, fun dx2 n1 n2 => ⟨rfl, dx2, [("word", .str "room")], upd_same, (upd_ne n2).trans upd_same, ?_, ?_⟩⟩⟩
      · exact (upd_ne n2).symm.trans n1
      · have n3 : G2 dx2 = none := (upd_ne n2).symm.trans n1
        refine qF fit dx2 _ (s2.free n3) (fun b o e => ?_) upd_same
        have e1 := s2 _ _ e
        have ba : b ≠ a := ne_of_none e1 na
        have bd : b ≠ dx2 := ne_of_none e1 n3
        rw [upd_ne bd, del_ne ba, upd_ne ba, upd_ne bd, upd_ne ba]
        exact e1
end
end K6
namespace K6
open PySem PySem.Spec PyProof.Rows L2 Gd
theorem inV_ints (a : Int) (l : List Int) : inV (.int a) (l.map V.int) = decide (a ∈ l) := by
  induction l with
  | nil => rfl
  | cons b r ih =>
    have e : inV (.int a) ((b :: r).map V.int) = (eqV (.int b) (.int a) || inV (.int a) (r.map V.int)) := rfl
    rw [e, ih]
    by_cases h : b = a
    · subst h
      have : eqV (.int b) (.int b) = true := by simp [eqV]
      rw [this, Bool.true_or]
      exact (decide_eq_true List.mem_cons_self).symm
    · have : eqV (.int b) (.int a) = false := by simp [eqV, h]
      rw [this, Bool.false_or]
      exact decide_eq_decide.mpr ⟨fun z => List.mem_cons_of_mem _ z, fun z => (List.mem_cons.mp z).resolve_left fun e => h e.symm⟩
theorem flat_ints (l : List Int) : (l.map V.int).all flatV = true := List.all_eq_true.mpr fun x hx => by
  obtain ⟨n, _, rfl⟩ := List.mem_map.mp hx
  rfl
section
variable {P : Program} {w : World} {K : PySem.W.Frag} {mg : Str → Option Value} {base : Heap}
/-! ### _law_octet -/
def spOctet : Sp := fun vs H Q _ => ∃ (h l : Addr) (L : List Int) (st : Int), vs = [.ref h] ∧ Hv H h l L st ∧ ∀ (G : Hp) (L' : List Int) (st' o : Int), But h l H G → Hv G h l L' st' → 0 ≤ o → o < 256 → Q (.int o) G
theorem ok_octet {f fD fP : Addr} {fd fdD fdP : FuncData} {k : Nat} (F : Fun K "_law_octet" "_law_octet" s__law_octet f fd) (FD : Fun K "_law_draw" "_law_draw" s__law_draw fD fdD) (FP : Fun K "_law_pick" "_law_pick" s__law_pick fP fdP)
    (bD : Binds K fdD ["heap", "many"] []) (bP : Binds K fdP ["heap", "some"] []) (gD : mg "_law_draw" = some (.ref fD)) (gP : mg "_law_pick" = some (.ref fP)) (ml : mg "len" = none) (mi : mg "int" = none) : FnOk P w K mg base CX0 (k + 1 + 1 + 1) f fd ["heap"] spOctet := by
  have GD : FnOk P w K mg base CX0 (k + 1 + 1) fD fdD ["heap", "many"] spDraw := ok_draw FD mi
  have GP : FnOk P w K mg base CX0 (k + 1 + 1) fP fdP ["heap", "some"] (spPick K) := ok_pick FP FD bD gD ml mi
  refine F.ok sc__law_octet (fun vs H Q E h => ?_) (fun cdv A outer s H vs Q E hr h => ?_)
  · obtain ⟨h, l, L, st, rfl, _⟩ := h
    rfl
  · obtain ⟨h, l, L, st, rfl, hv, q⟩ := h
    refine blk_cons (ps_set (i := 1) sc__law_octet.nd rfl (.inl rfl) (pe_call GD hr (by rfl) gD FD.kp bD .nil pass0 (pa_cons (pv 0) (pa_cons pe_int pa_nil)))) ?_
    refine blk_cons (ps_if (pt_cmpR op_eq (pv 1) pe_int (nomark _)) (pss_one (ps_ret (pe_call GP hr (by rfl) gP FP.kp bP .nil pass0 (pa_cons (pv 0) (pa_cons (pe_lst (pa_cons pe_int (pa_cons pe_int (pa_cons pe_int (pa_cons pe_int (pa_cons pe_int (pa_cons pe_int pa_nil))))))) pa_nil))))) pss_nil) ?_
    refine blk_cons (ps_ret (pe_call GD hr (by rfl) gD FD.kp bD .nil pass0 (pa_cons (pv 0) (pa_cons (pe_ifExp (pt_cmpR op_lt (pv 1) pe_int (nomark _)) pe_int pe_int) pa_nil)))) ?_
    refine blk_nil ?_
    refine ⟨.ref h, rfl, h, l, L, st, 4, rfl, hv, by decide, by decide, fun G1 L1 st1 kn b1 hv1 k0 k1 => ?_⟩
    refine ⟨_, rfl, rfl, _, rfl, ite2 (fun _ => ?_) (fun _ => ?_)⟩
    · refine ⟨.ref h, rfl, by show 6 ≤ sizeLine; decide, fun p np => ?_⟩
      refine ⟨h, l, L1, st1, p, [.int 0, .int 255, .int 1, .int 254, .int 128, .int 127], rfl, hv1.new np, sqL upd_same, (ne_of_none hv1.top np).symm, (ne_of_none hv1.bot np).symm, by decide, by decide, fun G2 L2 st2 i x b2 hv2 hx => ?_⟩
      have hb := (b1.new np).trans b2
      match i, hx with
      | 0, hx => cases hx; exact q _ _ _ _ hb hv2 (by decide) (by decide)
      | 1, hx => cases hx; exact q _ _ _ _ hb hv2 (by decide) (by decide)
      | 2, hx => cases hx; exact q _ _ _ _ hb hv2 (by decide) (by decide)
      | 3, hx => cases hx; exact q _ _ _ _ hb hv2 (by decide) (by decide)
      | 4, hx => cases hx; exact q _ _ _ _ hb hv2 (by decide) (by decide)
      | 5, hx => cases hx; exact q _ _ _ _ hb hv2 (by decide) (by decide)
      | _ + 6, hx => simp at hx
    · refine ⟨.ref h, rfl, _, rfl, _, _, rfl, rfl, _, rfl, ite2 (fun _ => ?_) (fun _ => ?_)⟩
      · exact ⟨h, l, L1, st1, 256, rfl, hv1, by decide, by decide, fun G2 L2 st2 o b2 hv2 o0 o1 => q _ _ _ _ (b1.trans b2) hv2 o0 o1⟩
      · exact ⟨h, l, L1, st1, 3, rfl, hv1, by decide, by decide, fun G2 L2 st2 o b2 hv2 o0 o1 => q _ _ _ _ (b1.trans b2) hv2 o0 (by omega)⟩
/-! ### _law_record -/
def spRecord (K : PySem.W.Frag) : Sp := fun vs H Q _ => ∃ (h l : Addr) (L : List Int) (st : Int) (lg : Bool), vs = [.ref h, .bl lg] ∧ Hv H h l L st ∧
  ∀ (G : Hp) (L' : List Int) (st' : Int) (q : Addr) (r : List Int), But h l H G → Hv G h l L' st' → SqT K G q (r.map V.int) → OctL r → r.length ≤ 270 → Q (.ref q) G
theorem ok_record {f fD fP fO : Addr} {fd fdD fdP fdO : FuncData} {k : Nat} (F : Fun K "_law_record" "_law_record" s__law_record f fd) (FD : Fun K "_law_draw" "_law_draw" s__law_draw fD fdD) (FP : Fun K "_law_pick" "_law_pick" s__law_pick fP fdP) (FO : Fun K "_law_octet" "_law_octet" s__law_octet fO fdO)
    (bD : Binds K fdD ["heap", "many"] []) (bP : Binds K fdP ["heap", "some"] []) (bO : Binds K fdO ["heap"] []) (gD : mg "_law_draw" = some (.ref fD)) (gP : mg "_law_pick" = some (.ref fP)) (gO : mg "_law_octet" = some (.ref fO)) (ml : mg "len" = none) (mi : mg "int" = none) (mr : mg "range" = none) (mt : mg "tuple" = none) :
    FnOk P w K mg base CX0 (k + 1 + 1 + 1 + 1) f fd ["heap", "long"] (spRecord K) := by
  have GD : FnOk P w K mg base CX0 (k + 1 + 1 + 1) fD fdD ["heap", "many"] spDraw := ok_draw FD mi
  have GP : FnOk P w K mg base CX0 (k + 1 + 1 + 1) fP fdP ["heap", "some"] (spPick K) := ok_pick FP FD bD gD ml mi
  have GO : FnOk P w K mg base CX0 (k + 1 + 1 + 1) fO fdO ["heap"] spOctet := ok_octet FO FD FP bD bP gD gP ml mi
  refine F.ok sc__law_record (fun vs H Q E h => ?_) (fun cdv A outer s H vs Q E hr h => ?_)
  · obtain ⟨h, l, L, st, lg, rfl, _⟩ := h
    rfl
  · obtain ⟨h, l, L, st, lg, rfl, hv, q⟩ := h
    refine blk_cons (ps_if (PW.pt (pw_and (pt_val (pv 1)) (pw_and1 (pt_cmpR op_eq (pe_call GD hr (by rfl) gD FD.kp bD .nil pass0 (pa_cons (pv 0) (pa_cons pe_int pa_nil))) pe_int (nomark _))))) (pss_one (ps_ret (pe_op (r := rCatA K) op_catA (pe_op op_rep1 (pe_tup (pa_cons (pe_call GO hr (by rfl) gO FO.kp bO .nil pass0 (pa_cons (pv 0) pa_nil)) pa_nil)) (pe_op op_add pe_int (pe_call GD hr (by rfl) gD FD.kp bD .nil pass0 (pa_cons (pv 0) (pa_cons pe_int pa_nil))))) (pe_tup (pa_cons (pe_call GO hr (by rfl) gO FO.kp bO .nil pass0 (pa_cons (pv 0) pa_nil)) (pa_cons pe_int (pa_cons pe_int pa_nil))))))) pss_nil) ?_
    refine blk_cons (ps_ret (pe_callTy call_tuple_of (by rfl) mt (by decide +kernel) (pa_cons (pe_lc (own := [("at", 2)]) (g := gName 2) (tt := tYes) rfl sc__law_record.nd (pi_range1 (by rfl) mr (pa_cons (pe_call GP hr (by rfl) gP FP.kp bP .nil pass0 (pa_cons (pv 0) (pa_cons (pe_lst (pa_cons pe_int (pa_cons pe_int (pa_cons pe_int (pa_cons pe_int (pa_cons pe_int (pa_cons pe_int pa_nil))))))) pa_nil))) pa_nil)) (blkOk_by (own := [("at", 2)]) (N := n__law_record) (sc := defScope s__law_record) (by decide +kernel))
      (fun _ _ _ _ _ => pg_name (i := 2) sc__law_record.nd rfl (Or.inl rfl)) (fun _ _ _ _ _ => pts_nil) (fun _ _ _ _ _ => pe_call GO hr (by rfl) gO FO.kp bO .nil pass0 (pa_cons (pv 0) pa_nil))) pa_nil))) ?_
    refine blk_nil ?_
    refine seq_out (t := tIfS _ _ _) (fun σ' G' => σ' = [some (.ref h), some (.bl lg), none] ∧ But h l H G' ∧ ∃ L' st', Hv G' h l L' st') (fun N hN => ?_) (fun σ' G' hR => ?_)
    · refine ⟨_, rfl, _, rfl, ite2 (fun _ => ?_) (fun _ => hN _ _ ⟨rfl, But.refl _ _ _, _, _, hv⟩)⟩
      refine ⟨_, rfl, h, l, L, st, 3, rfl, hv, by decide, by decide, fun G1 L1 st1 kn b1 hv1 k0 k1 => ⟨rfl, _, rfl, ite2 (fun _ => ?_) (fun _ => hN _ _ ⟨rfl, b1, _, _, hv1⟩)⟩⟩
      refine ⟨_, rfl, h, l, L1, st1, rfl, hv1, fun G2 L2 st2 o b2 hv2 o0 o1 => ⟨by show 1 ≤ sizeLine; decide, fun p1 n1 => ?_⟩⟩
      have hp1 : p1 ≠ h := (ne_of_none hv2.top n1).symm
      have hp1' : p1 ≠ l := (ne_of_none hv2.bot n1).symm
      have b3 := (b1.trans b2).new (o := .tup [.int o]) n1
      have hv3 := hv2.new (o := .tup [.int o]) n1
      have g3 := upd_same (H := G2) (a := p1) (o := .tup [.int o])
      generalize upd G2 p1 (.tup [.int o]) = G3 at b3 hv3 g3 ⊢
      refine ⟨_, rfl, h, l, L2, st2, 12, rfl, hv3, by decide, by decide, fun G4 L4 st4 m b4 hv4 m0 m1 => ⟨_, _, rfl, rfl, ?_⟩⟩
      have g4 := b4 _ _ hp1 hp1' g3
      refine ⟨p1, 250 + m, .int o, rfl, rfl, sqT g4, by omega, by omega, fun p2 n2 => ?_⟩
      have hp2 : p2 ≠ h := (ne_of_none hv4.top n2).symm
      have hp2' : p2 ≠ l := (ne_of_none hv4.bot n2).symm
      have b5 := (b3.trans b4).new (o := .tup (List.replicate (250 + m).toNat (.int o))) n2
      have hv5 := hv4.new (o := .tup (List.replicate (250 + m).toNat (.int o))) n2
      have g5 := upd_same (H := G4) (a := p2) (o := .tup (List.replicate (250 + m).toNat (.int o)))
      generalize upd G4 p2 (.tup (List.replicate (250 + m).toNat (.int o))) = G5 at b5 hv5 g5 ⊢
      refine ⟨_, rfl, h, l, L4, st4, rfl, hv5, fun G6 L6 st6 o2 b6 hv6 o20 o21 => ⟨by show 3 ≤ sizeLine; decide, fun p3 n3 => ?_⟩⟩
      have g6 := b6 _ _ hp2 hp2' g5
      have s7 := same_new (o := .tup [.int o2, .int 0, .int 7]) n3
      refine cat_to (sqT (s7 _ _ g6)) (sqT upd_same) (by rw [List.length_replicate]; show _ + 3 ≤ 5000; omega) fun G8 r s8 hr8 => ?_
      have e : List.replicate (250 + m).toNat (V.int o) ++ [.int o2, .int 0, .int 7] = (List.replicate (250 + m).toNat o ++ [o2, 0, 7]).map V.int := by
        rw [List.map_append, List.map_replicate]
        rfl
      rw [e] at hr8
      refine q G8 _ _ r _ (((b5.trans b6).same s7).same s8) ((hv6.same s7).same s8) hr8 (fun x hx => ?_) ?_
      · rcases List.mem_append.mp hx with z | z
        · rw [(List.mem_replicate.mp z).2]
          exact ⟨o0, o1⟩
        · simp at z
          rcases z with z | z | z <;> subst z
          · exact ⟨o20, o21⟩
          · unfold Oct; omega
          · unfold Oct; omega
      · rw [List.length_append, List.length_replicate]
        show _ + 3 ≤ 270
        omega
    obtain ⟨rfl, b1, L1, st1, hv1⟩ := hR
    refine ⟨_, rfl, by show 6 ≤ sizeLine; decide, fun p np => ?_⟩
    refine ⟨h, l, L1, st1, p, [.int 3, .int 0, .int 1, .int 2, .int 5, .int 7], rfl, hv1.new np, sqL upd_same, (ne_of_none hv1.top np).symm, (ne_of_none hv1.bot np).symm, by decide, by decide, fun G2 L2 st2 i x b2 hv2 hx => ?_⟩
    obtain ⟨n, rfl, hn⟩ : ∃ n : Nat, x = .int (n : Int) ∧ n ≤ 7 := by
      match i, hx with
      | 0, hx => cases hx; exact ⟨3, rfl, by omega⟩
      | 1, hx => cases hx; exact ⟨0, rfl, by omega⟩
      | 2, hx => cases hx; exact ⟨1, rfl, by omega⟩
      | 3, hx => cases hx; exact ⟨2, rfl, by omega⟩
      | 4, hx => cases hx; exact ⟨5, rfl, by omega⟩
      | 5, hx => cases hx; exact ⟨7, rfl, by omega⟩
      | _ + 6, hx => simp at hx
    have b3 := (b1.new np).trans b2
    refine ⟨_, rfl, by omega, by omega, fun D nD => ?_⟩
    have neh : h ≠ D := ne_of_none hv2.top nD
    have nel : l ≠ D := ne_of_none hv2.bot nD
    refine lc_range (lo := 0) (n := ((n : Int)).toNat) (fun i G => But h l H G ∧ (∃ L4 st4, Hv G h l L4 st4) ∧ ∃ r : List Int, r.length = i ∧ OctL r ∧ G D = some (.lst (r.map V.int))) ⟨b3.new nD, ⟨_, _, hv2.new nD⟩, [], rfl, fun x hx => absurd hx List.not_mem_nil, upd_same⟩ (fun i G hi hP => ?_) (fun G hP => ?_)
    · obtain ⟨b4, ⟨L4, st4, hv4⟩, r, hr1, hr2, gD⟩ := hP
      refine ⟨rfl, ?_⟩
      dsimp only [tYes]
      rw [if_pos rfl]
      refine ⟨_, rfl, h, l, L4, st4, rfl, hv4, fun G5 L5 st5 o b5 hv5 o0 o1 => ?_⟩
      have gD5 := b5 _ _ neh.symm nel.symm gD
      refine ⟨_, gD5, by rw [List.length_map, sizeLine_eq]; omega, fun bb ob e1 e2 e => ?_, ⟨L5, st5, ⟨(upd_ne neh).trans hv5.top, (upd_ne nel).trans hv5.bot, hv5.ne, hv5.lo, hv5.hi, hv5.len⟩⟩, r ++ [o], by rw [List.length_append, hr1]; rfl, fun x hx => ?_, ?_⟩
      · by_cases q : bb = D
        · subst q
          exfalso
          have := b3 _ _ e1 e2 e
          rw [nD] at this
          cases this
        · rw [upd_ne q]
          exact b5 _ _ e1 e2 (b4 _ _ e1 e2 e)
      · rcases List.mem_append.mp hx with z | z
        · exact hr2 x z
        · rw [List.mem_singleton.mp z]
          exact ⟨o0, o1⟩
      · rw [upd_same, List.map_append]
        rfl
    · obtain ⟨b4, ⟨L4, st4, hv4⟩, r, hr1, hr2, gD⟩ := hP
      exact ⟨D, _, rfl, .inl ⟨sqL gD, fun q1 n1 => q _ L4 st4 q1 r (b4.new n1) (hv4.new n1) (sqT upd_same) hr2 (by omega)⟩⟩
end
end K6
namespace K6
open PySem PySem.Spec PyProof.Rows L2 Gd
theorem ev_none {K : PySem.W.Frag} {H : Hp} {v : V} (h : Dp K H v (evD none)) : v = .non := by
  cases h
  rfl
theorem ev_some {K : PySem.W.Frag} {H : Hp} {v : V} {a : Nat} {o : Int} (h : Dp K H v (evD (some (a, o)))) : ∃ tt, v = .ref tt ∧ SqT K H tt [.int (a : Int), .int o] := by
  obtain ⟨q, vs, rfl, hs, ha⟩ := tup_inv (ds := [.int (a : Int), .int o]) h
  have := ints_inv (ns := [(a : Int), o]) ha
  rw [this] at hs
  exact ⟨q, rfl, hs⟩
theorem ev_at {K : PySem.W.Frag} {H : Hp} {us : List V} {evs : List Ev} {i : Nat} {x : V} (h : DpAll K H us (evs.map evD)) (hx : us[i]? = some x) : ∃ e, evs[i]? = some e ∧ Dp K H x (evD e) := by
  have hi : i < us.length := (List.getElem?_eq_some_iff.mp hx).1
  rw [dpAll_len h, List.length_map] at hi
  obtain ⟨v, h1, h2⟩ := dpAll_get (i := i) (d := evD evs[i]) h (by rw [List.getElem?_map, List.getElem?_eq_getElem hi]; rfl)
  rw [hx] at h1
  cases h1
  exact ⟨_, List.getElem?_eq_getElem hi, h2⟩
/-- events on cells of a length -/
def EvOk (n : Nat) (evs : List Ev) : Prop := ∀ a o, some (a, o) ∈ evs → a < n ∧ Oct o
def natI (l : List Nat) : List V := l.map fun a : Nat => V.int (a : Int)
theorem natI_ints (l : List Nat) : natI l = (l.map fun a : Nat => (a : Int)).map V.int := by
  unfold natI
  rw [List.map_map]
  rfl
theorem inV_nat (a : Nat) (l : List Nat) : inV (.int (a : Int)) (natI l) = decide (a ∈ l) := by
  rw [natI_ints, inV_ints]
  refine decide_eq_decide.mpr ⟨fun z => ?_, fun z => List.mem_map.mpr ⟨a, z, rfl⟩⟩
  obtain ⟨c, h1, h2⟩ := List.mem_map.mp z
  have : c = a := by omega
  exact this ▸ h1
theorem pend_lt {n : Nat} {base : List Int} {evs : List Ev} (h : EvOk n evs) : ∀ a ∈ (look3 base evs).pend, a < n := by
  have key : ∀ (l : List Ev) (s : L3), EvOk n l → (∀ a ∈ s.pend, a < n) → ∀ a ∈ (l.foldl st3 s).pend, a < n := by
    intro l
    induction l with
    | nil => exact fun _ _ h => h
    | cons e r ih =>
      intro s hl hs
      refine ih _ (fun a o m => hl a o (List.mem_cons_of_mem _ m)) ?_
      cases e with
      | none => exact fun a z => absurd z List.not_mem_nil
      | some p =>
        obtain ⟨b, o⟩ := p
        intro a ha
        rcases List.mem_append.mp (show a ∈ s.pend ++ [b] from ha) with z | z
        · exact hs a z
        · rw [List.mem_singleton.mp z]
          exact (hl b o List.mem_cons_self).1
  exact key evs _ h fun a z => absurd z List.not_mem_nil
theorem pend_len (base : List Int) (evs : List Ev) : (look3 base evs).pend.length ≤ evs.length := by
  have key : ∀ (l : List Ev) (s : L3), (l.foldl st3 s).pend.length ≤ s.pend.length + l.length := by
    intro l
    induction l with
    | nil => exact fun _ => Nat.le_refl _
    | cons e r ih =>
      intro s
      refine Nat.le_trans (ih _) ?_
      cases e with
      | none => show 0 + _ ≤ _; rw [List.length_cons]; omega
      | some p => show (s.pend ++ [p.1]).length + _ ≤ _; simp only [List.length_append, List.length_cons, List.length_nil]; omega
  have := key evs ⟨base, [], base⟩
  rw [show (L3.mk base [] base).pend.length = 0 from rfl, Nat.zero_add] at this
  exact this
section
variable {P : Program} {w : World} {K : PySem.W.Frag} {mg : Str → Option Value} {base : Heap}
/-! ### _law_lasting -/
def spLasting (K : PySem.W.Frag) : Sp := fun vs H Q _ => ∃ (cq eq : Addr) (cells : List Int) (us : List V) (evs : List Ev), vs = [.ref cq, .ref eq] ∧ SqT K H cq (cells.map V.int) ∧ SqT K H eq us ∧ DpAll K H us (evs.map evD) ∧ EvOk cells.length evs ∧ cells.length ≤ 20000 ∧ evs.length ≤ 900000 ∧
  ∀ (G : Hp) (t la pe na : Addr) (ps : List Nat), Same H G → H t = none → H la = none → H pe = none → H na = none → la ≠ pe → la ≠ na → pe ≠ na → G t = some (.lst [.ref la, .ref pe, .ref na]) → G la = some (.lst ((look3 cells evs).lasts.map V.int)) → G pe = some (.lst (natI ps)) → G na = some (.lst ((look3 cells evs).now.map V.int)) →
    (∀ a, a ∈ ps ↔ a < cells.length ∧ a ∈ (look3 cells evs).pend) → Q (.ref t) G
theorem ok_lasting {f : Addr} {fd : FuncData} {k : Nat} (F : Fun K "_law_lasting" "_law_lasting" s__law_lasting f fd) (ml : mg "len" = none) (mL : mg "list" = none) (mr : mg "range" = none) : FnOk P w K mg base CX0 (k + 1) f fd ["cells", "events"] (spLasting K) := by
  refine F.ok sc__law_lasting (fun vs H Q E h => ?_) (fun cdv A outer s H vs Q E hr h => ?_)
  · obtain ⟨cq, eq, cells, us, evs, rfl, _⟩ := h
    rfl
  · obtain ⟨cq, eq, cells, us, evs, rfl, hc, he, du, ok, n2, n9, q⟩ := h
    refine blk_cons (ps_asg (pe_tup (pa_cons (pe_callTy call_list_of (by rfl) mL (by decide +kernel) (pa_cons (pv 0) pa_nil)) (pa_cons (pe_callTy call_list_of (by rfl) mL (by decide +kernel) (pa_cons (pv 0) pa_nil)) (pa_cons (pe_lst pa_nil) pa_nil))))
      (pg_tup rfl (pgs_cons (pg_name (i := 2) sc__law_lasting.nd rfl (.inl rfl)) (pgs_cons (pg_name (i := 3) sc__law_lasting.nd rfl (.inl rfl)) (pgs_cons (pg_name (i := 4) sc__law_lasting.nd rfl (.inr rfl)) pgs_nil))))) ?_
    refine blk_cons (ps_for PassesOwn.never rfl (pi_tup (pv 1)) (pg_name (i := 5) sc__law_lasting.nd rfl (.inl rfl))
      (pss_one (ps_if (pt_cmpR op_isN (pv 5) pe_non (nomark _))
        (pss_cons (ps_for PassesOwn.never rfl (pi_list (pv 4)) (pg_name (i := 6) sc__law_lasting.nd rfl (.inl rfl)) (pss_one (ps_asg (pe_ix ix_list (pv 2) (pv 6) (fun _ _ => rfl)) (pg_sub (pv 3) (pv 6) set_list))))
        (pss_one (ps_set (i := 4) sc__law_lasting.nd rfl (.inr rfl) (pe_lst pa_nil))))
        (pss_cons (ps_asg (pe_ix ix_tup (pv 5) pe_int (fun _ _ => rfl)) (pg_sub (pv 2) (pe_ix ix_tup (pv 5) pe_int (fun _ _ => rfl)) set_list))
        (pss_one (ps_expr (pe_bm PySem.F.plainAttrs_list PySem.F.slot_list_append PySem.F.type_list_append mt_append (pv 4) (pa_cons (pe_ix ix_tup (pv 5) pe_int (fun _ _ => rfl)) pa_nil)))))))) ?_
    refine blk_cons (ps_ret (pe_lst (pa_cons (pv 3) (pa_cons (pe_lc (own := [("at", 6)]) (g := gName 6) rfl sc__law_lasting.nd (pi_range1 (by rfl) mr (pa_cons (pe_callB call_len_seq (by rfl) ml PySem.boot_len (pa_cons (pv 0) pa_nil)) pa_nil)) (blkOk_by (own := [("at", 6)]) (N := n__law_lasting) (sc := defScope s__law_lasting) (by decide +kernel))
      (fun _ _ _ _ _ => pg_name (i := 6) sc__law_lasting.nd rfl (Or.inl rfl)) (fun _ _ _ _ _ => pts_one (pt_cmpR (r := rIn K false) op_in_seq (pv 6) (pv 4) (by rfl))) (fun _ _ _ _ _ => pv 6)) (pa_cons (pv 2) pa_nil))))) ?_
    refine blk_nil ?_
    -- the lists
    refine ⟨_, rfl, cq, _, rfl, .inr hc, fun F1 m1 => ?_⟩
    have s1 := same_new (o := .lst (cells.map V.int)) m1
    refine ⟨_, rfl, cq, _, rfl, .inr (same_seqT s1 hc), fun F2 m2 => ?_⟩
    have s2 := s1.trans (same_new (o := .lst (cells.map V.int)) m2)
    refine ⟨Nat.zero_le _, fun F3 m3 => ⟨by show 3 ≤ sizeLine; decide, fun T4 m4 => ?_⟩⟩
    have n12 : F1 ≠ F2 := ne_of_none upd_same m2
    have m2' : H F2 = none := s1.free m2
    have m3' : H F3 = none := s2.free m3
    have n13 : F1 ≠ F3 := ne_of_none ((upd_ne n12).trans upd_same) m3
    have n23 : F2 ≠ F3 := ne_of_none upd_same m3
    have s3 := s2.trans (same_new (o := .lst []) m3)
    have s4 := same_new (o := .tup [.ref F1, .ref F2, .ref F3]) m4
    have g1 := s4 F1 _ ((upd_ne n13).trans ((upd_ne n12).trans upd_same))
    have g2 := s4 F2 _ ((upd_ne n23).trans upd_same)
    have g3 := s4 F3 _ upd_same
    have gT := sqT (K := K) (upd_same (H := upd (upd (upd H F1 (.lst (cells.map V.int))) F2 (.lst (cells.map V.int))) F3 (.lst [])) (a := T4) (o := .tup [.ref F1, .ref F2, .ref F3]))
    have s5 := s3.trans s4
    generalize upd (upd (upd (upd H F1 (.lst (cells.map V.int))) F2 (.lst (cells.map V.int))) F3 (.lst [])) T4 (.tup [.ref F1, .ref F2, .ref F3]) = G5 at g1 g2 g3 gT s5 ⊢
    refine ⟨T4, _, rfl, gT, rfl, _, _, rfl, _, _, rfl, _, _, rfl, rfl, ?_⟩
    have lk := fun i => look3_ok cells (evs.take i)
    have okT : ∀ i, EvOk cells.length (evs.take i) := fun i a o m => ok a o ((List.take_sublist i evs).mem m)
    dsimp only [gName]
    refine seq_out (t := tFor _ _ _) (fun σ' G' => ∃ (Fp : Addr) (y5 y6 : Option V), σ' = [some (.ref cq), some (.ref eq), some (.ref F1), some (.ref F2), some (.ref Fp), y5, y6] ∧ Same H G' ∧ H Fp = none ∧ F1 ≠ Fp ∧ F2 ≠ Fp ∧ G' F1 = some (.lst ((look3 cells evs).now.map V.int)) ∧ G' F2 = some (.lst ((look3 cells evs).lasts.map V.int)) ∧ G' Fp = some (.lst (natI (look3 cells evs).pend)))
      (fun N hN => ?_) (fun σ' G6 hR => ?_)
    · refine ⟨_, rfl, eq, rfl, ⟨_, same_seqT s5 he⟩, for_tup (xs := us) (fun i σ G => ∃ (Fp : Addr) (y5 y6 : Option V), σ = [some (.ref cq), some (.ref eq), some (.ref F1), some (.ref F2), some (.ref Fp), y5, y6] ∧ Same H G ∧ H Fp = none ∧ F1 ≠ Fp ∧ F2 ≠ Fp ∧ G F1 = some (.lst ((look3 cells (evs.take i)).now.map V.int)) ∧ G F2 = some (.lst ((look3 cells (evs.take i)).lasts.map V.int)) ∧ G Fp = some (.lst (natI (look3 cells (evs.take i)).pend)))
        ⟨F3, _, _, rfl, s5, m3', n13, n23, g1, g2, g3⟩ (fun i σ G _ hP => ?_) (fun i x σ G hx hP => ?_) (fun σ G hP => ?_)⟩
      · obtain ⟨_, _, _, _, s, _⟩ := hP
        exact same_seqT s he
      · obtain ⟨Fp, y5, y6, rfl, s, mp, np1, np2, h1, h2, h3⟩ := hP
        obtain ⟨ev, hev, dv⟩ := ev_at du hx
        have dv2 := dp_same s _ _ dv
        have tk : evs.take (i + 1) = evs.take i ++ [ev] := by
          rw [List.take_add_one, hev]
          rfl
        have lk1 := lk i
        have pl1 := pend_len cells (evs.take i)
        have pl2 := pend_lt (base := cells) (okT i)
        have hie : i < evs.length := (List.getElem?_eq_some_iff.mp hev).1
        rw [List.length_take, Nat.min_eq_left (by omega)] at pl1
        rw [tk, look3_snoc]
        generalize look3 cells (evs.take i) = st at h1 h2 h3 lk1 pl1 pl2 ⊢
        dsimp only [gName]
        have fF1 : H F1 = none := m1
        cases ev with
        | none =>
          obtain rfl := ev_none dv2
          refine ⟨_, rfl, rfl, _, rfl, iteT ?_⟩
          refine seq_out (t := tFor _ _ _) (fun σ' G' => ∃ (y6 : Option V), σ' = [some (.ref cq), some (.ref eq), some (.ref F1), some (.ref F2), some (.ref Fp), some .non, y6] ∧ Same H G' ∧ G' F1 = some (.lst (st.now.map V.int)) ∧ G' F2 = some (.lst (st.now.map V.int)))
            (fun N2 hN2 => ?_) (fun σ' G6 hR => ?_)
          · refine ⟨_, rfl, Fp, rfl, ⟨_, sqL h3⟩, for_list (xs := natI st.pend) (fun j σ G => ∃ (y6 : Option V) (ls : List Int), σ = [some (.ref cq), some (.ref eq), some (.ref F1), some (.ref F2), some (.ref Fp), some .non, y6] ∧ Same H G ∧ G F1 = some (.lst (st.now.map V.int)) ∧ G F2 = some (.lst (ls.map V.int)) ∧ G Fp = some (.lst (natI st.pend)) ∧ ls.length = cells.length ∧
                (∀ a ∈ st.pend.take j, ls[a]? = st.now[a]?) ∧ (∀ a, a ∉ st.pend.take j → ls[a]? = st.lasts[a]?)) ⟨_, st.lasts, rfl, s, h1, h2, h3, lk1.l1, fun a z => absurd z (by rw [List.take_zero]; exact List.not_mem_nil), fun a _ => rfl⟩ (fun j σ G _ hP => ?_) (fun j x σ G hx hP => ?_) (fun σ G hP => ?_)⟩
            · obtain ⟨_, _, _, _, _, _, z, _⟩ := hP
              exact sqL z
            · obtain ⟨y6', ls, rfl, s', k1, k2, k3, kl, ke, kn⟩ := hP
              obtain ⟨a, ha, rfl⟩ : ∃ a, st.pend[j]? = some a ∧ x = V.int ((a : Nat) : Int) := by
                unfold natI at hx
                rw [List.getElem?_map] at hx
                obtain ⟨a, h1, h2⟩ := Option.map_eq_some_iff.mp hx
                exact ⟨a, h1, h2.symm⟩
              have ham := List.mem_of_getElem? ha
              have han := pl2 a ham
              have hnv : ∃ v, st.now[a]? = some v := ⟨_, List.getElem?_eq_getElem (by rw [lk1.l2]; exact han)⟩
              obtain ⟨v, hnv⟩ := hnv
              have tkj : st.pend.take (j + 1) = st.pend.take j ++ [a] := by
                rw [List.take_add_one, ha]
                rfl
              dsimp only [gName]
              refine ⟨_, rfl, _, rfl, F1, _, _, .int v, rfl, rfl, sqL k1, atI_nat (by rw [List.getElem?_map, hnv]; rfl), _, rfl, _, rfl, F2, _, _, a, rfl, rfl, k2, ixN_nat (by rw [List.length_map, kl]; exact han), ?_⟩
              refine ⟨_, ls.set a v, rfl, fun bb ob eb => (upd_ne (ne_of_none eb m2')).trans (s' _ _ eb), (upd_ne n12).trans k1, by rw [upd_same, List.map_set], (upd_ne (Ne.symm np2)).trans k3, by rw [List.length_set]; exact kl, fun c hc => ?_, fun c hc => ?_⟩
              · rw [tkj] at hc
                by_cases q : c = a
                · subst q
                  rw [List.getElem?_set_self (by rw [kl]; exact han), hnv]
                · rw [List.getElem?_set_ne (Ne.symm q)]
                  exact ke c ((List.mem_append.mp hc).resolve_right fun z => q (List.mem_singleton.mp z))
              · rw [tkj] at hc
                rw [List.getElem?_set_ne (fun z => hc (List.mem_append.mpr (.inr (by rw [z]; exact List.mem_singleton.mpr rfl))))]
                exact kn c fun z => hc (List.mem_append.mpr (.inl z))
            · obtain ⟨y6', ls, rfl, s', k1, k2, k3, kl, ke, kn⟩ := hP
              have hl0 : (natI st.pend).length = st.pend.length := by unfold natI; rw [List.length_map]
              rw [hl0, List.take_length] at ke kn
              have els : ls = st.now := List.ext_getElem? fun a => by
                by_cases ha : a ∈ st.pend
                · exact ke a ha
                · exact (kn a ha).trans (lk1.eq a ha)
              rw [els] at k2
              exact hN2 _ _ ⟨_, rfl, s', k1, k2⟩
          obtain ⟨y6', rfl, s', k1, k2⟩ := hR
          refine ⟨Nat.zero_le _, fun F' nF' => ?_⟩
          exact ⟨F', _, _, rfl, s'.trans (same_new nF'), s'.free nF', ne_of_none k1 nF', ne_of_none k2 nF', (upd_ne (ne_of_none k1 nF')).trans k1, (upd_ne (ne_of_none k2 nF')).trans k2, upd_same⟩
        | some bo =>
          obtain ⟨b, o⟩ := bo
          obtain ⟨tt, rfl, htt⟩ := ev_some dv2
          have hb := ok b o (List.mem_of_getElem? hev)
          refine ⟨_, rfl, rfl, _, rfl, iteF ?_⟩
          refine ⟨_, rfl, tt, _, 1, .int o, rfl, rfl, htt, atI_nat (j := 1) rfl, _, rfl, _, rfl, tt, _, 0, .int (b : Int), rfl, rfl, htt, atI_nat (j := 0) rfl, F1, _, _, b, rfl, rfl, h1, ixN_nat (by rw [List.length_map, lk1.l2]; exact hb.1), ?_⟩
          have kt : KeepT G (upd G F1 (.lst ((st.now.map V.int).set b (.int o)))) := .put h1
          have htt2 := kt.seqT htt
          have h3' := (upd_ne (o := .lst ((st.now.map V.int).set b (.int o))) (Ne.symm np1)).trans h3
          refine ⟨_, rfl, .inl ⟨rfl, _, sqL h3'⟩, _, rfl, tt, _, 0, .int (b : Int), rfl, rfl, htt2, atI_nat (j := 0) rfl, Fp, _, _, rfl, rfl, h3', ?_, ?_⟩
          · unfold natI
            rw [List.length_map, sizeLine_eq]
            omega
          refine ⟨Fp, _, _, rfl, fun bb ob eb => ?_, mp, np1, np2, ?_, ?_, ?_⟩
          · rw [upd_ne (ne_of_none eb mp), upd_ne (ne_of_none eb m1)]
            exact s _ _ eb
          · rw [upd_ne np1, upd_same]
            show some (HO.lst _) = some (HO.lst ((st.now.set b o).map V.int))
            rw [List.map_set]
          · rw [upd_ne np2, upd_ne (Ne.symm n12)]
            exact h2
          · rw [upd_same]
            show some (HO.lst _) = some (HO.lst (natI (st.pend ++ [b])))
            unfold natI
            rw [List.map_append]
            rfl
      · obtain ⟨Fp, y5, y6, rfl, s, mp, np1, np2, h1, h2, h3⟩ := hP
        rw [dpAll_len du, List.length_map, List.take_length] at h1 h2 h3
        exact hN _ _ ⟨Fp, y5, y6, rfl, s, mp, np1, np2, h1, h2, h3⟩
    obtain ⟨Fp, y5, y6, rfl, s, mp, np1, np2, h1, h2, h3⟩ := hR
    have plt := pend_lt (base := cells) ok
    have pln := pend_len cells evs
    have lk9 := look3_ok cells evs
    generalize look3 cells evs = st at h1 h2 h3 plt pln lk9 q ⊢
    refine ⟨_, rfl, _, rfl, cq, _, rfl, .inr (same_seqT s hc), _, rfl, by omega, by rw [List.length_map]; omega, fun D nD => ?_⟩
    have nD0 : H D = none := s.free nD
    refine lc_range (lo := 0) (fun i G => ∃ ps : List Nat, Same H G ∧ G F1 = some (.lst (st.now.map V.int)) ∧ G F2 = some (.lst (st.lasts.map V.int)) ∧ G Fp = some (.lst (natI st.pend)) ∧ G D = some (.lst (natI ps)) ∧ ps.length ≤ i ∧ (∀ a, a ∈ ps ↔ a < i ∧ a ∈ st.pend)) ⟨[], s.trans (same_new nD), (upd_ne (ne_of_none h1 nD)).trans h1, (upd_ne (ne_of_none h2 nD)).trans h2, (upd_ne (ne_of_none h3 nD)).trans h3, upd_same, Nat.le_refl _, fun a => ⟨fun z => absurd z List.not_mem_nil, fun z => absurd z.1 (Nat.not_lt_zero _)⟩⟩ (fun i G hi hP => ?_) (fun G hP => ?_)
    · obtain ⟨ps, s', k1, k2, k3, kD, kl, km⟩ := hP
      rw [List.length_map] at hi
      have ez : (0 + (i : Int)) = (i : Int) := by omega
      refine ⟨rfl, _, rfl, _, rfl, Fp, _, rfl, .inl (sqL k3), rfl, ?_, _, rfl, ?_⟩
      · rw [natI_ints]
        exact flat_ints _
      rw [if_neg Bool.false_ne_true, ez, inV_nat]
      by_cases hin : i ∈ st.pend
      · rw [decide_eq_true hin]
        dsimp only
        rw [if_pos rfl]
        have dF1 : F1 ≠ D := ne_of_none h1 nD
        refine ⟨_, rfl, _, kD, ?_, ps ++ [i], fun bb ob eb => (upd_ne (ne_of_none eb nD0)).trans (s' _ _ eb), (upd_ne dF1).trans k1, (upd_ne (ne_of_none h2 nD)).trans k2, (upd_ne (ne_of_none h3 nD)).trans k3, ?_, ?_, fun a => ?_⟩
        · unfold natI
          rw [List.length_map, sizeLine_eq]
          omega
        · rw [upd_same]
          unfold natI
          rw [List.map_append]
          rfl
        · rw [List.length_append]
          show _ + 1 ≤ _
          omega
        · rw [List.mem_append, List.mem_singleton, km]
          constructor
          · rintro (⟨h1, h2⟩ | rfl)
            · exact ⟨by omega, h2⟩
            · exact ⟨by omega, hin⟩
          · rintro ⟨h1, h2⟩
            by_cases q : a = i
            · exact .inr q
            · exact .inl ⟨by omega, h2⟩
      · rw [decide_eq_false hin]
        dsimp only
        rw [if_neg Bool.false_ne_true]
        refine ⟨ps, s', k1, k2, k3, kD, by omega, fun a => (km a).trans ⟨fun z => ⟨by omega, z.2⟩, fun z => ⟨?_, z.2⟩⟩⟩
        by_cases q : a = i
        · exact absurd (q ▸ z.2) hin
        · omega
    · obtain ⟨ps, s', k1, k2, k3, kD, kl, km⟩ := hP
      rw [List.length_map] at kl
      rw [List.length_map] at km
      refine ⟨_, rfl, by show 3 ≤ sizeLine; decide, fun t nt => ?_⟩
      refine q _ t F2 D F1 ps (s'.trans (same_new nt)) (s'.free nt) m2' nD0 m1 (ne_of_none h2 nD) (Ne.symm n12) (ne_of_none h1 nD).symm upd_same ((upd_ne (ne_of_none k2 nt)).trans k2) ((upd_ne (ne_of_none kD nt)).trans kD) ((upd_ne (ne_of_none k1 nt)).trans k1) fun a => ?_
      rw [km a]
      exact ⟨fun z => ⟨by omega, z.2⟩, fun z => ⟨by omega, z.2⟩⟩
end
end K6
namespace K6
open PySem PySem.Spec PyProof.Rows L2 Gd
theorem look3_oct {n : Nat} {base : List Int} {evs : List Ev} (hb : OctL base) (h : EvOk n evs) : OctL (look3 base evs).lasts ∧ OctL (look3 base evs).now := by
  have key : ∀ (l : List Ev) (s : L3), EvOk n l → OctL s.lasts → OctL s.now → OctL (l.foldl st3 s).lasts ∧ OctL (l.foldl st3 s).now := by
    intro l
    induction l with
    | nil => exact fun _ _ a b => ⟨a, b⟩
    | cons e r ih =>
      intro s hl a b
      refine ih _ (fun a o m => hl a o (List.mem_cons_of_mem _ m)) ?_ ?_
      · cases e with
        | none => exact b
        | some p => exact a
      · cases e with
        | none => exact b
        | some p =>
          obtain ⟨c, o⟩ := p
          intro y hy
          rcases List.mem_or_eq_of_mem_set hy with z | z
          · exact b y z
          · exact z ▸ (hl c o List.mem_cons_self).2
  exact key evs _ h hb hb
theorem ne2 {H : Hp} {a h : Addr} {o : HO} (e : H h = some o) (n : H a = none) : a ≠ h := (ne_of_none e n).symm
section
variable {P : Program} {w : World} {K : PySem.W.Frag} {mg : Str → Option Value} {base : Heap}
/-! ### _law_left -/
def spLeft (K : PySem.W.Frag) : Sp := fun vs H Q _ => ∃ (h l cq eq : Addr) (L : List Int) (st : Int) (cells : List Int) (us : List V) (evs : List Ev), vs = [.ref h, .ref cq, .ref eq] ∧ Hv H h l L st ∧ SqT K H cq (cells.map V.int) ∧ SqT K H eq us ∧ DpAll K H us (evs.map evD) ∧ OctL cells ∧ EvOk cells.length evs ∧ cells.length ≤ 20000 ∧ evs.length ≤ 900000 ∧
  ∀ (G : Hp) (L' : List Int) (st' : Int) (q : Addr) (cs : List Int), But h l H G → Hv G h l L' st' → SqT K G q (cs.map V.int) → Left (look3 cells evs) cs → Q (.ref q) G
theorem ok_left {f fD fP fO fS : Addr} {fd fdD fdP fdO fdS : FuncData} {k : Nat} (F : Fun K "_law_left" "_law_left" s__law_left f fd) (FD : Fun K "_law_draw" "_law_draw" s__law_draw fD fdD) (FP : Fun K "_law_pick" "_law_pick" s__law_pick fP fdP) (FO : Fun K "_law_octet" "_law_octet" s__law_octet fO fdO) (FS : Fun K "_law_lasting" "_law_lasting" s__law_lasting fS fdS)
    (bD : Binds K fdD ["heap", "many"] []) (bP : Binds K fdP ["heap", "some"] []) (bO : Binds K fdO ["heap"] []) (bS : Binds K fdS ["cells", "events"] []) (gD : mg "_law_draw" = some (.ref fD)) (gP : mg "_law_pick" = some (.ref fP)) (gO : mg "_law_octet" = some (.ref fO)) (gS : mg "_law_lasting" = some (.ref fS))
    (ml : mg "len" = none) (mi : mg "int" = none) (mr : mg "range" = none) (mt : mg "tuple" = none) (mL : mg "list" = none) :
    FnOk P w K mg base CX0 (k + 1 + 1 + 1 + 1) f fd ["heap", "cells", "events"] (spLeft K) := by
  have GD : FnOk P w K mg base CX0 (k + 1 + 1 + 1) fD fdD ["heap", "many"] spDraw := ok_draw FD mi
  have GO : FnOk P w K mg base CX0 (k + 1 + 1 + 1) fO fdO ["heap"] spOctet := ok_octet FO FD FP bD bP gD gP ml mi
  have GS : FnOk P w K mg base CX0 (k + 1 + 1 + 1) fS fdS ["cells", "events"] (spLasting K) := ok_lasting FS ml mL mr
  refine F.ok sc__law_left (fun vs H Q E h => ?_) (fun cdv A outer s H vs Q E hr h => ?_)
  · obtain ⟨h, l, cq, eq, L, st, cells, us, evs, rfl, _⟩ := h
    rfl
  · obtain ⟨h, l, cq, eq, L, st, cells, us, evs, rfl, hv, hc, he, du, oc, ok, n2, n9, q⟩ := h
    refine blk_cons (ps_asg (pe_call GS hr (by rfl) gS FS.kp bS .nil pass0 (pa_cons (pv 1) (pa_cons (pv 2) pa_nil))) (pg_lst rfl (pgs_cons (pg_name (i := 3) sc__law_left.nd rfl (.inl rfl)) (pgs_cons (pg_name (i := 4) sc__law_left.nd rfl (.inl rfl)) (pgs_cons (pg_name (i := 5) sc__law_left.nd rfl (.inl rfl)) pgs_nil))))) ?_
    refine blk_cons (ps_set (i := 6) sc__law_left.nd rfl (.inl rfl) (pe_call GD hr (by rfl) gD FD.kp bD .nil pass0 (pa_cons (pv 0) (pa_cons pe_int pa_nil)))) ?_
    refine blk_cons (ps_for PassesOwn.never rfl (pi_list (pv 4)) (pg_name (i := 7) sc__law_left.nd rfl (.inl rfl))
      (pss_one (ps_if (PW.pt (pw_or (pt_cmpR op_eq (pv 6) pe_int (nomark _)) (pw_or1 (PW.pt (pw_and (pt_cmpR op_gt (pv 6) pe_int (nomark _)) (pw_and1 (pt_cmpR op_eq (pe_call GD hr (by rfl) gD FD.kp bD .nil pass0 (pa_cons (pv 0) (pa_cons pe_int pa_nil))) pe_int (nomark _))))))))
        (pss_one (ps_asg (pe_ix ix_list (pv 5) (pv 7) (fun _ _ => rfl)) (pg_sub (pv 3) (pv 7) set_list)))
        (pss_one (ps_if (pt_cmpR op_eq (pv 6) pe_int (nomark _)) (pss_one (ps_asg (pe_op op_sub pe_int (pe_ix ix_list (pv 5) (pv 7) (fun _ _ => rfl))) (pg_sub (pv 3) (pv 7) set_list)))
          (pss_one (ps_if (PW.pt (pw_or (pt_cmpR op_eq (pv 6) pe_int (nomark _)) (pw_or1 (pt_cmpR op_eq (pv 6) pe_int (nomark _))))) (pss_one (ps_asg (pe_call GO hr (by rfl) gO FO.kp bO .nil pass0 (pa_cons (pv 0) pa_nil)) (pg_sub (pv 3) (pv 7) set_list))) pss_nil))))))) ?_
    refine blk_cons (ps_ret (pe_callTy call_tuple_of (by rfl) mt (by decide +kernel) (pa_cons (pv 3) pa_nil))) ?_
    refine blk_nil ?_
    have lk9 := look3_ok cells evs
    obtain ⟨ol, on⟩ := look3_oct (n := cells.length) oc ok
    refine ⟨_, rfl, _, rfl, cq, eq, cells, us, evs, rfl, hc, he, du, ok, n2, n9, fun G1 t la pe na ps s1 ft fla fpe fna d1 d2 d3 gt gla gpe gna km => ?_⟩
    generalize look3 cells evs = sx at gla gpe gna km lk9 ol on q ⊢
    refine ⟨t, _, rfl, sqL gt, rfl, _, _, rfl, _, _, rfl, _, _, rfl, rfl, ?_⟩
    refine ⟨_, rfl, h, l, L, st, 6, rfl, hv.same s1, by decide, by decide, fun G2 L2 st2 wy b2 hv2 w0 w1 => ?_⟩
    have nlh := ne2 hv.top fla
    have nll := ne2 hv.bot fla
    have nph := ne2 hv.top fpe
    have npl := ne2 hv.bot fpe
    have nnh := ne2 hv.top fna
    have nnl := ne2 hv.bot fna
    dsimp only [gName]
    refine seq_out (t := tFor _ _ _) (fun σ' G' => ∃ (y7 : Option V) (ls L3 : List Int) (st3 : Int), σ' = [some (.ref h), some (.ref cq), some (.ref eq), some (.ref la), some (.ref pe), some (.ref na), some (.int wy), y7] ∧ But h l H G' ∧ Hv G' h l L3 st3 ∧ G' la = some (.lst (ls.map V.int)) ∧ Left sx ls)
      (fun N hN => ?_) (fun σ' G6 hR => ?_)
    · refine ⟨_, rfl, pe, rfl, ⟨_, sqL (b2 _ _ nph npl gpe)⟩, for_list (xs := natI ps) (fun j σ G => ∃ (y7 : Option V) (ls L3 : List Int) (st3 : Int), σ = [some (.ref h), some (.ref cq), some (.ref eq), some (.ref la), some (.ref pe), some (.ref na), some (.int wy), y7] ∧ But h l H G ∧ Hv G h l L3 st3 ∧ G la = some (.lst (ls.map V.int)) ∧ Left sx ls ∧ G pe = some (.lst (natI ps)) ∧ G na = some (.lst (sx.now.map V.int)))
        ⟨_, sx.lasts, L2, st2, rfl, fun bb ob e1 e2 e => b2 _ _ e1 e2 (s1 _ _ e), hv2, b2 _ _ nlh nll gla, ⟨rfl, ol, fun _ _ => rfl⟩, b2 _ _ nph npl gpe, b2 _ _ nnh nnl gna⟩ (fun j σ G _ hP => ?_) (fun j x σ G hx hP => ?_) (fun σ G hP => ?_)⟩
      · obtain ⟨_, _, _, _, _, _, _, _, _, z, _⟩ := hP
        exact sqL z
      · obtain ⟨y7, ls, L3, st3, rfl, b3, hv3, k1, kL, k2, k3⟩ := hP
        obtain ⟨a, ha, rfl⟩ : ∃ a, ps[j]? = some a ∧ x = V.int ((a : Nat) : Int) := by
          unfold natI at hx
          rw [List.getElem?_map] at hx
          obtain ⟨a, h1, h2⟩ := Option.map_eq_some_iff.mp hx
          exact ⟨a, h1, h2.symm⟩
        obtain ⟨han, hap⟩ := (km a).mp (List.mem_of_getElem? ha)
        obtain ⟨v, hnv⟩ : ∃ v, sx.now[a]? = some v := ⟨_, List.getElem?_eq_getElem (by rw [lk9.l2]; exact han)⟩
        have hvo := on v (List.mem_of_getElem? hnv)
        dsimp only [gName]
        have fin : ∀ (G4 : Hp) (L4 : List Int) (st4 v : Int), But h l H G4 → Hv G4 h l L4 st4 → G4 la = some (.lst (ls.map V.int)) → G4 pe = some (.lst (natI ps)) → G4 na = some (.lst (sx.now.map V.int)) → Oct v →
            ∃ (y7 : Option V) (ms L3 : List Int) (st3 : Int), [some (V.ref h), some (.ref cq), some (.ref eq), some (.ref la), some (.ref pe), some (.ref na), some (.int wy), some (.int (a : Int))] = [some (.ref h), some (.ref cq), some (.ref eq), some (.ref la), some (.ref pe), some (.ref na), some (.int wy), y7] ∧ But h l H (upd G4 la (.lst ((ls.map V.int).set a (.int v)))) ∧ Hv (upd G4 la (.lst ((ls.map V.int).set a (.int v)))) h l L3 st3 ∧ (upd G4 la (.lst ((ls.map V.int).set a (.int v)))) la = some (.lst (ms.map V.int)) ∧ Left sx ms ∧ (upd G4 la (.lst ((ls.map V.int).set a (.int v)))) pe = some (.lst (natI ps)) ∧ (upd G4 la (.lst ((ls.map V.int).set a (.int v)))) na = some (.lst (sx.now.map V.int)) := fun G4 L4 st4 v b4 hv4 g1 g2 g3 hvo =>
          ⟨_, ls.set a v, L4, st4, rfl, fun bb ob e1 e2 e => (upd_ne (ne_of_none e fla)).trans (b4 _ _ e1 e2 e), ⟨(upd_ne nlh.symm).trans hv4.top, (upd_ne nll.symm).trans hv4.bot, hv4.ne, hv4.lo, hv4.hi, hv4.len⟩, by rw [upd_same, List.map_set], ⟨by rw [List.length_set]; exact kL.len, fun o ho => (List.mem_or_eq_of_mem_set ho).elim (kL.oct o) fun z => z ▸ hvo, fun c hc => by rw [List.getElem?_set_ne (show a ≠ c from fun z => hc (z ▸ hap))]; exact kL.eq c hc⟩, (upd_ne d1.symm).trans g2, (upd_ne d2.symm).trans g3⟩
        have skip : ∀ (G4 : Hp) (L4 : List Int) (st4 : Int), But h l H G4 → Hv G4 h l L4 st4 → G4 la = some (.lst (ls.map V.int)) → G4 pe = some (.lst (natI ps)) → G4 na = some (.lst (sx.now.map V.int)) →
            ∃ (y7 : Option V) (ls L3 : List Int) (st3 : Int), [some (V.ref h), some (.ref cq), some (.ref eq), some (.ref la), some (.ref pe), some (.ref na), some (.int wy), some (.int (a : Int))] = [some (.ref h), some (.ref cq), some (.ref eq), some (.ref la), some (.ref pe), some (.ref na), some (.int wy), y7] ∧ But h l H G4 ∧ Hv G4 h l L3 st3 ∧ G4 la = some (.lst (ls.map V.int)) ∧ Left sx ls ∧ G4 pe = some (.lst (natI ps)) ∧ G4 na = some (.lst (sx.now.map V.int)) := fun G4 L4 st4 b4 hv4 g1 g2 g3 => ⟨_, ls, L4, st4, rfl, b4, hv4, g1, kL, g2, g3⟩
        have ll : ls.length = cells.length := kL.len.trans lk9.l1
        have hat : atI (sx.now.map V.int) ((a : Nat) : Int) = some (.int v) := atI_nat (by rw [List.getElem?_map, hnv]; rfl)
        have hix : ixN (ls.map V.int).length ((a : Nat) : Int) = some a := ixN_nat (by rw [List.length_map, ll]; exact han)
        refine ⟨_, rfl, rfl, _, rfl, ite2 (fun _ => iteT ?_) (fun _ => ⟨_, rfl, _, _, rfl, rfl, _, rfl, ite2 (fun _ => ⟨_, rfl, h, l, L3, st3, 2, rfl, hv3, by decide, by decide, fun G4 L4 st4 kn b4 hv4 k0 k1' => ⟨rfl, _, rfl, ?_⟩⟩) (fun _ => iteF ?_)⟩)⟩
        · exact ⟨_, rfl, _, rfl, na, _, _, .int v, rfl, rfl, sqL k3, hat, _, rfl, _, rfl, la, _, _, a, rfl, rfl, k1, hix, fin G L3 st3 v b3 hv3 k1 k2 k3 hvo⟩
        · have b5 := b3.trans b4
          have j1 := b4 _ _ nlh nll k1
          have j2 := b4 _ _ nph npl k2
          have j3 := b4 _ _ nnh nnl k3
          refine ite2 (fun _ => ?_) (fun _ => ?_)
          · exact ⟨_, rfl, _, rfl, na, _, _, .int v, rfl, rfl, sqL j3, hat, _, rfl, _, rfl, la, _, _, a, rfl, rfl, j1, hix, fin G4 L4 st4 v b5 hv4 j1 j2 j3 hvo⟩
          · refine ⟨_, rfl, rfl, _, rfl, ite2 (fun _ => ?_) (fun _ => ⟨_, rfl, rfl, _, rfl, ite2 (fun _ => iteT ?_) (fun _ => ⟨_, rfl, rfl, _, rfl, ite2 (fun _ => ?_) (fun _ => ?_)⟩)⟩)⟩
            · exact ⟨_, rfl, _, rfl, na, _, _, .int v, rfl, rfl, sqL j3, hat, _, _, rfl, rfl, _, rfl, _, rfl, la, _, _, a, rfl, rfl, j1, hix, fin G4 L4 st4 (255 - v) b5 hv4 j1 j2 j3 (by have := hvo.1; have := hvo.2; unfold Oct; omega)⟩
            · refine ⟨_, rfl, h, l, L4, st4, rfl, hv4, fun G7 L7 st7 o b7 hv7 o0 o1 => ?_⟩
              have g1 := b7 _ _ nlh nll j1
              exact ⟨_, rfl, _, rfl, la, _, _, a, rfl, rfl, g1, hix, fin G7 L7 st7 o (b5.trans b7) hv7 g1 (b7 _ _ nph npl j2) (b7 _ _ nnh nnl j3) ⟨o0, o1⟩⟩
            · refine ⟨_, rfl, h, l, L4, st4, rfl, hv4, fun G7 L7 st7 o b7 hv7 o0 o1 => ?_⟩
              have g1 := b7 _ _ nlh nll j1
              exact ⟨_, rfl, _, rfl, la, _, _, a, rfl, rfl, g1, hix, fin G7 L7 st7 o (b5.trans b7) hv7 g1 (b7 _ _ nph npl j2) (b7 _ _ nnh nnl j3) ⟨o0, o1⟩⟩
            · exact skip G4 L4 st4 b5 hv4 j1 j2 j3
        · refine ⟨_, rfl, rfl, _, rfl, ite2 (fun _ => ?_) (fun _ => ⟨_, rfl, rfl, _, rfl, ite2 (fun _ => iteT ?_) (fun _ => ⟨_, rfl, rfl, _, rfl, ite2 (fun _ => ?_) (fun _ => ?_)⟩)⟩)⟩
          · exact ⟨_, rfl, _, rfl, na, _, _, .int v, rfl, rfl, sqL k3, hat, _, _, rfl, rfl, _, rfl, _, rfl, la, _, _, a, rfl, rfl, k1, hix, fin G L3 st3 (255 - v) b3 hv3 k1 k2 k3 (by have := hvo.1; have := hvo.2; unfold Oct; omega)⟩
          · refine ⟨_, rfl, h, l, L3, st3, rfl, hv3, fun G7 L7 st7 o b7 hv7 o0 o1 => ?_⟩
            have g1 := b7 _ _ nlh nll k1
            exact ⟨_, rfl, _, rfl, la, _, _, a, rfl, rfl, g1, hix, fin G7 L7 st7 o (b3.trans b7) hv7 g1 (b7 _ _ nph npl k2) (b7 _ _ nnh nnl k3) ⟨o0, o1⟩⟩
          · refine ⟨_, rfl, h, l, L3, st3, rfl, hv3, fun G7 L7 st7 o b7 hv7 o0 o1 => ?_⟩
            have g1 := b7 _ _ nlh nll k1
            exact ⟨_, rfl, _, rfl, la, _, _, a, rfl, rfl, g1, hix, fin G7 L7 st7 o (b3.trans b7) hv7 g1 (b7 _ _ nph npl k2) (b7 _ _ nnh nnl k3) ⟨o0, o1⟩⟩
          · exact skip G L3 st3 b3 hv3 k1 k2 k3
      · obtain ⟨y7, ls, L3, st3, rfl, b3, hv3, k1, kL, k2, k3⟩ := hP
        exact hN _ _ ⟨y7, ls, L3, st3, rfl, b3, hv3, k1, kL⟩
    obtain ⟨y7, ls, L3, st3, rfl, b3, hv3, k1, kL⟩ := hR
    refine ⟨_, rfl, la, _, rfl, .inl ⟨sqL k1, fun tq nt => q _ L3 st3 tq ls (b3.new nt) (hv3.new nt) (sqT upd_same) kL⟩⟩
end
end K6
namespace K6
open PySem PySem.Spec PyProof.Rows L2 Gd
theorem tyT {K : PySem.W.Frag} {H : Hp} {c : Addr} {xs : List V} (h : SqT K H c xs) : TyN K H (.ref c) "tuple" := by
  rcases h with (z | ⟨o, z⟩) | ⟨o, its, n, hk, hc, _⟩
  · exact .base (.tup z)
  · exact .fTuple z
  · exact .kTuple hk hc
theorem cells_good {K : PySem.W.Frag} {H : Hp} {c : Addr} {ns : List Int} (h : SqT K H c (ns.map V.int)) (ho : OctL ns) (h1 : 1 ≤ ns.length) (h2 : ns.length ≤ 20000) : CellsV K H (.ref c) true := by
  have key : ∀ l : List Int, (∀ n ∈ l, Oct n) → NumVs K H 256 (l.map V.int) (l.map fun _ => true) ∧ (l.map fun _ => true).all id = true := fun l hl => by
    induction l with
    | nil => exact ⟨.nil, rfl⟩
    | cons x r ih =>
      obtain ⟨i1, i2⟩ := ih fun n hn => hl n (List.mem_cons_of_mem _ hn)
      exact ⟨.cons (.inl ⟨x, rfl, (decide_eq_true (show 0 ≤ x ∧ x < 256 from hl x List.mem_cons_self)).symm⟩) i1, i2⟩
  obtain ⟨k1, k2⟩ := key ns ho
  refine .inr ⟨c, _, _, rfl, tyT h, h, by rw [List.length_map]; omega, k1, ?_⟩
  rw [k2, Bool.and_true, List.length_map]
  exact (decide_eq_true ⟨h1, h2⟩).symm
/-- what __init__ of a disk asks of good cells -/
theorem init_good {K : PySem.W.Frag} {C c p dx : Addr} {H : Hp} {ns : List Int} {Q : VK} {E : XK} (h : SqT K H c (ns.map V.int)) (ho : OctL ns) (h1 : 1 ≤ ns.length) (h2 : ns.length ≤ 20000) (np : H p = none) (nd : H dx = none) (ne : dx ≠ p)
    (q : ∀ G l e, Same H G → H l = none → H e = none → l ≠ p → e ≠ p → DiskAt K C G p dx c l e ns ns [] → Q .non G) : spInit K C [.ref p, .ref c] (upd (upd H dx (.own p)) p (.ins C dx [])) Q E := by
  have np2 : (upd H dx (.own p)) p = none := (upd_ne (Ne.symm ne)).trans np
  have sm : Same H (upd (upd H dx (.own p)) p (.ins C dx [])) := (same_new nd).trans (same_new np2)
  refine ⟨p, dx, c, ns, rfl, upd_same, cells_good (same_seqT sm h) ho h1 h2, same_seqT sm h, fun G l e kp nl nE d => ?_⟩
  have nlp : l ≠ p := fun z => by
    rw [z, upd_same] at nl
    cases nl
  have nep : e ≠ p := fun z => by
    rw [z, upd_same] at nE
    cases nE
  exact q G l e (fun b o e => kp b o (ne_of_none e np) (sm _ _ e)) (sm.free nl) (sm.free nE) nlp nep d
/-- what __init__ of a journal asks of a disk that holds records -/
theorem jinit_good {K : PySem.W.Frag} {C CJ CB p dx c l e j jdx : Addr} {H : Hp} {cells pres : List Int} {evs : List Ev} {rs : List (List Int)} {Q : VK} {E : XK} (d : DiskAt K C H p dx c l e cells pres evs) (oc : OctL pres) (n1 : 1 ≤ pres.length) (n2 : pres.length ≤ 20000) (nc : cells.length = pres.length) (J : Jr pres rs)
    (nj : H j = none) (nd : H jdx = none) (ne : jdx ≠ j) (q : ∀ G b z, Same H G → JAt K C CJ G j jdx p dx c l e cells pres evs b z rs → Q .non G) : spJInit K C CJ CB [.ref j, .ref p] (upd (upd H jdx (.own j)) j (.ins CJ jdx [])) Q E := by
  have nj2 : (upd H jdx (.own j)) j = none := (upd_ne (Ne.symm ne)).trans nj
  have sm : Same H (upd (upd H jdx (.own j)) j (.ins CJ jdx [])) := (same_new nd).trans (same_new nj2)
  have d2 := d.same sm
  refine ⟨j, jdx, p, dx, c, l, e, cells, pres, evs, rfl, upd_same, ne_of_none d.obj nj, d2, oc, n1, n2, nc, fun b z ss G st f g => ?_, fun no => absurd J (no rs)⟩
  obtain rfl := Jr.one J ⟨b, z, st⟩
  refine q G b z (fun a o h => f.ks _ _ (fun m => ?_) (sm _ _ h)) ⟨g, d2.frmU f (by simpa using ne_of_none d.obj nj) (by simpa using ne_of_none d.pre nj) ?_, oc, n1, n2, nc, st⟩
  · rw [List.mem_singleton.mp m, nj] at h
    cases h
  · obtain ⟨us, h1, _⟩ := d.hap
    simpa using ne_of_none h1 nj
section
variable {P : Program} {w : World} {K : PySem.W.Frag} {mg : Str → Option Value} {base : Heap}
/-! ### _law_opened -/
def spOpened (K : PySem.W.Frag) : Sp := fun vs H Q _ => ∃ (c : Addr) (cs : List Int) (rs : List (List Int)), vs = [.ref c] ∧ SqT K H c (cs.map V.int) ∧ OctL cs ∧ 1 ≤ cs.length ∧ cs.length ≤ 20000 ∧ Jr cs rs ∧
  ∀ G t, Same H G → Dp K G (.ref t) (.tuple (rs.map recD)) → Q (.ref t) G
theorem ok_opened {f C CJ CB fI fJ mE mR : Addr} {fd fdI fdJ dE dR : FuncData} {k : Nat} (F : Fun K "_law_opened" "_law_opened" s__law_opened f fd) (T : DTxt K mg C) (TJ : JTxt K mg CJ) (M : Mk K C fI) (MJ : Mk K CJ fJ) (bI : Binds K fdI ["self", "cells"] []) (bJ : Binds K fdJ ["self", "disk"] [])
    (GI : FnOk P w K mg base CX0 k fI fdI ["self", "cells"] (spInit K C)) (GJ : FnOk P w K mg base (L2.CX P w) k fJ fdJ ["self", "disk"] (spJInit K C CJ CB))
    (ME : Meth K C "events" mE) (bE : Binds K dE ["self"] []) (HE : FnOk P w K mg base CX0 (k + 1) mE dE ["self"] (spEvents K C)) (MR : Meth K CJ "records" mR) (bR : Binds K dR ["self"] []) (HR : FnOk P w K mg base CX0 (k + 1) mR dR ["self"] (spRecs K C CJ)) :
    FnOk P w K mg base CX0 (k + 1 + 1) f fd ["cells"] (spOpened K) := by
  refine F.ok sc__law_opened (fun vs H Q E h => ?_) (fun cdv A outer s H vs Q E hr h => ?_)
  · obtain ⟨c, cs, rs, rfl, _⟩ := h
    rfl
  · obtain ⟨c, cs, rs, rfl, hc, oc, n1, n2, hJ, q⟩ := h
    refine blk_cons (ps_set (i := 1) sc__law_opened.nd rfl (.inl rfl) (pe_make M GI hr (by rfl) T.mgC bI .nil pass0 (pa_cons (pv 0) pa_nil))) ?_
    refine blk_cons (ps_set (i := 2) sc__law_opened.nd rfl (.inl rfl) (pe_meth0 (pe_make MJ GJ hr (by rfl) TJ.mgC bJ .nil passL (pa_cons (pv 1) pa_nil)) TJ.cl MR HR hr bR .nil pass0)) ?_
    refine blk_cons (ps_ret (pe_ifExp (pt_cmpR (op_neD hr.units) (pe_meth0 (pv 1) T.cl ME HE hr bE .nil pass0) (pe_tup pa_nil) (nomark _)) pe_non (pv 2))) ?_
    refine blk_nil ?_
    refine ⟨_, rfl, fun p dx np nd ne => ?_⟩
    refine init_good hc oc n1 n2 np nd ne fun G1 l e s1 nl nE _ _ d1 => ⟨rfl, ?_⟩
    refine ⟨_, rfl, fun j jdx nj ndj nej => ?_⟩
    refine jinit_good d1 oc n1 n2 rfl hJ nj ndj nej fun G2 b z s2 J2 => ⟨rfl, ?_⟩
    refine ⟨j, jdx, _, rfl, J2.obj, jf_no _ _ _ (by decide +kernel) (by decide +kernel) (by decide +kernel), j, jdx, p, dx, c, l, e, _, _, _, b, z, rs, rfl, J2, fun G3 t s3 dt => ?_⟩
    have d3 := J2.dk.same s3
    refine ⟨_, rfl, p, dx, _, rfl, d3.obj, df_no _ _ _ (by decide +kernel) (by decide +kernel) (by decide +kernel), p, dx, c, l, e, _, _, _, rfl, d3, fun G4 t4 us s4 ht4 du => ?_⟩
    cases du
    refine ⟨Nat.zero_le _, fun p5 n5 => ?_⟩
    have s5 := same_new (o := .tup []) n5
    refine ⟨_, _, .tup (same_seqT s5 ht4) .nil, .tup (sqT upd_same) .nil, by decide +kernel, by decide +kernel, _, rfl, ?_⟩
    rw [show PyData.eqv (.tuple []) (.tuple []) = true by decide +kernel]
    refine iteF ⟨_, rfl, ?_⟩
    exact q _ t ((((s1.trans s2).trans s3).trans s4).trans s5) (dp_same (s4.trans s5) _ _ dt)
end
end K6
namespace K6
open PySem PySem.Spec PyProof.Rows L2 Gd
section
variable {P : Program} {w : World} {K : PySem.W.Frag} {mg : Str → Option Value} {base : Heap}
/-! ### _law_base -/
def spBase (K : PySem.W.Frag) : Sp := fun vs H Q _ => ∃ (cq eq : Addr) (cells : List Int) (us : List V) (evs : List Ev), vs = [.ref cq, .ref eq] ∧ SqT K H cq (cells.map V.int) ∧ SqT K H eq us ∧ DpAll K H us (evs.map evD) ∧ Flushed evs ∧ EvOk cells.length evs ∧ cells.length ≤ 20000 ∧ evs.length ≤ 900000 ∧
  ∀ (G : Hp) (t c2 : Addr), Same H G → SqL K G t [.ref c2, .int (evs.length : Nat)] → SqT K G c2 ((replay cells evs).map V.int) → Q (.ref t) G
theorem ok_base {f : Addr} {fd : FuncData} {k : Nat} (F : Fun K "_law_base" "_law_base" s__law_base f fd) (ml : mg "len" = none) (mL : mg "list" = none) (mr : mg "range" = none) (mt : mg "tuple" = none) (mm : mg "max" = none) : FnOk P w K mg base CX0 (k + 1) f fd ["cells", "events"] (spBase K) := by
  refine F.ok sc__law_base (fun vs H Q E h => ?_) (fun cdv A outer s H vs Q E hr h => ?_)
  · obtain ⟨cq, eq, cells, us, evs, rfl, _⟩ := h
    rfl
  · obtain ⟨cq, eq, cells, us, evs, rfl, hc, he, du, fl, ok, n2, n9, q⟩ := h
    refine blk_cons (ps_par (i := 2) (j := 3) rfl sc__law_base.nd rfl rfl (by decide) rfl rfl (pa_cons (pe_callB (cr_max rfl) (by rfl) mm (by decide +kernel) (pa_cons (pe_op op_cat (pe_lst (pa_cons pe_int pa_nil)) (pe_lc (own := [("at", 5)]) (g := gName 5) rfl sc__law_base.nd (pi_range1 (by rfl) mr (pa_cons (pe_callB call_len_seq (by rfl) ml PySem.boot_len (pa_cons (pv 1) pa_nil)) pa_nil)) (blkOk_by (own := [("at", 5)]) (N := n__law_base) (sc := defScope s__law_base) (by decide +kernel))
      (fun _ _ _ _ _ => pg_name (i := 5) sc__law_base.nd rfl (Or.inl rfl)) (fun _ _ _ _ _ => pts_one (pt_cmpR op_isN (pe_ix (r := rIxT K) ix_tup (pv 1) (pv 5) (fun _ _ => rfl)) pe_non (nomark _))) (fun _ _ _ _ _ => pe_op op_add (pv 5) pe_int))) pa_nil)) (pa_cons (pe_callTy call_list_of (by rfl) mL (by decide +kernel) (pa_cons (pv 0) pa_nil)) pa_nil)) (by rfl)) ?_
    refine blk_cons (ps_for PassesOwn.never rfl (pi_tup (pe_slice (r := rSlA K) sl_tupA (pv 1) po_none (po_some (pv 2)))) (pg_name (i := 4) sc__law_base.nd rfl (.inl rfl))
      (pss_one (ps_if (pt_cmpR op_notN (pv 4) pe_non (nomark _)) (pss_one (ps_asg (pe_ix ix_tup (pv 4) pe_int (fun _ _ => rfl)) (pg_sub (pv 3) (pe_ix ix_tup (pv 4) pe_int (fun _ _ => rfl)) set_list))) pss_nil))) ?_
    refine blk_cons (ps_ret (pe_lst (pa_cons (pe_callTy call_tuple_of (by rfl) mt (by decide +kernel) (pa_cons (pv 3) pa_nil)) (pa_cons (pv 2) pa_nil)))) ?_
    refine blk_nil ?_
    have hul : us.length = evs.length := by rw [dpAll_len du, List.length_map]
    -- the last flush
    refine ⟨by show 1 ≤ sizeLine; decide, fun p1 n1 => ?_⟩
    have s1 := same_new (o := .lst [.int 0]) n1
    have g1 := upd_same (H := H) (a := p1) (o := .lst [.int 0])
    generalize upd H p1 (.lst [.int 0]) = G1 at s1 g1 ⊢
    refine ⟨_, rfl, eq, us, rfl, .inr (same_seqT s1 he), _, rfl, by omega, by omega, fun D nD => ?_⟩
    have n1D : p1 ≠ D := ne_of_none g1 nD
    refine lc_range (lo := 0) (fun i G => ∃ ns : List Int, Same H G ∧ G p1 = some (.lst [.int 0]) ∧ G D = some (.lst (ns.map V.int)) ∧ ns.length ≤ i ∧ (∀ x, x ∈ ns ↔ ∃ a : Nat, a < i ∧ evs[a]? = some none ∧ x = (a : Int) + 1)) ⟨[], s1.trans (same_new nD), (upd_ne n1D).trans g1, upd_same, Nat.le_refl _, fun x => ⟨fun z => absurd z List.not_mem_nil, fun ⟨a, z, _⟩ => absurd z (Nat.not_lt_zero _)⟩⟩ (fun i G hi hP => ?_) (fun G hP => ?_)
    · obtain ⟨ns, s, k1, kD, kl, km⟩ := hP
      have hie : i < evs.length := by omega
      have ez : (0 + (i : Int)) = (i : Int) := by omega
      obtain ⟨x, hx⟩ : ∃ x, us[i]? = some x := ⟨_, List.getElem?_eq_getElem (by omega)⟩
      obtain ⟨ev, hev, dv⟩ := ev_at (dpAll_same s _ _ du) hx
      refine ⟨rfl, _, rfl, _, rfl, eq, us, _, x, rfl, rfl, same_seqT s he, by rw [ez]; exact atI_nat hx, ?_⟩
      cases ev with
      | none =>
        obtain rfl := ev_none dv
        refine ⟨rfl, _, rfl, iteT ⟨_, rfl, _, _, rfl, rfl, _, kD, by rw [List.length_map, sizeLine_eq]; omega, ns ++ [(i : Int) + 1], fun bb ob eb => (upd_ne (ne_of_none eb (s1.free nD))).trans (s _ _ eb), (upd_ne n1D).trans k1, ?_, by rw [List.length_append]; show _ + 1 ≤ _; omega, fun x => ?_⟩⟩
        · rw [upd_same, List.map_append, ez]
          rfl
        · rw [List.mem_append, List.mem_singleton, km]
          constructor
          · rintro (⟨a, h1, h2, h3⟩ | h)
            · exact ⟨a, by omega, h2, h3⟩
            · exact ⟨i, by omega, hev, h⟩
          · rintro ⟨a, h1, h2, h3⟩
            by_cases q : a = i
            · exact .inr (by rw [h3, q])
            · exact .inl ⟨a, by omega, h2, h3⟩
      | some bo =>
        obtain ⟨b, o⟩ := bo
        obtain ⟨tt, rfl, _⟩ := ev_some dv
        refine ⟨rfl, _, rfl, iteF ⟨ns, s, k1, kD, by omega, fun x => (km x).trans ⟨fun ⟨a, h1, h2, h3⟩ => ⟨a, by omega, h2, h3⟩, fun ⟨a, h1, h2, h3⟩ => ⟨a, ?_, h2, h3⟩⟩⟩⟩
        by_cases q : a = i
        · rw [q, hev] at h2
          cases h2
        · omega
    · obtain ⟨ns, s, k1, kD, kl, km⟩ := hP
      rw [show ((us.length : Int)).toNat = evs.length by omega] at kl km
      refine ⟨p1, D, _, _, rfl, rfl, k1, kD, by rw [List.length_map, sizeLine_eq]; show 1 + _ ≤ _; omega, fun p6 n6 => ?_⟩
      have s6 := s.trans (same_new (o := .lst ([V.int 0] ++ ns.map V.int)) n6)
      refine ⟨p6, 0 :: ns, rfl, sqL upd_same, Nat.succ_pos _, fun m hm hmax => ?_⟩
      have em : m = ((evs.length : Nat) : Int) := by
        rcases fl with e | ⟨r, e⟩
        · subst e
          rcases List.mem_cons.mp hm with z | z
          · rw [z]; rfl
          · obtain ⟨a, h1, _⟩ := (km m).mp z
            exact absurd h1 (Nat.not_lt_zero _)
        · have h1 : ((r.length : Nat) : Int) + 1 ∈ ns := (km _).mpr ⟨r.length, by rw [e, List.length_append]; exact Nat.lt_succ_self _, by rw [e, List.getElem?_append_right (Nat.le_refl _), Nat.sub_self]; rfl, rfl⟩
          have h2 := hmax _ (List.mem_cons_of_mem _ h1)
          have h3 : evs.length = r.length + 1 := by rw [e, List.length_append]; rfl
          rcases List.mem_cons.mp hm with z | z
          · omega
          · obtain ⟨a, h4, _, h5⟩ := (km m).mp z
            omega
      rw [em]
      refine ⟨_, rfl, cq, _, rfl, .inr (same_seqT s6 hc), fun F1 nF => ⟨_, _, rfl, ?_⟩⟩
      have nF0 := s6.free nF
      have s7 := s6.trans (same_new (o := .lst (cells.map V.int)) nF)
      have g7 := upd_same (H := upd G p6 (.lst ([V.int 0] ++ ns.map V.int))) (a := F1) (o := .lst (cells.map V.int))
      generalize upd (upd G p6 (.lst ([V.int 0] ++ ns.map V.int))) F1 (.lst (cells.map V.int)) = G7 at s7 g7 ⊢
      dsimp only [gName]
      refine seq_out (t := tFor _ _ _) (fun σ' G' => ∃ (y4 y5 : Option V), σ' = [some (.ref cq), some (.ref eq), some (.int (evs.length : Nat)), some (.ref F1), y4, y5] ∧ Same H G' ∧ G' F1 = some (.lst ((replay cells evs).map V.int))) (fun N hN => ?_) (fun σ' G8 hR => ?_)
      · refine ⟨_, rfl, _, rfl, _, rfl, slA_to (same_seqT s7 he) fun G8 q8 s8 h8 => ⟨q8, rfl, ⟨_, h8⟩, ?_⟩⟩
        rw [cut_to (by omega), ← hul, List.take_length] at h8
        refine for_tup (xs := us) (fun i σ G => ∃ (y4 y5 : Option V), σ = [some (.ref cq), some (.ref eq), some (.int (evs.length : Nat)), some (.ref F1), y4, y5] ∧ Same H G ∧ G F1 = some (.lst ((replay cells (evs.take i)).map V.int)) ∧ SqT K G q8 us) ⟨_, _, rfl, s7.trans s8, s8 _ _ g7, h8⟩ (fun i σ G _ hP => ?_) (fun i x σ G hx hP => ?_) (fun σ G hP => ?_)
        · obtain ⟨_, _, _, _, _, z⟩ := hP
          exact z
        · obtain ⟨y4, y5, rfl, s9, k9, h9⟩ := hP
          obtain ⟨ev, hev, dv⟩ := ev_at (dpAll_same s9 _ _ du) hx
          have tk : evs.take (i + 1) = evs.take i ++ [ev] := by
            rw [List.take_add_one, hev]
            rfl
          rw [tk, replay_snoc]
          dsimp only [gName]
          cases ev with
          | none =>
            obtain rfl := ev_none dv
            exact ⟨_, rfl, rfl, _, rfl, iteF ⟨_, _, rfl, s9, k9, h9⟩⟩
          | some bo =>
            obtain ⟨b, o⟩ := bo
            obtain ⟨tt, rfl, htt⟩ := ev_some dv
            have hb := ok b o (List.mem_of_getElem? hev)
            refine ⟨_, rfl, rfl, _, rfl, iteT ⟨_, rfl, tt, _, 1, .int o, rfl, rfl, htt, atI_nat (j := 1) rfl, _, rfl, _, rfl, tt, _, 0, .int (b : Int), rfl, rfl, htt, atI_nat (j := 0) rfl, F1, _, _, b, rfl, rfl, k9, ixN_nat (by rw [List.length_map, replay_len]; exact hb.1), ?_⟩⟩
            refine ⟨_, _, rfl, fun bb ob eb => (upd_ne (ne_of_none eb nF0)).trans (s9 _ _ eb), ?_, (KeepT.put k9).seqT h9⟩
            rw [upd_same]
            show some (HO.lst _) = some (HO.lst (((replay cells (evs.take i)).set b o).map V.int))
            rw [List.map_set]
        · obtain ⟨y4, y5, rfl, s9, k9, h9⟩ := hP
          rw [hul, List.take_length] at k9
          exact hN _ _ ⟨_, _, rfl, s9, k9⟩
      obtain ⟨y4, y5, rfl, s9, k9⟩ := hR
      refine ⟨_, rfl, F1, _, rfl, .inl ⟨sqL k9, fun q9 n9 => ⟨_, rfl, by show 2 ≤ sizeLine; decide, fun t nt => ?_⟩⟩⟩
      have s10 := same_new (o := .tup ((replay cells evs).map V.int)) n9
      have s11 := same_new (o := .lst [.ref q9, .int (evs.length : Nat)]) nt
      exact q _ t q9 ((s9.trans s10).trans s11) (sqL upd_same) (sqT (s11 _ _ upd_same))
end
end K6
namespace K6
open PySem PySem.Spec PyProof.Rows L2 Gd
theorem oct_nat {x : Int} (h : Oct x) : x.natAbs < 10 ^ 9 := by
  have h1 := h.1
  have h2 := h.2
  have : (10 : Nat) ^ 9 = 1000000000 := by decide
  omega
theorem cost_rec (r : List Int) : costD (recD r) = 12 * r.length + 2 := by
  unfold recD
  rw [costD]
  have : costAll (r.map .int) = 12 * r.length := by
    induction r with
    | nil => rw [List.map_nil, costAll]; rfl
    | cons x t ih => rw [List.map_cons, costAll, costD, ih, List.length_cons]; omega
  rw [this]
theorem recs_fd {rs : List (List Int)} (ho : ∀ r ∈ rs, OctL r) (hs : sizeOf3 rs ≤ 30000) : Fd (.tuple (rs.map recD)) := by
  refine ⟨?_, ?_, ?_⟩
  · rw [fine]
    refine fineAll_mem fun d hd => ?_
    obtain ⟨r, hr, rfl⟩ := List.mem_map.mp hd
    rw [recD, fine]
    refine fineAll_mem fun d hd => ?_
    obtain ⟨x, hx, rfl⟩ := List.mem_map.mp hd
    rw [fine]
    exact decide_eq_true (oct_nat (ho r hr x hx))
  · rw [PyData.depth]
    have : PyData.depthAll (rs.map recD) ≤ 2 := depthAll_mem fun d hd => by
      obtain ⟨r, _, rfl⟩ := List.mem_map.mp hd
      rw [recD, PyData.depth]
      have : PyData.depthAll (r.map .int) ≤ 1 := depthAll_mem fun d hd => by
        obtain ⟨x, _, rfl⟩ := List.mem_map.mp hd
        simp [PyData.depth]
      omega
    omega
  · rw [costD, sizeLine_eq]
    have key : ∀ l : List (List Int), costAll (l.map recD) ≤ 12 * sizeOf3 l := fun l => by
      induction l with
      | nil => rw [List.map_nil, costAll]; exact Nat.zero_le _
      | cons r t ih =>
        have e : sizeOf3 (r :: t) = r.length + 3 + sizeOf3 t := rfl
        rw [List.map_cons, costAll, cost_rec, e]
        omega
    have := key rs
    omega
theorem chain_oct {now : List Int} {stop i z : Nat} {rs : List (List Int)} (ho : OctL now) (h : Chain now stop i rs z) : ∀ r ∈ rs, OctL r := by
  induction h with
  | nil => exact fun r hr => absurd hr List.not_mem_nil
  | @cons i e n x hi lo rs h1 h2 h3 h4 h5 h6 h7 h8 ih =>
    intro r hr
    rcases List.mem_cons.mp hr with q | q
    · rw [q]
      exact fun o hoo => ho o ((List.drop_sublist _ _).mem ((List.take_sublist _ _).mem hoo))
    · exact ih r q
theorem jr_recs {now : List Int} {rs : List (List Int)} (ho : OctL now) (hn : 1 ≤ now.length) (J : Jr now rs) : (∀ r ∈ rs, OctL r) ∧ sizeOf3 rs ≤ now.length := by
  obtain ⟨b, z, hs, b1, ch⟩ := J
  have hb := bend_le hn b1
  have := chain_size hb ch
  have le := chain_le ch
  exact ⟨chain_oct ho ch, by omega⟩
theorem jr_fd {now : List Int} {rs : List (List Int)} (ho : OctL now) (hn : 1 ≤ now.length) (h2 : now.length ≤ 20000) (J : Jr now rs) : Fd (.tuple (rs.map recD)) := recs_fd (jr_recs ho hn J).1 (by have := (jr_recs ho hn J).2; omega)
theorem cut_mid {xs : List V} {a b : Nat} (h1 : a ≤ b) (h2 : b ≤ xs.length) : cutV xs (some (a : Int)) (some (b : Int)) = (xs.drop a).take (b - a) := by
  unfold cutV
  rw [HT.sIx_nat, HT.sIx_nat, Nat.min_eq_left h2, Nat.min_eq_left (Nat.le_trans h1 h2)]
theorem dpAll_drop {K : PySem.W.Frag} {H : Hp} : ∀ (n : Nat) {us : List V} {ds : List PyData}, DpAll K H us ds → DpAll K H (us.drop n) (ds.drop n)
  | 0, _, _, h => h
  | n + 1, _, _, .nil => .nil
  | n + 1, _, _, .cons a t => dpAll_drop n t
theorem dpAll_take {K : PySem.W.Frag} {H : Hp} : ∀ (n : Nat) {us : List V} {ds : List PyData}, DpAll K H us ds → DpAll K H (us.take n) (ds.take n)
  | 0, _, _, _ => .nil
  | n + 1, _, _, .nil => .nil
  | n + 1, _, _, .cons a t => .cons a (dpAll_take n t)
/-- what a cut in a call may leave -/
def CutsOk (now : List Int) (ev1 : List Ev) (old new : List (List Int)) : Prop := ∀ k, k ≤ ev1.length → ∀ cs, Left (look3 now (ev1.take k)) cs → (Jr cs old ∨ Jr cs new) ∧ (k = 0 → Jr cs old) ∧ (k = ev1.length → Jr cs new)
section
variable {P : Program} {w : World} {K : PySem.W.Frag} {mg : Str → Option Value} {base : Heap}
/-! ### _law_cuts_right -/
def spCuts (K : PySem.W.Frag) (C : Addr) : Sp := fun vs H Q _ => ∃ (h l p dx c dl de oq nq : Addr) (L : List Int) (st : Int) (cells pres : List Int) (ev0 ev1 : List Ev) (old new : List (List Int)) (ct : Nat), vs = [.ref h, .ref p, .int (ev0.length : Nat), .ref oq, .ref nq, .int (ct : Nat)] ∧ Hv H h l L st ∧ DiskAt K C H p dx c dl de cells pres (ev0 ++ ev1) ∧
  dl ≠ h ∧ dl ≠ l ∧ de ≠ h ∧ de ≠ l ∧ Flushed ev0 ∧ OctL cells ∧ EvOk cells.length (ev0 ++ ev1) ∧ 1 ≤ cells.length ∧ cells.length ≤ 20000 ∧ (ev0 ++ ev1).length ≤ 900000 ∧ ct ≤ 100 ∧ Fd (.tuple (old.map recD)) ∧ Fd (.tuple (new.map recD)) ∧
  Dp K H (.ref oq) (.tuple (old.map recD)) ∧ Dp K H (.ref nq) (.tuple (new.map recD)) ∧ CutsOk (replay cells ev0) ev1 old new ∧ ∀ (G : Hp) (L' : List Int) (st' : Int), But h l H G → Hv G h l L' st' → Q (.bl true) G
theorem ok_cuts {C f fD fB fL fO mE : Addr} {fd fdD fdB fdL fdO dE : FuncData} {k : Nat} (F : Fun K "_law_cuts_right" "_law_cuts_right" s__law_cuts_right f fd) (FD : Fun K "_law_draw" "_law_draw" s__law_draw fD fdD) (FB : Fun K "_law_base" "_law_base" s__law_base fB fdB) (FL : Fun K "_law_left" "_law_left" s__law_left fL fdL) (FO : Fun K "_law_opened" "_law_opened" s__law_opened fO fdO) (T : DTxt K mg C)
    (ME : Meth K C "events" mE) (bE : Binds K dE ["self"] []) (HE : FnOk P w K mg base CX0 k mE dE ["self"] (spEvents K C))
    (bD : Binds K fdD ["heap", "many"] []) (bB : Binds K fdB ["cells", "events"] []) (bL : Binds K fdL ["heap", "cells", "events"] []) (bO : Binds K fdO ["cells"] []) (gD : mg "_law_draw" = some (.ref fD)) (gB : mg "_law_base" = some (.ref fB)) (gL : mg "_law_left" = some (.ref fL)) (gO : mg "_law_opened" = some (.ref fO))
    (GD : FnOk P w K mg base CX0 k fD fdD ["heap", "many"] spDraw) (GB : FnOk P w K mg base CX0 k fB fdB ["cells", "events"] (spBase K)) (GL : FnOk P w K mg base CX0 k fL fdL ["heap", "cells", "events"] (spLeft K)) (GO : FnOk P w K mg base CX0 k fO fdO ["cells"] (spOpened K))
    (ml : mg "len" = none) (mr : mg "range" = none) (mm : mg "max" = none) (mp : mg "repr" = none) :
    FnG P w K mg base (k + 1) f fd ["heap", "disk", "begun", "old", "new", "cuts"] (spCuts K C) := by
  refine okG F sc__law_cuts_right (fun vs H Q E h => ?_) (fun cdv A outer s H vs Q E hrg h => ?_)
  · obtain ⟨h, l, p, dx, c, dl, de, oq, nq, L, st, cells, pres, ev0, ev1, old, new, ct, rfl, _⟩ := h
    rfl
  · obtain ⟨h, l, p, dx, c, dl, de, oq, nq, L, st, cells, pres, ev0, ev1, old, new, ct, rfl, hv, dk, e1, e2, e3, e4, fl0, oc, ok, n1, n2, n9, hct, fo, fn, do_, dn, cut, q⟩ := h
    have hr := hrg.rm
    have hgd := hrg.gd
    refine blk_cons (ps_set (i := 6) sc__law_cuts_right.nd rfl (.inr rfl) (pe_meth0 (pv 1) T.cl ME HE hr bE .nil pass0)) ?_
    refine blk_cons (ps_asg (pe_call GB hr (by rfl) gB FB.kp bB .nil pass0 (pa_cons (pe_fld (pv 1) rfl) (pa_cons (pe_slice (r := rSlA K) sl_tupA (pv 6) po_none (po_some (pv 2))) pa_nil))) (pg_lst rfl (pgs_cons (pg_name (i := 7) sc__law_cuts_right.nd rfl (.inl rfl)) (pgs_cons (pg_name (i := 8) sc__law_cuts_right.nd rfl (.inl rfl)) pgs_nil)))) ?_
    refine blk_cons (ps_set (i := 9) sc__law_cuts_right.nd rfl (.inl rfl) (pe_op op_cat (pe_lst (pa_cons (pv 2) (pa_cons (pe_callB call_len_seq (by rfl) ml PySem.boot_len (pa_cons (pv 6) pa_nil)) pa_nil)))
      (pe_lc (own := [("turn", 12)]) (g := gName 12) (tt := tYes) rfl sc__law_cuts_right.nd (pi_range1 (by rfl) mr (pa_cons (pv 5) pa_nil)) (blkOk_by (own := [("turn", 12)]) (N := n__law_cuts_right) (sc := defScope s__law_cuts_right) (by decide +kernel))
        (fun _ _ _ _ _ => pg_name (i := 12) sc__law_cuts_right.nd rfl (Or.inl rfl)) (fun _ _ _ _ _ => pts_nil) (fun _ _ _ _ _ => pe_op op_add (pv 2) (pe_call GD hr (by rfl) gD FD.kp bD .nil pass0 (pa_cons (pv 0) (pa_cons (pe_op op_add (pe_op op_sub (pe_callB (r := rLenQ K) call_len_seq (by rfl) ml PySem.boot_len (pa_cons (pv 6) pa_nil)) (pv 2)) pe_int) pa_nil))))))) ?_
    refine blk_cons (ps_for PassesOwn.never rfl (pi_list (pe_op op_cat (pv 9) (pe_lst (pa_cons (pe_callB (call_max2 rfl) (by rfl) mm (by decide +kernel) (pa_cons (pv 2) (pa_cons (pe_op op_sub (pe_callB call_len_seq (by rfl) ml PySem.boot_len (pa_cons (pv 6) pa_nil)) pe_int) pa_nil))) (pa_cons (pe_callB (call_max2 rfl) (by rfl) mm (by decide +kernel) (pa_cons (pv 2) (pa_cons (pe_op op_sub (pe_callB call_len_seq (by rfl) ml PySem.boot_len (pa_cons (pv 6) pa_nil)) pe_int) pa_nil))) pa_nil))))) (pg_name (i := 10) sc__law_cuts_right.nd rfl (.inl rfl))
      (pss_cons (ps_set (i := 11) sc__law_cuts_right.nd rfl (.inl rfl) (pe_callB (call_reprF hgd hr.units) (by rfl) mp (by decide +kernel) (pa_cons (pe_call GO hr (by rfl) gO FO.kp bO .nil pass0 (pa_cons (pe_call GL hr (by rfl) gL FL.kp bL .nil pass0 (pa_cons (pv 0) (pa_cons (pv 7) (pa_cons (pe_slice (r := rSlA K) sl_tupA (pv 6) (po_some (pv 8)) (po_some (pv 10))) pa_nil)))) pa_nil)) pa_nil)))
      (pss_cons (ps_if (PW.pt (pw_and (pt_cmpR op_ne (pv 11) (pe_callB (call_reprF hgd hr.units) (by rfl) mp (by decide +kernel) (pa_cons (pv 3) pa_nil)) (nomark _)) (pw_and1 (pt_cmpR op_ne (pv 11) (pe_callB (call_reprF hgd hr.units) (by rfl) mp (by decide +kernel) (pa_cons (pv 4) pa_nil)) (nomark _))))) (pss_one (ps_ret pe_bl)) pss_nil)
      (pss_one (ps_if (PW.pt (pw_or (PW.pt (pw_and (pt_cmpR op_eq (pv 10) (pv 2) (nomark _)) (pw_and1 (pt_cmpR op_ne (pv 11) (pe_callB (call_reprF hgd hr.units) (by rfl) mp (by decide +kernel) (pa_cons (pv 3) pa_nil)) (nomark _)))))
        (pw_or1 (PW.pt (pw_and (pt_cmpR op_eq (pv 10) (pe_callB call_len_seq (by rfl) ml PySem.boot_len (pa_cons (pv 6) pa_nil)) (nomark _)) (pw_and1 (pt_cmpR op_ne (pv 11) (pe_callB (call_reprF hgd hr.units) (by rfl) mp (by decide +kernel) (pa_cons (pv 4) pa_nil)) (nomark _)))))))) (pss_one (ps_ret pe_bl)) pss_nil))))) ?_
    refine blk_cons (ps_ret pe_bl) ?_
    refine blk_nil ?_
    have lens : (ev0 ++ ev1).length = ev0.length + ev1.length := List.length_append
    -- events
    refine ⟨_, rfl, p, dx, _, rfl, dk.obj, df_no _ _ _ (by decide +kernel) (by decide +kernel) (by decide +kernel), p, dx, c, dl, de, cells, pres, _, rfl, dk, fun G1 tE us s1 hE du => ?_⟩
    have dk1 := dk.same s1
    have hul : us.length = ev0.length + ev1.length := by rw [dpAll_len du, List.length_map, lens]
    -- base, since
    refine ⟨_, rfl, p, C, dx, _, _, rfl, dk1.obj, T.cl, T.nC, df_c _ _ _, _, rfl, _, rfl, _, rfl, slA_to hE fun G2 q2 s2 h2 => ?_⟩
    rw [cut_to (by omega)] at h2
    have s12 := s1.trans s2
    have du2 := dpAll_same s2 _ _ du
    have d0 := dpAll_take ev0.length du2
    rw [← List.map_take, List.take_left] at d0
    refine ⟨c, q2, cells, _, ev0, rfl, (dk.same s12).cel, h2, d0, fl0, fun a o m => ok a o (List.mem_append_left _ m), n2, by omega, fun G3 t3 c2 s3 ht3 hc2 => ⟨t3, _, rfl, ht3, rfl, _, _, rfl, _, _, rfl, rfl, ?_⟩⟩
    have s13 := s12.trans s3
    have hv3 := hv.same s13
    have hE3 := same_seqT (s2.trans s3) hE
    have du3 := dpAll_same s3 _ _ du2
    have do3 := dp_same s13 _ _ do_
    have dn3 := dp_same s13 _ _ dn
    have b3 : But h l H G3 := (But.refl h l H).same s13
    -- ends
    refine ⟨_, rfl, _, rfl, tE, us, rfl, .inr hE3, by show 2 ≤ sizeLine; decide, fun p4 m4 => ?_⟩
    have n4h : p4 ≠ h := ne2 hv3.top m4
    have n4l : p4 ≠ l := ne2 hv3.bot m4
    have b4 := b3.new (o := .lst [.int (ev0.length : Nat), .int (us.length : Nat)]) m4
    have hv4 := hv3.new (o := .lst [.int (ev0.length : Nat), .int (us.length : Nat)]) m4
    have s4 := same_new (o := .lst [.int (ev0.length : Nat), .int (us.length : Nat)]) m4
    have g4 := upd_same (H := G3) (a := p4) (o := .lst [.int (ev0.length : Nat), .int (us.length : Nat)])
    generalize upd G3 p4 (.lst [.int (ev0.length : Nat), .int (us.length : Nat)]) = G4 at b4 hv4 s4 g4 ⊢
    have kT : ∀ {G : Hp}, But h l G3 G → KeepT G3 G := fun b => KeepT.but hv3 b
    refine ⟨_, rfl, _, rfl, by omega, by omega, fun D nD => ?_⟩
    have nDh : D ≠ h := ne2 hv4.top nD
    have nDl : D ≠ l := ne2 hv4.bot nD
    have nD4 : p4 ≠ D := ne_of_none g4 nD
    have nD3 := s4.free nD
    refine lc_range (lo := 0) (fun i G => ∃ ns : List Int, But h l G3 G ∧ (∃ L5 st5, Hv G h l L5 st5) ∧ G p4 = some (.lst [.int (ev0.length : Nat), .int (us.length : Nat)]) ∧ G D = some (.lst (ns.map V.int)) ∧ ns.length ≤ i ∧ ∀ x ∈ ns, ∃ kk : Nat, x = ((ev0.length + kk : Nat) : Int) ∧ kk ≤ ev1.length)
      ⟨[], ((But.refl h l G3).same s4).new nD, ⟨_, _, hv4.new nD⟩, (upd_ne nD4).trans g4, upd_same, Nat.le_refl _, fun x z => absurd z List.not_mem_nil⟩ (fun i G hi hP => ?_) (fun G hP => ?_)
    · obtain ⟨ns, b5, ⟨L5, st5, hv5⟩, k4, kD, kl, km⟩ := hP
      refine ⟨rfl, ?_⟩
      dsimp only [tYes]
      rw [if_pos rfl]
      refine ⟨_, rfl, _, rfl, _, rfl, tE, us, rfl, .inr ((kT b5).seqT hE3), _, rfl, _, _, rfl, rfl, _, _, rfl, rfl, h, l, L5, st5, _, rfl, hv5, by omega, by omega, fun G6 L6 st6 r6 b6 hv6 r0 r1 => ⟨_, _, rfl, rfl, ?_⟩⟩
      obtain ⟨kk, rfl⟩ := Int.eq_ofNat_of_zero_le r0
      have kD6 := b6 _ _ nDh nDl kD
      refine ⟨_, kD6, by rw [List.length_map, sizeLine_eq]; omega, ns ++ [((ev0.length + kk : Nat) : Int)], fun bb ob x1 x2 eb => (upd_ne (ne_of_none eb nD3)).trans (b6 _ _ x1 x2 (b5 _ _ x1 x2 eb)), ⟨L6, st6, ⟨(upd_ne nDh.symm).trans hv6.top, (upd_ne nDl.symm).trans hv6.bot, hv6.ne, hv6.lo, hv6.hi, hv6.len⟩⟩, (upd_ne nD4).trans (b6 _ _ n4h n4l k4), ?_, by rw [List.length_append]; show _ + 1 ≤ _; omega, fun x hx => ?_⟩
      · rw [upd_same, List.map_append]
        show some (HO.lst _) = some (HO.lst (_ ++ [V.int ((ev0.length + kk : Nat) : Int)]))
        rw [show ((ev0.length + kk : Nat) : Int) = (ev0.length : Int) + (kk : Int) by omega]
      · rcases List.mem_append.mp hx with z | z
        · exact km x z
        · exact ⟨kk, List.mem_singleton.mp z, by omega⟩
    · obtain ⟨ns, b5, ⟨L5, st5, hv5⟩, k4, kD, kl, km⟩ := hP
      refine ⟨p4, D, _, _, rfl, rfl, k4, kD, by rw [List.length_map, sizeLine_eq]; show 2 + _ ≤ _; omega, fun p6 m6 => ?_⟩
      have b6 := b5.new (o := .lst ([V.int (ev0.length : Nat), .int (us.length : Nat)] ++ ns.map V.int)) m6
      have hv6 := hv5.new (o := .lst ([V.int (ev0.length : Nat), .int (us.length : Nat)] ++ ns.map V.int)) m6
      have g6 := upd_same (H := G) (a := p6) (o := .lst ([V.int (ev0.length : Nat), .int (us.length : Nat)] ++ ns.map V.int))
      generalize upd G p6 (.lst ([V.int (ev0.length : Nat), .int (us.length : Nat)] ++ ns.map V.int)) = G6 at b6 hv6 g6 ⊢
      have hE6 := (kT b6).seqT hE3
      dsimp only [gName]
      refine seq_out (t := tFor _ _ _) (fun σ' G' => But h l G3 G' ∧ ∃ L' st', Hv G' h l L' st') (fun N hN => ?_) (fun σ' G8 hR => ?_)
      · refine ⟨_, rfl, _, rfl, _, rfl, tE, us, rfl, .inr hE6, _, _, rfl, rfl, _, _, rfl, _, rfl, _, rfl, tE, us, rfl, .inr hE6, _, _, rfl, rfl, _, _, rfl, by show 2 ≤ sizeLine; decide, fun p7 m7 => ?_⟩
        have cl : ∀ j : Int, (j = (us.length : Int) - 1 ∨ j = (us.length : Int) - 2) → ∃ kk : Nat, (if j > (ev0.length : Int) then j else (ev0.length : Int)) = ((ev0.length + kk : Nat) : Int) ∧ kk ≤ ev1.length := fun j hj => by
          by_cases q : j > (ev0.length : Int)
          · rw [if_pos q]
            exact ⟨(j - ev0.length).toNat, by omega, by omega⟩
          · rw [if_neg q]
            exact ⟨0, by omega, by omega⟩
        obtain ⟨k1, ek1, lk1⟩ := cl _ (.inl rfl)
        obtain ⟨k2, ek2, lk2⟩ := cl _ (.inr rfl)
        dsimp only
        rw [ek1, ek2]
        have b7 := b6.new (o := .lst [V.int ((ev0.length + k1 : Nat) : Int), .int ((ev0.length + k2 : Nat) : Int)]) m7
        have hv7 := hv6.new (o := .lst [V.int ((ev0.length + k1 : Nat) : Int), .int ((ev0.length + k2 : Nat) : Int)]) m7
        have g7 := upd_same (H := G6) (a := p7) (o := .lst [V.int ((ev0.length + k1 : Nat) : Int), .int ((ev0.length + k2 : Nat) : Int)])
        have g67 := (upd_ne (o := .lst [V.int ((ev0.length + k1 : Nat) : Int), .int ((ev0.length + k2 : Nat) : Int)]) (ne_of_none g6 m7)).trans g6
        generalize upd G6 p7 (.lst [V.int ((ev0.length + k1 : Nat) : Int), .int ((ev0.length + k2 : Nat) : Int)]) = G7 at b7 hv7 g7 g67 ⊢
        have hxs : ∀ x ∈ ([V.int (ev0.length : Nat), .int (us.length : Nat)] ++ ns.map V.int ++ [V.int ((ev0.length + k1 : Nat) : Int), .int ((ev0.length + k2 : Nat) : Int)]), ∃ kk : Nat, x = V.int ((ev0.length + kk : Nat) : Int) ∧ kk ≤ ev1.length := fun x hx => by
          rcases List.mem_append.mp hx with z | z
          · rcases List.mem_append.mp z with z | z
            · rcases List.mem_cons.mp z with z | z
              · exact ⟨0, by rw [z]; rfl, Nat.zero_le _⟩
              · exact ⟨ev1.length, by rw [List.mem_singleton.mp z, hul], Nat.le_refl _⟩
            · obtain ⟨y, hy, rfl⟩ := List.mem_map.mp z
              obtain ⟨kk, e, hk⟩ := km y hy
              exact ⟨kk, by rw [e], hk⟩
          · rcases List.mem_cons.mp z with z | z
            · exact ⟨k1, z, lk1⟩
            · exact ⟨k2, List.mem_singleton.mp z, lk2⟩
        have nEh : ∀ {qE : Addr}, G7 qE = none → qE ≠ h := fun e => ne2 hv7.top e
        have nEl : ∀ {qE : Addr}, G7 qE = none → qE ≠ l := fun e => ne2 hv7.bot e
        refine ⟨p6, p7, _, _, rfl, rfl, g67, g7, by rw [List.length_append, List.length_map, sizeLine_eq]; show 2 + _ + 2 ≤ _; omega, fun qE nE => ⟨qE, rfl, ⟨_, sqL upd_same⟩, for_list (D := { nx := N, rt := Q }) (xs := ([V.int (ev0.length : Nat), .int (us.length : Nat)] ++ ns.map V.int ++ [V.int ((ev0.length + k1 : Nat) : Int), .int ((ev0.length + k2 : Nat) : Int)])) (fun i σ G => But h l G3 G ∧ (∃ L' st', Hv G h l L' st') ∧ G qE = some (.lst ([V.int (ev0.length : Nat), .int (us.length : Nat)] ++ ns.map V.int ++ [V.int ((ev0.length + k1 : Nat) : Int), .int ((ev0.length + k2 : Nat) : Int)])) ∧ ∃ y10 y11 : Option V, σ = [some (.ref h), some (.ref p), some (.int (ev0.length : Nat)), some (.ref oq), some (.ref nq), some (.int (ct : Nat)), some (.ref tE), some (.ref c2), some (.int (ev0.length : Nat)), some (.ref p6), y10, y11, none])
          ⟨b7.new nE, ⟨_, _, hv7.new nE⟩, upd_same, _, _, rfl⟩ (fun i σ G _ hP => sqL hP.2.2.1) (fun i x σ G hx hP => ?_) (fun σ G hP => hN _ _ ⟨hP.1, hP.2.1⟩)⟩⟩
        obtain ⟨b9, ⟨L9, st9, hv9⟩, g9, y10, y11, rfl⟩ := hP
        obtain ⟨kk, rfl, hkk⟩ := hxs x (List.mem_of_getElem? hx)
        dsimp only [gName]
        have kt9 := kT b9
        -- found
        refine ⟨_, rfl, _, rfl, _, rfl, _, rfl, _, rfl, _, rfl, _, rfl, slA_to (kt9.seqT hE3) fun G10 q10 s10 h10 => ?_⟩
        rw [cut_mid (by omega) (by omega), Nat.add_sub_cancel_left] at h10
        have d10 := dpAll_take kk (dpAll_drop ev0.length (dpAll_same s10 _ _ (dpAll_keep kt9 _ _ (noList_ev _) du3)))
        rw [← List.map_drop, List.drop_left, ← List.map_take] at d10
        have hv10 := hv9.same s10
        have hc10 : SqT K G10 c2 ((replay cells ev0).map V.int) := same_seqT s10 (kt9.seqT hc2)
        have okT : EvOk (replay cells ev0).length (ev1.take kk) := fun a o m => by
          rw [replay_len]
          exact ok a o (List.mem_append_right _ ((List.take_sublist _ _).mem m))
        have ocb : OctL (replay cells ev0) := replay_oct oc fun a o m => (ok a o (List.mem_append_left _ m)).2
        refine ⟨h, l, c2, q10, L9, st9, replay cells ev0, _, ev1.take kk, rfl, hv10, hc10, h10, d10, ocb, okT, by rw [replay_len]; exact n2, by rw [List.length_take]; omega, fun G11 L11 st11 q11 cs b11 hv11 hq11 lf => ?_⟩
        obtain ⟨c1, c0, cE⟩ := cut kk hkk cs lf
        obtain ⟨rs', J', hor⟩ : ∃ rs', Jr cs rs' ∧ (rs' = old ∨ rs' = new) := c1.elim (fun z => ⟨old, z, .inl rfl⟩) fun z => ⟨new, z, .inr rfl⟩
        have lcs : cs.length = cells.length := by
          rw [lf.len, (look3_ok _ _).l1, replay_len]
        refine ⟨q11, cs, rs', rfl, hq11, lf.oct, by omega, by omega, J', fun G12 t12 s12' d12 => ?_⟩
        have fd : Fd (.tuple (rs'.map recD)) := hor.elim (fun z => z ▸ fo) fun z => z ▸ fn
        refine ⟨t12, _, rfl, d12, fd.f, fd.dp, fd.c, ?_⟩
        have b12 : But h l G3 G12 := ((b9.same s10).trans b11).same s12'
        have hv12 := hv11.same s12'
        have kt12 := kT b12
        have nlr : ∀ l : List (List Int), noList (.tuple (l.map recD)) = true := fun l => by
          rw [noList]
          exact noList_recs l
        have do12 := dp_keep kt12 _ _ (nlr old) do3
        have dn12 := dp_keep kt12 _ _ (nlr new) dn3
        have g12 : G12 qE = some (.lst ([V.int (ev0.length : Nat), .int (us.length : Nat)] ++ ns.map V.int ++ [V.int ((ev0.length + k1 : Nat) : Int), .int ((ev0.length + k2 : Nat) : Int)])) := s12' _ _ (b11 _ _ (nEh nE) (nEl nE) (s10 _ _ g9))
        have hE12 := kt12.seqT hE3
        dsimp only [gName]
        refine seq_out (t := tIfS _ _ _) (fun σ' G' => σ' = [some (.ref h), some (.ref p), some (.int (ev0.length : Nat)), some (.ref oq), some (.ref nq), some (.int (ct : Nat)), some (.ref tE), some (.ref c2), some (.int (ev0.length : Nat)), some (.ref p6), some (.int ((ev0.length + kk : Nat) : Int)), some (.str (PyData.tuple (rs'.map recD)).shown), none] ∧ G' = G12) (fun N2 hN2 => ?_) (fun σ' G' hR => ?_)
        · refine ⟨_, rfl, _, rfl, oq, _, rfl, do12, fo.f, fo.dp, fo.c, rfl, _, rfl, ?_⟩
          rcases hor with z | z
          · rw [z, decide_eq_true rfl]
            exact iteF (iteF (hN2 _ _ ⟨by rw [z]; rfl, rfl⟩))
          · refine ite2 (fun _ => ?_) (fun _ => iteF (hN2 _ _ ⟨rfl, rfl⟩))
            refine ⟨_, rfl, _, rfl, nq, _, rfl, dn12, fn.f, fn.dp, fn.c, rfl, _, rfl, ?_⟩
            rw [z, decide_eq_true rfl]
            exact iteF (hN2 _ _ ⟨by rw [z]; rfl, rfl⟩)
        obtain ⟨rfl, rfl⟩ := hR
        have fin : But h l G3 G' ∧ (∃ L' st', Hv G' h l L' st') ∧ G' qE = some (.lst ([V.int (ev0.length : Nat), .int (us.length : Nat)] ++ ns.map V.int ++ [V.int ((ev0.length + k1 : Nat) : Int), .int ((ev0.length + k2 : Nat) : Int)])) ∧ ∃ y10 y11 : Option V, [some (V.ref h), some (.ref p), some (.int (ev0.length : Nat)), some (.ref oq), some (.ref nq), some (.int (ct : Nat)), some (.ref tE), some (.ref c2), some (.int (ev0.length : Nat)), some (.ref p6), some (.int ((ev0.length + kk : Nat) : Int)), some (.str (PyData.tuple (rs'.map recD)).shown), none] = [some (.ref h), some (.ref p), some (.int (ev0.length : Nat)), some (.ref oq), some (.ref nq), some (.int (ct : Nat)), some (.ref tE), some (.ref c2), some (.int (ev0.length : Nat)), some (.ref p6), y10, y11, none] := ⟨b12, ⟨_, _, hv12⟩, g12, _, _, rfl⟩
        refine ⟨_, rfl, _, rfl, rfl, _, rfl, ite2 (fun hb => ⟨_, rfl, _, rfl, oq, _, rfl, do12, fo.f, fo.dp, fo.c, rfl, _, rfl, ?_⟩) (fun _ => iteF ?_)⟩
        · have e0 : rs' = old := Jr.one J' (c0 (by
            have hb2 := V.int.inj (of_decide_eq_true hb)
            omega))
          rw [e0, decide_eq_true rfl]
          refine iteF ?_
          rw [← e0]
          refine ⟨_, rfl, _, rfl, tE, us, rfl, .inr hE12, rfl, _, rfl, ite2 (fun hb => ⟨_, rfl, _, rfl, nq, _, rfl, dn12, fn.f, fn.dp, fn.c, rfl, _, rfl, ?_⟩) (fun _ => iteF fin)⟩
          have e1 : rs' = new := Jr.one J' (cE (by
            have hb2 := V.int.inj (of_decide_eq_true hb)
            omega))
          rw [e1, decide_eq_true rfl]
          exact iteF (e1 ▸ fin)
        · refine ⟨_, rfl, _, rfl, tE, us, rfl, .inr hE12, rfl, _, rfl, ite2 (fun hb => ⟨_, rfl, _, rfl, nq, _, rfl, dn12, fn.f, fn.dp, fn.c, rfl, _, rfl, ?_⟩) (fun _ => iteF fin)⟩
          have e1 : rs' = new := Jr.one J' (cE (by
            have hb2 := V.int.inj (of_decide_eq_true hb)
            omega))
          rw [e1, decide_eq_true rfl]
          exact iteF (e1 ▸ fin)
      · obtain ⟨b8, L8, st8, hv8⟩ := hR
        exact q _ _ _ (fun bb ob x1 x2 eb => b8 _ _ x1 x2 (s13 _ _ eb)) hv8
end
end K6
namespace Gd
open PySem PySem.Spec PyProof.Rows L2
section
variable {X : Cx} {CX : CXT} {k n : Nat} {f C : Addr} {fd : FuncData} {ps ks : List Str} {sp : Sp} {x m : Str} {p pos apos : Pos} {e o : Expr} {es : List Expr} {kws : List Keyword} {t tk ta : TA} {to : TE} {g : List Value → List Value → List Value} {gV : List V → List V → List V}
/-- o.m(e, ..) that may raise; E: what is wanted then, at these slots -/
def tMethP (C : Addr) (m : Str) (sp : Sp) (E : L2.St → XK) (to : TE) (t : TA) : TE := fun σ H Q => to σ H fun x H1 => ∃ a dx fs, x = .ref a ∧ H1 a = some (.ins C dx fs) ∧ fs.lookup m = none ∧ t σ H1 fun vs H2 => sp (.ref a :: vs) H2 Q (E σ)
theorem pe_methP {E : L2.St → XK} {pl : Sem Bool} (he : PE X o to) (c : Cls X.K C) (hm : Meth X.K C m f) (F : FnOk X.prog X.w X.K X.mg X.base CX k f fd ps sp) (hr : Room k X.A) (hb : Binds X.K fd ps []) (hx : ∀ σ, PassesAt CX X σ (E σ)) (ha : PA X (e :: es) t)
    (hst : starEach (e :: es) X.env = (false, eval e X.env) :: starEach es X.env := by rfl) (hpl : (backTo pos (starEach es X.env)).any (·.1) = false := by rfl)
    (ht : eval (.Call (.Attribute o m apos) (e :: es) [] pos) X.env = (do
      let ov ← eval o X.env
      standAt apos.atName
      let (f, first) ← holding [ov] (getMethod ov m pl)
      callWith pos f first (backTo pos (starEach (e :: es) X.env)) (backToKw pos (keywordEach [] X.env))) := by rfl) :
    PE X (.Call (.Attribute o m apos) (e :: es) [] pos) (tMethP C m sp E to t) := by
  refine ⟨fun pins s σ H Q I h => PySem.W.methodCall_KW (pl := pl) (thn (he.run pins s σ H _ I h) fun u s1 ⟨x, H1, I1, rx, a, dx, fs, ex, ea, l, q⟩ => ?_) ht⟩
  subst ex
  obtain rfl : u = Value.ref a := rx
  refine getmeth_ok I1 ea c hm l (PySem.W.callWith_K (first := [.ref a]) (h₀ := X.base) I.ok.mod.kin hm.kp (thn (ha.run pos pins s1 σ H1 _ I1 q) fun us s2 ⟨vs, H2, I2, r, q2⟩ => ⟨I2.kIn, ?_⟩) hst hpl)
  exact run_fnS (us := .ref a :: us) (vs := .ref a :: vs) F hr hb (hx σ) I2 (.cons rfl r) q2
/-- o.m(k = v, ..) that may raise -/
def tMethKP (C : Addr) (m : Str) (l : Nat) (sp : Sp) (gV : List V → List V → List V) (E : L2.St → XK) (to : TE) (tk : TA) : TE := fun σ H Q => to σ H fun x H1 => ∃ a dx fs, x = .ref a ∧ H1 a = some (.ins C dx fs) ∧ fs.lookup m = none ∧ tk σ H1 fun zs H2 => zs.length = l ∧ sp (gV [x] zs) H2 Q (E σ)
theorem pe_methKP {E : L2.St → XK} {pl : Sem Bool} (he : PE X o to) (c : Cls X.K C) (hm : Meth X.K C m f) (F : FnOk X.prog X.w X.K X.mg X.base CX k f fd ps sp) (hr : Room k X.A) (hb : KBn X.K fd ps 1 ks g gV) (hx : ∀ σ, PassesAt CX X σ (E σ)) (hkw : PK X kws tk)
    (h1 : (backToKw pos (keywordEach kws X.env)).all (·.1.isSome) = true := by rfl) (h2 : (backToKw pos (keywordEach kws X.env)).filterMap (·.1) = ks := by rfl)
    (h4 : ((backTo pos (starEach [] X.env)).any (·.1) || (backToKw pos (keywordEach kws X.env)).any (·.1.isNone)) = false := by rfl)
    (ht : eval (.Call (.Attribute o m apos) [] kws pos) X.env = (do
      let ov ← eval o X.env
      standAt apos.atName
      let (f, first) ← holding [ov] (getMethod ov m pl)
      callWith pos f first (backTo pos (starEach [] X.env)) (backToKw pos (keywordEach kws X.env))) := by rfl) :
    PE X (.Call (.Attribute o m apos) [] kws pos) (tMethKP C m ks.length sp gV E to tk) := by
  refine ⟨fun pins s σ H Q I h => PySem.W.methodCall_KW (pl := pl) (thn (he.run pins s σ H _ I h) fun u s1 ⟨x, H1, I1, rx, a, dx, fs, ex, ea, l, q⟩ => ?_) ht⟩
  subst ex
  obtain rfl : u = Value.ref a := rx
  refine getmeth_ok I1 ea c hm l (PySem.W.callWith_KW0 (first := [.ref a]) (h₀ := X.base) I.ok.mod.kin hm.kp h1 ?_ h4)
  refine thn (hkw.run pos pins s1 σ H1 _ I1 q) fun ws s2 ⟨zs, H2, I2, rz, l, q⟩ => ⟨I2.kIn, ?_⟩
  rw [h2]
  refine wpAny_call (codeAny_mono (F.run X.A X.stack s2 H2 ⟨[.ref a], ks.zip ws⟩ (g [.ref a] ws) (gV [.ref a] zs) Q (E σ) hr I2.env0 (hb.to s2 [.ref a] ws I2.kIn rfl (rz.length.symm.trans l)) (hb.rel (.cons (show RelV (V.ref a) (Value.ref a) from rfl) .nil) rz) q) fun r s' hq => ?_)
  cases r with
  | error e => exact hx σ pins H2 s2 e s' I2 hq
  | ok fl =>
    cases fl with
    | ret u => exact I2.after hq
    | next => exact False.elim hq
    | brk => exact False.elim hq
    | cont => exact False.elim hq
end
end Gd
namespace K6
open PySem PySem.Spec PyProof.Rows L2 Gd
/-- what is told of the errors -/
structure ETxt (K : PySem.W.Frag) (mg : Str → Option Value) (CR CB CD : Addr) : Prop where
  gD : mg "DeskError" = some (.ref CD)
  exR : PySem.W.exmOne K (.ref CR) (.ref CD) = some true
  isRB : PySem.W.kitOne K (.ref CR) (.ref CB) = some false
  isRR : PySem.W.kitOne K (.ref CR) (.ref CR) = some true
  cR : ExcC K CR
  xR : XfC K CR
  exB : PySem.W.exmOne K (.ref CB) (.ref CD) = some true
  isBB : PySem.W.kitOne K (.ref CB) (.ref CB) = some true
  isBR : PySem.W.kitOne K (.ref CB) (.ref CR) = some false
  cB : ExcC K CB
  xB : XfC K CB
section
variable {P : Program} {w : World} {K : PySem.W.Frag} {mg : Str → Option Value} {base : Heap}
/-! ### _law_call -/
def spCall (K : PySem.W.Frag) (C CJ : Addr) : Sp := fun vs H Q _ => ∃ (h l j jdx p dx c dl de sq pq : Addr) (L : List Int) (st : Int) (cells pres : List Int) (evs : List Ev) (b z : Nat) (rs ss : List (List Int)) (r : List Int) (rn : Bool), vs = [.ref h, .ref j, .bl rn, .ref sq, .ref pq] ∧ Hv H h l L st ∧ JAt K C CJ H j jdx p dx c dl de cells pres evs b z rs ∧
  dl ≠ h ∧ dl ≠ l ∧ de ≠ h ∧ de ≠ l ∧ Dp K H (.ref sq) (.tuple (ss.map recD)) ∧ (∀ r ∈ ss, OctL r) ∧ sizeOf3 ss ≤ 30000 ∧ SqT K H pq (r.map V.int) ∧ OctL r ∧ r.length ≤ 30000 ∧ evs.length ≤ 900000 ∧
  (rn = true → (bbeg pres.length (1 - b) + sizeOf3 ss ≤ bend pres.length (1 - b) → ∀ G L' st' t, FrmU [h, l, j, dl, de] H G → Hv G h l L' st' → JAt K C CJ G j jdx p dx c dl de cells (replay pres (twoEv (rPuts pres.length b ss) 0 ((1 - b : Nat) : Int))) (evs ++ twoEv (rPuts pres.length b ss) 0 ((1 - b : Nat) : Int)) (1 - b) (bbeg pres.length (1 - b) + sizeOf3 ss) ss → G t = some (.lst [.non]) → Q (.ref t) G) ∧
    (¬ bbeg pres.length (1 - b) + sizeOf3 ss ≤ bend pres.length (1 - b) → ∀ G L' st', But h l H G → Hv G h l L' st' → Q (.str "room") G)) ∧
  (rn = false → (z + r.length + 3 ≤ bend pres.length b → ∀ G L' st' t, FrmU [h, l, j, dl, de] H G → Hv G h l L' st' → JAt K C CJ G j jdx p dx c dl de cells (replay pres (twoEv (wPuts z r (bend pres.length b)) z 1)) (evs ++ twoEv (wPuts z r (bend pres.length b)) z 1) b (z + r.length + 3) (rs ++ [r]) → G t = some (.lst [.non]) → Q (.ref t) G) ∧
    (¬ z + r.length + 3 ≤ bend pres.length b → ∀ G L' st', But h l H G → Hv G h l L' st' → Q (.str "room") G))
theorem ok_call {f C CJ CR CB CD fD fR mW mN : Addr} {fd fdD dW dN : FuncData} {k : Nat} (F : Fun K "_law_call" "_law_call" s__law_call f fd) (FD : Fun K "_law_draw" "_law_draw" s__law_draw fD fdD) (bD : Binds K fdD ["heap", "many"] []) (gD : mg "_law_draw" = some (.ref fD)) (GD : FnOk P w K mg base CX0 k fD fdD ["heap", "many"] spDraw)
    (TJ : JTxt K mg CJ) (TR : WTxt K mg "Refused" CR fR) (gB : mg "Broken" = some (.ref CB)) (TE : ETxt K mg CR CB CD) (MW : Meth K CJ "write" mW) (bW : Binds K dW ["self", "record"] []) (kW : KBn K dW ["self", "record"] 1 ["record"] (· ++ ·) (· ++ ·)) (HW : FnOk P w K mg base (L2.CX P w) k mW dW ["self", "record"] (spWrite K C CJ CR))
    (MN : Meth K CJ "renew" mN) (bN : Binds K dN ["self", "records"] []) (kN : KBn K dN ["self", "records"] 1 ["records"] (· ++ ·) (· ++ ·)) (HN : FnOk P w K mg base (L2.CX P w) k mN dN ["self", "records"] (spRenew K C CJ CR)) (mI : mg "isinstance" = none) :
    FnOk P w K mg base CX0 (k + 1) f fd ["heap", "journal", "renews", "records", "part"] (spCall K C CJ) := by
  refine F.ok sc__law_call (fun vs H Q E h => ?_) (fun cdv A outer s H vs Q E hr h => ?_)
  · obtain ⟨h, l, j, jdx, p, dx, c, dl, de, sq, pq, L, st, cells, pres, evs, b, z, rs, ss, r, rn, rfl, _⟩ := h
    rfl
  · obtain ⟨h, l, j, jdx, p, dx, c, dl, de, sq, pq, L, st, cells, pres, evs, b, z, rs, ss, r, rn, rfl, hv, J, x1, x2, x3, x4, hs, os, ls, hp, op, lp, n9, qN, qW⟩ := h
    refine blk_cons (ps_try_as (i := 5) rfl rfl sc__law_call.nd rfl rfl ⟨rfl, by decide, .inl TE.gD⟩ takes0
      (fun W pn xe tk _ => pss_cons (ps_if (pt_val (pv 2)) (pss_one (ps_ret (pe_lst (pa_cons (pe_ifExp (pt_cmpR op_eq (pe_call GD hr (by rfl) gD FD.kp bD .nil pass0 (pa_cons (pv 0) (pa_cons pe_int pa_nil))) pe_int (nomark _)) (pe_methP (E := fun σ => WE W σ) (pv 1) TJ.cl MN HN hr bN (fun σ => passAt tk σ) (pa_cons (pv 3) pa_nil))
            (pe_methKP (E := fun σ => WE W σ) (pv 1) TJ.cl MN HN hr kN (fun σ => passAt tk σ) (pk_cons (pv 3) pk_nil))) pa_nil)))) pss_nil)
        (pss_one (ps_ret (pe_lst (pa_cons (pe_ifExp (pt_cmpR op_eq (pe_call GD hr (by rfl) gD FD.kp bD .nil pass0 (pa_cons (pv 0) (pa_cons pe_int pa_nil))) pe_int (nomark _)) (pe_methP (E := fun σ => WE W σ) (pv 1) TJ.cl MW HW hr bW (fun σ => passAt tk σ) (pa_cons (pv 4) pa_nil))
            (pe_methKP (E := fun σ => WE W σ) (pv 1) TJ.cl MW HW hr kW (fun σ => passAt tk σ) (pk_cons (pv 4) pk_nil))) pa_nil)))))
      (fun a oe cls d pn hz hf => pss_cons (ps_if (PW.pt (pw_or (pt_val (pe_callB (call_isE3 TE.cR hz hf) (by rfl) mI (by decide +kernel) (pa_cons (pv 5) (pa_cons (pe_glob (v := .ref CB) (by rfl) gB rfl) pa_nil))))
          (pw_or (pt_not (pt_val (pe_callB (call_isE3 TE.cR hz hf) (by rfl) mI (by decide +kernel) (pa_cons (pv 5) (pa_cons (pe_glob (v := .ref CR) (by rfl) TR.gR rfl) pa_nil)))))
          (pw_or1 (pt_cmpR op_ne (pe_xf TE.xR TR.nW hz hf (pv 5)) pe_str (nomark _)))))) (pss_one (ps_ret pe_str)) pss_nil) (pss_one (ps_ret pe_str)))) ?_
    refine blk_nil ?_
    have jh : j ∉ [h, l] := fun m => by
      rcases List.mem_cons.mp m with m | m
      · have := J.obj; rw [m, hv.top] at this; cases this
      · have := J.obj; rw [List.mem_singleton.mp m, hv.bot] at this; cases this
    have ph : p ∉ [h, l] := fun m => by
      rcases List.mem_cons.mp m with m | m
      · have := J.dk.obj; rw [m, hv.top] at this; cases this
      · have := J.dk.obj; rw [List.mem_singleton.mp m, hv.bot] at this; cases this
    have nh1 : h ∉ [j, dl, de] := by
      have : h ≠ j := fun e => jh (by simp [e])
      simp [this, x1.symm, x3.symm]
    have nl1 : l ∉ [j, dl, de] := by
      have : l ≠ j := fun e => jh (by simp [e])
      simp [this, x2.symm, x4.symm]
    refine ⟨_, rfl, _, rfl, ?_⟩
    cases rn with
    | true =>
      refine iteT ⟨_, rfl, h, l, L, st, 2, rfl, hv, by decide, by decide, fun G1 L1 st1 kn b1 hv1 k0 k1 => ⟨rfl, _, rfl, ?_⟩⟩
      have f1 : FrmU [h, l] H G1 := .of (.but hv b1 (by simp) (by simp))
      have J1 := J.frmU f1 jh ph (by simp [x1, x2]) (by simp [x3, x4])
      have kt1 := KeepT.but hv b1
      have fr1 : ∀ {G : Hp}, FrmU [j, dl, de] G1 G → FrmU [h, l, j, dl, de] H G := fun f => (f1.mono (by simp)).trans (f.mono (by simp))
      refine ite2 (fun _ => ?_) (fun _ => ?_)
      · refine ⟨_, rfl, j, jdx, _, rfl, J1.obj, jf_no _ _ _ (by decide +kernel) (by decide +kernel) (by decide +kernel), _, rfl, j, jdx, p, dx, c, dl, de, sq, cells, pres, evs, b, z, rs, ss, rfl, J1, dp_keep kt1 _ _ (by rw [noList]; exact noList_recs ss) hs, os, ls, n9, fun fit G f J2 => ?_, fun nf d G nd sm gd => ?_⟩
        · refine ⟨by show 1 ≤ sizeLine; decide, fun t nt => ?_⟩
          exact ((qN rfl).1 fit _ L1 st1 t (fr1 (f.trans (.same (same_new nt)))) ((hv1.frmU f nh1 nl1).new nt) (J2.same (same_new nt)) upd_same)
        · refine ⟨true, TE.exR, fun _ a na => ?_, fun z => nomatch z⟩
          refine ⟨_, rfl, rfl, .ref CB, _, false, rfl, .own CB, TE.isRB, .inr ⟨d, _, rfl, gd, by decide +kernel⟩, _, rfl, iteF ?_⟩
          refine ⟨_, rfl, rfl, .ref CR, _, true, rfl, .own CR, TE.isRR, .inr ⟨d, _, rfl, gd, by decide +kernel⟩, _, rfl, iteF ?_⟩
          refine ⟨_, rfl, rfl, rfl, d, _, .str "room", rfl, gd, by decide +kernel, rfl, _, rfl, ?_⟩
          rw [decide_eq_true rfl]
          refine iteF ?_
          exact (qN rfl).2 nf _ L1 st1 (b1.same sm) (hv1.same sm)
      · refine ⟨_, rfl, j, jdx, _, rfl, J1.obj, jf_no _ _ _ (by decide +kernel) (by decide +kernel) (by decide +kernel), _, rfl, rfl, j, jdx, p, dx, c, dl, de, sq, cells, pres, evs, b, z, rs, ss, rfl, J1, dp_keep kt1 _ _ (by rw [noList]; exact noList_recs ss) hs, os, ls, n9, fun fit G f J2 => ?_, fun nf d G nd sm gd => ?_⟩
        · refine ⟨by show 1 ≤ sizeLine; decide, fun t nt => ?_⟩
          exact ((qN rfl).1 fit _ L1 st1 t (fr1 (f.trans (.same (same_new nt)))) ((hv1.frmU f nh1 nl1).new nt) (J2.same (same_new nt)) upd_same)
        · refine ⟨true, TE.exR, fun _ a na => ?_, fun z => nomatch z⟩
          refine ⟨_, rfl, rfl, .ref CB, _, false, rfl, .own CB, TE.isRB, .inr ⟨d, _, rfl, gd, by decide +kernel⟩, _, rfl, iteF ?_⟩
          refine ⟨_, rfl, rfl, .ref CR, _, true, rfl, .own CR, TE.isRR, .inr ⟨d, _, rfl, gd, by decide +kernel⟩, _, rfl, iteF ?_⟩
          refine ⟨_, rfl, rfl, rfl, d, _, .str "room", rfl, gd, by decide +kernel, rfl, _, rfl, ?_⟩
          rw [decide_eq_true rfl]
          refine iteF ?_
          exact (qN rfl).2 nf _ L1 st1 (b1.same sm) (hv1.same sm)
    | false =>
      refine iteF ⟨_, rfl, h, l, L, st, 2, rfl, hv, by decide, by decide, fun G1 L1 st1 kn b1 hv1 k0 k1 => ⟨rfl, _, rfl, ?_⟩⟩
      have f1 : FrmU [h, l] H G1 := .of (.but hv b1 (by simp) (by simp))
      have J1 := J.frmU f1 jh ph (by simp [x1, x2]) (by simp [x3, x4])
      have kt1 := KeepT.but hv b1
      have fr1 : ∀ {G : Hp}, FrmU [j, dl, de] G1 G → FrmU [h, l, j, dl, de] H G := fun f => (f1.mono (by simp)).trans (f.mono (by simp))
      refine ite2 (fun _ => ?_) (fun _ => ?_)
      · refine ⟨_, rfl, j, jdx, _, rfl, J1.obj, jf_no _ _ _ (by decide +kernel) (by decide +kernel) (by decide +kernel), _, rfl, j, jdx, p, dx, c, dl, de, pq, cells, pres, evs, b, z, rs, r, rfl, J1, kt1.seqT hp, op, lp, n9, fun fit G f J2 => ?_, fun nf d G nd sm gd => ?_⟩
        · refine ⟨by show 1 ≤ sizeLine; decide, fun t nt => ?_⟩
          exact ((qW rfl).1 fit _ L1 st1 t (fr1 (f.trans (.same (same_new nt)))) ((hv1.frmU f nh1 nl1).new nt) (J2.same (same_new nt)) upd_same)
        · refine ⟨true, TE.exR, fun _ a na => ?_, fun z => nomatch z⟩
          refine ⟨_, rfl, rfl, .ref CB, _, false, rfl, .own CB, TE.isRB, .inr ⟨d, _, rfl, gd, by decide +kernel⟩, _, rfl, iteF ?_⟩
          refine ⟨_, rfl, rfl, .ref CR, _, true, rfl, .own CR, TE.isRR, .inr ⟨d, _, rfl, gd, by decide +kernel⟩, _, rfl, iteF ?_⟩
          refine ⟨_, rfl, rfl, rfl, d, _, .str "room", rfl, gd, by decide +kernel, rfl, _, rfl, ?_⟩
          rw [decide_eq_true rfl]
          refine iteF ?_
          exact (qW rfl).2 nf _ L1 st1 (b1.same sm) (hv1.same sm)
      · refine ⟨_, rfl, j, jdx, _, rfl, J1.obj, jf_no _ _ _ (by decide +kernel) (by decide +kernel) (by decide +kernel), _, rfl, rfl, j, jdx, p, dx, c, dl, de, pq, cells, pres, evs, b, z, rs, r, rfl, J1, kt1.seqT hp, op, lp, n9, fun fit G f J2 => ?_, fun nf d G nd sm gd => ?_⟩
        · refine ⟨by show 1 ≤ sizeLine; decide, fun t nt => ?_⟩
          exact ((qW rfl).1 fit _ L1 st1 t (fr1 (f.trans (.same (same_new nt)))) ((hv1.frmU f nh1 nl1).new nt) (J2.same (same_new nt)) upd_same)
        · refine ⟨true, TE.exR, fun _ a na => ?_, fun z => nomatch z⟩
          refine ⟨_, rfl, rfl, .ref CB, _, false, rfl, .own CB, TE.isRB, .inr ⟨d, _, rfl, gd, by decide +kernel⟩, _, rfl, iteF ?_⟩
          refine ⟨_, rfl, rfl, .ref CR, _, true, rfl, .own CR, TE.isRR, .inr ⟨d, _, rfl, gd, by decide +kernel⟩, _, rfl, iteF ?_⟩
          refine ⟨_, rfl, rfl, rfl, d, _, .str "room", rfl, gd, by decide +kernel, rfl, _, rfl, ?_⟩
          rw [decide_eq_true rfl]
          refine iteF ?_
          exact (qW rfl).2 nf _ L1 st1 (b1.same sm) (hv1.same sm)
end
end K6
namespace K6
open PySem PySem.Spec PyProof.Rows L2 Gd
theorem size_app (a b : List (List Int)) : sizeOf3 (a ++ b) = sizeOf3 a + sizeOf3 b := by
  unfold sizeOf3
  rw [List.map_append, List.sum_append]
theorem size_drop (ss : List (List Int)) (i : Nat) : sizeOf3 (ss.drop i) ≤ sizeOf3 ss := by
  have e : sizeOf3 ss = sizeOf3 (ss.take i) + sizeOf3 (ss.drop i) := by rw [← size_app, List.take_append_drop]
  omega
theorem size_le {ss : List (List Int)} {m : Nat} (h : ∀ r ∈ ss, r.length ≤ m) : sizeOf3 ss ≤ (m + 3) * ss.length := by
  induction ss with
  | nil => exact Nat.zero_le _
  | cons x t ih =>
    have e : sizeOf3 (x :: t) = x.length + 3 + sizeOf3 t := rfl
    have := ih fun r hr => h r (List.mem_cons_of_mem _ hr)
    have := h x List.mem_cons_self
    rw [e, List.length_cons, Nat.mul_succ]
    omega
theorem dpAll_app {K : PySem.W.Frag} {H : Hp} : ∀ {us : List V} {ds : List PyData} {ws : List V} {es : List PyData}, DpAll K H us ds → DpAll K H ws es → DpAll K H (us ++ ws) (ds ++ es)
  | _, _, _, _, .nil, h => h
  | _, _, _, _, .cons a t, h => .cons a (dpAll_app t h)
theorem evok_two {n i stop x : Nat} {os : List Int} {v : Int} (h1 : i + os.length ≤ stop) (h2 : stop ≤ n) (h3 : x < n) (ho : OctL os) (hv : Oct v) : EvOk n (twoEv (chainPuts i os stop) x v) := fun a o m => by
  refine ⟨?_, twoEv_oct (chainPuts_oct h1 ho) hv a o m⟩
  unfold twoEv at m
  rcases List.mem_append.mp m with z | z
  · obtain ⟨a', o', e, _, h, _⟩ := chainPuts_mem z h1
    cases e
    omega
  · simp at z
    omega
theorem evok_app {n : Nat} {a b : List Ev} (h : EvOk n a) (g : EvOk n b) : EvOk n (a ++ b) := fun x o m => (List.mem_append.mp m).elim (h x o) (g x o)
theorem flushed_app {a b : List Ev} (h : Flushed b) (n : b ≠ []) : Flushed (a ++ b) := by
  rcases h with h | ⟨r, h⟩
  · exact absurd h n
  · exact .inr ⟨a ++ r, by rw [h, List.append_assoc]⟩
theorem twoEv_ne (P : List Ev) (x : Nat) (v : Int) : twoEv P x v ≠ [] := fun h => by
  have := congrArg List.length h
  rw [twoEv_len] at this
  cases this
theorem cuts_nil {now : List Int} {rs : List (List Int)} (h : Jr now rs) : CutsOk now [] rs rs := fun k hk cs lf => by
  have e : ([] : List Ev).take k = [] := List.take_nil
  rw [e] at lf
  have : cs = now := List.ext_getElem? fun a => lf.eq a List.not_mem_nil
  rw [this]
  exact ⟨.inl h, fun _ => h, fun _ => h⟩
section
variable {P : Program} {w : World} {K : PySem.W.Frag} {mg : Str → Option Value} {base : Heap}
/-! ### _law_turn -/
def spTurn (K : PySem.W.Frag) (C CJ : Addr) : Sp := fun vs H Q _ => ∃ (h l j jdx p dx c dl de oq : Addr) (L : List Int) (st : Int) (cells : List Int) (evs : List Ev) (b z : Nat) (rs : List (List Int)) (lg : Bool) (ct : Nat), vs = [.ref h, .ref j, .ref oq, .bl lg, .int (ct : Nat)] ∧ Hv H h l L st ∧ JAt K C CJ H j jdx p dx c dl de cells (replay cells evs) evs b z rs ∧
  dl ≠ h ∧ dl ≠ l ∧ de ≠ h ∧ de ≠ l ∧ OctL cells ∧ Flushed evs ∧ EvOk cells.length evs ∧ evs.length ≤ 600000 ∧ ct ≤ 100 ∧ Dp K H (.ref oq) (.tuple (rs.map recD)) ∧
  ∀ (G : Hp) (L' : List Int) (st' : Int) (ev1 : List Ev) (b' z' : Nat) (ss : List (List Int)) (q : Addr), FrmU [h, l, j, dl, de] H G → Hv G h l L' st' → JAt K C CJ G j jdx p dx c dl de cells (replay cells (evs ++ ev1)) (evs ++ ev1) b' z' ss → Flushed (evs ++ ev1) → EvOk cells.length (evs ++ ev1) → ev1.length ≤ 30000 → Dp K G (.ref q) (.tuple (ss.map recD)) → CutsOk (replay cells evs) ev1 rs ss → Q (.ref q) G
theorem ok_turn {f C CJ fD fRc fCl fCu mE mR : Addr} {fd fdD fdRc fdCl fdCu dE dR : FuncData} {k : Nat} (F : Fun K "_law_turn" "_law_turn" s__law_turn f fd) (FD : Fun K "_law_draw" "_law_draw" s__law_draw fD fdD) (bD : Binds K fdD ["heap", "many"] []) (gD : mg "_law_draw" = some (.ref fD)) (GD : FnOk P w K mg base CX0 k fD fdD ["heap", "many"] spDraw)
    (FRc : Fun K "_law_record" "_law_record" s__law_record fRc fdRc) (bRc : Binds K fdRc ["heap", "long"] []) (gRc : mg "_law_record" = some (.ref fRc)) (GRc : FnOk P w K mg base CX0 k fRc fdRc ["heap", "long"] (spRecord K))
    (FCl : Fun K "_law_call" "_law_call" s__law_call fCl fdCl) (bCl : Binds K fdCl ["heap", "journal", "renews", "records", "part"] []) (gCl : mg "_law_call" = some (.ref fCl)) (GCl : FnOk P w K mg base CX0 k fCl fdCl ["heap", "journal", "renews", "records", "part"] (spCall K C CJ))
    (FCu : Fun K "_law_cuts_right" "_law_cuts_right" s__law_cuts_right fCu fdCu) (bCu : Binds K fdCu ["heap", "disk", "begun", "old", "new", "cuts"] []) (gCu : mg "_law_cuts_right" = some (.ref fCu)) (GCu : FnG P w K mg base k fCu fdCu ["heap", "disk", "begun", "old", "new", "cuts"] (spCuts K C))
    (T : DTxt K mg C) (TJ : JTxt K mg CJ) (ME : Meth K C "events" mE) (bE : Binds K dE ["self"] []) (HE : FnOk P w K mg base CX0 k mE dE ["self"] (spEvents K C)) (MR : Meth K CJ "records" mR) (bR : Binds K dR ["self"] []) (HR : FnOk P w K mg base CX0 k mR dR ["self"] (spRecs K C CJ))
    (ml : mg "len" = none) (mr : mg "range" = none) (mt : mg "tuple" = none) (mp : mg "repr" = none) (ms : mg "sum" = none) :
    FnG P w K mg base (k + 1) f fd ["heap", "journal", "old", "long", "cuts"] (spTurn K C CJ) := by
  refine okG F sc__law_turn (fun vs H Q E h => ?_) (fun cdv A outer s H vs Q E hrg h => ?_)
  · obtain ⟨h, l, j, jdx, p, dx, c, dl, de, oq, L, st, cells, evs, b, z, rs, lg, ct, rfl, _⟩ := h
    rfl
  · obtain ⟨h, l, j, jdx, p, dx, c, dl, de, oq, L, st, cells, evs, b, z, rs, lg, ct, rfl, hv, J, x1, x2, x3, x4, oc, fl, ok, n9, hct, do_, q⟩ := h
    have hr := hrg.rm
    have hgd := hrg.gd
    refine blk_cons (ps_par (i := 5) (j := 6) rfl sc__law_turn.nd rfl rfl (by decide) rfl rfl (pa_cons (pe_fld (pv 1) rfl) (pa_cons (pe_cmpR op_eq (pe_call GD hr (by rfl) gD FD.kp bD .nil pass0 (pa_cons (pv 0) (pa_cons pe_int pa_nil))) pe_int (nomark _)) pa_nil)) (by rfl)) ?_
    refine blk_cons (ps_par (i := 7) (j := 8) rfl sc__law_turn.nd rfl rfl (by decide) rfl rfl (pa_cons (pe_call GRc hr (by rfl) gRc FRc.kp bRc .nil pass0 (pa_cons (pv 0) (pa_cons (pv 3) pa_nil))) (pa_cons (pe_callB call_len_seq (by rfl) ml PySem.boot_len (pa_cons (pe_meth0 (pe_fld (pv 1) rfl) T.cl ME HE hr bE .nil pass0) pa_nil)) pa_nil)) (by rfl)) ?_
    refine blk_cons (ps_set (i := 9) sc__law_turn.nd rfl (.inl rfl) (pe_ifExp (pt_val (pv 6)) (pe_callTy call_tuple_of (by rfl) mt (by decide +kernel) (pa_cons (pe_lc (own := [("at", 11)]) (g := gName 11) (tt := tYes) rfl sc__law_turn.nd (pi_range1 (by rfl) mr (pa_cons (pe_call GD hr (by rfl) gD FD.kp bD .nil pass0 (pa_cons (pv 0) (pa_cons pe_int pa_nil))) pa_nil)) (blkOk_by (own := [("at", 11)]) (N := n__law_turn) (sc := defScope s__law_turn) (by decide +kernel))
        (fun _ _ _ _ _ => pg_name (i := 11) sc__law_turn.nd rfl (Or.inl rfl)) (fun _ _ _ _ _ => pts_nil) (fun _ _ _ _ _ => pe_call GRc hr (by rfl) gRc FRc.kp bRc .nil pass0 (pa_cons (pv 0) (pa_cons (pv 3) pa_nil)))) pa_nil))
      (pe_op (r := rCatA K) op_catA (pv 2) (pe_tup (pa_cons (pv 7) pa_nil))))) ?_
    refine blk_cons (ps_if (PW.pt (pw_and (pt_val (pv 6)) (pw_and1 (pt_cmpR op_eq (pe_call GD hr (by rfl) gD FD.kp bD .nil pass0 (pa_cons (pv 0) (pa_cons pe_int pa_nil))) pe_int (nomark _)))))
      (pss_one (ps_set (i := 9) sc__law_turn.nd rfl (.inl rfl) (pe_op (r := rCatA K) op_catA (pe_slice (r := rSlA K) sl_tupA (pv 2) (po_some (pe_call GD hr (by rfl) gD FD.kp bD .nil pass0 (pa_cons (pv 0) (pa_cons (pe_op op_add (pe_callB call_len_seq (by rfl) ml PySem.boot_len (pa_cons (pv 2) pa_nil)) pe_int) pa_nil)))) po_none) (pe_slice (r := rSlA K) sl_tupA (pv 9) po_none (po_some pe_int))))) pss_nil) ?_
    refine blk_cons (ps_set (i := 10) sc__law_turn.nd rfl (.inl rfl) (pe_call GCl hr (by rfl) gCl FCl.kp bCl .nil pass0 (pa_cons (pv 0) (pa_cons (pv 1) (pa_cons (pv 6) (pa_cons (pv 9) (pa_cons (pv 7) pa_nil))))))) ?_
    refine blk_cons (ps_if (pt_cmpR (op_eqD hr.units) (pv 10) pe_str (nomark _))
      (pss_cons (ps_if (pt_cmpR op_le (pe_callB (cr_sum rfl) (by rfl) ms (by decide +kernel) (pa_cons (pe_lc (own := [("record", 12)]) (g := gName 12) (tt := tYes) rfl sc__law_turn.nd (pi_tup (pv 9)) (blkOk_by (own := [("record", 12)]) (N := n__law_turn) (sc := defScope s__law_turn) (by decide +kernel))
          (fun _ _ _ _ _ => pg_name (i := 12) sc__law_turn.nd rfl (Or.inl rfl)) (fun _ _ _ _ _ => pts_nil) (fun _ _ _ _ _ => pe_op op_add (pe_callB (r := rLenQ K) call_len_seq (by rfl) ml PySem.boot_len (pa_cons (pv 12) pa_nil)) pe_int)) pa_nil))
        (pe_op op_sub (pe_op op_fdiv (pe_callB call_len_seq (by rfl) ml PySem.boot_len (pa_cons (pe_fld (pv 5) rfl) pa_nil)) pe_int) pe_int) (nomark _)) (pss_one (ps_ret pe_non)) pss_nil)
      (pss_one (ps_ret (pe_ifExp (PW.pt (pw_and (pt_cmpR op_eq (pe_callB call_len_seq (by rfl) ml PySem.boot_len (pa_cons (pe_meth0 (pv 5) T.cl ME HE hr bE .nil pass0) pa_nil)) (pv 8) (nomark _)) (pw_and1 (pt_cmpR op_eq (pe_callB (call_reprF hgd hr.units) (by rfl) mp (by decide +kernel) (pa_cons (pe_meth0 (pv 1) TJ.cl MR HR hr bR .nil pass0) pa_nil)) (pe_callB (call_reprF hgd hr.units) (by rfl) mp (by decide +kernel) (pa_cons (pv 2) pa_nil)) (nomark _))))) (pv 2) pe_non)))) pss_nil) ?_
    refine blk_cons (ps_if (PW.pt (pw_or (pt_cmpR (op_neD hr.units) (pv 10) (pe_lst (pa_cons pe_non pa_nil)) (nomark _)) (pw_or1 (pt_cmpR op_ne (pe_callB (call_reprF hgd hr.units) (by rfl) mp (by decide +kernel) (pa_cons (pe_meth0 (pv 1) TJ.cl MR HR hr bR .nil pass0) pa_nil)) (pe_callB (call_reprF hgd hr.units) (by rfl) mp (by decide +kernel) (pa_cons (pv 9) pa_nil)) (nomark _))))) (pss_one (ps_ret pe_non)) pss_nil) ?_
    refine blk_cons (ps_ret (pe_ifExp (pt_val (pe_callG (E := E0) GCu hrg (by rfl) gCu FCu.kp bCu .nil (pa_cons (pv 0) (pa_cons (pv 5) (pa_cons (pv 8) (pa_cons (pv 2) (pa_cons (pv 9) (pa_cons (pv 4) pa_nil)))))))) (pv 9) pe_non)) ?_
    refine blk_nil ?_
    have lj : (replay cells evs).length = cells.length := replay_len _ _
    have n1 : 1 ≤ cells.length := by rw [← replay_len cells evs]; exact J.n1
    have n2 : cells.length ≤ 20000 := by rw [← replay_len cells evs]; exact J.n2
    have hjr : Jr (replay cells evs) rs := ⟨b, z, J.st⟩
    obtain ⟨ors, srs⟩ := jr_recs J.oc J.n1 hjr
    rw [replay_len] at srs
    have szr : sizeOf3 rs ≤ (cells.length - 1) / 2 ∧ z = bbeg cells.length b + sizeOf3 rs := by
      have c1 := J.st.ch
      rw [replay_len] at c1
      have c2 := chain_le c1
      have c3 := chain_size (by rw [replay_len]; exact bend_le n1 J.st.b1) c1
      rw [bend_eq] at c2
      omega
    have lrs : 3 * rs.length ≤ sizeOf3 rs := by
      have : ∀ l : List (List Int), 3 * l.length ≤ sizeOf3 l := fun l => by
        induction l with
        | nil => exact Nat.le_refl _
        | cons x t ih =>
          have e : sizeOf3 (x :: t) = x.length + 3 + sizeOf3 t := rfl
          rw [List.length_cons]
          omega
      exact this rs
    have frd : Fd (.tuple (rs.map recD)) := recs_fd ors (by omega)
    have nlr : ∀ l : List (List Int), noList (.tuple (l.map recD)) = true := fun l => by
      rw [noList]
      exact noList_recs l
    have jh : j ∉ [h, l] := fun m => by
      rcases List.mem_cons.mp m with m | m
      · have := J.obj; rw [m, hv.top] at this; cases this
      · have := J.obj; rw [List.mem_singleton.mp m, hv.bot] at this; cases this
    have ph : p ∉ [h, l] := fun m => by
      rcases List.mem_cons.mp m with m | m
      · have := J.dk.obj; rw [m, hv.top] at this; cases this
      · have := J.dk.obj; rw [List.mem_singleton.mp m, hv.bot] at this; cases this
    have Jb : ∀ {G : Hp}, But h l H G → JAt K C CJ G j jdx p dx c dl de cells (replay cells evs) evs b z rs := fun bb => J.frmU (.of (.but (S := [h, l]) hv bb (by simp) (by simp))) jh ph (by simp [x1, x2]) (by simp [x3, x4])
    -- disk, renews
    refine ⟨_, rfl, j, CJ, jdx, _, _, rfl, J.obj, TJ.cl, TJ.nD, jf_ld _ _ _, _, rfl, h, l, L, st, 3, rfl, hv, by decide, by decide, fun G1 L1 st1 kn b1 hv1 k0 k1 => ⟨rfl, _, _, rfl, ?_⟩⟩
    generalize hrn : decide (V.int kn = V.int 0) = rn
    -- part, begun
    refine ⟨_, rfl, _, rfl, h, l, L1, st1, lg, rfl, hv1, fun G2 L2 st2 pq r b2 hv2 hp2 op lp => ?_⟩
    have J2 := Jb (b1.trans b2)
    refine ⟨_, rfl, j, CJ, jdx, _, _, rfl, J2.obj, TJ.cl, TJ.nD, jf_ld _ _ _, p, dx, _, rfl, J2.dk.obj, df_no _ _ _ (by decide +kernel) (by decide +kernel) (by decide +kernel), p, dx, c, dl, de, cells, _, _, rfl, J2.dk, fun G3 tE us s3 hE du => ?_⟩
    refine ⟨tE, us, rfl, .inr hE, _, _, rfl, ?_⟩
    have hul : us.length = evs.length := by rw [dpAll_len du, List.length_map]
    rw [hul]
    have b3 := (b1.trans b2).same s3
    have hv3 := hv2.same s3
    have hp3 := same_seqT s3 hp2
    have do3 := dp_keep (KeepT.but hv b3) _ _ (nlr rs) do_
    obtain ⟨_, ous, eo, hous, duo⟩ := tup_inv do3
    cases eo
    have lous : ous.length = rs.length := by rw [dpAll_len duo, List.length_map]
    dsimp only [gName]
    refine seq_out (t := tAsg _ _) (fun σ' G' => ∃ (sq : Addr) (ss : List (List Int)) (L' : List Int) (st' : Int), σ' = [some (.ref h), some (.ref j), some (.ref oq), some (.bl lg), some (.int (ct : Nat)), some (.ref p), some (.bl rn), some (.ref pq), some (.int (evs.length : Nat)), some (.ref sq), none, none, none] ∧ But h l H G' ∧ Hv G' h l L' st' ∧ SqT K G' pq (r.map V.int) ∧
        Dp K G' (.ref oq) (.tuple (rs.map recD)) ∧ Dp K G' (.ref sq) (.tuple (ss.map recD)) ∧ (∀ r ∈ ss, OctL r) ∧ (rn = true → ss.length ≤ 3 ∧ sizeOf3 ss ≤ 900) ∧ (rn = false → ss = rs ++ [r])) (fun N hN => ?_) (fun σ' G4 hR => ?_)
    · refine ⟨_, rfl, _, rfl, ?_⟩
      cases rn with
      | true =>
        refine iteT ⟨_, rfl, h, l, L2, st2, 4, rfl, hv3, by decide, by decide, fun G4 L4 st4 m b4 hv4 m0 m1 => ?_⟩
        obtain ⟨m, rfl⟩ := Int.eq_ofNat_of_zero_le m0
        have k4 := KeepT.but hv3 b4
        have hp4 := k4.seqT hp3
        have do4 := dp_keep k4 _ _ (nlr rs) do3
        refine ⟨_, rfl, by omega, by omega, fun D nD => ?_⟩
        have nDh := ne2 hv4.top nD
        have nDl := ne2 hv4.bot nD
        have nD3 : H D = none := by
          cases q : H D with
          | none => rfl
          | some o => exact absurd (b4 _ _ nDh nDl (b3 _ _ nDh nDl q)) (by rw [nD]; exact fun z => nomatch z)
        have bb4 : But h l H G4 := b3.trans b4
        refine lc_range (lo := 0) (n := ((m : Int)).toNat) (fun i G => But h l H G ∧ (∃ L5 st5, Hv G h l L5 st5) ∧ SqT K G pq (r.map V.int) ∧ Dp K G (.ref oq) (.tuple (rs.map recD)) ∧ ∃ (ss : List (List Int)) (ws : List V), G D = some (.lst ws) ∧ DpAll K G ws (ss.map recD) ∧ ss.length = i ∧ ∀ r ∈ ss, OctL r ∧ r.length ≤ 270)
          ⟨bb4.new nD, ⟨_, _, hv4.new nD⟩, same_seqT (same_new nD) hp4, dp_same (same_new nD) _ _ do4, [], [], upd_same, .nil, rfl, fun r hr => absurd hr List.not_mem_nil⟩ (fun i G hi hP => ?_) (fun G hP => ?_)
        · obtain ⟨b5, ⟨L5, st5, hv5⟩, hp5, do5, ss, ws, gD, dw, sl, so⟩ := hP
          refine ⟨rfl, ?_⟩
          dsimp only [tYes]
          rw [if_pos rfl]
          refine ⟨_, rfl, _, rfl, h, l, L5, st5, lg, rfl, hv5, fun G6 L6 st6 q6 r6 b6 hv6 hq6 o6 l6 => ?_⟩
          have k6 := KeepT.but hv5 b6
          have gD6 := b6 _ _ nDh nDl gD
          have kk : KeepT G6 (upd G6 D (.lst (ws ++ [.ref q6]))) := .put gD6
          refine ⟨_, gD6, by rw [dpAll_len dw, List.length_map, sizeLine_eq]; omega, fun bb ob y1 y2 eb => (upd_ne (ne_of_none eb nD3)).trans (b6 _ _ y1 y2 (b5 _ _ y1 y2 eb)), ⟨L6, st6, ⟨(upd_ne nDh.symm).trans hv6.top, (upd_ne nDl.symm).trans hv6.bot, hv6.ne, hv6.lo, hv6.hi, hv6.len⟩⟩, (k6.trans kk).seqT hp5, dp_keep (k6.trans kk) _ _ (nlr rs) do5, ss ++ [r6], _, upd_same, ?_, by rw [List.length_append, sl]; rfl, fun x hx => ?_⟩
          · rw [List.map_append]
            exact dpAll_snoc (dpAll_keep (k6.trans kk) _ _ (noList_recs ss) dw) (dp_tup (kk.seqT hq6))
          · rcases List.mem_append.mp hx with z | z
            · exact so x z
            · rw [List.mem_singleton.mp z]
              exact ⟨o6, l6⟩
        · obtain ⟨b5, ⟨L5, st5, hv5⟩, hp5, do5, ss, ws, gD, dw, sl, so⟩ := hP
          refine ⟨D, _, rfl, .inl ⟨sqL gD, fun q1 n1 => hN _ _ ⟨q1, ss, L5, st5, rfl, b5.new n1, hv5.new n1, same_seqT (same_new n1) hp5, dp_same (same_new n1) _ _ do5, .tup (sqT upd_same) (dpAll_same (same_new n1) _ _ dw), fun r hr => (so r hr).1, fun _ => ⟨by omega, ?_⟩, fun z => nomatch z⟩⟩⟩
          have := size_le fun r hr => (so r hr).2
          have : ss.length ≤ 3 := by omega
          have : (270 + 3) * ss.length ≤ 273 * 3 := Nat.mul_le_mul_left _ this
          omega
      | false =>
        refine iteF ⟨_, rfl, _, rfl, by show 1 ≤ sizeLine; decide, fun p5 n5 => ?_⟩
        have s5 := same_new (o := .tup [.ref pq]) n5
        refine cat_to (same_seqT s5 hous) (sqT upd_same) (by rw [lous]; show _ + 1 ≤ 5000; omega) fun G6 q6 s6 h6 => ?_
        have s56 := s5.trans s6
        refine hN _ _ ⟨q6, rs ++ [r], L2, st2, rfl, b3.same s56, hv3.same s56, same_seqT s56 hp3, dp_same s56 _ _ do3, .tup h6 ?_, fun x hx => ?_, (fun z => nomatch z), fun _ => rfl⟩
        · rw [List.map_append]
          exact dpAll_snoc (dpAll_same s56 _ _ duo) (dp_tup (same_seqT s56 hp3))
        · rcases List.mem_append.mp hx with z | z
          · exact ors x z
          · rw [List.mem_singleton.mp z]
            exact op
    obtain ⟨sq0, ss0, L4, st4, rfl, b4, hv4, hp4, do4, ds4, os4, sz4, en4⟩ := hR
    refine seq_out (t := tIfS _ _ _) (fun σ' G' => ∃ (sq : Addr) (ss : List (List Int)) (L' : List Int) (st' : Int), σ' = [some (.ref h), some (.ref j), some (.ref oq), some (.bl lg), some (.int (ct : Nat)), some (.ref p), some (.bl rn), some (.ref pq), some (.int (evs.length : Nat)), some (.ref sq), none, none, none] ∧ But h l H G' ∧ Hv G' h l L' st' ∧ SqT K G' pq (r.map V.int) ∧
        Dp K G' (.ref oq) (.tuple (rs.map recD)) ∧ Dp K G' (.ref sq) (.tuple (ss.map recD)) ∧ (∀ r ∈ ss, OctL r) ∧ sizeOf3 ss ≤ 12000 ∧ (rn = false → ss = rs ++ [r])) (fun N hN => ?_) (fun σ' G5 hR => ?_)
    · have s1k : sizeOf3 (rs ++ [r]) ≤ 12000 := by
        have e : sizeOf3 [r] = r.length + 3 := rfl
        rw [size_app, e]
        omega
      refine ⟨_, rfl, _, rfl, ?_⟩
      cases rn with
      | false =>
        refine iteF (iteF (hN _ _ ⟨sq0, ss0, L4, st4, rfl, b4, hv4, hp4, do4, ds4, os4, ?_, en4⟩))
        rw [en4 rfl]
        exact s1k
      | true =>
        obtain ⟨l3, l9⟩ := sz4 rfl
        refine iteT ⟨_, rfl, h, l, L4, st4, 3, rfl, hv4, by decide, by decide, fun G5 L5 st5 m b5 hv5 m0 m1 => ⟨rfl, _, rfl, ?_⟩⟩
        have k5 := KeepT.but hv4 b5
        have hp5 := k5.seqT hp4
        have do5 := dp_keep k5 _ _ (nlr rs) do4
        have ds5 := dp_keep k5 _ _ (nlr ss0) ds4
        refine ite2 (fun _ => ?_) (fun _ => hN _ _ ⟨sq0, ss0, L5, st5, rfl, b4.trans b5, hv5, hp5, do5, ds5, os4, by omega, en4⟩)
        obtain ⟨_, ous5, eo5, hous5, duo5⟩ := tup_inv do5
        cases eo5
        have lous5 : ous5.length = rs.length := by rw [dpAll_len duo5, List.length_map]
        refine ⟨_, rfl, _, rfl, _, rfl, oq, ous5, rfl, .inr hous5, _, _, rfl, rfl, h, l, L5, st5, _, rfl, hv5, by omega, by omega, fun G6 L6 st6 m b6 hv6 m0 m1 => ?_⟩
        obtain ⟨m, rfl⟩ := Int.eq_ofNat_of_zero_le m0
        have k6 := KeepT.but hv5 b6
        refine ⟨_, rfl, ?_⟩
        dsimp only [tNoPart]
        refine slA_to (k6.seqT hous5) fun G7 q7 s7 h7 => ?_
        rw [cut_from (by omega)] at h7
        have ds6 := dp_same s7 _ _ (dp_keep k6 _ _ (nlr ss0) ds5)
        obtain ⟨_, sus, es, hsus, dsus⟩ := tup_inv ds6
        cases es
        refine ⟨_, rfl, _, rfl, slA_to hsus fun G8 q8 s8 h8 => ?_⟩
        have e8 : cutV sus none (some 1) = sus.take 1 := by
          by_cases z : 1 ≤ sus.length
          · exact cut_to (n := 1) z
          · have : sus = [] := List.eq_nil_of_length_eq_zero (by omega)
            rw [this]
            rfl
        rw [e8] at h8
        have s78 := s7.trans s8
        refine cat_to (same_seqT s8 h7) h8 (by rw [List.length_drop, List.length_take]; omega) fun G9 q9 s9 h9 => ?_
        have s79 := s78.trans s9
        refine hN _ _ ⟨q9, rs.drop m ++ ss0.take 1, L6, st6, rfl, (b4.trans (b5.trans b6)).same s79, hv6.same s79, same_seqT s79 (k6.seqT hp5), dp_same s79 _ _ (dp_keep k6 _ _ (nlr rs) do5), .tup h9 ?_, fun x hx => ?_, ?_, (fun z => nomatch z)⟩
        · rw [List.map_append, List.map_drop, List.map_take]
          exact dpAll_app (dpAll_drop m (dpAll_same s79 _ _ (dpAll_keep k6 _ _ (noList_recs rs) duo5))) (dpAll_take 1 (dpAll_same (s8.trans s9) _ _ dsus))
        · rcases List.mem_append.mp hx with z | z
          · exact ors x ((List.drop_sublist _ _).mem z)
          · exact os4 x ((List.take_sublist _ _).mem z)
        · have := size_drop rs m
          have := size_take ss0 1
          rw [size_app]
          omega
    obtain ⟨sq, ss, L5, st5, rfl, b5, hv5, hp5, do5, ds5, os5, sz5, en5⟩ := hR
    have J5 := Jb b5
    have fss : Fd (.tuple (ss.map recD)) := recs_fd os5 (by omega)
    -- the call
    refine seq_out (t := tAsg _ _) (fun σ' G' => (∃ (t : Addr) (L' : List Int) (st' : Int) (ev1 : List Ev) (b' z' : Nat), σ' = [some (.ref h), some (.ref j), some (.ref oq), some (.bl lg), some (.int (ct : Nat)), some (.ref p), some (.bl rn), some (.ref pq), some (.int (evs.length : Nat)), some (.ref sq), some (.ref t), none, none] ∧ G' t = some (.lst [.non]) ∧ FrmU [h, l, j, dl, de] G5 G' ∧ Hv G' h l L' st' ∧
          JAt K C CJ G' j jdx p dx c dl de cells (replay cells (evs ++ ev1)) (evs ++ ev1) b' z' ss ∧ Flushed (evs ++ ev1) ∧ EvOk cells.length (evs ++ ev1) ∧ ev1.length ≤ 30000 ∧ CutsOk (replay cells evs) ev1 rs ss) ∨
        (∃ (L' : List Int) (st' : Int), σ' = [some (.ref h), some (.ref j), some (.ref oq), some (.bl lg), some (.int (ct : Nat)), some (.ref p), some (.bl rn), some (.ref pq), some (.int (evs.length : Nat)), some (.ref sq), some (.str "room"), none, none] ∧ But h l G5 G' ∧ Hv G' h l L' st' ∧ (cells.length - 1) / 2 < sizeOf3 ss)) (fun N hN => ?_) (fun σ' G6 hR => ?_)
    · have hb1 := J.st.b1
      have be1 := bend_le n1 hb1
      have be2 := bend_le (b := 1 - b) n1 (by omega)
      refine ⟨_, rfl, _, rfl, _, rfl, _, rfl, _, rfl, h, l, j, jdx, p, dx, c, dl, de, sq, pq, L5, st5, cells, replay cells evs, evs, b, z, rs, ss, r, rn, rfl, hv5, J5, x1, x2, x3, x4, ds5, os5, by omega, hp5, op, by omega, by omega, fun er => ⟨fun fit G L' st' t f v J' g => ?_, fun nf G L' st' bb v => ?_⟩, fun er => ⟨fun fit G L' st' t f v J' g => ?_, fun nf G L' st' bb v => ?_⟩⟩
      · rw [← replay_app] at J'
        have hl6 : ∀ x ∈ ss, x.length < 65536 := fun x hx => by have := size_mem hx; omega
        refine hN _ _ (.inl ⟨t, L', st', _, _, _, rfl, g, f, v, J', flushed_app (twoEv_flushed _ _ _) (twoEv_ne _ _ _), evok_app ok ?_, ?_, fun k hk cs lf => r_cut J.st J.n1 hl6 fit hk lf⟩)
        · have hf := flat_len ss
          rw [lj] at fit ⊢
          exact evok_two (by rw [hf]; exact fit) be2 (by omega) (flat_oct os5 hl6) (by unfold Oct; omega)
        · rw [twoEv_len]
          have := chainPuts_len (bbeg (replay cells evs).length (1 - b)) (bend (replay cells evs).length (1 - b)) (ss.map linkOf).flatten
          rw [flat_len] at this
          unfold rPuts
          omega
      · rw [lj, bend_eq] at nf
        exact hN _ _ (.inr ⟨L', st', rfl, bb, v, by omega⟩)
      · rw [← replay_app, ← en5 er] at J'
        have lk := tail_len r
        refine hN _ _ (.inl ⟨t, L', st', _, _, _, rfl, g, f, v, J', flushed_app (twoEv_flushed _ _ _) (twoEv_ne _ _ _), evok_app ok ?_, ?_, fun k hk cs lf => ?_⟩)
        · rw [lj] at fit ⊢
          exact evok_two (by rw [lk]; omega) be1 (by omega) (fun o ho => linkOf_oct op (by omega) o (List.mem_of_mem_tail ho)) (by unfold Oct; omega)
        · rw [twoEv_len]
          have := chainPuts_len (z + 1) (bend (replay cells evs).length b) (linkOf r).tail
          rw [lk] at this
          unfold wPuts
          omega
        · rw [en5 er]
          exact w_cut J.st J.n1 (by omega) fit hk lf
      · rw [lj, bend_eq] at nf
        refine hN _ _ (.inr ⟨L', st', rfl, bb, v, ?_⟩)
        have e : sizeOf3 [r] = r.length + 3 := rfl
        rw [en5 er, size_app, e]
        omega
    rcases hR with ⟨t, L6, st6, ev1, b', z', rfl, gt, f6, hv6, J6, fl6, ok6, l6, cut⟩ | ⟨L6, st6, rfl, b6, hv6, big⟩
    · have do6 := f6.ku.dp _ _ (nlr rs) do5
      have ds6 := f6.ku.dp _ _ (nlr ss) ds5
      refine ⟨_, rfl, .list [.none], .str "room", .lst (sqL gt) (.cons .non .nil), .str _, by decide +kernel, by decide +kernel, _, rfl, ?_⟩
      rw [show PyData.eqv (.list [.none]) (.str "room") = false by decide +kernel]
      refine iteF ?_
      refine ⟨_, rfl, by show 1 ≤ sizeLine; decide, fun t2 nt2 => ?_⟩
      have s7 := same_new (o := .lst [V.non]) nt2
      refine ⟨.list [.none], .list [.none], .lst (sqL (s7 _ _ gt)) (.cons .non .nil), .lst (sqL upd_same) (.cons .non .nil), by decide +kernel, by decide +kernel, _, rfl, ?_⟩
      generalize upd G6 t2 (.lst [V.non]) = G7 at s7 ⊢
      rw [show PyData.eqv (.list [.none]) (.list [.none]) = true by decide +kernel]
      refine iteF ?_
      have J7 := J6.same s7
      refine ⟨_, rfl, j, jdx, _, rfl, J7.obj, jf_no _ _ _ (by decide +kernel) (by decide +kernel) (by decide +kernel), j, jdx, p, dx, c, dl, de, cells, _, _, b', z', ss, rfl, J7, fun G8 tR s8 d8 => ⟨tR, _, rfl, d8, fss.f, fss.dp, fss.c, ?_⟩⟩
      have s78 := s7.trans s8
      refine ⟨_, rfl, sq, _, rfl, dp_same s78 _ _ ds6, fss.f, fss.dp, fss.c, rfl, _, rfl, ?_⟩
      rw [decide_eq_true rfl]
      refine iteF ?_
      have hv8 := hv6.same s78
      have J8 := J6.same s78
      refine ⟨_, rfl, _, rfl, _, rfl, _, rfl, _, rfl, _, rfl, h, l, p, dx, c, dl, de, oq, sq, L6, st6, cells, _, evs, ev1, rs, ss, ct, rfl, hv8, J8.dk, x1, x2, x3, x4, fl, oc, ok6, n1, n2, by rw [List.length_append]; omega, hct, frd, fss, dp_same s78 _ _ do6, dp_same s78 _ _ ds6, cut, fun G9 L9 st9 b9 hv9 => ⟨_, rfl, iteT ⟨_, rfl, ?_⟩⟩⟩
      have f9 : FrmU [h, l] G8 G9 := .of (.but hv8 b9 (by simp) (by simp))
      have f5 : FrmU [h, l] H G5 := .of (.but hv b5 (by simp) (by simp))
      have J9 := J8.frmU f9 jh ph (by simp [x1, x2]) (by simp [x3, x4])
      exact q G9 L9 st9 ev1 b' z' ss sq ((((f5.mono (by simp)).trans f6).trans (.same s78)).trans (f9.mono (by simp))) hv9 J9 fl6 ok6 l6 (f9.ku.dp _ _ (nlr ss) (dp_same s78 _ _ ds6)) cut
    · have k6 := KeepT.but hv5 b6
      have do6 := dp_keep k6 _ _ (nlr rs) do5
      have ds6 := dp_keep k6 _ _ (nlr ss) ds5
      have b06 := b5.trans b6
      have J6 := Jb b06
      refine ⟨_, rfl, .str "room", .str "room", .str _, .str _, by decide +kernel, by decide +kernel, _, rfl, ?_⟩
      rw [show PyData.eqv (.str "room") (.str "room") = true by decide +kernel]
      refine iteT ?_
      obtain ⟨_, sus, es, hsus, dsus⟩ := tup_inv ds6
      cases es
      refine ⟨_, rfl, sq, rfl, ⟨_, hsus⟩, fun D nD => ?_⟩
      refine lc_tup (xs := sus) (fun i G => Same G6 G ∧ ∃ ns : List Int, G D = some (.lst (ns.map V.int)) ∧ ns.length ≤ i ∧ ((sizeOf3 (ss.take i) : Nat) : Int) ≤ ns.sum) ⟨same_new nD, [], upd_same, Nat.le_refl _, Int.le_refl 0⟩ (fun i G _ hP => same_seqT hP.1 hsus) (fun i x G hx hP => ?_) (fun G hP => ?_)
      · obtain ⟨s7, ns, gD, nl1, nl2⟩ := hP
        obtain ⟨r0, hr1, hr2⟩ := rec_at dsus hx
        obtain ⟨qx, rfl, hqx⟩ := tints_inv hr2
        refine ⟨rfl, ?_⟩
        dsimp only [tYes]
        rw [if_pos rfl]
        have lss : 3 * ss.length ≤ 12000 := by
          have : ∀ l : List (List Int), 3 * l.length ≤ sizeOf3 l := fun l => by
            induction l with
            | nil => exact Nat.le_refl _
            | cons x t ih =>
              have e : sizeOf3 (x :: t) = x.length + 3 + sizeOf3 t := rfl
              rw [List.length_cons]
              omega
          have := this ss
          omega
        have hi := (List.getElem?_eq_some_iff.mp hr1).1
        refine ⟨_, rfl, qx, _, rfl, .inr (same_seqT s7 hqx), _, _, rfl, rfl, _, gD, by rw [List.length_map, sizeLine_eq]; omega, fun bb ob eb => (upd_ne (ne_of_none eb nD)).trans (s7 _ _ eb), ns ++ [(r0.length : Int) + 8], ?_, by rw [List.length_append]; show _ + 1 ≤ _; omega, ?_⟩
        · rw [upd_same, List.map_append, List.length_map]
          rfl
        · have e : sizeOf3 [r0] = r0.length + 3 := rfl
          rw [List.take_add_one, hr1, List.sum_append, size_app]
          show ((sizeOf3 (ss.take i) + sizeOf3 [r0] : Nat) : Int) ≤ ns.sum + ((r0.length : Int) + 8 + 0)
          rw [e]
          omega
      · obtain ⟨s7, ns, gD, nl1, nl2⟩ := hP
        rw [dpAll_len dsus, List.length_map, List.take_length] at nl2
        have J7 := J6.same s7
        refine ⟨D, ns, rfl, sqL gD, _, rfl, p, C, dx, _, _, rfl, J7.dk.obj, T.cl, T.nC, df_c _ _ _, c, _, rfl, .inr J7.dk.cel, _, _, rfl, rfl, ⟨by decide, by decide⟩, _, _, rfl, rfl, _, _, rfl, rfl, _, rfl, ?_⟩
        rw [decide_eq_false (show ¬ ns.sum ≤ ((cells.map V.int).length : Int) / 2 - 8 by rw [List.length_map]; omega)]
        refine iteF ?_
        refine ⟨_, rfl, p, dx, _, rfl, J7.dk.obj, df_no _ _ _ (by decide +kernel) (by decide +kernel) (by decide +kernel), p, dx, c, dl, de, cells, _, _, rfl, J7.dk, fun G8 tE8 us8 s8 hE8 du8 => ⟨tE8, us8, rfl, .inr hE8, _, rfl, rfl, _, rfl, ?_⟩⟩
        have hul8 : us8.length = evs.length := by rw [dpAll_len du8, List.length_map]
        rw [hul8, decide_eq_true rfl]
        refine iteT ?_
        have J8 := J7.same s8
        refine ⟨_, rfl, j, jdx, _, rfl, J8.obj, jf_no _ _ _ (by decide +kernel) (by decide +kernel) (by decide +kernel), j, jdx, p, dx, c, dl, de, cells, _, _, b, z, rs, rfl, J8, fun G9 tR s9 d9 => ⟨tR, _, rfl, d9, frd.f, frd.dp, frd.c, ?_⟩⟩
        have s79 := (s7.trans s8).trans s9
        have do9 := dp_same s79 _ _ do6
        refine ⟨_, rfl, oq, _, rfl, do9, frd.f, frd.dp, frd.c, rfl, _, rfl, ?_⟩
        rw [decide_eq_true rfl]
        refine iteT ⟨_, rfl, ?_⟩
        have J9 := J6.same s79
        have b9 := b06.same s79
        have e0 : evs ++ ([] : List Ev) = evs := List.append_nil _
        exact q G9 L6 st6 [] b z rs oq ((FrmU.of (.but (S := [h, l]) hv b9 (by simp) (by simp))).mono (by simp)) (hv6.same s79) (by rw [e0]; exact J9) (by rw [e0]; exact fl) (by rw [e0]; exact ok) (Nat.zero_le _) do9 (cuts_nil hjr)
end
end K6
namespace Gd
open PySem PySem.Spec PyProof.Rows L2
theorem tuple_mul1 (l : Addr) (items : Array Value) (n : Nat) (dd : Option Addr) (sl : Array (Option Value)) (u : Tok) :
    Meets (Builtin.«tuple.__mul__» ⟨[.ref l, .int 1 u], []⟩) (fun _ R s => s.heap.get? l = some { cls := .type "tuple", dict := dd, data := .seq items n, slots := sl } ∧ R (.ok (.ret (Value.ref l))) s) :=
  .of_wp fun prog w A R s h => by
    obtain ⟨hp, g, d, tk, os⟩ := s
    obtain ⟨hl, h⟩ := h
    have f1 := AutoSeq1.idx_int
    have c0 : (decide ((1 : Int) < -(2 ^ 63)) || decide ((1 : Int) ≥ 2 ^ 63)) = false := by decide
    have c1 : (items.isEmpty || (1 : Int) == 1) = true := by simp
    wp_walk using wpAny_loadPart' hl
    repeat (first
      | (refine wpAny_ite_false (decide_eq_false (by rw [c0]; exact Bool.false_ne_true)) ?_; wp_walk using wpAny_loadPart' hl)
      | (refine wpAny_ite_true (decide_eq_true (by rw [c1])) ?_; wp_walk using wpAny_loadPart' hl))
    exact ⟨_, rfl, h⟩
section
variable {X : Cx}
abbrev rRepM (K : PySem.W.Frag) : V → V → Hp → VK → Prop := fun x y H Q => ∃ (l : Addr) (k : Int) (z : V), x = .ref l ∧ y = .int k ∧ SqT K H l [z] ∧ 1 ≤ k ∧ k ≤ 100000 ∧ ∀ G r, Same H G → SqT K G r (List.replicate k.toNat z) → Q (.ref r) G
/-- (x,) * k, k may be 1 -/
theorem op_repM : OpR X (binaryOp .Mult) (rRepM X.K) := by
  intro pins s σ H x y v u Q I rx ry h
  obtain ⟨l, k, z, rfl, rfl, hT, h1, h2, q⟩ := h
  by_cases hk : 2 ≤ k
  · exact op_rep1 pins s σ H _ _ v u Q I rx ry ⟨l, k, z, rfl, rfl, hT, hk, h2, fun p np => q _ p (same_new np) (sqT upd_same)⟩
  obtain rfl : k = 1 := by omega
  obtain rfl : v = Value.ref l := rx
  obtain ⟨t, rfl⟩ := ry
  have hq := q H l (Same.refl _) hT
  obtain ⟨its, r, ⟨⟨cls, dd, data, sl⟩, ho, hc, n, hd⟩, hs⟩ := I.tuple hT
  simp only at hc hd
  subst hc hd
  refine wpAny_binaryOp_repeat_ref (T := "tuple") (U := "int") (by decide) ⟨_, ho, rfl⟩ (fun s' => typeIs_int s' 1 t) noFill_tuple_mul F.fills_int_mul F.slot_int_rmul repeat_tuple F.slot_int_index.lookup
    (call_meets F.slot_int_rmul (typeIs_int s 1 t) F.entry_int_rmul (F.args_int_rmul_2 _ _) (int_rmul_tuple 1 t l its.toArray n dd sl)
      ⟨ho, rfl, ⟨_, ho, rfl⟩, call_meets F.slot_tuple_mul ⟨_, ho, rfl⟩ F.entry_tuple_mul (F.args_tuple_mul_2 _ _) (tuple_mul1 l its.toArray n dd sl t) ⟨ho, ?_⟩⟩)
  exact ⟨.ref l, H, I, rfl, hq⟩
end
end Gd
namespace K6
open PySem PySem.Spec PyProof.Rows L2 Gd
theorem eqv_tints (a b : List Int) : PyData.eqv (.tuple (a.map .int)) (.tuple (b.map .int)) = decide (a = b) := by
  rw [PyData.eqv]
  have key : ∀ a b : List Int, PyData.eqvAll (a.map .int) (b.map .int) = decide (a = b) := by
    intro a
    induction a with
    | nil => intro b; cases b <;> simp [PyData.eqvAll]
    | cons x r ih =>
      intro b
      cases b with
      | nil => simp [PyData.eqvAll]
      | cons y s =>
        simp [PyData.eqvAll, PyData.eqv, ih]
        rfl
  exact key a b
theorem eqv_recs (a b : List (List Int)) : PyData.eqv (.tuple (a.map recD)) (.tuple (b.map recD)) = decide (a = b) := by
  rw [PyData.eqv]
  have key : ∀ a b : List (List Int), PyData.eqvAll (a.map recD) (b.map recD) = decide (a = b) := by
    intro a
    induction a with
    | nil => intro b; cases b <;> simp [PyData.eqvAll]
    | cons x r ih =>
      intro b
      cases b with
      | nil => simp [PyData.eqvAll]
      | cons y s =>
        rw [List.map_cons, List.map_cons, PyData.eqvAll, ih, recD, recD, eqv_tints, Bool.eq_iff_iff]
        simp
  exact key a b
theorem zeros_at {n k : Nat} (h : k < n) : (List.replicate n (0 : Int))[k]? = some 0 := by
  rw [List.getElem?_replicate, if_pos h]
theorem zeros_j {n : Nat} (h : 1 ≤ n) : Jst (List.replicate n (0 : Int)) 0 (bbeg n 0) [] := by
  refine ⟨⟨0, zeros_at h, rfl⟩, by omega, ?_⟩
  rw [List.length_replicate]
  have hb := bend_le (b := 0) h (by omega)
  refine .nil (by rw [bend_eq]; omega) fun hl => zeros_at (by omega)
theorem zeros_o (n : Nat) : OctL (List.replicate n (0 : Int)) := fun o ho => by
  rw [(List.mem_replicate.mp ho).2]
  unfold Oct
  omega
theorem free_but {h l a : Addr} {H G : Hp} {L : List Int} {st : Int} (b : But h l H G) (v : Hv G h l L st) (n : G a = none) : H a = none := by
  cases q : H a with
  | none => rfl
  | some o =>
    have := b _ _ (ne2 v.top n) (ne2 v.bot n) q
    rw [n] at this
    cases this
/-- what stands at a turn of a day -/
structure DayAt (K : PySem.W.Frag) (C CJ h l : Addr) (H G : Hp) (i : Nat) (j oq : Addr) : Prop where
  but : But h l H G
  ex : ∃ (jdx p dx c dl de : Addr) (L : List Int) (st : Int) (cells : List Int) (evs : List Ev) (b z : Nat) (rs : List (List Int)), Hv G h l L st ∧ JAt K C CJ G j jdx p dx c dl de cells (replay cells evs) evs b z rs ∧ dl ≠ h ∧ dl ≠ l ∧ de ≠ h ∧ de ≠ l ∧ OctL cells ∧ Flushed evs ∧ EvOk cells.length evs ∧ evs.length ≤ 30000 * i ∧
    Dp K G (.ref oq) (.tuple (rs.map recD)) ∧ H j = none ∧ H dl = none ∧ H de = none
section
variable {P : Program} {w : World} {K : PySem.W.Frag} {mg : Str → Option Value} {base : Heap}
/-! ### _law_day_right -/
def spDay (K : PySem.W.Frag) : Sp := fun vs H Q _ => ∃ (h l : Addr) (L : List Int) (st : Int) (n tn ct : Nat), vs = [.ref h, .int (n : Nat), .int (tn : Nat), .int (ct : Nat)] ∧ Hv H h l L st ∧ 1 ≤ n ∧ n ≤ 20000 ∧ tn ≤ 10 ∧ ct ≤ 100 ∧
  ∀ (G : Hp) (L' : List Int) (st' : Int), But h l H G → Hv G h l L' st' → Q (.bl true) G
theorem ok_day {f C CJ CB fD fP fT fL fI fJ mE mR : Addr} {fd fdD fdP fdT fdL fdI fdJ dE dR : FuncData} {k : Nat} (F : Fun K "_law_day_right" "_law_day_right" s__law_day_right f fd) (FD : Fun K "_law_draw" "_law_draw" s__law_draw fD fdD) (bD : Binds K fdD ["heap", "many"] []) (gD : mg "_law_draw" = some (.ref fD)) (GD : FnOk P w K mg base CX0 (k + 1) fD fdD ["heap", "many"] spDraw)
    (FP : Fun K "_law_pick" "_law_pick" s__law_pick fP fdP) (bP : Binds K fdP ["heap", "some"] []) (gP : mg "_law_pick" = some (.ref fP)) (GP : FnOk P w K mg base CX0 (k + 1) fP fdP ["heap", "some"] (spPick K))
    (FT : Fun K "_law_turn" "_law_turn" s__law_turn fT fdT) (bT : Binds K fdT ["heap", "journal", "old", "long", "cuts"] []) (gT : mg "_law_turn" = some (.ref fT)) (GT : FnG P w K mg base (k + 1) fT fdT ["heap", "journal", "old", "long", "cuts"] (spTurn K C CJ))
    (FL : Fun K "_law_left" "_law_left" s__law_left fL fdL) (bL : Binds K fdL ["heap", "cells", "events"] []) (gL : mg "_law_left" = some (.ref fL)) (GL : FnOk P w K mg base CX0 (k + 1) fL fdL ["heap", "cells", "events"] (spLeft K))
    (T : DTxt K mg C) (TJ : JTxt K mg CJ) (M : Mk K C fI) (MJ : Mk K CJ fJ) (bI : Binds K fdI ["self", "cells"] []) (bJ : Binds K fdJ ["self", "disk"] []) (kI : KBn K fdI ["self", "cells"] 1 ["cells"] (· ++ ·) (· ++ ·)) (kJ : KBn K fdJ ["self", "disk"] 1 ["disk"] (· ++ ·) (· ++ ·))
    (GI : FnOk P w K mg base CX0 k fI fdI ["self", "cells"] (spInit K C)) (GJ : FnOk P w K mg base (L2.CX P w) k fJ fdJ ["self", "disk"] (spJInit K C CJ CB))
    (ME : Meth K C "events" mE) (bE : Binds K dE ["self"] []) (HE : FnOk P w K mg base CX0 (k + 1) mE dE ["self"] (spEvents K C)) (MR : Meth K CJ "records" mR) (bR : Binds K dR ["self"] []) (HR : FnOk P w K mg base CX0 (k + 1) mR dR ["self"] (spRecs K C CJ))
    (ml : mg "len" = none) (mr : mg "range" = none) (mm : mg "max" = none) (mp : mg "repr" = none) :
    FnG P w K mg base (k + 1 + 1) f fd ["heap", "many", "turns", "cuts"] (spDay K) := by
  refine okG F sc__law_day_right (fun vs H Q E h => ?_) (fun cdv A outer s H vs Q E hrg h => ?_)
  · obtain ⟨h, l, L, st, n, tn, ct, rfl, _⟩ := h
    rfl
  · obtain ⟨h, l, L, st, n, tn, ct, rfl, hv, n1, n2, htn, hct, q⟩ := h
    have hr := hrg.rm
    have hgd := hrg.gd
    refine blk_cons (ps_par (i := 4) (j := 5) rfl sc__law_day_right.nd rfl rfl (by decide) rfl rfl (pa_cons (pe_make MJ GJ hr (by rfl) TJ.mgC bJ .nil passL (pa_cons (pe_make M GI hr (by rfl) T.mgC bI .nil pass0 (pa_cons (pe_op (r := rRepM K) op_repM (pe_tup (pa_cons pe_int pa_nil)) (pv 1)) pa_nil)) pa_nil)) (pa_cons (pe_tup pa_nil) pa_nil)) (by rfl)) ?_
    refine blk_cons (ps_if (PW.pt (pw_or (pt_cmpR (op_neD hr.units) (pe_meth0 (pv 4) TJ.cl MR HR hr bR .nil pass0) (pe_tup pa_nil) (nomark _)) (pw_or1 (pt_cmpR (op_neD hr.units) (pe_meth0 (pe_fld (pv 4) rfl) T.cl ME HE hr bE .nil pass0) (pe_tup pa_nil) (nomark _))))) (pss_one (ps_ret pe_bl)) pss_nil) ?_
    refine blk_cons (ps_for PassesOwn.never rfl (pi_range1 (by rfl) mr (pa_cons (pv 2) pa_nil)) (pg_name (i := 6) sc__law_day_right.nd rfl (.inl rfl))
      (pss_cons (ps_set (i := 7) sc__law_day_right.nd rfl (.inl rfl) (pe_callB call_len_seq (by rfl) ml PySem.boot_len (pa_cons (pe_meth0 (pe_fld (pv 4) rfl) T.cl ME HE hr bE .nil pass0) pa_nil)))
      (pss_cons (ps_set (i := 8) sc__law_day_right.nd rfl (.inl rfl) (pe_callG (E := E0) GT hrg (by rfl) gT FT.kp bT .nil (pa_cons (pv 0) (pa_cons (pv 4) (pa_cons (pv 5) (pa_cons (pe_cmpR op_gt (pv 1) pe_int (nomark _)) (pa_cons (pv 3) pa_nil)))))))
      (pss_cons (ps_if (pt_cmpR op_isN (pv 8) pe_non (nomark _)) (pss_one (ps_ret pe_bl)) pss_nil)
      (pss_cons (ps_if (pt_cmpR op_eq (pe_call GD hr (by rfl) gD FD.kp bD .nil pass0 (pa_cons (pv 0) (pa_cons pe_int pa_nil))) pe_int (nomark _))
        (pss_cons (ps_par (i := 9) (j := 10) rfl sc__law_day_right.nd rfl rfl (by decide) rfl rfl (pa_cons (pe_fld (pv 4) rfl) (pa_cons (pe_callB call_len_seq (by rfl) ml PySem.boot_len (pa_cons (pe_meth0 (pe_fld (pv 4) rfl) T.cl ME HE hr bE .nil pass0) pa_nil)) pa_nil)) (by rfl))
        (pss_cons (ps_set (i := 11) sc__law_day_right.nd rfl (.inl rfl) (pe_call GL hr (by rfl) gL FL.kp bL .nil pass0 (pa_cons (pv 0) (pa_cons (pe_fld (pv 9) rfl) (pa_cons (pe_slice (r := rSlA K) sl_tupA (pe_meth0 (pv 9) T.cl ME HE hr bE .nil pass0) po_none
            (po_some (pe_call GP hr (by rfl) gP FP.kp bP .nil pass0 (pa_cons (pv 0) (pa_cons (pe_lst (pa_cons (pv 10) (pa_cons (pe_callB (call_max2 rfl) (by rfl) mm (by decide +kernel) (pa_cons (pv 7) (pa_cons (pe_op op_sub (pe_op op_sub (pv 10) pe_int) (pe_call GD hr (by rfl) gD FD.kp bD .nil pass0 (pa_cons (pv 0) (pa_cons pe_int pa_nil)))) pa_nil))) pa_nil))) pa_nil))))) pa_nil)))))
        (pss_cons (ps_set (i := 12) sc__law_day_right.nd rfl (.inl rfl) (pe_makeK0 MJ GJ hr (by rfl) TJ.mgC kJ passL (pk_cons (pe_makeK0 M GI hr (by rfl) T.mgC kI pass0 (pk_cons (pv 11) pk_nil)) pk_nil)))
        (pss_cons (ps_if (PW.pt (pw_and (pt_cmpR op_ne (pe_callB (call_reprF hgd hr.units) (by rfl) mp (by decide +kernel) (pa_cons (pe_meth0 (pv 12) TJ.cl MR HR hr bR .nil pass0) pa_nil)) (pe_callB (call_reprF hgd hr.units) (by rfl) mp (by decide +kernel) (pa_cons (pv 8) pa_nil)) (nomark _))
            (pw_and1 (pt_cmpR op_ne (pe_callB (call_reprF hgd hr.units) (by rfl) mp (by decide +kernel) (pa_cons (pe_meth0 (pv 12) TJ.cl MR HR hr bR .nil pass0) pa_nil)) (pe_callB (call_reprF hgd hr.units) (by rfl) mp (by decide +kernel) (pa_cons (pv 5) pa_nil)) (nomark _))))) (pss_one (ps_ret pe_bl)) pss_nil)
        (pss_one (ps_par (i := 4) (j := 8) rfl sc__law_day_right.nd rfl rfl (by decide) rfl rfl (pa_cons (pv 12) (pa_cons (pe_ifExp (pt_cmpR (op_eqD hr.units) (pe_meth0 (pv 12) TJ.cl MR HR hr bR .nil pass0) (pv 8) (nomark _)) (pv 8) (pv 5)) pa_nil)) (by rfl))))))) pss_nil)
      (pss_one (ps_set (i := 5) sc__law_day_right.nd rfl (.inl rfl) (pv 8)))))))) ?_
    refine blk_cons (ps_ret pe_bl) ?_
    refine blk_nil ?_
    -- a fresh journal
    refine ⟨by show 1 ≤ sizeLine; decide, fun p1 m1 => ⟨_, rfl, p1, _, .int 0, rfl, rfl, sqT upd_same, by omega, by omega, fun G2 c s2 hc => ?_⟩⟩
    have s02 := (same_new (o := .tup [.int 0]) m1).trans s2
    have hc' : SqT K G2 c ((List.replicate n (0 : Int)).map V.int) := by
      rw [List.map_replicate]
      exact hc
    intro p dx np nd ne
    refine init_good hc' (zeros_o n) (by rw [List.length_replicate]; exact n1) (by rw [List.length_replicate]; exact n2) np nd ne fun G3 dl de s3 nl nE _ _ d3 => ⟨rfl, ?_⟩
    intro j jdx nj ndj nej
    refine jinit_good d3 (zeros_o n) (by rw [List.length_replicate]; exact n1) (by rw [List.length_replicate]; exact n2) rfl ⟨0, _, zeros_j n1⟩ nj ndj nej fun G4 b z s4 J4 => ⟨rfl, ?_⟩
    refine ⟨Nat.zero_le _, fun oq noq => ⟨_, _, rfl, ?_⟩⟩
    have s05 := ((s02.trans s3).trans s4).trans (same_new (o := .tup []) noq)
    have J5 := J4.same (same_new (o := .tup []) noq)
    have do5 : Dp K (upd G4 oq (.tup [])) (.ref oq) (.tuple (([] : List (List Int)).map recD)) := .tup (sqT upd_same) .nil
    generalize upd G4 oq (.tup []) = G5 at s05 J5 do5 ⊢
    have Hj : H j = none := (s02.trans s3).free nj
    have Hl : H dl = none := s02.free nl
    have He : H de = none := s02.free nE
    refine ⟨_, rfl, j, jdx, _, rfl, J5.obj, jf_no _ _ _ (by decide +kernel) (by decide +kernel) (by decide +kernel), j, jdx, p, dx, c, dl, de, _, _, _, b, z, [], rfl, J5, fun G6 tR s6 d6 => ?_⟩
    refine ⟨Nat.zero_le _, fun q7 n7 => ⟨.tuple [], .tuple [], dp_same (same_new n7) _ _ d6, .tup (sqT upd_same) .nil, by decide +kernel, by decide +kernel, _, rfl, ?_⟩⟩
    rw [show PyData.eqv (.tuple []) (.tuple []) = true by decide +kernel]
    refine iteF ?_
    have s7 := s6.trans (same_new (o := .tup []) n7)
    have J7 := J5.same s7
    refine ⟨_, rfl, j, CJ, jdx, _, _, rfl, J7.obj, TJ.cl, TJ.nD, jf_ld _ _ _, p, dx, _, rfl, J7.dk.obj, df_no _ _ _ (by decide +kernel) (by decide +kernel) (by decide +kernel), p, dx, c, dl, de, _, _, _, rfl, J7.dk, fun G8 tE us s8 hE du => ?_⟩
    cases du
    refine ⟨Nat.zero_le _, fun q9 n9 => ⟨.tuple [], .tuple [], .tup (same_seqT (same_new n9) hE) .nil, .tup (sqT upd_same) .nil, by decide +kernel, by decide +kernel, _, rfl, ?_⟩⟩
    rw [show PyData.eqv (.tuple []) (.tuple []) = true by decide +kernel]
    refine iteF ?_
    have s9 := (s7.trans s8).trans (same_new (o := .tup []) n9)
    have J9 := J5.same s9
    have do9 := dp_same s9 _ _ do5
    have s09 := s05.trans s9
    generalize upd G8 q9 (.tup []) = G9 at s9 J9 do9 s09 ⊢
    have hv9 := hv.same s09
    have st0 : DayAt K C CJ h l H G9 0 j oq := ⟨(But.refl h l H).same s09, jdx, p, dx, c, dl, de, L, st, List.replicate n 0, [], b, z, [], hv9, J9, ne2 hv.top Hl, ne2 hv.bot Hl, ne2 hv.top He, ne2 hv.bot He, zeros_o n, .inl rfl, fun a o m => absurd m List.not_mem_nil, Nat.zero_le _, do9, Hj, Hl, He⟩
    -- the turns
    dsimp only [tNext, gName]
    refine seq_out (t := tFor _ _ _) (fun σ' G' => But h l H G' ∧ ∃ L' st', Hv G' h l L' st') (fun N hN => ?_) (fun σ' G' hR => ?_)
    · refine ⟨_, rfl, _, rfl, by omega, by omega, for_range (lo := 0) (fun i σ G => ∃ (j oq : Addr) (y6 y7 y8 y9 y10 y11 y12 : Option V), σ = [some (.ref h), some (.int (n : Nat)), some (.int (tn : Nat)), some (.int (ct : Nat)), some (.ref j), some (.ref oq), y6, y7, y8, y9, y10, y11, y12] ∧ DayAt K C CJ h l H G i j oq)
        ⟨j, oq, _, _, _, _, _, _, _, rfl, st0⟩ (fun i σ G hi hP => ?_) (fun σ G hP => ?_)⟩
      · obtain ⟨j, oq, y6, y7, y8, y9, y10, y11, y12, rfl, bt, jdx, p, dx, c, dl, de, L1, st1, cells, evs, b, z, rs, hv1, J1, x1, x2, x3, x4, oc, fl, ok, l9, do1, Hj, Hl, He⟩ := hP
        have hit : i < 10 := by omega
        have lj : (replay cells evs).length = cells.length := replay_len _ _
        have c1 : 1 ≤ cells.length := by rw [← lj]; exact J1.n1
        have c2 : cells.length ≤ 20000 := by rw [← lj]; exact J1.n2
        have nlr : ∀ l : List (List Int), noList (.tuple (l.map recD)) = true := fun l => by
          rw [noList]
          exact noList_recs l
        dsimp only [gName]
        -- since
        refine ⟨_, rfl, j, CJ, jdx, _, _, rfl, J1.obj, TJ.cl, TJ.nD, jf_ld _ _ _, p, dx, _, rfl, J1.dk.obj, df_no _ _ _ (by decide +kernel) (by decide +kernel) (by decide +kernel), p, dx, c, dl, de, _, _, _, rfl, J1.dk, fun G2 tE us s2 hE du => ⟨tE, us, rfl, .inr hE, ?_⟩⟩
        rw [dpAll_len du, List.length_map]
        have hv2 := hv1.same s2
        -- behind
        refine ⟨_, rfl, _, rfl, _, rfl, _, rfl, _, _, rfl, rfl, _, rfl, h, l, j, jdx, p, dx, c, dl, de, oq, L1, st1, cells, evs, b, z, rs, _, ct, rfl, hv2, J1.same s2, x1, x2, x3, x4, oc, fl, ok, by omega, hct, dp_same s2 _ _ do1, fun G3 L3 st3 ev1 b' z' ss q3 f3 hv3 J3 fl3 ok3 l3 d3 cut => ?_⟩
        have do3 := f3.ku.dp _ _ (nlr rs) (dp_same s2 _ _ do1)
        have bt3 : But h l H G3 := fun a o a1 a2 e => f3.ks _ _ (by
          have y1 : a ≠ j := ne_of_none e Hj
          have y2 : a ≠ dl := ne_of_none e Hl
          have y3 : a ≠ de := ne_of_none e He
          simp [a1, a2, y1, y2, y3]) (s2 _ _ (bt _ _ a1 a2 e))
        have lsum : (evs ++ ev1).length = evs.length + ev1.length := List.length_append
        have jh : j ∉ [h, l] := by simp [ne2 hv.top Hj, ne2 hv.bot Hj]
        have ph : p ∉ [h, l] := fun m => by
          rcases List.mem_cons.mp m with m | m
          · have := J1.dk.obj; rw [m, hv1.top] at this; cases this
          · have := J1.dk.obj; rw [List.mem_singleton.mp m, hv1.bot] at this; cases this
        refine ⟨_, rfl, rfl, _, rfl, iteF ?_⟩
        refine ⟨_, rfl, h, l, L3, st3, 3, rfl, hv3, by decide, by decide, fun G4 L4 st4 kn b4 hv4 k0 k1 => ⟨rfl, _, rfl, ?_⟩⟩
        have bt4 := bt3.trans b4
        have k4 := KeepT.but hv3 b4
        have J4 := J3.frmU (.of (.but (S := [h, l]) hv3 b4 (by simp) (by simp))) jh ph (by simp [x1, x2]) (by simp [x3, x4])
        have do4 := dp_keep k4 _ _ (nlr rs) do3
        have d4 := dp_keep k4 _ _ (nlr ss) d3
        refine ite2 (fun _ => ?_) (fun _ => ⟨_, rfl, j, q3, _, _, _, _, _, _, _, rfl, bt4, jdx, p, dx, c, dl, de, L4, st4, cells, evs ++ ev1, b', z', ss, hv4, J4, x1, x2, x3, x4, oc, fl3, ok3, by omega, d4, Hj, Hl, He⟩)
        -- a cut
        refine ⟨_, rfl, j, CJ, jdx, _, _, rfl, J4.obj, TJ.cl, TJ.nD, jf_ld _ _ _, _, rfl, j, CJ, jdx, _, _, rfl, J4.obj, TJ.cl, TJ.nD, jf_ld _ _ _, p, dx, _, rfl, J4.dk.obj, df_no _ _ _ (by decide +kernel) (by decide +kernel) (by decide +kernel), p, dx, c, dl, de, _, _, _, rfl, J4.dk, fun G5 tE5 us5 s5 hE5 du5 => ⟨tE5, us5, rfl, .inr hE5, _, _, rfl, ?_⟩⟩
        rw [dpAll_len du5, List.length_map, lsum]
        have J5 := J4.same s5
        have hv5 := hv4.same s5
        refine ⟨_, rfl, _, rfl, p, C, dx, _, _, rfl, J5.dk.obj, T.cl, T.nC, df_c _ _ _, _, rfl, p, dx, _, rfl, J5.dk.obj, df_no _ _ _ (by decide +kernel) (by decide +kernel) (by decide +kernel), p, dx, c, dl, de, _, _, _, rfl, J5.dk, fun G6 tE6 us6 s6 hE6 du6 => ?_⟩
        dsimp only [tNoPart]
        have hv6 := hv5.same s6
        refine ⟨_, rfl, _, rfl, _, rfl, _, rfl, _, _, rfl, rfl, _, rfl, h, l, L4, st4, 9, rfl, hv6, by decide, by decide, fun G7 L7 st7 r7 b7 hv7 r0 r1 => ⟨_, _, rfl, rfl, _, _, rfl, by show 2 ≤ sizeLine; decide, fun p8 n8 => ?_⟩⟩
        dsimp only
        obtain ⟨m2, e2, g1, g2⟩ : ∃ m2 : Nat, (if ((evs.length + ev1.length : Nat) : Int) - 1 - r7 > (evs.length : Int) then ((evs.length + ev1.length : Nat) : Int) - 1 - r7 else (evs.length : Int)) = ((m2 : Nat) : Int) ∧ evs.length ≤ m2 ∧ m2 ≤ evs.length + ev1.length := by
          by_cases q : ((evs.length + ev1.length : Nat) : Int) - 1 - r7 > (evs.length : Int)
          · rw [if_pos q]
            exact ⟨(((evs.length + ev1.length : Nat) : Int) - 1 - r7).toNat, by omega, by omega, by omega⟩
          · rw [if_neg q]
            exact ⟨evs.length, rfl, Nat.le_refl _, by omega⟩
        rw [e2]
        have k7 := KeepT.but hv6 b7
        refine ⟨h, l, L7, st7, p8, [.int ((evs.length + ev1.length : Nat) : Int), .int ((m2 : Nat) : Int)], rfl, hv7.new n8, sqL upd_same, ne2 hv7.top n8, ne2 hv7.bot n8, by show 0 < 2; decide, by show 2 < 1000; decide, fun G9 L9 st9 ix x b9 hv9 hx => ?_⟩
        obtain ⟨m, rfl, hm1, hm2⟩ : ∃ m : Nat, x = .int (m : Int) ∧ evs.length ≤ m ∧ m ≤ evs.length + ev1.length := by
          match ix, hx with
          | 0, hx => cases hx; exact ⟨_, rfl, by omega, Nat.le_refl _⟩
          | 1, hx => cases hx; exact ⟨_, rfl, g1, g2⟩
          | _ + 2, hx => simp at hx
        have b69 : But h l G6 G9 := (b7.new n8).trans b9
        have k9 := KeepT.but hv6 b69
        refine ⟨_, rfl, slA_to (k9.seqT hE6) fun G10 q10 s10 h10 => ?_⟩
        have lu6 : us6.length = evs.length + ev1.length := by rw [dpAll_len du6, List.length_map, lsum]
        rw [cut_to (by omega)] at h10
        have d10 := dpAll_take m (dpAll_same s10 _ _ (dpAll_keep k9 _ _ (noList_ev _) du6))
        rw [← List.map_take] at d10
        have hc10 := same_seqT s10 (k9.seqT (same_seqT s6 J5.dk.cel))
        have hv10 := hv9.same s10
        have bt10 : But h l H G10 := ((((bt4.same s5).same s6).trans b69).same s10)
        have do10 := dp_same s10 _ _ (dp_keep k9 _ _ (nlr rs) (dp_same s6 _ _ (dp_same s5 _ _ do4)))
        have d310 := dp_same s10 _ _ (dp_keep k9 _ _ (nlr ss) (dp_same s6 _ _ (dp_same s5 _ _ d4)))
        refine ⟨h, l, c, q10, L9, st9, cells, _, (evs ++ ev1).take m, rfl, hv10, hc10, h10, d10, oc, fun a o z => ok3 a o ((List.take_sublist _ _).mem z), c2, by rw [List.length_take]; omega, fun G11 L11 st11 q11 cs b11 hv11 hq11 lf => ?_⟩
        have lcs : cs.length = cells.length := by rw [lf.len, (look3_ok _ _).l1]
        have ocs := lf.oct
        rw [List.take_append, List.take_of_length_le hm1, look3_app fl] at lf
        obtain ⟨cc, _, _⟩ := cut (m - evs.length) (by omega) cs lf
        obtain ⟨rs', J', hor⟩ : ∃ rs', Jr cs rs' ∧ (rs' = rs ∨ rs' = ss) := cc.elim (fun z => ⟨rs, z, .inl rfl⟩) fun z => ⟨ss, z, .inr rfl⟩
        have k11 := KeepT.but hv10 b11
        have bt11 := bt10.trans b11
        have do11 := dp_keep k11 _ _ (nlr rs) do10
        have d311 := dp_keep k11 _ _ (nlr ss) d310
        -- fresh
        refine ⟨_, rfl, rfl, rfl, ?_⟩
        intro p2 dx2 np2 nd2 ne2'
        refine init_good hq11 ocs (by omega) (by omega) np2 nd2 ne2' fun G12 dl2 de2 s12 nl2 nE2 _ _ dk2 => ⟨rfl, rfl, rfl, ?_⟩
        intro j2 jdx2 nj2 ndj2 nej2
        refine jinit_good dk2 ocs (by omega) (by omega) rfl J' nj2 ndj2 nej2 fun G13 b2 z2 s13 J13 => ⟨rfl, ?_⟩
        have s1113 := s12.trans s13
        have bt13 := bt11.same s1113
        have hv13 := hv11.same s1113
        have do13 := dp_same s1113 _ _ do11
        have d313 := dp_same s1113 _ _ d311
        have frd : Fd (.tuple (rs.map recD)) := jr_fd J1.oc J1.n1 J1.n2 ⟨b, z, J1.st⟩
        have fss : Fd (.tuple (ss.map recD)) := jr_fd J4.oc J4.n1 J4.n2 ⟨b', z', J4.st⟩
        have fd : Fd (.tuple (rs'.map recD)) := jr_fd ocs (by omega) (by omega) J'
        have nl0 := free_but bt11 hv11 nl2
        have nE0 := free_but bt11 hv11 nE2
        have nj0 := free_but (bt11.same s12) (hv11.same s12) nj2
        dsimp only [gName]
        refine seq_out (t := tIfS _ _ _) (fun σ' G' => σ' = [some (.ref h), some (.int (n : Nat)), some (.int (tn : Nat)), some (.int (ct : Nat)), some (.ref j), some (.ref oq), some (.int (0 + (i : Int))), some (.int (evs.length : Nat)), some (.ref q3), some (.ref p), some (.int ((evs.length + ev1.length : Nat) : Int)), some (.ref q11), some (.ref j2)] ∧ Same G13 G') (fun N2 hN2 => ?_) (fun σ' G14 hR => ?_)
        · refine ⟨_, rfl, j2, jdx2, _, rfl, J13.obj, jf_no _ _ _ (by decide +kernel) (by decide +kernel) (by decide +kernel), j2, jdx2, p2, dx2, q11, dl2, de2, cs, _, _, b2, z2, rs', rfl, J13, fun G14 tR s14 d14 => ⟨tR, _, rfl, d14, fd.f, fd.dp, fd.c, ?_⟩⟩
          refine ⟨_, rfl, q3, _, rfl, dp_same s14 _ _ d313, fss.f, fss.dp, fss.c, rfl, _, rfl, ?_⟩
          rcases hor with e | e
          · refine ite2 (fun _ => ?_) (fun _ => iteF (hN2 _ _ ⟨rfl, s14⟩))
            have J14 := J13.same s14
            refine ⟨_, rfl, j2, jdx2, _, rfl, J14.obj, jf_no _ _ _ (by decide +kernel) (by decide +kernel) (by decide +kernel), j2, jdx2, p2, dx2, q11, dl2, de2, cs, _, _, b2, z2, rs', rfl, J14, fun G15 tR2 s15 d15 => ⟨tR2, _, rfl, d15, fd.f, fd.dp, fd.c, ?_⟩⟩
            refine ⟨_, rfl, oq, _, rfl, dp_same (s14.trans s15) _ _ do13, frd.f, frd.dp, frd.c, rfl, _, rfl, ?_⟩
            rw [e, decide_eq_true rfl]
            exact iteF (hN2 _ _ ⟨rfl, s14.trans s15⟩)
          · rw [e, decide_eq_true rfl]
            exact iteF (iteF (hN2 _ _ ⟨rfl, s14⟩))
        obtain ⟨rfl, s14⟩ := hR
        have J14 := J13.same s14
        refine ⟨_, rfl, _, rfl, j2, jdx2, _, rfl, J14.obj, jf_no _ _ _ (by decide +kernel) (by decide +kernel) (by decide +kernel), j2, jdx2, p2, dx2, q11, dl2, de2, cs, _, _, b2, z2, rs', rfl, J14, fun G15 tR2 s15 d15 => ?_⟩
        have s1315 := s14.trans s15
        have d315 := dp_same s1315 _ _ d313
        have do15 := dp_same s1315 _ _ do13
        refine ⟨_, rfl, _, _, d15, d315, fd.sh, fss.sh, _, rfl, ?_⟩
        rw [eqv_recs]
        have J15 := J13.same s1315
        have hv15 := hv13.same s1315
        have bt15 := bt13.same s1315
        refine ite2 (fun hq => ?_) (fun hq => ?_)
        · have e : rs' = ss := of_decide_eq_true hq
          rw [e] at J15
          exact ⟨_, rfl, _, _, rfl, _, rfl, j2, q3, _, _, _, _, _, _, _, rfl, bt15, jdx2, p2, dx2, q11, dl2, de2, L11, st11, cs, [], b2, z2, ss, hv15, J15, ne2 hv11.top nl2, ne2 hv11.bot nl2, ne2 hv11.top nE2, ne2 hv11.bot nE2, ocs, .inl rfl, fun a o m => absurd m List.not_mem_nil, Nat.zero_le _, d315, nj0, nl0, nE0⟩
        · have e : rs' = rs := hor.resolve_right fun z => hq (decide_eq_true z)
          rw [e] at J15
          exact ⟨_, rfl, _, _, rfl, _, rfl, j2, oq, _, _, _, _, _, _, _, rfl, bt15, jdx2, p2, dx2, q11, dl2, de2, L11, st11, cs, [], b2, z2, rs, hv15, J15, ne2 hv11.top nl2, ne2 hv11.bot nl2, ne2 hv11.top nE2, ne2 hv11.bot nE2, ocs, .inl rfl, fun a o m => absurd m List.not_mem_nil, Nat.zero_le _, do15, nj0, nl0, nE0⟩
      · obtain ⟨j, oq, y6, y7, y8, y9, y10, y11, y12, rfl, bt, jdx, p, dx, c, dl, de, L1, st1, cells, evs, b, z, rs, hv1, _⟩ := hP
        exact hN _ _ ⟨bt, L1, st1, hv1⟩
    obtain ⟨bt, L1, st1, hv1⟩ := hR
    exact q _ L1 st1 bt hv1
end
end K6
namespace K6
open PySem PySem.Spec PyProof.Rows L2 Gd
theorem size_rep0 (m : Nat) : sizeOf3 (List.replicate m ([] : List Int)) = 3 * m := by
  induction m with
  | zero => rfl
  | succ m ih =>
    rw [List.replicate_succ]
    have e : ∀ t : List (List Int), sizeOf3 (([] : List Int) :: t) = 0 + 3 + sizeOf3 t := fun _ => rfl
    rw [e, ih]
    omega
theorem dp_rep0 {K : PySem.W.Frag} {H : Hp} {p : Addr} (h : SqT K H p []) (m : Nat) : DpAll K H (List.replicate m (.ref p)) ((List.replicate m ([] : List Int)).map recD) := by
  induction m with
  | zero => exact .nil
  | succ m ih =>
    rw [List.replicate_succ, List.replicate_succ, List.map_cons]
    exact .cons (.tup h .nil) ih
theorem JAt.size {K : PySem.W.Frag} {C CJ : Addr} {H : Hp} {j jdx p dx c l e : Addr} {cells pres : List Int} {evs : List Ev} {b z : Nat} {rs : List (List Int)} (J : JAt K C CJ H j jdx p dx c l e cells pres evs b z rs) : z = bbeg pres.length b + sizeOf3 rs := chain_size (bend_le J.n1 J.st.b1) J.st.ch
def JEx (K : PySem.W.Frag) (C CJ : Addr) (G : Hp) (j jdx p dx c l e : Addr) (rs : List (List Int)) : Prop := ∃ cells pres evs b z, JAt K C CJ G j jdx p dx c l e cells pres evs b z rs
section
variable {P : Program} {w : World} {K : PySem.W.Frag} {mg : Str → Option Value} {base : Heap}
/-! ### _law_many_right -/
def spMany : Sp := fun vs H Q _ => vs = [] ∧ ∀ G, Same H G → Q (.bl true) G
theorem ok_many {f C CJ CB CR fI fJ mR mW mN : Addr} {fd fdI fdJ dR dW dN : FuncData} {k : Nat} (F : Fun K "_law_many_right" "_law_many_right" s__law_many_right f fd)
    (T : DTxt K mg C) (TJ : JTxt K mg CJ) (M : Mk K C fI) (MJ : Mk K CJ fJ) (bI : Binds K fdI ["self", "cells"] []) (bJ : Binds K fdJ ["self", "disk"] []) (GI : FnOk P w K mg base CX0 k fI fdI ["self", "cells"] (spInit K C)) (GJ : FnOk P w K mg base (L2.CX P w) k fJ fdJ ["self", "disk"] (spJInit K C CJ CB))
    (MR : Meth K CJ "records" mR) (bR : Binds K dR ["self"] []) (HR : FnOk P w K mg base CX0 (k + 1) mR dR ["self"] (spRecs K C CJ)) (MW : Meth K CJ "write" mW) (bW : Binds K dW ["self", "record"] []) (HW : FnOk P w K mg base (L2.CX P w) (k + 1) mW dW ["self", "record"] (spWrite K C CJ CR))
    (MN : Meth K CJ "renew" mN) (bN : Binds K dN ["self", "records"] []) (HN : FnOk P w K mg base (L2.CX P w) (k + 1) mN dN ["self", "records"] (spRenew K C CJ CR)) (mr : mg "range" = none) :
    FnOk P w K mg base CX0 (k + 1 + 1) f fd [] spMany := by
  refine F.ok sc__law_many_right (fun vs H Q E h => ?_) (fun cdv A outer s H vs Q E hr h => ?_)
  · obtain ⟨rfl, _⟩ := h
    rfl
  · obtain ⟨rfl, q⟩ := h
    refine blk_cons (ps_par (i := 0) (j := 1) rfl sc__law_many_right.nd rfl rfl (by decide) rfl rfl (pa_cons (pe_make MJ GJ hr (by rfl) TJ.mgC bJ .nil passL (pa_cons (pe_make M GI hr (by rfl) T.mgC bI .nil pass0 (pa_cons (pe_op (r := rRepM K) op_repM (pe_tup (pa_cons pe_int pa_nil)) pe_int) pa_nil)) pa_nil))
      (pa_cons (pe_make MJ GJ hr (by rfl) TJ.mgC bJ .nil passL (pa_cons (pe_make M GI hr (by rfl) T.mgC bI .nil pass0 (pa_cons (pe_op (r := rRepM K) op_repM (pe_tup (pa_cons pe_int pa_nil)) pe_int) pa_nil)) pa_nil)) pa_nil)) (by rfl)) ?_
    refine blk_cons (ps_expr (pe_meth (pv 0) TJ.cl MN HN hr bN .nil passL (pa_cons (pe_op (r := rRepM K) op_repM (pe_tup (pa_cons (pe_tup pa_nil) pa_nil)) pe_int) pa_nil))) ?_
    refine blk_cons (ps_for PassesOwn.never rfl (pi_range1 (by rfl) mr (pa_cons pe_int pa_nil)) (pg_name (i := 2) sc__law_many_right.nd rfl (.inl rfl)) (pss_one (ps_expr (pe_meth (pv 1) TJ.cl MW HW hr bW .nil passL (pa_cons (pe_tup pa_nil) pa_nil))))) ?_
    refine blk_cons (ps_ret (pe_and (pe_cmpR (op_eqD hr.units) (pe_meth0 (pv 0) TJ.cl MR HR hr bR .nil pass0) (pe_op (r := rRepM K) op_repM (pe_tup (pa_cons (pe_tup pa_nil) pa_nil)) pe_int) (nomark _))
      (pe_one (pe_cmpR (op_eqD hr.units) (pe_meth0 (pv 1) TJ.cl MR HR hr bR .nil pass0) (pe_op (r := rRepM K) op_repM (pe_tup (pa_cons (pe_tup pa_nil) pa_nil)) pe_int) (nomark _))))) ?_
    refine blk_nil ?_
    -- two journals
    have zl : (List.replicate 400 (0 : Int)).length = 400 := List.length_replicate
    refine ⟨by show 1 ≤ sizeLine; decide, fun p1 m1 => ⟨p1, _, .int 0, rfl, rfl, sqT upd_same, by decide, by decide, fun G2 c s2 hc => ?_⟩⟩
    have s02 := (same_new (o := .tup [.int 0]) m1).trans s2
    have hc' : SqT K G2 c ((List.replicate 400 (0 : Int)).map V.int) := by
      rw [List.map_replicate]
      exact hc
    intro p dx np nd ne
    refine init_good hc' (zeros_o 400) (by rw [zl]; decide) (by rw [zl]; decide) np nd ne fun G3 dl de s3 nl nE _ _ d3 => ⟨rfl, ?_⟩
    intro j jdx nj ndj nej
    refine jinit_good d3 (zeros_o 400) (by rw [zl]; decide) (by rw [zl]; decide) rfl ⟨0, _, zeros_j (n := 400) (by decide)⟩ nj ndj nej fun G4 b z s4 J4 => ⟨rfl, ?_⟩
    refine ⟨by show 1 ≤ sizeLine; decide, fun p1' m1' => ⟨p1', _, .int 0, rfl, rfl, sqT upd_same, by decide, by decide, fun G5 c' s5 hc5 => ?_⟩⟩
    have s45 := (same_new (o := .tup [.int 0]) m1').trans s5
    have hc5' : SqT K G5 c' ((List.replicate 400 (0 : Int)).map V.int) := by
      rw [List.map_replicate]
      exact hc5
    intro p' dx' np' nd' ne'
    refine init_good hc5' (zeros_o 400) (by rw [zl]; decide) (by rw [zl]; decide) np' nd' ne' fun G6 dl' de' s6 nl' nE' _ _ d6 => ⟨rfl, ?_⟩
    intro j' jdx' nj' ndj' nej'
    refine jinit_good d6 (zeros_o 400) (by rw [zl]; decide) (by rw [zl]; decide) rfl ⟨0, _, zeros_j (n := 400) (by decide)⟩ nj' ndj' nej' fun G7 b' z' s7 J7 => ⟨rfl, ⟨_, _, rfl, ?_⟩⟩
    have s37 := ((s45.trans s6).trans s7)
    have sH7 := (((s02.trans s3).trans s4).trans s37)
    have Hj : H j = none := (s02.trans s3).free nj
    have Hl : H dl = none := s02.free nl
    have He : H de = none := s02.free nE
    have s05 := ((s02.trans s3).trans s4).trans s45
    have Hj' : H j' = none := (s05.trans s6).free nj'
    have Hl' : H dl' = none := s05.free nl'
    have He' : H de' = none := s05.free nE'
    have D1 : ∀ {a : Addr}, G4 a ≠ none → a ∉ [j', dl', de'] := fun {a} h m => by
      have y1 : G4 j' = none := (s45.trans s6).free nj'
      have y2 : G4 dl' = none := s45.free nl'
      have y3 : G4 de' = none := s45.free nE'
      simp at m
      rcases m with m | m | m <;> subst m
      · exact h y1
      · exact h y2
      · exact h y3
    have J7a := J4.same s37
    obtain ⟨us4, he4, _⟩ := J4.dk.hap
    have dj : j ∉ [j', dl', de'] := D1 (by rw [J4.obj]; exact fun z => nomatch z)
    have dp' : p ∉ [j', dl', de'] := D1 (by rw [J4.dk.obj]; exact fun z => nomatch z)
    have ddl : dl ∉ [j', dl', de'] := D1 (by rw [J4.dk.pre]; exact fun z => nomatch z)
    have dde : de ∉ [j', dl', de'] := D1 (by rw [he4]; exact fun z => nomatch z)
    have pn : p' ∉ [j, dl, de] := fun m => by
      have y : G4 p' = none := s45.free np'
      simp at m
      rcases m with m | m | m
      · rw [m, J4.obj] at y; cases y
      · rw [m, J4.dk.pre] at y; cases y
      · rw [m, he4] at y; cases y
    have jn' : j' ∉ [j, dl, de] ∧ dl' ∉ [j, dl, de] ∧ de' ∉ [j, dl, de] := by
      simp at dj ddl dde
      simp
      refine ⟨⟨fun z => dj.1 z.symm, fun z => ddl.1 z.symm, fun z => dde.1 z.symm⟩, ⟨fun z => dj.2.1 z.symm, fun z => ddl.2.1 z.symm, fun z => dde.2.1 z.symm⟩, fun z => dj.2.2 z.symm, fun z => ddl.2.2 z.symm, fun z => dde.2.2 z.symm⟩
    -- renew
    refine ⟨_, rfl, j, jdx, _, rfl, J7a.obj, jf_no _ _ _ (by decide +kernel) (by decide +kernel) (by decide +kernel), Nat.zero_le _, fun t0 nt0 => ⟨by show 1 ≤ sizeLine; decide, fun t1 nt1 => ⟨t1, _, .ref t0, rfl, rfl, sqT upd_same, by decide, by decide, fun G8 r8 s8 hr8 => ?_⟩⟩⟩
    have st0 := same_new (o := .tup [.ref t0]) nt1
    have ht0 : SqT K G8 t0 [] := same_seqT s8 (same_seqT st0 (sqT upd_same))
    have s78 := ((same_new (o := .tup []) nt0).trans st0).trans s8
    have J8 := J7a.same s78
    have J8' := J7.same s78
    refine ⟨j, jdx, p, dx, c, dl, de, r8, _, _, [], b, z, [], List.replicate 24 [], rfl, J8, .tup hr8 (dp_rep0 ht0 24), fun r hr => ?_, by rw [size_rep0]; decide, Nat.zero_le _, fun fit G9 f9 J9 => ?_, fun nf => absurd (by rw [bend_eq, size_rep0, zl]; omega) nf⟩
    · rw [(List.mem_replicate.mp hr).2]
      exact fun o ho => absurd ho List.not_mem_nil
    have J9' := J8'.frmU f9 jn'.1 pn jn'.2.1 jn'.2.2
    have sH9 : Same H G9 := fun a o e => f9.ks _ _ (by
      have y1 : a ≠ j := ne_of_none e Hj
      have y2 : a ≠ dl := ne_of_none e Hl
      have y3 : a ≠ de := ne_of_none e He
      simp [y1, y2, y3]) (s78 _ _ (sH7 _ _ e))
    dsimp only [gName]
    refine seq_out (t := tFor _ _ _) (fun σ' G' => ∃ (y2 : Option V) (pres2 : List Int) (evs2 : List Ev) (z2 : Nat), σ' = [some (.ref j), some (.ref j'), y2] ∧ Same H G' ∧ JEx K C CJ G' j jdx p dx c dl de (List.replicate 24 []) ∧ JAt K C CJ G' j' jdx' p' dx' c' dl' de' (List.replicate 400 0) pres2 evs2 b' z2 (List.replicate 24 [])) (fun N hN => ?_) (fun σ' G10 hR => ?_)
    · refine ⟨_, rfl, by decide, by decide, for_range (lo := 0) (fun i σ G => ∃ (y2 : Option V) (pres2 : List Int) (evs2 : List Ev) (z2 : Nat), σ = [some (.ref j), some (.ref j'), y2] ∧ Same H G ∧ JEx K C CJ G j jdx p dx c dl de (List.replicate 24 []) ∧ JAt K C CJ G j' jdx' p' dx' c' dl' de' (List.replicate 400 0) pres2 evs2 b' z2 (List.replicate i []) ∧ pres2.length = 400 ∧ evs2.length ≤ 100 * i)
        ⟨_, _, _, _, rfl, sH9, ⟨_, _, _, _, _, J9⟩, J9', zl, Nat.zero_le _⟩ (fun i σ G hi hP => ?_) (fun σ G hP => ?_)⟩
      · obtain ⟨y2, pres2, evs2, z2, rfl, sG, Ja, Jb, lp, le⟩ := hP
        dsimp only [gName]
        have hz := Jb.size
        rw [size_rep0] at hz
        refine ⟨_, rfl, j', jdx', _, rfl, Jb.obj, jf_no _ _ _ (by decide +kernel) (by decide +kernel) (by decide +kernel), Nat.zero_le _, fun t2 nt2 => ?_⟩
        have s2' := same_new (o := .tup []) nt2
        refine ⟨j', jdx', p', dx', c', dl', de', t2, _, pres2, evs2, b', z2, List.replicate i [], [], rfl, Jb.same s2', sqT upd_same, fun o ho => absurd ho List.not_mem_nil, Nat.zero_le _, by omega, fun fit G11 f11 J11 => ?_, fun nf => absurd (by rw [bend_eq, lp, hz, lp]; show _ + 0 + 3 ≤ _; omega) nf⟩
        rw [← List.replicate_succ'] at J11
        refine ⟨_, _, _, _, rfl, fun a o e => f11.ks _ _ (by
          have y1 : a ≠ j' := ne_of_none e Hj'
          have y2 : a ≠ dl' := ne_of_none e Hl'
          have y3 : a ≠ de' := ne_of_none e He'
          simp [y1, y2, y3]) (s2' _ _ (sG _ _ e)), (let ⟨_, _, _, _, _, Jx⟩ := Ja; ⟨_, _, _, _, _, (Jx.same s2').frmU f11 dj dp' ddl dde⟩), J11, ?_, ?_⟩
        · rw [replay_len]
          exact lp
        · have := chainPuts_len (z2 + 1) (bend pres2.length b') (linkOf []).tail
          rw [tail_len] at this
          rw [List.length_append, twoEv_len]
          unfold wPuts
          have e0 : ([] : List Int).length = 0 := rfl
          omega
      · obtain ⟨y2, pres2, evs2, z2, rfl, sG, Ja, Jb, lp, le⟩ := hP
        exact hN _ _ ⟨_, _, _, _, rfl, sG, Ja, Jb⟩
    obtain ⟨y2, pres2, evs2, z2, rfl, sG, ⟨_, _, _, _, _, Ja⟩, Jb⟩ := hR
    have fd : Fd (.tuple ((List.replicate 24 ([] : List Int)).map recD)) := recs_fd (fun r hr => by
      rw [(List.mem_replicate.mp hr).2]
      exact fun o ho => absurd ho List.not_mem_nil) (by rw [size_rep0]; decide)
    refine ⟨_, rfl, j, jdx, _, rfl, Ja.obj, jf_no _ _ _ (by decide +kernel) (by decide +kernel) (by decide +kernel), j, jdx, p, dx, c, dl, de, _, _, _, _, _, _, rfl, Ja, fun G11 tR s11 d11 => ⟨Nat.zero_le _, fun t5 nt5 => ⟨by show 1 ≤ sizeLine; decide, fun t6 nt6 => ⟨t6, _, .ref t5, rfl, rfl, sqT upd_same, by decide, by decide, fun G12 r12 s12 hr12 => ?_⟩⟩⟩⟩
    have st6 := same_new (o := .tup [.ref t5]) nt6
    have ht5 : SqT K G12 t5 [] := same_seqT s12 (same_seqT st6 (sqT upd_same))
    have sa := ((same_new (o := .tup []) nt5).trans st6).trans s12
    refine ⟨_, _, dp_same sa _ _ d11, .tup hr12 (dp_rep0 ht5 24), fd.sh, fd.sh, ?_⟩
    rw [eqv_recs, decide_eq_true rfl]
    refine ⟨_, rfl, iteT ?_⟩
    have Jb' := Jb.same (s11.trans sa)
    have sG12 := sG.trans (s11.trans sa)
    refine ⟨_, rfl, j', jdx', _, rfl, Jb'.obj, jf_no _ _ _ (by decide +kernel) (by decide +kernel) (by decide +kernel), j', jdx', p', dx', c', dl', de', _, _, _, _, _, _, rfl, Jb', fun G13 tR2 s13 d13 => ⟨Nat.zero_le _, fun t7 nt7 => ⟨by show 1 ≤ sizeLine; decide, fun t8 nt8 => ⟨t8, _, .ref t7, rfl, rfl, sqT upd_same, by decide, by decide, fun G14 r14 s14 hr14 => ?_⟩⟩⟩⟩
    have st8 := same_new (o := .tup [.ref t7]) nt8
    have ht7 : SqT K G14 t7 [] := same_seqT s14 (same_seqT st8 (sqT upd_same))
    have sb := ((same_new (o := .tup []) nt7).trans st8).trans s14
    refine ⟨_, _, dp_same sb _ _ d13, .tup hr14 (dp_rep0 ht7 24), fd.sh, fd.sh, ?_⟩
    rw [eqv_recs, decide_eq_true rfl]
    exact q _ ((sG12.trans s13).trans sb)
end
end K6
namespace K6
open PySem PySem.Spec PyProof.Rows L2 Gd
section
variable {P : Program} {w : World} {K : PySem.W.Frag} {mg : Str → Option Value} {base : Heap}
/-! ### _law_strange_right -/
def spStr : Sp := fun vs H Q _ => ∃ (h l : Addr) (L : List Int) (st : Int), vs = [.ref h] ∧ Hv H h l L st ∧ ∀ (G : Hp) (L' : List Int) (st' : Int), But h l H G → Hv G h l L' st' → Q (.bl true) G
theorem ok_strange {f C CJ CR CB CD fD fP fO fI fJ fB fR mR : Addr} {fd fdD fdP fdO fdI fdJ dR : FuncData} {k : Nat} (F : Fun K "_law_strange_right" "_law_strange_right" s__law_strange_right f fd) (FD : Fun K "_law_draw" "_law_draw" s__law_draw fD fdD) (bD : Binds K fdD ["heap", "many"] []) (gD : mg "_law_draw" = some (.ref fD)) (GD : FnOk P w K mg base CX0 (k + 1) fD fdD ["heap", "many"] spDraw)
    (FP : Fun K "_law_pick" "_law_pick" s__law_pick fP fdP) (bP : Binds K fdP ["heap", "some"] []) (gP : mg "_law_pick" = some (.ref fP)) (GP : FnOk P w K mg base CX0 (k + 1) fP fdP ["heap", "some"] (spPick K)) (FO : Fun K "_law_octet" "_law_octet" s__law_octet fO fdO) (bO : Binds K fdO ["heap"] []) (gO : mg "_law_octet" = some (.ref fO)) (GO : FnOk P w K mg base CX0 (k + 1) fO fdO ["heap"] spOctet)
    (T : DTxt K mg C) (TJ : JTxt K mg CJ) (M : Mk K C fI) (MJ : Mk K CJ fJ) (bI : Binds K fdI ["self", "cells"] []) (bJ : Binds K fdJ ["self", "disk"] []) (GI : FnOk P w K mg base CX0 k fI fdI ["self", "cells"] (spInit K C)) (GJ : FnOk P w K mg base (L2.CX P w) k fJ fdJ ["self", "disk"] (spJInit K C CJ CB))
    (TB : WTxt K mg "Broken" CB fB) (TR : WTxt K mg "Refused" CR fR) (TE : ETxt K mg CR CB CD) (MR : Meth K CJ "records" mR) (bR : Binds K dR ["self"] []) (HR : FnOk P w K mg base CX0 (k + 1) mR dR ["self"] (spRecs K C CJ)) (mr : mg "range" = none) (mt : mg "tuple" = none) (mI : mg "isinstance" = none) (ma : mg "all" = none) :
    FnOk P w K mg base CX0 (k + 1 + 1) f fd ["heap"] spStr := by
  refine F.ok sc__law_strange_right (fun vs H Q E h => ?_) (fun cdv A outer s H vs Q E hr h => ?_)
  · obtain ⟨h, l, L, st, rfl, _⟩ := h
    rfl
  · obtain ⟨h, l, L, st, rfl, hv, q⟩ := h
    refine blk_cons (ps_set (i := 1) sc__law_strange_right.nd rfl (.inl rfl) (pe_callTy call_tuple_of (by rfl) mt (by decide +kernel) (pa_cons (pe_lc (own := [("at", 5)]) (g := gName 5) (tt := tYes) rfl sc__law_strange_right.nd (pi_range1 (by rfl) mr (pa_cons (pe_op op_add pe_int (pe_call GD hr (by rfl) gD FD.kp bD .nil pass0 (pa_cons (pv 0) (pa_cons pe_int pa_nil)))) pa_nil)) (blkOk_by (own := [("at", 5)]) (N := n__law_strange_right) (sc := defScope s__law_strange_right) (by decide +kernel))
        (fun _ _ _ _ _ => pg_name (i := 5) sc__law_strange_right.nd rfl (Or.inl rfl)) (fun _ _ _ _ _ => pts_nil) (fun _ _ _ _ _ => pe_call GP hr (by rfl) gP FP.kp bP .nil pass0 (pa_cons (pv 0) (pa_cons (pe_lst (pa_cons pe_int (pa_cons pe_int (pa_cons pe_int (pa_cons (pe_call GO hr (by rfl) gO FO.kp bO .nil pass0 (pa_cons (pv 0) pa_nil)) pa_nil))))) pa_nil)))) pa_nil))) ?_
    refine blk_cons (ps_try_as (i := 3) rfl rfl sc__law_strange_right.nd rfl rfl ⟨rfl, by decide, .inl TE.gD⟩ takes0
      (fun W pn xe tk _ => pss_one (ps_set (i := 2) sc__law_strange_right.nd rfl (.inl rfl) (pe_makeS (E := fun σ => WE W σ) MJ GJ hr (by rfl) TJ.mgC bJ (fun σ => passAt tk σ) (pa_cons (pe_make M GI hr (by rfl) T.mgC bI .nil pass0 (pa_cons (pv 1) pa_nil)) pa_nil))))
      (fun a oe cls d pn hz hf => pss_one (ps_ret (pe_and (pe_callB (call_isE3 TE.cB hz hf) (by rfl) mI (by decide +kernel) (pa_cons (pv 3) (pa_cons (pe_glob (v := .ref CB) (by rfl) TB.gR rfl) pa_nil)))
        (pe_and (pe_not (pe_callB (call_isE3 TE.cB hz hf) (by rfl) mI (by decide +kernel) (pa_cons (pv 3) (pa_cons (pe_glob (v := .ref CR) (by rfl) TR.gR rfl) pa_nil))))
        (pe_one (pe_cmpR op_eq (pe_xf TE.xB TB.nW hz hf (pv 3)) pe_str (nomark _)))))))) ?_
    refine blk_cons (ps_set (i := 4) sc__law_strange_right.nd rfl (.inl rfl) (pe_meth0 (pv 2) TJ.cl MR HR hr bR .nil pass0)) ?_
    refine blk_cons (ps_ret (pe_and (pe_callB call_isi (by rfl) mI (by decide +kernel) (pa_cons (pv 4) (pa_cons (pe_bltn (v := .ty "tuple") (by rfl) mt (by decide +kernel) rfl) pa_nil)))
      (pe_one (pe_callB (cr_all rfl) (by rfl) ma (by decide +kernel) (pa_cons (pe_lc (own := [("record", 6)]) (g := gName 6) (tt := tYes) rfl sc__law_strange_right.nd (pi_tup (pv 4)) (blkOk_by (own := [("record", 6)]) (N := n__law_strange_right) (sc := defScope s__law_strange_right) (by decide +kernel))
        (fun _ _ _ _ _ => pg_name (i := 6) sc__law_strange_right.nd rfl (Or.inl rfl)) (fun _ _ _ _ _ => pts_nil) (fun _ _ _ _ _ => pe_callB (r := L2.rIsi K) call_isi (by rfl) mI (by decide +kernel) (pa_cons (pv 6) (pa_cons (pe_bltn (v := .ty "tuple") (by rfl) mt (by decide +kernel) rfl) pa_nil)))) pa_nil))))) ?_
    refine blk_nil ?_
    -- cells
    refine seq_out (t := tAsg _ _) (fun σ' G' => ∃ (c : Addr) (cs : List Int) (L' : List Int) (st' : Int), σ' = [some (.ref h), some (.ref c), none, none, none, none, none] ∧ But h l H G' ∧ Hv G' h l L' st' ∧ SqT K G' c (cs.map V.int) ∧ OctL cs ∧ 1 ≤ cs.length ∧ cs.length ≤ 20000) (fun N hN => ?_) (fun σ' G1 hR => ?_)
    · refine ⟨_, rfl, h, l, L, st, 24, rfl, hv, by decide, by decide, fun G1 L1 st1 m b1 hv1 m0 m1 => ⟨_, _, rfl, rfl, ?_⟩⟩
      obtain ⟨m, rfl⟩ := Int.eq_ofNat_of_zero_le m0
      refine ⟨_, rfl, by omega, by omega, fun D nD => ?_⟩
      have nDh := ne2 hv1.top nD
      have nDl := ne2 hv1.bot nD
      have nD0 := free_but b1 hv1 nD
      dsimp only
      rw [show (1 + (m : Int)).toNat = m + 1 by omega]
      refine lc_range (lo := 0) (n := m + 1) (fun i G => But h l H G ∧ (∃ L5 st5, Hv G h l L5 st5) ∧ ∃ cs : List Int, G D = some (.lst (cs.map V.int)) ∧ cs.length = i ∧ OctL cs) ⟨b1.new nD, ⟨_, _, hv1.new nD⟩, [], upd_same, rfl, fun o ho => absurd ho List.not_mem_nil⟩ (fun i G hi hP => ?_) (fun G hP => ?_)
      · obtain ⟨b5, ⟨L5, st5, hv5⟩, cs, gD, cl, co⟩ := hP
        refine ⟨rfl, ?_⟩
        dsimp only [tYes]
        rw [if_pos rfl]
        refine ⟨_, rfl, _, rfl, h, l, L5, st5, rfl, hv5, fun G6 L6 st6 o b6 hv6 o0 o1 => ⟨by show 4 ≤ sizeLine; decide, fun p7 n7 => ?_⟩⟩
        refine ⟨h, l, L6, st6, p7, [.int 0, .int 0, .int 1, .int o], rfl, hv6.new n7, sqL upd_same, ne2 hv6.top n7, ne2 hv6.bot n7, by show 0 < 4; decide, by show 4 < 1000; decide, fun G8 L8 st8 ix x b8 hv8 hx => ?_⟩
        obtain ⟨v, rfl, hvo⟩ : ∃ v : Int, x = .int v ∧ Oct v := by
          match ix, hx with
          | 0, hx => cases hx; exact ⟨_, rfl, by decide, by decide⟩
          | 1, hx => cases hx; exact ⟨_, rfl, by decide, by decide⟩
          | 2, hx => cases hx; exact ⟨_, rfl, by decide, by decide⟩
          | 3, hx => cases hx; exact ⟨_, rfl, o0, o1⟩
          | _ + 4, hx => simp at hx
        have b58 := (b6.new n7).trans b8
        have gD8 := b58 _ _ nDh nDl gD
        refine ⟨_, gD8, by rw [List.length_map, sizeLine_eq]; omega, fun bb ob y1 y2 eb => (upd_ne (ne_of_none eb nD0)).trans (b58 _ _ y1 y2 (b5 _ _ y1 y2 eb)), ⟨L8, st8, ⟨(upd_ne nDh.symm).trans hv8.top, (upd_ne nDl.symm).trans hv8.bot, hv8.ne, hv8.lo, hv8.hi, hv8.len⟩⟩, cs ++ [v], by rw [upd_same, List.map_append]; rfl, by rw [List.length_append, cl]; rfl, fun x hx => ?_⟩
        rcases List.mem_append.mp hx with z | z
        · exact co x z
        · rw [List.mem_singleton.mp z]
          exact hvo
      · obtain ⟨b5, ⟨L5, st5, hv5⟩, cs, gD, cl, co⟩ := hP
        exact ⟨D, _, rfl, .inl ⟨sqL gD, fun q1 n1 => hN _ _ ⟨q1, cs, L5, st5, rfl, b5.new n1, hv5.new n1, sqT upd_same, co, by omega, by omega⟩⟩⟩
    obtain ⟨c, cs, L1, st1, rfl, b1, hv1, hc, co, c1, c2⟩ := hR
    -- the journal
    refine ⟨_, rfl, ?_⟩
    intro p dx np nd ne
    refine init_good hc co c1 c2 np nd ne fun G2 dl de s2 nl nE _ _ d2 => ⟨rfl, ?_⟩
    intro j jdx nj ndj nej
    have nj2 : (upd G2 jdx (.own j)) j = none := (upd_ne (Ne.symm nej)).trans nj
    have sm : Same G2 (upd (upd G2 jdx (.own j)) j (.ins CJ jdx [])) := (same_new ndj).trans (same_new nj2)
    have dk := d2.same sm
    have s2m := s2.trans sm
    have hv2 := hv1.same s2m
    have nj0 : G1 j = none := s2.free nj
    have nHj : H j = none := free_but b1 hv1 nj0
    have jh : h ∉ [j] := by simpa using (ne2 hv1.top nj0).symm
    have jl : l ∉ [j] := by simpa using (ne2 hv1.bot nj0).symm
    have bG : ∀ {G : Hp}, FrmU [j] (upd (upd G2 jdx (.own j)) j (.ins CJ jdx [])) G → But h l H G := fun f a o y1 y2 e => f.ks _ _ (by simpa using ne_of_none e nHj) (s2m _ _ (b1 _ _ y1 y2 e))
    refine ⟨j, jdx, p, dx, c, dl, de, cs, cs, [], rfl, upd_same, ne_of_none d2.obj nj, dk, co, c1, c2, rfl, fun b z rs G jst f gj => ⟨rfl, ?_⟩, fun no d G nd f gd => ?_⟩
    · have n1 : p ≠ j := ne_of_none d2.obj nj
      have n2 : dl ≠ j := ne_of_none d2.pre nj
      obtain ⟨us2, he2, _⟩ := d2.hap
      have n3 : de ≠ j := ne_of_none he2 nj
      have J : JAt K C CJ G j jdx p dx c dl de cs cs [] b z rs := ⟨gj, dk.frmU f (by simpa using n1) (by simpa using n2) (by simpa using n3), co, c1, c2, rfl, jst⟩
      refine ⟨_, rfl, j, jdx, _, rfl, gj, jf_no _ _ _ (by decide +kernel) (by decide +kernel) (by decide +kernel), j, jdx, p, dx, c, dl, de, cs, cs, [], b, z, rs, rfl, J, fun G3 t s3 d3 => ?_⟩
      obtain ⟨_, us, eu, hus, dus⟩ := tup_inv d3
      cases eu
      have b3 := (bG f).same s3
      have hv3 := (hv2.frmU f jh jl).same s3
      refine ⟨_, rfl, _, _, _, _, true, rfl, .ty "tuple", tyT hus, kit_ty (by decide +kernel), _, rfl, iteT ?_⟩
      refine ⟨_, rfl, t, rfl, ⟨_, hus⟩, fun D nD => lc_tup (K := K) (a := t) (xs := us) (fun i G => Same G3 G ∧ G D = some (.lst ((List.replicate i true).map V.bl))) ⟨same_new nD, upd_same⟩ (fun i G _ hP => same_seqT hP.1 hus) (fun i x G hx hP => ?_) (fun G hP => ?_)⟩
      · obtain ⟨s4, gD⟩ := hP
        obtain ⟨r0, hr1, hr2⟩ := rec_at dus hx
        obtain ⟨qx, rfl, hqx⟩ := tints_inv hr2
        have hi := (List.getElem?_eq_some_iff.mp hr1).1
        have lrs : rs.length ≤ 20000 := by
          have h1 := chain_len jst.ch
          have h2 := chain_le jst.ch
          have h3 := bend_le c1 jst.b1
          omega
        refine ⟨rfl, ?_⟩
        dsimp only [tYes]
        rw [if_pos rfl]
        refine ⟨_, rfl, _, _, _, _, true, rfl, .ty "tuple", tyT (same_seqT s4 hqx), kit_ty (by decide +kernel), _, gD, by rw [List.length_map, List.length_replicate, sizeLine_eq]; omega, fun bb ob eb => (upd_ne (ne_of_none eb nD)).trans (s4 _ _ eb), ?_⟩
        rw [upd_same, List.replicate_succ', List.map_append]
        rfl
      · obtain ⟨s4, gD⟩ := hP
        refine ⟨D, _, rfl, sqL gD, ?_⟩
        rw [show (List.replicate us.length true).all id = true from List.all_eq_true.mpr fun x hx => by rw [(List.mem_replicate.mp hx).2]; rfl]
        exact q _ L1 st1 (b3.same s4) (hv3.same s4)
    · refine ⟨true, TE.exB, fun _ a na => ?_, fun z => nomatch z⟩
      refine ⟨_, rfl, rfl, .ref CB, _, true, rfl, .own CB, TE.isBB, .inr ⟨d, _, rfl, gd, by decide +kernel⟩, _, rfl, iteT ?_⟩
      refine ⟨_, rfl, rfl, .ref CR, _, false, rfl, .own CR, TE.isBR, .inr ⟨d, _, rfl, gd, by decide +kernel⟩, _, rfl, ?_⟩
      refine ⟨_, rfl, iteT ?_⟩
      refine ⟨_, rfl, rfl, rfl, d, _, .str "journal", rfl, gd, by decide +kernel, rfl, ?_⟩
      rw [decide_eq_true rfl]
      exact q _ L1 st1 (bG f) (hv2.frmU f jh jl)
end
end K6
namespace K6
open PySem PySem.Spec PyProof.Rows L2 Gd
theorem disp3 {K : PySem.W.Frag} {σ : L2.St} {H : Hp} : Gv K σ H (tTup (tCons (tTup tNil) (tCons (tTup (tCons (tC (.int 0)) tNil)) (tCons (tTup (tCons (tC (.int 255)) tNil)) tNil)))) (.tuple (([[], [0], [255]] : List (List Int)).map recD)) :=
  gv_tup (gvA_cons (gv_tup gvA_nil) fun _ _ => gvA_cons (gv_tup (gvA_cons gv_int fun _ _ => gvA_nil)) fun _ _ => gvA_cons (gv_tup (gvA_cons gv_int fun _ _ => gvA_nil)) fun _ _ => gvA_nil)
theorem wLen (z : Nat) (r : List Int) (stop x : Nat) (v : Int) : (twoEv (wPuts z r stop) x v).length ≤ r.length + 6 := by
  rw [twoEv_len]
  have := chainPuts_len (z + 1) stop (linkOf r).tail
  rw [tail_len] at this
  unfold wPuts
  omega
theorem rLen (n b : Nat) (ss : List (List Int)) (x : Nat) (v : Int) : (twoEv (rPuts n b ss) x v).length ≤ sizeOf3 ss + 4 := by
  rw [twoEv_len]
  have := chainPuts_len (bbeg n (1 - b)) (bend n (1 - b)) (ss.map linkOf).flatten
  rw [flat_len] at this
  unfold rPuts
  omega
section
variable {P : Program} {w : World} {K : PySem.W.Frag} {mg : Str → Option Value} {base : Heap}
/-! ### law -/
def spLaw (K : PySem.W.Frag) : Sp := fun vs H Q _ => ∃ (a : Addr) (ns : List Int), vs = [.ref a] ∧ SqL K H a (ns.map V.int) ∧ ns.length ≤ 63 ∧ ∀ G, Q (.bl true) G
theorem ok_law {f C CJ CB CR fHe fD fP fDy fSt fMa fOp fI fJ mR mW mN mL : Addr} {fd fdHe fdD fdP fdDy fdSt fdMa fdOp fdI fdJ dR dW dN dL : FuncData} {k : Nat} (F : Fun K "law" "law" s_law f fd)
    (FHe : Fun K "_law_heap" "_law_heap" s__law_heap fHe fdHe) (bHe : Binds K fdHe ["script"] []) (gHe : mg "_law_heap" = some (.ref fHe)) (GHe : FnOk P w K mg base CX0 (k + 1) fHe fdHe ["script"] (spHeap K))
    (FD : Fun K "_law_draw" "_law_draw" s__law_draw fD fdD) (bD : Binds K fdD ["heap", "many"] []) (gD : mg "_law_draw" = some (.ref fD)) (GD : FnOk P w K mg base CX0 (k + 1) fD fdD ["heap", "many"] spDraw)
    (FP : Fun K "_law_pick" "_law_pick" s__law_pick fP fdP) (bP : Binds K fdP ["heap", "some"] []) (gP : mg "_law_pick" = some (.ref fP)) (GP : FnOk P w K mg base CX0 (k + 1) fP fdP ["heap", "some"] (spPick K))
    (FDy : Fun K "_law_day_right" "_law_day_right" s__law_day_right fDy fdDy) (bDy : Binds K fdDy ["heap", "many", "turns", "cuts"] []) (gDy : mg "_law_day_right" = some (.ref fDy)) (GDy : FnG P w K mg base (k + 1) fDy fdDy ["heap", "many", "turns", "cuts"] (spDay K))
    (FSt : Fun K "_law_strange_right" "_law_strange_right" s__law_strange_right fSt fdSt) (bSt : Binds K fdSt ["heap"] []) (gSt : mg "_law_strange_right" = some (.ref fSt)) (GSt : FnOk P w K mg base CX0 (k + 1) fSt fdSt ["heap"] spStr)
    (FMa : Fun K "_law_many_right" "_law_many_right" s__law_many_right fMa fdMa) (bMa : Binds K fdMa [] []) (gMa : mg "_law_many_right" = some (.ref fMa)) (GMa : FnOk P w K mg base CX0 (k + 1) fMa fdMa [] spMany)
    (FOp : Fun K "_law_opened" "_law_opened" s__law_opened fOp fdOp) (bOp : Binds K fdOp ["cells"] []) (gOp : mg "_law_opened" = some (.ref fOp)) (GOp : FnOk P w K mg base CX0 (k + 1) fOp fdOp ["cells"] (spOpened K))
    (T : DTxt K mg C) (TJ : JTxt K mg CJ) (M : Mk K C fI) (MJ : Mk K CJ fJ) (bI : Binds K fdI ["self", "cells"] []) (bJ : Binds K fdJ ["self", "disk"] []) (GI : FnOk P w K mg base CX0 k fI fdI ["self", "cells"] (spInit K C)) (GJ : FnOk P w K mg base (L2.CX P w) k fJ fdJ ["self", "disk"] (spJInit K C CJ CB))
    (MR : Meth K CJ "records" mR) (bR : Binds K dR ["self"] []) (HR : FnOk P w K mg base CX0 (k + 1) mR dR ["self"] (spRecs K C CJ)) (MW : Meth K CJ "write" mW) (bW : Binds K dW ["self", "record"] []) (HW : FnOk P w K mg base (L2.CX P w) (k + 1) mW dW ["self", "record"] (spWrite K C CJ CR))
    (MN : Meth K CJ "renew" mN) (bN : Binds K dN ["self", "records"] []) (HN : FnOk P w K mg base (L2.CX P w) (k + 1) mN dN ["self", "records"] (spRenew K C CJ CR)) (ML : Meth K C "look" mL) (bL : Binds K dL ["self", "at"] []) (HL : FnOk P w K mg base CX0 (k + 1) mL dL ["self", "at"] (spLook K C))
    (ml : mg "len" = none) (mi : mg "int" = none) (mr : mg "range" = none) (mt : mg "tuple" = none) :
    FnG P w K mg base (k + 1 + 1) f fd ["script"] (spLaw K) := by
  refine okG F sc_law (fun vs H Q E h => ?_) (fun cdv A outer s H vs Q E hrg h => ?_)
  · obtain ⟨a, ns, rfl, _⟩ := h
    rfl
  · obtain ⟨a, ns, rfl, hS, hlen, q⟩ := h
    have hr := hrg.rm
    have hgd := hrg.gd
    refine blk_cons (ps_set (i := 1) sc_law.nd rfl (.inl rfl) (pe_call GHe hr (by rfl) gHe FHe.kp bHe .nil pass0 (pa_cons (pv 0) pa_nil))) ?_
    refine blk_cons (ps_set (i := 2) sc_law.nd rfl (.inl rfl) (pe_ifExp (pt_cmpR op_gt (pe_callB call_len_seq (by rfl) ml PySem.boot_len (pa_cons (pv 0) pa_nil)) pe_int (nomark _)) (pe_lst (pa_cons pe_int (pa_cons pe_int (pa_cons pe_int (pa_cons pe_int (pa_cons pe_int (pa_cons pe_int pa_nil))))))) (pe_lst (pa_cons pe_int (pa_cons pe_int (pa_cons pe_int pa_nil)))))) ?_
    refine blk_cons (ps_if (pt_not (pt_val (pe_callG (E := E0) GDy hrg (by rfl) gDy FDy.kp bDy .nil (pa_cons (pv 1) (pa_cons (pe_call GP hr (by rfl) gP FP.kp bP .nil pass0 (pa_cons (pv 1) (pa_cons (pv 2) pa_nil)))
      (pa_cons (pe_op op_add pe_int (pe_op op_mul pe_int (pe_callTy call_int1 (by rfl) mi (by decide +kernel) (pa_cons (pe_cmpR op_gt (pe_callB call_len_seq (by rfl) ml PySem.boot_len (pa_cons (pv 0) pa_nil)) pe_int (nomark _)) pa_nil))))
      (pa_cons (pe_op op_add pe_int (pe_op op_mul pe_int (pe_callTy call_int1 (by rfl) mi (by decide +kernel) (pa_cons (pe_cmpR op_gt (pe_callB call_len_seq (by rfl) ml PySem.boot_len (pa_cons (pv 0) pa_nil)) pe_int (nomark _)) pa_nil)))) pa_nil))))))) (pss_one (ps_ret pe_bl)) pss_nil) ?_
    refine blk_cons (ps_if (pt_not (pt_val (pe_callG (E := E0) GDy hrg (by rfl) gDy FDy.kp bDy .nil (pa_cons (pv 1) (pa_cons (pe_op op_add pe_int (pe_call GD hr (by rfl) gD FD.kp bD .nil pass0 (pa_cons (pv 1) (pa_cons pe_int pa_nil)))) (pa_cons pe_int (pa_cons pe_int pa_nil))))))) (pss_one (ps_ret pe_bl)) pss_nil) ?_
    refine blk_cons (ps_if (PW.pt (pw_and (pt_cmpR op_gt (pe_callB call_len_seq (by rfl) ml PySem.boot_len (pa_cons (pv 0) pa_nil)) pe_int (nomark _)) (pw_and (pt_cmpR op_eq (pe_call GD hr (by rfl) gD FD.kp bD .nil pass0 (pa_cons (pv 1) (pa_cons pe_int pa_nil))) pe_int (nomark _))
      (pw_and1 (pt_not (pt_val (pe_callG (E := E0) GDy hrg (by rfl) gDy FDy.kp bDy .nil (pa_cons (pv 1) (pa_cons (pe_op op_add pe_int (pe_call GD hr (by rfl) gD FD.kp bD .nil pass0 (pa_cons (pv 1) (pa_cons pe_int pa_nil)))) (pa_cons pe_int (pa_cons pe_int pa_nil)))))))))) ) (pss_one (ps_ret pe_bl)) pss_nil) ?_
    refine blk_cons (ps_if (PW.pt (pw_or (pt_not (pt_val (pe_call GSt hr (by rfl) gSt FSt.kp bSt .nil pass0 (pa_cons (pv 1) pa_nil)))) (pw_or1 (PW.pt (pw_and (pt_cmpR op_gt (pe_callB call_len_seq (by rfl) ml PySem.boot_len (pa_cons (pv 0) pa_nil)) pe_int (nomark _)) (pw_and (pt_cmpR op_eq (pe_call GD hr (by rfl) gD FD.kp bD .nil pass0 (pa_cons (pv 1) (pa_cons pe_int pa_nil))) pe_int (nomark _))
      (pw_and1 (pt_not (pt_val (pe_call0 GMa hr (by rfl) gMa FMa.kp bMa .nil pass0)))))))))) (pss_one (ps_ret pe_bl)) pss_nil) ?_
    refine blk_cons (ps_set (i := 3) sc_law.nd rfl (.inr rfl) (pe_make MJ GJ hr (by rfl) TJ.mgC bJ .nil passL (pa_cons (pe_make M GI hr (by rfl) T.mgC bI .nil pass0 (pa_cons (pe_op (r := rRepM K) op_repM (pe_tup (pa_cons pe_int pa_nil)) pe_int) pa_nil)) pa_nil))) ?_
    refine blk_cons (ps_expr (pe_meth (pv 3) TJ.cl MW HW hr bW .nil passL (pa_cons (pe_tup (pa_cons pe_int (pa_cons pe_int (pa_cons pe_int pa_nil)))) pa_nil))) ?_
    refine blk_cons (ps_expr (pe_meth (pv 3) TJ.cl MN HN hr bN .nil passL (pa_cons (pe_tup (pa_cons (pe_tup pa_nil) (pa_cons (pe_tup (pa_cons pe_int pa_nil)) pa_nil))) pa_nil))) ?_
    refine blk_cons (ps_expr (pe_meth (pv 3) TJ.cl MW HW hr bW .nil passL (pa_cons (pe_tup (pa_cons pe_int pa_nil)) pa_nil))) ?_
    refine blk_cons (ps_ret (pe_and (pe_cmpR (op_eqD hr.units) (pe_meth0 (pv 3) TJ.cl MR HR hr bR .nil pass0) (pe_tup (pa_cons (pe_tup pa_nil) (pa_cons (pe_tup (pa_cons pe_int pa_nil)) (pa_cons (pe_tup (pa_cons pe_int pa_nil)) pa_nil)))) (nomark _))
      (pe_one (pe_cmpR (op_eqD hr.units) (pe_call GOp hr (by rfl) gOp FOp.kp bOp .nil pass0 (pa_cons (pe_callTy call_tuple_of (by rfl) mt (by decide +kernel) (pa_cons (pe_lc (own := [("at", 4)]) (g := gName 4) (tt := tYes) rfl sc_law.nd (pi_range1 (by rfl) mr (pa_cons pe_int pa_nil)) (blkOk_by (own := [("at", 4)]) (N := n_law) (sc := defScope s_law) (by decide +kernel))
        (fun _ _ _ _ _ => pg_name (i := 4) sc_law.nd rfl (Or.inl rfl)) (fun _ _ _ _ _ => pts_nil) (fun _ _ _ _ _ => pe_meth (show PE _ _ (tFld K (tVar 3) "disk") from pe_fld (pv 3) rfl) T.cl ML HL hr bL .nil pass0 (pa_cons (pv 4) pa_nil))) pa_nil)) pa_nil)) (pe_tup (pa_cons (pe_tup pa_nil) (pa_cons (pe_tup (pa_cons pe_int pa_nil)) (pa_cons (pe_tup (pa_cons pe_int pa_nil)) pa_nil)))) (nomark _))))) ?_
    refine blk_nil ?_
    -- heap
    refine ⟨_, rfl, a, ns, rfl, hS, hlen, fun G0 h l L st s0 nh nl hv => ?_⟩
    have sB : ∀ {G : Hp}, But h l G0 G → Same H G := fun b c o e => b c o (ne_of_none e nh) (ne_of_none e nl) (s0 _ _ e)
    have atA : ∀ {G : Hp}, But h l G0 G → SqL K G a (ns.map V.int) := fun b => by
      have k := sB b
      rcases hS with (z | ⟨o, z⟩) | z
      · exact .inl (.inl (k _ _ z))
      · exact .inl (.inr ⟨o, k _ _ z⟩)
      · exact .inr z
    have b0 := But.refl h l G0
    dsimp only [gName]
    -- sizes
    refine seq_out (t := tAsg _ _) (fun σ' G' => ∃ (z : Addr) (zs : List V), σ' = [some (.ref a), some (.ref h), some (.ref z), none, none] ∧ G' z = some (.lst zs) ∧ z ≠ h ∧ z ≠ l ∧ 0 < zs.length ∧ zs.length < 1000 ∧ (∀ x ∈ zs, ∃ n : Nat, x = .int (n : Int) ∧ 1 ≤ n ∧ n ≤ 20000) ∧ But h l G0 G' ∧ Hv G' h l L st) (fun N hN => ?_) (fun σ' G1 hR => ?_)
    · refine ⟨_, rfl, a, _, rfl, .inl (atA b0), _, _, rfl, rfl, _, rfl, ite2 (fun _ => ⟨by show 6 ≤ sizeLine; decide, fun z nz => ?_⟩) (fun _ => ⟨by show 3 ≤ sizeLine; decide, fun z nz => ?_⟩)⟩
      · refine hN _ _ ⟨z, _, rfl, upd_same, ne2 hv.top nz, ne2 hv.bot nz, by show 0 < 6; decide, by show 6 < 1000; decide, fun x hx => ?_, b0.new nz, hv.new nz⟩
        have hx' : x ∈ ([60, 90, 42, 120, 24, 61] : List Nat).map fun n : Nat => V.int (n : Int) := hx
        obtain ⟨n, hn, rfl⟩ := List.mem_map.mp hx'
        exact ⟨n, rfl, by simp at hn; omega, by simp at hn; omega⟩
      · refine hN _ _ ⟨z, _, rfl, upd_same, ne2 hv.top nz, ne2 hv.bot nz, by show 0 < 3; decide, by show 3 < 1000; decide, fun x hx => ?_, b0.new nz, hv.new nz⟩
        have hx' : x ∈ ([60, 43, 52] : List Nat).map fun n : Nat => V.int (n : Int) := hx
        obtain ⟨n, hn, rfl⟩ := List.mem_map.mp hx'
        exact ⟨n, rfl, by simp at hn; omega, by simp at hn; omega⟩
    obtain ⟨z, zs, rfl, gz, nzh, nzl, z1, z2, zz, b1, hv1⟩ := hR
    -- the first day
    refine seq_out (t := tIfS _ _ _) (fun σ' G' => σ' = [some (.ref a), some (.ref h), some (.ref z), none, none] ∧ But h l G0 G' ∧ ∃ L' st', Hv G' h l L' st') (fun N hN => ?_) (fun σ' G2 hR => ?_)
    · refine ⟨_, rfl, _, rfl, _, rfl, h, l, L, st, z, zs, rfl, hv1, sqL gz, nzh, nzl, z1, z2, fun G2 L2 st2 i x b2 hv2 hx => ?_⟩
      obtain ⟨n, rfl, hn1, hn2⟩ := zz x (List.mem_of_getElem? hx)
      have b12 := b1.trans b2
      have bi : ∀ b : Bool, ∃ m : Nat, (if b = true then (1 : Int) else 0) = (m : Int) ∧ m ≤ 1 := fun b => by
        cases b
        · exact ⟨0, rfl, by decide⟩
        · exact ⟨1, rfl, by decide⟩
      refine ⟨_, rfl, a, _, rfl, .inl (atA b12), _, _, rfl, rfl, .inr ⟨_, rfl, ?_⟩⟩
      obtain ⟨m1, e1, l1⟩ := bi (decide (((ns.map V.int).length : Int) > 1))
      rw [e1]
      refine ⟨_, _, rfl, rfl, .inl ⟨by omega, by omega⟩, _, _, rfl, rfl, ?_⟩
      refine ⟨_, rfl, a, _, rfl, .inl (atA b12), _, _, rfl, rfl, .inr ⟨_, rfl, ?_⟩⟩
      obtain ⟨m2, e2, l2⟩ := bi (decide (((ns.map V.int).length : Int) > 2))
      rw [e2]
      refine ⟨_, _, rfl, rfl, .inl ⟨by omega, by omega⟩, _, _, rfl, rfl, ?_⟩
      refine ⟨h, l, L2, st2, n, 4 + 3 * m1, 2 + 2 * m2, ?_, hv2, hn1, hn2, by omega, by omega, fun G3 L3 st3 b3 hv3 => ⟨_, rfl, iteF (hN _ _ ⟨rfl, b12.trans b3, _, _, hv3⟩)⟩⟩
      dsimp only
      rw [show (4 : Int) + 3 * (m1 : Int) = ((4 + 3 * m1 : Nat) : Int) by omega, show (2 : Int) + 2 * (m2 : Int) = ((2 + 2 * m2 : Nat) : Int) by omega]
      rfl
    obtain ⟨rfl, b2, L2, st2, hv2⟩ := hR
    -- the second day
    refine seq_out (t := tIfS _ _ _) (fun σ' G' => σ' = [some (.ref a), some (.ref h), some (.ref z), none, none] ∧ But h l G0 G' ∧ ∃ L' st', Hv G' h l L' st') (fun N hN => ?_) (fun σ' G3 hR => ?_)
    · refine ⟨_, rfl, _, rfl, h, l, L2, st2, 20, rfl, hv2, by decide, by decide, fun G3 L3 st3 m b3 hv3 m0 m1 => ⟨_, _, rfl, rfl, ?_⟩⟩
      obtain ⟨m, rfl⟩ := Int.eq_ofNat_of_zero_le m0
      refine ⟨h, l, L3, st3, 1 + m, 2, 1, ?_, hv3, by omega, by omega, by omega, by omega, fun G4 L4 st4 b4 hv4 => ⟨_, rfl, iteF (hN _ _ ⟨rfl, (b2.trans b3).trans b4, _, _, hv4⟩)⟩⟩
      dsimp only
      rw [show (1 : Int) + (m : Int) = ((1 + m : Nat) : Int) by omega]
      rfl
    obtain ⟨rfl, b3, L3, st3, hv3⟩ := hR
    -- the great day
    refine seq_out (t := tIfS _ _ _) (fun σ' G' => σ' = [some (.ref a), some (.ref h), some (.ref z), none, none] ∧ But h l G0 G' ∧ ∃ L' st', Hv G' h l L' st') (fun N hN => ?_) (fun σ' G4 hR => ?_)
    · refine ⟨_, rfl, a, _, rfl, .inl (atA b3), _, _, rfl, rfl, _, rfl, ite2 (fun _ => ?_) (fun _ => iteF (hN _ _ ⟨rfl, b3, _, _, hv3⟩))⟩
      refine ⟨_, rfl, h, l, L3, st3, 8, rfl, hv3, by decide, by decide, fun G4 L4 st4 kn b4 hv4 k0 k1 => ⟨rfl, _, rfl, ite2 (fun _ => ?_) (fun _ => iteF (hN _ _ ⟨rfl, b3.trans b4, _, _, hv4⟩))⟩⟩
      refine ⟨_, rfl, _, rfl, h, l, L4, st4, 9, rfl, hv4, by decide, by decide, fun G5 L5 st5 m b5 hv5 m0 m1 => ⟨_, _, rfl, rfl, ?_⟩⟩
      obtain ⟨m, rfl⟩ := Int.eq_ofNat_of_zero_le m0
      refine ⟨h, l, L5, st5, 1400 + m, 2, 0, ?_, hv5, by omega, by omega, by omega, by omega, fun G6 L6 st6 b6 hv6 => ⟨_, rfl, iteF (hN _ _ ⟨rfl, ((b3.trans b4).trans b5).trans b6, _, _, hv6⟩)⟩⟩
      dsimp only
      rw [show (1400 : Int) + (m : Int) = ((1400 + m : Nat) : Int) by omega]
      rfl
    obtain ⟨rfl, b4, L4, st4, hv4⟩ := hR
    -- strange cells, many records
    refine seq_out (t := tIfS _ _ _) (fun σ' G' => σ' = [some (.ref a), some (.ref h), some (.ref z), none, none]) (fun N hN => ?_) (fun σ' G5 hR => ?_)
    · refine ⟨_, rfl, h, l, L4, st4, rfl, hv4, fun G5 L5 st5 b5 hv5 => ⟨_, rfl, iteF ?_⟩⟩
      refine ⟨_, rfl, a, _, rfl, .inl (atA (b4.trans b5)), _, _, rfl, rfl, _, rfl, ite2 (fun _ => ?_) (fun _ => iteF (hN _ _ rfl))⟩
      refine ⟨_, rfl, h, l, L5, st5, 10, rfl, hv5, by decide, by decide, fun G6 L6 st6 kn b6 hv6 k0 k1 => ⟨rfl, _, rfl, ite2 (fun _ => ?_) (fun _ => iteF (hN _ _ rfl))⟩⟩
      exact ⟨rfl, fun G7 s7 => ⟨_, rfl, iteF (hN _ _ rfl)⟩⟩
    subst hR
    -- the last journal
    have zl : (List.replicate 80 (0 : Int)).length = 80 := List.length_replicate
    refine ⟨by show 1 ≤ sizeLine; decide, fun p1 m1 => ⟨p1, _, .int 0, rfl, rfl, sqT upd_same, by decide, by decide, fun G6 c s6 hc => ?_⟩⟩
    have hc' : SqT K G6 c ((List.replicate 80 (0 : Int)).map V.int) := by
      rw [List.map_replicate]
      exact hc
    intro p dx np nd ne
    refine init_good hc' (zeros_o 80) (by rw [zl]; decide) (by rw [zl]; decide) np nd ne fun G7 dl de s7 nl7 nE7 _ _ d7 => ⟨rfl, ?_⟩
    intro j jdx nj ndj nej
    refine jinit_good d7 (zeros_o 80) (by rw [zl]; decide) (by rw [zl]; decide) rfl ⟨0, _, zeros_j (n := 80) (by decide)⟩ nj ndj nej fun G8 b zj s8 J8 => ⟨rfl, ?_⟩
    refine ⟨_, rfl, j, jdx, _, rfl, J8.obj, jf_no _ _ _ (by decide +kernel) (by decide +kernel) (by decide +kernel), by show 3 ≤ sizeLine; decide, fun t1 nt1 => ?_⟩
    have hz8 := J8.size
    refine ⟨j, jdx, p, dx, c, dl, de, t1, _, _, [], b, zj, [], [9, 0, 255], rfl, J8.same (same_new nt1), sqT upd_same, fun o ho => by simp at ho; rcases ho with e | e | e <;> subst e <;> exact ⟨by decide, by decide⟩, by show 3 ≤ 30000; decide, Nat.zero_le _, fun fit G9 f9 J9 => ?_, fun nf => absurd (by rw [bend_eq, hz8, zl]; show _ + 0 + 3 + 3 ≤ _; omega) nf⟩
    obtain ⟨pr9, ev9, z9, hp9, he9, J9⟩ : ∃ (pr : List Int) (ev : List Ev) (y : Nat), pr.length = 80 ∧ ev.length ≤ 20 ∧ JAt K C CJ G9 j jdx p dx c dl de (List.replicate 80 0) pr ev b y ([] ++ [[9, 0, 255]]) := ⟨_, _, _, (replay_len _ _).trans zl, (by
      have := wLen zj [9, 0, 255] (bend (List.replicate 80 (0 : Int)).length b) zj 1
      have e0 : ([9, 0, 255] : List Int).length = 3 := rfl
      rw [List.nil_append]
      omega), J9⟩
    refine ⟨_, rfl, j, jdx, _, rfl, J9.obj, jf_no _ _ _ (by decide +kernel) (by decide +kernel) (by decide +kernel), Nat.zero_le _, fun t2 nt2 => ⟨by show 1 ≤ sizeLine; decide, fun t3 nt3 => ⟨by show 2 ≤ sizeLine; decide, fun t4 nt4 => ?_⟩⟩⟩
    have sa := same_new (o := .tup []) nt2
    have sb := same_new (o := .tup [.int 0]) nt3
    have sc := same_new (o := .tup [.ref t2, .ref t3]) nt4
    have sabc := (sa.trans sb).trans sc
    have ht3 := sc _ _ (upd_same (H := upd G9 t2 (.tup [])) (a := t3) (o := .tup [.int 0]))
    have ht2 := (sb.trans sc) _ _ (upd_same (H := G9) (a := t2) (o := .tup []))
    have ht4 := upd_same (H := upd (upd G9 t2 (.tup [])) t3 (.tup [.int 0])) (a := t4) (o := .tup [.ref t2, .ref t3])
    generalize upd (upd (upd G9 t2 (.tup [])) t3 (.tup [.int 0])) t4 (.tup [.ref t2, .ref t3]) = G10 at sabc ht2 ht3 ht4 ⊢
    refine ⟨j, jdx, p, dx, c, dl, de, t4, _, pr9, ev9, b, z9, _, [[], [0]], rfl, J9.same sabc, .tup (sqT ht4) (.cons (.tup (sqT ht2) .nil) (.cons (.tup (sqT ht3) (.cons (.int 0) .nil)) .nil)), fun r hr => ?_, by decide, by omega, fun fit2 G11 f11 J11 => ?_, fun nf => absurd (by rw [bend_eq, hp9]; show _ + 7 ≤ _; omega) nf⟩
    · simp at hr
      rcases hr with e | e
      · subst e
        exact fun o ho => absurd ho List.not_mem_nil
      · subst e
        intro o ho
        simp at ho
        subst ho
        exact ⟨by decide, by decide⟩
    obtain ⟨pr11, ev11, b11, z11, hp11, he11, J11⟩ : ∃ (pr : List Int) (ev : List Ev) (b y : Nat), pr.length = 80 ∧ ev.length ≤ 60 ∧ JAt K C CJ G11 j jdx p dx c dl de (List.replicate 80 0) pr ev b y [[], [0]] := ⟨_, _, _, _, (replay_len _ _).trans hp9, (by
      have := rLen pr9.length b [[], [0]] 0 ((1 - b : Nat) : Int)
      have e2 : sizeOf3 ([[], [0]] : List (List Int)) = 7 := rfl
      rw [List.length_append]
      omega), J11⟩
    have hz11 := J11.size
    refine ⟨_, rfl, j, jdx, _, rfl, J11.obj, jf_no _ _ _ (by decide +kernel) (by decide +kernel) (by decide +kernel), by show 1 ≤ sizeLine; decide, fun t5 nt5 => ?_⟩
    refine ⟨j, jdx, p, dx, c, dl, de, t5, _, pr11, ev11, b11, z11, _, [255], rfl, J11.same (same_new nt5), sqT upd_same, fun o ho => by simp at ho; subst ho; exact ⟨by decide, by decide⟩, by show 1 ≤ 30000; decide, by omega, fun fit3 G12 f12 J12 => ?_, fun nf => absurd (by rw [bend_eq, hz11, hp11]; show _ + 7 + 1 + 3 ≤ _; omega) nf⟩
    obtain ⟨pr12, ev12, b12, z12, hp12, J12⟩ : ∃ (pr : List Int) (ev : List Ev) (b y : Nat), pr.length = 80 ∧ JAt K C CJ G12 j jdx p dx c dl de (List.replicate 80 0) pr ev b y [[], [0], [255]] := ⟨_, _, _, _, (replay_len _ _).trans hp11, J12⟩
    have fd : Fd (.tuple (([[], [0], [255]] : List (List Int)).map recD)) := jr_fd J12.oc J12.n1 J12.n2 ⟨_, _, J12.st⟩
    refine ⟨_, rfl, j, jdx, _, rfl, J12.obj, jf_no _ _ _ (by decide +kernel) (by decide +kernel) (by decide +kernel), j, jdx, p, dx, c, dl, de, _, _, _, _, _, _, rfl, J12, fun G13 tR s13 d13 => ?_⟩
    refine disp3 (K := K) _ fun v14 G14 s14 d14 => ?_
    refine ⟨_, _, dp_same s14 _ _ d13, d14, fd.sh, fd.sh, ?_⟩
    rw [eqv_recs, decide_eq_true rfl]
    refine ⟨_, rfl, iteT ?_⟩
    have J14 := J12.same (s13.trans s14)
    refine ⟨_, rfl, by decide, by decide, fun D nD => lc_range (lo := 0) (n := 80) (fun i G => Same G14 G ∧ G D = some (.lst ((pr12.take i).map V.int))) ⟨same_new nD, upd_same⟩ (fun i G hi hP => ?_) (fun G hP => ?_)⟩
    · obtain ⟨s15, gD⟩ := hP
      have J15 := J14.same s15
      obtain ⟨o, ho, _⟩ := J12.oc.at (a := i) (by omega)
      refine ⟨rfl, ?_⟩
      dsimp only [tYes]
      rw [if_pos rfl]
      have ez : (0 + (i : Int)) = (i : Int) := by omega
      refine ⟨_, rfl, j, CJ, jdx, _, _, rfl, J15.obj, TJ.cl, TJ.nD, jf_ld _ _ _, p, dx, _, rfl, J15.dk.obj, df_no _ _ _ (by decide +kernel) (by decide +kernel) (by decide +kernel), _, rfl, p, dx, c, dl, de, _, _, _, i, o, ?_, J15.dk, ho, _, gD, by rw [List.length_map, List.length_take, sizeLine_eq]; omega, fun bb ob eb => (upd_ne (ne_of_none eb nD)).trans (s15 _ _ eb), ?_⟩
      · rw [ez]
        rfl
      · rw [upd_same, List.take_add_one, ho, List.map_append]
        rfl
    · obtain ⟨s15, gD⟩ := hP
      rw [List.take_of_length_le (by omega)] at gD
      refine ⟨D, _, rfl, .inl ⟨sqL gD, fun tq nt => ?_⟩⟩
      refine ⟨tq, pr12, [[], [0], [255]], rfl, sqT upd_same, J12.oc, J12.n1, J12.n2, ⟨_, _, J12.st⟩, fun G16 t16 s16 d16 => ?_⟩
      refine disp3 (K := K) _ fun v17 G17 s17 d17 => ?_
      refine ⟨_, _, dp_same s17 _ _ d16, d17, fd.sh, fd.sh, ?_⟩
      rw [eqv_recs, decide_eq_true rfl]
      exact q _
end
end K6
namespace K6
open PySem PySem.Spec PyProof.Rows L2 Gd
set_option maxHeartbeats 0 in
theorem all_mk {l : PySem.W.OpenLaw} {w : World} {K : PySem.W.Frag} {h : Heap} {mg : Str → Option Value} {fa C CJ CR CB CD f_Refused_init f_Broken_init f_Journal_init f_Journal_records f_Journal_write f_Journal_renew f_bank_begin f_bank_end f_behind_link f_chain_end f_link_of f_put_chain f_is_number f_is_number_below f_Disk_init f_Disk_look f_Disk_put f_Disk_flush f_Disk_events f_are_cells f__law_heap f__law_draw f__law_pick f__law_octet f__law_record f__law_lasting f__law_left f__law_opened f__law_base f__law_cuts_right f__law_call f__law_turn f__law_day_right f__law_many_right f__law_strange_right f_law : Addr} (X : K.In h) (G : h.Ns mainGlobals mg) (hfa : mg "law" = some (.ref fa))
    {nm qn : Str} {Nn : Addr} {bs : List Value} {sn : List Str} {sub : List Value} {ab : Bool} {col : Option Bool} {dd : Option Addr} {m0 m1 m2 m3 m5 : Option Value}
    {nmB qnB : Str} {NnB : Addr} {bsB : List Value} {snB : List Str} {subB : List Value} {abB : Bool} {colB : Option Bool} {ddB : Option Addr} {n0 n1 n2 n3 n5 : Option Value}
    {t_MOST_CELLS t_OCTETS t_HEAD : Tok}
    {od_Refused_init an_Refused_init od_Broken_init an_Broken_init od_Journal_init an_Journal_init od_Journal_records an_Journal_records od_Journal_write an_Journal_write od_Journal_renew an_Journal_renew od_bank_begin an_bank_begin od_bank_end an_bank_end od_behind_link an_behind_link od_chain_end an_chain_end od_link_of an_link_of od_put_chain an_put_chain od_is_number an_is_number od_is_number_below an_is_number_below od_Disk_init an_Disk_init od_Disk_look an_Disk_look od_Disk_put an_Disk_put od_Disk_flush an_Disk_flush od_Disk_events an_Disk_events od_are_cells an_are_cells od__law_heap an__law_heap od__law_draw an__law_draw od__law_pick an__law_pick od__law_octet an__law_octet od__law_record an__law_record od__law_lasting an__law_lasting od__law_left an__law_left od__law_opened an__law_opened od__law_base an__law_base od__law_cuts_right an__law_cuts_right od__law_call an__law_call od__law_turn an__law_turn od__law_day_right an__law_day_right od__law_many_right an__law_many_right od__law_strange_right an__law_strange_right od_law an_law : Option Addr} {sl_Refused_init sl_Broken_init sl_Journal_init sl_Journal_records sl_Journal_write sl_Journal_renew sl_bank_begin sl_bank_end sl_behind_link sl_chain_end sl_link_of sl_put_chain sl_is_number sl_is_number_below sl_Disk_init sl_Disk_look sl_Disk_put sl_Disk_flush sl_Disk_events sl_are_cells sl__law_heap sl__law_draw sl__law_pick sl__law_octet sl__law_record sl__law_lasting sl__law_left sl__law_opened sl__law_base sl__law_cuts_right sl__law_call sl__law_turn sl__law_day_right sl__law_many_right sl__law_strange_right sl_law : Array (Option Value)} {oc_Refused_init kV_Refused_init dc_Refused_init pm_Refused_init cd_Refused_init ct_Refused_init oc_Broken_init kV_Broken_init dc_Broken_init pm_Broken_init cd_Broken_init ct_Broken_init oc_Journal_init kV_Journal_init dc_Journal_init pm_Journal_init cd_Journal_init ct_Journal_init oc_Journal_records kV_Journal_records dc_Journal_records pm_Journal_records cd_Journal_records ct_Journal_records oc_Journal_write kV_Journal_write dc_Journal_write pm_Journal_write cd_Journal_write ct_Journal_write oc_Journal_renew kV_Journal_renew dc_Journal_renew pm_Journal_renew cd_Journal_renew ct_Journal_renew oc_bank_begin kV_bank_begin dc_bank_begin pm_bank_begin cd_bank_begin ct_bank_begin oc_bank_end kV_bank_end dc_bank_end pm_bank_end cd_bank_end ct_bank_end oc_behind_link kV_behind_link dc_behind_link pm_behind_link cd_behind_link ct_behind_link oc_chain_end kV_chain_end dc_chain_end pm_chain_end cd_chain_end ct_chain_end oc_link_of kV_link_of dc_link_of pm_link_of cd_link_of ct_link_of oc_put_chain kV_put_chain dc_put_chain pm_put_chain cd_put_chain ct_put_chain oc_is_number kV_is_number dc_is_number pm_is_number cd_is_number ct_is_number oc_is_number_below kV_is_number_below dc_is_number_below pm_is_number_below cd_is_number_below ct_is_number_below oc_Disk_init kV_Disk_init dc_Disk_init pm_Disk_init cd_Disk_init ct_Disk_init oc_Disk_look kV_Disk_look dc_Disk_look pm_Disk_look cd_Disk_look ct_Disk_look oc_Disk_put kV_Disk_put dc_Disk_put pm_Disk_put cd_Disk_put ct_Disk_put oc_Disk_flush kV_Disk_flush dc_Disk_flush pm_Disk_flush cd_Disk_flush ct_Disk_flush oc_Disk_events kV_Disk_events dc_Disk_events pm_Disk_events cd_Disk_events ct_Disk_events oc_are_cells kV_are_cells dc_are_cells pm_are_cells cd_are_cells ct_are_cells oc__law_heap kV__law_heap dc__law_heap pm__law_heap cd__law_heap ct__law_heap oc__law_draw kV__law_draw dc__law_draw pm__law_draw cd__law_draw ct__law_draw oc__law_pick kV__law_pick dc__law_pick pm__law_pick cd__law_pick ct__law_pick oc__law_octet kV__law_octet dc__law_octet pm__law_octet cd__law_octet ct__law_octet oc__law_record kV__law_record dc__law_record pm__law_record cd__law_record ct__law_record oc__law_lasting kV__law_lasting dc__law_lasting pm__law_lasting cd__law_lasting ct__law_lasting oc__law_left kV__law_left dc__law_left pm__law_left cd__law_left ct__law_left oc__law_opened kV__law_opened dc__law_opened pm__law_opened cd__law_opened ct__law_opened oc__law_base kV__law_base dc__law_base pm__law_base cd__law_base ct__law_base oc__law_cuts_right kV__law_cuts_right dc__law_cuts_right pm__law_cuts_right cd__law_cuts_right ct__law_cuts_right oc__law_call kV__law_call dc__law_call pm__law_call cd__law_call ct__law_call oc__law_turn kV__law_turn dc__law_turn pm__law_turn cd__law_turn ct__law_turn oc__law_day_right kV__law_day_right dc__law_day_right pm__law_day_right cd__law_day_right ct__law_day_right oc__law_many_right kV__law_many_right dc__law_many_right pm__law_many_right cd__law_many_right ct__law_many_right oc__law_strange_right kV__law_strange_right dc__law_strange_right pm__law_strange_right cd__law_strange_right ct__law_strange_right oc_law kV_law dc_law pm_law cd_law ct_law : Value}
    (g_C : PySem.W.nsIn K mainGlobals "Disk" = some (some (.ref C)))
    (g_CJ : PySem.W.nsIn K mainGlobals "Journal" = some (some (.ref CJ)))
    (g_CR : PySem.W.nsIn K mainGlobals "Refused" = some (some (.ref CR)))
    (g_CB : PySem.W.nsIn K mainGlobals "Broken" = some (some (.ref CB)))
    (g_CD : PySem.W.nsIn K mainGlobals "DeskError" = some (some (.ref CD)))
    (a_Refused_init : PySem.W.findIn K (.ref CR) "__init__" = some (some (.ref f_Refused_init)))
    (l_Refused_init : K.lookup f_Refused_init = some ⟨oc_Refused_init, od_Refused_init, .func (PySem.W.fnOf "__init__" "Refused.__init__" (defArgs s_Refused_init) (defBody s_Refused_init) (defScope s_Refused_init) .none kV_Refused_init dc_Refused_init pm_Refused_init an_Refused_init cd_Refused_init ct_Refused_init), sl_Refused_init⟩)
    (c_Refused_init : PySem.W.codeIn K cd_Refused_init "Refused.__init__" = true)
    (k_Refused_init : PySem.W.keepIn K (.ref f_Refused_init) = true)
    (i_Refused_init : PySem.W.isFn K (.ref f_Refused_init) = true)
    (a_Broken_init : PySem.W.findIn K (.ref CB) "__init__" = some (some (.ref f_Broken_init)))
    (l_Broken_init : K.lookup f_Broken_init = some ⟨oc_Broken_init, od_Broken_init, .func (PySem.W.fnOf "__init__" "Broken.__init__" (defArgs s_Broken_init) (defBody s_Broken_init) (defScope s_Broken_init) .none kV_Broken_init dc_Broken_init pm_Broken_init an_Broken_init cd_Broken_init ct_Broken_init), sl_Broken_init⟩)
    (c_Broken_init : PySem.W.codeIn K cd_Broken_init "Broken.__init__" = true)
    (k_Broken_init : PySem.W.keepIn K (.ref f_Broken_init) = true)
    (i_Broken_init : PySem.W.isFn K (.ref f_Broken_init) = true)
    (a_Journal_init : PySem.W.findIn K (.ref CJ) "__init__" = some (some (.ref f_Journal_init)))
    (l_Journal_init : K.lookup f_Journal_init = some ⟨oc_Journal_init, od_Journal_init, .func (PySem.W.fnOf "__init__" "Journal.__init__" (defArgs s_Journal_init) (defBody s_Journal_init) (defScope s_Journal_init) .none kV_Journal_init dc_Journal_init pm_Journal_init an_Journal_init cd_Journal_init ct_Journal_init), sl_Journal_init⟩)
    (c_Journal_init : PySem.W.codeIn K cd_Journal_init "Journal.__init__" = true)
    (k_Journal_init : PySem.W.keepIn K (.ref f_Journal_init) = true)
    (i_Journal_init : PySem.W.isFn K (.ref f_Journal_init) = true)
    (a_Journal_records : PySem.W.findIn K (.ref CJ) "records" = some (some (.ref f_Journal_records)))
    (l_Journal_records : K.lookup f_Journal_records = some ⟨oc_Journal_records, od_Journal_records, .func (PySem.W.fnOf "records" "Journal.records" (defArgs s_Journal_records) (defBody s_Journal_records) (defScope s_Journal_records) .none kV_Journal_records dc_Journal_records pm_Journal_records an_Journal_records cd_Journal_records ct_Journal_records), sl_Journal_records⟩)
    (c_Journal_records : PySem.W.codeIn K cd_Journal_records "Journal.records" = true)
    (k_Journal_records : PySem.W.keepIn K (.ref f_Journal_records) = true)
    (i_Journal_records : PySem.W.isFn K (.ref f_Journal_records) = true)
    (a_Journal_write : PySem.W.findIn K (.ref CJ) "write" = some (some (.ref f_Journal_write)))
    (l_Journal_write : K.lookup f_Journal_write = some ⟨oc_Journal_write, od_Journal_write, .func (PySem.W.fnOf "write" "Journal.write" (defArgs s_Journal_write) (defBody s_Journal_write) (defScope s_Journal_write) .none kV_Journal_write dc_Journal_write pm_Journal_write an_Journal_write cd_Journal_write ct_Journal_write), sl_Journal_write⟩)
    (c_Journal_write : PySem.W.codeIn K cd_Journal_write "Journal.write" = true)
    (k_Journal_write : PySem.W.keepIn K (.ref f_Journal_write) = true)
    (i_Journal_write : PySem.W.isFn K (.ref f_Journal_write) = true)
    (a_Journal_renew : PySem.W.findIn K (.ref CJ) "renew" = some (some (.ref f_Journal_renew)))
    (l_Journal_renew : K.lookup f_Journal_renew = some ⟨oc_Journal_renew, od_Journal_renew, .func (PySem.W.fnOf "renew" "Journal.renew" (defArgs s_Journal_renew) (defBody s_Journal_renew) (defScope s_Journal_renew) .none kV_Journal_renew dc_Journal_renew pm_Journal_renew an_Journal_renew cd_Journal_renew ct_Journal_renew), sl_Journal_renew⟩)
    (c_Journal_renew : PySem.W.codeIn K cd_Journal_renew "Journal.renew" = true)
    (k_Journal_renew : PySem.W.keepIn K (.ref f_Journal_renew) = true)
    (i_Journal_renew : PySem.W.isFn K (.ref f_Journal_renew) = true)
    (a_bank_begin : PySem.W.nsIn K mainGlobals "bank_begin" = some (some (.ref f_bank_begin)))
    (l_bank_begin : K.lookup f_bank_begin = some ⟨oc_bank_begin, od_bank_begin, .func (PySem.W.fnOf "bank_begin" "bank_begin" (defArgs s_bank_begin) (defBody s_bank_begin) (defScope s_bank_begin) .none kV_bank_begin dc_bank_begin pm_bank_begin an_bank_begin cd_bank_begin ct_bank_begin), sl_bank_begin⟩)
    (c_bank_begin : PySem.W.codeIn K cd_bank_begin "bank_begin" = true)
    (k_bank_begin : PySem.W.keepIn K (.ref f_bank_begin) = true)
    (a_bank_end : PySem.W.nsIn K mainGlobals "bank_end" = some (some (.ref f_bank_end)))
    (l_bank_end : K.lookup f_bank_end = some ⟨oc_bank_end, od_bank_end, .func (PySem.W.fnOf "bank_end" "bank_end" (defArgs s_bank_end) (defBody s_bank_end) (defScope s_bank_end) .none kV_bank_end dc_bank_end pm_bank_end an_bank_end cd_bank_end ct_bank_end), sl_bank_end⟩)
    (c_bank_end : PySem.W.codeIn K cd_bank_end "bank_end" = true)
    (k_bank_end : PySem.W.keepIn K (.ref f_bank_end) = true)
    (a_behind_link : PySem.W.nsIn K mainGlobals "behind_link" = some (some (.ref f_behind_link)))
    (l_behind_link : K.lookup f_behind_link = some ⟨oc_behind_link, od_behind_link, .func (PySem.W.fnOf "behind_link" "behind_link" (defArgs s_behind_link) (defBody s_behind_link) (defScope s_behind_link) .none kV_behind_link dc_behind_link pm_behind_link an_behind_link cd_behind_link ct_behind_link), sl_behind_link⟩)
    (c_behind_link : PySem.W.codeIn K cd_behind_link "behind_link" = true)
    (k_behind_link : PySem.W.keepIn K (.ref f_behind_link) = true)
    (a_chain_end : PySem.W.nsIn K mainGlobals "chain_end" = some (some (.ref f_chain_end)))
    (l_chain_end : K.lookup f_chain_end = some ⟨oc_chain_end, od_chain_end, .func (PySem.W.fnOf "chain_end" "chain_end" (defArgs s_chain_end) (defBody s_chain_end) (defScope s_chain_end) .none kV_chain_end dc_chain_end pm_chain_end an_chain_end cd_chain_end ct_chain_end), sl_chain_end⟩)
    (c_chain_end : PySem.W.codeIn K cd_chain_end "chain_end" = true)
    (k_chain_end : PySem.W.keepIn K (.ref f_chain_end) = true)
    (a_link_of : PySem.W.nsIn K mainGlobals "link_of" = some (some (.ref f_link_of)))
    (l_link_of : K.lookup f_link_of = some ⟨oc_link_of, od_link_of, .func (PySem.W.fnOf "link_of" "link_of" (defArgs s_link_of) (defBody s_link_of) (defScope s_link_of) .none kV_link_of dc_link_of pm_link_of an_link_of cd_link_of ct_link_of), sl_link_of⟩)
    (c_link_of : PySem.W.codeIn K cd_link_of "link_of" = true)
    (k_link_of : PySem.W.keepIn K (.ref f_link_of) = true)
    (a_put_chain : PySem.W.nsIn K mainGlobals "put_chain" = some (some (.ref f_put_chain)))
    (l_put_chain : K.lookup f_put_chain = some ⟨oc_put_chain, od_put_chain, .func (PySem.W.fnOf "put_chain" "put_chain" (defArgs s_put_chain) (defBody s_put_chain) (defScope s_put_chain) .none kV_put_chain dc_put_chain pm_put_chain an_put_chain cd_put_chain ct_put_chain), sl_put_chain⟩)
    (c_put_chain : PySem.W.codeIn K cd_put_chain "put_chain" = true)
    (k_put_chain : PySem.W.keepIn K (.ref f_put_chain) = true)
    (a_is_number : PySem.W.nsIn K mainGlobals "is_number" = some (some (.ref f_is_number)))
    (l_is_number : K.lookup f_is_number = some ⟨oc_is_number, od_is_number, .func (PySem.W.fnOf "is_number" "is_number" (defArgs s_is_number) (defBody s_is_number) (defScope s_is_number) .none kV_is_number dc_is_number pm_is_number an_is_number cd_is_number ct_is_number), sl_is_number⟩)
    (c_is_number : PySem.W.codeIn K cd_is_number "is_number" = true)
    (k_is_number : PySem.W.keepIn K (.ref f_is_number) = true)
    (a_is_number_below : PySem.W.nsIn K mainGlobals "is_number_below" = some (some (.ref f_is_number_below)))
    (l_is_number_below : K.lookup f_is_number_below = some ⟨oc_is_number_below, od_is_number_below, .func (PySem.W.fnOf "is_number_below" "is_number_below" (defArgs s_is_number_below) (defBody s_is_number_below) (defScope s_is_number_below) .none kV_is_number_below dc_is_number_below pm_is_number_below an_is_number_below cd_is_number_below ct_is_number_below), sl_is_number_below⟩)
    (c_is_number_below : PySem.W.codeIn K cd_is_number_below "is_number_below" = true)
    (k_is_number_below : PySem.W.keepIn K (.ref f_is_number_below) = true)
    (a_Disk_init : PySem.W.findIn K (.ref C) "__init__" = some (some (.ref f_Disk_init)))
    (l_Disk_init : K.lookup f_Disk_init = some ⟨oc_Disk_init, od_Disk_init, .func (PySem.W.fnOf "__init__" "Disk.__init__" (defArgs s_Disk_init) (defBody s_Disk_init) (defScope s_Disk_init) .none kV_Disk_init dc_Disk_init pm_Disk_init an_Disk_init cd_Disk_init ct_Disk_init), sl_Disk_init⟩)
    (c_Disk_init : PySem.W.codeIn K cd_Disk_init "Disk.__init__" = true)
    (k_Disk_init : PySem.W.keepIn K (.ref f_Disk_init) = true)
    (i_Disk_init : PySem.W.isFn K (.ref f_Disk_init) = true)
    (a_Disk_look : PySem.W.findIn K (.ref C) "look" = some (some (.ref f_Disk_look)))
    (l_Disk_look : K.lookup f_Disk_look = some ⟨oc_Disk_look, od_Disk_look, .func (PySem.W.fnOf "look" "Disk.look" (defArgs s_Disk_look) (defBody s_Disk_look) (defScope s_Disk_look) .none kV_Disk_look dc_Disk_look pm_Disk_look an_Disk_look cd_Disk_look ct_Disk_look), sl_Disk_look⟩)
    (c_Disk_look : PySem.W.codeIn K cd_Disk_look "Disk.look" = true)
    (k_Disk_look : PySem.W.keepIn K (.ref f_Disk_look) = true)
    (i_Disk_look : PySem.W.isFn K (.ref f_Disk_look) = true)
    (a_Disk_put : PySem.W.findIn K (.ref C) "put" = some (some (.ref f_Disk_put)))
    (l_Disk_put : K.lookup f_Disk_put = some ⟨oc_Disk_put, od_Disk_put, .func (PySem.W.fnOf "put" "Disk.put" (defArgs s_Disk_put) (defBody s_Disk_put) (defScope s_Disk_put) .none kV_Disk_put dc_Disk_put pm_Disk_put an_Disk_put cd_Disk_put ct_Disk_put), sl_Disk_put⟩)
    (c_Disk_put : PySem.W.codeIn K cd_Disk_put "Disk.put" = true)
    (k_Disk_put : PySem.W.keepIn K (.ref f_Disk_put) = true)
    (i_Disk_put : PySem.W.isFn K (.ref f_Disk_put) = true)
    (a_Disk_flush : PySem.W.findIn K (.ref C) "flush" = some (some (.ref f_Disk_flush)))
    (l_Disk_flush : K.lookup f_Disk_flush = some ⟨oc_Disk_flush, od_Disk_flush, .func (PySem.W.fnOf "flush" "Disk.flush" (defArgs s_Disk_flush) (defBody s_Disk_flush) (defScope s_Disk_flush) .none kV_Disk_flush dc_Disk_flush pm_Disk_flush an_Disk_flush cd_Disk_flush ct_Disk_flush), sl_Disk_flush⟩)
    (c_Disk_flush : PySem.W.codeIn K cd_Disk_flush "Disk.flush" = true)
    (k_Disk_flush : PySem.W.keepIn K (.ref f_Disk_flush) = true)
    (i_Disk_flush : PySem.W.isFn K (.ref f_Disk_flush) = true)
    (a_Disk_events : PySem.W.findIn K (.ref C) "events" = some (some (.ref f_Disk_events)))
    (l_Disk_events : K.lookup f_Disk_events = some ⟨oc_Disk_events, od_Disk_events, .func (PySem.W.fnOf "events" "Disk.events" (defArgs s_Disk_events) (defBody s_Disk_events) (defScope s_Disk_events) .none kV_Disk_events dc_Disk_events pm_Disk_events an_Disk_events cd_Disk_events ct_Disk_events), sl_Disk_events⟩)
    (c_Disk_events : PySem.W.codeIn K cd_Disk_events "Disk.events" = true)
    (k_Disk_events : PySem.W.keepIn K (.ref f_Disk_events) = true)
    (i_Disk_events : PySem.W.isFn K (.ref f_Disk_events) = true)
    (a_are_cells : PySem.W.nsIn K mainGlobals "are_cells" = some (some (.ref f_are_cells)))
    (l_are_cells : K.lookup f_are_cells = some ⟨oc_are_cells, od_are_cells, .func (PySem.W.fnOf "are_cells" "are_cells" (defArgs s_are_cells) (defBody s_are_cells) (defScope s_are_cells) .none kV_are_cells dc_are_cells pm_are_cells an_are_cells cd_are_cells ct_are_cells), sl_are_cells⟩)
    (c_are_cells : PySem.W.codeIn K cd_are_cells "are_cells" = true)
    (k_are_cells : PySem.W.keepIn K (.ref f_are_cells) = true)
    (a__law_heap : PySem.W.nsIn K mainGlobals "_law_heap" = some (some (.ref f__law_heap)))
    (l__law_heap : K.lookup f__law_heap = some ⟨oc__law_heap, od__law_heap, .func (PySem.W.fnOf "_law_heap" "_law_heap" (defArgs s__law_heap) (defBody s__law_heap) (defScope s__law_heap) .none kV__law_heap dc__law_heap pm__law_heap an__law_heap cd__law_heap ct__law_heap), sl__law_heap⟩)
    (c__law_heap : PySem.W.codeIn K cd__law_heap "_law_heap" = true)
    (k__law_heap : PySem.W.keepIn K (.ref f__law_heap) = true)
    (a__law_draw : PySem.W.nsIn K mainGlobals "_law_draw" = some (some (.ref f__law_draw)))
    (l__law_draw : K.lookup f__law_draw = some ⟨oc__law_draw, od__law_draw, .func (PySem.W.fnOf "_law_draw" "_law_draw" (defArgs s__law_draw) (defBody s__law_draw) (defScope s__law_draw) .none kV__law_draw dc__law_draw pm__law_draw an__law_draw cd__law_draw ct__law_draw), sl__law_draw⟩)
    (c__law_draw : PySem.W.codeIn K cd__law_draw "_law_draw" = true)
    (k__law_draw : PySem.W.keepIn K (.ref f__law_draw) = true)
    (a__law_pick : PySem.W.nsIn K mainGlobals "_law_pick" = some (some (.ref f__law_pick)))
    (l__law_pick : K.lookup f__law_pick = some ⟨oc__law_pick, od__law_pick, .func (PySem.W.fnOf "_law_pick" "_law_pick" (defArgs s__law_pick) (defBody s__law_pick) (defScope s__law_pick) .none kV__law_pick dc__law_pick pm__law_pick an__law_pick cd__law_pick ct__law_pick), sl__law_pick⟩)
    (c__law_pick : PySem.W.codeIn K cd__law_pick "_law_pick" = true)
    (k__law_pick : PySem.W.keepIn K (.ref f__law_pick) = true)
    (a__law_octet : PySem.W.nsIn K mainGlobals "_law_octet" = some (some (.ref f__law_octet)))
    (l__law_octet : K.lookup f__law_octet = some ⟨oc__law_octet, od__law_octet, .func (PySem.W.fnOf "_law_octet" "_law_octet" (defArgs s__law_octet) (defBody s__law_octet) (defScope s__law_octet) .none kV__law_octet dc__law_octet pm__law_octet an__law_octet cd__law_octet ct__law_octet), sl__law_octet⟩)
    (c__law_octet : PySem.W.codeIn K cd__law_octet "_law_octet" = true)
    (k__law_octet : PySem.W.keepIn K (.ref f__law_octet) = true)
    (a__law_record : PySem.W.nsIn K mainGlobals "_law_record" = some (some (.ref f__law_record)))
    (l__law_record : K.lookup f__law_record = some ⟨oc__law_record, od__law_record, .func (PySem.W.fnOf "_law_record" "_law_record" (defArgs s__law_record) (defBody s__law_record) (defScope s__law_record) .none kV__law_record dc__law_record pm__law_record an__law_record cd__law_record ct__law_record), sl__law_record⟩)
    (c__law_record : PySem.W.codeIn K cd__law_record "_law_record" = true)
    (k__law_record : PySem.W.keepIn K (.ref f__law_record) = true)
    (a__law_lasting : PySem.W.nsIn K mainGlobals "_law_lasting" = some (some (.ref f__law_lasting)))
    (l__law_lasting : K.lookup f__law_lasting = some ⟨oc__law_lasting, od__law_lasting, .func (PySem.W.fnOf "_law_lasting" "_law_lasting" (defArgs s__law_lasting) (defBody s__law_lasting) (defScope s__law_lasting) .none kV__law_lasting dc__law_lasting pm__law_lasting an__law_lasting cd__law_lasting ct__law_lasting), sl__law_lasting⟩)
    (c__law_lasting : PySem.W.codeIn K cd__law_lasting "_law_lasting" = true)
    (k__law_lasting : PySem.W.keepIn K (.ref f__law_lasting) = true)
    (a__law_left : PySem.W.nsIn K mainGlobals "_law_left" = some (some (.ref f__law_left)))
    (l__law_left : K.lookup f__law_left = some ⟨oc__law_left, od__law_left, .func (PySem.W.fnOf "_law_left" "_law_left" (defArgs s__law_left) (defBody s__law_left) (defScope s__law_left) .none kV__law_left dc__law_left pm__law_left an__law_left cd__law_left ct__law_left), sl__law_left⟩)
    (c__law_left : PySem.W.codeIn K cd__law_left "_law_left" = true)
    (k__law_left : PySem.W.keepIn K (.ref f__law_left) = true)
    (a__law_opened : PySem.W.nsIn K mainGlobals "_law_opened" = some (some (.ref f__law_opened)))
    (l__law_opened : K.lookup f__law_opened = some ⟨oc__law_opened, od__law_opened, .func (PySem.W.fnOf "_law_opened" "_law_opened" (defArgs s__law_opened) (defBody s__law_opened) (defScope s__law_opened) .none kV__law_opened dc__law_opened pm__law_opened an__law_opened cd__law_opened ct__law_opened), sl__law_opened⟩)
    (c__law_opened : PySem.W.codeIn K cd__law_opened "_law_opened" = true)
    (k__law_opened : PySem.W.keepIn K (.ref f__law_opened) = true)
    (a__law_base : PySem.W.nsIn K mainGlobals "_law_base" = some (some (.ref f__law_base)))
    (l__law_base : K.lookup f__law_base = some ⟨oc__law_base, od__law_base, .func (PySem.W.fnOf "_law_base" "_law_base" (defArgs s__law_base) (defBody s__law_base) (defScope s__law_base) .none kV__law_base dc__law_base pm__law_base an__law_base cd__law_base ct__law_base), sl__law_base⟩)
    (c__law_base : PySem.W.codeIn K cd__law_base "_law_base" = true)
    (k__law_base : PySem.W.keepIn K (.ref f__law_base) = true)
    (a__law_cuts_right : PySem.W.nsIn K mainGlobals "_law_cuts_right" = some (some (.ref f__law_cuts_right)))
    (l__law_cuts_right : K.lookup f__law_cuts_right = some ⟨oc__law_cuts_right, od__law_cuts_right, .func (PySem.W.fnOf "_law_cuts_right" "_law_cuts_right" (defArgs s__law_cuts_right) (defBody s__law_cuts_right) (defScope s__law_cuts_right) .none kV__law_cuts_right dc__law_cuts_right pm__law_cuts_right an__law_cuts_right cd__law_cuts_right ct__law_cuts_right), sl__law_cuts_right⟩)
    (c__law_cuts_right : PySem.W.codeIn K cd__law_cuts_right "_law_cuts_right" = true)
    (k__law_cuts_right : PySem.W.keepIn K (.ref f__law_cuts_right) = true)
    (a__law_call : PySem.W.nsIn K mainGlobals "_law_call" = some (some (.ref f__law_call)))
    (l__law_call : K.lookup f__law_call = some ⟨oc__law_call, od__law_call, .func (PySem.W.fnOf "_law_call" "_law_call" (defArgs s__law_call) (defBody s__law_call) (defScope s__law_call) .none kV__law_call dc__law_call pm__law_call an__law_call cd__law_call ct__law_call), sl__law_call⟩)
    (c__law_call : PySem.W.codeIn K cd__law_call "_law_call" = true)
    (k__law_call : PySem.W.keepIn K (.ref f__law_call) = true)
    (a__law_turn : PySem.W.nsIn K mainGlobals "_law_turn" = some (some (.ref f__law_turn)))
    (l__law_turn : K.lookup f__law_turn = some ⟨oc__law_turn, od__law_turn, .func (PySem.W.fnOf "_law_turn" "_law_turn" (defArgs s__law_turn) (defBody s__law_turn) (defScope s__law_turn) .none kV__law_turn dc__law_turn pm__law_turn an__law_turn cd__law_turn ct__law_turn), sl__law_turn⟩)
    (c__law_turn : PySem.W.codeIn K cd__law_turn "_law_turn" = true)
    (k__law_turn : PySem.W.keepIn K (.ref f__law_turn) = true)
    (a__law_day_right : PySem.W.nsIn K mainGlobals "_law_day_right" = some (some (.ref f__law_day_right)))
    (l__law_day_right : K.lookup f__law_day_right = some ⟨oc__law_day_right, od__law_day_right, .func (PySem.W.fnOf "_law_day_right" "_law_day_right" (defArgs s__law_day_right) (defBody s__law_day_right) (defScope s__law_day_right) .none kV__law_day_right dc__law_day_right pm__law_day_right an__law_day_right cd__law_day_right ct__law_day_right), sl__law_day_right⟩)
    (c__law_day_right : PySem.W.codeIn K cd__law_day_right "_law_day_right" = true)
    (k__law_day_right : PySem.W.keepIn K (.ref f__law_day_right) = true)
    (a__law_many_right : PySem.W.nsIn K mainGlobals "_law_many_right" = some (some (.ref f__law_many_right)))
    (l__law_many_right : K.lookup f__law_many_right = some ⟨oc__law_many_right, od__law_many_right, .func (PySem.W.fnOf "_law_many_right" "_law_many_right" (defArgs s__law_many_right) (defBody s__law_many_right) (defScope s__law_many_right) .none kV__law_many_right dc__law_many_right pm__law_many_right an__law_many_right cd__law_many_right ct__law_many_right), sl__law_many_right⟩)
    (c__law_many_right : PySem.W.codeIn K cd__law_many_right "_law_many_right" = true)
    (k__law_many_right : PySem.W.keepIn K (.ref f__law_many_right) = true)
    (a__law_strange_right : PySem.W.nsIn K mainGlobals "_law_strange_right" = some (some (.ref f__law_strange_right)))
    (l__law_strange_right : K.lookup f__law_strange_right = some ⟨oc__law_strange_right, od__law_strange_right, .func (PySem.W.fnOf "_law_strange_right" "_law_strange_right" (defArgs s__law_strange_right) (defBody s__law_strange_right) (defScope s__law_strange_right) .none kV__law_strange_right dc__law_strange_right pm__law_strange_right an__law_strange_right cd__law_strange_right ct__law_strange_right), sl__law_strange_right⟩)
    (c__law_strange_right : PySem.W.codeIn K cd__law_strange_right "_law_strange_right" = true)
    (k__law_strange_right : PySem.W.keepIn K (.ref f__law_strange_right) = true)
    (a_law : PySem.W.nsIn K mainGlobals "law" = some (some (.ref f_law)))
    (l_law : K.lookup f_law = some ⟨oc_law, od_law, .func (PySem.W.fnOf "law" "law" (defArgs s_law) (defBody s_law) (defScope s_law) .none kV_law dc_law pm_law an_law cd_law ct_law), sl_law⟩)
    (c_law : PySem.W.codeIn K cd_law "law" = true)
    (k_law : PySem.W.keepIn K (.ref f_law) = true)
    (pg : PySem.W.plainGet K C Str.empty = true)
    (hd : PySem.W.hasDictIn K C = true)
    (po : PySem.W.plainOver K C = true)
    (sa : PySem.W.findIn K (.ref C) "__setattr__" = some (some (.builtin "object.__setattr__")))
    (mk : PySem.W.makesIn K C = true)
    (kpC : PySem.W.keepIn K (.ref C) = true)
    (pgJ : PySem.W.plainGet K CJ Str.empty = true)
    (hdJ : PySem.W.hasDictIn K CJ = true)
    (poJ : PySem.W.plainOver K CJ = true)
    (saJ : PySem.W.findIn K (.ref CJ) "__setattr__" = some (some (.builtin "object.__setattr__")))
    (mkJ : PySem.W.makesIn K CJ = true)
    (kpCJ : PySem.W.keepIn K (.ref CJ) = true)
    (nC : PySem.W.findIn K (.ref C) "cells" = some none)
    (nP : PySem.W.findIn K (.ref C) "present" = some none)
    (nH : PySem.W.findIn K (.ref C) "happened" = some none)
    (nJD : PySem.W.findIn K (.ref CJ) "disk" = some none)
    (nJB : PySem.W.findIn K (.ref CJ) "bank" = some none)
    (nJE : PySem.W.findIn K (.ref CJ) "end" = some none)
    (xR : K.lookup CR = some (excClassObj nm qn CR Nn bs [.ref CD, .type "ValueError", .type "Exception", .type "BaseException", .type "object"] true sn sub ab col dd m0 m1 m2 m3 m5 "ValueError.__new__"))
    (sa_R : PySem.W.findIn K (.ref CR) "__setattr__" = some (some (.builtin "object.__setattr__")))
    (exCR : PySem.W.subIn K (.ref CR) (.type "BaseException") = some true)
    (tyR : PySem.W.typeIn K (.ref CR) = some (.type "type"))
    (kCR : PySem.W.keepIn K (.ref CR) = true)
    (nWR : PySem.W.findIn K (.ref CR) "word" = some none)
    (tIR : PySem.W.typeIn K (.ref f_Refused_init) = some (.type "function"))
    (sRD : PySem.W.subIn K (.ref CR) (.ref CD) = some true)
    (sRR : PySem.W.subIn K (.ref CR) (.ref CR) = some true)
    (iCR : PySem.W.isClsIn K CR = true)
    (hgR : PySem.W.findIn K (.ref CR) "__getattribute__" = some (some (.builtin "BaseException.__getattribute__")))
    (hkR : PySem.W.findIn K (.ref CR) "__getattr__" = some none)
    (hd_R : PySem.W.hasDictIn K CR = true)
    (haR : PySem.W.findIn K (.ref CR) "__class__" = some (some (.builtin "object.__class__")))
    (hmR : PySem.W.mroIn K CR (.type "object") = some true)
    (xB : K.lookup CB = some (excClassObj nmB qnB CB NnB bsB [.ref CD, .type "ValueError", .type "Exception", .type "BaseException", .type "object"] true snB subB abB colB ddB n0 n1 n2 n3 n5 "ValueError.__new__"))
    (sa_B : PySem.W.findIn K (.ref CB) "__setattr__" = some (some (.builtin "object.__setattr__")))
    (exCB : PySem.W.subIn K (.ref CB) (.type "BaseException") = some true)
    (tyB : PySem.W.typeIn K (.ref CB) = some (.type "type"))
    (kCB : PySem.W.keepIn K (.ref CB) = true)
    (nWB : PySem.W.findIn K (.ref CB) "word" = some none)
    (tIB : PySem.W.typeIn K (.ref f_Broken_init) = some (.type "function"))
    (sBD : PySem.W.subIn K (.ref CB) (.ref CD) = some true)
    (sBB : PySem.W.subIn K (.ref CB) (.ref CB) = some true)
    (iCB : PySem.W.isClsIn K CB = true)
    (hgB : PySem.W.findIn K (.ref CB) "__getattribute__" = some (some (.builtin "BaseException.__getattribute__")))
    (hkB : PySem.W.findIn K (.ref CB) "__getattr__" = some none)
    (hd_B : PySem.W.hasDictIn K CB = true)
    (haB : PySem.W.findIn K (.ref CB) "__class__" = some (some (.builtin "object.__class__")))
    (hmB : PySem.W.mroIn K CB (.type "object") = some true)
    (sRB : PySem.W.subIn K (.ref CR) (.ref CB) = some false)
    (sBR : PySem.W.subIn K (.ref CB) (.ref CR) = some false)
    (eCD : PySem.W.subIn K (.ref CD) (.type "BaseException") = some true)
    (hCD : PySem.W.hasDictIn K CD = true)
    (tCD : PySem.W.typeIn K (.ref CD) = some (.type "type"))
    (hn : PySem.W.specialIn K (.builtin "object.__class__") "__get__" = some (some (.builtin "getset_descriptor.__get__")))
    (ht : PySem.W.takesIn K (.builtin "object.__class__") = some true)
    (v_MOST_CELLS : PySem.W.nsIn K mainGlobals "MOST_CELLS" = some (some (.int 20000 t_MOST_CELLS)))
    (v_OCTETS : PySem.W.nsIn K mainGlobals "OCTETS" = some (some (.int 256 t_OCTETS)))
    (v_HEAD : PySem.W.nsIn K mainGlobals "HEAD" = some (some (.int 3 t_HEAD)))
    (z_int : PySem.W.nsIn K mainGlobals "int" = some none)
    (z_len : PySem.W.nsIn K mainGlobals "len" = some none)
    (z_abs : PySem.W.nsIn K mainGlobals "abs" = some none)
    (z_isinstance : PySem.W.nsIn K mainGlobals "isinstance" = some none)
    (z_bool : PySem.W.nsIn K mainGlobals "bool" = some none)
    (z_tuple : PySem.W.nsIn K mainGlobals "tuple" = some none)
    (z_all : PySem.W.nsIn K mainGlobals "all" = some none)
    (z_list : PySem.W.nsIn K mainGlobals "list" = some none)
    (z_enumerate : PySem.W.nsIn K mainGlobals "enumerate" = some none)
    (z_range : PySem.W.nsIn K mainGlobals "range" = some none)
    (z_max : PySem.W.nsIn K mainGlobals "max" = some none)
    (z_repr : PySem.W.nsIn K mainGlobals "repr" = some none)
    (z_sum : PySem.W.nsIn K mainGlobals "sum" = some none)
    : ∃ fd : FuncData, (∀ (s : Shared) (v : Value), BindsTo s fd ⟨[v], []⟩ [("script", v)]) ∧ ∀ base : Heap, K.In base → base.Ns mainGlobals mg → FnG l.prog w K mg base 10 fa fd ["script"] (spLaw K) := by
  have e := hfa.symm.trans (PySem.W.mg_of X G a_law)
  cases e
  have F_Refused_init := fun_mk (st := s_Refused_init) l_Refused_init c_Refused_init k_Refused_init
  have F_Broken_init := fun_mk (st := s_Broken_init) l_Broken_init c_Broken_init k_Broken_init
  have F_Journal_init := fun_mk (st := s_Journal_init) l_Journal_init c_Journal_init k_Journal_init
  have F_Journal_records := fun_mk (st := s_Journal_records) l_Journal_records c_Journal_records k_Journal_records
  have F_Journal_write := fun_mk (st := s_Journal_write) l_Journal_write c_Journal_write k_Journal_write
  have F_Journal_renew := fun_mk (st := s_Journal_renew) l_Journal_renew c_Journal_renew k_Journal_renew
  have F_bank_begin := fun_mk (st := s_bank_begin) l_bank_begin c_bank_begin k_bank_begin
  have F_bank_end := fun_mk (st := s_bank_end) l_bank_end c_bank_end k_bank_end
  have F_behind_link := fun_mk (st := s_behind_link) l_behind_link c_behind_link k_behind_link
  have F_chain_end := fun_mk (st := s_chain_end) l_chain_end c_chain_end k_chain_end
  have F_link_of := fun_mk (st := s_link_of) l_link_of c_link_of k_link_of
  have F_put_chain := fun_mk (st := s_put_chain) l_put_chain c_put_chain k_put_chain
  have F_is_number := fun_mk (st := s_is_number) l_is_number c_is_number k_is_number
  have F_is_number_below := fun_mk (st := s_is_number_below) l_is_number_below c_is_number_below k_is_number_below
  have F_Disk_init := fun_mk (st := s_Disk_init) l_Disk_init c_Disk_init k_Disk_init
  have F_Disk_look := fun_mk (st := s_Disk_look) l_Disk_look c_Disk_look k_Disk_look
  have F_Disk_put := fun_mk (st := s_Disk_put) l_Disk_put c_Disk_put k_Disk_put
  have F_Disk_flush := fun_mk (st := s_Disk_flush) l_Disk_flush c_Disk_flush k_Disk_flush
  have F_Disk_events := fun_mk (st := s_Disk_events) l_Disk_events c_Disk_events k_Disk_events
  have F_are_cells := fun_mk (st := s_are_cells) l_are_cells c_are_cells k_are_cells
  have F__law_heap := fun_mk (st := s__law_heap) l__law_heap c__law_heap k__law_heap
  have F__law_draw := fun_mk (st := s__law_draw) l__law_draw c__law_draw k__law_draw
  have F__law_pick := fun_mk (st := s__law_pick) l__law_pick c__law_pick k__law_pick
  have F__law_octet := fun_mk (st := s__law_octet) l__law_octet c__law_octet k__law_octet
  have F__law_record := fun_mk (st := s__law_record) l__law_record c__law_record k__law_record
  have F__law_lasting := fun_mk (st := s__law_lasting) l__law_lasting c__law_lasting k__law_lasting
  have F__law_left := fun_mk (st := s__law_left) l__law_left c__law_left k__law_left
  have F__law_opened := fun_mk (st := s__law_opened) l__law_opened c__law_opened k__law_opened
  have F__law_base := fun_mk (st := s__law_base) l__law_base c__law_base k__law_base
  have F__law_cuts_right := fun_mk (st := s__law_cuts_right) l__law_cuts_right c__law_cuts_right k__law_cuts_right
  have F__law_call := fun_mk (st := s__law_call) l__law_call c__law_call k__law_call
  have F__law_turn := fun_mk (st := s__law_turn) l__law_turn c__law_turn k__law_turn
  have F__law_day_right := fun_mk (st := s__law_day_right) l__law_day_right c__law_day_right k__law_day_right
  have F__law_many_right := fun_mk (st := s__law_many_right) l__law_many_right c__law_many_right k__law_many_right
  have F__law_strange_right := fun_mk (st := s__law_strange_right) l__law_strange_right c__law_strange_right k__law_strange_right
  have F_law := fun_mk (st := s_law) l_law c_law k_law
  have b_Refused_init := F_Refused_init.binds (ps := ["self", "word"]) fun _ _ _ _ _ _ us hl => match us, hl with | [_, _], _ => rfl
  have b_Broken_init := F_Broken_init.binds (ps := ["self", "word"]) fun _ _ _ _ _ _ us hl => match us, hl with | [_, _], _ => rfl
  have b_Journal_init := F_Journal_init.binds (ps := ["self", "disk"]) fun _ _ _ _ _ _ us hl => match us, hl with | [_, _], _ => rfl
  have b_Journal_records := F_Journal_records.binds (ps := ["self"]) fun _ _ _ _ _ _ us hl => match us, hl with | [_], _ => rfl
  have b_Journal_write := F_Journal_write.binds (ps := ["self", "record"]) fun _ _ _ _ _ _ us hl => match us, hl with | [_, _], _ => rfl
  have b_Journal_renew := F_Journal_renew.binds (ps := ["self", "records"]) fun _ _ _ _ _ _ us hl => match us, hl with | [_, _], _ => rfl
  have b_bank_begin := F_bank_begin.binds (ps := ["disk", "bank"]) fun _ _ _ _ _ _ us hl => match us, hl with | [_, _], _ => rfl
  have b_bank_end := F_bank_end.binds (ps := ["disk", "bank"]) fun _ _ _ _ _ _ us hl => match us, hl with | [_, _], _ => rfl
  have b_behind_link := F_behind_link.binds (ps := ["disk", "at"]) fun _ _ _ _ _ _ us hl => match us, hl with | [_, _], _ => rfl
  have b_chain_end := F_chain_end.binds (ps := ["disk", "begin", "stop"]) fun _ _ _ _ _ _ us hl => match us, hl with | [_, _, _], _ => rfl
  have b_link_of := F_link_of.binds (ps := ["record"]) fun _ _ _ _ _ _ us hl => match us, hl with | [_], _ => rfl
  have b_put_chain := F_put_chain.binds (ps := ["disk", "begin", "octets", "stop"]) fun _ _ _ _ _ _ us hl => match us, hl with | [_, _, _, _], _ => rfl
  have b_is_number := F_is_number.binds (ps := ["value"]) fun _ _ _ _ _ _ us hl => match us, hl with | [_], _ => rfl
  have b_is_number_below := F_is_number_below.binds (ps := ["value", "limit"]) fun _ _ _ _ _ _ us hl => match us, hl with | [_, _], _ => rfl
  have b_Disk_init := F_Disk_init.binds (ps := ["self", "cells"]) fun _ _ _ _ _ _ us hl => match us, hl with | [_, _], _ => rfl
  have b_Disk_look := F_Disk_look.binds (ps := ["self", "at"]) fun _ _ _ _ _ _ us hl => match us, hl with | [_, _], _ => rfl
  have b_Disk_put := F_Disk_put.binds (ps := ["self", "at", "octet"]) fun _ _ _ _ _ _ us hl => match us, hl with | [_, _, _], _ => rfl
  have b_Disk_flush := F_Disk_flush.binds (ps := ["self"]) fun _ _ _ _ _ _ us hl => match us, hl with | [_], _ => rfl
  have b_Disk_events := F_Disk_events.binds (ps := ["self"]) fun _ _ _ _ _ _ us hl => match us, hl with | [_], _ => rfl
  have b_are_cells := F_are_cells.binds (ps := ["value"]) fun _ _ _ _ _ _ us hl => match us, hl with | [_], _ => rfl
  have b__law_heap := F__law_heap.binds (ps := ["script"]) fun _ _ _ _ _ _ us hl => match us, hl with | [_], _ => rfl
  have b__law_draw := F__law_draw.binds (ps := ["heap", "many"]) fun _ _ _ _ _ _ us hl => match us, hl with | [_, _], _ => rfl
  have b__law_pick := F__law_pick.binds (ps := ["heap", "some"]) fun _ _ _ _ _ _ us hl => match us, hl with | [_, _], _ => rfl
  have b__law_octet := F__law_octet.binds (ps := ["heap"]) fun _ _ _ _ _ _ us hl => match us, hl with | [_], _ => rfl
  have b__law_record := F__law_record.binds (ps := ["heap", "long"]) fun _ _ _ _ _ _ us hl => match us, hl with | [_, _], _ => rfl
  have b__law_lasting := F__law_lasting.binds (ps := ["cells", "events"]) fun _ _ _ _ _ _ us hl => match us, hl with | [_, _], _ => rfl
  have b__law_left := F__law_left.binds (ps := ["heap", "cells", "events"]) fun _ _ _ _ _ _ us hl => match us, hl with | [_, _, _], _ => rfl
  have b__law_opened := F__law_opened.binds (ps := ["cells"]) fun _ _ _ _ _ _ us hl => match us, hl with | [_], _ => rfl
  have b__law_base := F__law_base.binds (ps := ["cells", "events"]) fun _ _ _ _ _ _ us hl => match us, hl with | [_, _], _ => rfl
  have b__law_cuts_right := F__law_cuts_right.binds (ps := ["heap", "disk", "begun", "old", "new", "cuts"]) fun _ _ _ _ _ _ us hl => match us, hl with | [_, _, _, _, _, _], _ => rfl
  have b__law_call := F__law_call.binds (ps := ["heap", "journal", "renews", "records", "part"]) fun _ _ _ _ _ _ us hl => match us, hl with | [_, _, _, _, _], _ => rfl
  have b__law_turn := F__law_turn.binds (ps := ["heap", "journal", "old", "long", "cuts"]) fun _ _ _ _ _ _ us hl => match us, hl with | [_, _, _, _, _], _ => rfl
  have b__law_day_right := F__law_day_right.binds (ps := ["heap", "many", "turns", "cuts"]) fun _ _ _ _ _ _ us hl => match us, hl with | [_, _, _, _], _ => rfl
  have b__law_many_right := F__law_many_right.binds (ps := []) fun _ _ _ _ _ _ us hl => match us, hl with | [], _ => rfl
  have b__law_strange_right := F__law_strange_right.binds (ps := ["heap"]) fun _ _ _ _ _ _ us hl => match us, hl with | [_], _ => rfl
  have kbn_Journal_write_0 : KBn K _ ["self", "record"] 1 ["record"] (· ++ ·) (· ++ ·) := kbn_of F_Journal_write (fun _ _ _ _ _ _ us ws h1 h2 => match us, ws, h1, h2 with | [_], [_], _, _ => rfl) fun a b => a.append b
  have kbn_Journal_renew_0 : KBn K _ ["self", "records"] 1 ["records"] (· ++ ·) (· ++ ·) := kbn_of F_Journal_renew (fun _ _ _ _ _ _ us ws h1 h2 => match us, ws, h1, h2 with | [_], [_], _, _ => rfl) fun a b => a.append b
  have kbn_Disk_init_0 : KBn K _ ["self", "cells"] 1 ["cells"] (· ++ ·) (· ++ ·) := kbn_of F_Disk_init (fun _ _ _ _ _ _ us ws h1 h2 => match us, ws, h1, h2 with | [_], [_], _, _ => rfl) fun a b => a.append b
  have kbn_Journal_init_0 : KBn K _ ["self", "disk"] 1 ["disk"] (· ++ ·) (· ++ ·) := kbn_of F_Journal_init (fun _ _ _ _ _ _ us ws h1 h2 => match us, ws, h1, h2 with | [_], [_], _, _ => rfl) fun a b => a.append b
  have T : DTxt K mg C := ⟨⟨pg, hd, po, sa⟩, nC, nP, nH, PySem.W.mg_of X G g_C⟩
  have TJ : JTxt K mg CJ := ⟨⟨pgJ, hdJ, poJ, saJ⟩, nJD, nJB, nJE, PySem.W.mg_of X G g_CJ⟩
  have M : Mk K C f_Disk_init := ⟨mk, a_Disk_init, i_Disk_init, kpC⟩
  have MJ : Mk K CJ f_Journal_init := ⟨mkJ, a_Journal_init, i_Journal_init, kpCJ⟩
  have oxR : OexC K CR := ⟨⟨nm, qn, Nn, bs, _, sn, sub, ab, col, dd, m0, m1, m2, m3, m5, xR, rfl⟩, sa_R, exCR, tyR, kCR⟩
  have oxB : OexC K CB := ⟨⟨nmB, qnB, NnB, bsB, _, snB, subB, abB, colB, ddB, n0, n1, n2, n3, n5, xB, rfl⟩, sa_B, exCB, tyB, kCB⟩
  have TR : WTxt K mg "Refused" CR f_Refused_init := ⟨oxR, nWR, a_Refused_init, tIR, PySem.W.mg_of X G g_CR⟩
  have TB : WTxt K mg "Broken" CB f_Broken_init := ⟨oxB, nWB, a_Broken_init, tIB, PySem.W.mg_of X G g_CB⟩
  have TE : ETxt K mg CR CB CD := ⟨PySem.W.mg_of X G g_CD, PySem.W.exm_ref eCD hCD tCD sRD, kit_no iCB tyB sRR sRB, kit_yes iCR tyR sRR, ⟨hgR, hkR, exCR, hd_R, haR, hn, ht, hmR⟩, ⟨hgR, hkR, exCR, hd_R⟩,
    PySem.W.exm_ref eCD hCD tCD sBD, kit_yes iCB tyB sBB, kit_no iCR tyR sBB sBR, ⟨hgB, hkB, exCB, hd_B, haB, hn, ht, hmB⟩, ⟨hgB, hkB, exCB, hd_B⟩⟩
  refine ⟨PySem.W.fnOf "law" "law" (defArgs s_law) (defBody s_law) (defScope s_law) .none kV_law dc_law pm_law an_law cd_law ct_law, fun s v => .of_eq rfl, fun base _ _ => ?_⟩
  have G__law_draw := ok_draw (P := l.prog) (w := w) (base := base) (k := 0) F__law_draw (PySem.W.mg_none_of X G z_int)
  have G__law_pick := ok_pick (P := l.prog) (w := w) (base := base) (k := 0) F__law_pick F__law_draw b__law_draw (PySem.W.mg_of X G a__law_draw) (PySem.W.mg_none_of X G z_len) (PySem.W.mg_none_of X G z_int)
  have G__law_heap := ok_heap (P := l.prog) (w := w) (base := base) (k := 0) F__law_heap (PySem.W.mg_none_of X G z_abs) (PySem.W.mg_none_of X G z_int)
  have G_are_cells := ok_cells (P := l.prog) (w := w) (base := base) (k := 0) F_are_cells F_is_number_below F_is_number b_is_number b_is_number_below (PySem.W.mg_of X G a_is_number) (PySem.W.mg_of X G a_is_number_below) (PySem.W.mg_of X G v_MOST_CELLS) (PySem.W.mg_of X G v_OCTETS) (PySem.W.mg_none_of X G z_isinstance) (PySem.W.mg_none_of X G z_int) (PySem.W.mg_none_of X G z_bool) (PySem.W.mg_none_of X G z_tuple) (PySem.W.mg_none_of X G z_len) (PySem.W.mg_none_of X G z_all)
  have G_Disk_look := ok_look (P := l.prog) (w := w) (base := base) (k := 0) F_Disk_look T
  have G_Disk_put := ok_put (P := l.prog) (w := w) (base := base) (k := 0) F_Disk_put T
  have G_Disk_flush := ok_flush (P := l.prog) (w := w) (base := base) (k := 0) F_Disk_flush T
  have G_Disk_events := ok_events (P := l.prog) (w := w) (base := base) (k := 0) F_Disk_events T (PySem.W.mg_none_of X G z_tuple)
  have G_Disk_init := ok_init (P := l.prog) (w := w) (base := base) (k := 2) F_Disk_init T F_are_cells b_are_cells (PySem.W.mg_of X G a_are_cells) (G_are_cells.mono (by decide)) (PySem.W.mg_none_of X G z_list)
  have G_Refused_init := ok_iref (P := l.prog) (w := w) (base := base) (k := 0) F_Refused_init TR
  have G_bank_begin := ok_beg (P := l.prog) (w := w) (base := base) (k := 0) F_bank_begin T (PySem.W.mg_none_of X G z_len)
  have G_bank_end := ok_end (P := l.prog) (w := w) (base := base) (k := 1) F_bank_end F_bank_begin b_bank_begin (PySem.W.mg_of X G a_bank_begin) (G_bank_begin.mono (by decide))
  have G_behind_link := ok_beh (P := l.prog) (w := w) (base := base) (k := 1) F_behind_link T ⟨a_Disk_look, i_Disk_look, k_Disk_look⟩ b_Disk_look (G_Disk_look.mono (by decide)) (PySem.W.mg_of X G v_HEAD)
  have G_link_of := ok_link (P := l.prog) (w := w) (base := base) (k := 0) F_link_of (PySem.W.mg_none_of X G z_len) (PySem.W.mg_none_of X G z_list)
  have G_put_chain := ok_pc (P := l.prog) (w := w) (base := base) (k := 1) F_put_chain T ⟨a_Disk_put, i_Disk_put, k_Disk_put⟩ b_Disk_put (G_Disk_put.mono (by decide)) (PySem.W.mg_none_of X G z_enumerate) (PySem.W.mg_none_of X G z_len)
  have G_chain_end := ok_ce (P := l.prog) (w := w) (base := base) (k := 0) F_chain_end T ⟨a_Disk_look, i_Disk_look, k_Disk_look⟩ F_Disk_look b_Disk_look F_behind_link b_behind_link (PySem.W.mg_of X G a_behind_link) (PySem.W.mg_of X G v_HEAD) F_Broken_init TB b_Broken_init
  have G_Journal_init := ok_jinit (P := l.prog) (w := w) (base := base) (k := 3) F_Journal_init T TJ ⟨a_Disk_look, i_Disk_look, k_Disk_look⟩ b_Disk_look (G_Disk_look.mono (by decide)) F_bank_begin b_bank_begin (PySem.W.mg_of X G a_bank_begin) (G_bank_begin.mono (by decide)) F_bank_end b_bank_end (PySem.W.mg_of X G a_bank_end) (G_bank_end.mono (by decide)) F_chain_end b_chain_end (PySem.W.mg_of X G a_chain_end) (G_chain_end.mono (by decide))
  have G_Journal_records := ok_recs (P := l.prog) (w := w) (base := base) (k := 2) F_Journal_records T TJ ⟨a_Disk_look, i_Disk_look, k_Disk_look⟩ b_Disk_look (G_Disk_look.mono (by decide)) F_bank_begin b_bank_begin (PySem.W.mg_of X G a_bank_begin) (G_bank_begin.mono (by decide)) F_behind_link b_behind_link (PySem.W.mg_of X G a_behind_link) (G_behind_link.mono (by decide)) (PySem.W.mg_of X G v_HEAD) (PySem.W.mg_none_of X G z_tuple) (PySem.W.mg_none_of X G z_range)
  have G_Journal_write := ok_write (P := l.prog) (w := w) (base := base) (k := 1) F_Journal_write T TJ ⟨a_Disk_put, i_Disk_put, k_Disk_put⟩ b_Disk_put (G_Disk_put.mono (by decide)) ⟨a_Disk_flush, i_Disk_flush, k_Disk_flush⟩ b_Disk_flush (G_Disk_flush.mono (by decide)) F_link_of b_link_of (PySem.W.mg_of X G a_link_of) (G_link_of.mono (by decide)) F_bank_end b_bank_end (PySem.W.mg_of X G a_bank_end) (G_bank_end.mono (by decide)) F_put_chain b_put_chain (PySem.W.mg_of X G a_put_chain) (G_put_chain.mono (by decide)) F_Refused_init TR b_Refused_init (G_Refused_init.mono (by decide)) (PySem.W.mg_none_of X G z_len)
  have G_Journal_renew := ok_renew (P := l.prog) (w := w) (base := base) (k := 1) F_Journal_renew T TJ ⟨a_Disk_put, i_Disk_put, k_Disk_put⟩ b_Disk_put (G_Disk_put.mono (by decide)) ⟨a_Disk_flush, i_Disk_flush, k_Disk_flush⟩ b_Disk_flush (G_Disk_flush.mono (by decide)) F_link_of b_link_of (PySem.W.mg_of X G a_link_of) (G_link_of.mono (by decide)) F_bank_begin b_bank_begin (PySem.W.mg_of X G a_bank_begin) (G_bank_begin.mono (by decide)) F_bank_end b_bank_end (PySem.W.mg_of X G a_bank_end) (G_bank_end.mono (by decide)) F_put_chain b_put_chain (PySem.W.mg_of X G a_put_chain) (G_put_chain.mono (by decide)) F_Refused_init TR b_Refused_init (G_Refused_init.mono (by decide)) (PySem.W.mg_none_of X G z_len)
  have G__law_octet := ok_octet (P := l.prog) (w := w) (base := base) (k := 0) F__law_octet F__law_draw F__law_pick b__law_draw b__law_pick (PySem.W.mg_of X G a__law_draw) (PySem.W.mg_of X G a__law_pick) (PySem.W.mg_none_of X G z_len) (PySem.W.mg_none_of X G z_int)
  have G__law_record := ok_record (P := l.prog) (w := w) (base := base) (k := 0) F__law_record F__law_draw F__law_pick F__law_octet b__law_draw b__law_pick b__law_octet (PySem.W.mg_of X G a__law_draw) (PySem.W.mg_of X G a__law_pick) (PySem.W.mg_of X G a__law_octet) (PySem.W.mg_none_of X G z_len) (PySem.W.mg_none_of X G z_int) (PySem.W.mg_none_of X G z_range) (PySem.W.mg_none_of X G z_tuple)
  have G__law_left := ok_left (P := l.prog) (w := w) (base := base) (k := 0) F__law_left F__law_draw F__law_pick F__law_octet F__law_lasting b__law_draw b__law_pick b__law_octet b__law_lasting (PySem.W.mg_of X G a__law_draw) (PySem.W.mg_of X G a__law_pick) (PySem.W.mg_of X G a__law_octet) (PySem.W.mg_of X G a__law_lasting) (PySem.W.mg_none_of X G z_len) (PySem.W.mg_none_of X G z_int) (PySem.W.mg_none_of X G z_range) (PySem.W.mg_none_of X G z_tuple) (PySem.W.mg_none_of X G z_list)
  have G__law_opened := ok_opened (P := l.prog) (w := w) (base := base) (k := 4) F__law_opened T TJ M MJ b_Disk_init b_Journal_init (G_Disk_init.mono (by decide)) (G_Journal_init.mono (by decide)) ⟨a_Disk_events, i_Disk_events, k_Disk_events⟩ b_Disk_events (G_Disk_events.mono (by decide)) ⟨a_Journal_records, i_Journal_records, k_Journal_records⟩ b_Journal_records (G_Journal_records.mono (by decide))
  have G__law_base := ok_base (P := l.prog) (w := w) (base := base) (k := 0) F__law_base (PySem.W.mg_none_of X G z_len) (PySem.W.mg_none_of X G z_list) (PySem.W.mg_none_of X G z_range) (PySem.W.mg_none_of X G z_tuple) (PySem.W.mg_none_of X G z_max)
  have G__law_cuts_right := ok_cuts (P := l.prog) (w := w) (base := base) (k := 6) F__law_cuts_right F__law_draw F__law_base F__law_left F__law_opened T ⟨a_Disk_events, i_Disk_events, k_Disk_events⟩ b_Disk_events (G_Disk_events.mono (by decide)) b__law_draw b__law_base b__law_left b__law_opened (PySem.W.mg_of X G a__law_draw) (PySem.W.mg_of X G a__law_base) (PySem.W.mg_of X G a__law_left) (PySem.W.mg_of X G a__law_opened) (G__law_draw.mono (by decide)) (G__law_base.mono (by decide)) (G__law_left.mono (by decide)) (G__law_opened.mono (by decide)) (PySem.W.mg_none_of X G z_len) (PySem.W.mg_none_of X G z_range) (PySem.W.mg_none_of X G z_max) (PySem.W.mg_none_of X G z_repr)
  have G__law_call := ok_call (P := l.prog) (w := w) (base := base) (k := 3) F__law_call F__law_draw b__law_draw (PySem.W.mg_of X G a__law_draw) (G__law_draw.mono (by decide)) TJ TR (PySem.W.mg_of X G g_CB) TE ⟨a_Journal_write, i_Journal_write, k_Journal_write⟩ b_Journal_write kbn_Journal_write_0 (G_Journal_write.mono (by decide)) ⟨a_Journal_renew, i_Journal_renew, k_Journal_renew⟩ b_Journal_renew kbn_Journal_renew_0 (G_Journal_renew.mono (by decide)) (PySem.W.mg_none_of X G z_isinstance)
  have G__law_turn := ok_turn (P := l.prog) (w := w) (base := base) (k := 7) F__law_turn F__law_draw b__law_draw (PySem.W.mg_of X G a__law_draw) (G__law_draw.mono (by decide)) F__law_record b__law_record (PySem.W.mg_of X G a__law_record) (G__law_record.mono (by decide)) F__law_call b__law_call (PySem.W.mg_of X G a__law_call) (G__law_call.mono (by decide)) F__law_cuts_right b__law_cuts_right (PySem.W.mg_of X G a__law_cuts_right) (G__law_cuts_right.mono (by decide)) T TJ ⟨a_Disk_events, i_Disk_events, k_Disk_events⟩ b_Disk_events (G_Disk_events.mono (by decide)) ⟨a_Journal_records, i_Journal_records, k_Journal_records⟩ b_Journal_records (G_Journal_records.mono (by decide)) (PySem.W.mg_none_of X G z_len) (PySem.W.mg_none_of X G z_range) (PySem.W.mg_none_of X G z_tuple) (PySem.W.mg_none_of X G z_repr) (PySem.W.mg_none_of X G z_sum)
  have G__law_day_right := ok_day (P := l.prog) (w := w) (base := base) (k := 7) F__law_day_right F__law_draw b__law_draw (PySem.W.mg_of X G a__law_draw) (G__law_draw.mono (by decide)) F__law_pick b__law_pick (PySem.W.mg_of X G a__law_pick) (G__law_pick.mono (by decide)) F__law_turn b__law_turn (PySem.W.mg_of X G a__law_turn) (G__law_turn.mono (by decide)) F__law_left b__law_left (PySem.W.mg_of X G a__law_left) (G__law_left.mono (by decide)) T TJ M MJ b_Disk_init b_Journal_init kbn_Disk_init_0 kbn_Journal_init_0 (G_Disk_init.mono (by decide)) (G_Journal_init.mono (by decide)) ⟨a_Disk_events, i_Disk_events, k_Disk_events⟩ b_Disk_events (G_Disk_events.mono (by decide)) ⟨a_Journal_records, i_Journal_records, k_Journal_records⟩ b_Journal_records (G_Journal_records.mono (by decide)) (PySem.W.mg_none_of X G z_len) (PySem.W.mg_none_of X G z_range) (PySem.W.mg_none_of X G z_max) (PySem.W.mg_none_of X G z_repr)
  have G__law_many_right := ok_many (P := l.prog) (w := w) (base := base) (k := 4) F__law_many_right T TJ M MJ b_Disk_init b_Journal_init (G_Disk_init.mono (by decide)) (G_Journal_init.mono (by decide)) ⟨a_Journal_records, i_Journal_records, k_Journal_records⟩ b_Journal_records (G_Journal_records.mono (by decide)) ⟨a_Journal_write, i_Journal_write, k_Journal_write⟩ b_Journal_write (G_Journal_write.mono (by decide)) ⟨a_Journal_renew, i_Journal_renew, k_Journal_renew⟩ b_Journal_renew (G_Journal_renew.mono (by decide)) (PySem.W.mg_none_of X G z_range)
  have G__law_strange_right := ok_strange (P := l.prog) (w := w) (base := base) (k := 4) F__law_strange_right F__law_draw b__law_draw (PySem.W.mg_of X G a__law_draw) (G__law_draw.mono (by decide)) F__law_pick b__law_pick (PySem.W.mg_of X G a__law_pick) (G__law_pick.mono (by decide)) F__law_octet b__law_octet (PySem.W.mg_of X G a__law_octet) (G__law_octet.mono (by decide)) T TJ M MJ b_Disk_init b_Journal_init (G_Disk_init.mono (by decide)) (G_Journal_init.mono (by decide)) TB TR TE ⟨a_Journal_records, i_Journal_records, k_Journal_records⟩ b_Journal_records (G_Journal_records.mono (by decide)) (PySem.W.mg_none_of X G z_range) (PySem.W.mg_none_of X G z_tuple) (PySem.W.mg_none_of X G z_isinstance) (PySem.W.mg_none_of X G z_all)
  have G_law := ok_law (P := l.prog) (w := w) (base := base) (k := 8) F_law F__law_heap b__law_heap (PySem.W.mg_of X G a__law_heap) (G__law_heap.mono (by decide)) F__law_draw b__law_draw (PySem.W.mg_of X G a__law_draw) (G__law_draw.mono (by decide)) F__law_pick b__law_pick (PySem.W.mg_of X G a__law_pick) (G__law_pick.mono (by decide)) F__law_day_right b__law_day_right (PySem.W.mg_of X G a__law_day_right) (G__law_day_right.mono (by decide)) F__law_strange_right b__law_strange_right (PySem.W.mg_of X G a__law_strange_right) (G__law_strange_right.mono (by decide)) F__law_many_right b__law_many_right (PySem.W.mg_of X G a__law_many_right) (G__law_many_right.mono (by decide)) F__law_opened b__law_opened (PySem.W.mg_of X G a__law_opened) (G__law_opened.mono (by decide)) T TJ M MJ b_Disk_init b_Journal_init (G_Disk_init.mono (by decide)) (G_Journal_init.mono (by decide)) ⟨a_Journal_records, i_Journal_records, k_Journal_records⟩ b_Journal_records (G_Journal_records.mono (by decide)) ⟨a_Journal_write, i_Journal_write, k_Journal_write⟩ b_Journal_write (G_Journal_write.mono (by decide)) ⟨a_Journal_renew, i_Journal_renew, k_Journal_renew⟩ b_Journal_renew (G_Journal_renew.mono (by decide)) ⟨a_Disk_look, i_Disk_look, k_Disk_look⟩ b_Disk_look (G_Disk_look.mono (by decide)) (PySem.W.mg_none_of X G z_len) (PySem.W.mg_none_of X G z_int) (PySem.W.mg_none_of X G z_range) (PySem.W.mg_none_of X G z_tuple)
  exact G_law
end K6
open PySem PySem.W PyProof.Rows
set_option maxHeartbeats 0 in
theorem PySem.Challenge.cw_neverregret_k60_whole_journals_cut_anywh_holds : PySem.Challenge.rw_neverregret_k60_whole_journals_cut_anywh.Holds := by
  w_on; o_law; k_head; (case hw => w_witness2)
  k_fill
  refine Gd.walk_G (l := PySem.Challenge.rw_neverregret_k60_whole_journals_cut_anywh) (n := 63) (k := 10) (x := "script") (sp := fun w => K6.spLaw _) rfl (by decide) rfl ⟨rfl, by decide, by decide⟩ (fun w h Y => PySem.W.kIn_of Y) ?F (fun _ _ a ns hl _ _ hS => ⟨a, ns, rfl, hS, hl, fun _ => rfl⟩)
  case F =>
    intro w mg fa h KX G hmg
    refine' K6.all_mk KX G hmg ?g_C ?g_CJ ?g_CR ?g_CB ?g_CD ?a_Refused_init ?l_Refused_init ?c_Refused_init ?k_Refused_init ?i_Refused_init ?a_Broken_init ?l_Broken_init ?c_Broken_init ?k_Broken_init ?i_Broken_init ?a_Journal_init ?l_Journal_init ?c_Journal_init ?k_Journal_init ?i_Journal_init ?a_Journal_records ?l_Journal_records ?c_Journal_records ?k_Journal_records ?i_Journal_records ?a_Journal_write ?l_Journal_write ?c_Journal_write ?k_Journal_write ?i_Journal_write ?a_Journal_renew ?l_Journal_renew ?c_Journal_renew ?k_Journal_renew ?i_Journal_renew ?a_bank_begin ?l_bank_begin ?c_bank_begin ?k_bank_begin ?a_bank_end ?l_bank_end ?c_bank_end ?k_bank_end ?a_behind_link ?l_behind_link ?c_behind_link ?k_behind_link ?a_chain_end ?l_chain_end ?c_chain_end ?k_chain_end ?a_link_of ?l_link_of ?c_link_of ?k_link_of ?a_put_chain ?l_put_chain ?c_put_chain ?k_put_chain ?a_is_number ?l_is_number ?c_is_number ?k_is_number ?a_is_number_below ?l_is_number_below ?c_is_number_below ?k_is_number_below ?a_Disk_init ?l_Disk_init ?c_Disk_init ?k_Disk_init ?i_Disk_init ?a_Disk_look ?l_Disk_look ?c_Disk_look ?k_Disk_look ?i_Disk_look ?a_Disk_put ?l_Disk_put ?c_Disk_put ?k_Disk_put ?i_Disk_put ?a_Disk_flush ?l_Disk_flush ?c_Disk_flush ?k_Disk_flush ?i_Disk_flush ?a_Disk_events ?l_Disk_events ?c_Disk_events ?k_Disk_events ?i_Disk_events ?a_are_cells ?l_are_cells ?c_are_cells ?k_are_cells ?a__law_heap ?l__law_heap ?c__law_heap ?k__law_heap ?a__law_draw ?l__law_draw ?c__law_draw ?k__law_draw ?a__law_pick ?l__law_pick ?c__law_pick ?k__law_pick ?a__law_octet ?l__law_octet ?c__law_octet ?k__law_octet ?a__law_record ?l__law_record ?c__law_record ?k__law_record ?a__law_lasting ?l__law_lasting ?c__law_lasting ?k__law_lasting ?a__law_left ?l__law_left ?c__law_left ?k__law_left ?a__law_opened ?l__law_opened ?c__law_opened ?k__law_opened ?a__law_base ?l__law_base ?c__law_base ?k__law_base ?a__law_cuts_right ?l__law_cuts_right ?c__law_cuts_right ?k__law_cuts_right ?a__law_call ?l__law_call ?c__law_call ?k__law_call ?a__law_turn ?l__law_turn ?c__law_turn ?k__law_turn ?a__law_day_right ?l__law_day_right ?c__law_day_right ?k__law_day_right ?a__law_many_right ?l__law_many_right ?c__law_many_right ?k__law_many_right ?a__law_strange_right ?l__law_strange_right ?c__law_strange_right ?k__law_strange_right ?a_law ?l_law ?c_law ?k_law ?pg ?hd ?po ?sa ?mk ?kpC ?pgJ ?hdJ ?poJ ?saJ ?mkJ ?kpCJ ?nC ?nP ?nH ?nJD ?nJB ?nJE ?xR ?sa_R ?exCR ?tyR ?kCR ?nWR ?tIR ?sRD ?sRR ?iCR ?hgR ?hkR ?hd_R ?haR ?hmR ?xB ?sa_B ?exCB ?tyB ?kCB ?nWB ?tIB ?sBD ?sBB ?iCB ?hgB ?hkB ?hd_B ?haB ?hmB ?sRB ?sBR ?eCD ?hCD ?tCD ?hn ?ht ?v_MOST_CELLS ?v_OCTETS ?v_HEAD ?z_int ?z_len ?z_abs ?z_isinstance ?z_bool ?z_tuple ?z_all ?z_list ?z_enumerate ?z_range ?z_max ?z_repr ?z_sum
    (case g_C => k_is); (case g_CJ => k_is); (case g_CR => k_is); (case g_CB => k_is); (case g_CD => k_is); (case a_Refused_init => k_is); (case l_Refused_init => k_is); (case c_Refused_init => k_is); (case k_Refused_init => k_is); (case i_Refused_init => k_is); (case a_Broken_init => k_is); (case l_Broken_init => k_is); (case c_Broken_init => k_is); (case k_Broken_init => k_is); (case i_Broken_init => k_is); (case a_Journal_init => k_is); (case l_Journal_init => k_is); (case c_Journal_init => k_is); (case k_Journal_init => k_is); (case i_Journal_init => k_is); (case a_Journal_records => k_is); (case l_Journal_records => k_is); (case c_Journal_records => k_is); (case k_Journal_records => k_is); (case i_Journal_records => k_is); (case a_Journal_write => k_is); (case l_Journal_write => k_is); (case c_Journal_write => k_is); (case k_Journal_write => k_is); (case i_Journal_write => k_is); (case a_Journal_renew => k_is); (case l_Journal_renew => k_is); (case c_Journal_renew => k_is); (case k_Journal_renew => k_is); (case i_Journal_renew => k_is); (case a_bank_begin => k_is); (case l_bank_begin => k_is); (case c_bank_begin => k_is); (case k_bank_begin => k_is); (case a_bank_end => k_is); (case l_bank_end => k_is); (case c_bank_end => k_is); (case k_bank_end => k_is); (case a_behind_link => k_is); (case l_behind_link => k_is); (case c_behind_link => k_is); (case k_behind_link => k_is); (case a_chain_end => k_is); (case l_chain_end => k_is); (case c_chain_end => k_is); (case k_chain_end => k_is); (case a_link_of => k_is); (case l_link_of => k_is); (case c_link_of => k_is); (case k_link_of => k_is); (case a_put_chain => k_is); (case l_put_chain => k_is); (case c_put_chain => k_is); (case k_put_chain => k_is); (case a_is_number => k_is); (case l_is_number => k_is); (case c_is_number => k_is); (case k_is_number => k_is); (case a_is_number_below => k_is); (case l_is_number_below => k_is); (case c_is_number_below => k_is); (case k_is_number_below => k_is); (case a_Disk_init => k_is); (case l_Disk_init => k_is); (case c_Disk_init => k_is); (case k_Disk_init => k_is); (case i_Disk_init => k_is); (case a_Disk_look => k_is); (case l_Disk_look => k_is); (case c_Disk_look => k_is); (case k_Disk_look => k_is); (case i_Disk_look => k_is); (case a_Disk_put => k_is); (case l_Disk_put => k_is); (case c_Disk_put => k_is); (case k_Disk_put => k_is); (case i_Disk_put => k_is); (case a_Disk_flush => k_is); (case l_Disk_flush => k_is); (case c_Disk_flush => k_is); (case k_Disk_flush => k_is); (case i_Disk_flush => k_is); (case a_Disk_events => k_is); (case l_Disk_events => k_is); (case c_Disk_events => k_is); (case k_Disk_events => k_is); (case i_Disk_events => k_is); (case a_are_cells => k_is); (case l_are_cells => k_is); (case c_are_cells => k_is); (case k_are_cells => k_is); (case a__law_heap => k_is); (case l__law_heap => k_is); (case c__law_heap => k_is); (case k__law_heap => k_is); (case a__law_draw => k_is); (case l__law_draw => k_is); (case c__law_draw => k_is); (case k__law_draw => k_is); (case a__law_pick => k_is); (case l__law_pick => k_is); (case c__law_pick => k_is); (case k__law_pick => k_is); (case a__law_octet => k_is); (case l__law_octet => k_is); (case c__law_octet => k_is); (case k__law_octet => k_is); (case a__law_record => k_is); (case l__law_record => k_is); (case c__law_record => k_is); (case k__law_record => k_is); (case a__law_lasting => k_is); (case l__law_lasting => k_is); (case c__law_lasting => k_is); (case k__law_lasting => k_is); (case a__law_left => k_is); (case l__law_left => k_is); (case c__law_left => k_is); (case k__law_left => k_is); (case a__law_opened => k_is); (case l__law_opened => k_is); (case c__law_opened => k_is); (case k__law_opened => k_is); (case a__law_base => k_is); (case l__law_base => k_is); (case c__law_base => k_is); (case k__law_base => k_is); (case a__law_cuts_right => k_is); (case l__law_cuts_right => k_is); (case c__law_cuts_right => k_is); (case k__law_cuts_right => k_is); (case a__law_call => k_is); (case l__law_call => k_is); (case c__law_call => k_is); (case k__law_call => k_is); (case a__law_turn => k_is); (case l__law_turn => k_is); (case c__law_turn => k_is); (case k__law_turn => k_is); (case a__law_day_right => k_is); (case l__law_day_right => k_is); (case c__law_day_right => k_is); (case k__law_day_right => k_is); (case a__law_many_right => k_is); (case l__law_many_right => k_is); (case c__law_many_right => k_is); (case k__law_many_right => k_is); (case a__law_strange_right => k_is); (case l__law_strange_right => k_is); (case c__law_strange_right => k_is); (case k__law_strange_right => k_is); (case a_law => k_is); (case l_law => k_is); (case c_law => k_is); (case k_law => k_is); (case pg => k_is); (case hd => k_is); (case po => k_is); (case sa => k_is); (case mk => k_is); (case kpC => k_is); (case pgJ => k_is); (case hdJ => k_is); (case poJ => k_is); (case saJ => k_is); (case mkJ => k_is); (case kpCJ => k_is); (case nC => k_is); (case nP => k_is); (case nH => k_is); (case nJD => k_is); (case nJB => k_is); (case nJE => k_is); (case xR => k_is); (case sa_R => k_is); (case exCR => k_is); (case tyR => k_is); (case kCR => k_is); (case nWR => k_is); (case tIR => k_is); (case sRD => k_is); (case sRR => first | k_is | rfl); (case iCR => k_is); (case hgR => k_is); (case hkR => k_is); (case hd_R => k_is); (case haR => k_is); (case hmR => k_is); (case xB => k_is); (case sa_B => k_is); (case exCB => k_is); (case tyB => k_is); (case kCB => k_is); (case nWB => k_is); (case tIB => k_is); (case sBD => k_is); (case sBB => first | k_is | rfl); (case iCB => k_is); (case hgB => k_is); (case hkB => k_is); (case hd_B => k_is); (case haB => k_is); (case hmB => k_is); (case sRB => k_is); (case sBR => k_is); (case eCD => k_is); (case hCD => k_is); (case tCD => k_is); (case hn => k_is); (case ht => k_is); (case v_MOST_CELLS => k_is); (case v_OCTETS => k_is); (case v_HEAD => k_is); (case z_int => k_is); (case z_len => k_is); (case z_abs => k_is); (case z_isinstance => k_is); (case z_bool => k_is); (case z_tuple => k_is); (case z_all => k_is); (case z_list => k_is); (case z_enumerate => k_is); (case z_range => k_is); (case z_max => k_is); (case z_repr => k_is); (case z_sum => k_is)
