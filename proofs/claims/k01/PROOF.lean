import PyProof.Rows.All
import Wide.All
import OpenK.AllK
import Wide.FinOn
import HandS.ForMost
import HandS.ForExc
import HandS.ExcIs
import HandS.Gcd
import HandS.RaiseMore
import HandS.Wide
import HandS.Style
import HandS.Defaults
import HandS.Flow
import HandS.Deep
import HandS.Evl
import HandS.Conv
import PyProof.ReprRoads
import PyProof.ReprLen
import PyProof.Rows.RegStrFacts
import HandS.Ends
import PySem.Challenge.RW_graftworth_k01_sums_and_products
set_option Elab.async false
set_option linter.all false
set_option maxRecDepth 100000
set_option maxHeartbeats 4000000
set_option Elab.async false
set_option linter.all false
set_option maxRecDepth 100000
set_option maxHeartbeats 4000000
namespace Gw
open PySem PySem.Spec PyProof.Rows L2
section
variable {X : Cx}
/-- repr of data, where nothing is being shown around -/
def rRepr (K : PySem.W.Frag) : List V → Hp → VK → Prop := fun xs H Q =>
  ∃ x d, xs = [x] ∧ Dp K H x d ∧ d.showable = true ∧ d.hasDict = false ∧ d.depth ≤ 60 ∧ d.shown.length ≤ sizeLine ∧ Q (.str d.shown) H
theorem cr_repr (hg : X.A.guards = some []) (hu : X.A.units + 100 < cLine) : CallR X (.builtin "repr") (rRepr X.K) := by
  intro pins s σ H xs us Q I r h
  obtain ⟨x, d, rfl, hd, hs, hh, hdep, hz, q⟩ := h
  obtain ⟨u, rfl, rx⟩ : ∃ u, us = [u] ∧ RelV x u := by
    cases r with
    | cons rx rn => cases rn; exact ⟨_, rfl, rx⟩
  obtain ⟨as, R⟩ := Dp.reads I d x u hd rx
  have fin : ∀ (h' : Heap) (t u : Tok), (∀ b o, s.heap.get? b = some o → h'.get? b = some o) → EP X pins σ Q (.str d.shown u) { s with heap := h', toks := t } :=
    fun h' t u hk => ⟨.str d.shown, H, I.kept (t' := t) hk, ⟨u, rfl⟩, q⟩
  cases R with
  | none =>
    refine PySem.P.repr_of_none ?_
    have := fin s.heap (s.toks + 1) s.toks (fun _ _ e => e)
    rw [PyData.shown_none] at this
    exact this
  | bool b =>
    refine PySem.P.repr_of_bool ?_
    have := fin s.heap (s.toks + 1) s.toks (fun _ _ e => e)
    rw [PyData.shown_bool] at this
    cases b <;> exact this
  | int i t =>
    refine PySem.P.repr_of_int (by simpa [PyData.showable] using hs) ?_
    have := fin s.heap (s.toks + 1) s.toks (fun _ _ e => e)
    rw [PyData.shown_int] at this
    exact this
  | str y t =>
    rw [PyData.shown_str] at hz
    refine PySem.P.repr_of_str ?_ hz
    have := fin s.heap (s.toks + 1) s.toks (fun _ _ e => e)
    rw [PyData.shown_str] at this
    exact this
  | list h1 h2 h3 h4 =>
    exact repr_of_reads' (.list h1 h2 h3 h4) hs (by rw [hh]; intro z; cases z) hg (by omega) (fun _ _ e => e) (fun h' u tk hk => fin h' tk u hk) hz
  | tuple h1 h2 h3 h4 =>
    exact repr_of_reads' (.tuple h1 h2 h3 h4) hs (by rw [hh]; intro z; cases z) hg (by omega) (fun _ _ e => e) (fun h' u tk hk => fin h' tk u hk) hz
  | dict h1 h2 h3 h4 h5 => cases hd
/-- isinstance(e, C) of the handled error e whose class is not written there -/
def rIsA (K : PySem.W.Frag) (cls : Value) (d : Option Addr) (a : Addr) : List V → Hp → VK → Prop := fun xs H Q =>
  ∃ D, cls = .ref D ∧ d = none ∧ ExcC K D ∧ rIsE K D a xs H Q
theorem cr_isA {a : Addr} {oe : Obj} {pn : List (Addr × Obj)} {cls : Value} {d : Option Addr} (hz : Zc cls d oe) (hf : ∃ vs, oe.data = .fields vs) :
    CallR (X.suite a ((a, oe) :: pn)) (.builtin "isinstance") (rIsA X.K cls d a) := by
  intro pins s σ H xs us Q I r h
  obtain ⟨D, rfl, rfl, C, h⟩ := h
  exact call_isE C hz hf pins s σ H xs us Q I r h
end
end Gw

set_option Elab.async false
set_option linter.all false
set_option maxRecDepth 100000
set_option maxHeartbeats 4000000
namespace Gw
open PySem PySem.Spec PyProof.Rows L2
/-! The end of a law whose own def shows data (repr): its promise at the one caller, around which nothing is being shown. -/
/-- a def's promise as it is kept around A alone -/
def FnAt (A : Around) (P : Program) (w : World) (K : PySem.W.Frag) (mg : Str → Option Value) (base : Heap) (CX : CXT) (f : Addr) (fd : FuncData) (ps : List Str) (sp : Sp) : Prop :=
  ∀ (outer : List Env) (s : Shared) (H : Hp) (ar : Args) (us : List Value) (vs : List V) (Q : VK) (E : XK), Env0 P w K mg base A outer s H →
    BindsTo s fd ar (ps.zip us) → Vals vs us → sp vs H Q E → codeAny (model P w) A (.call (.ref f) ar) (CR CX outer P w H s Q E) s
theorem fnAt_mk {A : Around} {CX : CXT} {P : Program} {w : World} {K : PySem.W.Frag} {mg : Str → Option Value} {base : Heap} {k : Nat} {f : Addr} {x q : Str} {st : Stmt} {fd : FuncData} {N ps : List Str} {sp : Sp}
    (F : Fun K x q st f fd) (S : FnScope N ps (defScope st)) (hr : Room (k + 1) A) (len : ∀ vs H Q E, sp vs H Q E → vs.length = ps.length)
    (hb : ∀ (cdv : Value) (outer : List Env) (s : Shared) (H : Hp) (vs : List V) (Q : VK) (E : XK), Room k (A.deeper (envOfC q (defScope st) s.heap.objs.size f cdv)) → sp vs H Q E →
      ∃ t, PSs (cxOf CX P w K mg base N q (defScope st) f cdv A outer s H E) (defBody st) t ∧ t { nx := fun _ H' => Q .non H', rt := Q } (start N vs) H) :
    FnAt A P w K mg base CX f fd ps sp := by
  obtain ⟨oc, od, kV, doc, pm, an, cdv, ct, osl, rfl, lk, hcd⟩ := F.ex
  intro outer s H ar us vs Q E e0 bd rv hsp
  have up : ∀ b o, base.get? b = some o → s.heap.get? b = some o := fun b o z => (e0.bs b o z).1
  have KX : K.In s.heap := e0.mod.kin.keeps up
  have nl : s.heap.NoLimit := e0.mod.nolimit.keeps up
  have kd : ∀ y ∈ ps.zip us, (defScope st).names.lookup y.1 = some .local ∨
      ((defScope st).names.lookup y.1 = some .cell ∧ ((cellsFrom (s.heap.objs.size + 1) (defScope st).names []).lookup y.1).isSome = true) := by
    rintro ⟨n, v⟩ hy
    cases S.par n (List.of_mem_zip hy).1 with
    | inl z => exact Or.inl z
    | inr z => exact Or.inr ⟨z, PySem.W.cellsFrom_some _ _ _ (Or.inl z)⟩
  apply codeAny_call_function hr.depth (KX _ _ lk) rfl S.co S.gen rfl (PySem.W.codeRec_of KX hcd)
  apply bd
  apply wpAny_newFunctionEnv_cells S.kind kd
  intro env he s1 ic
  subst he
  constructor
  · exact nl.keeps ic.toInCall.keep
  apply codeAny_func
  obtain ⟨t, ht, hq⟩ := hb cdv outer s H vs Q E (hr.deeper _) hsp
  have I0 := inv_start (CX := CX) (E := E) S hr.hd e0 (len _ _ _ _ hsp) rv ic
  apply wpAny_mono (ht.run [] s1 (start N vs) H _ I0 hq) _ (fun e s' z => z)
  intro fl s' z
  cases fl with
  | next => obtain ⟨σ', H', J, y⟩ := z; exact ⟨.non, H', J.os, J.bare, J.base, J.hok, rfl, y⟩
  | brk => obtain ⟨σ', H', J, y⟩ := z; exact y.elim
  | cont => obtain ⟨σ', H', J, y⟩ := z; exact y.elim
  | ret u => obtain ⟨v, σ', H', J, rr, y⟩ := z; exact ⟨v, H', J.os, J.bare, J.base, J.hok, rr, y⟩

/-- from an abstract heap H in which nothing but the script at a is told -/
theorem law_core {P : Program} {w : World} {K : PySem.W.Frag} {mg mb : Str → Option Value} {fa a : Addr} {fd : FuncData} {x : Str} {sp : Sp} {s₁ : Shared} {vs : List Value} {H : Hp}
    (KX : K.In s₁.heap) (hns : s₁.heap.Ns mainGlobals mg) (hb : s₁.heap.Ns builtinsNs mb) (hbb : ∀ x : Str, x ≠ "__name__" → mb x = bootBuiltins x) (hlim : s₁.heap.NoLimit) (hg : s₁.gens = #[])
    (ha : s₁.heap.get? a = some { cls := .type "list", data := .seq vs.toArray })
    (F : ∀ base : Heap, K.In base → base.Ns mainGlobals mg → FnAt callerA P w K mg base CX0 fa fd [x] sp) (bd : ∀ (s : Shared) (u : Value), BindsTo s fd ⟨[u], []⟩ [(x, u)])
    (ok : HOk P w H s₁.heap) (hA : ∀ b u, H b = some u → b = a ∧ K.lookup b = none ∧ ∃ o xs, u = .frz o (.lst xs)) (h : sp [.ref a] H (fun v _ => v = .bl true) fun _ _ _ => False) :
    codeAny (model P w) callerA (.call (.ref fa) ⟨[.ref a], []⟩) (fun r s' => r = .ok (.ret (.bool true)) ∧ OldK s₁.heap s'.heap ∧ s'.os = s₁.os ∧ AllBare s'.gens) s₁ := by
  have notIn : ∀ {b : Addr} {o : Obj}, K.lookup b = some o → H b = none := by
    intro b o e
    rcases q : H b with _ | u
    · rfl
    · have := (hA b u q).2.1; rw [e] at this; cases this
  have notDict : ∀ {b : Addr} {o : Obj} {es : Array DictEntry} {ep : Nat}, s₁.heap.get? b = some o → o.data = .dict es ep → H b = none := by
    intro b o es ep e d
    rcases q : H b with _ | u
    · rfl
    · obtain ⟨rfl, _⟩ := hA b u q
      rw [ha] at e
      cases e
      cases d
  have ns' : ∀ {b : Addr} {m : Str → Option Value}, s₁.heap.Ns b m → (hidT s₁.heap H).Ns b m := by
    rintro b m ⟨o, es, ep, e, d, z⟩
    exact ⟨o, es, ep, hidT_get e (notDict e d), d, z⟩
  have kb : K.In (hidT s₁.heap H) := fun b o e => hidT_get (KX b o e) (notIn e)
  obtain ⟨mc, l1, l2⟩ := hlim
  have md : Mod K mg (hidT s₁.heap H) := ⟨kb, ns' hns, ⟨mb, ns' hb, hbb⟩, ⟨mc, ns' l1, l2⟩⟩
  have nofr : frs ([] : List Env) = [] := rfl
  have e0 : Env0 P w K mg (hidT s₁.heap H) callerA [] s₁ H :=
    { frames := rfl, mod := md, bs := fun b o e => of_hidT e, bsz := Nat.le_of_eq (hidT_size _ _), funs := trivial, frf := fun b z => (by rw [nofr] at z; cases z), hok := ok, bare := .of_eq hg }
  apply codeAny_mono (F _ kb (ns' hns) [] s₁ H ⟨[.ref a], []⟩ [.ref a] [.ref a] _ _ e0 (bd s₁ (.ref a)) (.cons rfl .nil) h)
  intro r s' z
  rcases r with e | fl
  · cases r : (⟨e, s'⟩ : Value × Shared); exact False.elim z
  cases fl with
  | next => exact False.elim z
  | brk => exact False.elim z
  | cont => exact False.elim z
  | ret u =>
    obtain ⟨v, H', os, bare, un, ok', rr, q⟩ := z
    have q' : v = .bl true := q
    subst q'
    have eu : u = Value.bool true := rr
    subst eu
    refine ⟨rfl, OldK.of_keep ?_, os, bare⟩
    intro b o e
    rcases hq : H b with _ | u
    · exact un.keep b o e hq (by rw [nofr]; intro z; cases z) (by intro z; cases z)
    · obtain ⟨_, _, ob, xs, rfl⟩ := hA b u hq
      have e1 := (ok b _ hq).1
      have e2 := (ok' b _ (un.frzs b ob _ hq)).1
      rw [e] at e1
      cases e1
      exact e2

theorem vals_of_ints : ∀ {vs : List Value} {ns : List Int}, IntsAre vs ns → Vals (ns.map V.int) vs
  | _, _, .nil => .nil
  | _, _, .cons n t h => .cons ⟨t, rfl⟩ (vals_of_ints h)

theorem law_walk {l : PySem.W.OpenLaw} {n : Nat} {q : Program} {loose : List Str} {XP : (Str → Option Value) → Heap → Prop} {YP : World → Heap → Prop} {d : DefRec} {K : Params → PySem.W.Frag} {sp : PySem.W.Frag → Sp} {x : Str}
    (hn : l.most = some n) (hn2 : n ≤ sizeLine) (hdf : d.params.defaults = [])
    (hY : ∀ (w : World) (h : Heap), YP w h → (K w.params).In h)
    (F : ∀ (w : World) (mg : Str → Option Value) (fa : Addr) (h : Heap), (K w.params).In h → h.Ns mainGlobals mg → mg d.name = some (.ref fa) →
      ∃ fd : FuncData, (∀ (s : Shared) (u : Value), BindsTo s fd ⟨[u], []⟩ [(x, u)]) ∧
        ∀ base : Heap, (K w.params).In base → base.Ns mainGlobals mg → FnAt callerA l.prog w (K w.params) mg base CX0 fa fd [x] (sp (K w.params)))
    (hsp : ∀ (K : PySem.W.Frag) (H : Hp) (a : Addr) (ns : List Int), ns.length ≤ n → SqL K H a (ns.map V.int) → sp K [.ref a] H (fun v _ => v = .bl true) fun _ _ _ => False) :
    PySem.W.WalkO q loose XP YP l.row.toRowW d [] (fun f vs => PySem.call f vs) := by
  apply Att.attach_call hn hdf
  intro w s₀ s₁ mg mb fa o pm cd doc a vs ns G Y ho hd hcd hmg hobj hints hlen hg
  have KX := hY w _ Y
  obtain ⟨fd, bd, hF⟩ := F w mg fa _ KX G.T.g hmg
  have rv := vals_of_ints hints
  have lv := hints.length
  have hl := Nat.le_trans hlen hn2
  rcases hk : (K w.params).lookup a with _ | ob
  · refine law_core (H := fun b => if b = a then some (.frz { cls := .type "list", data := .seq vs.toArray } (.lst (ns.map V.int))) else none) KX G.T.g G.T.b G.T.builtins G.T.nolimit hg hobj hF bd ?_ ?_ ?_
    · intro b u z
      by_cases e : b = a
      · rw [e] at z ⊢
        have z' := (if_pos rfl).symm.trans z
        cases z'
        exact ⟨hobj, by rw [List.length_map]; exact hl, vs, _, rv, hobj⟩
      · have z' := (if_neg e).symm.trans z
        cases z'
    · intro b u z
      by_cases e : b = a
      · rw [e] at z ⊢
        have z' := (if_pos rfl).symm.trans z
        cases z'
        exact ⟨rfl, hk, _, _, rfl⟩
      · have z' := (if_neg e).symm.trans z
        cases z'
    · exact hsp _ _ a ns hlen (Or.inl (Or.inr ⟨_, if_pos rfl⟩))
  · have e := KX a ob hk
    rw [hobj] at e
    cases e
    refine law_core (H := fun _ => none) KX G.T.g G.T.b G.T.builtins G.T.nolimit hg hobj hF bd (fun b u z => by cases z) (fun b u z => by cases z) ?_
    exact hsp _ _ a ns hlen (Or.inr ⟨_, vs.toArray, _, hk, rfl, rfl, rfl, by rw [List.size_toArray, lv]; exact hl, by simpa using rv⟩)
end Gw

set_option Elab.async false
set_option linter.all false
set_option maxRecDepth 100000
set_option maxHeartbeats 4000000
namespace Gw
open PySem PySem.Spec PyProof.Rows L2
/-! What all laws share: bounds, heaps, the promises of the helpers that draw. -/
abbrev vE : List Value := [.type "ValueError", .type "Exception", .type "BaseException", .type "object"]
theorem hu64 {k : Nat} {A : Around} (r : Room k A) : A.units + 64 < cLine := by have := r.un; omega
theorem hu100 {k : Nat} {A : Around} (r : Room k A) : A.units + 100 < cLine := by have := r.un; omega
theorem le_line {n : Nat} (h : n ≤ 100000) : n ≤ sizeLine := Nat.le_trans h (by decide)
theorem lt_line {n : Nat} (h : n < 100000) : n < sizeLine := Nat.lt_of_lt_of_le h (by decide)
/-- all but what stands at l is as it was -/
def But (l : Addr) (H H' : Hp) : Prop := ∀ b o, b ≠ l → H b = some o → H' b = some o
theorem But.refl (l : Addr) (H : Hp) : But l H H := fun _ _ _ h => h
theorem But.trans {l : Addr} {H H1 H2 : Hp} (a : But l H H1) (b : But l H1 H2) : But l H H2 := fun c o n h => b c o n (a c o n h)
theorem But.upd {l : Addr} {H H1 : Hp} {o : HO} (a : But l H H1) : But l H (upd H1 l o) := fun c u n h => by rw [upd_ne n]; exact a c u n h
theorem But.of {l : Addr} {H H1 : Hp} (a : Same H H1) : But l H H1 := fun c o _ h => a c o h
theorem But.same {l : Addr} {H H1 H2 : Hp} (a : But l H H1) (b : Same H1 H2) : But l H H2 := fun c o n h => b c o (a c o n h)
theorem same_new {H : Hp} {p : Addr} {o : HO} (h : H p = none) : Same H (upd H p o) := fun b u e => by
  rw [upd_ne (ne_of_none e h)]
  exact e
theorem Same.tup {K : PySem.W.Frag} {H H' : Hp} {a : Addr} {xs : List V} (e : Same H H') (h : SqT K H a xs) : SqT K H' a xs := by
  rcases h with (h | ⟨o, h⟩) | h
  · exact .inl (.inl (e _ _ h))
  · exact .inl (.inr ⟨o, e _ _ h⟩)
  · exact .inr h
theorem But.tup {K : PySem.W.Frag} {l : Addr} {H H' : Hp} {a : Addr} {xs : List V} (e : But l H H') (n : a ≠ l) (h : SqT K H a xs) : SqT K H' a xs := by
  rcases h with (h | ⟨o, h⟩) | h
  · exact .inl (.inl (e _ _ n h))
  · exact .inl (.inr ⟨o, e _ _ n h⟩)
  · exact .inr h
theorem sqL_of {K : PySem.W.Frag} {H : Hp} {a : Addr} {xs : List V} (h : H a = some (.lst xs)) : SqL K H a xs := .inl (.inl h)
theorem sqT_of {K : PySem.W.Frag} {H : Hp} {a : Addr} {xs : List V} (h : H a = some (.tup xs)) : SqT K H a xs := .inl (.inl h)
theorem get_int {ns : List Int} {i : Nat} {y : V} (h : (ns.map V.int)[i]? = some y) : ∃ z, ns[i]? = some z ∧ y = V.int z := by
  rw [List.getElem?_map] at h
  cases e : ns[i]? with
  | none => rw [e] at h; cases h
  | some z => rw [e] at h; exact ⟨z, rfl, (Option.some.inj h).symm⟩
theorem iteB {A B : Prop} {c : Bool} (h1 : c = true → A) (h2 : c = false → B) : if c = true then A else B := by
  cases c
  · rw [if_neg Bool.false_ne_true]; exact h2 rfl
  · rw [if_pos rfl]; exact h1 rfl
theorem emod3 (x : Int) {m : Int} (h : 0 < m) : 0 ≤ x % m ∧ x % m < m := ⟨Int.emod_nonneg x (by omega), Int.emod_lt_of_pos x h⟩

/-! ### the helpers that draw -/
def plain (i : Int) : Int := if i < 0 then 0 - i else i
theorem plain_nonneg (i : Int) : 0 ≤ plain i := by unfold plain; split <;> omega
def sp_plain : Sp := fun vs H Q _ => ∃ i : Int, vs = [.int i] ∧ Q (.int (plain i)) H
/-- some new list of ints comes back -/
def sp_draws (K : PySem.W.Frag) : Sp := fun vs H Q _ => ∃ (a : Addr) (ns : List Int), vs = [.ref a] ∧ SqL K H a (ns.map V.int) ∧ ns.length ≤ 63 ∧
  ∀ (H' : Hp) (p : Addr) (ds : List Int), Same H H' → H p = none → H' p = some (.lst (ds.map V.int)) → Q (.ref p) H'
/-- some int comes back, and the list is some list of ints behind -/
def sp_next : Sp := fun vs H Q _ => ∃ (l : Addr) (ds : List Int), vs = [.ref l] ∧ H l = some (.lst (ds.map V.int)) ∧
  ∀ (d : Int) (ds' : List Int), Q (.int d) (upd H l (.lst (ds'.map V.int)))
theorem upd_id {H : Hp} {l : Addr} {o : HO} (h : H l = some o) : upd H l o = H := by
  funext b
  unfold upd
  split
  · rename_i e; rw [e, h]
  · rfl
/-- the law's own promise -/
def spLaw (K : PySem.W.Frag) : Sp := fun vs H Q _ => ∃ (a : Addr) (ns : List Int), vs = [.ref a] ∧ SqL K H a (ns.map V.int) ∧ ns.length ≤ 63 ∧ ∀ H', Q (.bl true) H'
end Gw
namespace Gw
open PySem PySem.Spec PyProof.Rows L2
/-! ### classes of errors; values of the top's constants -/
theorem kit_of {K : PySem.W.Frag} {C D : Addr} {b : Bool} (u : PySem.W.subIn K (.ref C) (.ref D) = some b) (h : b = false → PySem.W.subIn K (.ref C) (.ref C) = some true) (hd : PySem.W.hasDictIn K D = true)
    (ht : PySem.W.typeIn K (.ref D) = some (.type "type")) : PySem.W.kitOne K (.ref C) (.ref D) = some b := by
  obtain ⟨cd, hc, _⟩ := PySem.W.any_some hd
  have e2 : ((PySem.W.clsIn K D).isSome && PySem.W.typeIn K (.ref D) == some (.type "type")) = true := by rw [hc, ht] <;> rfl
  unfold PySem.W.kitOne
  by_cases e : (Value.ref C == Value.ref D) = true
  · rw [if_pos e]
    have e' : C = D := Value.ref.inj (beq_iff_eq.mp e)
    subst e'
    cases b
    · have := h rfl
      rw [u] at this
      cases this
    · rfl
  · rw [if_neg e]
    show (if ((PySem.W.clsIn K D).isSome && PySem.W.typeIn K (.ref D) == some (.type "type")) = true then PySem.W.subIn K (.ref C) (.ref D) else none) = some b
    rw [if_pos e2]
    exact u
theorem vs_nil : Vals [] [] := .nil
theorem vs_int {i : Int} {t : Tok} {l : List V} {m : List Value} (h : Vals l m) : Vals (V.int i :: l) (Value.int i t :: m) := .cons ⟨t, rfl⟩ h
theorem vs_str {i : Str} {t : Tok} {l : List V} {m : List Value} (h : Vals l m) : Vals (V.str i :: l) (Value.str i t :: m) := .cons ⟨t, rfl⟩ h
end Gw
namespace Gw
open PySem PySem.Spec PyProof.Rows L2
/-! ### a suite that tells a caught error's class by a sign: kinds = [isinstance(error, C1), isinstance(error, C2)]; return '!' + x[kinds.index(True)] -/
def tsTwo (K : PySem.W.Frag) (D1 D2 : Addr) (i1 i2 : Nat) (x : Str) : Addr → Value → Option Addr → TS := fun a cls d =>
  tSeq (tAsg (tLst (tCons (tCB (rIsA K cls d a) (tCons (tVar i1) (tCons (tC (V.ref D1)) tNil))) (tCons (tCB (rIsA K cls d a) (tCons (tVar i1) (tCons (tC (V.ref D2)) tNil))) tNil))) (gName i2))
    (tRet (tOp (fun x y H Q => ∃ i j, x = V.str i ∧ y = V.str j ∧ i.length + j.length ≤ sizeLine ∧ Q (V.str (i ++ j)) H) (tC (V.str "!"))
      (tOp rIxS (tC (V.str x)) (tBM K "list" (rIndex K) (tVar i2) (tCons (tC (V.bl true)) tNil)))))
theorem suite_two {K : PySem.W.Frag} {D1 D2 e C : Addr} {i1 i2 j c : Nat} {x : Str} {b1 b2 : Bool} {Dn : Ends} {σ : L2.St} {H : Hp} (eC : ExcC K C) (h1 : PySem.W.kitOne K (.ref C) (.ref D1) = some b1) (h2 : PySem.W.kitOne K (.ref C) (.ref D2) = some b2)
    (hs : σ[i1]? = some (some (.ref e))) (hi : i2 < σ.length) (hx : x.length ≤ 1000) (hj : [V.bl b1, V.bl b2][j]? = some (.bl true)) (hf : ∀ m z, m < j → [V.bl b1, V.bl b2][m]? = some z → eqV z (.bl true) = false) (hc : atI x.cps.toList (j : Int) = some c)
    (k : ∀ q, H q = none → Dn.rt (.str (("!" : Str) ++ ⟨#[c]⟩)) (upd H q (.lst [.bl b1, .bl b2]))) : tsTwo K D1 D2 i1 i2 x e (.ref C) none Dn σ H := by
  refine ⟨_, hs, _, rfl, rfl, eC, _, _, b1, rfl, (fun u r => r), h1, _, hs, _, rfl, rfl, eC, _, _, b2, rfl, (fun u r => r), h2, by show 2 ≤ sizeLine; decide, fun q nq => ?_⟩
  have g : (σ.set i2 (some (V.ref q)))[i2]? = some (some (V.ref q)) := by rw [List.getElem?_set_self hi]
  refine ⟨_, g, .inl ⟨rfl, _, sqL_of upd_same⟩, q, [V.bl b1, V.bl b2], .bl true, j, .bl true, rfl, rfl, sqL_of upd_same, rfl, rfl, hj, rfl, hf, ?_⟩
  refine ⟨x, (j : Int), c, rfl, rfl, Nat.le_trans hx (by decide), hc, _, _, rfl, rfl, ?_, k q nq⟩
  show 1 + 1 ≤ sizeLine
  decide
theorem eqv_pair (a b c d : Int) : PyData.eqv (.tuple [.int a, .int b]) (.tuple [.int c, .int d]) = decide ((a, b) = (c, d)) := by
  simp [PyData.eqv, PyData.eqvAll]
  by_cases h1 : a = c <;> by_cases h2 : b = d <;> simp [h1, h2]
theorem dp_same {K : PySem.W.Frag} {H H' : Hp} (s : Same H H') : ∀ (d : PyData) (v : V), Dp K H v d → Dp K H' v d := by
  intro d v h
  refine Dp.rec (motive_1 := fun v d _ => Dp K H' v d) (motive_2 := fun vs ds _ => DpAll K H' vs ds) ?_ ?_ ?_ ?_ ?_ ?_ ?_ ?_ h
  · exact .non
  · exact fun b => .bl b
  · exact fun i => .int i
  · exact fun x => .str x
  · exact fun hs _ ih => .lst (s.seq hs) ih
  · exact fun hs _ ih => .tup (Same.tup s hs) ih
  · exact .nil
  · exact fun _ _ i1 i2 => .cons i1 i2
theorem dpAll_same {K : PySem.W.Frag} {H H' : Hp} (s : Same H H') {vs : List V} {ds : List PyData} (h : DpAll K H vs ds) : DpAll K H' vs ds := by
  refine DpAll.rec (motive_1 := fun v d _ => Dp K H' v d) (motive_2 := fun vs ds _ => DpAll K H' vs ds) ?_ ?_ ?_ ?_ ?_ ?_ ?_ ?_ h
  · exact .non
  · exact fun b => .bl b
  · exact fun i => .int i
  · exact fun x => .str x
  · exact fun hs _ ih => .lst (s.seq hs) ih
  · exact fun hs _ ih => .tup (Same.tup s hs) ih
  · exact .nil
  · exact fun _ _ i1 i2 => .cons i1 i2
end Gw

set_option Elab.async false
set_option linter.all false
set_option maxRecDepth 100000
set_option maxHeartbeats 4000000
namespace Gw
open PySem PySem.Spec PyProof.Rows L2
/-! Fields and their numbers: the plain functions, and what is true of them. -/
abbrev FLn : List Int := [0, 2, 3, 5, 7, 11, 13, 17, 19, 23, 29, 31]
abbrev FL : List V := [.int 0, .int 2, .int 3, .int 5, .int 7, .int 11, .int 13, .int 17, .int 19, .int 23, .int 29, .int 31]
def fieldB (p : Int) : Bool := inV (V.int p) FL
theorem eqV_int (a b : Int) : eqV (.int a) (.int b) = decide (a = b) := by
  unfold eqV
  first | rfl | simp
theorem fieldB_iff (p : Int) : fieldB p = true ↔ p ∈ FLn := by
  unfold fieldB inV
  simp only [List.any_cons, List.any_nil, eqV_int, Bool.or_eq_true, decide_eq_true_eq, List.mem_cons, List.not_mem_nil, Bool.or_false, or_false]
  constructor <;> (intro h; rcases h with h|h|h|h|h|h|h|h|h|h|h|h <;> simp [h])
theorem field_cases {p : Int} (h : fieldB p = true) : p = 0 ∨ p = 2 ∨ p = 3 ∨ p = 5 ∨ p = 7 ∨ p = 11 ∨ p = 13 ∨ p = 17 ∨ p = 19 ∨ p = 23 ∨ p = 29 ∨ p = 31 := by
  have := (fieldB_iff p).mp h
  simpa using this
theorem field_of {p : Int} (h : p = 0 ∨ p = 2 ∨ p = 3 ∨ p = 5 ∨ p = 7 ∨ p = 11 ∨ p = 13 ∨ p = 17 ∨ p = 19 ∨ p = 23 ∨ p = 29 ∨ p = 31) : fieldB p = true := by
  rw [fieldB_iff]; simpa using h
theorem field_lt {p : Int} (h : fieldB p = true) : 0 ≤ p ∧ p < 32 := by
  have := field_cases h; omega
def gcdI (a b : Int) : Int := ((Nat.gcd a.natAbs b.natAbs : Nat) : Int)
def isNum (p a b : Int) : Bool := if p = 0 then (decide (1 ≤ b) && decide (V.int (gcdI a b) = V.int 1)) else (decide (V.int b = V.int 1) && (decide (0 ≤ a) && decide (a < p)))
theorem vint_eq (a b : Int) : decide (V.int a = V.int b) = decide (a = b) := by
  by_cases h : a = b
  · rw [h]; simp
  · rw [decide_eq_false h, decide_eq_false (fun q => h (V.int.inj q))]
/-! fractions -/
def fracC (a b : Int) : Int := if b < 0 then -gcdI a b else gcdI a b
def frac (a b : Int) : Int × Int := (a.fdiv (fracC a b), b.fdiv (fracC a b))
theorem gcdI_pos {a b : Int} (h : b ≠ 0) : 0 < gcdI a b := by
  unfold gcdI
  have : 0 < Nat.gcd a.natAbs b.natAbs := Nat.gcd_pos_of_pos_right _ (Int.natAbs_pos.mpr h)
  omega
theorem gcdI_le {a b : Int} (h : b ≠ 0) : gcdI a b ≤ (b.natAbs : Int) := by
  unfold gcdI
  have : Nat.gcd a.natAbs b.natAbs ≤ b.natAbs := Nat.gcd_le_right _ (Int.natAbs_pos.mpr h)
  omega
theorem fracC_ok {a b : Int} (h : b ≠ 0) (hb : b.natAbs < 1000000000) : fracC a b ≠ 0 ∧ (fracC a b).natAbs < 1073741824 := by
  have h1 := gcdI_pos (a := a) h
  have h2 := gcdI_le (a := a) h
  unfold fracC
  split <;> omega
/-! rests -/
abbrev PRn : List Nat := [2, 3, 5, 7, 11, 13, 17, 19, 23, 29, 31]
theorem inverses : ∀ p ∈ PRn, ∀ x < p, x ≠ 0 → ∃ i, i < p ∧ i * x % p = 1 := by decide +kernel
theorem rest_exists {p x y : Nat} (hp : p ∈ PRn) (hx : x < p) (h0 : x ≠ 0) (hy : y < p) : ∃ r, r < p ∧ r * x % p = y := by
  obtain ⟨i, hi, e⟩ := inverses p hp x hx h0
  refine ⟨y * i % p, Nat.mod_lt _ (by omega), ?_⟩
  rw [Nat.mod_mul_mod, Nat.mul_assoc, Nat.mul_mod, e, Nat.mul_one, Nat.mod_mod]
  exact Nat.mod_eq_of_lt hy
/-- the rest r stands for a / b -/
def sat (p a b : Int) (r : Nat) : Bool := decide ((r : Int) * (b % p) % p = a % p)
def restN (p a b : Int) : Nat := ((List.range 32).find? (sat p a b)).getD 0
theorem prime_nat {p : Int} (h : fieldB p = true) (h0 : p ≠ 0) : ∃ n : Nat, p = (n : Int) ∧ n ∈ PRn ∧ 2 ≤ n ∧ n ≤ 31 := by
  rcases field_cases h with e|e|e|e|e|e|e|e|e|e|e|e
  · exact absurd e h0
  all_goals (refine ⟨p.toNat, by omega, ?_, by omega, by omega⟩; rw [e]; decide)
theorem sat_exists {p a b : Int} (h : fieldB p = true) (h0 : p ≠ 0) (hb : b % p ≠ 0) : ∃ r : Nat, r < 32 ∧ (r : Int) < p ∧ sat p a b r = true := by
  obtain ⟨n, rfl, hn, n1, n2⟩ := prime_nat h h0
  have b1 : 0 ≤ b % (n : Int) := Int.emod_nonneg _ h0
  have b2 : b % (n : Int) < n := Int.emod_lt_of_pos _ (by omega)
  have a1 : 0 ≤ a % (n : Int) := Int.emod_nonneg _ h0
  have a2 : a % (n : Int) < n := Int.emod_lt_of_pos _ (by omega)
  obtain ⟨r, hr, e⟩ := rest_exists (x := (b % (n : Int)).toNat) (y := (a % (n : Int)).toNat) hn (by omega) (by omega) (by omega)
  refine ⟨r, by omega, by omega, ?_⟩
  unfold sat
  rw [decide_eq_true_eq]
  have e' := congrArg (fun t : Nat => (t : Int)) e
  simp only [Int.natCast_emod, Int.natCast_mul, Int.toNat_of_nonneg b1, Int.toNat_of_nonneg a1] at e'
  exact e'
theorem restN_spec {p a b : Int} (h : fieldB p = true) (h0 : p ≠ 0) (hb : b % p ≠ 0) : sat p a b (restN p a b) = true ∧ restN p a b < 32 ∧ ((restN p a b : Nat) : Int) < p ∧ ∀ r < restN p a b, sat p a b r = false := by
  obtain ⟨r, h1, h2, h3⟩ := sat_exists (a := a) h h0 hb
  cases e : (List.range 32).find? (sat p a b) with
  | none =>
    rw [List.find?_eq_none] at e
    exact absurd h3 (e r (List.mem_range.mpr h1))
  | some x =>
    have ex : restN p a b = x := by unfold restN; rw [e]; rfl
    rw [ex]
    obtain ⟨s1, as, bs, s2, s3⟩ := List.find?_eq_some_iff_append.mp e
    have hx : x ∈ List.range 32 := by rw [s2]; simp
    have least : ∀ r < x, sat p a b r = false := by
      intro y hy
      have hin : y ∈ as := by
        have l1 : as.length < 32 := by
          have := congrArg List.length s2
          simp at this; omega
        have l2 : (List.range 32)[as.length]? = some x := by rw [s2]; simp
        have l3 : x = as.length := by
          rw [List.getElem?_range l1] at l2
          exact (Option.some.inj l2).symm
        have l4 : (List.range 32)[y]? = some y := List.getElem?_range (by omega)
        rw [s2, List.getElem?_append_left (by omega)] at l4
        exact List.mem_of_getElem? l4
      have := s3 y hin
      simpa using this
    refine ⟨s1, List.mem_range.mp hx, ?_, least⟩
    rcases Nat.lt_or_ge r x with q | q
    · rw [least r q] at h3; cases h3
    · omega
theorem rest_one1 {p a b : Int} (h : fieldB p = true) (h0 : p ≠ 0) (hb : b % p = 1) : ((restN p a b : Nat) : Int) = a % p := by
  have hl := field_lt h
  obtain ⟨s1, s2, s3, s4⟩ := restN_spec (a := a) h h0 (by rw [hb]; decide)
  have := of_decide_eq_true s1
  rw [hb, Int.mul_one, Int.emod_eq_of_lt (by omega) s3] at this
  exact this
def numOk (p b : Int) : Bool := if p = 0 then !decide (V.int b = V.int 0) else !decide (V.int (b % p) = V.int 0)
def num (p a b : Int) : Int × Int := if p = 0 then frac a b else (((restN p a b : Nat) : Int), 1)
/-- the same rest, told by a difference -/
theorem sat_iff {p a b : Int} (h : 0 < p) (r : Nat) : ((r : Int) * b - a) % p = 0 ↔ sat p a b r = true := by
  unfold sat
  rw [decide_eq_true_eq, Int.mul_emod, Int.emod_emod, ← Int.mul_emod]
  constructor
  · intro e
    have := Int.emod_emod_of_dvd ((r : Int) * b) (Int.dvd_refl p)
    exact Int.emod_eq_emod_iff_emod_sub_eq_zero.mpr e
  · intro e
    exact Int.emod_eq_emod_iff_emod_sub_eq_zero.mp e
theorem frac_low (a b : Int) : frac a b = if b < 0 then ((0 - a).fdiv (gcdI a b), (0 - b).fdiv (gcdI a b)) else (a.fdiv (gcdI a b), b.fdiv (gcdI a b)) := by
  unfold frac fracC
  by_cases h : b < 0
  · rw [if_pos h, if_pos h]
    have e : ∀ x g : Int, x.fdiv (-g) = (0 - x).fdiv g := fun x g => by
      have := Int.neg_fdiv_neg (-x) g
      rw [Int.neg_neg] at this
      rw [this, Int.zero_sub]
    rw [e, e]
  · rw [if_neg h, if_neg h]
theorem gcdI_neg (a b : Int) : gcdI (0 - a) (0 - b) = gcdI a b := by
  unfold gcdI
  rw [Int.zero_sub, Int.zero_sub, Int.natAbs_neg, Int.natAbs_neg]
/-- in lowest terms, or not -/
theorem frac_same {a b : Int} (h : 0 < b) : (frac a b = (a, b)) ↔ gcdI a b = 1 := by
  have g0 := gcdI_pos (a := a) (b := b) (by omega)
  unfold frac fracC
  rw [if_neg (by omega)]
  constructor
  · intro e
    have e2 : b.fdiv (gcdI a b) = b := congrArg Prod.snd e
    have d : gcdI a b ∣ b := by
      unfold gcdI
      exact Int.ofNat_dvd_left.mpr (Nat.gcd_dvd_right _ _)
    obtain ⟨k, hk⟩ := d
    generalize hg : gcdI a b = g at *
    have e3 : b.fdiv g = k := by
      rw [hk, Int.mul_comm, Int.mul_fdiv_cancel _ (by omega)]
    rw [e3] at e2
    rw [e2] at hk
    have : (g - 1) * b = 0 := by rw [Int.sub_mul, Int.one_mul]; omega
    rcases Int.mul_eq_zero.mp this with q | q <;> omega
  · intro e
    rw [e]
    simp
end Gw
namespace Gw
open PySem PySem.Spec PyProof.Rows L2
theorem fracC_dvd (a b : Int) : fracC a b ∣ a ∧ fracC a b ∣ b := by
  have h1 : gcdI a b ∣ a := by
    unfold gcdI
    exact Int.ofNat_dvd_left.mpr (Nat.gcd_dvd_left _ _)
  have h2 : gcdI a b ∣ b := by
    unfold gcdI
    exact Int.ofNat_dvd_left.mpr (Nat.gcd_dvd_right _ _)
  unfold fracC
  split
  · exact ⟨Int.neg_dvd.mpr h1, Int.neg_dvd.mpr h2⟩
  · exact ⟨h1, h2⟩
theorem frac_le (a b : Int) : (frac a b).1.natAbs ≤ a.natAbs ∧ (frac a b).2.natAbs ≤ b.natAbs := by
  obtain ⟨h1, h2⟩ := fracC_dvd a b
  unfold frac
  rw [Int.fdiv_eq_ediv_of_dvd h1, Int.fdiv_eq_ediv_of_dvd h2]
  exact ⟨Int.natAbs_ediv_le_natAbs _ _, Int.natAbs_ediv_le_natAbs _ _⟩
theorem num_le {p a b : Int} (h : fieldB p = true) (hn : numOk p b = true) : (num p a b).1.natAbs ≤ a.natAbs + 32 ∧ (num p a b).2.natAbs ≤ b.natAbs + 1 := by
  unfold num
  by_cases e : p = 0
  · rw [if_pos e]
    have := frac_le a b
    omega
  · rw [if_neg e]
    unfold numOk at hn
    rw [if_neg e, vint_eq] at hn
    have := restN_spec (a := a) h e (by simpa using hn)
    show ((restN p a b : Nat) : Int).natAbs ≤ _ ∧ (1 : Int).natAbs ≤ _
    omega
end Gw

set_option Elab.async false
set_option linter.all false
set_option maxRecDepth 100000
set_option maxHeartbeats 4000000
namespace Gw
open PySem PySem.Spec PyProof.Rows L2
/-! Data that a call hands out: held by a part F of the heap that was free ahead of the call. -/
def Off (F H : Hp) : Prop := ∀ b o, F b = some o → H b = none
theorem Off.trans {F H H1 : Hp} (s : Same H H1) (o : Off F H1) : Off F H := fun b u e => s.free (o b u e)
/-- both parts -/
def both (F G : Hp) : Hp := fun b => match F b with | some o => some o | none => G b
theorem both_l {F G : Hp} : Same F (both F G) := fun b o e => by unfold both; rw [e]
theorem both_r {F G : Hp} (h : ∀ b o u, F b = some o → G b = some u → False) : Same G (both F G) := fun b o e => by
  unfold both
  cases q : F b with
  | none => exact e
  | some u => exact (h b u o q e).elim
theorem both_in {F G H : Hp} (f : Same F H) (g : Same G H) : Same (both F G) H := fun b o e => by
  unfold both at e
  cases q : F b with
  | none => rw [q] at e; exact g b o e
  | some u => rw [q] at e; cases e; exact f b _ q
theorem both_off {F G H : Hp} (f : Off F H) (g : Off G H) : Off (both F G) H := fun b o e => by
  unfold both at e
  cases q : F b with
  | none => rw [q] at e; exact g b o e
  | some u => exact f b u q
def noH : Hp := fun _ => none
theorem noH_in (H : Hp) : Same noH H := fun _ _ e => by cases e
theorem noH_off (H : Hp) : Off noH H := fun _ _ e => by cases e
theorem in_upd {F H : Hp} {p : Addr} {o : HO} (f : Same F H) (n : F p = none) : Same F (upd H p o) := fun b u e => by
  rw [upd_ne (ne_of_none e n)]
  exact f b u e
theorem Off.none_of {F H : Hp} {p : Addr} {o : HO} (f : Off F H) (h : H p = some o) : F p = none := by
  cases q : F p with
  | none => rfl
  | some u => have := f p u q; rw [h] at this; cases this
theorem dpAll_snoc {K : PySem.W.Frag} {H : Hp} : ∀ {vs : List V} {ds : List PyData} {v : V} {d : PyData}, DpAll K H vs ds → Dp K H v d → DpAll K H (vs ++ [v]) (ds ++ [d])
  | _, _, _, _, .nil, h => .cons h .nil
  | _, _, _, _, .cons a b, h => .cons a (dpAll_snoc b h)
theorem dpAll_len {K : PySem.W.Frag} {H : Hp} : ∀ {vs : List V} {ds : List PyData}, DpAll K H vs ds → vs.length = ds.length
  | _, _, .nil => rfl
  | _, _, .cons a b => congrArg Nat.succ (dpAll_len b)
/-- [f(.., i, ..) for i in range(n)], each item new data -/
theorem lc_data {K : PySem.W.Frag} {te : TE} {ta : TA} {σ : L2.St} {H : Hp} {j n : Nat} {vs : List Nat} {Q : VK} (ds : Nat → PyData) (hn : n ≤ 1000)
    (ha : ∀ Q' : List V → Hp → Prop, Q' [.int (n : Int)] H → ta σ H Q') (hw : ∀ x, wipe ((wipe σ vs).set j (some x)) vs = wipe σ vs)
    (he : ∀ (i : Nat) (H1 : Hp) (Q' : VK), i < n → Same H H1 → (∀ (v : V) (H2 F : Hp), Same H1 H2 → Same F H2 → Off F H1 → Dp K F v (ds i) → Q' v H2) → te ((wipe σ vs).set j (some (.int (i : Int)))) H1 Q')
    (k : ∀ (D : Addr) (H2 F : Hp) (xs : List V), H D = none → Same H H2 → H2 D = some (.lst xs) → Same F H2 → Off F H → F D = none → DpAll K F xs ((List.range n).map ds) → Q (.ref D) H2) :
    tLc (iRng1 ta) (gName j) tYes te vs σ H Q := by
  refine ha _ ⟨(n : Int), rfl, by omega, by omega, fun D nD => ?_⟩
  have en : ((n : Int)).toNat = n := by omega
  rw [en]
  refine lc_range (lo := 0) (n := n) (fun i H' => ∃ (F : Hp) (xs : List V), Same H H' ∧ H' D = some (.lst xs) ∧ Same F H' ∧ Off F H ∧ F D = none ∧ DpAll K F xs ((List.range i).map ds))
    ⟨noH, [], same_new nD, upd_same, noH_in _, noH_off _, rfl, .nil⟩ ?_ ?_
  · rintro i H1 hi ⟨F, xs, s1, hD, f1, f2, f3, hd⟩
    have e0 : (0 : Int) + (i : Int) = (i : Int) := Int.zero_add _
    show wipe ((wipe σ vs).set j (some (.int ((0 : Int) + (i : Int))))) vs = wipe σ vs ∧ te ((wipe σ vs).set j (some (.int ((0 : Int) + (i : Int))))) H1 _
    rw [e0]
    refine ⟨hw _, he i H1 _ hi s1 fun v H2 G s2 g1 g2 dv => ⟨xs, s2 D _ hD, ?_, ?_⟩⟩
    · have := dpAll_len hd
      rw [List.length_map, List.length_range] at this
      exact lt_line (by omega)
    · have gD : G D = none := g2.none_of hD
      have dis : ∀ b o u, F b = some o → G b = some u → False := fun b o u e1 e2 => by
        have := g2 b u e2
        rw [f1 b o e1] at this
        cases this
      have bD : both F G D = none := by unfold both; rw [f3]; exact gD
      refine ⟨both F G, xs ++ [v], fun b o e => ?_, upd_same, in_upd (both_in (fun b o e => s2 b o (f1 b o e)) g1) bD, both_off f2 (g2.trans s1), bD, ?_⟩
      · rw [upd_ne (ne_of_none e nD)]
        exact s2 b o (s1 b o e)
      · rw [List.range_succ, List.map_append]
        exact dpAll_snoc (dpAll_same both_l hd) (dp_same (both_r dis) _ _ dv)
  · rintro H1 ⟨F, xs, s1, hD, f1, f2, f3, hd⟩
    exact k D H1 F xs nD s1 hD f1 f2 f3 hd
/-! ### what repr asks of data -/
structure Nice (n : Nat) (d : PyData) : Prop where
  sh : d.showable = true
  hd : d.hasDict = false
  dp : d.depth ≤ 20
  le : d.shown.length ≤ n
theorem Nice.mono {n m : Nat} {d : PyData} (h : Nice n d) (l : n ≤ m) : Nice m d := ⟨h.sh, h.hd, h.dp, Nat.le_trans h.le l⟩
theorem nice_none : Nice 2000 .none := ⟨by simp [PyData.showable], by simp [PyData.hasDict], by simp [PyData.depth], by rw [PyData.shown_none]; decide⟩
theorem nice_bool (b : Bool) : Nice 2000 (.bool b) := ⟨by simp [PyData.showable], by simp [PyData.hasDict], by simp [PyData.depth], by rw [PyData.shown_bool]; cases b <;> decide⟩
theorem nice_int {i : Int} (h : i.natAbs.log2 < 1920) : Nice 2000 (.int i) := ⟨by simp [PyData.showable, h], by simp [PyData.hasDict], by simp [PyData.depth], by
  rw [PyData.shown_int]
  exact Nat.le_trans (int_text_len_1921 h) (by decide)⟩
theorem nice_str {x : Str} {n : Nat} (h : (reprText x).length ≤ n) : Nice n (.str x) := ⟨by simp [PyData.showable], by simp [PyData.hasDict], by simp [PyData.depth], by rw [PyData.shown_str]; exact h⟩
theorem nice_all {n : Nat} : ∀ {ds : List PyData}, (∀ d ∈ ds, Nice n d) → PyData.showableAll ds = true ∧ PyData.hasDictAll ds = false ∧ PyData.depthAll ds ≤ 20 ∧ ((PyData.shownAll ds).map (·.length)).sum ≤ n * ds.length
  | [], _ => ⟨by simp [PyData.showableAll], by simp [PyData.hasDictAll], by simp [PyData.depthAll], by simp [PyData.shownAll]⟩
  | d :: ds, h => by
    have h0 := h d List.mem_cons_self
    obtain ⟨h1, h2, h3, h4⟩ := nice_all fun e he => h e (List.mem_cons_of_mem _ he)
    refine ⟨by simp [PyData.showableAll, h0.sh, h1], by simp [PyData.hasDictAll, h0.hd, h2], by simp [PyData.depthAll]; exact Nat.max_le.mpr ⟨h0.dp, h3⟩, ?_⟩
    rw [PyData.shownAll_cons, List.map_cons, List.sum_cons, List.length_cons, Nat.mul_succ]
    have := h0.le
    omega
theorem nice_list {n m : Nat} {ds : List PyData} (h : ∀ d ∈ ds, Nice n d) (hd : PyData.depthAll ds ≤ 19) (l : n * ds.length + 2 * ds.length + 3 ≤ m) : Nice m (.list ds) := by
  obtain ⟨h1, h2, h3, h4⟩ := nice_all h
  refine ⟨by simp [PyData.showable, h1], by simp [PyData.hasDict, h2], by simp [PyData.depth]; omega, ?_⟩
  show (listText (PyData.shownAll ds)).length ≤ m
  have := listText_len_le (PyData.shownAll ds)
  rw [PyData.shownAll_length] at this
  omega
theorem nice_tuple {n m : Nat} {ds : List PyData} (h : ∀ d ∈ ds, Nice n d) (hd : PyData.depthAll ds ≤ 19) (l : n * ds.length + 2 * ds.length + 3 ≤ m) : Nice m (.tuple ds) := by
  obtain ⟨h1, h2, h3, h4⟩ := nice_all h
  refine ⟨by simp [PyData.showable, h1], by simp [PyData.hasDict, h2], by simp [PyData.depth]; omega, ?_⟩
  show (tupleText (PyData.shownAll ds)).length ≤ m
  have := tupleText_len_le (PyData.shownAll ds)
  rw [PyData.shownAll_length] at this
  omega
theorem nice_pair {i j : Int} (h1 : i.natAbs.log2 < 1920) (h2 : j.natAbs.log2 < 1920) : Nice 5000 (.tuple [.int i, .int j]) := by
  refine nice_tuple (n := 2000) (fun d hd => ?_) (by simp [PyData.depthAll, PyData.depth]) (by simp)
  rcases List.mem_cons.mp hd with rfl | hd
  · exact nice_int h1
  · rcases List.mem_cons.mp hd with rfl | hd
    · exact nice_int h2
    · cases hd
theorem log_lt {i : Int} {n : Nat} (h : i.natAbs < 2 ^ n) (h0 : 0 < n) : i.natAbs.log2 < n := PySem.Flt.log2_lt_of h0 h
/-- the reading of repr(x) -/
theorem repr_rd {K : PySem.W.Frag} {x : V} {d : PyData} {H : Hp} {n : Nat} {Q : VK} (h : Dp K H x d) (ni : Nice n d) (hn : n ≤ 100000) (q : Q (.str d.shown) H) : rRepr K [x] H Q :=
  ⟨x, d, rfl, h, ni.sh, ni.hd, Nat.le_trans ni.dp (by decide), Nat.le_trans ni.le (le_line hn), q⟩
end Gw
namespace Gw
open PySem PySem.Spec PyProof.Rows L2
theorem one_in {H : Hp} {t : Addr} {o : HO} : Same (upd noH t o) (upd H t o) := fun b u e => by
  by_cases h : b = t
  · rw [h, upd_same] at e
    rw [h, upd_same]
    exact e
  · rw [upd_ne h] at e
    cases e
theorem one_off {H : Hp} {t : Addr} {o : HO} (n : H t = none) : Off (upd noH t o) H := fun b u e => by
  by_cases h : b = t
  · rw [h]; exact n
  · rw [upd_ne h] at e
    cases e
theorem at_ints {ns : List Int} {i : Int} (h0 : 0 ≤ i) (h : i < (ns.length : Int)) : atI (ns.map V.int) i = some (.int (ns.getD i.toNat 0)) := by
  have e : i = ((i.toNat : Nat) : Int) := by omega
  have hl : i.toNat < ns.length := by omega
  refine at_of e ?_
  rw [List.getElem?_map, List.getElem?_eq_getElem hl, List.getD_eq_getElem?_getD, List.getElem?_eq_getElem hl]
  rfl
theorem getD_mem {ns : List Int} {i : Int} (h0 : 0 ≤ i) (h : i < (ns.length : Int)) : ns.getD i.toNat 0 ∈ ns := by
  have hl : i.toNat < ns.length := by omega
  rw [List.getD_eq_getElem?_getD, List.getElem?_eq_getElem hl]
  exact List.getElem_mem hl
end Gw
namespace Gw
open PySem PySem.Spec PyProof.Rows L2
/-! a step into a reading, by its head -/
theorem rd_test {te : TE} {σ : L2.St} {H : Hp} {Q : Bool → Hp → Prop} (h : te σ H fun x H1 => ∃ k, x = .bl k ∧ Q k H1) : tTest te σ H Q := h
theorem rd_op {r : R2} {ta tb : TE} {σ : L2.St} {H : Hp} {Q : VK} (h : ta σ H fun x H1 => tb σ H1 fun y H2 => r x y H2 Q) : tOp r ta tb σ H Q := h
theorem rd_cb {r : List V → Hp → VK → Prop} {ta : TA} {σ : L2.St} {H : Hp} {Q : VK} (h : ta σ H fun vs H1 => r vs H1 Q) : tCB r ta σ H Q := h
theorem rd_cons {te : TE} {ta : TA} {σ : L2.St} {H : Hp} {Q : List V → Hp → Prop} (h : te σ H fun x H1 => ta σ H1 fun xs H2 => Q (x :: xs) H2) : tCons te ta σ H Q := h
theorem rd_c {v : V} {σ : L2.St} {H : Hp} {Q : VK} (h : Q v H) : tC v σ H Q := h
theorem rd_nil {σ : L2.St} {H : Hp} {Q : List V → Hp → Prop} (h : Q [] H) : tNil σ H Q := h
theorem rd_asg {te : TE} {g : TG} {D : Ends} {σ : L2.St} {H : Hp} (h : te σ H fun x H1 => g x σ H1 D.nx) : tAsg te g D σ H := h
theorem rd_ret {te : TE} {D : Ends} {σ : L2.St} {H : Hp} (h : te σ H D.rt) : tRet te D σ H := h
theorem rd_seq {t u : TS} {D : Ends} {σ : L2.St} {H : Hp} (h : t { D with nx := u D } σ H) : tSeq t u D σ H := h
end Gw

set_option Elab.async false
set_option linter.all false
set_option maxRecDepth 100000
set_option maxHeartbeats 4000000
namespace Gw
open PySem PySem.Spec PyProof.Rows L2
/-! Sums and products of numbers keep the rules of fields. -/
theorem frac_back (a b : Int) : a = (frac a b).1 * fracC a b ∧ b = (frac a b).2 * fracC a b := by
  obtain ⟨h1, h2⟩ := fracC_dvd a b
  unfold frac
  rw [Int.fdiv_eq_ediv_of_dvd h1, Int.fdiv_eq_ediv_of_dvd h2]
  exact ⟨(Int.ediv_mul_cancel h1).symm, (Int.ediv_mul_cancel h2).symm⟩
theorem fracC_ne {a b : Int} (h : b ≠ 0) : fracC a b ≠ 0 := by
  have := gcdI_pos (a := a) h
  unfold fracC
  split <;> omega
theorem frac_pos {a b : Int} (h : b ≠ 0) : 0 < (frac a b).2 := by
  obtain ⟨_, h2⟩ := frac_back a b
  have g := gcdI_pos (a := a) h
  generalize (frac a b).2 = y at *
  rcases Int.lt_trichotomy y 0 with q | q | q
  · exfalso
    unfold fracC at h2
    split at h2
    · have : 0 < y * -gcdI a b := Int.mul_pos_of_neg_of_neg q (by omega)
      omega
    · have : y * gcdI a b < 0 := Int.mul_neg_of_neg_of_pos q g
      omega
  · rw [q, Int.zero_mul] at h2
    exact absurd h2 h
  · exact q
theorem frac_one {a b : Int} (h : b ≠ 0) : gcdI (frac a b).1 (frac a b).2 = 1 := by
  obtain ⟨h1, h2⟩ := frac_back a b
  have g := gcdI_pos (a := a) h
  have e : gcdI a b = gcdI (frac a b).1 (frac a b).2 * gcdI a b := by
    have k : (fracC a b).natAbs = (gcdI a b).natAbs := by unfold fracC; split <;> omega
    have : gcdI ((frac a b).1 * fracC a b) ((frac a b).2 * fracC a b) = gcdI (frac a b).1 (frac a b).2 * gcdI a b := by
      show ((Nat.gcd _ _ : Nat) : Int) = ((Nat.gcd _ _ : Nat) : Int) * _
      rw [Int.natAbs_mul, Int.natAbs_mul, Nat.gcd_mul_right, k, Int.natCast_mul]
      congr 1 <;> omega
    rw [← h1, ← h2] at this
    exact this
  have : (gcdI (frac a b).1 (frac a b).2 - 1) * gcdI a b = 0 := by rw [Int.sub_mul, Int.one_mul]; omega
  rcases Int.mul_eq_zero.mp this with q | q <;> omega
theorem frac_num {a b : Int} (h : b ≠ 0) : isNum 0 (frac a b).1 (frac a b).2 = true := by
  unfold isNum
  rw [if_pos rfl, vint_eq, frac_one h]
  have := frac_pos (a := a) h
  simp
  omega
theorem num0_frac {a b : Int} (h : isNum 0 a b = true) : 0 < b ∧ frac a b = (a, b) := by
  unfold isNum at h
  rw [if_pos rfl, vint_eq, Bool.and_eq_true, decide_eq_true_eq, decide_eq_true_eq] at h
  have b0 : 0 < b := by omega
  exact ⟨b0, (frac_same b0).mpr h.2⟩
/-- a fraction in lowest terms, with another one of the same worth -/
theorem low_unique {a b c d : Int} (hb : 0 < b) (hd : 0 < d) (h1 : gcdI a b = 1) (h2 : gcdI c d = 1) (e : a * d = c * b) : a = c ∧ b = d := by
  have n1 : Nat.gcd a.natAbs b.natAbs = 1 := by unfold gcdI at h1; omega
  have n2 : Nat.gcd c.natAbs d.natAbs = 1 := by unfold gcdI at h2; omega
  have en : a.natAbs * d.natAbs = c.natAbs * b.natAbs := by rw [← Int.natAbs_mul, ← Int.natAbs_mul, e]
  have bd : b.natAbs ∣ d.natAbs := by
    have : b.natAbs ∣ a.natAbs * d.natAbs := by rw [en]; exact Nat.dvd_mul_left _ _
    exact Nat.Coprime.dvd_of_dvd_mul_left (Nat.Coprime.symm n1) this
  have db : d.natAbs ∣ b.natAbs := by
    have : d.natAbs ∣ c.natAbs * b.natAbs := by rw [← en]; exact Nat.dvd_mul_left _ _
    exact Nat.Coprime.dvd_of_dvd_mul_left (Nat.Coprime.symm n2) this
  have ed := Nat.dvd_antisymm bd db
  have eb : b = d := by omega
  subst eb
  refine ⟨?_, rfl⟩
  exact Int.eq_of_mul_eq_mul_right (by omega) e
theorem frac_cong {a b c d : Int} (hb : b ≠ 0) (hd : d ≠ 0) (e : a * d = c * b) : frac a b = frac c d := by
  obtain ⟨a1, b1⟩ := frac_back a b
  obtain ⟨c1, d1⟩ := frac_back c d
  have g1 := fracC_ne (a := a) hb
  have g2 := fracC_ne (a := c) hd
  have := low_unique (frac_pos (a := a) hb) (frac_pos (a := c) hd) (frac_one hb) (frac_one hd) (by
    generalize (frac a b).1 = x at *
    generalize (frac a b).2 = y at *
    generalize (frac c d).1 = z at *
    generalize (frac c d).2 = w at *
    generalize fracC a b = g at *
    generalize fracC c d = k at *
    have : (x * w) * (g * k) = (z * y) * (g * k) := by rw [a1, b1, c1, d1] at e; grind
    exact Int.eq_of_mul_eq_mul_right (Int.mul_ne_zero g1 g2) this)
  exact Prod.ext this.1 this.2
/-! for rests by a prime -/
theorem rest_one {p a : Int} (h : fieldB p = true) (h0 : p ≠ 0) : ((restN p a 1 : Nat) : Int) = a % p := by
  have hl := field_lt h
  obtain ⟨n, en, hn, n1, n2⟩ := prime_nat h h0
  have o : (1 : Int) % p = 1 := Int.emod_eq_of_lt (by omega) (by omega)
  obtain ⟨s1, s2, s3, s4⟩ := restN_spec (a := a) (b := 1) h h0 (by rw [o]; omega)
  unfold sat at s1
  rw [decide_eq_true_eq, o, Int.mul_one, Int.emod_eq_of_lt (by omega) s3] at s1
  exact s1
theorem num_one {p a : Int} (h : fieldB p = true) (h0 : p ≠ 0) : num p a 1 = (a % p, 1) := by
  unfold num
  rw [if_neg h0, rest_one h h0]
theorem isNum_pos {p a b : Int} (h0 : p ≠ 0) (h : isNum p a b = true) : b = 1 ∧ 0 ≤ a ∧ a < p := by
  unfold isNum at h
  rw [if_neg h0, vint_eq, Bool.and_eq_true, Bool.and_eq_true, decide_eq_true_eq, decide_eq_true_eq, decide_eq_true_eq] at h
  exact h
theorem isNum_den {p a b : Int} (h : fieldB p = true) (hn : isNum p a b = true) : 0 < b := by
  by_cases e : p = 0
  · subst e; exact (num0_frac hn).1
  · have := isNum_pos e hn
    omega
/-- a / b is a number -/
theorem num_isNum {p a b : Int} (h : fieldB p = true) (hn : numOk p b = true) : isNum p (num p a b).1 (num p a b).2 = true := by
  unfold numOk at hn
  unfold num
  by_cases e : p = 0
  · subst e
    rw [if_pos rfl, vint_eq] at hn
    rw [if_pos rfl]
    exact frac_num (by simpa using hn)
  · rw [if_neg e, vint_eq] at hn
    obtain ⟨s1, s2, s3, s4⟩ := restN_spec (a := a) h e (by simpa using hn)
    rw [if_neg e]
    unfold isNum
    rw [if_neg e, vint_eq]
    simp
    omega
theorem numOk_den {p b : Int} (h : fieldB p = true) (h1 : 0 < b) (hp : p ≠ 0 → b = 1) : numOk p b = true := by
  unfold numOk
  by_cases e : p = 0
  · rw [if_pos e, vint_eq]
    simp
    omega
  · rw [if_neg e, vint_eq, hp e]
    have hl := field_lt h
    obtain ⟨n, en, hn, n1, n2⟩ := prime_nat h e
    rw [Int.emod_eq_of_lt (by omega) (by omega)]
    rfl
theorem mod_l (a z p : Int) : (a % p * z) % p = a * z % p := by rw [Int.mul_emod, Int.emod_emod, ← Int.mul_emod]
theorem mod_r (a z p : Int) : (a * (z % p)) % p = a * z % p := by rw [Int.mul_emod, Int.emod_emod, ← Int.mul_emod]
abbrev N2 := Int × Int
def nOk (p : Int) (x : N2) : Prop := isNum p x.1 x.2 = true
def nPlus (p : Int) (x y : N2) : N2 := num p (x.1 * y.2 + y.1 * x.2) (x.2 * y.2)
def nMinus (p : Int) (x y : N2) : N2 := num p (x.1 * y.2 - y.1 * x.2) (x.2 * y.2)
def nTimes (p : Int) (x y : N2) : N2 := num p (x.1 * y.1) (x.2 * y.2)
theorem den2 {p : Int} {x y : N2} (h : fieldB p = true) (hx : nOk p x) (hy : nOk p y) : numOk p (x.2 * y.2) = true := by
  refine numOk_den h (Int.mul_pos (isNum_den h hx) (isNum_den h hy)) fun e => ?_
  rw [(isNum_pos e hx).1, (isNum_pos e hy).1]
  rfl
theorem nok_plus {p : Int} {x y : N2} (h : fieldB p = true) (hx : nOk p x) (hy : nOk p y) : nOk p (nPlus p x y) := num_isNum h (den2 h hx hy)
theorem nok_minus {p : Int} {x y : N2} (h : fieldB p = true) (hx : nOk p x) (hy : nOk p y) : nOk p (nMinus p x y) := num_isNum h (den2 h hx hy)
theorem nok_times {p : Int} {x y : N2} (h : fieldB p = true) (hx : nOk p x) (hy : nOk p y) : nOk p (nTimes p x y) := num_isNum h (den2 h hx hy)
theorem num0 (a b : Int) : num 0 a b = frac a b := if_pos rfl
/-- what x + y, x - y, x * y are, behind a factor -/
theorem back2 {a b : Int} (hb : b ≠ 0) : ∃ g : Int, g ≠ 0 ∧ a = (num 0 a b).1 * g ∧ b = (num 0 a b).2 * g ∧ (num 0 a b).2 ≠ 0 := by
  rw [num0]
  have := frac_pos (a := a) hb
  exact ⟨fracC a b, fracC_ne hb, (frac_back a b).1, (frac_back a b).2, by omega⟩
theorem plus_assoc {p : Int} {x y z : N2} (h : fieldB p = true) (hx : nOk p x) (hy : nOk p y) (hz : nOk p z) : nPlus p (nPlus p x y) z = nPlus p x (nPlus p y z) := by
  by_cases e : p = 0
  · subst e
    have x2 := isNum_den h hx
    have y2 := isNum_den h hy
    have z2 := isNum_den h hz
    have m1 : x.2 * y.2 ≠ 0 := Int.mul_ne_zero (by omega) (by omega)
    have m2 : y.2 * z.2 ≠ 0 := Int.mul_ne_zero (by omega) (by omega)
    obtain ⟨g, g0, u1, u2, u3⟩ := back2 (a := x.1 * y.2 + y.1 * x.2) m1
    obtain ⟨k, k0, w1, w2, w3⟩ := back2 (a := y.1 * z.2 + z.1 * y.2) m2
    show num 0 ((nPlus 0 x y).1 * z.2 + z.1 * (nPlus 0 x y).2) ((nPlus 0 x y).2 * z.2) = num 0 (x.1 * (nPlus 0 y z).2 + (nPlus 0 y z).1 * x.2) (x.2 * (nPlus 0 y z).2)
    unfold nPlus
    refine (num0 _ _).trans (Eq.trans ?_ (num0 _ _).symm)
    generalize num 0 (x.1 * y.2 + y.1 * x.2) (x.2 * y.2) = s at *
    generalize num 0 (y.1 * z.2 + z.1 * y.2) (y.2 * z.2) = t at *
    obtain ⟨s1, s2⟩ := s
    obtain ⟨t1, t2⟩ := t
    obtain ⟨a, b⟩ := x
    obtain ⟨c, d⟩ := y
    obtain ⟨m, n⟩ := z
    dsimp only at *
    refine frac_cong (Int.mul_ne_zero u3 (by omega)) (Int.mul_ne_zero (by omega) w3) ?_
    have : (s1 * n + m * s2) * (b * t2) * (g * k) = (a * t2 + t1 * b) * (s2 * n) * (g * k) := by grind
    exact Int.eq_of_mul_eq_mul_right (Int.mul_ne_zero g0 k0) this
  · obtain ⟨x1, x2, x3⟩ := isNum_pos e hx
    obtain ⟨y1, y2, y3⟩ := isNum_pos e hy
    obtain ⟨z1, z2, z3⟩ := isNum_pos e hz
    unfold nPlus
    rw [x1, y1, z1]
    simp only [Int.mul_one, num_one h e]
    rw [Int.emod_add_emod, Int.add_emod_emod, Int.add_assoc]
theorem times_assoc {p : Int} {x y z : N2} (h : fieldB p = true) (hx : nOk p x) (hy : nOk p y) (hz : nOk p z) : nTimes p (nTimes p x y) z = nTimes p x (nTimes p y z) := by
  by_cases e : p = 0
  · subst e
    have x2 := isNum_den h hx
    have y2 := isNum_den h hy
    have z2 := isNum_den h hz
    have m1 : x.2 * y.2 ≠ 0 := Int.mul_ne_zero (by omega) (by omega)
    have m2 : y.2 * z.2 ≠ 0 := Int.mul_ne_zero (by omega) (by omega)
    obtain ⟨g, g0, u1, u2, u3⟩ := back2 (a := x.1 * y.1) m1
    obtain ⟨k, k0, w1, w2, w3⟩ := back2 (a := y.1 * z.1) m2
    show num 0 ((nTimes 0 x y).1 * z.1) ((nTimes 0 x y).2 * z.2) = num 0 (x.1 * (nTimes 0 y z).1) (x.2 * (nTimes 0 y z).2)
    unfold nTimes
    refine (num0 _ _).trans (Eq.trans ?_ (num0 _ _).symm)
    generalize num 0 (x.1 * y.1) (x.2 * y.2) = s at *
    generalize num 0 (y.1 * z.1) (y.2 * z.2) = t at *
    obtain ⟨s1, s2⟩ := s
    obtain ⟨t1, t2⟩ := t
    obtain ⟨a, b⟩ := x
    obtain ⟨c, d⟩ := y
    obtain ⟨m, n⟩ := z
    dsimp only at *
    refine frac_cong (Int.mul_ne_zero u3 (by omega)) (Int.mul_ne_zero (by omega) w3) ?_
    have : (s1 * m) * (b * t2) * (g * k) = (a * t1) * (s2 * n) * (g * k) := by grind
    exact Int.eq_of_mul_eq_mul_right (Int.mul_ne_zero g0 k0) this
  · obtain ⟨x1, x2, x3⟩ := isNum_pos e hx
    obtain ⟨y1, y2, y3⟩ := isNum_pos e hy
    obtain ⟨z1, z2, z3⟩ := isNum_pos e hz
    unfold nTimes
    rw [x1, y1, z1]
    simp only [Int.mul_one, num_one h e]
    rw [mod_l, mod_r, Int.mul_assoc]
theorem distrib {p : Int} {x y z : N2} (h : fieldB p = true) (hx : nOk p x) (hy : nOk p y) (hz : nOk p z) : nTimes p x (nPlus p y z) = nPlus p (nTimes p x y) (nTimes p x z) := by
  by_cases e : p = 0
  · subst e
    have x2 := isNum_den h hx
    have y2 := isNum_den h hy
    have z2 := isNum_den h hz
    have m1 : y.2 * z.2 ≠ 0 := Int.mul_ne_zero (by omega) (by omega)
    have m2 : x.2 * y.2 ≠ 0 := Int.mul_ne_zero (by omega) (by omega)
    have m3 : x.2 * z.2 ≠ 0 := Int.mul_ne_zero (by omega) (by omega)
    obtain ⟨g, g0, u1, u2, u3⟩ := back2 (a := y.1 * z.2 + z.1 * y.2) m1
    obtain ⟨k, k0, w1, w2, w3⟩ := back2 (a := x.1 * y.1) m2
    obtain ⟨f, f0, v1, v2, v3⟩ := back2 (a := x.1 * z.1) m3
    show num 0 (x.1 * (nPlus 0 y z).1) (x.2 * (nPlus 0 y z).2) = num 0 ((nTimes 0 x y).1 * (nTimes 0 x z).2 + (nTimes 0 x z).1 * (nTimes 0 x y).2) ((nTimes 0 x y).2 * (nTimes 0 x z).2)
    unfold nPlus nTimes
    refine (num0 _ _).trans (Eq.trans ?_ (num0 _ _).symm)
    generalize num 0 (y.1 * z.2 + z.1 * y.2) (y.2 * z.2) = s at *
    generalize num 0 (x.1 * y.1) (x.2 * y.2) = t at *
    generalize num 0 (x.1 * z.1) (x.2 * z.2) = r at *
    obtain ⟨s1, s2⟩ := s
    obtain ⟨t1, t2⟩ := t
    obtain ⟨r1, r2⟩ := r
    obtain ⟨a, b⟩ := x
    obtain ⟨c, d⟩ := y
    obtain ⟨m, n⟩ := z
    dsimp only at *
    refine frac_cong (Int.mul_ne_zero (by omega) u3) (Int.mul_ne_zero w3 v3) ?_
    have : (a * s1) * (t2 * r2) * (g * (k * f)) = (t1 * r2 + r1 * t2) * (b * s2) * (g * (k * f)) := by
      have q1 : (t1 * r2 + r1 * t2) * (k * f) = a * c * (b * n) + a * m * (b * d) := by grind
      have q2 : t2 * r2 * (k * f) = b * d * (b * n) := by grind
      have q3 : (a * s1) * (t2 * r2) * (g * (k * f)) = a * (s1 * g) * (t2 * r2 * (k * f)) := by grind
      have q4 : (t1 * r2 + r1 * t2) * (b * s2) * (g * (k * f)) = ((t1 * r2 + r1 * t2) * (k * f)) * (b * (s2 * g)) := by grind
      rw [q3, q4, q1, q2, ← u1, ← u2]
      grind
    exact Int.eq_of_mul_eq_mul_right (Int.mul_ne_zero g0 (Int.mul_ne_zero k0 f0)) this
  · obtain ⟨x1, x2, x3⟩ := isNum_pos e hx
    obtain ⟨y1, y2, y3⟩ := isNum_pos e hy
    obtain ⟨z1, z2, z3⟩ := isNum_pos e hz
    unfold nTimes nPlus
    rw [x1, y1, z1]
    simp only [Int.mul_one, num_one h e]
    rw [mod_r, Int.emod_add_emod, Int.add_emod_emod, Int.mul_add]
theorem minus_plus {p : Int} {x y : N2} (h : fieldB p = true) (hx : nOk p x) (hy : nOk p y) : nMinus p (nPlus p x y) y = x := by
  by_cases e : p = 0
  · subst e
    have x2 := isNum_den h hx
    have y2 := isNum_den h hy
    have m1 : x.2 * y.2 ≠ 0 := Int.mul_ne_zero (by omega) (by omega)
    obtain ⟨g, g0, u1, u2, u3⟩ := back2 (a := x.1 * y.2 + y.1 * x.2) m1
    have fx := (num0_frac hx).2
    show num 0 ((nPlus 0 x y).1 * y.2 - y.1 * (nPlus 0 x y).2) ((nPlus 0 x y).2 * y.2) = x
    unfold nPlus
    refine (num0 _ _).trans (Eq.trans ?_ (show frac x.1 x.2 = x from fx))
    generalize num 0 (x.1 * y.2 + y.1 * x.2) (x.2 * y.2) = s at *
    obtain ⟨s1, s2⟩ := s
    obtain ⟨a, b⟩ := x
    obtain ⟨c, d⟩ := y
    dsimp only at *
    refine frac_cong (Int.mul_ne_zero u3 (by omega)) (by omega) ?_
    have : (s1 * d - c * s2) * b * g = a * (s2 * d) * g := by
      have q1 : (s1 * d - c * s2) * b * g = ((s1 * g) * d - c * (s2 * g)) * b := by grind
      have q2 : a * (s2 * d) * g = a * ((s2 * g) * d) := by grind
      rw [q1, q2, ← u1, ← u2]
      grind
    exact Int.eq_of_mul_eq_mul_right g0 this
  · obtain ⟨x1, x2, x3⟩ := isNum_pos e hx
    obtain ⟨y1, y2, y3⟩ := isNum_pos e hy
    unfold nPlus nMinus
    rw [x1, y1]
    simp only [Int.mul_one, num_one h e]
    rw [Int.emod_sub_emod, show x.1 + y.1 - y.1 = x.1 by omega, Int.emod_eq_of_lt x2 x3]
    exact Prod.ext rfl x1.symm
end Gw

set_option Elab.async false
set_option linter.all false
set_option maxRecDepth 100000
set_option maxHeartbeats 4000000
namespace Gw
open PySem PySem.Spec PyProof.Rows L2
/-! A call of one of several defs that an expression hands out; what may be raised is wished for at the caller's slots. -/
structure HeldX (P : Program) (w : World) (K : PySem.W.Frag) (mg : Str → Option Value) (base : Heap) (k : Nat) (f : Addr) (sp : Sp) : Prop where
  ex : ∃ (fd : FuncData) (ps : List Str), FnOk P w K mg base (L2.CX P w) k f fd ps sp ∧ PySem.W.keepIn K (.ref f) = true ∧ Binds K fd ps []
def tCallE (te : TE) (S : Addr → Sp → Prop) (E : L2.St → XK) (t : TA) : TE := fun σ H Q => te σ H fun v H1 => ∃ f sp, v = .ref f ∧ S f sp ∧ t σ H1 fun vs H2 => sp vs H2 Q (E σ)
theorem pe_callE {X : Cx} {k : Nat} {S : Addr → Sp → Prop} {E : L2.St → XK} {func e : Expr} {es : List Expr} {pos : Pos} {te : TE} {t : TA} (hf : PE X func te) (A : ∀ f sp, S f sp → HeldX X.prog X.w X.K X.mg X.base k f sp) (hr : Room k X.A)
    (hx : ∀ σ, PassesAt (L2.CX X.prog X.w) X σ (E σ)) (ha : PA X (e :: es) t)
    (hq : eval (.Call func (e :: es) [] pos) X.env = (do callWith pos (← eval func X.env) [] (backTo pos (starEach (e :: es) X.env)) (backToKw pos (keywordEach [] X.env))) := by rfl)
    (he : starEach (e :: es) X.env = (false, eval e X.env) :: starEach es X.env := by rfl) (hpl : (backTo pos (starEach es X.env)).any (·.1) = false := by rfl) :
    PE X (.Call func (e :: es) [] pos) (tCallE te S E t) := by
  constructor
  intro pins s σ H Q I h
  apply PyProof.Rows.Call_ _ hq
  apply thn (hf.run pins s σ H _ I h)
  rintro u s1 ⟨v, H1, I1, r1, f, sp, rfl, hS, q⟩
  cases r1
  obtain ⟨fd, ps, F, hk, hb⟩ := (A f sp hS).ex
  apply PySem.W.callWith_K (h₀ := X.base) I1.ok.mod.kin hk _ he hpl
  apply thn (ha.run pos pins s1 σ H1 _ I1 q)
  rintro us s2 ⟨vs, H2, I2, r2, q2⟩
  exact ⟨I2.kIn, run_fnS F hr hb (hx σ) I2 r2 q2⟩
theorem ix_listK {X : Cx} {K : PySem.W.Frag} (h : X.K = K) : IxR X (rIxL K) := by
  rw [← h]
  exact ix_list
theorem ix_tupK {X : Cx} {K : PySem.W.Frag} (h : X.K = K) : IxR X (rIxT K) := by
  rw [← h]
  exact ix_tup
/-! ### heaps that keep a part, though the list of draws changes -/
theorem But.keep {l : Addr} {F H H' : Hp} (b : But l H H') (f : Same F H) (n : F l = none) : Same F H' := fun c o e => b c o (ne_of_none e n) (f c o e)
theorem dp_pair {K : PySem.W.Frag} {F : Hp} {v : V} {a b : Int} (h : Dp K F v (.tuple [.int a, .int b])) : ∃ t, v = .ref t ∧ SqT K F t [.int a, .int b] := by
  cases h with
  | tup hs ha =>
    cases ha with
    | cons h1 h2 =>
      cases h1
      cases h2 with
      | cons h3 h4 =>
        cases h3
        cases h4
        exact ⟨_, rfl, hs⟩
theorem pair_dp {K : PySem.W.Frag} {F : Hp} {t : Addr} {a b : Int} (h : SqT K F t [.int a, .int b]) : Dp K F (.ref t) (.tuple [.int a, .int b]) := .tup h (.cons (.int _) (.cons (.int _) .nil))
/-- [.. for i in range(n)], each item new data that a draw from the list at l makes -/
theorem lc_draw {K : PySem.W.Frag} {te : TE} {ta : TA} {σ : L2.St} {H : Hp} {j n : Nat} {vs : List Nat} {Q : VK} {l : Addr} {e0 : List Int} (good : Nat → PyData → Prop) (hn : n ≤ 1000) (hl : H l = some (.lst (e0.map V.int)))
    (ha : ∀ Q' : List V → Hp → Prop, Q' [.int (n : Int)] H → ta σ H Q') (hw : ∀ x, wipe ((wipe σ vs).set j (some x)) vs = wipe σ vs)
    (he : ∀ (i : Nat) (H1 : Hp) (es : List Int) (Q' : VK), i < n → But l H H1 → H1 l = some (.lst (es.map V.int)) →
      (∀ (v : V) (H2 F : Hp) (d : PyData) (es2 : List Int), But l H1 H2 → H2 l = some (.lst (es2.map V.int)) → Same F H2 → Off F H1 → good i d → Dp K F v d → Q' v H2) → te ((wipe σ vs).set j (some (.int (i : Int)))) H1 Q')
    (k : ∀ (D : Addr) (H2 F : Hp) (xs : List V) (ds : List PyData) (es : List Int), H D = none → But l H H2 → H2 D = some (.lst xs) → H2 l = some (.lst (es.map V.int)) → Same F H2 → Off F H → F D = none → DpAll K F xs ds → ds.length = n →
      (∀ i d, ds[i]? = some d → good i d) → Q (.ref D) H2) :
    tLc (iRng1 ta) (gName j) tYes te vs σ H Q := by
  refine ha _ ⟨(n : Int), rfl, by omega, by omega, fun D nD => ?_⟩
  have en : ((n : Int)).toNat = n := by omega
  have lD : l ≠ D := ne_of_none hl nD
  rw [en]
  refine lc_range (lo := 0) (n := n) (fun i H' => ∃ (F : Hp) (xs : List V) (ds : List PyData) (es : List Int), But l H H' ∧ H' D = some (.lst xs) ∧ H' l = some (.lst (es.map V.int)) ∧ Same F H' ∧ Off F H ∧ F D = none ∧ DpAll K F xs ds ∧ ds.length = i ∧ ∀ i d, ds[i]? = some d → good i d)
    ⟨noH, [], [], e0, But.of (same_new nD), upd_same, by rw [upd_ne lD]; exact hl, noH_in _, noH_off _, rfl, .nil, rfl, fun _ _ z => by simp at z⟩ ?_ ?_
  · rintro i H1 hi ⟨F, xs, ds, es, b1, hD, hl1, f1, f2, f3, hd, hdl, hg⟩
    have e0 : (0 : Int) + (i : Int) = (i : Int) := Int.zero_add _
    show wipe ((wipe σ vs).set j (some (.int ((0 : Int) + (i : Int))))) vs = wipe σ vs ∧ te ((wipe σ vs).set j (some (.int ((0 : Int) + (i : Int))))) H1 _
    rw [e0]
    refine ⟨hw _, he i H1 es _ hi b1 hl1 fun v H2 G d es2 b2 hl2 g1 g2 gd dv => ⟨xs, b2 D _ lD.symm hD, ?_, ?_⟩⟩
    · have := dpAll_len hd
      exact lt_line (by omega)
    · have gD : G D = none := g2.none_of hD
      have fl : F l = none := f2.none_of hl
      have dis : ∀ b o u, F b = some o → G b = some u → False := fun b o u e1 e2 => by
        have := g2 b u e2
        rw [f1 b o e1] at this
        cases this
      have bD : both F G D = none := by unfold both; rw [f3]; exact gD
      have goff : Off G H := fun b o e => by
        by_cases hb : b = l
        · have := g2 b o e
          rw [hb, hl1] at this
          cases this
        · cases q : H b with
          | none => rfl
          | some u =>
            have := g2 b o e
            rw [b1 b u hb q] at this
            cases this
      refine ⟨both F G, xs ++ [v], ds ++ [d], es2, fun b o n e => ?_, upd_same, by rw [upd_ne lD]; exact hl2, in_upd (both_in (b2.keep f1 fl) g1) bD, both_off f2 goff, bD, dpAll_snoc (dpAll_same both_l hd) (dp_same (both_r dis) _ _ dv), ?_, ?_⟩
      · rw [upd_ne (ne_of_none e nD)]
        exact b2 b o n (b1 b o n e)
      · rw [List.length_append, hdl]
        rfl
      · intro m e hm
        by_cases hml : m < ds.length
        · rw [List.getElem?_append_left hml] at hm
          exact hg m e hm
        · rw [List.getElem?_append_right (by omega)] at hm
          have : m = i := by
            rcases Nat.lt_or_ge (m - ds.length) 1 with q | q
            · omega
            · rw [List.getElem?_eq_none (by show 1 ≤ _; omega)] at hm
              cases hm
          subst this
          rw [show m - ds.length = 0 by omega] at hm
          cases hm
          exact gd
  · rintro H1 ⟨F, xs, ds, es, b1, hD, hl1, f1, f2, f3, hd, hdl, hg⟩
    exact k D H1 F xs ds es nD b1 hD hl1 f1 f2 f3 hd hdl hg
end Gw
namespace Gw
open PySem PySem.Spec PyProof.Rows L2
theorem rd_name {i : Nat} {v : V} {σ : L2.St} {H : Hp} {Q : L2.St → Hp → Prop} (h : Q (σ.set i (some v)) H) : gName i v σ H Q := h
/-- a list at q whose items are data of the part F -/
structure DueAt (K : PySem.W.Frag) (H : Hp) (q : Addr) (F : Hp) (vs : List V) (ds : List PyData) : Prop where
  here : H q = some (.lst vs)
  dp : DpAll K F vs ds
  part : Same F H
  no : F q = none
section
variable {K : PySem.W.Frag} {H F : Hp} {q t : Addr} {vs : List V} {ds : List PyData}
theorem same_both {o : HO} (f : Same F H) (n : H t = none) : Same (upd F t o) (upd H t o) ∧ Same F (upd F t o) ∧ F t = none := by
  have ft : F t = none := f.free n
  refine ⟨fun b u e => ?_, same_new ft, ft⟩
  by_cases hb : b = t
  · rw [hb, upd_same] at e ⊢
    exact e
  · rw [upd_ne hb] at e ⊢
    exact f b u e
/-- a new object at t, not of the list -/
theorem DueAt.new (d : DueAt K H q F vs ds) (nt : H t = none) (o : HO) : DueAt K (upd H t o) q (upd F t o) vs ds := by
  have qt : q ≠ t := ne_of_none d.here nt
  obtain ⟨s1, s2, _⟩ := same_both (o := o) d.part nt
  exact ⟨by rw [upd_ne qt]; exact d.here, dpAll_same s2 d.dp, s1, by rw [upd_ne qt]; exact d.no⟩
/-- the list's items change -/
theorem DueAt.put (d : DueAt K H q F vs ds) {ws : List V} {es : List PyData} (h : DpAll K F ws es) : DueAt K (upd H q (.lst ws)) q F ws es :=
  ⟨upd_same, h, in_upd d.part d.no, d.no⟩
end
theorem dpAll_set {K : PySem.W.Frag} {F : Hp} {v : V} {d : PyData} (h : Dp K F v d) : ∀ {vs : List V} {ds : List PyData} (i : Nat), DpAll K F vs ds → DpAll K F (vs.set i v) (ds.set i d)
  | _, _, _, .nil => .nil
  | _, _, 0, .cons _ b => .cons h b
  | _, _, i + 1, .cons a b => .cons a (dpAll_set h i b)
theorem shaped_pair (a b : Int) : SeqAt.shaped (.tuple [.int a, .int b]) = true := by
  unfold SeqAt.shaped
  simp [PyData.canLay0, PyData.canLayAll0, PyData.depth, PyData.depthAll]
theorem eqv_str (x y : Str) : PyData.eqv (.str x) (.str y) = decide (x = y) := by
  simp [PyData.eqv]
  by_cases h : x = y <;> simp [h]
end Gw
namespace Gw
open PySem PySem.Spec PyProof.Rows L2
theorem DueAt.app {K : PySem.W.Frag} {H F : Hp} {q t : Addr} {vs : List V} {ds : List PyData} (d : DueAt K H q F vs ds) (nt : H t = none) (a b : Int) :
    DueAt K (upd (upd H t (.tup [.int a, .int b])) q (.lst (vs ++ [.ref t]))) q (upd F t (.tup [.int a, .int b])) (vs ++ [.ref t]) (ds ++ [.tuple [.int a, .int b]]) := by
  have d1 := d.new nt (.tup [.int a, .int b])
  exact d1.put (dpAll_snoc d1.dp (pair_dp (sqT_of upd_same)))
theorem DueAt.sameF {K : PySem.W.Frag} {H F : Hp} {q t : Addr} {vs : List V} {ds : List PyData} (d : DueAt K H q F vs ds) (nt : H t = none) (o : HO) : Same F (upd F t o) := same_new (d.part.free nt)
end Gw
namespace Gw
open PySem PySem.Spec PyProof.Rows L2
theorem ne_pairs {K : PySem.W.Frag} {x y : V} {H : Hp} {Q : VK} {A B : Int × Int} (hx : Dp K H x (.tuple [.int A.1, .int A.2])) (hy : Dp K H y (.tuple [.int B.1, .int B.2])) (e : A = B) (k : Q (.bl false) H) : rNeD K x y H Q := by
  refine ⟨_, _, hx, hy, shaped_pair _ _, shaped_pair _ _, ?_⟩
  rw [eqv_pair, e, decide_eq_true rfl]
  exact k
theorem ne_strs {K : PySem.W.Frag} {x y : V} {H : Hp} {Q : VK} {d e : PyData} {s : Str} (hx : Dp K H x d) (hy : Dp K H y e) (h1 : d = .str s) (h2 : e = .str s) (ok : SeqAt.shaped (.str s) = true) (k : Q (.bl false) H) : rNeD K x y H Q := by
  subst h1 h2
  refine ⟨_, _, hx, hy, ok, ok, ?_⟩
  rw [eqv_str, decide_eq_true rfl]
  exact k
end Gw

namespace Gw
open PySem PySem.Spec PyProof.Rows L2
def rPlus (x y : N2) : N2 := (x.1 * y.2 + y.1 * x.2, x.2 * y.2)
def rMinus (x y : N2) : N2 := (x.1 * y.2 - y.1 * x.2, x.2 * y.2)
def rTimes (x y : N2) : N2 := (x.1 * y.1, x.2 * y.2)
def rOver (x y : N2) : N2 := (x.1 * y.2, x.2 * y.1)
def rawW (way : Int) (x y : N2) : N2 := if way = 0 then rPlus x y else if way = 1 then rMinus x y else if way = 2 then rTimes x y else rOver x y
abbrev dN (x : N2) : PyData := .tuple [.int x.1, .int x.2]
/-- what the program tells -/
def toldB (way p : Int) (x y : N2) : PyData :=
  if fieldB p = false then .str "!b" else if isNum p x.1 x.2 = false then .str "!n" else if isNum p y.1 y.2 = false then .str "!n"
  else if numOk p (rawW way x y).2 = true then dN (num p (rawW way x y).1 (rawW way x y).2) else .str "!b"
structure Sm (n : Nat) (x : N2) : Prop where
  a : x.1.natAbs < n
  b : x.2.natAbs < n
theorem Sm.mono {n m : Nat} {x : N2} (h : Sm n x) (l : n ≤ m) : Sm m x := ⟨Nat.lt_of_lt_of_le h.a l, Nat.lt_of_lt_of_le h.b l⟩
/-! ### the text by places -/
def topS (i : Nat) : Stmt := PySem.Challenge.pw_graftworth_k01_sums_and_products.main.body.getD i (.Pass ⟨0, 0, 0, 0⟩)
abbrev st_is_field : Stmt := topS 7
abbrev sl_is_field : List Str := ["p"]
theorem sc_is_field : FnScope sl_is_field ["p"] (defScope st_is_field) := ⟨rfl, rfl, rfl, by decide +kernel, rfl, by decide +kernel, by decide +kernel⟩
abbrev st_check_field : Stmt := topS 8
abbrev sl_check_field : List Str := ["p"]
theorem sc_check_field : FnScope sl_check_field ["p"] (defScope st_check_field) := ⟨rfl, rfl, rfl, by decide +kernel, rfl, by decide +kernel, by decide +kernel⟩
abbrev st_is_number : Stmt := topS 9
abbrev sl_is_number : List Str := ["p", "x", "a", "b"]
theorem sc_is_number : FnScope sl_is_number ["p", "x"] (defScope st_is_number) := ⟨rfl, rfl, rfl, by decide +kernel, rfl, by decide +kernel, by decide +kernel⟩
abbrev st_check_number : Stmt := topS 10
abbrev sl_check_number : List Str := ["p", "x"]
theorem sc_check_number : FnScope sl_check_number ["p", "x"] (defScope st_check_number) := ⟨rfl, rfl, rfl, by decide +kernel, rfl, by decide +kernel, by decide +kernel⟩
abbrev st_number : Stmt := topS 11
abbrev sl_number : List Str := ["p", "a", "b"]
theorem sc_number : FnScope sl_number ["p", "a", "b"] (defScope st_number) := ⟨rfl, rfl, rfl, by decide +kernel, rfl, by decide +kernel, by decide +kernel⟩
abbrev st__fraction : Stmt := topS 12
abbrev sl__fraction : List Str := ["a", "b", "common"]
theorem sc__fraction : FnScope sl__fraction ["a", "b"] (defScope st__fraction) := ⟨rfl, rfl, rfl, by decide +kernel, rfl, by decide +kernel, by decide +kernel⟩
abbrev st__rest : Stmt := topS 13
abbrev sl__rest : List Str := ["p", "a", "b", "above", "below", "rest"]
theorem sc__rest : FnScope sl__rest ["p", "a", "b"] (defScope st__rest) := ⟨rfl, rfl, rfl, by decide +kernel, rfl, by decide +kernel, by decide +kernel⟩
abbrev st__check_both : Stmt := topS 14
abbrev sl__check_both : List Str := ["p", "x", "y"]
theorem sc__check_both : FnScope sl__check_both ["p", "x", "y"] (defScope st__check_both) := ⟨rfl, rfl, rfl, by decide +kernel, rfl, by decide +kernel, by decide +kernel⟩
abbrev st_plus : Stmt := topS 15
abbrev sl_plus : List Str := ["p", "x", "y"]
theorem sc_plus : FnScope sl_plus ["p", "x", "y"] (defScope st_plus) := ⟨rfl, rfl, rfl, by decide +kernel, rfl, by decide +kernel, by decide +kernel⟩
abbrev st_minus : Stmt := topS 16
abbrev sl_minus : List Str := ["p", "x", "y"]
theorem sc_minus : FnScope sl_minus ["p", "x", "y"] (defScope st_minus) := ⟨rfl, rfl, rfl, by decide +kernel, rfl, by decide +kernel, by decide +kernel⟩
abbrev st_times : Stmt := topS 17
abbrev sl_times : List Str := ["p", "x", "y"]
theorem sc_times : FnScope sl_times ["p", "x", "y"] (defScope st_times) := ⟨rfl, rfl, rfl, by decide +kernel, rfl, by decide +kernel, by decide +kernel⟩
abbrev st_over : Stmt := topS 18
abbrev sl_over : List Str := ["p", "x", "y"]
theorem sc_over : FnScope sl_over ["p", "x", "y"] (defScope st_over) := ⟨rfl, rfl, rfl, by decide +kernel, rfl, by decide +kernel, by decide +kernel⟩
abbrev st__law_plain : Stmt := topS 20
abbrev sl__law_plain : List Str := ["cell"]
theorem sc__law_plain : FnScope sl__law_plain ["cell"] (defScope st__law_plain) := ⟨rfl, rfl, rfl, by decide +kernel, rfl, by decide +kernel, by decide +kernel⟩
abbrev st__law_draws : Stmt := topS 21
abbrev sl__law_draws : List Str := ["script", "draws", "cell", "rest", "k", "once", "twice"]
theorem sc__law_draws : FnScope sl__law_draws ["script"] (defScope st__law_draws) := ⟨rfl, rfl, rfl, by decide +kernel, rfl, by decide +kernel, by decide +kernel⟩
abbrev st__law_next : Stmt := topS 22
abbrev sl__law_next : List Str := ["draws"]
theorem sc__law_next : FnScope sl__law_next ["draws"] (defScope st__law_next) := ⟨rfl, rfl, rfl, by decide +kernel, rfl, by decide +kernel, by decide +kernel⟩
abbrev st__law_field : Stmt := topS 23
abbrev sl__law_field : List Str := ["draws"]
theorem sc__law_field : FnScope sl__law_field ["draws"] (defScope st__law_field) := ⟨rfl, rfl, rfl, by decide +kernel, rfl, by decide +kernel, by decide +kernel⟩
abbrev st__law_lowest : Stmt := topS 24
abbrev sl__law_lowest : List Str := ["a", "b", "one", "other", "j"]
theorem sc__law_lowest : FnScope sl__law_lowest ["a", "b"] (defScope st__law_lowest) := ⟨rfl, rfl, rfl, by decide +kernel, rfl, by decide +kernel, by decide +kernel⟩
abbrev st__law_brought : Stmt := topS 25
abbrev sl__law_brought : List Str := ["p", "a", "b", "x"]
theorem sc__law_brought : FnScope sl__law_brought ["p", "a", "b"] (defScope st__law_brought) := ⟨rfl, rfl, rfl, by decide +kernel, rfl, by decide +kernel, by decide +kernel⟩
abbrev st__law_number : Stmt := topS 26
abbrev sl__law_number : List Str := ["draws", "p"]
theorem sc__law_number : FnScope sl__law_number ["draws", "p"] (defScope st__law_number) := ⟨rfl, rfl, rfl, by decide +kernel, rfl, by decide +kernel, by decide +kernel⟩
abbrev st__law_told : Stmt := topS 27
abbrev sl__law_told : List Str := ["way", "p", "x", "y", "error", "kinds"]
theorem sc__law_told : FnScope sl__law_told ["way", "p", "x", "y"] (defScope st__law_told) := ⟨rfl, rfl, rfl, by decide +kernel, rfl, by decide +kernel, by decide +kernel⟩
abbrev st_law : Stmt := topS 28
abbrev sl_law : List Str := ["script", "draws", "p", "x", "y", "z", "due", "way", "bad", "j"]
theorem sc_law : FnScope sl_law ["script"] (defScope st_law) := ⟨rfl, rfl, rfl, by decide +kernel, rfl, by decide +kernel, by decide +kernel⟩
/-- where the text's own things stand -/
structure Ad where
  a_is_field : Addr
  d_is_field : FuncData
  a_check_field : Addr
  d_check_field : FuncData
  a_is_number : Addr
  d_is_number : FuncData
  a_check_number : Addr
  d_check_number : FuncData
  a_number : Addr
  d_number : FuncData
  a__fraction : Addr
  d__fraction : FuncData
  a__rest : Addr
  d__rest : FuncData
  a__check_both : Addr
  d__check_both : FuncData
  a_plus : Addr
  d_plus : FuncData
  a_minus : Addr
  d_minus : FuncData
  a_times : Addr
  d_times : FuncData
  a_over : Addr
  d_over : FuncData
  a__law_plain : Addr
  d__law_plain : FuncData
  a__law_draws : Addr
  d__law_draws : FuncData
  a__law_next : Addr
  d__law_next : FuncData
  a__law_field : Addr
  d__law_field : FuncData
  a__law_lowest : Addr
  d__law_lowest : FuncData
  a__law_brought : Addr
  d__law_brought : FuncData
  a__law_number : Addr
  d__law_number : FuncData
  a__law_told : Addr
  d__law_told : FuncData
  a_law : Addr
  d_law : FuncData
  a_GraftError : Addr
  a_NotNumber : Addr
  a_BadNumber : Addr
  a_FIELDS : Addr
/-- what is known of them -/
structure Txt (K : PySem.W.Frag) (mg : Str → Option Value) (ad : Ad) : Prop where
  F_is_field : Fun K "is_field" "is_field" st_is_field ad.a_is_field ad.d_is_field
  b_is_field : Binds K ad.d_is_field ["p"] []
  g_is_field : mg "is_field" = some (.ref ad.a_is_field)
  k_is_field : PySem.W.keepIn K (.ref ad.a_is_field) = true
  F_check_field : Fun K "check_field" "check_field" st_check_field ad.a_check_field ad.d_check_field
  b_check_field : Binds K ad.d_check_field ["p"] []
  g_check_field : mg "check_field" = some (.ref ad.a_check_field)
  k_check_field : PySem.W.keepIn K (.ref ad.a_check_field) = true
  F_is_number : Fun K "is_number" "is_number" st_is_number ad.a_is_number ad.d_is_number
  b_is_number : Binds K ad.d_is_number ["p", "x"] []
  g_is_number : mg "is_number" = some (.ref ad.a_is_number)
  k_is_number : PySem.W.keepIn K (.ref ad.a_is_number) = true
  F_check_number : Fun K "check_number" "check_number" st_check_number ad.a_check_number ad.d_check_number
  b_check_number : Binds K ad.d_check_number ["p", "x"] []
  g_check_number : mg "check_number" = some (.ref ad.a_check_number)
  k_check_number : PySem.W.keepIn K (.ref ad.a_check_number) = true
  F_number : FunD K "number" "number" (defArgs st_number) (defBody st_number) (defScope st_number) [V.int 1] [] ad.a_number ad.d_number
  b_number : Binds K ad.d_number ["p", "a", "b"] []
  g_number : mg "number" = some (.ref ad.a_number)
  k_number : PySem.W.keepIn K (.ref ad.a_number) = true
  F__fraction : Fun K "_fraction" "_fraction" st__fraction ad.a__fraction ad.d__fraction
  b__fraction : Binds K ad.d__fraction ["a", "b"] []
  g__fraction : mg "_fraction" = some (.ref ad.a__fraction)
  k__fraction : PySem.W.keepIn K (.ref ad.a__fraction) = true
  F__rest : Fun K "_rest" "_rest" st__rest ad.a__rest ad.d__rest
  b__rest : Binds K ad.d__rest ["p", "a", "b"] []
  g__rest : mg "_rest" = some (.ref ad.a__rest)
  k__rest : PySem.W.keepIn K (.ref ad.a__rest) = true
  F__check_both : Fun K "_check_both" "_check_both" st__check_both ad.a__check_both ad.d__check_both
  b__check_both : Binds K ad.d__check_both ["p", "x", "y"] []
  g__check_both : mg "_check_both" = some (.ref ad.a__check_both)
  k__check_both : PySem.W.keepIn K (.ref ad.a__check_both) = true
  F_plus : Fun K "plus" "plus" st_plus ad.a_plus ad.d_plus
  b_plus : Binds K ad.d_plus ["p", "x", "y"] []
  g_plus : mg "plus" = some (.ref ad.a_plus)
  k_plus : PySem.W.keepIn K (.ref ad.a_plus) = true
  F_minus : Fun K "minus" "minus" st_minus ad.a_minus ad.d_minus
  b_minus : Binds K ad.d_minus ["p", "x", "y"] []
  g_minus : mg "minus" = some (.ref ad.a_minus)
  k_minus : PySem.W.keepIn K (.ref ad.a_minus) = true
  F_times : Fun K "times" "times" st_times ad.a_times ad.d_times
  b_times : Binds K ad.d_times ["p", "x", "y"] []
  g_times : mg "times" = some (.ref ad.a_times)
  k_times : PySem.W.keepIn K (.ref ad.a_times) = true
  F_over : Fun K "over" "over" st_over ad.a_over ad.d_over
  b_over : Binds K ad.d_over ["p", "x", "y"] []
  g_over : mg "over" = some (.ref ad.a_over)
  k_over : PySem.W.keepIn K (.ref ad.a_over) = true
  F__law_plain : Fun K "_law_plain" "_law_plain" st__law_plain ad.a__law_plain ad.d__law_plain
  b__law_plain : Binds K ad.d__law_plain ["cell"] []
  g__law_plain : mg "_law_plain" = some (.ref ad.a__law_plain)
  k__law_plain : PySem.W.keepIn K (.ref ad.a__law_plain) = true
  F__law_draws : Fun K "_law_draws" "_law_draws" st__law_draws ad.a__law_draws ad.d__law_draws
  b__law_draws : Binds K ad.d__law_draws ["script"] []
  g__law_draws : mg "_law_draws" = some (.ref ad.a__law_draws)
  k__law_draws : PySem.W.keepIn K (.ref ad.a__law_draws) = true
  F__law_next : Fun K "_law_next" "_law_next" st__law_next ad.a__law_next ad.d__law_next
  b__law_next : Binds K ad.d__law_next ["draws"] []
  g__law_next : mg "_law_next" = some (.ref ad.a__law_next)
  k__law_next : PySem.W.keepIn K (.ref ad.a__law_next) = true
  F__law_field : Fun K "_law_field" "_law_field" st__law_field ad.a__law_field ad.d__law_field
  b__law_field : Binds K ad.d__law_field ["draws"] []
  g__law_field : mg "_law_field" = some (.ref ad.a__law_field)
  k__law_field : PySem.W.keepIn K (.ref ad.a__law_field) = true
  F__law_lowest : Fun K "_law_lowest" "_law_lowest" st__law_lowest ad.a__law_lowest ad.d__law_lowest
  b__law_lowest : Binds K ad.d__law_lowest ["a", "b"] []
  g__law_lowest : mg "_law_lowest" = some (.ref ad.a__law_lowest)
  k__law_lowest : PySem.W.keepIn K (.ref ad.a__law_lowest) = true
  F__law_brought : Fun K "_law_brought" "_law_brought" st__law_brought ad.a__law_brought ad.d__law_brought
  b__law_brought : Binds K ad.d__law_brought ["p", "a", "b"] []
  g__law_brought : mg "_law_brought" = some (.ref ad.a__law_brought)
  k__law_brought : PySem.W.keepIn K (.ref ad.a__law_brought) = true
  F__law_number : Fun K "_law_number" "_law_number" st__law_number ad.a__law_number ad.d__law_number
  b__law_number : Binds K ad.d__law_number ["draws", "p"] []
  g__law_number : mg "_law_number" = some (.ref ad.a__law_number)
  k__law_number : PySem.W.keepIn K (.ref ad.a__law_number) = true
  F__law_told : Fun K "_law_told" "_law_told" st__law_told ad.a__law_told ad.d__law_told
  b__law_told : Binds K ad.d__law_told ["way", "p", "x", "y"] []
  g__law_told : mg "_law_told" = some (.ref ad.a__law_told)
  k__law_told : PySem.W.keepIn K (.ref ad.a__law_told) = true
  F_law : Fun K "law" "law" st_law ad.a_law ad.d_law
  b_law : Binds K ad.d_law ["script"] []
  g_law : mg "law" = some (.ref ad.a_law)
  k_law : PySem.W.keepIn K (.ref ad.a_law) = true
  g_GraftError : mg "GraftError" = some (.ref ad.a_GraftError)
  k_GraftError : PySem.W.keepIn K (.ref ad.a_GraftError) = true
  x_GraftError : PySem.W.excIn K ad.a_GraftError vE "ValueError.__new__" = true
  s_GraftError : PySem.W.subIn K (.ref ad.a_GraftError) (.type "BaseException") = some true
  t_GraftError : PySem.W.typeIn K (.ref ad.a_GraftError) = some (.type "type")
  e_GraftError : ExcC K ad.a_GraftError
  i_GraftError_GraftError : PySem.W.kitOne K (.ref ad.a_GraftError) (.ref ad.a_GraftError) = some true
  m_GraftError_GraftError : PySem.W.exmOne K (.ref ad.a_GraftError) (.ref ad.a_GraftError) = some true
  i_GraftError_NotNumber : PySem.W.kitOne K (.ref ad.a_GraftError) (.ref ad.a_NotNumber) = some false
  m_GraftError_NotNumber : PySem.W.exmOne K (.ref ad.a_GraftError) (.ref ad.a_NotNumber) = some false
  i_GraftError_BadNumber : PySem.W.kitOne K (.ref ad.a_GraftError) (.ref ad.a_BadNumber) = some false
  m_GraftError_BadNumber : PySem.W.exmOne K (.ref ad.a_GraftError) (.ref ad.a_BadNumber) = some false
  g_NotNumber : mg "NotNumber" = some (.ref ad.a_NotNumber)
  k_NotNumber : PySem.W.keepIn K (.ref ad.a_NotNumber) = true
  x_NotNumber : PySem.W.excIn K ad.a_NotNumber vE "ValueError.__new__" = true
  s_NotNumber : PySem.W.subIn K (.ref ad.a_NotNumber) (.type "BaseException") = some true
  t_NotNumber : PySem.W.typeIn K (.ref ad.a_NotNumber) = some (.type "type")
  e_NotNumber : ExcC K ad.a_NotNumber
  i_NotNumber_GraftError : PySem.W.kitOne K (.ref ad.a_NotNumber) (.ref ad.a_GraftError) = some true
  m_NotNumber_GraftError : PySem.W.exmOne K (.ref ad.a_NotNumber) (.ref ad.a_GraftError) = some true
  i_NotNumber_NotNumber : PySem.W.kitOne K (.ref ad.a_NotNumber) (.ref ad.a_NotNumber) = some true
  m_NotNumber_NotNumber : PySem.W.exmOne K (.ref ad.a_NotNumber) (.ref ad.a_NotNumber) = some true
  i_NotNumber_BadNumber : PySem.W.kitOne K (.ref ad.a_NotNumber) (.ref ad.a_BadNumber) = some false
  m_NotNumber_BadNumber : PySem.W.exmOne K (.ref ad.a_NotNumber) (.ref ad.a_BadNumber) = some false
  g_BadNumber : mg "BadNumber" = some (.ref ad.a_BadNumber)
  k_BadNumber : PySem.W.keepIn K (.ref ad.a_BadNumber) = true
  x_BadNumber : PySem.W.excIn K ad.a_BadNumber vE "ValueError.__new__" = true
  s_BadNumber : PySem.W.subIn K (.ref ad.a_BadNumber) (.type "BaseException") = some true
  t_BadNumber : PySem.W.typeIn K (.ref ad.a_BadNumber) = some (.type "type")
  e_BadNumber : ExcC K ad.a_BadNumber
  i_BadNumber_GraftError : PySem.W.kitOne K (.ref ad.a_BadNumber) (.ref ad.a_GraftError) = some true
  m_BadNumber_GraftError : PySem.W.exmOne K (.ref ad.a_BadNumber) (.ref ad.a_GraftError) = some true
  i_BadNumber_NotNumber : PySem.W.kitOne K (.ref ad.a_BadNumber) (.ref ad.a_NotNumber) = some false
  m_BadNumber_NotNumber : PySem.W.exmOne K (.ref ad.a_BadNumber) (.ref ad.a_NotNumber) = some false
  i_BadNumber_BadNumber : PySem.W.kitOne K (.ref ad.a_BadNumber) (.ref ad.a_BadNumber) = some true
  m_BadNumber_BadNumber : PySem.W.exmOne K (.ref ad.a_BadNumber) (.ref ad.a_BadNumber) = some true
  g_FIELDS : mg "FIELDS" = some (.ref ad.a_FIELDS)
  v_FIELDS : ∀ H, SqT K H ad.a_FIELDS [V.int 0, V.int 2, V.int 3, V.int 5, V.int 7, V.int 11, V.int 13, V.int 17, V.int 19, V.int 23, V.int 29, V.int 31]
  m_abs : mg "abs" = none
  m_int : mg "int" = none
  m_isinstance : mg "isinstance" = none
  m_range : mg "range" = none
  m_repr : mg "repr" = none
  g_gcd : mg "gcd" = some (.builtin "math.gcd")
section
variable {P : Program} {w : World} {K : PySem.W.Frag} {mg : Str → Option Value} {base : Heap} {ad : Ad}

def sp_isField : Sp := fun vs H Q _ => ∃ p : Int, vs = [.int p] ∧ Q (.bl (fieldB p)) H
def sp_checkField (ad : Ad) : Sp := fun vs H Q E => ∃ p : Int, vs = [.int p] ∧ (fieldB p = true → Q .non H) ∧ (fieldB p = false → E (.ref ad.a_BadNumber) none H)
def sp_isNumber (K : PySem.W.Frag) (ad : Ad) : Sp := fun vs H Q E => ∃ (p : Int) (t : Addr) (a b : Int), vs = [.int p, .ref t] ∧ SqT K H t [.int a, .int b] ∧
  (fieldB p = false → E (.ref ad.a_BadNumber) none H) ∧ (fieldB p = true → Q (.bl (isNum p a b)) H)
def sp_checkNumber (K : PySem.W.Frag) (ad : Ad) : Sp := fun vs H Q E => ∃ (p : Int) (t : Addr) (a b : Int), vs = [.int p, .ref t] ∧ SqT K H t [.int a, .int b] ∧
  (fieldB p = false → E (.ref ad.a_BadNumber) none H) ∧ (fieldB p = true → isNum p a b = true → Q .non H) ∧ (fieldB p = true → isNum p a b = false → E (.ref ad.a_NotNumber) none H)
def sp_fraction (ad : Ad) : Sp := fun vs H Q E => ∃ a b : Int, vs = [.int a, .int b] ∧ b.natAbs < 1000000000 ∧ (b = 0 → E (.ref ad.a_BadNumber) none H) ∧
  (b ≠ 0 → ∀ t, H t = none → Q (.ref t) (upd H t (.tup [.int (frac a b).1, .int (frac a b).2])))
def sp_rest (ad : Ad) : Sp := fun vs H Q E => ∃ p a b : Int, vs = [.int p, .int a, .int b] ∧ fieldB p = true ∧ p ≠ 0 ∧ (b % p = 0 → E (.ref ad.a_BadNumber) none H) ∧
  (b % p ≠ 0 → ∀ t, H t = none → Q (.ref t) (upd H t (.tup [.int ((restN p a b : Nat) : Int), .int 1])))
def sp_number (ad : Ad) : Sp := fun vs H Q E => ∃ p a b : Int, vs = [.int p, .int a, .int b] ∧ (p = 0 → b.natAbs < 1000000000) ∧ (fieldB p = false → E (.ref ad.a_BadNumber) none H) ∧
  (fieldB p = true → numOk p b = false → E (.ref ad.a_BadNumber) none H) ∧
  (fieldB p = true → numOk p b = true → ∀ t, H t = none → Q (.ref t) (upd H t (.tup [.int (num p a b).1, .int (num p a b).2])))
def sp_lowest : Sp := fun vs H Q _ => ∃ a b : Int, vs = [.int a, .int b] ∧ b ≠ 0 ∧ b.natAbs < 1000000 ∧ ∀ t, H t = none → Q (.ref t) (upd H t (.tup [.int (frac a b).1, .int (frac a b).2]))
def sp_brought : Sp := fun vs H Q _ => ∃ p a b : Int, vs = [.int p, .int a, .int b] ∧ fieldB p = true ∧ numOk p b = true ∧ (p = 0 → b.natAbs < 1000000) ∧ ∀ t, H t = none → Q (.ref t) (upd H t (.tup [.int (num p a b).1, .int (num p a b).2]))
def sp_both (K : PySem.W.Frag) (ad : Ad) : Sp := fun vs H Q E => ∃ (p : Int) (tx ty : Addr) (x y : N2), vs = [.int p, .ref tx, .ref ty] ∧ SqT K H tx [.int x.1, .int x.2] ∧ SqT K H ty [.int y.1, .int y.2] ∧
  (fieldB p = false → E (.ref ad.a_BadNumber) none H) ∧ (fieldB p = true → isNum p x.1 x.2 = false → E (.ref ad.a_NotNumber) none H) ∧
  (fieldB p = true → nOk p x → isNum p y.1 y.2 = false → E (.ref ad.a_NotNumber) none H) ∧ (fieldB p = true → nOk p x → nOk p y → Q .non H)
def sp_bin (K : PySem.W.Frag) (ad : Ad) (raw : N2 → N2 → N2) : Sp := fun vs H Q E => ∃ (p : Int) (tx ty : Addr) (x y : N2), vs = [.int p, .ref tx, .ref ty] ∧ SqT K H tx [.int x.1, .int x.2] ∧ SqT K H ty [.int y.1, .int y.2] ∧
  Sm 1000000 x ∧ Sm 1000000 y ∧ (raw x y).2.natAbs < 1000000000 ∧
  (fieldB p = false → E (.ref ad.a_BadNumber) none H) ∧ (fieldB p = true → isNum p x.1 x.2 = false → E (.ref ad.a_NotNumber) none H) ∧
  (fieldB p = true → nOk p x → isNum p y.1 y.2 = false → E (.ref ad.a_NotNumber) none H) ∧
  (fieldB p = true → nOk p x → nOk p y → numOk p (raw x y).2 = false → E (.ref ad.a_BadNumber) none H) ∧
  (fieldB p = true → nOk p x → nOk p y → numOk p (raw x y).2 = true → ∀ t, H t = none → Q (.ref t) (upd H t (.tup [.int (num p (raw x y).1 (raw x y).2).1, .int (num p (raw x y).1 (raw x y).2).2])))
def sp_told (K : PySem.W.Frag) : Sp := fun vs H Q _ => ∃ (way p : Int) (tx ty : Addr) (x y : N2), vs = [.int way, .int p, .ref tx, .ref ty] ∧ SqT K H tx [.int x.1, .int x.2] ∧ SqT K H ty [.int y.1, .int y.2] ∧
  Sm 1000000 x ∧ Sm 1000000 y ∧ (rawW way x y).2.natAbs < 1000000000 ∧ 0 ≤ way ∧ way < 4 ∧ ∀ (v : V) (H' F : Hp), Same H H' → Same F H' → Off F H → Dp K F v (toldB way p x y) → Q v H'
def sp_lawField : Sp := fun vs H Q _ => ∃ (l : Addr) (ds : List Int), vs = [.ref l] ∧ H l = some (.lst (ds.map V.int)) ∧ ∀ (p : Int) (es : List Int) (H' : Hp), p ∈ ([0, 0, 0, 2, 3, 5, 7, 31] : List Int) → But l H H' → H' l = some (.lst (es.map V.int)) → Q (.int p) H'
def sp_lawNumber : Sp := fun vs H Q _ => ∃ (l : Addr) (ds : List Int) (p : Int), vs = [.ref l, .int p] ∧ H l = some (.lst (ds.map V.int)) ∧ fieldB p = true ∧
  ∀ (x : N2) (t : Addr) (es : List Int) (H' : Hp), nOk p x → x.1.natAbs ≤ 31 → x.2.natAbs ≤ 4 → But l H H' → H' l = some (.lst (es.map V.int)) → H' t = none → Q (.ref t) (upd H' t (.tup [.int x.1, .int x.2]))
theorem bin_ok {K : PySem.W.Frag} {ad : Ad} {raw : N2 → N2 → N2} {p : Int} {tx ty : Addr} {x y : N2} {H : Hp} {Q : VK} {E : XK} (fp : fieldB p = true) (hx : SqT K H tx [.int x.1, .int x.2]) (hy : SqT K H ty [.int y.1, .int y.2]) (nx : nOk p x) (ny : nOk p y)
    (sx : Sm 1000000 x) (sy : Sm 1000000 y) (hb : (raw x y).2.natAbs < 1000000000) (no : numOk p (raw x y).2 = true)
    (k : ∀ t, H t = none → Q (.ref t) (upd H t (.tup [.int (num p (raw x y).1 (raw x y).2).1, .int (num p (raw x y).1 (raw x y).2).2]))) : sp_bin K ad raw [.int p, .ref tx, .ref ty] H Q E := by
  unfold nOk at nx ny
  exact ⟨p, tx, ty, x, y, rfl, hx, hy, sx, sy, hb, fun f => absurd (fp.symm.trans f) (by decide), fun _ f => absurd (nx.symm.trans f) (by decide), fun _ _ f => absurd (ny.symm.trans f) (by decide), fun _ _ _ f => absurd (no.symm.trans f) (by decide), fun _ _ _ _ => k⟩
theorem three {K : PySem.W.Frag} {F : Hp} {xs : List V} {ds : List PyData} {p : Int} (h : DpAll K F xs ds) (hl : ds.length = 3) (hg : ∀ (i : Nat) (d : PyData), ds[i]? = some d → ∃ x : N2, d = dN x ∧ nOk p x ∧ x.1.natAbs ≤ 31 ∧ x.2.natAbs ≤ 4) :
    ∃ (t1 t2 t3 : Addr) (x y z : N2), xs = [.ref t1, .ref t2, .ref t3] ∧ (SqT K F t1 [.int x.1, .int x.2] ∧ nOk p x ∧ x.1.natAbs ≤ 31 ∧ x.2.natAbs ≤ 4) ∧ (SqT K F t2 [.int y.1, .int y.2] ∧ nOk p y ∧ y.1.natAbs ≤ 31 ∧ y.2.natAbs ≤ 4) ∧
      (SqT K F t3 [.int z.1, .int z.2] ∧ nOk p z ∧ z.1.natAbs ≤ 31 ∧ z.2.natAbs ≤ 4) := by
  obtain ⟨d1, d2, d3, rfl⟩ : ∃ d1 d2 d3, ds = [d1, d2, d3] := by
    match ds, hl with
    | [a, b, c], _ => exact ⟨a, b, c, rfl⟩
  obtain ⟨x, rfl, gx⟩ := hg 0 d1 rfl
  obtain ⟨y, rfl, gy⟩ := hg 1 d2 rfl
  obtain ⟨z, rfl, gz⟩ := hg 2 d3 rfl
  cases h with
  | cons h1 h =>
    cases h with
    | cons h2 h =>
      cases h with
      | cons h3 h =>
        cases h
        obtain ⟨t1, rfl, e1⟩ := dp_pair h1
        obtain ⟨t2, rfl, e2⟩ := dp_pair h2
        obtain ⟨t3, rfl, e3⟩ := dp_pair h3
        exact ⟨t1, t2, t3, x, y, z, rfl, ⟨e1, gx⟩, ⟨e2, gy⟩, ⟨e3, gz⟩⟩
theorem over_ok {p : Int} {x y : N2} (h : fieldB p = true) (nx : nOk p x) (ny : nOk p y) : numOk p (x.2 * y.1) = !decide (y.1 = 0) := by
  unfold numOk
  by_cases e : p = 0
  · subst e
    have := isNum_den h nx
    rw [if_pos rfl, vint_eq]
    by_cases z : y.1 = 0
    · rw [z, Int.mul_zero]
    · rw [decide_eq_false z, decide_eq_false (Int.mul_ne_zero (by omega) z)]
  · obtain ⟨x1, _, _⟩ := isNum_pos e nx
    obtain ⟨_, y2, y3⟩ := isNum_pos e ny
    rw [if_neg e, vint_eq, x1, Int.one_mul, Int.emod_eq_of_lt y2 y3]
/-- bounds -/
theorem mul_lt {a b : Int} {n m : Nat} (h1 : a.natAbs ≤ n) (h2 : b.natAbs ≤ m) : (a * b).natAbs ≤ n * m := by
  rw [Int.natAbs_mul]
  exact Nat.mul_le_mul h1 h2
theorem bd_plus {p : Int} {x y : N2} {n d m e : Nat} (h : fieldB p = true) (nx : nOk p x) (ny : nOk p y) (x1 : x.1.natAbs ≤ n) (x2 : x.2.natAbs ≤ d) (y1 : y.1.natAbs ≤ m) (y2 : y.2.natAbs ≤ e) :
    (nPlus p x y).1.natAbs ≤ n * e + m * d + 32 ∧ (nPlus p x y).2.natAbs ≤ d * e + 1 := by
  have := num_le (a := x.1 * y.2 + y.1 * x.2) h (den2 h nx ny)
  have a1 := mul_lt x1 y2
  have a2 := mul_lt y1 x2
  have a3 := mul_lt x2 y2
  unfold nPlus
  omega
theorem bd_times {p : Int} {x y : N2} {n d m e : Nat} (h : fieldB p = true) (nx : nOk p x) (ny : nOk p y) (x1 : x.1.natAbs ≤ n) (x2 : x.2.natAbs ≤ d) (y1 : y.1.natAbs ≤ m) (y2 : y.2.natAbs ≤ e) :
    (nTimes p x y).1.natAbs ≤ n * m + 32 ∧ (nTimes p x y).2.natAbs ≤ d * e + 1 := by
  have := num_le (a := x.1 * y.1) h (den2 h nx ny)
  have a1 := mul_lt x1 y1
  have a3 := mul_lt x2 y2
  unfold nTimes
  omega
theorem raw_small {w : Int} {x y : N2} (x1 : x.1.natAbs ≤ 31) (x2 : x.2.natAbs ≤ 31) (y1 : y.1.natAbs ≤ 31) (y2 : y.2.natAbs ≤ 31) : (rawW w x y).2.natAbs < 1000000000 := by
  have a := mul_lt x2 y2
  have b := mul_lt x2 y1
  unfold rawW
  split
  · show (x.2 * y.2).natAbs < _; omega
  · split
    · show (x.2 * y.2).natAbs < _; omega
    · split
      · show (x.2 * y.2).natAbs < _; omega
      · show (x.2 * y.1).natAbs < _; omega
theorem not_num {a b : Int} (h : b ≠ 1) (h2 : b < 1 ∨ gcdI a b ≠ 1) (p : Int) : isNum p a b = false := by
  unfold isNum
  rw [vint_eq, vint_eq]
  split
  · rcases h2 with q | q
    · rw [decide_eq_false (show ¬ 1 ≤ b by omega)]; rfl
    · rw [decide_eq_false q, Bool.and_false]
  · rw [decide_eq_false h]; rfl
theorem ok__law_plain (T : Txt K mg ad) : FnOk P w K mg base CX0 1 ad.a__law_plain ad.d__law_plain ["cell"] sp_plain := by
  have nd := sc__law_plain.nd
  refine T.F__law_plain.ok sc__law_plain (fun vs H Q E h => ?_) (fun cdv A outer s H vs Q E hr h => ?_)
  · first | (obtain ⟨_, rfl, _⟩ := h; rfl) | (obtain ⟨_, _, rfl, _⟩ := h; rfl) | (obtain ⟨_, _, _, rfl, _⟩ := h; rfl) | (obtain ⟨_, _, _, _, rfl, _⟩ := h; rfl) | (obtain ⟨_, _, _, _, _, rfl, _⟩ := h; rfl) | (obtain ⟨_, _, _, _, _, _, rfl, _⟩ := h; rfl) | (obtain ⟨_, _, _, _, _, _, _, rfl, _⟩ := h; rfl) | (obtain ⟨_, _, _, _, _, _, _, _, rfl, _⟩ := h; rfl)
  refine ⟨_, (pss_cons (ps_if (pt_cmpR op_lt (pv 0) pe_int (nomark _)) (pss_one (ps_ret (pe_op op_sub pe_int (pv 0)))) pss_nil)
      (pss_one (ps_ret (pv 0)))), ?_⟩

  obtain ⟨i, rfl, k⟩ := h
  refine ⟨_, rfl, _, _, rfl, rfl, _, rfl, ?_⟩
  refine iteB (fun c => ?_) (fun c => ?_)
  · refine ⟨_, rfl, _, _, rfl, rfl, ?_⟩
    have e : plain i = 0 - i := if_pos (of_decide_eq_true c)
    rw [e] at k
    exact k
  · refine ⟨_, rfl, ?_⟩
    have e : plain i = i := if_neg (of_decide_eq_false c)
    rw [e] at k
    exact k
theorem ok__law_draws (T : Txt K mg ad) : FnOk P w K mg base CX0 2 ad.a__law_draws ad.d__law_draws ["script"] (sp_draws K) := by
  have nd := sc__law_draws.nd
  have G__law_plain := ok__law_plain (P := P) (w := w) (base := base) T
  have b__law_plain := T.b__law_plain
  refine T.F__law_draws.ok sc__law_draws (fun vs H Q E h => ?_) (fun cdv A outer s H vs Q E hr h => ?_)
  · first | (obtain ⟨_, rfl, _⟩ := h; rfl) | (obtain ⟨_, _, rfl, _⟩ := h; rfl) | (obtain ⟨_, _, _, rfl, _⟩ := h; rfl) | (obtain ⟨_, _, _, _, rfl, _⟩ := h; rfl) | (obtain ⟨_, _, _, _, _, rfl, _⟩ := h; rfl) | (obtain ⟨_, _, _, _, _, _, rfl, _⟩ := h; rfl) | (obtain ⟨_, _, _, _, _, _, _, rfl, _⟩ := h; rfl) | (obtain ⟨_, _, _, _, _, _, _, _, rfl, _⟩ := h; rfl)
  refine ⟨_, (pss_cons (ps_set (i := 1) nd rfl (Or.inl rfl) (pe_lst pa_nil))
      (pss_cons (ps_for PassesOwn.never rfl (pi_list (pv 0)) (pg_name (i := 2) nd rfl (Or.inl rfl))
      (pss_cons (ps_set (i := 3) nd rfl (Or.inl rfl) (pe_call G__law_plain (hr.mono (by decide)) rfl T.g__law_plain T.k__law_plain b__law_plain .nil pass0 (pa_cons (pv 2) pa_nil)))
      (pss_one (ps_if (pt_cmpR op_ge (pv 3) pe_int (nomark _)) (pss_one (ps_for PassesOwn.never rfl (pi_range1 (by rfl) T.m_range (pa_cons pe_int pa_nil)) (pg_name (i := 4) nd rfl (Or.inl rfl))
      (pss_cons (ps_if (pt_cmpR op_eq (pv 3) pe_int (nomark _)) (pss_one ps_break) pss_nil)
      (pss_cons (ps_expr (pe_bm PySem.F.plainAttrs_list PySem.F.slot_list_append PySem.F.type_list_append mt_append (pv 1) (pa_cons (pe_op op_mod (pe_callTy call_int1 (by rfl) T.m_int (by decide +kernel) (pa_cons (pv 3) pa_nil)) pe_int) pa_nil)))
      (pss_one (ps_set (i := 3) nd rfl (Or.inl rfl) (pe_op op_fdiv (pv 3) pe_int))))))) (pss_cons (ps_set (i := 5) nd rfl (Or.inl rfl) (pe_op op_mod (pe_callTy call_int1 (by rfl) T.m_int (by decide +kernel) (pa_cons (pe_op op_add (pe_op op_mul (pv 3) pe_int) pe_int) pa_nil)) pe_int))
      (pss_cons (ps_set (i := 6) nd rfl (Or.inl rfl) (pe_op op_mod (pe_callTy call_int1 (by rfl) T.m_int (by decide +kernel) (pa_cons (pe_op op_add (pe_op op_mul (pv 5) pe_int) (pv 3)) pa_nil)) pe_int))
      (pss_one (ps_expr (pe_bm PySem.F.plainAttrs_list PySem.F.slot_list_extend PySem.F.type_list_extend mt_extend (pv 1) (pa_cons (pe_lst (pa_cons (pe_op op_mod (pe_callTy call_int1 (by rfl) T.m_int (by decide +kernel) (pa_cons (pv 3) pa_nil)) pe_int) (pa_cons (pe_op op_mod (pe_callTy call_int1 (by rfl) T.m_int (by decide +kernel) (pa_cons (pv 5) pa_nil)) pe_int) (pa_cons (pe_op op_mod (pe_callTy call_int1 (by rfl) T.m_int (by decide +kernel) (pa_cons (pv 6) pa_nil)) pe_int) pa_nil)))) pa_nil))))))))))
      (pss_one (ps_ret (pv 1))))), ?_⟩

  obtain ⟨a, ns, rfl, hS, hn, k⟩ := h
  refine ⟨Nat.zero_le _, fun l nl => ?_⟩
  refine ⟨_, rfl, a, rfl, ⟨_, (same_new nl).seq hS⟩, for_list (K := K) (a := a) (xs := ns.map V.int) (fun i σ H' => ∃ (v2 v3 v4 v5 v6 : Option V) (ds : List Int), σ = [some (.ref a), some (.ref l), v2, v3, v4, v5, v6] ∧ Same H H' ∧ H' l = some (.lst (ds.map V.int)) ∧ ds.length ≤ 60 * i)
    ⟨_, _, _, _, _, [], rfl, same_new nl, upd_same, Nat.zero_le _⟩ (fun i σ H' _ ⟨_, _, _, _, _, _, _, sm, _⟩ => sm.seq hS) ?_ ?_⟩
  · rintro i y σ H2 hi ⟨v2, v3, v4, v5, v6, ds, rfl, sm, hl, hd⟩
    obtain ⟨z, hz, rfl⟩ := get_int hi
    have hi2 : i < 63 := by
      have := (List.getElem?_eq_some_iff.mp hz).1
      omega
    refine ⟨_, rfl, z, rfl, ?_⟩
    refine ⟨_, rfl, _, _, rfl, rfl, _, rfl, ?_⟩
    refine iteB (fun c => ?_) (fun c => ?_)
    · refine ⟨60, rfl, by decide, by decide, for_range (lo := 0) (n := 60) (fun j σ H3 => ∃ (w4 w5 w6 : Option V) (r : Int) (es : List Int), σ = [some (.ref a), some (.ref l), some (.int z), some (.int r), w4, w5, w6] ∧ Same H H3 ∧ H3 l = some (.lst (es.map V.int)) ∧ es.length ≤ 60 * i + j)
        ⟨_, _, _, _, ds, rfl, sm, hl, hd⟩ ?_ ?_⟩
      · rintro j σ H3 hj ⟨w4, w5, w6, r, es, rfl, sm3, hl3, hd3⟩
        refine ⟨_, rfl, rfl, _, rfl, ?_⟩
        refine iteB (fun c2 => ?_) (fun c2 => ?_)
        · exact ⟨_, _, _, _, _, es, rfl, sm3, hl3, by omega⟩
        · refine ⟨_, rfl, .inl ⟨rfl, _, sqL_of hl3⟩, _, rfl, .inl ⟨_, rfl, _, _, rfl, rfl, by show (0 : Int) < 1000; decide, l, _, _, rfl, rfl, hl3, lt_line (by rw [List.length_map]; omega), ?_⟩⟩
          refine ⟨_, rfl, _, _, rfl, rfl, ⟨by decide, by decide⟩, ?_⟩
          refine ⟨_, _, _, _, es ++ [r % 1000], rfl, fun b o e => ?_, ?_, by rw [List.length_append]; show es.length + 1 ≤ _; omega⟩
          · rw [upd_ne (ne_of_none e nl)]
            exact sm3 b o e
          · rw [upd_same, List.map_append]
            rfl
      · rintro σ H3 ⟨w4, w5, w6, r, es, rfl, sm3, hl3, hd3⟩
        exact ⟨_, _, _, _, _, es, rfl, sm3, hl3, by omega⟩
    · refine ⟨_, rfl, _, _, rfl, rfl, .inr ⟨by decide, by decide⟩, _, _, rfl, rfl, .inl ⟨_, rfl, _, _, rfl, rfl, by show (0 : Int) < 2147483647; decide, ?_⟩⟩
      refine ⟨_, rfl, _, _, rfl, rfl, .inr ⟨by decide, by decide⟩, _, rfl, _, _, rfl, rfl, .inl ⟨_, rfl, _, _, rfl, rfl, by show (0 : Int) < 2147483629; decide, ?_⟩⟩
      refine ⟨_, rfl, .inl ⟨rfl, _, sqL_of hl⟩, _, rfl, .inl ⟨_, rfl, _, _, rfl, rfl, by show (0 : Int) < 1000; decide, _, rfl, .inl ⟨_, rfl, _, _, rfl, rfl, by show (0 : Int) < 1000; decide, _, rfl, .inl ⟨_, rfl, _, _, rfl, rfl, by show (0 : Int) < 1000; decide, ?_⟩⟩⟩⟩
      refine ⟨by show 3 ≤ sizeLine; decide, fun q nq => ?_⟩
      have nql : l ≠ q := ne_of_none hl nq
      refine ⟨l, q, _, _, rfl, rfl, by rw [upd_ne nql]; exact hl, upd_same, ?_, ?_⟩
      · refine le_line ?_
        rw [List.length_map]
        show ds.length + 3 ≤ _
        omega
      · refine ⟨_, _, _, _, _, ds ++ [plain z % 1000, (plain z * 48271 + 11) % 2147483647 % 1000, ((plain z * 48271 + 11) % 2147483647 * 69621 + plain z) % 2147483629 % 1000], rfl, fun b o e => ?_, ?_, by rw [List.length_append]; show ds.length + 3 ≤ _; omega⟩
        · rw [upd_ne (ne_of_none e nl), upd_ne (ne_of_none (sm b o e) nq)]
          exact sm b o e
        · rw [upd_same, List.map_append]
          rfl
  · rintro σ H2 ⟨v2, v3, v4, v5, v6, ds, rfl, sm, hl, hd⟩
    exact ⟨_, rfl, k H2 l ds sm nl hl⟩
theorem ok__law_next (T : Txt K mg ad) : FnOk P w K mg base CX0 1 ad.a__law_next ad.d__law_next ["draws"] sp_next := by
  have nd := sc__law_next.nd
  refine T.F__law_next.ok sc__law_next (fun vs H Q E h => ?_) (fun cdv A outer s H vs Q E hr h => ?_)
  · first | (obtain ⟨_, rfl, _⟩ := h; rfl) | (obtain ⟨_, _, rfl, _⟩ := h; rfl) | (obtain ⟨_, _, _, rfl, _⟩ := h; rfl) | (obtain ⟨_, _, _, _, rfl, _⟩ := h; rfl) | (obtain ⟨_, _, _, _, _, rfl, _⟩ := h; rfl) | (obtain ⟨_, _, _, _, _, _, rfl, _⟩ := h; rfl) | (obtain ⟨_, _, _, _, _, _, _, rfl, _⟩ := h; rfl) | (obtain ⟨_, _, _, _, _, _, _, _, rfl, _⟩ := h; rfl)
  refine ⟨_, (pss_cons (ps_if (pt_truth (pv 0) (by intro _; rfl)) (pss_one (ps_ret (pe_bm0 PySem.F.plainAttrs_list PySem.F.slot_list_pop PySem.F.type_list_pop mt_pop (pv 0)))) pss_nil)
      (pss_one (ps_ret pe_int))), ?_⟩

  obtain ⟨l, ds, rfl, hl, k⟩ := h
  refine ⟨_, rfl, _, .inl ⟨_, sqL_of hl, rfl⟩, ?_⟩
  refine iteB (fun c => ?_) (fun c => ?_)
  · have hne : ds ≠ [] := by
      rintro rfl
      cases c
    have hlt : ds.length - 1 < ds.length := by
      have := List.length_pos_iff.mpr hne
      omega
    refine ⟨_, rfl, .inl ⟨rfl, _, sqL_of hl⟩, l, _, .int ds[ds.length - 1], rfl, rfl, hl, ?_, ?_⟩
    · rw [List.length_map, List.getElem?_map, List.getElem?_eq_getElem hlt]
      rfl
    · have := k ds[ds.length - 1] ds.dropLast
      rw [List.map_dropLast] at this
      exact this
  · have := k 0 ds
    rw [upd_id hl] at this
    exact this
theorem ok_is_field (T : Txt K mg ad) : FnOk P w K mg base CX0 1 ad.a_is_field ad.d_is_field ["p"] sp_isField := by
  have nd := sc_is_field.nd
  refine T.F_is_field.ok sc_is_field (fun vs H Q E h => ?_) (fun cdv A outer s H vs Q E hr h => ?_)
  · first | (obtain ⟨_, rfl, _⟩ := h; rfl) | (obtain ⟨_, _, rfl, _⟩ := h; rfl) | (obtain ⟨_, _, _, rfl, _⟩ := h; rfl) | (obtain ⟨_, _, _, _, rfl, _⟩ := h; rfl) | (obtain ⟨_, _, _, _, _, rfl, _⟩ := h; rfl) | (obtain ⟨_, _, _, _, _, _, rfl, _⟩ := h; rfl) | (obtain ⟨_, _, _, _, _, _, _, rfl, _⟩ := h; rfl) | (obtain ⟨_, _, _, _, _, _, _, _, rfl, _⟩ := h; rfl)
  refine ⟨_, (pss_one (ps_ret (pe_cmpR op_in_seq (pv 0) (pe_glob (v := .ref ad.a_FIELDS) rfl T.g_FIELDS rfl) (by rfl)))), ?_⟩

  obtain ⟨p, rfl, k⟩ := h
  exact ⟨_, rfl, _, _, rfl, .inr (T.v_FIELDS H), rfl, rfl, k⟩
theorem ok_check_field (T : Txt K mg ad) : FnOk P w K mg base (L2.CX P w) 2 ad.a_check_field ad.d_check_field ["p"] (sp_checkField ad) := by
  have nd := sc_check_field.nd
  have G_is_field := ok_is_field (P := P) (w := w) (base := base) T
  have b_is_field := T.b_is_field
  refine T.F_check_field.okX sc_check_field (fun vs H Q E h => ?_) (fun cdv A outer s H vs Q E hr h => ?_)
  · first | (obtain ⟨_, rfl, _⟩ := h; rfl) | (obtain ⟨_, _, rfl, _⟩ := h; rfl) | (obtain ⟨_, _, _, rfl, _⟩ := h; rfl) | (obtain ⟨_, _, _, _, rfl, _⟩ := h; rfl) | (obtain ⟨_, _, _, _, _, rfl, _⟩ := h; rfl) | (obtain ⟨_, _, _, _, _, _, rfl, _⟩ := h; rfl) | (obtain ⟨_, _, _, _, _, _, _, rfl, _⟩ := h; rfl) | (obtain ⟨_, _, _, _, _, _, _, _, rfl, _⟩ := h; rfl)
  refine ⟨_, (pss_one (ps_if (pt_not (pt_val (pe_call G_is_field (hr.mono (by decide)) rfl T.g_is_field T.k_is_field b_is_field .nil pass0 (pa_cons (pv 0) pa_nil)))) (pss_one (ps_raise rfl (takes_of rfl rfl rfl rfl) (pmk_own PySem.F.excBase_ValueError T.x_BadNumber T.g_BadNumber T.k_BadNumber (raises_own T.s_BadNumber T.t_BadNumber) (by exact rfl)))) pss_nil)), ?_⟩

  obtain ⟨p, rfl, k1, k2⟩ := h
  refine ⟨_, rfl, p, rfl, _, rfl, ?_⟩
  refine iteB (fun c => ?_) (fun c => ?_)
  · exact k2 (by simpa using c)
  · exact k1 (by simpa using c)
theorem ok_is_number (T : Txt K mg ad) : FnOk P w K mg base (L2.CX P w) 3 ad.a_is_number ad.d_is_number ["p", "x"] (sp_isNumber K ad) := by
  have nd := sc_is_number.nd
  have G_check_field := ok_check_field (P := P) (w := w) (base := base) T
  have b_check_field := T.b_check_field
  refine T.F_is_number.okX sc_is_number (fun vs H Q E h => ?_) (fun cdv A outer s H vs Q E hr h => ?_)
  · first | (obtain ⟨_, rfl, _⟩ := h; rfl) | (obtain ⟨_, _, rfl, _⟩ := h; rfl) | (obtain ⟨_, _, _, rfl, _⟩ := h; rfl) | (obtain ⟨_, _, _, _, rfl, _⟩ := h; rfl) | (obtain ⟨_, _, _, _, _, rfl, _⟩ := h; rfl) | (obtain ⟨_, _, _, _, _, _, rfl, _⟩ := h; rfl) | (obtain ⟨_, _, _, _, _, _, _, rfl, _⟩ := h; rfl) | (obtain ⟨_, _, _, _, _, _, _, _, rfl, _⟩ := h; rfl)
  refine ⟨_, (pss_cons (ps_expr (pe_callS G_check_field (hr.mono (by decide)) rfl T.g_check_field T.k_check_field b_check_field (fun σ => passAt (takes_of rfl rfl rfl rfl) σ) (by exact (pa_cons (pv 0) pa_nil))))
      (pss_cons (ps_asg (pv 1) (pg_tup rfl (pgs_cons (pg_name (i := 2) nd rfl (Or.inl rfl)) (pgs_cons (pg_name (i := 3) nd rfl (Or.inl rfl)) pgs_nil))))
      (pss_cons (ps_if (pt_cmpR op_eq (pv 0) pe_int (nomark _)) (pss_one (ps_ret (pe_and (pe_cmpR op_ge (pv 3) pe_int (nomark _)) (pe_one (pe_cmpR op_eq (pe_callBfun cr_gcd rfl T.g_gcd (pa_cons (pv 2) (pa_cons (pv 3) pa_nil))) pe_int (nomark _)))))) pss_nil)
      (pss_one (ps_ret (pe_and (pe_cmpR op_eq (pv 3) pe_int (nomark _)) (pe_one (pe_chain op_le op_lt pe_int (pv 2) (pv 0))))))))), ?_⟩

  obtain ⟨p, t, a, b, rfl, hT, k1, k2⟩ := h
  refine ⟨_, rfl, p, rfl, fun c => ?_, fun c => k1 c⟩
  have k2 := k2 c
  refine ⟨_, rfl, t, _, rfl, hT, rfl, _, _, rfl, _, _, rfl, rfl, ?_⟩
  refine ⟨_, rfl, rfl, _, rfl, ?_⟩
  refine iteB (fun c1 => ?_) (fun c1 => ?_)
  · have e0 : p = 0 := V.int.inj (of_decide_eq_true c1)
    refine ⟨_, rfl, _, _, rfl, rfl, _, rfl, ?_⟩
    unfold isNum at k2
    rw [if_pos e0] at k2
    refine iteB (fun c2 => ?_) (fun c2 => ?_)
    · refine ⟨_, rfl, _, rfl, _, _, rfl, rfl, ?_⟩
      rw [c2, Bool.true_and] at k2
      exact k2
    · rw [c2, Bool.false_and] at k2
      exact k2
  · have e0 : p ≠ 0 := fun q => of_decide_eq_false c1 (by rw [q])
    refine ⟨_, rfl, rfl, _, rfl, ?_⟩
    unfold isNum at k2
    rw [if_neg e0] at k2
    refine iteB (fun c2 => ?_) (fun c2 => ?_)
    · refine ⟨_, rfl, _, _, rfl, rfl, _, rfl, ?_⟩
      rw [c2, Bool.true_and] at k2
      refine iteB (fun c3 => ?_) (fun c3 => ?_)
      · refine ⟨_, rfl, _, _, rfl, rfl, ?_⟩
        rw [c3, Bool.true_and] at k2
        exact k2
      · rw [c3, Bool.false_and] at k2
        exact k2
    · rw [c2, Bool.false_and] at k2
      exact k2
theorem ok_check_number (T : Txt K mg ad) : FnOk P w K mg base (L2.CX P w) 4 ad.a_check_number ad.d_check_number ["p", "x"] (sp_checkNumber K ad) := by
  have nd := sc_check_number.nd
  have G_is_number := ok_is_number (P := P) (w := w) (base := base) T
  have b_is_number := T.b_is_number
  refine T.F_check_number.okX sc_check_number (fun vs H Q E h => ?_) (fun cdv A outer s H vs Q E hr h => ?_)
  · first | (obtain ⟨_, rfl, _⟩ := h; rfl) | (obtain ⟨_, _, rfl, _⟩ := h; rfl) | (obtain ⟨_, _, _, rfl, _⟩ := h; rfl) | (obtain ⟨_, _, _, _, rfl, _⟩ := h; rfl) | (obtain ⟨_, _, _, _, _, rfl, _⟩ := h; rfl) | (obtain ⟨_, _, _, _, _, _, rfl, _⟩ := h; rfl) | (obtain ⟨_, _, _, _, _, _, _, rfl, _⟩ := h; rfl) | (obtain ⟨_, _, _, _, _, _, _, _, rfl, _⟩ := h; rfl)
  refine ⟨_, (pss_one (ps_if (pt_not (pt_val (pe_callS G_is_number (hr.mono (by decide)) rfl T.g_is_number T.k_is_number b_is_number (fun σ => passAt (takes_of rfl rfl rfl rfl) σ) (by exact (pa_cons (pv 0) (pa_cons (pv 1) pa_nil)))))) (pss_one (ps_raise rfl (takes_of rfl rfl rfl rfl) (pmk_own PySem.F.excBase_ValueError T.x_NotNumber T.g_NotNumber T.k_NotNumber (raises_own T.s_NotNumber T.t_NotNumber) (by exact rfl)))) pss_nil)), ?_⟩

  obtain ⟨p, t, a, b, rfl, hT, k1, k2, k3⟩ := h
  refine ⟨_, rfl, _, rfl, p, t, a, b, rfl, hT, fun c => k1 c, fun c => ?_⟩
  refine ⟨_, rfl, ?_⟩
  refine iteB (fun c1 => ?_) (fun c1 => ?_)
  · exact k3 c (by simpa using c1)
  · exact k2 c (by simpa using c1)
theorem ok__fraction (T : Txt K mg ad) : FnOk P w K mg base (L2.CX P w) 1 ad.a__fraction ad.d__fraction ["a", "b"] (sp_fraction ad) := by
  have nd := sc__fraction.nd
  refine T.F__fraction.okX sc__fraction (fun vs H Q E h => ?_) (fun cdv A outer s H vs Q E hr h => ?_)
  · first | (obtain ⟨_, rfl, _⟩ := h; rfl) | (obtain ⟨_, _, rfl, _⟩ := h; rfl) | (obtain ⟨_, _, _, rfl, _⟩ := h; rfl) | (obtain ⟨_, _, _, _, rfl, _⟩ := h; rfl) | (obtain ⟨_, _, _, _, _, rfl, _⟩ := h; rfl) | (obtain ⟨_, _, _, _, _, _, rfl, _⟩ := h; rfl) | (obtain ⟨_, _, _, _, _, _, _, rfl, _⟩ := h; rfl) | (obtain ⟨_, _, _, _, _, _, _, _, rfl, _⟩ := h; rfl)
  refine ⟨_, (pss_cons (ps_if (pt_cmpR op_eq (pv 1) pe_int (nomark _)) (pss_one (ps_raise rfl (takes_of rfl rfl rfl rfl) (pmk_own PySem.F.excBase_ValueError T.x_BadNumber T.g_BadNumber T.k_BadNumber (raises_own T.s_BadNumber T.t_BadNumber) (by exact rfl)))) pss_nil)
      (pss_cons (ps_set (i := 2) nd rfl (Or.inl rfl) (pe_callBfun cr_gcd rfl T.g_gcd (pa_cons (pv 0) (pa_cons (pv 1) pa_nil))))
      (pss_cons (ps_if (pt_cmpR op_lt (pv 1) pe_int (nomark _)) (pss_one (ps_set (i := 2) nd rfl (Or.inl rfl) (pe_un un_neg (pv 2)))) pss_nil)
      (pss_one (ps_ret (pe_tup (pa_cons (pe_op op_fdivN (pv 0) (pv 2)) (pa_cons (pe_op op_fdivN (pv 1) (pv 2)) pa_nil)))))))), ?_⟩

  obtain ⟨a, b, rfl, hb, k1, k2⟩ := h
  refine ⟨_, rfl, rfl, _, rfl, ?_⟩
  refine iteB (fun c => ?_) (fun c => ?_)
  · exact k1 (V.int.inj (of_decide_eq_true c))
  · have b0 : b ≠ 0 := fun q => of_decide_eq_false c (by rw [q])
    have k2 := k2 b0
    obtain ⟨f1, f2⟩ := fracC_ok (a := a) b0 hb
    refine ⟨_, rfl, _, rfl, _, _, rfl, ?_⟩
    refine ⟨_, rfl, _, _, rfl, rfl, _, rfl, ?_⟩
    unfold frac at k2
    unfold fracC at f1 f2 k2
    refine iteB (fun c1 => ?_) (fun c1 => ?_)
    · have c1 : b < 0 := of_decide_eq_true c1
      rw [if_pos c1] at f1 f2 k2
      refine ⟨_, rfl, _, rfl, ?_⟩
      refine ⟨_, rfl, _, rfl, _, _, rfl, rfl, ⟨f1, f2⟩, _, rfl, _, rfl, _, _, rfl, rfl, ⟨f1, f2⟩, by show 2 ≤ sizeLine; decide, fun t nt => ?_⟩
      exact k2 t nt
    · have c1 : ¬ b < 0 := of_decide_eq_false c1
      rw [if_neg c1] at f1 f2 k2
      refine ⟨_, rfl, _, rfl, _, _, rfl, rfl, ⟨f1, f2⟩, _, rfl, _, rfl, _, _, rfl, rfl, ⟨f1, f2⟩, by show 2 ≤ sizeLine; decide, fun t nt => ?_⟩
      exact k2 t nt
theorem ok__rest (T : Txt K mg ad) : FnOk P w K mg base (L2.CX P w) 1 ad.a__rest ad.d__rest ["p", "a", "b"] (sp_rest ad) := by
  have nd := sc__rest.nd
  refine T.F__rest.okX sc__rest (fun vs H Q E h => ?_) (fun cdv A outer s H vs Q E hr h => ?_)
  · first | (obtain ⟨_, rfl, _⟩ := h; rfl) | (obtain ⟨_, _, rfl, _⟩ := h; rfl) | (obtain ⟨_, _, _, rfl, _⟩ := h; rfl) | (obtain ⟨_, _, _, _, rfl, _⟩ := h; rfl) | (obtain ⟨_, _, _, _, _, rfl, _⟩ := h; rfl) | (obtain ⟨_, _, _, _, _, _, rfl, _⟩ := h; rfl) | (obtain ⟨_, _, _, _, _, _, _, rfl, _⟩ := h; rfl) | (obtain ⟨_, _, _, _, _, _, _, _, rfl, _⟩ := h; rfl)
  refine ⟨_, (pss_cons (ps_if (pt_cmpR op_eq (pe_op op_mod (pv 2) (pv 0)) pe_int (nomark _)) (pss_one (ps_raise rfl (takes_of rfl rfl rfl rfl) (pmk_own PySem.F.excBase_ValueError T.x_BadNumber T.g_BadNumber T.k_BadNumber (raises_own T.s_BadNumber T.t_BadNumber) (by exact rfl)))) pss_nil)
      (pss_cons (ps_set (i := 3) nd rfl (Or.inl rfl) (pe_op op_mod (pv 1) (pv 0)))
      (pss_cons (ps_set (i := 4) nd rfl (Or.inl rfl) (pe_op op_mod (pv 2) (pv 0)))
      (pss_cons (ps_if (pt_cmpR op_eq (pv 4) pe_int (nomark _)) (pss_one (ps_ret (pe_tup (pa_cons (pv 3) (pa_cons pe_int pa_nil))))) pss_nil)
      (pss_cons (ps_set (i := 5) nd rfl (Or.inl rfl) pe_int)
      (pss_cons (ps_while (passes_of rfl) (pt_cmpR op_ne (pe_op op_mod (pe_op op_mul (pv 5) (pv 4)) (pv 0)) (pv 3) (nomark _)) (pss_one (ps_aug (i := 5) nd rfl (Or.inl rfl) pe_int ip_add)))
      (pss_one (ps_ret (pe_tup (pa_cons (pv 5) (pa_cons pe_int pa_nil))))))))))), ?_⟩

  obtain ⟨p, a, b, rfl, hp, h0, k1, k2⟩ := h
  have hl := field_lt hp
  have pp : 0 < p := by omega
  refine ⟨_, rfl, _, rfl, _, _, rfl, rfl, pp, rfl, _, rfl, ?_⟩
  refine iteB (fun c => ?_) (fun c => ?_)
  · exact k1 (V.int.inj (of_decide_eq_true c))
  · have b0 : b % p ≠ 0 := fun q => of_decide_eq_false c (by show V.int (b % p) = V.int 0; rw [q])
    have k2 := k2 b0
    obtain ⟨s1, s2, s3, s4⟩ := restN_spec (a := a) hp h0 b0
    refine ⟨_, rfl, _, rfl, _, _, rfl, rfl, pp, ?_⟩
    refine ⟨_, rfl, _, rfl, _, _, rfl, rfl, pp, ?_⟩
    refine ⟨_, rfl, rfl, _, rfl, ?_⟩
    refine iteB (fun c0 => ?_) (fun c0 => ?_)
    · have b1 : b % p = 1 := V.int.inj (of_decide_eq_true c0)
      refine ⟨_, rfl, by show 2 ≤ sizeLine; decide, fun t nt => ?_⟩
      have er := rest_one1 (a := a) hp h0 b1
      rw [er] at k2
      exact k2 t nt
    refine ⟨fun m σ H' => ∃ r : Nat, r ≤ restN p a b ∧ m = restN p a b - r ∧ H' = H ∧ σ = [some (.int p), some (.int a), some (.int b), some (.int (a % p)), some (.int (b % p)), some (.int (r : Int))], ⟨_, 0, Nat.zero_le _, rfl, rfl, rfl⟩, ?_⟩
    rintro m σ H' ⟨r, r1, rfl, rfl, rfl⟩
    refine ⟨_, rfl, _, rfl, _, _, rfl, rfl, .inl ⟨by omega, by omega⟩, _, rfl, _, _, rfl, rfl, pp, _, rfl, rfl, _, rfl, ?_⟩
    have esat : (!decide (V.int ((r : Int) * (b % p) % p) = V.int (a % p))) = !sat p a b r := by rw [vint_eq]; rfl
    refine iteB (fun c1 => ?_) (fun c1 => ?_)
    · have c2 : (!sat p a b r) = true := esat.symm.trans c1
      have r2 : r < restN p a b := by
        rcases Nat.lt_or_ge r (restN p a b) with q | q
        · exact q
        · have : r = restN p a b := by omega
          rw [this, s1] at c2
          cases c2
      refine ⟨fun σ' H'' => ∃ m', m' < restN p a b - r ∧ ∃ r' : Nat, r' ≤ restN p a b ∧ m' = restN p a b - r' ∧ H'' = H' ∧ σ' = [some (.int p), some (.int a), some (.int b), some (.int (a % p)), some (.int (b % p)), some (.int (r' : Int))], fun σ' H'' z => z, ?_⟩
      refine ⟨_, rfl, _, _, rfl, rfl, ?_⟩
      exact ⟨restN p a b - (r + 1), by omega, r + 1, r2, rfl, rfl, rfl⟩
    · have c2 : (!sat p a b r) = false := esat.symm.trans c1
      have r2 : r = restN p a b := by
        rcases Nat.lt_or_ge r (restN p a b) with q | q
        · rw [s4 r q] at c2
          cases c2
        · omega
      subst r2
      refine ⟨_, rfl, by show 2 ≤ sizeLine; decide, fun t nt => ?_⟩
      exact k2 t nt
theorem ok_number (T : Txt K mg ad) : FnOk P w K mg base (L2.CX P w) 3 ad.a_number ad.d_number ["p", "a", "b"] (sp_number ad) := by
  have nd := sc_number.nd
  have G_check_field := ok_check_field (P := P) (w := w) (base := base) T
  have b_check_field := T.b_check_field
  have G__rest := ok__rest (P := P) (w := w) (base := base) T
  have b__rest := T.b__rest
  have G__fraction := ok__fraction (P := P) (w := w) (base := base) T
  have b__fraction := T.b__fraction
  refine T.F_number.ok sc_number (fun vs H Q E h => ?_) (fun cdv A outer s H vs Q E hr h => ?_)
  · first | (obtain ⟨_, rfl, _⟩ := h; rfl) | (obtain ⟨_, _, rfl, _⟩ := h; rfl) | (obtain ⟨_, _, _, rfl, _⟩ := h; rfl) | (obtain ⟨_, _, _, _, rfl, _⟩ := h; rfl) | (obtain ⟨_, _, _, _, _, rfl, _⟩ := h; rfl) | (obtain ⟨_, _, _, _, _, _, rfl, _⟩ := h; rfl) | (obtain ⟨_, _, _, _, _, _, _, rfl, _⟩ := h; rfl) | (obtain ⟨_, _, _, _, _, _, _, _, rfl, _⟩ := h; rfl)
  refine ⟨_, (pss_cons (ps_expr (pe_callS G_check_field (hr.mono (by decide)) rfl T.g_check_field T.k_check_field b_check_field (fun σ => passAt (takes_of rfl rfl rfl rfl) σ) (by exact (pa_cons (pv 0) pa_nil))))
      (pss_cons (ps_if (pt_cmpR op_eq (pv 0) pe_int (nomark _)) (pss_one (ps_ret (pe_callS G__fraction (hr.mono (by decide)) rfl T.g__fraction T.k__fraction b__fraction (fun σ => passAt (takes_of rfl rfl rfl rfl) σ) (by exact (pa_cons (pv 1) (pa_cons (pv 2) pa_nil)))))) pss_nil)
      (pss_one (ps_ret (pe_callS G__rest (hr.mono (by decide)) rfl T.g__rest T.k__rest b__rest (fun σ => passAt (takes_of rfl rfl rfl rfl) σ) (by exact (pa_cons (pv 0) (pa_cons (pv 1) (pa_cons (pv 2) pa_nil))))))))), ?_⟩

  obtain ⟨p, a, b, rfl, hb, k1, k2, k3⟩ := h
  refine ⟨_, rfl, p, rfl, fun c => ?_, fun c => k1 c⟩
  have k2 := k2 c
  have k3 := k3 c
  unfold numOk at k2 k3
  unfold num at k3
  refine ⟨_, rfl, rfl, _, rfl, ?_⟩
  refine iteB (fun c1 => ?_) (fun c1 => ?_)
  · have e0 : p = 0 := V.int.inj (of_decide_eq_true c1)
    rw [if_pos e0] at k2 k3
    rw [if_pos e0] at k3
    rw [vint_eq] at k2 k3
    exact ⟨_, rfl, _, rfl, a, b, rfl, hb e0, fun q => k2 (by simpa using q), fun q => k3 (by simpa using q)⟩
  · have e0 : p ≠ 0 := fun q => of_decide_eq_false c1 (by rw [q])
    rw [if_neg e0] at k2 k3
    rw [if_neg e0] at k3
    rw [vint_eq] at k2 k3
    exact ⟨_, rfl, _, rfl, _, rfl, p, a, b, rfl, c, e0, fun q => k2 (by simpa using q), fun q => k3 (by simpa using q)⟩
theorem ok__law_lowest (T : Txt K mg ad) : FnOk P w K mg base CX0 1 ad.a__law_lowest ad.d__law_lowest ["a", "b"] sp_lowest := by
  have nd := sc__law_lowest.nd
  refine T.F__law_lowest.ok sc__law_lowest (fun vs H Q E h => ?_) (fun cdv A outer s H vs Q E hr h => ?_)
  · first | (obtain ⟨_, rfl, _⟩ := h; rfl) | (obtain ⟨_, _, rfl, _⟩ := h; rfl) | (obtain ⟨_, _, _, rfl, _⟩ := h; rfl) | (obtain ⟨_, _, _, _, rfl, _⟩ := h; rfl) | (obtain ⟨_, _, _, _, _, rfl, _⟩ := h; rfl) | (obtain ⟨_, _, _, _, _, _, rfl, _⟩ := h; rfl) | (obtain ⟨_, _, _, _, _, _, _, rfl, _⟩ := h; rfl) | (obtain ⟨_, _, _, _, _, _, _, _, rfl, _⟩ := h; rfl)
  refine ⟨_, (Evl.pss_cut (ps_if (pt_cmpR op_lt (pv 1) pe_int (nomark _)) (pss_cons (ps_set (i := 0) nd rfl (Or.inl rfl) (pe_op op_sub pe_int (pv 0)))
      (pss_one (ps_set (i := 1) nd rfl (Or.inl rfl) (pe_op op_sub pe_int (pv 1))))) pss_nil)
      (pss_cons (ps_set (i := 2) nd rfl (Or.inl rfl) (pe_callB call_abs (by rfl) T.m_abs (by decide +kernel) (pa_cons (pv 0) pa_nil)))
      (pss_cons (ps_set (i := 3) nd rfl (Or.inl rfl) (pv 1))
      (pss_cons (ps_for PassesOwn.never rfl (pi_range1 (by rfl) T.m_range (pa_cons (pe_op op_pow pe_int pe_int) pa_nil)) (pg_name (i := 4) nd rfl (Or.inl rfl))
      (pss_cons (ps_if (pt_cmpR op_eq (pv 3) pe_int (nomark _)) (pss_one ps_break) pss_nil)
      (pss_one (ps_par (i := 2) (j := 3) (by rfl) nd rfl rfl (by decide) rfl rfl (pa_cons (pv 3) (pa_cons (pe_op op_mod (pe_callTy call_int1 (by rfl) T.m_int (by decide +kernel) (pa_cons (pv 2) pa_nil)) (pv 3)) pa_nil)) (by rfl)))))
      (pss_one (ps_ret (pe_tup (pa_cons (pe_op op_fdivN (pv 0) (pv 2)) (pa_cons (pe_op op_fdivN (pv 1) (pv 2)) pa_nil))))))))), ?_⟩

  obtain ⟨a, b, rfl, b0, hb, k⟩ := h
  rw [frac_low] at k
  refine ⟨fun σ H' => ∃ x y : Int, σ = [some (.int x), some (.int y), none, none, none] ∧ H' = H ∧ 0 < y ∧ y.natAbs < 1000000 ∧ gcdI x y = gcdI a b ∧
    ∀ t, H t = none → Q (.ref t) (upd H t (.tup [.int (x.fdiv (gcdI a b)), .int (y.fdiv (gcdI a b))])), ?_, ?_⟩
  · refine ⟨_, rfl, _, _, rfl, rfl, _, rfl, ?_⟩
    refine iteB (fun c => ?_) (fun c => ?_)
    · have c : b < 0 := of_decide_eq_true c
      rw [if_pos c] at k
      refine ⟨_, rfl, _, _, rfl, rfl, ?_⟩
      refine ⟨_, rfl, _, _, rfl, rfl, ?_⟩
      exact ⟨0 - a, 0 - b, rfl, rfl, by omega, by omega, gcdI_neg a b, k⟩
    · have c : ¬ b < 0 := of_decide_eq_false c
      rw [if_neg c] at k
      exact ⟨a, b, rfl, rfl, by omega, by omega, rfl, k⟩
  · rintro σ H' ⟨x, y, rfl, rfl, y0, hy, hg, k⟩
    have g0 := gcdI_pos (a := a) b0
    have g1 := gcdI_le (a := a) b0
    refine ⟨_, rfl, _, rfl, ?_⟩
    refine ⟨_, rfl, ?_⟩
    refine ⟨_, _, rfl, rfl, ⟨by decide, by decide, by decide⟩, (10 : Int) ^ 9, rfl, by decide, by decide, for_range (lo := 0) (n := 1000000000) (fun j σ H3 => ∃ (v : Option V) (one other : Int), σ = [some (.int x), some (.int y), some (.int one), some (.int other), v] ∧ H3 = H' ∧
      0 ≤ one ∧ 0 ≤ other ∧ other + (j : Int) ≤ 1000000 ∧ gcdI one other = gcdI a b) ⟨_, _, _, rfl, rfl, ?_, by omega, by omega, ?_⟩ ?_ ?_⟩
    · split <;> omega
    · rw [← hg]
      unfold gcdI
      congr 2
      split <;> omega
    · rintro j σ H3 hj ⟨v, one, other, rfl, rfl, o1, o2, o3, o4⟩
      refine ⟨_, rfl, rfl, _, rfl, ?_⟩
      refine iteB (fun c => ?_) (fun c => ?_)
      · have e : other = 0 := V.int.inj (of_decide_eq_true c)
        subst e
        have e1 : one = gcdI a b := by
          rw [← o4]
          unfold gcdI
          simp
          omega
        subst e1
        refine ⟨_, rfl, _, rfl, _, _, rfl, rfl, ⟨by omega, by omega⟩, _, rfl, _, rfl, _, _, rfl, rfl, ⟨by omega, by omega⟩, by show 2 ≤ sizeLine; decide, fun t nt => ?_⟩
        exact k t nt
      · have e : other ≠ 0 := fun q => of_decide_eq_false c (by rw [q])
        have op : 0 < other := by omega
        have m := emod3 one op
        refine ⟨_, rfl, _, rfl, .inl ⟨_, rfl, _, rfl, _, _, rfl, rfl, op, _, _, rfl, ?_⟩⟩
        refine ⟨_, _, _, rfl, rfl, by omega, m.1, by omega, ?_⟩
        rw [← o4]
        have e1 : (one % other).natAbs = one.natAbs % other.natAbs := by
          obtain ⟨m, rfl⟩ := Int.eq_ofNat_of_zero_le o1
          obtain ⟨n, rfl⟩ := Int.eq_ofNat_of_zero_le o2
          rw [← Int.natCast_emod]
          rfl
        show ((Nat.gcd other.natAbs (one % other).natAbs : Nat) : Int) = ((Nat.gcd one.natAbs other.natAbs : Nat) : Int)
        rw [e1, Nat.gcd_comm one.natAbs other.natAbs, Nat.gcd_rec other.natAbs one.natAbs, Nat.gcd_comm]
    · rintro σ H3 ⟨v, one, other, rfl, rfl, o1, o2, o3, o4⟩
      exfalso
      omega
theorem ok__law_brought (T : Txt K mg ad) : FnOk P w K mg base CX0 2 ad.a__law_brought ad.d__law_brought ["p", "a", "b"] sp_brought := by
  have nd := sc__law_brought.nd
  have G__law_lowest := ok__law_lowest (P := P) (w := w) (base := base) T
  have b__law_lowest := T.b__law_lowest
  refine T.F__law_brought.ok sc__law_brought (fun vs H Q E h => ?_) (fun cdv A outer s H vs Q E hr h => ?_)
  · first | (obtain ⟨_, rfl, _⟩ := h; rfl) | (obtain ⟨_, _, rfl, _⟩ := h; rfl) | (obtain ⟨_, _, _, rfl, _⟩ := h; rfl) | (obtain ⟨_, _, _, _, rfl, _⟩ := h; rfl) | (obtain ⟨_, _, _, _, _, rfl, _⟩ := h; rfl) | (obtain ⟨_, _, _, _, _, _, rfl, _⟩ := h; rfl) | (obtain ⟨_, _, _, _, _, _, _, rfl, _⟩ := h; rfl) | (obtain ⟨_, _, _, _, _, _, _, _, rfl, _⟩ := h; rfl)
  refine ⟨_, (pss_cons (ps_if (pt_cmpR op_eq (pv 0) pe_int (nomark _)) (pss_one (ps_ret (pe_call G__law_lowest (hr.mono (by decide)) rfl T.g__law_lowest T.k__law_lowest b__law_lowest .nil pass0 (pa_cons (pv 1) (pa_cons (pv 2) pa_nil))))) pss_nil)
      (pss_cons (ps_for PassesOwn.never rfl (pi_range1 (by rfl) T.m_range (pa_cons (pv 0) pa_nil)) (pg_name (i := 3) nd rfl (Or.inl rfl))
      (pss_one (ps_if (pt_cmpR op_eq (pe_op op_mod (pe_callTy call_int1 (by rfl) T.m_int (by decide +kernel) (pa_cons (pe_op op_sub (pe_op op_mul (pv 3) (pv 2)) (pv 1)) pa_nil)) (pv 0)) pe_int (nomark _)) (pss_one (ps_ret (pe_tup (pa_cons (pv 3) (pa_cons pe_int pa_nil))))) pss_nil)))
      (pss_one (ps_ret pe_non)))), ?_⟩

  obtain ⟨p, a, b, rfl, hp, hn, hb, k⟩ := h
  have hl := field_lt hp
  refine ⟨_, rfl, rfl, _, rfl, ?_⟩
  unfold numOk at hn
  refine iteB (fun c => ?_) (fun c => ?_)
  · have e0 : p = 0 := V.int.inj (of_decide_eq_true c)
    unfold num at k
    rw [if_pos e0] at hn
    rw [if_pos e0, vint_eq] at *
    exact ⟨_, rfl, _, rfl, a, b, rfl, by simpa using hn, hb e0, k⟩
  · have e0 : p ≠ 0 := fun q => of_decide_eq_false c (by rw [q])
    have pp : 0 < p := by omega
    rw [if_neg e0, vint_eq] at hn
    have b0 : b % p ≠ 0 := by simpa using hn
    obtain ⟨s1, s2, s3, s4⟩ := restN_spec (a := a) hp e0 b0
    have en : num p a b = (((restN p a b : Nat) : Int), 1) := if_neg e0
    rw [en] at k
    refine ⟨_, rfl, p, rfl, by omega, by omega, for_range (lo := 0) (n := p.toNat) (fun j σ H3 => ∃ v : Option V, σ = [some (.int p), some (.int a), some (.int b), v] ∧ H3 = H ∧ j ≤ restN p a b) ⟨_, rfl, rfl, Nat.zero_le _⟩ ?_ ?_⟩
    · rintro j σ H3 hj ⟨v, rfl, rfl, h1⟩
      have ej : (0 : Int) + (j : Int) = (j : Int) := Int.zero_add _
      refine ⟨_, rfl, _, rfl, _, _, rfl, rfl, .inl ⟨by show -(2 ^ 64) < (0 : Int) + (j : Int); omega, by show (0 : Int) + (j : Int) < 2 ^ 64; omega⟩, _, rfl, _, _, rfl, rfl, .inl ⟨_, rfl, _, rfl, _, _, rfl, rfl, pp, rfl, _, rfl, ?_⟩⟩
      have es := sat_iff (a := a) (b := b) pp j
      refine iteB (fun c1 => ?_) (fun c1 => ?_)
      · have c2 : ((0 : Int) + (j : Int)) * b - a = ((0 : Int) + (j : Int)) * b - a := rfl
        have c3 : (((0 : Int) + (j : Int)) * b - a) % p = 0 := V.int.inj (of_decide_eq_true c1)
        rw [ej] at c3
        have c4 := es.mp c3
        have h2 : j = restN p a b := by
          rcases Nat.lt_or_ge j (restN p a b) with q | q
          · rw [s4 j q] at c4
            cases c4
          · omega
        refine ⟨_, rfl, by show 2 ≤ sizeLine; decide, fun t nt => ?_⟩
        show Q (.ref t) (upd H3 t (.tup [.int ((0 : Int) + (j : Int)), .int 1]))
        rw [ej, h2]
        exact k t nt
      · have c3 : ¬ (((0 : Int) + (j : Int)) * b - a) % p = 0 := fun q => of_decide_eq_false c1 (by show V.int _ = V.int _; rw [q])
        rw [ej] at c3
        refine ⟨_, rfl, rfl, ?_⟩
        rcases Nat.lt_or_ge j (restN p a b) with q | q
        · exact q
        · have : j = restN p a b := by omega
          rw [this] at c3 es
          exact absurd (es.mpr s1) c3
    · rintro σ H3 ⟨v, rfl, rfl, h1⟩
      exfalso
      omega
theorem ok__check_both (T : Txt K mg ad) : FnOk P w K mg base (L2.CX P w) 5 ad.a__check_both ad.d__check_both ["p", "x", "y"] (sp_both K ad) := by
  have nd := sc__check_both.nd
  have G_check_number := ok_check_number (P := P) (w := w) (base := base) T
  have b_check_number := T.b_check_number
  refine T.F__check_both.okX sc__check_both (fun vs H Q E h => ?_) (fun cdv A outer s H vs Q E hr h => ?_)
  · first | (obtain ⟨_, rfl, _⟩ := h; rfl) | (obtain ⟨_, _, rfl, _⟩ := h; rfl) | (obtain ⟨_, _, _, rfl, _⟩ := h; rfl) | (obtain ⟨_, _, _, _, rfl, _⟩ := h; rfl) | (obtain ⟨_, _, _, _, _, rfl, _⟩ := h; rfl) | (obtain ⟨_, _, _, _, _, _, rfl, _⟩ := h; rfl) | (obtain ⟨_, _, _, _, _, _, _, rfl, _⟩ := h; rfl) | (obtain ⟨_, _, _, _, _, _, _, _, rfl, _⟩ := h; rfl)
  refine ⟨_, (pss_cons (ps_expr (pe_callS G_check_number (hr.mono (by decide)) rfl T.g_check_number T.k_check_number b_check_number (fun σ => passAt (takes_of rfl rfl rfl rfl) σ) (by exact (pa_cons (pv 0) (pa_cons (pv 1) pa_nil)))))
      (pss_one (ps_expr (pe_callS G_check_number (hr.mono (by decide)) rfl T.g_check_number T.k_check_number b_check_number (fun σ => passAt (takes_of rfl rfl rfl rfl) σ) (by exact (pa_cons (pv 0) (pa_cons (pv 2) pa_nil))))))), ?_⟩

  obtain ⟨p, tx, ty, x, y, rfl, hx, hy, k1, k2, k3, k4⟩ := h
  refine ⟨_, rfl, _, rfl, p, tx, x.1, x.2, rfl, hx, k1, fun f n => ?_, k2⟩
  refine ⟨_, rfl, _, rfl, p, ty, y.1, y.2, rfl, hy, k1, fun f m => ?_, fun f m => k3 f n m⟩
  exact k4 f n m
theorem ok_plus (T : Txt K mg ad) : FnOk P w K mg base (L2.CX P w) 6 ad.a_plus ad.d_plus ["p", "x", "y"] (sp_bin K ad rPlus) := by
  have nd := sc_plus.nd
  have G__check_both := ok__check_both (P := P) (w := w) (base := base) T
  have b__check_both := T.b__check_both
  have G_number := ok_number (P := P) (w := w) (base := base) T
  have b_number := T.b_number
  refine T.F_plus.okX sc_plus (fun vs H Q E h => ?_) (fun cdv A outer s H vs Q E hr h => ?_)
  · first | (obtain ⟨_, rfl, _⟩ := h; rfl) | (obtain ⟨_, _, rfl, _⟩ := h; rfl) | (obtain ⟨_, _, _, rfl, _⟩ := h; rfl) | (obtain ⟨_, _, _, _, rfl, _⟩ := h; rfl) | (obtain ⟨_, _, _, _, _, rfl, _⟩ := h; rfl) | (obtain ⟨_, _, _, _, _, _, rfl, _⟩ := h; rfl) | (obtain ⟨_, _, _, _, _, _, _, rfl, _⟩ := h; rfl) | (obtain ⟨_, _, _, _, _, _, _, _, rfl, _⟩ := h; rfl)
  refine ⟨_, (pss_cons (ps_expr (pe_callS G__check_both (hr.mono (by decide)) rfl T.g__check_both T.k__check_both b__check_both (fun σ => passAt (takes_of rfl rfl rfl rfl) σ) (by exact (pa_cons (pv 0) (pa_cons (pv 1) (pa_cons (pv 2) pa_nil))))))
      (pss_one (ps_ret (pe_callS G_number (hr.mono (by decide)) rfl T.g_number T.k_number b_number (fun σ => passAt (takes_of rfl rfl rfl rfl) σ) (by exact (pa_cons (pv 0) (pa_cons (pe_op op_add (pe_op op_mul (pe_ix ix_tup (pv 1) pe_int (fun _ _ => rfl)) (pe_ix ix_tup (pv 2) pe_int (fun _ _ => rfl))) (pe_op op_mul (pe_ix ix_tup (pv 2) pe_int (fun _ _ => rfl)) (pe_ix ix_tup (pv 1) pe_int (fun _ _ => rfl)))) (pa_cons (pe_op op_mul (pe_ix ix_tup (pv 1) pe_int (fun _ _ => rfl)) (pe_ix ix_tup (pv 2) pe_int (fun _ _ => rfl))) pa_nil)))))))), ?_⟩

  obtain ⟨p, tx, ty, x, y, rfl, hx, hy, sx, sy, hb, k1, k2, k3, k4, k5⟩ := h
  have xa := sx.a
  have xb := sx.b
  have ya := sy.a
  have yb := sy.b
  have i0 : ∀ a b : Int, atI [V.int a, V.int b] 0 = some (.int a) := fun _ _ => rfl
  have i1 : ∀ a b : Int, atI [V.int a, V.int b] 1 = some (.int b) := fun _ _ => rfl
  refine ⟨_, rfl, _, rfl, _, rfl, p, tx, ty, x, y, rfl, hx, hy, k1, k2, k3, fun f n m => ?_⟩
  refine ⟨_, rfl, _, rfl, tx, _, _, _, rfl, rfl, hx, i0 _ _, _, rfl, ty, _, _, _, rfl, rfl, hy, i1 _ _, _, _, rfl, rfl, .inl ⟨by omega, by omega⟩,
    _, rfl, ty, _, _, _, rfl, rfl, hy, i0 _ _, _, rfl, tx, _, _, _, rfl, rfl, hx, i1 _ _, _, _, rfl, rfl, .inl ⟨by omega, by omega⟩, _, _, rfl, rfl,
    _, rfl, tx, _, _, _, rfl, rfl, hx, i1 _ _, _, rfl, ty, _, _, _, rfl, rfl, hy, i1 _ _, _, _, rfl, rfl, .inl ⟨by omega, by omega⟩, ?_⟩
  exact ⟨p, _, _, rfl, fun _ => hb, k1, fun f => k4 f n m, fun f => k5 f n m⟩
theorem ok_minus (T : Txt K mg ad) : FnOk P w K mg base (L2.CX P w) 6 ad.a_minus ad.d_minus ["p", "x", "y"] (sp_bin K ad rMinus) := by
  have nd := sc_minus.nd
  have G__check_both := ok__check_both (P := P) (w := w) (base := base) T
  have b__check_both := T.b__check_both
  have G_number := ok_number (P := P) (w := w) (base := base) T
  have b_number := T.b_number
  refine T.F_minus.okX sc_minus (fun vs H Q E h => ?_) (fun cdv A outer s H vs Q E hr h => ?_)
  · first | (obtain ⟨_, rfl, _⟩ := h; rfl) | (obtain ⟨_, _, rfl, _⟩ := h; rfl) | (obtain ⟨_, _, _, rfl, _⟩ := h; rfl) | (obtain ⟨_, _, _, _, rfl, _⟩ := h; rfl) | (obtain ⟨_, _, _, _, _, rfl, _⟩ := h; rfl) | (obtain ⟨_, _, _, _, _, _, rfl, _⟩ := h; rfl) | (obtain ⟨_, _, _, _, _, _, _, rfl, _⟩ := h; rfl) | (obtain ⟨_, _, _, _, _, _, _, _, rfl, _⟩ := h; rfl)
  refine ⟨_, (pss_cons (ps_expr (pe_callS G__check_both (hr.mono (by decide)) rfl T.g__check_both T.k__check_both b__check_both (fun σ => passAt (takes_of rfl rfl rfl rfl) σ) (by exact (pa_cons (pv 0) (pa_cons (pv 1) (pa_cons (pv 2) pa_nil))))))
      (pss_one (ps_ret (pe_callS G_number (hr.mono (by decide)) rfl T.g_number T.k_number b_number (fun σ => passAt (takes_of rfl rfl rfl rfl) σ) (by exact (pa_cons (pv 0) (pa_cons (pe_op op_sub (pe_op op_mul (pe_ix ix_tup (pv 1) pe_int (fun _ _ => rfl)) (pe_ix ix_tup (pv 2) pe_int (fun _ _ => rfl))) (pe_op op_mul (pe_ix ix_tup (pv 2) pe_int (fun _ _ => rfl)) (pe_ix ix_tup (pv 1) pe_int (fun _ _ => rfl)))) (pa_cons (pe_op op_mul (pe_ix ix_tup (pv 1) pe_int (fun _ _ => rfl)) (pe_ix ix_tup (pv 2) pe_int (fun _ _ => rfl))) pa_nil)))))))), ?_⟩

  obtain ⟨p, tx, ty, x, y, rfl, hx, hy, sx, sy, hb, k1, k2, k3, k4, k5⟩ := h
  have xa := sx.a
  have xb := sx.b
  have ya := sy.a
  have yb := sy.b
  have i0 : ∀ a b : Int, atI [V.int a, V.int b] 0 = some (.int a) := fun _ _ => rfl
  have i1 : ∀ a b : Int, atI [V.int a, V.int b] 1 = some (.int b) := fun _ _ => rfl
  refine ⟨_, rfl, _, rfl, _, rfl, p, tx, ty, x, y, rfl, hx, hy, k1, k2, k3, fun f n m => ?_⟩
  refine ⟨_, rfl, _, rfl, tx, _, _, _, rfl, rfl, hx, i0 _ _, _, rfl, ty, _, _, _, rfl, rfl, hy, i1 _ _, _, _, rfl, rfl, .inl ⟨by omega, by omega⟩,
    _, rfl, ty, _, _, _, rfl, rfl, hy, i0 _ _, _, rfl, tx, _, _, _, rfl, rfl, hx, i1 _ _, _, _, rfl, rfl, .inl ⟨by omega, by omega⟩, _, _, rfl, rfl,
    _, rfl, tx, _, _, _, rfl, rfl, hx, i1 _ _, _, rfl, ty, _, _, _, rfl, rfl, hy, i1 _ _, _, _, rfl, rfl, .inl ⟨by omega, by omega⟩, ?_⟩
  exact ⟨p, _, _, rfl, fun _ => hb, k1, fun f => k4 f n m, fun f => k5 f n m⟩
theorem ok_times (T : Txt K mg ad) : FnOk P w K mg base (L2.CX P w) 6 ad.a_times ad.d_times ["p", "x", "y"] (sp_bin K ad rTimes) := by
  have nd := sc_times.nd
  have G__check_both := ok__check_both (P := P) (w := w) (base := base) T
  have b__check_both := T.b__check_both
  have G_number := ok_number (P := P) (w := w) (base := base) T
  have b_number := T.b_number
  refine T.F_times.okX sc_times (fun vs H Q E h => ?_) (fun cdv A outer s H vs Q E hr h => ?_)
  · first | (obtain ⟨_, rfl, _⟩ := h; rfl) | (obtain ⟨_, _, rfl, _⟩ := h; rfl) | (obtain ⟨_, _, _, rfl, _⟩ := h; rfl) | (obtain ⟨_, _, _, _, rfl, _⟩ := h; rfl) | (obtain ⟨_, _, _, _, _, rfl, _⟩ := h; rfl) | (obtain ⟨_, _, _, _, _, _, rfl, _⟩ := h; rfl) | (obtain ⟨_, _, _, _, _, _, _, rfl, _⟩ := h; rfl) | (obtain ⟨_, _, _, _, _, _, _, _, rfl, _⟩ := h; rfl)
  refine ⟨_, (pss_cons (ps_expr (pe_callS G__check_both (hr.mono (by decide)) rfl T.g__check_both T.k__check_both b__check_both (fun σ => passAt (takes_of rfl rfl rfl rfl) σ) (by exact (pa_cons (pv 0) (pa_cons (pv 1) (pa_cons (pv 2) pa_nil))))))
      (pss_one (ps_ret (pe_callS G_number (hr.mono (by decide)) rfl T.g_number T.k_number b_number (fun σ => passAt (takes_of rfl rfl rfl rfl) σ) (by exact (pa_cons (pv 0) (pa_cons (pe_op op_mul (pe_ix ix_tup (pv 1) pe_int (fun _ _ => rfl)) (pe_ix ix_tup (pv 2) pe_int (fun _ _ => rfl))) (pa_cons (pe_op op_mul (pe_ix ix_tup (pv 1) pe_int (fun _ _ => rfl)) (pe_ix ix_tup (pv 2) pe_int (fun _ _ => rfl))) pa_nil)))))))), ?_⟩

  obtain ⟨p, tx, ty, x, y, rfl, hx, hy, sx, sy, hb, k1, k2, k3, k4, k5⟩ := h
  have xa := sx.a
  have xb := sx.b
  have ya := sy.a
  have yb := sy.b
  have i0 : ∀ a b : Int, atI [V.int a, V.int b] 0 = some (.int a) := fun _ _ => rfl
  have i1 : ∀ a b : Int, atI [V.int a, V.int b] 1 = some (.int b) := fun _ _ => rfl
  refine ⟨_, rfl, _, rfl, _, rfl, p, tx, ty, x, y, rfl, hx, hy, k1, k2, k3, fun f n m => ?_⟩
  refine ⟨_, rfl, _, rfl, tx, _, _, _, rfl, rfl, hx, i0 _ _, _, rfl, ty, _, _, _, rfl, rfl, hy, i0 _ _, _, _, rfl, rfl, .inl ⟨by omega, by omega⟩,
    _, rfl, tx, _, _, _, rfl, rfl, hx, i1 _ _, _, rfl, ty, _, _, _, rfl, rfl, hy, i1 _ _, _, _, rfl, rfl, .inl ⟨by omega, by omega⟩, ?_⟩
  exact ⟨p, _, _, rfl, fun _ => hb, k1, fun f => k4 f n m, fun f => k5 f n m⟩
theorem ok_over (T : Txt K mg ad) : FnOk P w K mg base (L2.CX P w) 6 ad.a_over ad.d_over ["p", "x", "y"] (sp_bin K ad rOver) := by
  have nd := sc_over.nd
  have G__check_both := ok__check_both (P := P) (w := w) (base := base) T
  have b__check_both := T.b__check_both
  have G_number := ok_number (P := P) (w := w) (base := base) T
  have b_number := T.b_number
  refine T.F_over.okX sc_over (fun vs H Q E h => ?_) (fun cdv A outer s H vs Q E hr h => ?_)
  · first | (obtain ⟨_, rfl, _⟩ := h; rfl) | (obtain ⟨_, _, rfl, _⟩ := h; rfl) | (obtain ⟨_, _, _, rfl, _⟩ := h; rfl) | (obtain ⟨_, _, _, _, rfl, _⟩ := h; rfl) | (obtain ⟨_, _, _, _, _, rfl, _⟩ := h; rfl) | (obtain ⟨_, _, _, _, _, _, rfl, _⟩ := h; rfl) | (obtain ⟨_, _, _, _, _, _, _, rfl, _⟩ := h; rfl) | (obtain ⟨_, _, _, _, _, _, _, _, rfl, _⟩ := h; rfl)
  refine ⟨_, (pss_cons (ps_expr (pe_callS G__check_both (hr.mono (by decide)) rfl T.g__check_both T.k__check_both b__check_both (fun σ => passAt (takes_of rfl rfl rfl rfl) σ) (by exact (pa_cons (pv 0) (pa_cons (pv 1) (pa_cons (pv 2) pa_nil))))))
      (pss_one (ps_ret (pe_callS G_number (hr.mono (by decide)) rfl T.g_number T.k_number b_number (fun σ => passAt (takes_of rfl rfl rfl rfl) σ) (by exact (pa_cons (pv 0) (pa_cons (pe_op op_mul (pe_ix ix_tup (pv 1) pe_int (fun _ _ => rfl)) (pe_ix ix_tup (pv 2) pe_int (fun _ _ => rfl))) (pa_cons (pe_op op_mul (pe_ix ix_tup (pv 1) pe_int (fun _ _ => rfl)) (pe_ix ix_tup (pv 2) pe_int (fun _ _ => rfl))) pa_nil)))))))), ?_⟩

  obtain ⟨p, tx, ty, x, y, rfl, hx, hy, sx, sy, hb, k1, k2, k3, k4, k5⟩ := h
  have xa := sx.a
  have xb := sx.b
  have ya := sy.a
  have yb := sy.b
  have i0 : ∀ a b : Int, atI [V.int a, V.int b] 0 = some (.int a) := fun _ _ => rfl
  have i1 : ∀ a b : Int, atI [V.int a, V.int b] 1 = some (.int b) := fun _ _ => rfl
  refine ⟨_, rfl, _, rfl, _, rfl, p, tx, ty, x, y, rfl, hx, hy, k1, k2, k3, fun f n m => ?_⟩
  refine ⟨_, rfl, _, rfl, tx, _, _, _, rfl, rfl, hx, i0 _ _, _, rfl, ty, _, _, _, rfl, rfl, hy, i1 _ _, _, _, rfl, rfl, .inl ⟨by omega, by omega⟩,
    _, rfl, tx, _, _, _, rfl, rfl, hx, i1 _ _, _, rfl, ty, _, _, _, rfl, rfl, hy, i0 _ _, _, _, rfl, rfl, .inl ⟨by omega, by omega⟩, ?_⟩
  exact ⟨p, _, _, rfl, fun _ => hb, k1, fun f => k4 f n m, fun f => k5 f n m⟩
theorem ok__law_field (T : Txt K mg ad) : FnOk P w K mg base CX0 2 ad.a__law_field ad.d__law_field ["draws"] sp_lawField := by
  have nd := sc__law_field.nd
  have G__law_next := ok__law_next (P := P) (w := w) (base := base) T
  have b__law_next := T.b__law_next
  refine T.F__law_field.ok sc__law_field (fun vs H Q E h => ?_) (fun cdv A outer s H vs Q E hr h => ?_)
  · first | (obtain ⟨_, rfl, _⟩ := h; rfl) | (obtain ⟨_, _, rfl, _⟩ := h; rfl) | (obtain ⟨_, _, _, rfl, _⟩ := h; rfl) | (obtain ⟨_, _, _, _, rfl, _⟩ := h; rfl) | (obtain ⟨_, _, _, _, _, rfl, _⟩ := h; rfl) | (obtain ⟨_, _, _, _, _, _, rfl, _⟩ := h; rfl) | (obtain ⟨_, _, _, _, _, _, _, rfl, _⟩ := h; rfl) | (obtain ⟨_, _, _, _, _, _, _, _, rfl, _⟩ := h; rfl)
  refine ⟨_, (pss_one (ps_ret (pe_ix ix_list (pe_lst (pa_cons pe_int (pa_cons pe_int (pa_cons pe_int (pa_cons pe_int (pa_cons pe_int (pa_cons pe_int (pa_cons pe_int (pa_cons pe_int pa_nil))))))))) (pe_op op_mod (pe_callTy call_int1 (by rfl) T.m_int (by decide +kernel) (pa_cons (pe_call G__law_next (hr.mono (by decide)) rfl T.g__law_next T.k__law_next b__law_next .nil pass0 (pa_cons (pv 0) pa_nil)) pa_nil)) pe_int) (fun _ _ => rfl)))), ?_⟩

  obtain ⟨l, ds, rfl, hl, k⟩ := h
  refine ⟨by show 8 ≤ sizeLine; decide, fun q nq => ?_⟩
  have lq : l ≠ q := ne_of_none hl nq
  refine ⟨_, rfl, l, _, rfl, (by rw [upd_ne lq]; exact hl), fun d es => .inl ⟨_, rfl, _, _, rfl, rfl, by show (0 : Int) < 8; decide, q, _, _, _, rfl, rfl, sqL_of (by rw [upd_ne lq.symm]; exact upd_same),
    at_ints (ns := [0, 0, 0, 2, 3, 5, 7, 31]) (emod3 d (by decide)).1 (emod3 d (by decide)).2, ?_⟩⟩
  exact k _ es _ (getD_mem (emod3 d (by decide)).1 (emod3 d (by decide)).2) (But.upd (But.of (same_new nq))) upd_same
theorem ok__law_number (T : Txt K mg ad) : FnOk P w K mg base CX0 2 ad.a__law_number ad.d__law_number ["draws", "p"] sp_lawNumber := by
  have nd := sc__law_number.nd
  have G__law_lowest := ok__law_lowest (P := P) (w := w) (base := base) T
  have b__law_lowest := T.b__law_lowest
  have G__law_next := ok__law_next (P := P) (w := w) (base := base) T
  have b__law_next := T.b__law_next
  refine T.F__law_number.ok sc__law_number (fun vs H Q E h => ?_) (fun cdv A outer s H vs Q E hr h => ?_)
  · first | (obtain ⟨_, rfl, _⟩ := h; rfl) | (obtain ⟨_, _, rfl, _⟩ := h; rfl) | (obtain ⟨_, _, _, rfl, _⟩ := h; rfl) | (obtain ⟨_, _, _, _, rfl, _⟩ := h; rfl) | (obtain ⟨_, _, _, _, _, rfl, _⟩ := h; rfl) | (obtain ⟨_, _, _, _, _, _, rfl, _⟩ := h; rfl) | (obtain ⟨_, _, _, _, _, _, _, rfl, _⟩ := h; rfl) | (obtain ⟨_, _, _, _, _, _, _, _, rfl, _⟩ := h; rfl)
  refine ⟨_, (pss_cons (ps_if (pt_cmpR op_gt (pv 1) pe_int (nomark _)) (pss_one (ps_ret (pe_tup (pa_cons (pe_op op_mod (pe_callTy call_int1 (by rfl) T.m_int (by decide +kernel) (pa_cons (pe_call G__law_next (hr.mono (by decide)) rfl T.g__law_next T.k__law_next b__law_next .nil pass0 (pa_cons (pv 0) pa_nil)) pa_nil)) (pv 1)) (pa_cons pe_int pa_nil))))) pss_nil)
      (pss_one (ps_ret (pe_call G__law_lowest (hr.mono (by decide)) rfl T.g__law_lowest T.k__law_lowest b__law_lowest .nil pass0 (pa_cons (pe_op op_sub (pe_op op_mod (pe_callTy call_int1 (by rfl) T.m_int (by decide +kernel) (pa_cons (pe_call G__law_next (hr.mono (by decide)) rfl T.g__law_next T.k__law_next b__law_next .nil pass0 (pa_cons (pv 0) pa_nil)) pa_nil)) pe_int) pe_int) (pa_cons (pe_op op_add pe_int (pe_op op_mod (pe_callTy call_int1 (by rfl) T.m_int (by decide +kernel) (pa_cons (pe_call G__law_next (hr.mono (by decide)) rfl T.g__law_next T.k__law_next b__law_next .nil pass0 (pa_cons (pv 0) pa_nil)) pa_nil)) pe_int)) pa_nil)))))), ?_⟩

  obtain ⟨l, ds, p, rfl, hl, fp, k⟩ := h
  have pl := field_lt fp
  refine ⟨_, rfl, _, _, rfl, rfl, _, rfl, ?_⟩
  refine iteB (fun c => ?_) (fun c => ?_)
  · have p0 : 0 < p := of_decide_eq_true c
    refine ⟨_, rfl, l, _, rfl, hl, fun d es => .inl ⟨_, rfl, _, rfl, _, _, rfl, rfl, p0, by show 2 ≤ sizeLine; decide, fun t nt => ?_⟩⟩
    have m := emod3 d p0
    refine k (d % p, 1) t es _ ?_ (by show (d % p).natAbs ≤ 31; omega) (by show (1 : Int).natAbs ≤ 4; decide) (But.upd (But.refl l H)) upd_same nt
    unfold nOk isNum
    rw [if_neg (by omega), vint_eq]
    simp
    omega
  · have p0 : p = 0 := by have : ¬ 0 < p := of_decide_eq_false c; omega
    subst p0
    refine ⟨_, rfl, l, _, rfl, hl, fun d es => .inl ⟨_, rfl, _, _, rfl, rfl, by show (0 : Int) < 19; decide, _, _, rfl, rfl, ?_⟩⟩
    refine ⟨_, rfl, l, _, rfl, upd_same, fun d2 es2 => .inl ⟨_, rfl, _, _, rfl, rfl, by show (0 : Int) < 4; decide, _, _, rfl, rfl, ?_⟩⟩
    have m1 := emod3 d (m := 19) (by decide)
    have m2 := emod3 d2 (m := 4) (by decide)
    refine ⟨d % 19 - 9, 1 + d2 % 4, rfl, by omega, by omega, fun t nt => ?_⟩
    have fl := frac_le (d % 19 - 9) (1 + d2 % 4)
    exact k (frac (d % 19 - 9) (1 + d2 % 4)) t es2 _ (frac_num (by omega)) (by omega) (by omega) (But.upd (But.upd (But.refl l H))) upd_same nt
theorem ok__law_told (T : Txt K mg ad) : FnOk P w K mg base CX0 7 ad.a__law_told ad.d__law_told ["way", "p", "x", "y"] (sp_told K) := by
  have nd := sc__law_told.nd
  have G_plus := ok_plus (P := P) (w := w) (base := base) T
  have b_plus := T.b_plus
  have G_minus := ok_minus (P := P) (w := w) (base := base) T
  have b_minus := T.b_minus
  have G_times := ok_times (P := P) (w := w) (base := base) T
  have b_times := T.b_times
  have G_over := ok_over (P := P) (w := w) (base := base) T
  have b_over := T.b_over
  refine T.F__law_told.ok sc__law_told (fun vs H Q E h => ?_) (fun cdv A outer s H vs Q E hr h => ?_)
  · first | (obtain ⟨_, rfl, _⟩ := h; rfl) | (obtain ⟨_, _, rfl, _⟩ := h; rfl) | (obtain ⟨_, _, _, rfl, _⟩ := h; rfl) | (obtain ⟨_, _, _, _, rfl, _⟩ := h; rfl) | (obtain ⟨_, _, _, _, _, rfl, _⟩ := h; rfl) | (obtain ⟨_, _, _, _, _, _, rfl, _⟩ := h; rfl) | (obtain ⟨_, _, _, _, _, _, _, rfl, _⟩ := h; rfl) | (obtain ⟨_, _, _, _, _, _, _, _, rfl, _⟩ := h; rfl)
  refine ⟨_, (pss_one (ps_try_as (i := 4) (Wout := fun _ _ _ _ => False) rfl rfl nd rfl rfl ⟨rfl, by decide, .inl T.g_GraftError⟩ takes0
      (fun W pn xe tk _ => (pss_one (ps_ret (Gw.pe_callE (k := 6) (S := (fun f sp => (f = ad.a_plus ∧ sp = (sp_bin K ad rPlus)) ∨ (f = ad.a_minus ∧ sp = (sp_bin K ad rMinus)) ∨ (f = ad.a_times ∧ sp = (sp_bin K ad rTimes)) ∨ (f = ad.a_over ∧ sp = (sp_bin K ad rOver)))) (pe_ix (Gw.ix_listK (K := K) rfl) (pe_lst (pa_cons (pe_glob (v := .ref ad.a_plus) rfl T.g_plus rfl) (pa_cons (pe_glob (v := .ref ad.a_minus) rfl T.g_minus rfl) (pa_cons (pe_glob (v := .ref ad.a_times) rfl T.g_times rfl) (pa_cons (pe_glob (v := .ref ad.a_over) rfl T.g_over rfl) pa_nil))))) (pv 0) (fun _ _ => rfl)) (fun f sp h => by
        rcases h with ⟨rfl, rfl⟩ | ⟨rfl, rfl⟩ | ⟨rfl, rfl⟩ | ⟨rfl, rfl⟩
        · exact ⟨_, _, G_plus.mono (by decide), T.k_plus, b_plus⟩
        · exact ⟨_, _, G_minus.mono (by decide), T.k_minus, b_minus⟩
        · exact ⟨_, _, G_times.mono (by decide), T.k_times, b_times⟩
        · exact ⟨_, _, G_over.mono (by decide), T.k_over, b_over⟩) (hr.mono (by decide)) (fun σ => passAt tk σ) (by exact (pa_cons (pv 1) (pa_cons (pv 2) (pa_cons (pv 3) pa_nil))))))))
      (fun a oe cls d pn hz hf => (pss_cons (ps_set (i := 5) nd rfl (Or.inl rfl) (pe_lst (pa_cons (pe_callB (Gw.cr_isA hz hf) (by rfl) T.m_isinstance (by decide +kernel) (pa_cons (pv 4) (pa_cons (pe_glob (v := .ref ad.a_BadNumber) rfl T.g_BadNumber rfl) pa_nil))) (pa_cons (pe_callB (Gw.cr_isA hz hf) (by rfl) T.m_isinstance (by decide +kernel) (pa_cons (pv 4) (pa_cons (pe_glob (v := .ref ad.a_NotNumber) rfl T.g_NotNumber rfl) pa_nil))) pa_nil))))
      (pss_one (ps_ret (pe_op op_add_str pe_str (pe_ix ix_str pe_str (by exact (show PE _ _ (tBM K "list" (rIndex K) _ _) from (pe_bm PySem.F.plainAttrs_list PySem.F.slot_list_index PySem.F.type_list_index mt_index (pv 5) (pa_cons pe_bl pa_nil)))) (fun _ _ => rfl))))))))), ?_⟩

  obtain ⟨way, p, tx, ty, x, y, rfl, hx, hy, sx, sy, hb, w0, w4, k⟩ := h
  have c0 : atI ("bn" : Str).cps.toList ((0 : Nat) : Int) = some 98 := by decide +kernel
  have c1 : atI ("bn" : Str).cps.toList ((1 : Nat) : Int) = some 110 := by decide +kernel
  have e0 : ("!" : Str) ++ ⟨#[98]⟩ = "!b" := by decide +kernel
  have e1 : ("!" : Str) ++ ⟨#[110]⟩ = "!n" := by decide +kernel
  have bad : ∀ H1, Same H H1 → toldB way p x y = .str "!b" → ∀ e, tsTwo K ad.a_BadNumber ad.a_NotNumber 4 5 "bn" e (.ref ad.a_BadNumber) none
      { nx := fun σ' H' => Q .non H', rt := Q, bk := fun σ' H' => False, ct := fun σ' H' => False } [some (.int way), some (.int p), some (.ref tx), some (.ref ty), some (.ref e), none] H1 := fun H1 s1 et e => by
    refine suite_two T.e_BadNumber T.i_BadNumber_BadNumber T.i_BadNumber_NotNumber rfl (by show 5 < 6; decide) (by decide) (j := 0) rfl (fun m z hm _ => absurd hm (by omega)) c0 fun q nq => ?_
    rw [e0]
    refine k _ _ noH (s1.trans (same_new nq)) (noH_in _) (noH_off _) ?_
    rw [et]
    exact .str _
  have bad2 : ∀ H1, Same H H1 → toldB way p x y = .str "!n" → ∀ e, tsTwo K ad.a_BadNumber ad.a_NotNumber 4 5 "bn" e (.ref ad.a_NotNumber) none
      { nx := fun σ' H' => Q .non H', rt := Q, bk := fun σ' H' => False, ct := fun σ' H' => False } [some (.int way), some (.int p), some (.ref tx), some (.ref ty), some (.ref e), none] H1 := fun H1 s1 et e => by
    refine suite_two T.e_NotNumber T.i_NotNumber_BadNumber T.i_NotNumber_NotNumber rfl (by show 5 < 6; decide) (by decide) (j := 1) rfl (fun m z hm hz => ?_) c1 fun q nq => ?_
    · have : m = 0 := by omega
      subst this
      cases hz
      rfl
    · rw [e1]
      refine k _ _ noH (s1.trans (same_new nq)) (noH_in _) (noH_off _) ?_
      rw [et]
      exact .str _
  refine ⟨by show 4 ≤ sizeLine; decide, fun q nq => ?_⟩
  have sq := same_new (o := .lst [.ref ad.a_plus, .ref ad.a_minus, .ref ad.a_times, .ref ad.a_over]) nq
  have hx' := Same.tup sq hx
  have hy' := Same.tup sq hy
  -- what the chosen def promises
  have one : ∀ raw : N2 → N2 → N2, raw x y = rawW way x y → ∀ W : XK, (∀ H1, Same H H1 → toldB way p x y = .str "!b" → W (.ref ad.a_BadNumber) none H1) → (∀ H1, Same H H1 → toldB way p x y = .str "!n" → W (.ref ad.a_NotNumber) none H1) →
      sp_bin K ad raw [.int p, .ref tx, .ref ty] (upd H q (.lst [.ref ad.a_plus, .ref ad.a_minus, .ref ad.a_times, .ref ad.a_over])) Q W := fun raw er W wb wn => by
    rw [← er] at hb
    refine ⟨p, tx, ty, x, y, rfl, hx', hy', sx, sy, hb, fun f => wb _ sq ?_, fun f n => wn _ sq ?_, fun f n m => wn _ sq ?_, fun f n m o => wb _ sq ?_, fun f n m o t nt => ?_⟩
    · unfold toldB
      rw [if_pos f]
    · unfold toldB
      rw [if_neg (by rw [f]; decide), if_pos n]
    · unfold toldB
      unfold nOk at n
      rw [if_neg (by rw [f]; decide), if_neg (by rw [n]; decide), if_pos m]
    · unfold toldB
      unfold nOk at n m
      rw [if_neg (by rw [f]; decide), if_neg (by rw [n]; decide), if_neg (by rw [m]; decide), if_neg (by rw [← er, o]; decide)]
    · refine k _ _ _ (sq.trans (same_new nt)) one_in (Off.trans sq (one_off nt)) ?_
      unfold toldB
      unfold nOk at n m
      rw [if_neg (by rw [f]; decide), if_neg (by rw [n]; decide), if_neg (by rw [m]; decide), if_pos (by rw [← er, o]), ← er]
      exact .tup (sqT_of upd_same) (.cons (.int _) (.cons (.int _) .nil))
  have hw : way = 0 ∨ way = 1 ∨ way = 2 ∨ way = 3 := by omega
  rcases hw with rfl | rfl | rfl | rfl
  · refine ⟨_, rfl, q, _, 0, _, rfl, rfl, sqL_of upd_same, rfl, ad.a_plus, _, rfl, .inl ⟨rfl, rfl⟩, _, rfl, _, rfl, _, rfl, ?_⟩
    exact one rPlus rfl _ (fun H1 s1 et => ⟨true, T.m_BadNumber_GraftError, fun _ e ne => bad H1 s1 et e, fun q => nomatch q⟩) (fun H1 s1 et => ⟨true, T.m_NotNumber_GraftError, fun _ e ne => bad2 H1 s1 et e, fun q => nomatch q⟩)
  · refine ⟨_, rfl, q, _, 1, _, rfl, rfl, sqL_of upd_same, rfl, ad.a_minus, _, rfl, .inr (.inl ⟨rfl, rfl⟩), _, rfl, _, rfl, _, rfl, ?_⟩
    exact one rMinus rfl _ (fun H1 s1 et => ⟨true, T.m_BadNumber_GraftError, fun _ e ne => bad H1 s1 et e, fun q => nomatch q⟩) (fun H1 s1 et => ⟨true, T.m_NotNumber_GraftError, fun _ e ne => bad2 H1 s1 et e, fun q => nomatch q⟩)
  · refine ⟨_, rfl, q, _, 2, _, rfl, rfl, sqL_of upd_same, rfl, ad.a_times, _, rfl, .inr (.inr (.inl ⟨rfl, rfl⟩)), _, rfl, _, rfl, _, rfl, ?_⟩
    exact one rTimes rfl _ (fun H1 s1 et => ⟨true, T.m_BadNumber_GraftError, fun _ e ne => bad H1 s1 et e, fun q => nomatch q⟩) (fun H1 s1 et => ⟨true, T.m_NotNumber_GraftError, fun _ e ne => bad2 H1 s1 et e, fun q => nomatch q⟩)
  · refine ⟨_, rfl, q, _, 3, _, rfl, rfl, sqL_of upd_same, rfl, ad.a_over, _, rfl, .inr (.inr (.inr ⟨rfl, rfl⟩)), _, rfl, _, rfl, _, rfl, ?_⟩
    exact one rOver rfl _ (fun H1 s1 et => ⟨true, T.m_BadNumber_GraftError, fun _ e ne => bad H1 s1 et e, fun q => nomatch q⟩) (fun H1 s1 et => ⟨true, T.m_NotNumber_GraftError, fun _ e ne => bad2 H1 s1 et e, fun q => nomatch q⟩)
theorem ok_law (T : Txt K mg ad) : FnAt callerA P w K mg base CX0 ad.a_law ad.d_law ["script"] (spLaw K) := by
  have nd := sc_law.nd
  have G__law_draws := ok__law_draws (P := P) (w := w) (base := base) T
  have b__law_draws := T.b__law_draws
  have G__law_field := ok__law_field (P := P) (w := w) (base := base) T
  have b__law_field := T.b__law_field
  have G__law_number := ok__law_number (P := P) (w := w) (base := base) T
  have b__law_number := T.b__law_number
  have G__law_brought := ok__law_brought (P := P) (w := w) (base := base) T
  have b__law_brought := T.b__law_brought
  have G_plus := ok_plus (P := P) (w := w) (base := base) T
  have b_plus := T.b_plus
  have G_times := ok_times (P := P) (w := w) (base := base) T
  have b_times := T.b_times
  have G_minus := ok_minus (P := P) (w := w) (base := base) T
  have b_minus := T.b_minus
  have G__law_told := ok__law_told (P := P) (w := w) (base := base) T
  have b__law_told := T.b__law_told
  have G__law_next := ok__law_next (P := P) (w := w) (base := base) T
  have b__law_next := T.b__law_next
  refine fnAt_mk (k := 7) T.F_law sc_law ⟨rfl, by decide, by decide⟩ (fun vs H Q E h => ?_) (fun cdv outer s H vs Q E hr h => ?_)
  · first | (obtain ⟨_, rfl, _⟩ := h; rfl) | (obtain ⟨_, _, rfl, _⟩ := h; rfl) | (obtain ⟨_, _, _, rfl, _⟩ := h; rfl) | (obtain ⟨_, _, _, _, rfl, _⟩ := h; rfl) | (obtain ⟨_, _, _, _, _, rfl, _⟩ := h; rfl) | (obtain ⟨_, _, _, _, _, _, rfl, _⟩ := h; rfl) | (obtain ⟨_, _, _, _, _, _, _, rfl, _⟩ := h; rfl) | (obtain ⟨_, _, _, _, _, _, _, _, rfl, _⟩ := h; rfl)
  have hu6 := hu64 hr
  have hu1 := hu100 hr
  have hgd : (callerA.deeper (envOfC "law" (defScope st_law) s.heap.objs.size ad.a_law cdv)).guards = some [] := rfl
  refine ⟨_, (pss_cons (ps_set (i := 1) nd rfl (Or.inr rfl) (pe_call G__law_draws (hr.mono (by decide)) rfl T.g__law_draws T.k__law_draws b__law_draws .nil pass0 (pa_cons (pv 0) pa_nil)))
      (pss_cons (ps_expr (pe_bm0 PySem.F.plainAttrs_list PySem.F.slot_list_reverse PySem.F.type_list_reverse mt_reverse (pv 1)))
      (pss_cons (ps_set (i := 2) nd rfl (Or.inr rfl) (pe_call G__law_field (hr.mono (by decide)) rfl T.g__law_field T.k__law_field b__law_field .nil pass0 (pa_cons (pv 1) pa_nil)))
      (pss_cons (ps_asg (pe_lc (own := [("j", 9)]) (g := gName 9) (by rfl) nd (pi_range1 (by rfl) T.m_range (pa_cons pe_int pa_nil)) (blkOk_by (own := [("j", 9)]) (N := sl_law) (sc := defScope st_law) (by decide +kernel)) (fun _ _ _ _ _ => pg_name (i := 9) nd rfl (Or.inl rfl)) (fun _ _ _ _ _ => pts_nil) (fun _ _ _ _ _ => (pe_call G__law_number (hr.mono (by decide)) rfl T.g__law_number T.k__law_number b__law_number .nil pass0 (pa_cons (pv 1) (pa_cons (pv 2) pa_nil))))) (pg_lst rfl (pgs_cons (pg_name (i := 3) nd rfl (Or.inr rfl)) (pgs_cons (pg_name (i := 4) nd rfl (Or.inr rfl)) (pgs_cons (pg_name (i := 5) nd rfl (Or.inl rfl)) pgs_nil)))))
      (pss_cons (ps_set (i := 6) nd rfl (Or.inl rfl) (pe_lst (pa_cons (pe_call G__law_brought (hr.mono (by decide)) rfl T.g__law_brought T.k__law_brought b__law_brought .nil pass0 (pa_cons (pv 2) (pa_cons (pe_op op_add (pe_op op_mul (pe_ix ix_tup (pv 3) pe_int (fun _ _ => rfl)) (pe_ix ix_tup (pv 4) pe_int (fun _ _ => rfl))) (pe_op op_mul (pe_ix ix_tup (pv 4) pe_int (fun _ _ => rfl)) (pe_ix ix_tup (pv 3) pe_int (fun _ _ => rfl)))) (pa_cons (pe_op op_mul (pe_ix ix_tup (pv 3) pe_int (fun _ _ => rfl)) (pe_ix ix_tup (pv 4) pe_int (fun _ _ => rfl))) pa_nil)))) pa_nil)))
      (pss_cons (ps_expr (pe_bm PySem.F.plainAttrs_list PySem.F.slot_list_append PySem.F.type_list_append mt_append (pv 6) (pa_cons (pe_call G__law_brought (hr.mono (by decide)) rfl T.g__law_brought T.k__law_brought b__law_brought .nil pass0 (pa_cons (pv 2) (pa_cons (pe_op op_sub (pe_op op_mul (pe_ix ix_tup (pv 3) pe_int (fun _ _ => rfl)) (pe_ix ix_tup (pv 4) pe_int (fun _ _ => rfl))) (pe_op op_mul (pe_ix ix_tup (pv 4) pe_int (fun _ _ => rfl)) (pe_ix ix_tup (pv 3) pe_int (fun _ _ => rfl)))) (pa_cons (pe_op op_mul (pe_ix ix_tup (pv 3) pe_int (fun _ _ => rfl)) (pe_ix ix_tup (pv 4) pe_int (fun _ _ => rfl))) pa_nil)))) pa_nil)))
      (pss_cons (ps_expr (pe_bm PySem.F.plainAttrs_list PySem.F.slot_list_append PySem.F.type_list_append mt_append (pv 6) (pa_cons (pe_call G__law_brought (hr.mono (by decide)) rfl T.g__law_brought T.k__law_brought b__law_brought .nil pass0 (pa_cons (pv 2) (pa_cons (pe_op op_mul (pe_ix ix_tup (pv 3) pe_int (fun _ _ => rfl)) (pe_ix ix_tup (pv 4) pe_int (fun _ _ => rfl))) (pa_cons (pe_op op_mul (pe_ix ix_tup (pv 3) pe_int (fun _ _ => rfl)) (pe_ix ix_tup (pv 4) pe_int (fun _ _ => rfl))) pa_nil)))) pa_nil)))
      (pss_cons (ps_expr (pe_bm PySem.F.plainAttrs_list PySem.F.slot_list_append PySem.F.type_list_append mt_append (pv 6) (pa_cons pe_str pa_nil)))
      (Evl.pss_cut (ps_if (pt_cmpR op_ne (pe_ix ix_tup (pv 4) pe_int (fun _ _ => rfl)) pe_int (nomark _)) (pss_one (ps_asg (pe_call G__law_brought (hr.mono (by decide)) rfl T.g__law_brought T.k__law_brought b__law_brought .nil pass0 (pa_cons (pv 2) (pa_cons (pe_op op_mul (pe_ix ix_tup (pv 3) pe_int (fun _ _ => rfl)) (pe_ix ix_tup (pv 4) pe_int (fun _ _ => rfl))) (pa_cons (pe_op op_mul (pe_ix ix_tup (pv 3) pe_int (fun _ _ => rfl)) (pe_ix ix_tup (pv 4) pe_int (fun _ _ => rfl))) pa_nil)))) (pg_sub (pv 6) pe_int set_list))) pss_nil)
      (pss_cons (ps_if (pt_cmpR op_ne (pe_callB (Gw.cr_repr hgd hu1) (by rfl) T.m_repr (by decide +kernel) (pa_cons (pe_lc (own := [("way", 7)]) (g := gName 7) (by rfl) nd (pi_range1 (by rfl) T.m_range (pa_cons pe_int pa_nil)) (blkOk_by (own := [("way", 7)]) (N := sl_law) (sc := defScope st_law) (by decide +kernel)) (fun _ _ _ _ _ => pg_name (i := 7) nd rfl (Or.inl rfl)) (fun _ _ _ _ _ => pts_nil) (fun _ _ _ _ _ => (pe_call G__law_told (hr.mono (by decide)) rfl T.g__law_told T.k__law_told b__law_told .nil pass0 (pa_cons (pv 7) (pa_cons (pv 2) (pa_cons (pv 3) (pa_cons (pv 4) pa_nil))))))) pa_nil)) (pe_callB (Gw.cr_repr hgd hu1) (by rfl) T.m_repr (by decide +kernel) (pa_cons (pv 6) pa_nil)) (nomark _)) (pss_one (ps_ret pe_bl)) pss_nil)
      (pss_cons (ps_if (pt_cmpR (op_neD hu6) (pe_call G_plus (hr.mono (by decide)) rfl T.g_plus T.k_plus b_plus .nil passL (pa_cons (pv 2) (pa_cons (pe_call G_plus (hr.mono (by decide)) rfl T.g_plus T.k_plus b_plus .nil passL (pa_cons (pv 2) (pa_cons (pv 3) (pa_cons (pv 4) pa_nil)))) (pa_cons (pv 5) pa_nil)))) (pe_call G_plus (hr.mono (by decide)) rfl T.g_plus T.k_plus b_plus .nil passL (pa_cons (pv 2) (pa_cons (pv 3) (pa_cons (pe_call G_plus (hr.mono (by decide)) rfl T.g_plus T.k_plus b_plus .nil passL (pa_cons (pv 2) (pa_cons (pv 4) (pa_cons (pv 5) pa_nil)))) pa_nil)))) (nomark _)) (pss_one (ps_ret pe_bl)) pss_nil)
      (pss_cons (ps_if (pt_cmpR (op_neD hu6) (pe_call G_times (hr.mono (by decide)) rfl T.g_times T.k_times b_times .nil passL (pa_cons (pv 2) (pa_cons (pe_call G_times (hr.mono (by decide)) rfl T.g_times T.k_times b_times .nil passL (pa_cons (pv 2) (pa_cons (pv 3) (pa_cons (pv 4) pa_nil)))) (pa_cons (pv 5) pa_nil)))) (pe_call G_times (hr.mono (by decide)) rfl T.g_times T.k_times b_times .nil passL (pa_cons (pv 2) (pa_cons (pv 3) (pa_cons (pe_call G_times (hr.mono (by decide)) rfl T.g_times T.k_times b_times .nil passL (pa_cons (pv 2) (pa_cons (pv 4) (pa_cons (pv 5) pa_nil)))) pa_nil)))) (nomark _)) (pss_one (ps_ret pe_bl)) pss_nil)
      (pss_cons (ps_if (PW.pt (pw_or (pt_cmpR (op_neD hu6) (pe_call G_times (hr.mono (by decide)) rfl T.g_times T.k_times b_times .nil passL (pa_cons (pv 2) (pa_cons (pv 3) (pa_cons (pe_call G_plus (hr.mono (by decide)) rfl T.g_plus T.k_plus b_plus .nil passL (pa_cons (pv 2) (pa_cons (pv 4) (pa_cons (pv 5) pa_nil)))) pa_nil)))) (pe_call G_plus (hr.mono (by decide)) rfl T.g_plus T.k_plus b_plus .nil passL (pa_cons (pv 2) (pa_cons (pe_call G_times (hr.mono (by decide)) rfl T.g_times T.k_times b_times .nil passL (pa_cons (pv 2) (pa_cons (pv 3) (pa_cons (pv 4) pa_nil)))) (pa_cons (pe_call G_times (hr.mono (by decide)) rfl T.g_times T.k_times b_times .nil passL (pa_cons (pv 2) (pa_cons (pv 3) (pa_cons (pv 5) pa_nil)))) pa_nil)))) (nomark _)) (pw_or1 (pt_cmpR (op_neD hu6) (pe_call G_minus (hr.mono (by decide)) rfl T.g_minus T.k_minus b_minus .nil passL (pa_cons (pv 2) (pa_cons (pe_call G_plus (hr.mono (by decide)) rfl T.g_plus T.k_plus b_plus .nil passL (pa_cons (pv 2) (pa_cons (pv 3) (pa_cons (pv 4) pa_nil)))) (pa_cons (pv 4) pa_nil)))) (pv 3) (nomark _))))) (pss_one (ps_ret pe_bl)) pss_nil)
      (pss_cons (ps_set (i := 8) nd rfl (Or.inl rfl) (pe_ix ix_list (pe_lst (pa_cons (pe_tup (pa_cons pe_int (pa_cons pe_int pa_nil))) (pa_cons (pe_tup (pa_cons pe_int (pa_cons (pe_un un_neg pe_int) pa_nil))) (pa_cons (pe_tup (pa_cons pe_int (pa_cons pe_int pa_nil))) (pa_cons (pe_tup (pa_cons pe_int (pa_cons pe_int pa_nil))) pa_nil))))) (pe_op op_mod (pe_callTy call_int1 (by rfl) T.m_int (by decide +kernel) (pa_cons (pe_call G__law_next (hr.mono (by decide)) rfl T.g__law_next T.k__law_next b__law_next .nil pass0 (pa_cons (pv 1) pa_nil)) pa_nil)) pe_int) (fun _ _ => rfl)))
      (pss_cons (ps_for (passes_of rfl) rfl (pi_range1 (by rfl) T.m_range (pa_cons pe_int pa_nil)) (pg_name (i := 7) nd rfl (Or.inl rfl))
      (pss_cons (ps_if (PW.pt (pw_or (pt_cmpR (op_neD hu6) (pe_call G__law_told (hr.mono (by decide)) rfl T.g__law_told T.k__law_told b__law_told .nil pass0 (pa_cons (pv 7) (pa_cons pe_int (pa_cons (pv 8) (pa_cons (pv 8) pa_nil))))) pe_str (nomark _)) (pw_or1 (pt_cmpR (op_neD hu6) (pe_call G__law_told (hr.mono (by decide)) rfl T.g__law_told T.k__law_told b__law_told .nil pass0 (pa_cons (pv 7) (pa_cons (pv 2) (pa_cons (pv 8) (pa_cons (pv 4) pa_nil))))) pe_str (nomark _))))) (pss_one (ps_ret pe_bl)) pss_nil)
      (pss_one (ps_if (pt_cmpR (op_neD hu6) (pe_call G__law_told (hr.mono (by decide)) rfl T.g__law_told T.k__law_told b__law_told .nil pass0 (pa_cons (pv 7) (pa_cons (pv 2) (pa_cons (pv 3) (pa_cons (pv 8) pa_nil))))) pe_str (nomark _)) (pss_one (ps_ret pe_bl)) pss_nil))))
      (pss_one (ps_ret pe_bl))))))))))))))))), ?_⟩

  obtain ⟨a0, ns, rfl, hS, hl, k⟩ := h
  refine ⟨_, rfl, a0, ns, rfl, hS, hl, fun H0 l e0 s1 nl hl0 => ?_⟩
  -- draws.reverse()
  refine ⟨_, rfl, .inl ⟨rfl, _, sqL_of hl0⟩, l, _, rfl, rfl, hl0, ?_⟩
  have hl1 : (upd H0 l (.lst (e0.map V.int).reverse)) l = some (.lst (e0.reverse.map V.int)) := by rw [upd_same, List.map_reverse]
  revert hl1; generalize upd H0 l (.lst (e0.map V.int).reverse) = H1; intro hl1
  -- p
  refine ⟨_, rfl, l, _, rfl, hl1, fun p e2 H2 hp b2 hl2 => ?_⟩
  have kp : ∀ x ∈ ([0, 0, 0, 2, 3, 5, 7, 31] : List Int), fieldB x = true := by decide +kernel
  have fp := kp p hp
  have pl := field_lt fp
  -- x, y, z
  refine rd_name ?_
  dsimp only
  refine rd_seq ?_
  refine rd_asg (lc_draw (K := K) (l := l) (n := 3) (fun _ d => ∃ x : N2, d = dN x ∧ nOk p x ∧ x.1.natAbs ≤ 31 ∧ x.2.natAbs ≤ 4) (by decide) hl2 ?_ ?_ ?_ ?_)
  · exact fun Q' q => q
  · intro x; rfl
  · intro i H3 es Q' hi b3 hl3 k3
    refine ⟨_, rfl, _, rfl, l, es, p, rfl, hl3, fp, fun x t es2 H4 nx x1 x2 b4 hl4 nt => ?_⟩
    exact k3 _ _ (upd noH t (.tup [.int x.1, .int x.2])) (dN x) es2 (But.same b4 (same_new nt)) (by rw [upd_ne (ne_of_none hl4 nt)]; exact hl4) one_in (fun b o e => by
      have hb : b = t := by
        by_cases q : b = t
        · exact q
        · rw [upd_ne q] at e; cases e
      rw [hb]
      cases q : H3 t with
      | none => rfl
      | some u =>
        by_cases tl : t = l
        · rw [tl, hl4] at nt; cases nt
        · have := b4 t u tl q; rw [nt] at this; cases this) ⟨x, rfl, nx, x1, x2⟩ (pair_dp (sqT_of upd_same))
  intro D H3 F xs ds e3 nD b3 hD hl3 f1 f2 f3 dx dl hg
  obtain ⟨tx, ty, tz, x, y, z, rfl, ⟨hx, nx, x1, x2⟩, ⟨hy, ny, y1, y2⟩, ⟨hz, nz, z1, z2⟩⟩ := three dx dl hg
  have sx : Sm 1000000 x := ⟨by omega, by omega⟩
  have sy : Sm 1000000 y := ⟨by omega, by omega⟩
  have sz : Sm 1000000 z := ⟨by omega, by omega⟩
  have i0 : ∀ a b : Int, atI [V.int a, V.int b] 0 = some (.int a) := fun _ _ => rfl
  have i1 : ∀ a b : Int, atI [V.int a, V.int b] 1 = some (.int b) := fun _ _ => rfl
  have n12 := den2 fp nx ny
  have m22 := mul_lt x2 y2
  refine ⟨D, [.ref tx, .ref ty, .ref tz], rfl, sqL_of hD, rfl, .ref tx, [.ref ty, .ref tz], rfl, .ref ty, [.ref tz], rfl, .ref tz, [], rfl, rfl, ?_⟩
  have f1l : F l = none := f2.none_of hl2
  have f1l : F l = none := f2.none_of hl2
  have f1l : F l = none := f2.none_of hl2
  clear dx dl hg hD b3 f2 f3 nD
  have hx3 := Same.tup f1 hx
  have hy3 := Same.tup f1 hy
  have h3x := hx3
  have h3y := hy3
  refine ⟨_, rfl, _, rfl, tx, _, _, _, rfl, rfl, h3x, i0 _ _, _, rfl, ty, _, _, _, rfl, rfl, h3y, i1 _ _, _, _, rfl, rfl, .inl ⟨by omega, by omega⟩, _, rfl, ty, _, _, _, rfl, rfl, h3y, i0 _ _, _, rfl, tx, _, _, _, rfl, rfl, h3x, i1 _ _, _, _, rfl, rfl, .inl ⟨by omega, by omega⟩, _, _, rfl, rfl, _, rfl, tx, _, _, _, rfl, rfl, h3x, i1 _ _, _, rfl, ty, _, _, _, rfl, rfl, h3y, i1 _ _, _, _, rfl, rfl, .inl ⟨by omega, by omega⟩, p, _, _, rfl, fp, n12, fun _ => by omega, fun t1 nt1 => ⟨by show 1 ≤ sizeLine; decide, fun q nq => ?_⟩⟩
  have lt1 := ne_of_none hl3 nt1
  have lq : l ≠ q := ne_of_none (show (upd H3 t1 _) l = some _ by rw [upd_ne lt1]; exact hl3) nq
  generalize hg : upd (upd H3 t1 _) q _ = H5
  have D5 : DueAt K H5 q (upd F t1 (.tup [.int (nPlus p x y).1, .int (nPlus p x y).2])) [.ref t1] [dN (nPlus p x y)] := by
    rw [← hg]
    obtain ⟨b1, b2, b3⟩ := same_both (o := .tup [.int (nPlus p x y).1, .int (nPlus p x y).2]) f1 nt1
    exact ⟨upd_same, .cons (pair_dp (sqT_of upd_same)) .nil, in_upd b1 (b1.free nq), b1.free nq⟩
  have g5 : Same F (upd F t1 (.tup [.int (nPlus p x y).1, .int (nPlus p x y).2])) := same_new (f1.free nt1)
  have hl5 : H5 l = some (.lst (e3.map V.int)) := by rw [← hg, upd_ne lq, upd_ne lt1]; exact hl3
  clear hg nq
  revert D5 g5; generalize upd F t1 _ = F5; intro D5 g5
  have h5x := Same.tup (g5.trans D5.part) hx
  have h5y := Same.tup (g5.trans D5.part) hy
  refine ⟨_, rfl, .inl ⟨rfl, _, sqL_of D5.here⟩, _, rfl, _, rfl, tx, _, _, _, rfl, rfl, h5x, i0 _ _, _, rfl, ty, _, _, _, rfl, rfl, h5y, i1 _ _, _, _, rfl, rfl, .inl ⟨by omega, by omega⟩, _, rfl, ty, _, _, _, rfl, rfl, h5y, i0 _ _, _, rfl, tx, _, _, _, rfl, rfl, h5x, i1 _ _, _, _, rfl, rfl, .inl ⟨by omega, by omega⟩, _, _, rfl, rfl, _, rfl, tx, _, _, _, rfl, rfl, h5x, i1 _ _, _, rfl, ty, _, _, _, rfl, rfl, h5y, i1 _ _, _, _, rfl, rfl, .inl ⟨by omega, by omega⟩, p, _, _, rfl, fp, n12, fun _ => by omega, fun t2 nt2 => ⟨q, _, _, rfl, rfl, (D5.new nt2 _).here, by show 1 < sizeLine; decide, ?_⟩⟩
  have lt2 := ne_of_none hl5 nt2
  generalize hg : upd (upd H5 t2 _) q _ = H6
  have D6 := D5.app nt2 (nMinus p x y).1 (nMinus p x y).2
  have g6 := g5.trans (D5.sameF nt2 (.tup [.int (nMinus p x y).1, .int (nMinus p x y).2]))
  rw [show upd (upd H5 t2 (.tup [.int (nMinus p x y).1, .int (nMinus p x y).2])) q (.lst ([.ref t1] ++ [.ref t2])) = H6 from hg] at D6
  have hl6 : H6 l = some (.lst (e3.map V.int)) := by rw [← hg, upd_ne lq, upd_ne lt2]; exact hl5
  clear hg
  revert D6 g6; generalize upd F5 t2 _ = F6; intro D6 g6
  have h6x := Same.tup (g6.trans D6.part) hx
  have h6y := Same.tup (g6.trans D6.part) hy
  refine ⟨_, rfl, .inl ⟨rfl, _, sqL_of D6.here⟩, _, rfl, _, rfl, tx, _, _, _, rfl, rfl, h6x, i0 _ _, _, rfl, ty, _, _, _, rfl, rfl, h6y, i0 _ _, _, _, rfl, rfl, .inl ⟨by omega, by omega⟩, _, rfl, tx, _, _, _, rfl, rfl, h6x, i1 _ _, _, rfl, ty, _, _, _, rfl, rfl, h6y, i1 _ _, _, _, rfl, rfl, .inl ⟨by omega, by omega⟩, p, _, _, rfl, fp, n12, fun _ => by omega, fun t3 nt3 => ⟨q, _, _, rfl, rfl, (D6.new nt3 _).here, by show 2 < sizeLine; decide, ?_⟩⟩
  have lt3 := ne_of_none hl6 nt3
  generalize hg : upd (upd H6 t3 _) q _ = H7
  have D7 := D6.app nt3 (nTimes p x y).1 (nTimes p x y).2
  have g7 := g6.trans (D6.sameF nt3 (.tup [.int (nTimes p x y).1, .int (nTimes p x y).2]))
  rw [show upd (upd H6 t3 (.tup [.int (nTimes p x y).1, .int (nTimes p x y).2])) q (.lst ([.ref t1] ++ [.ref t2] ++ [.ref t3])) = H7 from hg] at D7
  have hl7 : H7 l = some (.lst (e3.map V.int)) := by rw [← hg, upd_ne lq, upd_ne lt3]; exact hl6
  clear hg
  revert D7 g7; generalize upd F6 t3 _ = F7; intro D7 g7
  -- due.append('!b')
  refine ⟨_, rfl, .inl ⟨rfl, _, sqL_of D7.here⟩, q, _, _, rfl, rfl, D7.here, by show 3 < sizeLine; decide, ?_⟩
  have D8 := D7.put (dpAll_snoc D7.dp (.str "!b"))
  have hl8 : (upd H7 q (.lst ([.ref t1] ++ [.ref t2] ++ [.ref t3] ++ [.str "!b"]))) l = some (.lst (e3.map V.int)) := by rw [upd_ne lq]; exact hl7
  generalize hg : upd H7 q _ = H8
  rw [show upd H7 q (.lst ([.ref t1] ++ [.ref t2] ++ [.ref t3] ++ [.str "!b"])) = H8 from hg] at D8 hl8
  clear hg
  -- if y[0] != 0
  have h8x := Same.tup (g7.trans D8.part) hx
  have h8y := Same.tup (g7.trans D8.part) hy
  have no := over_ok fp nx ny
  refine ⟨fun σ H' => σ = [some (.ref a0), some (.ref l), some (.int p), some (.ref tx), some (.ref ty), some (.ref tz), some (.ref q), none, none, none] ∧ ∃ (F' : Hp) (vs : List V), Same F F' ∧
    DueAt K H' q F' vs [dN (nPlus p x y), dN (nMinus p x y), dN (nTimes p x y), if numOk p (x.2 * y.1) = true then dN (num p (x.1 * y.2) (x.2 * y.1)) else .str "!b"] ∧ H' l = some (.lst (e3.map V.int)), ?_, ?_⟩
  · refine ⟨_, rfl, ty, _, _, _, rfl, rfl, h8y, i0 _ _, rfl, _, rfl, ?_⟩
    refine iteB (fun c => ?_) (fun c => ?_)
    · rw [vint_eq] at c
      have nk : numOk p (x.2 * y.1) = true := no.trans c
      have m21 := mul_lt x2 y1
      refine ⟨_, rfl, _, rfl, tx, _, _, _, rfl, rfl, h8x, i0 _ _, _, rfl, ty, _, _, _, rfl, rfl, h8y, i1 _ _, _, _, rfl, rfl, .inl ⟨by omega, by omega⟩, _, rfl, tx, _, _, _, rfl, rfl, h8x, i1 _ _, _, rfl, ty, _, _, _, rfl, rfl, h8y, i0 _ _, _, _, rfl, rfl, .inl ⟨by omega, by omega⟩, p, _, _, rfl, fp, nk, fun _ => by omega, fun t4 nt4 => ?_⟩
      have lt4 := ne_of_none hl8 nt4
      have N := D8.new nt4 (.tup [.int (num p (x.1 * y.2) (x.2 * y.1)).1, .int (num p (x.1 * y.2) (x.2 * y.1)).2])
      have N2 := N.put (dpAll_set (pair_dp (sqT_of upd_same)) 3 N.dp)
      refine ⟨_, rfl, q, _, 3, 3, rfl, rfl, N.here, rfl, ?_⟩
      rw [if_pos nk]
      exact ⟨rfl, _, _, g7.trans (D8.sameF nt4 _), N2, by rw [upd_ne lq, upd_ne lt4]; exact hl8⟩
    · rw [vint_eq] at c
      have nk : numOk p (x.2 * y.1) = false := no.trans c
      rw [if_neg (by rw [nk]; decide)]
      exact ⟨rfl, F7, _, g7, D8, hl8⟩
  clear D5 D6 D7 D8 h3x h3y hx3 hy3 h5x h5y h6x h6y h8x h8y hl3 hl5 hl6 hl7 hl8 g5 g6 g7
  rintro σ H9 ⟨rfl, F9, vs, g9, D9, hl9⟩
  -- repr(..) != repr(due)
  have nmx : isNum p x.1 x.2 = true := nx
  have nmy : isNum p y.1 y.2 = true := ny
  have h9x := Same.tup (g9.trans D9.part) hx
  have h9y := Same.tup (g9.trans D9.part) hy
  have wb : ∀ w : Int, 0 ≤ w → w < 4 → (rawW w x y).2.natAbs < 1000000000 := fun w w0 w4 => by
    have m21 := mul_lt x2 y1
    have hw : w = 0 ∨ w = 1 ∨ w = 2 ∨ w = 3 := by omega
    rcases hw with rfl | rfl | rfl | rfl
    · show (x.2 * y.2).natAbs < _; omega
    · show (x.2 * y.2).natAbs < _; omega
    · show (x.2 * y.2).natAbs < _; omega
    · show (x.2 * y.1).natAbs < _; omega
  have e1 : (List.range 4).map (fun w : Nat => toldB (w : Int) p x y) = [dN (nPlus p x y), dN (nMinus p x y), dN (nTimes p x y), if numOk p (x.2 * y.1) = true then dN (num p (x.1 * y.2) (x.2 * y.1)) else .str "!b"] := by
    have u : ∀ w : Nat, toldB (w : Int) p x y = if numOk p (rawW w x y).2 = true then dN (num p (rawW w x y).1 (rawW w x y).2) else .str "!b" := fun w => by
      unfold toldB
      rw [if_neg (by rw [fp]; decide), if_neg (by rw [nmx]; decide), if_neg (by rw [nmy]; decide)]
    rw [show (List.range 4).map (fun w : Nat => toldB (w : Int) p x y) = List.map _ (List.range 4) from List.map_congr_left (fun w _ => u w)]
    show [if numOk p (x.2 * y.2) = true then dN (nPlus p x y) else .str "!b", if numOk p (x.2 * y.2) = true then dN (nMinus p x y) else .str "!b", if numOk p (x.2 * y.2) = true then dN (nTimes p x y) else .str "!b", if numOk p (x.2 * y.1) = true then dN (num p (x.1 * y.2) (x.2 * y.1)) else .str "!b"] = _
    rw [if_pos n12, if_pos n12, if_pos n12]
  have nice : Nice 60000 (.list [dN (nPlus p x y), dN (nMinus p x y), dN (nTimes p x y), if numOk p (x.2 * y.1) = true then dN (num p (x.1 * y.2) (x.2 * y.1)) else .str "!b"]) := by
    have lg : ∀ i : Int, i.natAbs < 2 ^ 200 → i.natAbs.log2 < 1920 := fun i h => Nat.lt_trans (log_lt h (by decide)) (by decide)
    have b1 := bd_plus fp nx ny x1 x2 y1 y2
    have b3 := bd_times fp nx ny x1 x2 y1 y2
    have b2 : (nMinus p x y).1.natAbs < 10000 ∧ (nMinus p x y).2.natAbs < 10000 := by
      have := num_le (a := x.1 * y.2 - y.1 * x.2) fp n12
      have a1 := mul_lt x1 y2
      have a2 := mul_lt y1 x2
      unfold nMinus
      omega
    refine nice_list (n := 5000) (fun d hd => ?_) ?_ (by show 5000 * 4 + 2 * 4 + 3 ≤ 60000; decide)
    · simp only [List.mem_cons, List.not_mem_nil, or_false] at hd
      rcases hd with rfl | rfl | rfl | rfl
      · exact nice_pair (lg _ (by omega)) (lg _ (by omega))
      · exact nice_pair (lg _ (by omega)) (lg _ (by omega))
      · exact nice_pair (lg _ (by omega)) (lg _ (by omega))
      · split
        · rename_i n
          have := num_le (a := x.1 * y.2) fp n
          have a1 := mul_lt x1 y2
          have a2 := mul_lt x2 y1
          exact nice_pair (lg _ (by omega)) (lg _ (by omega))
        · exact nice_str (by decide +kernel)
    · split <;> simp [PyData.depthAll, PyData.depth]
  refine rd_test (rd_op (rd_cb (rd_cons (lc_data (K := K) (n := 4) (fun w => toldB (w : Int) p x y) (by decide) ?_ ?_ ?_ ?_))))
  · exact fun Q' q => q
  · intro x; rfl
  · intro i H' Q' hi s' k'
    exact ⟨_, rfl, _, rfl, _, rfl, _, rfl, (i : Int), p, tx, ty, x, y, rfl, Same.tup s' h9x, Same.tup s' h9y, sx, sy, wb _ (by omega) (by omega), by omega, by omega, k'⟩
  intro D H12 G xs nD s12 hD g1 g2 g3 dx
  rw [e1] at dx
  refine rd_nil (repr_rd (.lst (sqL_of hD) (dpAll_same g1 dx)) nice (by decide) ?_)
  refine ⟨_, rfl, ?_⟩
  refine rd_nil (repr_rd (.lst (sqL_of (s12 q _ D9.here)) (dpAll_same (D9.part.trans s12) D9.dp)) nice (by decide) ?_)
  refine ⟨rfl, _, rfl, ?_⟩
  rw [decide_eq_true rfl]
  refine iteF ?_
  have gF : Same F H12 := (g9.trans D9.part).trans s12
  have hl12 := s12 l _ hl9
  clear dx D9 nice hD g1 g2 g3 nD s12 hl9 g9 e1 h9x h9y wb
  -- sums in another group
  have hX := Same.tup gF hx
  have hY := Same.tup gF hy
  have hZ := Same.tup gF hz
  have n23 := den2 fp ny nz
  have bxy := bd_plus fp nx ny x1 x2 y1 y2
  have byz := bd_plus fp ny nz y1 y2 z1 z2
  have cxy := bd_times fp nx ny x1 x2 y1 y2
  have cyz := bd_times fp ny nz y1 y2 z1 z2
  have cxz := bd_times fp nx nz x1 x2 z1 z2
  have pxy := nok_plus fp nx ny
  have pyz := nok_plus fp ny nz
  have qxy := nok_times fp nx ny
  have qyz := nok_times fp ny nz
  have qxz := nok_times fp nx nz
  have big : ∀ {a b : Int} {n m : Nat}, a.natAbs ≤ n → b.natAbs ≤ m → n * m < 1000000000 → (a * b).natAbs < 1000000000 := fun h1 h2 h3 => Nat.lt_of_le_of_lt (mul_lt h1 h2) h3
  refine ⟨_, rfl, _, rfl, _, rfl, _, rfl, ?_⟩
  refine rd_nil ?_
  refine bin_ok (raw := rPlus) fp hX hY nx ny sx sy (big x2 y2 (by decide)) n12 (fun t1 n1 => ?_)
  refine ⟨_, rfl, ?_⟩
  refine rd_nil ?_
  refine bin_ok (raw := rPlus) (x := nPlus p x y) fp (sqT_of upd_same) (Same.tup (same_new n1) hZ) pxy nz ⟨by omega, by omega⟩ sz (big bxy.2 z2 (by decide)) (den2 fp pxy nz) (fun t2 n2 => ?_)
  have S12 := (same_new n1).trans (same_new n2 (o := .tup [.int (nPlus p (nPlus p x y) z).1, .int (nPlus p (nPlus p x y) z).2]))
  refine ⟨_, rfl, _, rfl, _, rfl, _, rfl, _, rfl, ?_⟩
  refine rd_nil ?_
  refine bin_ok (raw := rPlus) fp (Same.tup S12 hY) (Same.tup S12 hZ) ny nz sy sz (big y2 z2 (by decide)) n23 (fun t3 n3 => ?_)
  have S13 := S12.trans (same_new n3 (o := .tup [.int (nPlus p y z).1, .int (nPlus p y z).2]))
  refine rd_nil ?_
  refine bin_ok (raw := rPlus) (y := nPlus p y z) fp (Same.tup S13 hX) (sqT_of upd_same) nx pyz sx ⟨by omega, by omega⟩ (big x2 byz.2 (by decide)) (den2 fp nx pyz) (fun t4 n4 => ?_)
  have S14 := S13.trans (same_new n4 (o := .tup [.int (nPlus p x (nPlus p y z)).1, .int (nPlus p x (nPlus p y z)).2]))
  refine ne_pairs (A := nPlus p (nPlus p x y) z) (B := nPlus p x (nPlus p y z)) (pair_dp (Same.tup ((same_new n3).trans (same_new n4)) (sqT_of upd_same))) (pair_dp (sqT_of upd_same)) (plus_assoc fp nx ny nz) ⟨_, rfl, ?_⟩
  refine iteF ?_
  generalize hg : upd (upd (upd (upd H12 t1 _) t2 _) t3 _) t4 _ = J1
  have hlJ1 : J1 l = some (.lst (e3.map V.int)) := by rw [← hg]; exact S14 l _ hl12
  have gF : Same F J1 := by rw [← hg]; exact gF.trans S14
  have hX := Same.tup gF hx
  have hY := Same.tup gF hy
  have hZ := Same.tup gF hz
  clear hg S12 S13 S14 n1 n2 n3 n4
  -- products in another group
  refine ⟨_, rfl, _, rfl, _, rfl, _, rfl, ?_⟩
  refine rd_nil ?_
  refine bin_ok (raw := rTimes) fp hX hY nx ny sx sy (big x2 y2 (by decide)) n12 (fun t1 n1 => ?_)
  refine ⟨_, rfl, ?_⟩
  refine rd_nil ?_
  refine bin_ok (raw := rTimes) (x := nTimes p x y) fp (sqT_of upd_same) (Same.tup (same_new n1) hZ) qxy nz ⟨by omega, by omega⟩ sz (big cxy.2 z2 (by decide)) (den2 fp qxy nz) (fun t2 n2 => ?_)
  have S12 := (same_new n1).trans (same_new n2 (o := .tup [.int (nTimes p (nTimes p x y) z).1, .int (nTimes p (nTimes p x y) z).2]))
  refine ⟨_, rfl, _, rfl, _, rfl, _, rfl, _, rfl, ?_⟩
  refine rd_nil ?_
  refine bin_ok (raw := rTimes) fp (Same.tup S12 hY) (Same.tup S12 hZ) ny nz sy sz (big y2 z2 (by decide)) n23 (fun t3 n3 => ?_)
  have S13 := S12.trans (same_new n3 (o := .tup [.int (nTimes p y z).1, .int (nTimes p y z).2]))
  refine rd_nil ?_
  refine bin_ok (raw := rTimes) (y := nTimes p y z) fp (Same.tup S13 hX) (sqT_of upd_same) nx qyz sx ⟨by omega, by omega⟩ (big x2 cyz.2 (by decide)) (den2 fp nx qyz) (fun t4 n4 => ?_)
  have S14 := S13.trans (same_new n4 (o := .tup [.int (nTimes p x (nTimes p y z)).1, .int (nTimes p x (nTimes p y z)).2]))
  refine ne_pairs (A := nTimes p (nTimes p x y) z) (B := nTimes p x (nTimes p y z)) (pair_dp (Same.tup ((same_new n3).trans (same_new n4)) (sqT_of upd_same))) (pair_dp (sqT_of upd_same)) (times_assoc fp nx ny nz) ⟨_, rfl, ?_⟩
  refine iteF ?_
  generalize hg : upd (upd (upd (upd J1 t1 _) t2 _) t3 _) t4 _ = J2
  have hlJ2 : J2 l = some (.lst (e3.map V.int)) := by rw [← hg]; exact S14 l _ hlJ1
  have gF : Same F J2 := by rw [← hg]; exact gF.trans S14
  have hX := Same.tup gF hx
  have hY := Same.tup gF hy
  have hZ := Same.tup gF hz
  clear hg S12 S13 S14 n1 n2 n3 n4
  -- a product with a sum; a difference leads back
  refine ⟨_, rfl, _, rfl, _, rfl, _, rfl, _, rfl, ?_⟩
  refine rd_nil ?_
  refine bin_ok (raw := rPlus) fp hY hZ ny nz sy sz (big y2 z2 (by decide)) n23 (fun t1 n1 => ?_)
  refine rd_nil ?_
  refine bin_ok (raw := rTimes) (y := nPlus p y z) fp (Same.tup (same_new n1) hX) (sqT_of upd_same) nx pyz sx ⟨by omega, by omega⟩ (big x2 byz.2 (by decide)) (den2 fp nx pyz) (fun t2 n2 => ?_)
  have S12 := (same_new n1).trans (same_new n2 (o := .tup [.int (nTimes p x (nPlus p y z)).1, .int (nTimes p x (nPlus p y z)).2]))
  refine ⟨_, rfl, _, rfl, _, rfl, _, rfl, ?_⟩
  refine rd_nil ?_
  refine bin_ok (raw := rTimes) fp (Same.tup S12 hX) (Same.tup S12 hY) nx ny sx sy (big x2 y2 (by decide)) n12 (fun t3 n3 => ?_)
  have S13 := S12.trans (same_new n3 (o := .tup [.int (nTimes p x y).1, .int (nTimes p x y).2]))
  refine ⟨_, rfl, _, rfl, _, rfl, ?_⟩
  refine rd_nil ?_
  refine bin_ok (raw := rTimes) fp (Same.tup S13 hX) (Same.tup S13 hZ) nx nz sx sz (big x2 z2 (by decide)) (den2 fp nx nz) (fun t4 n4 => ?_)
  have S14 := S13.trans (same_new n4 (o := .tup [.int (nTimes p x z).1, .int (nTimes p x z).2]))
  refine rd_nil ?_
  refine bin_ok (raw := rPlus) (x := nTimes p x y) (y := nTimes p x z) fp (Same.tup (same_new n4) (sqT_of upd_same)) (sqT_of upd_same) qxy qxz ⟨by omega, by omega⟩ ⟨by omega, by omega⟩ (big cxy.2 cxz.2 (by decide)) (den2 fp qxy qxz) (fun t5 n5 => ?_)
  have S15 := S14.trans (same_new n5 (o := .tup [.int (nPlus p (nTimes p x y) (nTimes p x z)).1, .int (nPlus p (nTimes p x y) (nTimes p x z)).2]))
  refine ne_pairs (A := nTimes p x (nPlus p y z)) (B := nPlus p (nTimes p x y) (nTimes p x z)) (pair_dp (Same.tup ((same_new n3).trans ((same_new n4).trans (same_new n5))) (sqT_of upd_same))) (pair_dp (sqT_of upd_same)) (distrib fp nx ny nz) ⟨_, rfl, ?_⟩
  refine iteF ?_
  generalize hg : upd (upd (upd (upd (upd J2 t1 _) t2 _) t3 _) t4 _) t5 _ = J3
  have hlJ3 : J3 l = some (.lst (e3.map V.int)) := by rw [← hg]; exact S15 l _ hlJ2
  have gF : Same F J3 := by rw [← hg]; exact gF.trans S15
  have hX := Same.tup gF hx
  have hY := Same.tup gF hy
  clear hg S12 S13 S14 S15 n1 n2 n3 n4 n5
  refine ⟨_, rfl, _, rfl, _, rfl, _, rfl, ?_⟩
  refine rd_nil ?_
  refine bin_ok (raw := rPlus) fp hX hY nx ny sx sy (big x2 y2 (by decide)) n12 (fun t1 n1 => ?_)
  refine ⟨_, rfl, ?_⟩
  refine rd_nil ?_
  refine bin_ok (raw := rMinus) (x := nPlus p x y) fp (sqT_of upd_same) (Same.tup (same_new n1) hY) pxy ny ⟨by omega, by omega⟩ sy (big bxy.2 y2 (by decide)) (den2 fp pxy ny) (fun t2 n2 => ?_)
  have S12 := (same_new n1).trans (same_new n2 (o := .tup [.int (nMinus p (nPlus p x y) y).1, .int (nMinus p (nPlus p x y) y).2]))
  refine ⟨_, rfl, ?_⟩
  refine ne_pairs (A := nMinus p (nPlus p x y) y) (B := x) (pair_dp (sqT_of upd_same)) (pair_dp (Same.tup S12 hX)) (minus_plus fp nx ny) ⟨_, rfl, ?_⟩
  refine iteF ?_
  generalize hg : upd (upd J3 t1 _) t2 _ = J4
  have hlJ4 : J4 l = some (.lst (e3.map V.int)) := by rw [← hg]; exact S12 l _ hlJ3
  have gF : Same F J4 := by rw [← hg]; exact gF.trans S12
  clear hg S12 n1 n2 hX hY hZ
  -- bad
  refine ⟨by show 2 ≤ sizeLine; decide, fun b1 nb1 => ⟨_, rfl, by show 2 ≤ sizeLine; decide, fun b2 nb2 => ⟨by show 2 ≤ sizeLine; decide, fun b3 nb3 => ⟨by show 2 ≤ sizeLine; decide, fun b4 nb4 => ⟨by show 4 ≤ sizeLine; decide, fun qb nqb => ?_⟩⟩⟩⟩⟩
  have T1 := same_new (o := .tup [.int 2, .int 0]) nb1
  have T2 := same_new (o := .tup [.int 1, .int (-1)]) nb2
  have T3 := same_new (o := .tup [.int 4, .int 2]) nb3
  have T4 := same_new (o := .tup [.int 3, .int 6]) nb4
  have T5 := same_new (o := .lst [.ref b1, .ref b2, .ref b3, .ref b4]) nqb
  generalize hg : upd (upd (upd (upd (upd J4 b1 _) b2 _) b3 _) b4 _) qb _ = J5
  have hb1 : J5 b1 = some (.tup [.int 2, .int 0]) := by rw [← hg]; exact (T2.trans (T3.trans (T4.trans T5))) b1 _ upd_same
  have hb2 : J5 b2 = some (.tup [.int 1, .int (-1)]) := by rw [← hg]; exact (T3.trans (T4.trans T5)) b2 _ upd_same
  have hb3 : J5 b3 = some (.tup [.int 4, .int 2]) := by rw [← hg]; exact (T4.trans T5) b3 _ upd_same
  have hb4 : J5 b4 = some (.tup [.int 3, .int 6]) := by rw [← hg]; exact T5 b4 _ upd_same
  have hqb : J5 qb = some (.lst [.ref b1, .ref b2, .ref b3, .ref b4]) := by rw [← hg]; exact upd_same
  have TT := T1.trans (T2.trans (T3.trans (T4.trans T5)))
  have hlK : J5 l = some (.lst (e3.map V.int)) := by rw [← hg]; exact TT l _ hlJ4
  have gK : Same F J5 := by rw [← hg]; exact gF.trans TT
  have lqb : qb ≠ l := by
    intro e
    have := nqb
    rw [e] at this
    have h2 := (T1.trans (T2.trans (T3.trans T4))) l _ hlJ4
    exact absurd (h2.symm.trans this) (by intro z; cases z)
  clear hg T1 T2 T3 T4 T5 TT nb1 nb2 nb3 nb4 nqb
  refine ⟨_, rfl, l, _, rfl, hlK, fun d es => .inl ⟨_, rfl, _, _, rfl, rfl, by show (0 : Int) < 4; decide, ?_⟩⟩
  have md := emod3 d (m := 4) (by decide)
  obtain ⟨tb, bn, hat, htb, kb, s1, s2⟩ : ∃ (tb : Addr) (bn : N2), atI [V.ref b1, V.ref b2, V.ref b3, V.ref b4] (d % 4) = some (.ref tb) ∧ J5 tb = some (.tup [.int bn.1, .int bn.2]) ∧ (∀ p, isNum p bn.1 bn.2 = false) ∧ bn.1.natAbs < 10 ∧ bn.2.natAbs < 10 := by
    rcases (by omega : d % 4 = 0 ∨ d % 4 = 1 ∨ d % 4 = 2 ∨ d % 4 = 3) with e | e | e | e <;> rw [e]
    · exact ⟨b1, (2, 0), rfl, hb1, not_num (by decide) (.inl (by decide)), by decide, by decide⟩
    · exact ⟨b2, (1, -1), rfl, hb2, not_num (by decide) (.inl (by decide)), by decide, by decide⟩
    · exact ⟨b3, (4, 2), rfl, hb3, not_num (by decide) (.inr (by decide)), by decide, by decide⟩
    · exact ⟨b4, (3, 6), rfl, hb4, not_num (by decide) (.inr (by decide)), by decide, by decide⟩
  refine ⟨qb, _, _, _, rfl, rfl, sqL_of (by rw [upd_ne lqb]; exact hqb), hat, ?_⟩
  have tbl : tb ≠ l := ne_of htb hlK (by intro z; cases z)
  have sB : Sm 1000000 bn := ⟨by omega, by omega⟩
  -- for way in range(4)
  refine ⟨4, rfl, by decide, by decide, for_range (lo := 0) (n := 4) (fun i σ H' => ∃ v : Option V, σ = [some (.ref a0), some (.ref l), some (.int p), some (.ref tx), some (.ref ty), some (.ref tz), some (.ref q), v, some (.ref tb), none] ∧
    Same F H' ∧ SqT K H' tb [.int bn.1, .int bn.2]) ⟨_, rfl, in_upd gK f1l, sqT_of (by rw [upd_ne tbl]; exact htb)⟩ ?_ ?_⟩
  · rintro i σ H' hi ⟨v, rfl, gF, hB⟩
    refine ⟨_, rfl, _, rfl, _, rfl, (0 : Int) + (i : Int), 4, tb, tb, bn, bn, rfl, hB, hB, sB, sB, raw_small (by omega) (by omega) (by omega) (by omega), by omega, by omega, fun v1 H2 G s2 g1 g2 dv => ?_⟩
    refine rd_c ?_
    refine ne_strs (dp_same g1 _ _ dv) (.str _) (if_pos (by decide +kernel)) rfl (by decide +kernel) ?_
    refine ⟨_, rfl, ?_⟩
    refine iteF ?_
    refine ⟨_, rfl, _, rfl, _, rfl, _, rfl, (0 : Int) + (i : Int), p, tb, ty, bn, y, rfl, Same.tup s2 hB, Same.tup (gF.trans s2) hy, sB, sy, raw_small (by omega) (by omega) (by omega) (by omega), by omega, by omega, fun v2 H3 G2 s3 g3 g4 dv2 => ?_⟩
    refine rd_c ?_
    refine ne_strs (dp_same g3 _ _ dv2) (.str _) ?_ rfl (by decide +kernel) ?_
    · unfold toldB
      rw [if_neg (by rw [fp]; decide), if_pos (kb p)]
    refine ⟨_, rfl, ?_⟩
    refine iteF ?_
    refine ⟨_, rfl, _, rfl, _, rfl, _, rfl, (0 : Int) + (i : Int), p, tx, tb, x, bn, rfl, Same.tup (gF.trans (s2.trans s3)) hx, Same.tup (s2.trans s3) hB, sx, sB, raw_small (by omega) (by omega) (by omega) (by omega), by omega, by omega, fun v3 H4 G3 s4 g5 g6 dv3 => ?_⟩
    refine rd_c ?_
    refine ne_strs (dp_same g5 _ _ dv3) (.str _) ?_ rfl (by decide +kernel) ?_
    · unfold toldB
      rw [if_neg (by rw [fp]; decide), if_neg (by rw [nmx]; decide), if_pos (kb p)]
    refine ⟨_, rfl, ?_⟩
    refine iteF ?_
    exact ⟨_, rfl, gF.trans (s2.trans (s3.trans s4)), Same.tup (s2.trans (s3.trans s4)) hB⟩
  · rintro σ H' ⟨v, rfl, _⟩
    exact k _
end
def HasAd (K : PySem.W.Frag) (mg : Str → Option Value) (fa : Addr) : Prop := ∃ ad : Ad, Txt K mg ad ∧ ad.a_law = fa ∧ ∀ (s : Shared) (u : Value), BindsTo s ad.d_law ⟨[u], []⟩ [("script", u)]
theorem all_mk {K : PySem.W.Frag} {h : Heap} {mg : Str → Option Value} {fa : Addr} (X : K.In h) (G : h.Ns mainGlobals mg) (hfa : mg "law" = some (.ref fa))
    {f_is_field : Addr} {f_check_field : Addr} {f_is_number : Addr} {f_check_number : Addr} {f_number : Addr} {f__fraction : Addr} {f__rest : Addr} {f__check_both : Addr} {f_plus : Addr} {f_minus : Addr} {f_times : Addr} {f_over : Addr} {f__law_plain : Addr} {f__law_draws : Addr} {f__law_next : Addr} {f__law_field : Addr} {f__law_lowest : Addr} {f__law_brought : Addr} {f__law_number : Addr} {f__law_told : Addr} {f_law : Addr} {f_GraftError : Addr} {f_NotNumber : Addr} {f_BadNumber : Addr} {f_FIELDS : Addr} {oc_is_field kV_is_field dc_is_field pm_is_field cd_is_field ct_is_field : Value} {od_is_field an_is_field : Option Addr} {sv_is_field : Array (Option Value)} {oc_check_field kV_check_field dc_check_field pm_check_field cd_check_field ct_check_field : Value} {od_check_field an_check_field : Option Addr} {sv_check_field : Array (Option Value)} {oc_is_number kV_is_number dc_is_number pm_is_number cd_is_number ct_is_number : Value} {od_is_number an_is_number : Option Addr} {sv_is_number : Array (Option Value)} {oc_check_number kV_check_number dc_check_number pm_check_number cd_check_number ct_check_number : Value} {od_check_number an_check_number : Option Addr} {sv_check_number : Array (Option Value)} {dT_number : Addr} {iT_number : List Value} {nT_number : Nat} {oc_number kV_number dc_number pm_number cd_number ct_number : Value} {od_number an_number : Option Addr} {sv_number : Array (Option Value)} {oc2_number : Value} {od2_number : Option Addr} {sv2_number : Array (Option Value)} {oc__fraction kV__fraction dc__fraction pm__fraction cd__fraction ct__fraction : Value} {od__fraction an__fraction : Option Addr} {sv__fraction : Array (Option Value)} {oc__rest kV__rest dc__rest pm__rest cd__rest ct__rest : Value} {od__rest an__rest : Option Addr} {sv__rest : Array (Option Value)} {oc__check_both kV__check_both dc__check_both pm__check_both cd__check_both ct__check_both : Value} {od__check_both an__check_both : Option Addr} {sv__check_both : Array (Option Value)} {oc_plus kV_plus dc_plus pm_plus cd_plus ct_plus : Value} {od_plus an_plus : Option Addr} {sv_plus : Array (Option Value)} {oc_minus kV_minus dc_minus pm_minus cd_minus ct_minus : Value} {od_minus an_minus : Option Addr} {sv_minus : Array (Option Value)} {oc_times kV_times dc_times pm_times cd_times ct_times : Value} {od_times an_times : Option Addr} {sv_times : Array (Option Value)} {oc_over kV_over dc_over pm_over cd_over ct_over : Value} {od_over an_over : Option Addr} {sv_over : Array (Option Value)} {oc__law_plain kV__law_plain dc__law_plain pm__law_plain cd__law_plain ct__law_plain : Value} {od__law_plain an__law_plain : Option Addr} {sv__law_plain : Array (Option Value)} {oc__law_draws kV__law_draws dc__law_draws pm__law_draws cd__law_draws ct__law_draws : Value} {od__law_draws an__law_draws : Option Addr} {sv__law_draws : Array (Option Value)} {oc__law_next kV__law_next dc__law_next pm__law_next cd__law_next ct__law_next : Value} {od__law_next an__law_next : Option Addr} {sv__law_next : Array (Option Value)} {oc__law_field kV__law_field dc__law_field pm__law_field cd__law_field ct__law_field : Value} {od__law_field an__law_field : Option Addr} {sv__law_field : Array (Option Value)} {oc__law_lowest kV__law_lowest dc__law_lowest pm__law_lowest cd__law_lowest ct__law_lowest : Value} {od__law_lowest an__law_lowest : Option Addr} {sv__law_lowest : Array (Option Value)} {oc__law_brought kV__law_brought dc__law_brought pm__law_brought cd__law_brought ct__law_brought : Value} {od__law_brought an__law_brought : Option Addr} {sv__law_brought : Array (Option Value)} {oc__law_number kV__law_number dc__law_number pm__law_number cd__law_number ct__law_number : Value} {od__law_number an__law_number : Option Addr} {sv__law_number : Array (Option Value)} {oc__law_told kV__law_told dc__law_told pm__law_told cd__law_told ct__law_told : Value} {od__law_told an__law_told : Option Addr} {sv__law_told : Array (Option Value)} {oc_law kV_law dc_law pm_law cd_law ct_law : Value} {od_law an_law : Option Addr} {sv_law : Array (Option Value)} {tc_FIELDS : Option Addr} {ti_FIELDS : Array Value} {tn_FIELDS : Nat} {ts_FIELDS : Array (Option Value)}
    (a_is_field : PySem.W.nsIn K mainGlobals "is_field" = some (some (.ref f_is_field)))
    (l_is_field : K.lookup f_is_field = some ⟨oc_is_field, od_is_field, .func (PySem.W.fnOf "is_field" "is_field" (defArgs st_is_field) (defBody st_is_field) (defScope st_is_field) .none kV_is_field dc_is_field pm_is_field an_is_field cd_is_field ct_is_field), sv_is_field⟩)
    (c_is_field : PySem.W.codeIn K cd_is_field "is_field" = true)
    (k_is_field : PySem.W.keepIn K (.ref f_is_field) = true)
    (a_check_field : PySem.W.nsIn K mainGlobals "check_field" = some (some (.ref f_check_field)))
    (l_check_field : K.lookup f_check_field = some ⟨oc_check_field, od_check_field, .func (PySem.W.fnOf "check_field" "check_field" (defArgs st_check_field) (defBody st_check_field) (defScope st_check_field) .none kV_check_field dc_check_field pm_check_field an_check_field cd_check_field ct_check_field), sv_check_field⟩)
    (c_check_field : PySem.W.codeIn K cd_check_field "check_field" = true)
    (k_check_field : PySem.W.keepIn K (.ref f_check_field) = true)
    (a_is_number : PySem.W.nsIn K mainGlobals "is_number" = some (some (.ref f_is_number)))
    (l_is_number : K.lookup f_is_number = some ⟨oc_is_number, od_is_number, .func (PySem.W.fnOf "is_number" "is_number" (defArgs st_is_number) (defBody st_is_number) (defScope st_is_number) .none kV_is_number dc_is_number pm_is_number an_is_number cd_is_number ct_is_number), sv_is_number⟩)
    (c_is_number : PySem.W.codeIn K cd_is_number "is_number" = true)
    (k_is_number : PySem.W.keepIn K (.ref f_is_number) = true)
    (a_check_number : PySem.W.nsIn K mainGlobals "check_number" = some (some (.ref f_check_number)))
    (l_check_number : K.lookup f_check_number = some ⟨oc_check_number, od_check_number, .func (PySem.W.fnOf "check_number" "check_number" (defArgs st_check_number) (defBody st_check_number) (defScope st_check_number) .none kV_check_number dc_check_number pm_check_number an_check_number cd_check_number ct_check_number), sv_check_number⟩)
    (c_check_number : PySem.W.codeIn K cd_check_number "check_number" = true)
    (k_check_number : PySem.W.keepIn K (.ref f_check_number) = true)
    (a_number : PySem.W.nsIn K mainGlobals "number" = some (some (.ref f_number)))
    (l_number : K.lookup f_number = some ⟨oc_number, od_number, .func (PySem.W.fnOf "number" "number" (defArgs st_number) (defBody st_number) (defScope st_number) (.ref dT_number) kV_number dc_number pm_number an_number cd_number ct_number), sv_number⟩)
    (c_number : PySem.W.codeIn K cd_number "number" = true)
    (k_number : PySem.W.keepIn K (.ref f_number) = true)
    (dl_number : K.lookup dT_number = some ⟨oc2_number, od2_number, .seq iT_number.toArray nT_number, sv2_number⟩)
    (dv_number : Vals [V.int 1] iT_number)
    (a__fraction : PySem.W.nsIn K mainGlobals "_fraction" = some (some (.ref f__fraction)))
    (l__fraction : K.lookup f__fraction = some ⟨oc__fraction, od__fraction, .func (PySem.W.fnOf "_fraction" "_fraction" (defArgs st__fraction) (defBody st__fraction) (defScope st__fraction) .none kV__fraction dc__fraction pm__fraction an__fraction cd__fraction ct__fraction), sv__fraction⟩)
    (c__fraction : PySem.W.codeIn K cd__fraction "_fraction" = true)
    (k__fraction : PySem.W.keepIn K (.ref f__fraction) = true)
    (a__rest : PySem.W.nsIn K mainGlobals "_rest" = some (some (.ref f__rest)))
    (l__rest : K.lookup f__rest = some ⟨oc__rest, od__rest, .func (PySem.W.fnOf "_rest" "_rest" (defArgs st__rest) (defBody st__rest) (defScope st__rest) .none kV__rest dc__rest pm__rest an__rest cd__rest ct__rest), sv__rest⟩)
    (c__rest : PySem.W.codeIn K cd__rest "_rest" = true)
    (k__rest : PySem.W.keepIn K (.ref f__rest) = true)
    (a__check_both : PySem.W.nsIn K mainGlobals "_check_both" = some (some (.ref f__check_both)))
    (l__check_both : K.lookup f__check_both = some ⟨oc__check_both, od__check_both, .func (PySem.W.fnOf "_check_both" "_check_both" (defArgs st__check_both) (defBody st__check_both) (defScope st__check_both) .none kV__check_both dc__check_both pm__check_both an__check_both cd__check_both ct__check_both), sv__check_both⟩)
    (c__check_both : PySem.W.codeIn K cd__check_both "_check_both" = true)
    (k__check_both : PySem.W.keepIn K (.ref f__check_both) = true)
    (a_plus : PySem.W.nsIn K mainGlobals "plus" = some (some (.ref f_plus)))
    (l_plus : K.lookup f_plus = some ⟨oc_plus, od_plus, .func (PySem.W.fnOf "plus" "plus" (defArgs st_plus) (defBody st_plus) (defScope st_plus) .none kV_plus dc_plus pm_plus an_plus cd_plus ct_plus), sv_plus⟩)
    (c_plus : PySem.W.codeIn K cd_plus "plus" = true)
    (k_plus : PySem.W.keepIn K (.ref f_plus) = true)
    (a_minus : PySem.W.nsIn K mainGlobals "minus" = some (some (.ref f_minus)))
    (l_minus : K.lookup f_minus = some ⟨oc_minus, od_minus, .func (PySem.W.fnOf "minus" "minus" (defArgs st_minus) (defBody st_minus) (defScope st_minus) .none kV_minus dc_minus pm_minus an_minus cd_minus ct_minus), sv_minus⟩)
    (c_minus : PySem.W.codeIn K cd_minus "minus" = true)
    (k_minus : PySem.W.keepIn K (.ref f_minus) = true)
    (a_times : PySem.W.nsIn K mainGlobals "times" = some (some (.ref f_times)))
    (l_times : K.lookup f_times = some ⟨oc_times, od_times, .func (PySem.W.fnOf "times" "times" (defArgs st_times) (defBody st_times) (defScope st_times) .none kV_times dc_times pm_times an_times cd_times ct_times), sv_times⟩)
    (c_times : PySem.W.codeIn K cd_times "times" = true)
    (k_times : PySem.W.keepIn K (.ref f_times) = true)
    (a_over : PySem.W.nsIn K mainGlobals "over" = some (some (.ref f_over)))
    (l_over : K.lookup f_over = some ⟨oc_over, od_over, .func (PySem.W.fnOf "over" "over" (defArgs st_over) (defBody st_over) (defScope st_over) .none kV_over dc_over pm_over an_over cd_over ct_over), sv_over⟩)
    (c_over : PySem.W.codeIn K cd_over "over" = true)
    (k_over : PySem.W.keepIn K (.ref f_over) = true)
    (a__law_plain : PySem.W.nsIn K mainGlobals "_law_plain" = some (some (.ref f__law_plain)))
    (l__law_plain : K.lookup f__law_plain = some ⟨oc__law_plain, od__law_plain, .func (PySem.W.fnOf "_law_plain" "_law_plain" (defArgs st__law_plain) (defBody st__law_plain) (defScope st__law_plain) .none kV__law_plain dc__law_plain pm__law_plain an__law_plain cd__law_plain ct__law_plain), sv__law_plain⟩)
    (c__law_plain : PySem.W.codeIn K cd__law_plain "_law_plain" = true)
    (k__law_plain : PySem.W.keepIn K (.ref f__law_plain) = true)
    (a__law_draws : PySem.W.nsIn K mainGlobals "_law_draws" = some (some (.ref f__law_draws)))
    (l__law_draws : K.lookup f__law_draws = some ⟨oc__law_draws, od__law_draws, .func (PySem.W.fnOf "_law_draws" "_law_draws" (defArgs st__law_draws) (defBody st__law_draws) (defScope st__law_draws) .none kV__law_draws dc__law_draws pm__law_draws an__law_draws cd__law_draws ct__law_draws), sv__law_draws⟩)
    (c__law_draws : PySem.W.codeIn K cd__law_draws "_law_draws" = true)
    (k__law_draws : PySem.W.keepIn K (.ref f__law_draws) = true)
    (a__law_next : PySem.W.nsIn K mainGlobals "_law_next" = some (some (.ref f__law_next)))
    (l__law_next : K.lookup f__law_next = some ⟨oc__law_next, od__law_next, .func (PySem.W.fnOf "_law_next" "_law_next" (defArgs st__law_next) (defBody st__law_next) (defScope st__law_next) .none kV__law_next dc__law_next pm__law_next an__law_next cd__law_next ct__law_next), sv__law_next⟩)
    (c__law_next : PySem.W.codeIn K cd__law_next "_law_next" = true)
    (k__law_next : PySem.W.keepIn K (.ref f__law_next) = true)
    (a__law_field : PySem.W.nsIn K mainGlobals "_law_field" = some (some (.ref f__law_field)))
    (l__law_field : K.lookup f__law_field = some ⟨oc__law_field, od__law_field, .func (PySem.W.fnOf "_law_field" "_law_field" (defArgs st__law_field) (defBody st__law_field) (defScope st__law_field) .none kV__law_field dc__law_field pm__law_field an__law_field cd__law_field ct__law_field), sv__law_field⟩)
    (c__law_field : PySem.W.codeIn K cd__law_field "_law_field" = true)
    (k__law_field : PySem.W.keepIn K (.ref f__law_field) = true)
    (a__law_lowest : PySem.W.nsIn K mainGlobals "_law_lowest" = some (some (.ref f__law_lowest)))
    (l__law_lowest : K.lookup f__law_lowest = some ⟨oc__law_lowest, od__law_lowest, .func (PySem.W.fnOf "_law_lowest" "_law_lowest" (defArgs st__law_lowest) (defBody st__law_lowest) (defScope st__law_lowest) .none kV__law_lowest dc__law_lowest pm__law_lowest an__law_lowest cd__law_lowest ct__law_lowest), sv__law_lowest⟩)
    (c__law_lowest : PySem.W.codeIn K cd__law_lowest "_law_lowest" = true)
    (k__law_lowest : PySem.W.keepIn K (.ref f__law_lowest) = true)
    (a__law_brought : PySem.W.nsIn K mainGlobals "_law_brought" = some (some (.ref f__law_brought)))
    (l__law_brought : K.lookup f__law_brought = some ⟨oc__law_brought, od__law_brought, .func (PySem.W.fnOf "_law_brought" "_law_brought" (defArgs st__law_brought) (defBody st__law_brought) (defScope st__law_brought) .none kV__law_brought dc__law_brought pm__law_brought an__law_brought cd__law_brought ct__law_brought), sv__law_brought⟩)
    (c__law_brought : PySem.W.codeIn K cd__law_brought "_law_brought" = true)
    (k__law_brought : PySem.W.keepIn K (.ref f__law_brought) = true)
    (a__law_number : PySem.W.nsIn K mainGlobals "_law_number" = some (some (.ref f__law_number)))
    (l__law_number : K.lookup f__law_number = some ⟨oc__law_number, od__law_number, .func (PySem.W.fnOf "_law_number" "_law_number" (defArgs st__law_number) (defBody st__law_number) (defScope st__law_number) .none kV__law_number dc__law_number pm__law_number an__law_number cd__law_number ct__law_number), sv__law_number⟩)
    (c__law_number : PySem.W.codeIn K cd__law_number "_law_number" = true)
    (k__law_number : PySem.W.keepIn K (.ref f__law_number) = true)
    (a__law_told : PySem.W.nsIn K mainGlobals "_law_told" = some (some (.ref f__law_told)))
    (l__law_told : K.lookup f__law_told = some ⟨oc__law_told, od__law_told, .func (PySem.W.fnOf "_law_told" "_law_told" (defArgs st__law_told) (defBody st__law_told) (defScope st__law_told) .none kV__law_told dc__law_told pm__law_told an__law_told cd__law_told ct__law_told), sv__law_told⟩)
    (c__law_told : PySem.W.codeIn K cd__law_told "_law_told" = true)
    (k__law_told : PySem.W.keepIn K (.ref f__law_told) = true)
    (a_law : PySem.W.nsIn K mainGlobals "law" = some (some (.ref f_law)))
    (l_law : K.lookup f_law = some ⟨oc_law, od_law, .func (PySem.W.fnOf "law" "law" (defArgs st_law) (defBody st_law) (defScope st_law) .none kV_law dc_law pm_law an_law cd_law ct_law), sv_law⟩)
    (c_law : PySem.W.codeIn K cd_law "law" = true)
    (k_law : PySem.W.keepIn K (.ref f_law) = true)
    (a_GraftError : PySem.W.nsIn K mainGlobals "GraftError" = some (some (.ref f_GraftError)))
    (a_NotNumber : PySem.W.nsIn K mainGlobals "NotNumber" = some (some (.ref f_NotNumber)))
    (a_BadNumber : PySem.W.nsIn K mainGlobals "BadNumber" = some (some (.ref f_BadNumber)))
    (k_GraftError : PySem.W.keepIn K (.ref f_GraftError) = true)
    (x_GraftError : PySem.W.excIn K f_GraftError vE "ValueError.__new__" = true)
    (s_GraftError : PySem.W.subIn K (.ref f_GraftError) (.type "BaseException") = some true)
    (t_GraftError : PySem.W.typeIn K (.ref f_GraftError) = some (.type "type"))
    (e1_GraftError : PySem.W.findIn K (.ref f_GraftError) "__getattribute__" = some (some (.builtin "BaseException.__getattribute__")))
    (e2_GraftError : PySem.W.findIn K (.ref f_GraftError) "__getattr__" = some none)
    (e3_GraftError : PySem.W.hasDictIn K f_GraftError = true)
    (e4_GraftError : PySem.W.findIn K (.ref f_GraftError) "__class__" = some (some (.builtin "object.__class__")))
    (e5_GraftError : PySem.W.mroIn K f_GraftError (.type "object") = some true)
    (u_GraftError_GraftError : PySem.W.subIn K (.ref f_GraftError) (.ref f_GraftError) = some true)
    (u_GraftError_NotNumber : PySem.W.subIn K (.ref f_GraftError) (.ref f_NotNumber) = some false)
    (u_GraftError_BadNumber : PySem.W.subIn K (.ref f_GraftError) (.ref f_BadNumber) = some false)
    (k_NotNumber : PySem.W.keepIn K (.ref f_NotNumber) = true)
    (x_NotNumber : PySem.W.excIn K f_NotNumber vE "ValueError.__new__" = true)
    (s_NotNumber : PySem.W.subIn K (.ref f_NotNumber) (.type "BaseException") = some true)
    (t_NotNumber : PySem.W.typeIn K (.ref f_NotNumber) = some (.type "type"))
    (e1_NotNumber : PySem.W.findIn K (.ref f_NotNumber) "__getattribute__" = some (some (.builtin "BaseException.__getattribute__")))
    (e2_NotNumber : PySem.W.findIn K (.ref f_NotNumber) "__getattr__" = some none)
    (e3_NotNumber : PySem.W.hasDictIn K f_NotNumber = true)
    (e4_NotNumber : PySem.W.findIn K (.ref f_NotNumber) "__class__" = some (some (.builtin "object.__class__")))
    (e5_NotNumber : PySem.W.mroIn K f_NotNumber (.type "object") = some true)
    (u_NotNumber_GraftError : PySem.W.subIn K (.ref f_NotNumber) (.ref f_GraftError) = some true)
    (u_NotNumber_NotNumber : PySem.W.subIn K (.ref f_NotNumber) (.ref f_NotNumber) = some true)
    (u_NotNumber_BadNumber : PySem.W.subIn K (.ref f_NotNumber) (.ref f_BadNumber) = some false)
    (k_BadNumber : PySem.W.keepIn K (.ref f_BadNumber) = true)
    (x_BadNumber : PySem.W.excIn K f_BadNumber vE "ValueError.__new__" = true)
    (s_BadNumber : PySem.W.subIn K (.ref f_BadNumber) (.type "BaseException") = some true)
    (t_BadNumber : PySem.W.typeIn K (.ref f_BadNumber) = some (.type "type"))
    (e1_BadNumber : PySem.W.findIn K (.ref f_BadNumber) "__getattribute__" = some (some (.builtin "BaseException.__getattribute__")))
    (e2_BadNumber : PySem.W.findIn K (.ref f_BadNumber) "__getattr__" = some none)
    (e3_BadNumber : PySem.W.hasDictIn K f_BadNumber = true)
    (e4_BadNumber : PySem.W.findIn K (.ref f_BadNumber) "__class__" = some (some (.builtin "object.__class__")))
    (e5_BadNumber : PySem.W.mroIn K f_BadNumber (.type "object") = some true)
    (u_BadNumber_GraftError : PySem.W.subIn K (.ref f_BadNumber) (.ref f_GraftError) = some true)
    (u_BadNumber_NotNumber : PySem.W.subIn K (.ref f_BadNumber) (.ref f_NotNumber) = some false)
    (u_BadNumber_BadNumber : PySem.W.subIn K (.ref f_BadNumber) (.ref f_BadNumber) = some true)
    (sp1 : PySem.W.specialIn K (.builtin "object.__class__") "__get__" = some (some (.builtin "getset_descriptor.__get__")))
    (sp2 : PySem.W.takesIn K (.builtin "object.__class__") = some true)
    (a_FIELDS : PySem.W.nsIn K mainGlobals "FIELDS" = some (some (.ref f_FIELDS)))
    (l_FIELDS : K.lookup f_FIELDS = some ⟨.type "tuple", tc_FIELDS, .seq ti_FIELDS tn_FIELDS, ts_FIELDS⟩)
    (v_FIELDS : ti_FIELDS.size ≤ sizeLine ∧ Vals [V.int 0, V.int 2, V.int 3, V.int 5, V.int 7, V.int 11, V.int 13, V.int 17, V.int 19, V.int 23, V.int 29, V.int 31] ti_FIELDS.toList)
    (m_abs : PySem.W.nsIn K mainGlobals "abs" = some none)
    (m_int : PySem.W.nsIn K mainGlobals "int" = some none)
    (m_isinstance : PySem.W.nsIn K mainGlobals "isinstance" = some none)
    (m_range : PySem.W.nsIn K mainGlobals "range" = some none)
    (m_repr : PySem.W.nsIn K mainGlobals "repr" = some none)
    (g_gcd : PySem.W.nsIn K mainGlobals "gcd" = some (some (.builtin "math.gcd")))
    : HasAd K mg fa := by
  have ef : f_law = fa := by
    have z := hfa.symm.trans (PySem.W.mg_of X G a_law)
    cases z; rfl
  subst ef
  have F_is_field := fun_mk (st := st_is_field) l_is_field c_is_field k_is_field
  have b_is_field := F_is_field.binds (ps := ["p"]) fun _ _ _ _ _ _ us hl => match us, hl with | [_], _ => rfl
  have F_check_field := fun_mk (st := st_check_field) l_check_field c_check_field k_check_field
  have b_check_field := F_check_field.binds (ps := ["p"]) fun _ _ _ _ _ _ us hl => match us, hl with | [_], _ => rfl
  have F_is_number := fun_mk (st := st_is_number) l_is_number c_is_number k_is_number
  have b_is_number := F_is_number.binds (ps := ["p", "x"]) fun _ _ _ _ _ _ us hl => match us, hl with | [_, _], _ => rfl
  have F_check_number := fun_mk (st := st_check_number) l_check_number c_check_number k_check_number
  have b_check_number := F_check_number.binds (ps := ["p", "x"]) fun _ _ _ _ _ _ us hl => match us, hl with | [_, _], _ => rfl
  have F_number : FunD K "number" "number" (defArgs st_number) (defBody st_number) (defScope st_number) [V.int 1] [] f_number _ := ⟨⟨_, _, _, _, _, _, _, _, _, _, rfl, l_number, c_number, .inr ⟨(by intro z; cases z), _, _, _, _, rfl, dl_number, rfl, dv_number⟩, .inl rfl⟩, k_number⟩
  obtain ⟨ds_number, dvs_number, b_number⟩ := F_number.binds1 (ps := ["p", "a", "b"]) 3 1 (by intro z; cases z) (by rfl) (fun _ _ _ _ _ _ _ us its hl hl2 => match us, its, hl, hl2 with | [_, _, _], [_], _, _ => ⟨_, rfl, rfl⟩)
  cases dvs_number
  have F__fraction := fun_mk (st := st__fraction) l__fraction c__fraction k__fraction
  have b__fraction := F__fraction.binds (ps := ["a", "b"]) fun _ _ _ _ _ _ us hl => match us, hl with | [_, _], _ => rfl
  have F__rest := fun_mk (st := st__rest) l__rest c__rest k__rest
  have b__rest := F__rest.binds (ps := ["p", "a", "b"]) fun _ _ _ _ _ _ us hl => match us, hl with | [_, _, _], _ => rfl
  have F__check_both := fun_mk (st := st__check_both) l__check_both c__check_both k__check_both
  have b__check_both := F__check_both.binds (ps := ["p", "x", "y"]) fun _ _ _ _ _ _ us hl => match us, hl with | [_, _, _], _ => rfl
  have F_plus := fun_mk (st := st_plus) l_plus c_plus k_plus
  have b_plus := F_plus.binds (ps := ["p", "x", "y"]) fun _ _ _ _ _ _ us hl => match us, hl with | [_, _, _], _ => rfl
  have F_minus := fun_mk (st := st_minus) l_minus c_minus k_minus
  have b_minus := F_minus.binds (ps := ["p", "x", "y"]) fun _ _ _ _ _ _ us hl => match us, hl with | [_, _, _], _ => rfl
  have F_times := fun_mk (st := st_times) l_times c_times k_times
  have b_times := F_times.binds (ps := ["p", "x", "y"]) fun _ _ _ _ _ _ us hl => match us, hl with | [_, _, _], _ => rfl
  have F_over := fun_mk (st := st_over) l_over c_over k_over
  have b_over := F_over.binds (ps := ["p", "x", "y"]) fun _ _ _ _ _ _ us hl => match us, hl with | [_, _, _], _ => rfl
  have F__law_plain := fun_mk (st := st__law_plain) l__law_plain c__law_plain k__law_plain
  have b__law_plain := F__law_plain.binds (ps := ["cell"]) fun _ _ _ _ _ _ us hl => match us, hl with | [_], _ => rfl
  have F__law_draws := fun_mk (st := st__law_draws) l__law_draws c__law_draws k__law_draws
  have b__law_draws := F__law_draws.binds (ps := ["script"]) fun _ _ _ _ _ _ us hl => match us, hl with | [_], _ => rfl
  have F__law_next := fun_mk (st := st__law_next) l__law_next c__law_next k__law_next
  have b__law_next := F__law_next.binds (ps := ["draws"]) fun _ _ _ _ _ _ us hl => match us, hl with | [_], _ => rfl
  have F__law_field := fun_mk (st := st__law_field) l__law_field c__law_field k__law_field
  have b__law_field := F__law_field.binds (ps := ["draws"]) fun _ _ _ _ _ _ us hl => match us, hl with | [_], _ => rfl
  have F__law_lowest := fun_mk (st := st__law_lowest) l__law_lowest c__law_lowest k__law_lowest
  have b__law_lowest := F__law_lowest.binds (ps := ["a", "b"]) fun _ _ _ _ _ _ us hl => match us, hl with | [_, _], _ => rfl
  have F__law_brought := fun_mk (st := st__law_brought) l__law_brought c__law_brought k__law_brought
  have b__law_brought := F__law_brought.binds (ps := ["p", "a", "b"]) fun _ _ _ _ _ _ us hl => match us, hl with | [_, _, _], _ => rfl
  have F__law_number := fun_mk (st := st__law_number) l__law_number c__law_number k__law_number
  have b__law_number := F__law_number.binds (ps := ["draws", "p"]) fun _ _ _ _ _ _ us hl => match us, hl with | [_, _], _ => rfl
  have F__law_told := fun_mk (st := st__law_told) l__law_told c__law_told k__law_told
  have b__law_told := F__law_told.binds (ps := ["way", "p", "x", "y"]) fun _ _ _ _ _ _ us hl => match us, hl with | [_, _, _, _], _ => rfl
  have F_law := fun_mk (st := st_law) l_law c_law k_law
  have b_law := F_law.binds (ps := ["script"]) fun _ _ _ _ _ _ us hl => match us, hl with | [_], _ => rfl
  refine ⟨{
      a_is_field := f_is_field, d_is_field := _,
      a_check_field := f_check_field, d_check_field := _,
      a_is_number := f_is_number, d_is_number := _,
      a_check_number := f_check_number, d_check_number := _,
      a_number := f_number, d_number := _,
      a__fraction := f__fraction, d__fraction := _,
      a__rest := f__rest, d__rest := _,
      a__check_both := f__check_both, d__check_both := _,
      a_plus := f_plus, d_plus := _,
      a_minus := f_minus, d_minus := _,
      a_times := f_times, d_times := _,
      a_over := f_over, d_over := _,
      a__law_plain := f__law_plain, d__law_plain := _,
      a__law_draws := f__law_draws, d__law_draws := _,
      a__law_next := f__law_next, d__law_next := _,
      a__law_field := f__law_field, d__law_field := _,
      a__law_lowest := f__law_lowest, d__law_lowest := _,
      a__law_brought := f__law_brought, d__law_brought := _,
      a__law_number := f__law_number, d__law_number := _,
      a__law_told := f__law_told, d__law_told := _,
      a_law := f_law, d_law := _,
      a_GraftError := f_GraftError,
      a_NotNumber := f_NotNumber,
      a_BadNumber := f_BadNumber,
      a_FIELDS := f_FIELDS }, {
      F_is_field := F_is_field, b_is_field := b_is_field, g_is_field := PySem.W.mg_of X G a_is_field, k_is_field := k_is_field,
      F_check_field := F_check_field, b_check_field := b_check_field, g_check_field := PySem.W.mg_of X G a_check_field, k_check_field := k_check_field,
      F_is_number := F_is_number, b_is_number := b_is_number, g_is_number := PySem.W.mg_of X G a_is_number, k_is_number := k_is_number,
      F_check_number := F_check_number, b_check_number := b_check_number, g_check_number := PySem.W.mg_of X G a_check_number, k_check_number := k_check_number,
      F_number := F_number, b_number := b_number, g_number := PySem.W.mg_of X G a_number, k_number := k_number,
      F__fraction := F__fraction, b__fraction := b__fraction, g__fraction := PySem.W.mg_of X G a__fraction, k__fraction := k__fraction,
      F__rest := F__rest, b__rest := b__rest, g__rest := PySem.W.mg_of X G a__rest, k__rest := k__rest,
      F__check_both := F__check_both, b__check_both := b__check_both, g__check_both := PySem.W.mg_of X G a__check_both, k__check_both := k__check_both,
      F_plus := F_plus, b_plus := b_plus, g_plus := PySem.W.mg_of X G a_plus, k_plus := k_plus,
      F_minus := F_minus, b_minus := b_minus, g_minus := PySem.W.mg_of X G a_minus, k_minus := k_minus,
      F_times := F_times, b_times := b_times, g_times := PySem.W.mg_of X G a_times, k_times := k_times,
      F_over := F_over, b_over := b_over, g_over := PySem.W.mg_of X G a_over, k_over := k_over,
      F__law_plain := F__law_plain, b__law_plain := b__law_plain, g__law_plain := PySem.W.mg_of X G a__law_plain, k__law_plain := k__law_plain,
      F__law_draws := F__law_draws, b__law_draws := b__law_draws, g__law_draws := PySem.W.mg_of X G a__law_draws, k__law_draws := k__law_draws,
      F__law_next := F__law_next, b__law_next := b__law_next, g__law_next := PySem.W.mg_of X G a__law_next, k__law_next := k__law_next,
      F__law_field := F__law_field, b__law_field := b__law_field, g__law_field := PySem.W.mg_of X G a__law_field, k__law_field := k__law_field,
      F__law_lowest := F__law_lowest, b__law_lowest := b__law_lowest, g__law_lowest := PySem.W.mg_of X G a__law_lowest, k__law_lowest := k__law_lowest,
      F__law_brought := F__law_brought, b__law_brought := b__law_brought, g__law_brought := PySem.W.mg_of X G a__law_brought, k__law_brought := k__law_brought,
      F__law_number := F__law_number, b__law_number := b__law_number, g__law_number := PySem.W.mg_of X G a__law_number, k__law_number := k__law_number,
      F__law_told := F__law_told, b__law_told := b__law_told, g__law_told := PySem.W.mg_of X G a__law_told, k__law_told := k__law_told,
      F_law := F_law, b_law := b_law, g_law := PySem.W.mg_of X G a_law, k_law := k_law,
      g_GraftError := PySem.W.mg_of X G a_GraftError, k_GraftError := k_GraftError, x_GraftError := x_GraftError, s_GraftError := s_GraftError, t_GraftError := t_GraftError, e_GraftError := ⟨e1_GraftError, e2_GraftError, s_GraftError, e3_GraftError, e4_GraftError, sp1, sp2, e5_GraftError⟩,
      i_GraftError_GraftError := kit_of u_GraftError_GraftError (fun _ => u_GraftError_GraftError) e3_GraftError t_GraftError, m_GraftError_GraftError := PySem.W.exm_ref s_GraftError e3_GraftError t_GraftError u_GraftError_GraftError,
      i_GraftError_NotNumber := kit_of u_GraftError_NotNumber (fun _ => u_GraftError_GraftError) e3_NotNumber t_NotNumber, m_GraftError_NotNumber := PySem.W.exm_ref s_NotNumber e3_NotNumber t_NotNumber u_GraftError_NotNumber,
      i_GraftError_BadNumber := kit_of u_GraftError_BadNumber (fun _ => u_GraftError_GraftError) e3_BadNumber t_BadNumber, m_GraftError_BadNumber := PySem.W.exm_ref s_BadNumber e3_BadNumber t_BadNumber u_GraftError_BadNumber,
      g_NotNumber := PySem.W.mg_of X G a_NotNumber, k_NotNumber := k_NotNumber, x_NotNumber := x_NotNumber, s_NotNumber := s_NotNumber, t_NotNumber := t_NotNumber, e_NotNumber := ⟨e1_NotNumber, e2_NotNumber, s_NotNumber, e3_NotNumber, e4_NotNumber, sp1, sp2, e5_NotNumber⟩,
      i_NotNumber_GraftError := kit_of u_NotNumber_GraftError (fun _ => u_NotNumber_NotNumber) e3_GraftError t_GraftError, m_NotNumber_GraftError := PySem.W.exm_ref s_GraftError e3_GraftError t_GraftError u_NotNumber_GraftError,
      i_NotNumber_NotNumber := kit_of u_NotNumber_NotNumber (fun _ => u_NotNumber_NotNumber) e3_NotNumber t_NotNumber, m_NotNumber_NotNumber := PySem.W.exm_ref s_NotNumber e3_NotNumber t_NotNumber u_NotNumber_NotNumber,
      i_NotNumber_BadNumber := kit_of u_NotNumber_BadNumber (fun _ => u_NotNumber_NotNumber) e3_BadNumber t_BadNumber, m_NotNumber_BadNumber := PySem.W.exm_ref s_BadNumber e3_BadNumber t_BadNumber u_NotNumber_BadNumber,
      g_BadNumber := PySem.W.mg_of X G a_BadNumber, k_BadNumber := k_BadNumber, x_BadNumber := x_BadNumber, s_BadNumber := s_BadNumber, t_BadNumber := t_BadNumber, e_BadNumber := ⟨e1_BadNumber, e2_BadNumber, s_BadNumber, e3_BadNumber, e4_BadNumber, sp1, sp2, e5_BadNumber⟩,
      i_BadNumber_GraftError := kit_of u_BadNumber_GraftError (fun _ => u_BadNumber_BadNumber) e3_GraftError t_GraftError, m_BadNumber_GraftError := PySem.W.exm_ref s_GraftError e3_GraftError t_GraftError u_BadNumber_GraftError,
      i_BadNumber_NotNumber := kit_of u_BadNumber_NotNumber (fun _ => u_BadNumber_BadNumber) e3_NotNumber t_NotNumber, m_BadNumber_NotNumber := PySem.W.exm_ref s_NotNumber e3_NotNumber t_NotNumber u_BadNumber_NotNumber,
      i_BadNumber_BadNumber := kit_of u_BadNumber_BadNumber (fun _ => u_BadNumber_BadNumber) e3_BadNumber t_BadNumber, m_BadNumber_BadNumber := PySem.W.exm_ref s_BadNumber e3_BadNumber t_BadNumber u_BadNumber_BadNumber,
      g_FIELDS := PySem.W.mg_of X G a_FIELDS, v_FIELDS := fun _ => .inr ⟨_, _, _, l_FIELDS, rfl, rfl, v_FIELDS.1, v_FIELDS.2⟩,
      m_abs := PySem.W.mg_none_of X G m_abs,
      m_int := PySem.W.mg_none_of X G m_int,
      m_isinstance := PySem.W.mg_none_of X G m_isinstance,
      m_range := PySem.W.mg_none_of X G m_range,
      m_repr := PySem.W.mg_none_of X G m_repr,
      g_gcd := PySem.W.mg_of X G g_gcd }, rfl, fun s u => ?_⟩
  exact .of_eq rfl
theorem has_fd {P : Program} {w : World} {K : PySem.W.Frag} {mg : Str → Option Value} {fa : Addr} (e : HasAd K mg fa) : ∃ fd : FuncData, (∀ (s : Shared) (u : Value), BindsTo s fd ⟨[u], []⟩ [("script", u)]) ∧
    ∀ base : Heap, K.In base → base.Ns mainGlobals mg → FnAt callerA P w K mg base CX0 fa fd ["script"] (spLaw K) := by
  obtain ⟨ad, T, rfl, bd⟩ := e
  exact ⟨ad.d_law, bd, fun base _ _ => ok_law T⟩
end Gw
open PySem PySem.W PyProof.Rows
set_option maxRecDepth 100000 in
set_option maxHeartbeats 0 in
theorem PySem.Challenge.cw_graftworth_k01_sums_and_products_holds : PySem.Challenge.rw_graftworth_k01_sums_and_products.Holds := by
  w_on; o_law; k_head; (case hw => w_witness2)
  k_fill
  refine Gw.law_walk (l := PySem.Challenge.rw_graftworth_k01_sums_and_products) (n := 63) (x := "script") (sp := Gw.spLaw) rfl (by decide) rfl (fun w h Y => PySem.W.kIn_of Y) ?F ?S
  case F =>
    intro w mg fa h KX G hmg
    refine Gw.has_fd ?_
    refine' Gw.all_mk KX G hmg ?a_is_field ?l_is_field ?c_is_field ?k_is_field ?a_check_field ?l_check_field ?c_check_field ?k_check_field ?a_is_number ?l_is_number ?c_is_number ?k_is_number ?a_check_number ?l_check_number ?c_check_number ?k_check_number ?a_number ?l_number ?c_number ?k_number ?dl_number ?dv_number ?a__fraction ?l__fraction ?c__fraction ?k__fraction ?a__rest ?l__rest ?c__rest ?k__rest ?a__check_both ?l__check_both ?c__check_both ?k__check_both ?a_plus ?l_plus ?c_plus ?k_plus ?a_minus ?l_minus ?c_minus ?k_minus ?a_times ?l_times ?c_times ?k_times ?a_over ?l_over ?c_over ?k_over ?a__law_plain ?l__law_plain ?c__law_plain ?k__law_plain ?a__law_draws ?l__law_draws ?c__law_draws ?k__law_draws ?a__law_next ?l__law_next ?c__law_next ?k__law_next ?a__law_field ?l__law_field ?c__law_field ?k__law_field ?a__law_lowest ?l__law_lowest ?c__law_lowest ?k__law_lowest ?a__law_brought ?l__law_brought ?c__law_brought ?k__law_brought ?a__law_number ?l__law_number ?c__law_number ?k__law_number ?a__law_told ?l__law_told ?c__law_told ?k__law_told ?a_law ?l_law ?c_law ?k_law ?a_GraftError ?a_NotNumber ?a_BadNumber ?k_GraftError ?x_GraftError ?s_GraftError ?t_GraftError ?e1_GraftError ?e2_GraftError ?e3_GraftError ?e4_GraftError ?e5_GraftError ?u_GraftError_GraftError ?u_GraftError_NotNumber ?u_GraftError_BadNumber ?k_NotNumber ?x_NotNumber ?s_NotNumber ?t_NotNumber ?e1_NotNumber ?e2_NotNumber ?e3_NotNumber ?e4_NotNumber ?e5_NotNumber ?u_NotNumber_GraftError ?u_NotNumber_NotNumber ?u_NotNumber_BadNumber ?k_BadNumber ?x_BadNumber ?s_BadNumber ?t_BadNumber ?e1_BadNumber ?e2_BadNumber ?e3_BadNumber ?e4_BadNumber ?e5_BadNumber ?u_BadNumber_GraftError ?u_BadNumber_NotNumber ?u_BadNumber_BadNumber ?sp1 ?sp2 ?a_FIELDS ?l_FIELDS ?v_FIELDS ?m_abs ?m_int ?m_isinstance ?m_range ?m_repr ?g_gcd
    (case a_is_field => k_is)
    (case l_is_field => k_is)
    (case c_is_field => k_is)
    (case k_is_field => k_is)
    (case a_check_field => k_is)
    (case l_check_field => k_is)
    (case c_check_field => k_is)
    (case k_check_field => k_is)
    (case a_is_number => k_is)
    (case l_is_number => k_is)
    (case c_is_number => k_is)
    (case k_is_number => k_is)
    (case a_check_number => k_is)
    (case l_check_number => k_is)
    (case c_check_number => k_is)
    (case k_check_number => k_is)
    (case a_number => k_is)
    (case l_number => k_is)
    (case c_number => k_is)
    (case k_number => k_is)
    (case dl_number => k_is)
    (case dv_number => first | exact ⟨_, rfl⟩ | exact ⟨by decide, by repeat (first | exact Gw.vs_nil | refine Gw.vs_int ?_ | refine Gw.vs_str ?_)⟩ | (repeat (first | exact Gw.vs_nil | refine Gw.vs_int ?_ | refine Gw.vs_str ?_)) | exact ⟨_, rfl⟩)
    (case a__fraction => k_is)
    (case l__fraction => k_is)
    (case c__fraction => k_is)
    (case k__fraction => k_is)
    (case a__rest => k_is)
    (case l__rest => k_is)
    (case c__rest => k_is)
    (case k__rest => k_is)
    (case a__check_both => k_is)
    (case l__check_both => k_is)
    (case c__check_both => k_is)
    (case k__check_both => k_is)
    (case a_plus => k_is)
    (case l_plus => k_is)
    (case c_plus => k_is)
    (case k_plus => k_is)
    (case a_minus => k_is)
    (case l_minus => k_is)
    (case c_minus => k_is)
    (case k_minus => k_is)
    (case a_times => k_is)
    (case l_times => k_is)
    (case c_times => k_is)
    (case k_times => k_is)
    (case a_over => k_is)
    (case l_over => k_is)
    (case c_over => k_is)
    (case k_over => k_is)
    (case a__law_plain => k_is)
    (case l__law_plain => k_is)
    (case c__law_plain => k_is)
    (case k__law_plain => k_is)
    (case a__law_draws => k_is)
    (case l__law_draws => k_is)
    (case c__law_draws => k_is)
    (case k__law_draws => k_is)
    (case a__law_next => k_is)
    (case l__law_next => k_is)
    (case c__law_next => k_is)
    (case k__law_next => k_is)
    (case a__law_field => k_is)
    (case l__law_field => k_is)
    (case c__law_field => k_is)
    (case k__law_field => k_is)
    (case a__law_lowest => k_is)
    (case l__law_lowest => k_is)
    (case c__law_lowest => k_is)
    (case k__law_lowest => k_is)
    (case a__law_brought => k_is)
    (case l__law_brought => k_is)
    (case c__law_brought => k_is)
    (case k__law_brought => k_is)
    (case a__law_number => k_is)
    (case l__law_number => k_is)
    (case c__law_number => k_is)
    (case k__law_number => k_is)
    (case a__law_told => k_is)
    (case l__law_told => k_is)
    (case c__law_told => k_is)
    (case k__law_told => k_is)
    (case a_law => k_is)
    (case l_law => k_is)
    (case c_law => k_is)
    (case k_law => k_is)
    (case a_GraftError => k_is)
    (case a_NotNumber => k_is)
    (case a_BadNumber => k_is)
    (case k_GraftError => k_is)
    (case x_GraftError => k_exc)
    (case s_GraftError => k_is)
    (case t_GraftError => k_is)
    (case e1_GraftError => k_is)
    (case e2_GraftError => k_is)
    (case e3_GraftError => k_is)
    (case e4_GraftError => k_is)
    (case e5_GraftError => k_is)
    (case u_GraftError_GraftError => k_is)
    (case u_GraftError_NotNumber => k_is)
    (case u_GraftError_BadNumber => k_is)
    (case k_NotNumber => k_is)
    (case x_NotNumber => k_exc)
    (case s_NotNumber => k_is)
    (case t_NotNumber => k_is)
    (case e1_NotNumber => k_is)
    (case e2_NotNumber => k_is)
    (case e3_NotNumber => k_is)
    (case e4_NotNumber => k_is)
    (case e5_NotNumber => k_is)
    (case u_NotNumber_GraftError => k_is)
    (case u_NotNumber_NotNumber => k_is)
    (case u_NotNumber_BadNumber => k_is)
    (case k_BadNumber => k_is)
    (case x_BadNumber => k_exc)
    (case s_BadNumber => k_is)
    (case t_BadNumber => k_is)
    (case e1_BadNumber => k_is)
    (case e2_BadNumber => k_is)
    (case e3_BadNumber => k_is)
    (case e4_BadNumber => k_is)
    (case e5_BadNumber => k_is)
    (case u_BadNumber_GraftError => k_is)
    (case u_BadNumber_NotNumber => k_is)
    (case u_BadNumber_BadNumber => k_is)
    (case sp1 => k_is)
    (case sp2 => k_is)
    (case a_FIELDS => k_is)
    (case l_FIELDS => k_is)
    (case v_FIELDS => first | exact ⟨_, rfl⟩ | exact ⟨by decide, by repeat (first | exact Gw.vs_nil | refine Gw.vs_int ?_ | refine Gw.vs_str ?_)⟩ | (repeat (first | exact Gw.vs_nil | refine Gw.vs_int ?_ | refine Gw.vs_str ?_)) | exact ⟨_, rfl⟩)
    (case m_abs => k_is)
    (case m_int => k_is)
    (case m_isinstance => k_is)
    (case m_range => k_is)
    (case m_repr => k_is)
    (case g_gcd => k_is)
  case S =>
    intro K H a ns hl hS
    exact ⟨a, ns, rfl, hS, hl, fun _ => rfl⟩


