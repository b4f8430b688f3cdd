import PyProof.Rows.All
import Wide.All
import OpenK.AllK
import Wide.FinOn
import HandS.ForMost
import HandS.ForExc
import HandS.ExcIs
import HandS.Gcd
import HandS.RaiseMore
import HandS.Wide
import HandS.Style
import HandS.Defaults
import HandS.Flow
import HandS.Deep
import HandS.Evl
import HandS.Conv
import PyProof.ReprRoads
import PyProof.ReprLen
import PyProof.Rows.RegStrFacts
import HandS.Walk
import HandS.Ends
import PySem.Challenge.RW_graftworth_k03_series
set_option Elab.async false
set_option linter.all false
set_option maxRecDepth 100000
set_option maxHeartbeats 4000000
set_option Elab.async false
set_option linter.all false
set_option maxRecDepth 100000
set_option maxHeartbeats 4000000
namespace Gw
open PySem PySem.Spec PyProof.Rows L2
section
variable {X : Cx}
/-- repr of data, where nothing is being shown around -/
def rRepr (K : PySem.W.Frag) : List V → Hp → VK → Prop := fun xs H Q =>
  ∃ x d, xs = [x] ∧ Dp K H x d ∧ d.showable = true ∧ d.hasDict = false ∧ d.depth ≤ 60 ∧ d.shown.length ≤ sizeLine ∧ Q (.str d.shown) H
theorem cr_repr (hg : X.A.guards = some []) (hu : X.A.units + 100 < cLine) : CallR X (.builtin "repr") (rRepr X.K) := by
  intro pins s σ H xs us Q I r h
  obtain ⟨x, d, rfl, hd, hs, hh, hdep, hz, q⟩ := h
  obtain ⟨u, rfl, rx⟩ : ∃ u, us = [u] ∧ RelV x u := by
    cases r with
    | cons rx rn => cases rn; exact ⟨_, rfl, rx⟩
  obtain ⟨as, R⟩ := Dp.reads I d x u hd rx
  have fin : ∀ (h' : Heap) (t u : Tok), (∀ b o, s.heap.get? b = some o → h'.get? b = some o) → EP X pins σ Q (.str d.shown u) { s with heap := h', toks := t } :=
    fun h' t u hk => ⟨.str d.shown, H, I.kept (t' := t) hk, ⟨u, rfl⟩, q⟩
  cases R with
  | none =>
    refine PySem.P.repr_of_none ?_
    have := fin s.heap (s.toks + 1) s.toks (fun _ _ e => e)
    rw [PyData.shown_none] at this
    exact this
  | bool b =>
    refine PySem.P.repr_of_bool ?_
    have := fin s.heap (s.toks + 1) s.toks (fun _ _ e => e)
    rw [PyData.shown_bool] at this
    cases b <;> exact this
  | int i t =>
    refine PySem.P.repr_of_int (by simpa [PyData.showable] using hs) ?_
    have := fin s.heap (s.toks + 1) s.toks (fun _ _ e => e)
    rw [PyData.shown_int] at this
    exact this
  | str y t =>
    rw [PyData.shown_str] at hz
    refine PySem.P.repr_of_str ?_ hz
    have := fin s.heap (s.toks + 1) s.toks (fun _ _ e => e)
    rw [PyData.shown_str] at this
    exact this
  | list h1 h2 h3 h4 =>
    exact repr_of_reads' (.list h1 h2 h3 h4) hs (by rw [hh]; intro z; cases z) hg (by omega) (fun _ _ e => e) (fun h' u tk hk => fin h' tk u hk) hz
  | tuple h1 h2 h3 h4 =>
    exact repr_of_reads' (.tuple h1 h2 h3 h4) hs (by rw [hh]; intro z; cases z) hg (by omega) (fun _ _ e => e) (fun h' u tk hk => fin h' tk u hk) hz
  | dict h1 h2 h3 h4 h5 => cases hd
/-- isinstance(e, C) of the handled error e whose class is not written there -/
def rIsA (K : PySem.W.Frag) (cls : Value) (d : Option Addr) (a : Addr) : List V → Hp → VK → Prop := fun xs H Q =>
  ∃ D, cls = .ref D ∧ d = none ∧ ExcC K D ∧ rIsE K D a xs H Q
theorem cr_isA {a : Addr} {oe : Obj} {pn : List (Addr × Obj)} {cls : Value} {d : Option Addr} (hz : Zc cls d oe) (hf : ∃ vs, oe.data = .fields vs) :
    CallR (X.suite a ((a, oe) :: pn)) (.builtin "isinstance") (rIsA X.K cls d a) := by
  intro pins s σ H xs us Q I r h
  obtain ⟨D, rfl, rfl, C, h⟩ := h
  exact call_isE C hz hf pins s σ H xs us Q I r h
end
end Gw

set_option Elab.async false
set_option linter.all false
set_option maxRecDepth 100000
set_option maxHeartbeats 4000000
namespace Gw
open PySem PySem.Spec PyProof.Rows L2
/-! The end of a law whose own def shows data (repr): its promise at the one caller, around which nothing is being shown. -/
/-- a def's promise as it is kept around A alone -/
def FnAt (A : Around) (P : Program) (w : World) (K : PySem.W.Frag) (mg : Str → Option Value) (base : Heap) (CX : CXT) (f : Addr) (fd : FuncData) (ps : List Str) (sp : Sp) : Prop :=
  ∀ (outer : List Env) (s : Shared) (H : Hp) (ar : Args) (us : List Value) (vs : List V) (Q : VK) (E : XK), Env0 P w K mg base A outer s H →
    BindsTo s fd ar (ps.zip us) → Vals vs us → sp vs H Q E → codeAny (model P w) A (.call (.ref f) ar) (CR CX outer P w H s Q E) s
theorem fnAt_mk {A : Around} {CX : CXT} {P : Program} {w : World} {K : PySem.W.Frag} {mg : Str → Option Value} {base : Heap} {k : Nat} {f : Addr} {x q : Str} {st : Stmt} {fd : FuncData} {N ps : List Str} {sp : Sp}
    (F : Fun K x q st f fd) (S : FnScope N ps (defScope st)) (hr : Room (k + 1) A) (len : ∀ vs H Q E, sp vs H Q E → vs.length = ps.length)
    (hb : ∀ (cdv : Value) (outer : List Env) (s : Shared) (H : Hp) (vs : List V) (Q : VK) (E : XK), Room k (A.deeper (envOfC q (defScope st) s.heap.objs.size f cdv)) → sp vs H Q E →
      ∃ t, PSs (cxOf CX P w K mg base N q (defScope st) f cdv A outer s H E) (defBody st) t ∧ t { nx := fun _ H' => Q .non H', rt := Q } (start N vs) H) :
    FnAt A P w K mg base CX f fd ps sp := by
  obtain ⟨oc, od, kV, doc, pm, an, cdv, ct, osl, rfl, lk, hcd⟩ := F.ex
  intro outer s H ar us vs Q E e0 bd rv hsp
  have up : ∀ b o, base.get? b = some o → s.heap.get? b = some o := fun b o z => (e0.bs b o z).1
  have KX : K.In s.heap := e0.mod.kin.keeps up
  have nl : s.heap.NoLimit := e0.mod.nolimit.keeps up
  have kd : ∀ y ∈ ps.zip us, (defScope st).names.lookup y.1 = some .local ∨
      ((defScope st).names.lookup y.1 = some .cell ∧ ((cellsFrom (s.heap.objs.size + 1) (defScope st).names []).lookup y.1).isSome = true) := by
    rintro ⟨n, v⟩ hy
    cases S.par n (List.of_mem_zip hy).1 with
    | inl z => exact Or.inl z
    | inr z => exact Or.inr ⟨z, PySem.W.cellsFrom_some _ _ _ (Or.inl z)⟩
  apply codeAny_call_function hr.depth (KX _ _ lk) rfl S.co S.gen rfl (PySem.W.codeRec_of KX hcd)
  apply bd
  apply wpAny_newFunctionEnv_cells S.kind kd
  intro env he s1 ic
  subst he
  constructor
  · exact nl.keeps ic.toInCall.keep
  apply codeAny_func
  obtain ⟨t, ht, hq⟩ := hb cdv outer s H vs Q E (hr.deeper _) hsp
  have I0 := inv_start (CX := CX) (E := E) S hr.hd e0 (len _ _ _ _ hsp) rv ic
  apply wpAny_mono (ht.run [] s1 (start N vs) H _ I0 hq) _ (fun e s' z => z)
  intro fl s' z
  cases fl with
  | next => obtain ⟨σ', H', J, y⟩ := z; exact ⟨.non, H', J.os, J.bare, J.base, J.hok, rfl, y⟩
  | brk => obtain ⟨σ', H', J, y⟩ := z; exact y.elim
  | cont => obtain ⟨σ', H', J, y⟩ := z; exact y.elim
  | ret u => obtain ⟨v, σ', H', J, rr, y⟩ := z; exact ⟨v, H', J.os, J.bare, J.base, J.hok, rr, y⟩

/-- from an abstract heap H in which nothing but the script at a is told -/
theorem law_core {P : Program} {w : World} {K : PySem.W.Frag} {mg mb : Str → Option Value} {fa a : Addr} {fd : FuncData} {x : Str} {sp : Sp} {s₁ : Shared} {vs : List Value} {H : Hp}
    (KX : K.In s₁.heap) (hns : s₁.heap.Ns mainGlobals mg) (hb : s₁.heap.Ns builtinsNs mb) (hbb : ∀ x : Str, x ≠ "__name__" → mb x = bootBuiltins x) (hlim : s₁.heap.NoLimit) (hg : s₁.gens = #[])
    (ha : s₁.heap.get? a = some { cls := .type "list", data := .seq vs.toArray })
    (F : ∀ base : Heap, K.In base → base.Ns mainGlobals mg → FnAt callerA P w K mg base CX0 fa fd [x] sp) (bd : ∀ (s : Shared) (u : Value), BindsTo s fd ⟨[u], []⟩ [(x, u)])
    (ok : HOk P w H s₁.heap) (hA : ∀ b u, H b = some u → b = a ∧ K.lookup b = none ∧ ∃ o xs, u = .frz o (.lst xs)) (h : sp [.ref a] H (fun v _ => v = .bl true) fun _ _ _ => False) :
    codeAny (model P w) callerA (.call (.ref fa) ⟨[.ref a], []⟩) (fun r s' => r = .ok (.ret (.bool true)) ∧ OldK s₁.heap s'.heap ∧ s'.os = s₁.os ∧ AllBare s'.gens) s₁ := by
  have notIn : ∀ {b : Addr} {o : Obj}, K.lookup b = some o → H b = none := by
    intro b o e
    rcases q : H b with _ | u
    · rfl
    · have := (hA b u q).2.1; rw [e] at this; cases this
  have notDict : ∀ {b : Addr} {o : Obj} {es : Array DictEntry} {ep : Nat}, s₁.heap.get? b = some o → o.data = .dict es ep → H b = none := by
    intro b o es ep e d
    rcases q : H b with _ | u
    · rfl
    · obtain ⟨rfl, _⟩ := hA b u q
      rw [ha] at e
      cases e
      cases d
  have ns' : ∀ {b : Addr} {m : Str → Option Value}, s₁.heap.Ns b m → (hidT s₁.heap H).Ns b m := by
    rintro b m ⟨o, es, ep, e, d, z⟩
    exact ⟨o, es, ep, hidT_get e (notDict e d), d, z⟩
  have kb : K.In (hidT s₁.heap H) := fun b o e => hidT_get (KX b o e) (notIn e)
  obtain ⟨mc, l1, l2⟩ := hlim
  have md : Mod K mg (hidT s₁.heap H) := ⟨kb, ns' hns, ⟨mb, ns' hb, hbb⟩, ⟨mc, ns' l1, l2⟩⟩
  have nofr : frs ([] : List Env) = [] := rfl
  have e0 : Env0 P w K mg (hidT s₁.heap H) callerA [] s₁ H :=
    { frames := rfl, mod := md, bs := fun b o e => of_hidT e, bsz := Nat.le_of_eq (hidT_size _ _), funs := trivial, frf := fun b z => (by rw [nofr] at z; cases z), hok := ok, bare := .of_eq hg }
  apply codeAny_mono (F _ kb (ns' hns) [] s₁ H ⟨[.ref a], []⟩ [.ref a] [.ref a] _ _ e0 (bd s₁ (.ref a)) (.cons rfl .nil) h)
  intro r s' z
  rcases r with e | fl
  · cases r : (⟨e, s'⟩ : Value × Shared); exact False.elim z
  cases fl with
  | next => exact False.elim z
  | brk => exact False.elim z
  | cont => exact False.elim z
  | ret u =>
    obtain ⟨v, H', os, bare, un, ok', rr, q⟩ := z
    have q' : v = .bl true := q
    subst q'
    have eu : u = Value.bool true := rr
    subst eu
    refine ⟨rfl, OldK.of_keep ?_, os, bare⟩
    intro b o e
    rcases hq : H b with _ | u
    · exact un.keep b o e hq (by rw [nofr]; intro z; cases z) (by intro z; cases z)
    · obtain ⟨_, _, ob, xs, rfl⟩ := hA b u hq
      have e1 := (ok b _ hq).1
      have e2 := (ok' b _ (un.frzs b ob _ hq)).1
      rw [e] at e1
      cases e1
      exact e2

theorem vals_of_ints : ∀ {vs : List Value} {ns : List Int}, IntsAre vs ns → Vals (ns.map V.int) vs
  | _, _, .nil => .nil
  | _, _, .cons n t h => .cons ⟨t, rfl⟩ (vals_of_ints h)

theorem law_walk {l : PySem.W.OpenLaw} {n : Nat} {q : Program} {loose : List Str} {XP : (Str → Option Value) → Heap → Prop} {YP : World → Heap → Prop} {d : DefRec} {K : Params → PySem.W.Frag} {sp : PySem.W.Frag → Sp} {x : Str}
    (hn : l.most = some n) (hn2 : n ≤ sizeLine) (hdf : d.params.defaults = [])
    (hY : ∀ (w : World) (h : Heap), YP w h → (K w.params).In h)
    (F : ∀ (w : World) (mg : Str → Option Value) (fa : Addr) (h : Heap), (K w.params).In h → h.Ns mainGlobals mg → mg d.name = some (.ref fa) →
      ∃ fd : FuncData, (∀ (s : Shared) (u : Value), BindsTo s fd ⟨[u], []⟩ [(x, u)]) ∧
        ∀ base : Heap, (K w.params).In base → base.Ns mainGlobals mg → FnAt callerA l.prog w (K w.params) mg base CX0 fa fd [x] (sp (K w.params)))
    (hsp : ∀ (K : PySem.W.Frag) (H : Hp) (a : Addr) (ns : List Int), ns.length ≤ n → SqL K H a (ns.map V.int) → sp K [.ref a] H (fun v _ => v = .bl true) fun _ _ _ => False) :
    PySem.W.WalkO q loose XP YP l.row.toRowW d [] (fun f vs => PySem.call f vs) := by
  apply Att.attach_call hn hdf
  intro w s₀ s₁ mg mb fa o pm cd doc a vs ns G Y ho hd hcd hmg hobj hints hlen hg
  have KX := hY w _ Y
  obtain ⟨fd, bd, hF⟩ := F w mg fa _ KX G.T.g hmg
  have rv := vals_of_ints hints
  have lv := hints.length
  have hl := Nat.le_trans hlen hn2
  rcases hk : (K w.params).lookup a with _ | ob
  · refine law_core (H := fun b => if b = a then some (.frz { cls := .type "list", data := .seq vs.toArray } (.lst (ns.map V.int))) else none) KX G.T.g G.T.b G.T.builtins G.T.nolimit hg hobj hF bd ?_ ?_ ?_
    · intro b u z
      by_cases e : b = a
      · rw [e] at z ⊢
        have z' := (if_pos rfl).symm.trans z
        cases z'
        exact ⟨hobj, by rw [List.length_map]; exact hl, vs, _, rv, hobj⟩
      · have z' := (if_neg e).symm.trans z
        cases z'
    · intro b u z
      by_cases e : b = a
      · rw [e] at z ⊢
        have z' := (if_pos rfl).symm.trans z
        cases z'
        exact ⟨rfl, hk, _, _, rfl⟩
      · have z' := (if_neg e).symm.trans z
        cases z'
    · exact hsp _ _ a ns hlen (Or.inl (Or.inr ⟨_, if_pos rfl⟩))
  · have e := KX a ob hk
    rw [hobj] at e
    cases e
    refine law_core (H := fun _ => none) KX G.T.g G.T.b G.T.builtins G.T.nolimit hg hobj hF bd (fun b u z => by cases z) (fun b u z => by cases z) ?_
    exact hsp _ _ a ns hlen (Or.inr ⟨_, vs.toArray, _, hk, rfl, rfl, rfl, by rw [List.size_toArray, lv]; exact hl, by simpa using rv⟩)
end Gw

set_option Elab.async false
set_option linter.all false
set_option maxRecDepth 100000
set_option maxHeartbeats 4000000
namespace Gw
open PySem PySem.Spec PyProof.Rows L2
/-! What all laws share: bounds, heaps, the promises of the helpers that draw. -/
abbrev vE : List Value := [.type "ValueError", .type "Exception", .type "BaseException", .type "object"]
theorem hu64 {k : Nat} {A : Around} (r : Room k A) : A.units + 64 < cLine := by have := r.un; omega
theorem hu100 {k : Nat} {A : Around} (r : Room k A) : A.units + 100 < cLine := by have := r.un; omega
theorem le_line {n : Nat} (h : n ≤ 100000) : n ≤ sizeLine := Nat.le_trans h (by decide)
theorem lt_line {n : Nat} (h : n < 100000) : n < sizeLine := Nat.lt_of_lt_of_le h (by decide)
/-- all but what stands at l is as it was -/
def But (l : Addr) (H H' : Hp) : Prop := ∀ b o, b ≠ l → H b = some o → H' b = some o
theorem But.refl (l : Addr) (H : Hp) : But l H H := fun _ _ _ h => h
theorem But.trans {l : Addr} {H H1 H2 : Hp} (a : But l H H1) (b : But l H1 H2) : But l H H2 := fun c o n h => b c o n (a c o n h)
theorem But.upd {l : Addr} {H H1 : Hp} {o : HO} (a : But l H H1) : But l H (upd H1 l o) := fun c u n h => by rw [upd_ne n]; exact a c u n h
theorem But.of {l : Addr} {H H1 : Hp} (a : Same H H1) : But l H H1 := fun c o _ h => a c o h
theorem But.same {l : Addr} {H H1 H2 : Hp} (a : But l H H1) (b : Same H1 H2) : But l H H2 := fun c o n h => b c o (a c o n h)
theorem same_new {H : Hp} {p : Addr} {o : HO} (h : H p = none) : Same H (upd H p o) := fun b u e => by
  rw [upd_ne (ne_of_none e h)]
  exact e
theorem Same.tup {K : PySem.W.Frag} {H H' : Hp} {a : Addr} {xs : List V} (e : Same H H') (h : SqT K H a xs) : SqT K H' a xs := by
  rcases h with (h | ⟨o, h⟩) | h
  · exact .inl (.inl (e _ _ h))
  · exact .inl (.inr ⟨o, e _ _ h⟩)
  · exact .inr h
theorem But.tup {K : PySem.W.Frag} {l : Addr} {H H' : Hp} {a : Addr} {xs : List V} (e : But l H H') (n : a ≠ l) (h : SqT K H a xs) : SqT K H' a xs := by
  rcases h with (h | ⟨o, h⟩) | h
  · exact .inl (.inl (e _ _ n h))
  · exact .inl (.inr ⟨o, e _ _ n h⟩)
  · exact .inr h
theorem sqL_of {K : PySem.W.Frag} {H : Hp} {a : Addr} {xs : List V} (h : H a = some (.lst xs)) : SqL K H a xs := .inl (.inl h)
theorem sqT_of {K : PySem.W.Frag} {H : Hp} {a : Addr} {xs : List V} (h : H a = some (.tup xs)) : SqT K H a xs := .inl (.inl h)
theorem get_int {ns : List Int} {i : Nat} {y : V} (h : (ns.map V.int)[i]? = some y) : ∃ z, ns[i]? = some z ∧ y = V.int z := by
  rw [List.getElem?_map] at h
  cases e : ns[i]? with
  | none => rw [e] at h; cases h
  | some z => rw [e] at h; exact ⟨z, rfl, (Option.some.inj h).symm⟩
theorem iteB {A B : Prop} {c : Bool} (h1 : c = true → A) (h2 : c = false → B) : if c = true then A else B := by
  cases c
  · rw [if_neg Bool.false_ne_true]; exact h2 rfl
  · rw [if_pos rfl]; exact h1 rfl
theorem emod3 (x : Int) {m : Int} (h : 0 < m) : 0 ≤ x % m ∧ x % m < m := ⟨Int.emod_nonneg x (by omega), Int.emod_lt_of_pos x h⟩

/-! ### the helpers that draw -/
def plain (i : Int) : Int := if i < 0 then 0 - i else i
theorem plain_nonneg (i : Int) : 0 ≤ plain i := by unfold plain; split <;> omega
def sp_plain : Sp := fun vs H Q _ => ∃ i : Int, vs = [.int i] ∧ Q (.int (plain i)) H
/-- some new list of ints comes back -/
def sp_draws (K : PySem.W.Frag) : Sp := fun vs H Q _ => ∃ (a : Addr) (ns : List Int), vs = [.ref a] ∧ SqL K H a (ns.map V.int) ∧ ns.length ≤ 63 ∧
  ∀ (H' : Hp) (p : Addr) (ds : List Int), Same H H' → H p = none → H' p = some (.lst (ds.map V.int)) → Q (.ref p) H'
/-- some int comes back, and the list is some list of ints behind -/
def sp_next : Sp := fun vs H Q _ => ∃ (l : Addr) (ds : List Int), vs = [.ref l] ∧ H l = some (.lst (ds.map V.int)) ∧
  ∀ (d : Int) (ds' : List Int), Q (.int d) (upd H l (.lst (ds'.map V.int)))
theorem upd_id {H : Hp} {l : Addr} {o : HO} (h : H l = some o) : upd H l o = H := by
  funext b
  unfold upd
  split
  · rename_i e; rw [e, h]
  · rfl
/-- the law's own promise -/
def spLaw (K : PySem.W.Frag) : Sp := fun vs H Q _ => ∃ (a : Addr) (ns : List Int), vs = [.ref a] ∧ SqL K H a (ns.map V.int) ∧ ns.length ≤ 63 ∧ ∀ H', Q (.bl true) H'
end Gw
namespace Gw
open PySem PySem.Spec PyProof.Rows L2
/-! ### classes of errors; values of the top's constants -/
theorem kit_of {K : PySem.W.Frag} {C D : Addr} {b : Bool} (u : PySem.W.subIn K (.ref C) (.ref D) = some b) (h : b = false → PySem.W.subIn K (.ref C) (.ref C) = some true) (hd : PySem.W.hasDictIn K D = true)
    (ht : PySem.W.typeIn K (.ref D) = some (.type "type")) : PySem.W.kitOne K (.ref C) (.ref D) = some b := by
  obtain ⟨cd, hc, _⟩ := PySem.W.any_some hd
  have e2 : ((PySem.W.clsIn K D).isSome && PySem.W.typeIn K (.ref D) == some (.type "type")) = true := by rw [hc, ht] <;> rfl
  unfold PySem.W.kitOne
  by_cases e : (Value.ref C == Value.ref D) = true
  · rw [if_pos e]
    have e' : C = D := Value.ref.inj (beq_iff_eq.mp e)
    subst e'
    cases b
    · have := h rfl
      rw [u] at this
      cases this
    · rfl
  · rw [if_neg e]
    show (if ((PySem.W.clsIn K D).isSome && PySem.W.typeIn K (.ref D) == some (.type "type")) = true then PySem.W.subIn K (.ref C) (.ref D) else none) = some b
    rw [if_pos e2]
    exact u
theorem vs_nil : Vals [] [] := .nil
theorem vs_int {i : Int} {t : Tok} {l : List V} {m : List Value} (h : Vals l m) : Vals (V.int i :: l) (Value.int i t :: m) := .cons ⟨t, rfl⟩ h
theorem vs_str {i : Str} {t : Tok} {l : List V} {m : List Value} (h : Vals l m) : Vals (V.str i :: l) (Value.str i t :: m) := .cons ⟨t, rfl⟩ h
end Gw
namespace Gw
open PySem PySem.Spec PyProof.Rows L2
/-! ### a suite that tells a caught error's class by a sign: kinds = [isinstance(error, C1), isinstance(error, C2)]; return '!' + x[kinds.index(True)] -/
def tsTwo (K : PySem.W.Frag) (D1 D2 : Addr) (i1 i2 : Nat) (x : Str) : Addr → Value → Option Addr → TS := fun a cls d =>
  tSeq (tAsg (tLst (tCons (tCB (rIsA K cls d a) (tCons (tVar i1) (tCons (tC (V.ref D1)) tNil))) (tCons (tCB (rIsA K cls d a) (tCons (tVar i1) (tCons (tC (V.ref D2)) tNil))) tNil))) (gName i2))
    (tRet (tOp (fun x y H Q => ∃ i j, x = V.str i ∧ y = V.str j ∧ i.length + j.length ≤ sizeLine ∧ Q (V.str (i ++ j)) H) (tC (V.str "!"))
      (tOp rIxS (tC (V.str x)) (tBM K "list" (rIndex K) (tVar i2) (tCons (tC (V.bl true)) tNil)))))
theorem suite_two {K : PySem.W.Frag} {D1 D2 e C : Addr} {i1 i2 j c : Nat} {x : Str} {b1 b2 : Bool} {Dn : Ends} {σ : L2.St} {H : Hp} (eC : ExcC K C) (h1 : PySem.W.kitOne K (.ref C) (.ref D1) = some b1) (h2 : PySem.W.kitOne K (.ref C) (.ref D2) = some b2)
    (hs : σ[i1]? = some (some (.ref e))) (hi : i2 < σ.length) (hx : x.length ≤ 1000) (hj : [V.bl b1, V.bl b2][j]? = some (.bl true)) (hf : ∀ m z, m < j → [V.bl b1, V.bl b2][m]? = some z → eqV z (.bl true) = false) (hc : atI x.cps.toList (j : Int) = some c)
    (k : ∀ q, H q = none → Dn.rt (.str (("!" : Str) ++ ⟨#[c]⟩)) (upd H q (.lst [.bl b1, .bl b2]))) : tsTwo K D1 D2 i1 i2 x e (.ref C) none Dn σ H := by
  refine ⟨_, hs, _, rfl, rfl, eC, _, _, b1, rfl, (fun u r => r), h1, _, hs, _, rfl, rfl, eC, _, _, b2, rfl, (fun u r => r), h2, by show 2 ≤ sizeLine; decide, fun q nq => ?_⟩
  have g : (σ.set i2 (some (V.ref q)))[i2]? = some (some (V.ref q)) := by rw [List.getElem?_set_self hi]
  refine ⟨_, g, .inl ⟨rfl, _, sqL_of upd_same⟩, q, [V.bl b1, V.bl b2], .bl true, j, .bl true, rfl, rfl, sqL_of upd_same, rfl, rfl, hj, rfl, hf, ?_⟩
  refine ⟨x, (j : Int), c, rfl, rfl, Nat.le_trans hx (by decide), hc, _, _, rfl, rfl, ?_, k q nq⟩
  show 1 + 1 ≤ sizeLine
  decide
theorem eqv_pair (a b c d : Int) : PyData.eqv (.tuple [.int a, .int b]) (.tuple [.int c, .int d]) = decide ((a, b) = (c, d)) := by
  simp [PyData.eqv, PyData.eqvAll]
  by_cases h1 : a = c <;> by_cases h2 : b = d <;> simp [h1, h2]
theorem dp_same {K : PySem.W.Frag} {H H' : Hp} (s : Same H H') : ∀ (d : PyData) (v : V), Dp K H v d → Dp K H' v d := by
  intro d v h
  refine Dp.rec (motive_1 := fun v d _ => Dp K H' v d) (motive_2 := fun vs ds _ => DpAll K H' vs ds) ?_ ?_ ?_ ?_ ?_ ?_ ?_ ?_ h
  · exact .non
  · exact fun b => .bl b
  · exact fun i => .int i
  · exact fun x => .str x
  · exact fun hs _ ih => .lst (s.seq hs) ih
  · exact fun hs _ ih => .tup (Same.tup s hs) ih
  · exact .nil
  · exact fun _ _ i1 i2 => .cons i1 i2
theorem dpAll_same {K : PySem.W.Frag} {H H' : Hp} (s : Same H H') {vs : List V} {ds : List PyData} (h : DpAll K H vs ds) : DpAll K H' vs ds := by
  refine DpAll.rec (motive_1 := fun v d _ => Dp K H' v d) (motive_2 := fun vs ds _ => DpAll K H' vs ds) ?_ ?_ ?_ ?_ ?_ ?_ ?_ ?_ h
  · exact .non
  · exact fun b => .bl b
  · exact fun i => .int i
  · exact fun x => .str x
  · exact fun hs _ ih => .lst (s.seq hs) ih
  · exact fun hs _ ih => .tup (Same.tup s hs) ih
  · exact .nil
  · exact fun _ _ i1 i2 => .cons i1 i2
end Gw

set_option Elab.async false
set_option linter.all false
set_option maxRecDepth 100000
set_option maxHeartbeats 4000000
namespace Gw
open PySem PySem.Spec PyProof.Rows L2
/-! Data that a call hands out: held by a part F of the heap that was free ahead of the call. -/
def Off (F H : Hp) : Prop := ∀ b o, F b = some o → H b = none
theorem Off.trans {F H H1 : Hp} (s : Same H H1) (o : Off F H1) : Off F H := fun b u e => s.free (o b u e)
/-- both parts -/
def both (F G : Hp) : Hp := fun b => match F b with | some o => some o | none => G b
theorem both_l {F G : Hp} : Same F (both F G) := fun b o e => by unfold both; rw [e]
theorem both_r {F G : Hp} (h : ∀ b o u, F b = some o → G b = some u → False) : Same G (both F G) := fun b o e => by
  unfold both
  cases q : F b with
  | none => exact e
  | some u => exact (h b u o q e).elim
theorem both_in {F G H : Hp} (f : Same F H) (g : Same G H) : Same (both F G) H := fun b o e => by
  unfold both at e
  cases q : F b with
  | none => rw [q] at e; exact g b o e
  | some u => rw [q] at e; cases e; exact f b _ q
theorem both_off {F G H : Hp} (f : Off F H) (g : Off G H) : Off (both F G) H := fun b o e => by
  unfold both at e
  cases q : F b with
  | none => rw [q] at e; exact g b o e
  | some u => exact f b u q
def noH : Hp := fun _ => none
theorem noH_in (H : Hp) : Same noH H := fun _ _ e => by cases e
theorem noH_off (H : Hp) : Off noH H := fun _ _ e => by cases e
theorem in_upd {F H : Hp} {p : Addr} {o : HO} (f : Same F H) (n : F p = none) : Same F (upd H p o) := fun b u e => by
  rw [upd_ne (ne_of_none e n)]
  exact f b u e
theorem Off.none_of {F H : Hp} {p : Addr} {o : HO} (f : Off F H) (h : H p = some o) : F p = none := by
  cases q : F p with
  | none => rfl
  | some u => have := f p u q; rw [h] at this; cases this
theorem dpAll_snoc {K : PySem.W.Frag} {H : Hp} : ∀ {vs : List V} {ds : List PyData} {v : V} {d : PyData}, DpAll K H vs ds → Dp K H v d → DpAll K H (vs ++ [v]) (ds ++ [d])
  | _, _, _, _, .nil, h => .cons h .nil
  | _, _, _, _, .cons a b, h => .cons a (dpAll_snoc b h)
theorem dpAll_len {K : PySem.W.Frag} {H : Hp} : ∀ {vs : List V} {ds : List PyData}, DpAll K H vs ds → vs.length = ds.length
  | _, _, .nil => rfl
  | _, _, .cons a b => congrArg Nat.succ (dpAll_len b)
/-- [f(.., i, ..) for i in range(n)], each item new data -/
theorem lc_data {K : PySem.W.Frag} {te : TE} {ta : TA} {σ : L2.St} {H : Hp} {j n : Nat} {vs : List Nat} {Q : VK} (ds : Nat → PyData) (hn : n ≤ 1000)
    (ha : ∀ Q' : List V → Hp → Prop, Q' [.int (n : Int)] H → ta σ H Q') (hw : ∀ x, wipe ((wipe σ vs).set j (some x)) vs = wipe σ vs)
    (he : ∀ (i : Nat) (H1 : Hp) (Q' : VK), i < n → Same H H1 → (∀ (v : V) (H2 F : Hp), Same H1 H2 → Same F H2 → Off F H1 → Dp K F v (ds i) → Q' v H2) → te ((wipe σ vs).set j (some (.int (i : Int)))) H1 Q')
    (k : ∀ (D : Addr) (H2 F : Hp) (xs : List V), H D = none → Same H H2 → H2 D = some (.lst xs) → Same F H2 → Off F H → F D = none → DpAll K F xs ((List.range n).map ds) → Q (.ref D) H2) :
    tLc (iRng1 ta) (gName j) tYes te vs σ H Q := by
  refine ha _ ⟨(n : Int), rfl, by omega, by omega, fun D nD => ?_⟩
  have en : ((n : Int)).toNat = n := by omega
  rw [en]
  refine lc_range (lo := 0) (n := n) (fun i H' => ∃ (F : Hp) (xs : List V), Same H H' ∧ H' D = some (.lst xs) ∧ Same F H' ∧ Off F H ∧ F D = none ∧ DpAll K F xs ((List.range i).map ds))
    ⟨noH, [], same_new nD, upd_same, noH_in _, noH_off _, rfl, .nil⟩ ?_ ?_
  · rintro i H1 hi ⟨F, xs, s1, hD, f1, f2, f3, hd⟩
    have e0 : (0 : Int) + (i : Int) = (i : Int) := Int.zero_add _
    show wipe ((wipe σ vs).set j (some (.int ((0 : Int) + (i : Int))))) vs = wipe σ vs ∧ te ((wipe σ vs).set j (some (.int ((0 : Int) + (i : Int))))) H1 _
    rw [e0]
    refine ⟨hw _, he i H1 _ hi s1 fun v H2 G s2 g1 g2 dv => ⟨xs, s2 D _ hD, ?_, ?_⟩⟩
    · have := dpAll_len hd
      rw [List.length_map, List.length_range] at this
      exact lt_line (by omega)
    · have gD : G D = none := g2.none_of hD
      have dis : ∀ b o u, F b = some o → G b = some u → False := fun b o u e1 e2 => by
        have := g2 b u e2
        rw [f1 b o e1] at this
        cases this
      have bD : both F G D = none := by unfold both; rw [f3]; exact gD
      refine ⟨both F G, xs ++ [v], fun b o e => ?_, upd_same, in_upd (both_in (fun b o e => s2 b o (f1 b o e)) g1) bD, both_off f2 (g2.trans s1), bD, ?_⟩
      · rw [upd_ne (ne_of_none e nD)]
        exact s2 b o (s1 b o e)
      · rw [List.range_succ, List.map_append]
        exact dpAll_snoc (dpAll_same both_l hd) (dp_same (both_r dis) _ _ dv)
  · rintro H1 ⟨F, xs, s1, hD, f1, f2, f3, hd⟩
    exact k D H1 F xs nD s1 hD f1 f2 f3 hd
/-! ### what repr asks of data -/
structure Nice (n : Nat) (d : PyData) : Prop where
  sh : d.showable = true
  hd : d.hasDict = false
  dp : d.depth ≤ 20
  le : d.shown.length ≤ n
theorem Nice.mono {n m : Nat} {d : PyData} (h : Nice n d) (l : n ≤ m) : Nice m d := ⟨h.sh, h.hd, h.dp, Nat.le_trans h.le l⟩
theorem nice_none : Nice 2000 .none := ⟨by simp [PyData.showable], by simp [PyData.hasDict], by simp [PyData.depth], by rw [PyData.shown_none]; decide⟩
theorem nice_bool (b : Bool) : Nice 2000 (.bool b) := ⟨by simp [PyData.showable], by simp [PyData.hasDict], by simp [PyData.depth], by rw [PyData.shown_bool]; cases b <;> decide⟩
theorem nice_int {i : Int} (h : i.natAbs.log2 < 1920) : Nice 2000 (.int i) := ⟨by simp [PyData.showable, h], by simp [PyData.hasDict], by simp [PyData.depth], by
  rw [PyData.shown_int]
  exact Nat.le_trans (int_text_len_1921 h) (by decide)⟩
theorem nice_str {x : Str} {n : Nat} (h : (reprText x).length ≤ n) : Nice n (.str x) := ⟨by simp [PyData.showable], by simp [PyData.hasDict], by simp [PyData.depth], by rw [PyData.shown_str]; exact h⟩
theorem nice_all {n : Nat} : ∀ {ds : List PyData}, (∀ d ∈ ds, Nice n d) → PyData.showableAll ds = true ∧ PyData.hasDictAll ds = false ∧ PyData.depthAll ds ≤ 20 ∧ ((PyData.shownAll ds).map (·.length)).sum ≤ n * ds.length
  | [], _ => ⟨by simp [PyData.showableAll], by simp [PyData.hasDictAll], by simp [PyData.depthAll], by simp [PyData.shownAll]⟩
  | d :: ds, h => by
    have h0 := h d List.mem_cons_self
    obtain ⟨h1, h2, h3, h4⟩ := nice_all fun e he => h e (List.mem_cons_of_mem _ he)
    refine ⟨by simp [PyData.showableAll, h0.sh, h1], by simp [PyData.hasDictAll, h0.hd, h2], by simp [PyData.depthAll]; exact Nat.max_le.mpr ⟨h0.dp, h3⟩, ?_⟩
    rw [PyData.shownAll_cons, List.map_cons, List.sum_cons, List.length_cons, Nat.mul_succ]
    have := h0.le
    omega
theorem nice_list {n m : Nat} {ds : List PyData} (h : ∀ d ∈ ds, Nice n d) (hd : PyData.depthAll ds ≤ 19) (l : n * ds.length + 2 * ds.length + 3 ≤ m) : Nice m (.list ds) := by
  obtain ⟨h1, h2, h3, h4⟩ := nice_all h
  refine ⟨by simp [PyData.showable, h1], by simp [PyData.hasDict, h2], by simp [PyData.depth]; omega, ?_⟩
  show (listText (PyData.shownAll ds)).length ≤ m
  have := listText_len_le (PyData.shownAll ds)
  rw [PyData.shownAll_length] at this
  omega
theorem nice_tuple {n m : Nat} {ds : List PyData} (h : ∀ d ∈ ds, Nice n d) (hd : PyData.depthAll ds ≤ 19) (l : n * ds.length + 2 * ds.length + 3 ≤ m) : Nice m (.tuple ds) := by
  obtain ⟨h1, h2, h3, h4⟩ := nice_all h
  refine ⟨by simp [PyData.showable, h1], by simp [PyData.hasDict, h2], by simp [PyData.depth]; omega, ?_⟩
  show (tupleText (PyData.shownAll ds)).length ≤ m
  have := tupleText_len_le (PyData.shownAll ds)
  rw [PyData.shownAll_length] at this
  omega
theorem nice_pair {i j : Int} (h1 : i.natAbs.log2 < 1920) (h2 : j.natAbs.log2 < 1920) : Nice 5000 (.tuple [.int i, .int j]) := by
  refine nice_tuple (n := 2000) (fun d hd => ?_) (by simp [PyData.depthAll, PyData.depth]) (by simp)
  rcases List.mem_cons.mp hd with rfl | hd
  · exact nice_int h1
  · rcases List.mem_cons.mp hd with rfl | hd
    · exact nice_int h2
    · cases hd
theorem log_lt {i : Int} {n : Nat} (h : i.natAbs < 2 ^ n) (h0 : 0 < n) : i.natAbs.log2 < n := PySem.Flt.log2_lt_of h0 h
/-- the reading of repr(x) -/
theorem repr_rd {K : PySem.W.Frag} {x : V} {d : PyData} {H : Hp} {n : Nat} {Q : VK} (h : Dp K H x d) (ni : Nice n d) (hn : n ≤ 100000) (q : Q (.str d.shown) H) : rRepr K [x] H Q :=
  ⟨x, d, rfl, h, ni.sh, ni.hd, Nat.le_trans ni.dp (by decide), Nat.le_trans ni.le (le_line hn), q⟩
end Gw
namespace Gw
open PySem PySem.Spec PyProof.Rows L2
theorem one_in {H : Hp} {t : Addr} {o : HO} : Same (upd noH t o) (upd H t o) := fun b u e => by
  by_cases h : b = t
  · rw [h, upd_same] at e
    rw [h, upd_same]
    exact e
  · rw [upd_ne h] at e
    cases e
theorem one_off {H : Hp} {t : Addr} {o : HO} (n : H t = none) : Off (upd noH t o) H := fun b u e => by
  by_cases h : b = t
  · rw [h]; exact n
  · rw [upd_ne h] at e
    cases e
theorem at_ints {ns : List Int} {i : Int} (h0 : 0 ≤ i) (h : i < (ns.length : Int)) : atI (ns.map V.int) i = some (.int (ns.getD i.toNat 0)) := by
  have e : i = ((i.toNat : Nat) : Int) := by omega
  have hl : i.toNat < ns.length := by omega
  refine at_of e ?_
  rw [List.getElem?_map, List.getElem?_eq_getElem hl, List.getD_eq_getElem?_getD, List.getElem?_eq_getElem hl]
  rfl
theorem getD_mem {ns : List Int} {i : Int} (h0 : 0 ≤ i) (h : i < (ns.length : Int)) : ns.getD i.toNat 0 ∈ ns := by
  have hl : i.toNat < ns.length := by omega
  rw [List.getD_eq_getElem?_getD, List.getElem?_eq_getElem hl]
  exact List.getElem_mem hl
end Gw
namespace Gw
open PySem PySem.Spec PyProof.Rows L2
/-! a step into a reading, by its head -/
theorem rd_test {te : TE} {σ : L2.St} {H : Hp} {Q : Bool → Hp → Prop} (h : te σ H fun x H1 => ∃ k, x = .bl k ∧ Q k H1) : tTest te σ H Q := h
theorem rd_op {r : R2} {ta tb : TE} {σ : L2.St} {H : Hp} {Q : VK} (h : ta σ H fun x H1 => tb σ H1 fun y H2 => r x y H2 Q) : tOp r ta tb σ H Q := h
theorem rd_cb {r : List V → Hp → VK → Prop} {ta : TA} {σ : L2.St} {H : Hp} {Q : VK} (h : ta σ H fun vs H1 => r vs H1 Q) : tCB r ta σ H Q := h
theorem rd_cons {te : TE} {ta : TA} {σ : L2.St} {H : Hp} {Q : List V → Hp → Prop} (h : te σ H fun x H1 => ta σ H1 fun xs H2 => Q (x :: xs) H2) : tCons te ta σ H Q := h
theorem rd_c {v : V} {σ : L2.St} {H : Hp} {Q : VK} (h : Q v H) : tC v σ H Q := h
theorem rd_nil {σ : L2.St} {H : Hp} {Q : List V → Hp → Prop} (h : Q [] H) : tNil σ H Q := h
theorem rd_asg {te : TE} {g : TG} {D : Ends} {σ : L2.St} {H : Hp} (h : te σ H fun x H1 => g x σ H1 D.nx) : tAsg te g D σ H := h
theorem rd_ret {te : TE} {D : Ends} {σ : L2.St} {H : Hp} (h : te σ H D.rt) : tRet te D σ H := h
theorem rd_seq {t u : TS} {D : Ends} {σ : L2.St} {H : Hp} (h : t { D with nx := u D } σ H) : tSeq t u D σ H := h
end Gw

set_option Elab.async false
set_option linter.all false
set_option maxRecDepth 100000
set_option maxHeartbeats 4000000
namespace Gw
open PySem PySem.Spec PyProof.Rows L2
/-! A call of one of several defs that an expression hands out; what may be raised is wished for at the caller's slots. -/
structure HeldX (P : Program) (w : World) (K : PySem.W.Frag) (mg : Str → Option Value) (base : Heap) (k : Nat) (f : Addr) (sp : Sp) : Prop where
  ex : ∃ (fd : FuncData) (ps : List Str), FnOk P w K mg base (L2.CX P w) k f fd ps sp ∧ PySem.W.keepIn K (.ref f) = true ∧ Binds K fd ps []
def tCallE (te : TE) (S : Addr → Sp → Prop) (E : L2.St → XK) (t : TA) : TE := fun σ H Q => te σ H fun v H1 => ∃ f sp, v = .ref f ∧ S f sp ∧ t σ H1 fun vs H2 => sp vs H2 Q (E σ)
theorem pe_callE {X : Cx} {k : Nat} {S : Addr → Sp → Prop} {E : L2.St → XK} {func e : Expr} {es : List Expr} {pos : Pos} {te : TE} {t : TA} (hf : PE X func te) (A : ∀ f sp, S f sp → HeldX X.prog X.w X.K X.mg X.base k f sp) (hr : Room k X.A)
    (hx : ∀ σ, PassesAt (L2.CX X.prog X.w) X σ (E σ)) (ha : PA X (e :: es) t)
    (hq : eval (.Call func (e :: es) [] pos) X.env = (do callWith pos (← eval func X.env) [] (backTo pos (starEach (e :: es) X.env)) (backToKw pos (keywordEach [] X.env))) := by rfl)
    (he : starEach (e :: es) X.env = (false, eval e X.env) :: starEach es X.env := by rfl) (hpl : (backTo pos (starEach es X.env)).any (·.1) = false := by rfl) :
    PE X (.Call func (e :: es) [] pos) (tCallE te S E t) := by
  constructor
  intro pins s σ H Q I h
  apply PyProof.Rows.Call_ _ hq
  apply thn (hf.run pins s σ H _ I h)
  rintro u s1 ⟨v, H1, I1, r1, f, sp, rfl, hS, q⟩
  cases r1
  obtain ⟨fd, ps, F, hk, hb⟩ := (A f sp hS).ex
  apply PySem.W.callWith_K (h₀ := X.base) I1.ok.mod.kin hk _ he hpl
  apply thn (ha.run pos pins s1 σ H1 _ I1 q)
  rintro us s2 ⟨vs, H2, I2, r2, q2⟩
  exact ⟨I2.kIn, run_fnS F hr hb (hx σ) I2 r2 q2⟩
theorem ix_listK {X : Cx} {K : PySem.W.Frag} (h : X.K = K) : IxR X (rIxL K) := by
  rw [← h]
  exact ix_list
theorem ix_tupK {X : Cx} {K : PySem.W.Frag} (h : X.K = K) : IxR X (rIxT K) := by
  rw [← h]
  exact ix_tup
/-! ### heaps that keep a part, though the list of draws changes -/
theorem But.keep {l : Addr} {F H H' : Hp} (b : But l H H') (f : Same F H) (n : F l = none) : Same F H' := fun c o e => b c o (ne_of_none e n) (f c o e)
theorem dp_pair {K : PySem.W.Frag} {F : Hp} {v : V} {a b : Int} (h : Dp K F v (.tuple [.int a, .int b])) : ∃ t, v = .ref t ∧ SqT K F t [.int a, .int b] := by
  cases h with
  | tup hs ha =>
    cases ha with
    | cons h1 h2 =>
      cases h1
      cases h2 with
      | cons h3 h4 =>
        cases h3
        cases h4
        exact ⟨_, rfl, hs⟩
theorem pair_dp {K : PySem.W.Frag} {F : Hp} {t : Addr} {a b : Int} (h : SqT K F t [.int a, .int b]) : Dp K F (.ref t) (.tuple [.int a, .int b]) := .tup h (.cons (.int _) (.cons (.int _) .nil))
/-- [.. for i in range(n)], each item new data that a draw from the list at l makes -/
theorem lc_draw {K : PySem.W.Frag} {te : TE} {ta : TA} {σ : L2.St} {H : Hp} {j n : Nat} {vs : List Nat} {Q : VK} {l : Addr} {e0 : List Int} (good : Nat → PyData → Prop) (hn : n ≤ 1000) (hl : H l = some (.lst (e0.map V.int)))
    (ha : ∀ Q' : List V → Hp → Prop, Q' [.int (n : Int)] H → ta σ H Q') (hw : ∀ x, wipe ((wipe σ vs).set j (some x)) vs = wipe σ vs)
    (he : ∀ (i : Nat) (H1 : Hp) (es : List Int) (Q' : VK), i < n → But l H H1 → H1 l = some (.lst (es.map V.int)) →
      (∀ (v : V) (H2 F : Hp) (d : PyData) (es2 : List Int), But l H1 H2 → H2 l = some (.lst (es2.map V.int)) → Same F H2 → Off F H1 → good i d → Dp K F v d → Q' v H2) → te ((wipe σ vs).set j (some (.int (i : Int)))) H1 Q')
    (k : ∀ (D : Addr) (H2 F : Hp) (xs : List V) (ds : List PyData) (es : List Int), H D = none → But l H H2 → H2 D = some (.lst xs) → H2 l = some (.lst (es.map V.int)) → Same F H2 → Off F H → F D = none → DpAll K F xs ds → ds.length = n →
      (∀ i d, ds[i]? = some d → good i d) → Q (.ref D) H2) :
    tLc (iRng1 ta) (gName j) tYes te vs σ H Q := by
  refine ha _ ⟨(n : Int), rfl, by omega, by omega, fun D nD => ?_⟩
  have en : ((n : Int)).toNat = n := by omega
  have lD : l ≠ D := ne_of_none hl nD
  rw [en]
  refine lc_range (lo := 0) (n := n) (fun i H' => ∃ (F : Hp) (xs : List V) (ds : List PyData) (es : List Int), But l H H' ∧ H' D = some (.lst xs) ∧ H' l = some (.lst (es.map V.int)) ∧ Same F H' ∧ Off F H ∧ F D = none ∧ DpAll K F xs ds ∧ ds.length = i ∧ ∀ i d, ds[i]? = some d → good i d)
    ⟨noH, [], [], e0, But.of (same_new nD), upd_same, by rw [upd_ne lD]; exact hl, noH_in _, noH_off _, rfl, .nil, rfl, fun _ _ z => by simp at z⟩ ?_ ?_
  · rintro i H1 hi ⟨F, xs, ds, es, b1, hD, hl1, f1, f2, f3, hd, hdl, hg⟩
    have e0 : (0 : Int) + (i : Int) = (i : Int) := Int.zero_add _
    show wipe ((wipe σ vs).set j (some (.int ((0 : Int) + (i : Int))))) vs = wipe σ vs ∧ te ((wipe σ vs).set j (some (.int ((0 : Int) + (i : Int))))) H1 _
    rw [e0]
    refine ⟨hw _, he i H1 es _ hi b1 hl1 fun v H2 G d es2 b2 hl2 g1 g2 gd dv => ⟨xs, b2 D _ lD.symm hD, ?_, ?_⟩⟩
    · have := dpAll_len hd
      exact lt_line (by omega)
    · have gD : G D = none := g2.none_of hD
      have fl : F l = none := f2.none_of hl
      have dis : ∀ b o u, F b = some o → G b = some u → False := fun b o u e1 e2 => by
        have := g2 b u e2
        rw [f1 b o e1] at this
        cases this
      have bD : both F G D = none := by unfold both; rw [f3]; exact gD
      have goff : Off G H := fun b o e => by
        by_cases hb : b = l
        · have := g2 b o e
          rw [hb, hl1] at this
          cases this
        · cases q : H b with
          | none => rfl
          | some u =>
            have := g2 b o e
            rw [b1 b u hb q] at this
            cases this
      refine ⟨both F G, xs ++ [v], ds ++ [d], es2, fun b o n e => ?_, upd_same, by rw [upd_ne lD]; exact hl2, in_upd (both_in (b2.keep f1 fl) g1) bD, both_off f2 goff, bD, dpAll_snoc (dpAll_same both_l hd) (dp_same (both_r dis) _ _ dv), ?_, ?_⟩
      · rw [upd_ne (ne_of_none e nD)]
        exact b2 b o n (b1 b o n e)
      · rw [List.length_append, hdl]
        rfl
      · intro m e hm
        by_cases hml : m < ds.length
        · rw [List.getElem?_append_left hml] at hm
          exact hg m e hm
        · rw [List.getElem?_append_right (by omega)] at hm
          have : m = i := by
            rcases Nat.lt_or_ge (m - ds.length) 1 with q | q
            · omega
            · rw [List.getElem?_eq_none (by show 1 ≤ _; omega)] at hm
              cases hm
          subst this
          rw [show m - ds.length = 0 by omega] at hm
          cases hm
          exact gd
  · rintro H1 ⟨F, xs, ds, es, b1, hD, hl1, f1, f2, f3, hd, hdl, hg⟩
    exact k D H1 F xs ds es nD b1 hD hl1 f1 f2 f3 hd hdl hg
end Gw
namespace Gw
open PySem PySem.Spec PyProof.Rows L2
theorem rd_name {i : Nat} {v : V} {σ : L2.St} {H : Hp} {Q : L2.St → Hp → Prop} (h : Q (σ.set i (some v)) H) : gName i v σ H Q := h
/-- a list at q whose items are data of the part F -/
structure DueAt (K : PySem.W.Frag) (H : Hp) (q : Addr) (F : Hp) (vs : List V) (ds : List PyData) : Prop where
  here : H q = some (.lst vs)
  dp : DpAll K F vs ds
  part : Same F H
  no : F q = none
section
variable {K : PySem.W.Frag} {H F : Hp} {q t : Addr} {vs : List V} {ds : List PyData}
theorem same_both {o : HO} (f : Same F H) (n : H t = none) : Same (upd F t o) (upd H t o) ∧ Same F (upd F t o) ∧ F t = none := by
  have ft : F t = none := f.free n
  refine ⟨fun b u e => ?_, same_new ft, ft⟩
  by_cases hb : b = t
  · rw [hb, upd_same] at e ⊢
    exact e
  · rw [upd_ne hb] at e ⊢
    exact f b u e
/-- a new object at t, not of the list -/
theorem DueAt.new (d : DueAt K H q F vs ds) (nt : H t = none) (o : HO) : DueAt K (upd H t o) q (upd F t o) vs ds := by
  have qt : q ≠ t := ne_of_none d.here nt
  obtain ⟨s1, s2, _⟩ := same_both (o := o) d.part nt
  exact ⟨by rw [upd_ne qt]; exact d.here, dpAll_same s2 d.dp, s1, by rw [upd_ne qt]; exact d.no⟩
/-- the list's items change -/
theorem DueAt.put (d : DueAt K H q F vs ds) {ws : List V} {es : List PyData} (h : DpAll K F ws es) : DueAt K (upd H q (.lst ws)) q F ws es :=
  ⟨upd_same, h, in_upd d.part d.no, d.no⟩
end
theorem dpAll_set {K : PySem.W.Frag} {F : Hp} {v : V} {d : PyData} (h : Dp K F v d) : ∀ {vs : List V} {ds : List PyData} (i : Nat), DpAll K F vs ds → DpAll K F (vs.set i v) (ds.set i d)
  | _, _, _, .nil => .nil
  | _, _, 0, .cons _ b => .cons h b
  | _, _, i + 1, .cons a b => .cons a (dpAll_set h i b)
theorem shaped_pair (a b : Int) : SeqAt.shaped (.tuple [.int a, .int b]) = true := by
  unfold SeqAt.shaped
  simp [PyData.canLay0, PyData.canLayAll0, PyData.depth, PyData.depthAll]
theorem eqv_str (x y : Str) : PyData.eqv (.str x) (.str y) = decide (x = y) := by
  simp [PyData.eqv]
  by_cases h : x = y <;> simp [h]
end Gw
namespace Gw
open PySem PySem.Spec PyProof.Rows L2
theorem DueAt.app {K : PySem.W.Frag} {H F : Hp} {q t : Addr} {vs : List V} {ds : List PyData} (d : DueAt K H q F vs ds) (nt : H t = none) (a b : Int) :
    DueAt K (upd (upd H t (.tup [.int a, .int b])) q (.lst (vs ++ [.ref t]))) q (upd F t (.tup [.int a, .int b])) (vs ++ [.ref t]) (ds ++ [.tuple [.int a, .int b]]) := by
  have d1 := d.new nt (.tup [.int a, .int b])
  exact d1.put (dpAll_snoc d1.dp (pair_dp (sqT_of upd_same)))
theorem DueAt.sameF {K : PySem.W.Frag} {H F : Hp} {q t : Addr} {vs : List V} {ds : List PyData} (d : DueAt K H q F vs ds) (nt : H t = none) (o : HO) : Same F (upd F t o) := same_new (d.part.free nt)
end Gw
namespace Gw
open PySem PySem.Spec PyProof.Rows L2
theorem ne_pairs {K : PySem.W.Frag} {x y : V} {H : Hp} {Q : VK} {A B : Int × Int} (hx : Dp K H x (.tuple [.int A.1, .int A.2])) (hy : Dp K H y (.tuple [.int B.1, .int B.2])) (e : A = B) (k : Q (.bl false) H) : rNeD K x y H Q := by
  refine ⟨_, _, hx, hy, shaped_pair _ _, shaped_pair _ _, ?_⟩
  rw [eqv_pair, e, decide_eq_true rfl]
  exact k
theorem ne_strs {K : PySem.W.Frag} {x y : V} {H : Hp} {Q : VK} {d e : PyData} {s : Str} (hx : Dp K H x d) (hy : Dp K H y e) (h1 : d = .str s) (h2 : e = .str s) (ok : SeqAt.shaped (.str s) = true) (k : Q (.bl false) H) : rNeD K x y H Q := by
  subst h1 h2
  refine ⟨_, _, hx, hy, ok, ok, ?_⟩
  rw [eqv_str, decide_eq_true rfl]
  exact k
end Gw

set_option Elab.async false
set_option linter.all false
set_option maxRecDepth 100000
set_option maxHeartbeats 4000000
namespace Gw
open PySem PySem.Spec PyProof.Rows L2
/-! xs[i] += e: the list's item is read -/
theorem get_list {X : Cx} : PGet X (rIxL X.K) := by
  intro pins s σ H x y v u Q I rx ry h
  obtain ⟨p, xs, i, z, rfl, rfl, hq, he, q⟩ := h
  cases rx
  obtain ⟨t, rfl⟩ := ry
  obtain ⟨its, r, pl, hz⟩ := I.list hq
  obtain ⟨j, h1, h2, h3, h4, h5⟩ := atI_get he
  obtain ⟨w, ew, rw'⟩ := r.get h2
  have hl := r.length
  have hn := line63
  have fin : EP X pins σ Q w s := ⟨z, H, I, rw', q⟩
  by_cases h0 : 0 ≤ i
  · have hj : i.toNat = j := by
      rw [seqIndex_of h0 h5] at h1
      exact Option.some.inj h1
    exact wpAny_getItem_list pl.isList h0 (by omega) (by rw [hj]; simpa using ew) fin
  · have hj : (i + (its.toArray.size : Int)).toNat = j := by
      rw [seqIndex_neg (by omega) h4] at h1
      rw [List.size_toArray, ← hl]
      exact Option.some.inj h1
    exact wpAny_getItem_list_neg pl.isList (by omega) (by rw [List.size_toArray] <;> omega) (by omega) (by rw [hj]; simpa using ew) fin
/-- a constant of the text -/
theorem pe_globE {X : Cx} {x : Str} {v : V} {pos : Pos} (hg : Gl X x) (h : ∃ u, X.mg x = some u ∧ RelV v u) (hd : (x == ("__debug__" : Str)) = false := by decide) : PE X (.Name x pos) (tC v) := by
  obtain ⟨u, e, r⟩ := h
  exact pe_glob hg e r hd
end Gw

set_option linter.all false
set_option maxHeartbeats 1000000
namespace Gw
/-! Power series by their numbers: sums, products, one put into another one; what is put in has no constant number (it is not looked at). -/
abbrev Ser := Nat → Int
def sh (a : Ser) : Ser := fun n => a (n + 1)
def smul : Ser → Ser → Nat → Int
  | a, b, 0 => a 0 * b 0
  | a, b, n + 1 => a 0 * b (n + 1) + smul (sh a) b n
theorem smul_zero (a b : Ser) : smul a b 0 = a 0 * b 0 := rfl
theorem smul_succ (a b : Ser) (n : Nat) : smul a b (n + 1) = a 0 * b (n + 1) + smul (sh a) b n := rfl
theorem smul_congr : ∀ (n : Nat) {a a' b b' : Ser}, (∀ i, i ≤ n → a i = a' i) → (∀ i, i ≤ n → b i = b' i) → smul a b n = smul a' b' n
  | 0, a, a', b, b', h1, h2 => by rw [smul_zero, smul_zero, h1 0 (Nat.le_refl _), h2 0 (Nat.le_refl _)]
  | n + 1, a, a', b, b', h1, h2 => by
    rw [smul_succ, smul_succ, h1 0 (Nat.zero_le _), h2 (n + 1) (Nat.le_refl _)]
    rw [smul_congr n (a := sh a) (a' := sh a') (fun i hi => h1 (i + 1) (by omega)) (fun i hi => h2 i (by omega))]
theorem smul_add_l (a b c : Ser) : ∀ n, smul (fun i => a i + b i) c n = smul a c n + smul b c n
  | 0 => by rw [smul_zero, smul_zero, smul_zero, Int.add_mul]
  | n + 1 => by
    rw [smul_succ, smul_succ, smul_succ]
    have := smul_add_l (sh a) (sh b) c n
    rw [show sh (fun i => a i + b i) = (fun i => sh a i + sh b i) from rfl, this]
    grind
theorem smul_sc_l (k : Int) (a c : Ser) : ∀ n, smul (fun i => k * a i) c n = k * smul a c n
  | 0 => by rw [smul_zero, smul_zero, Int.mul_assoc]
  | n + 1 => by
    rw [smul_succ, smul_succ]
    have := smul_sc_l k (sh a) c n
    rw [show sh (fun i => k * a i) = (fun i => k * sh a i) from rfl, this]
    grind
theorem smul_right : ∀ (n : Nat) (a b : Ser), smul a b (n + 1) = a (n + 1) * b 0 + smul a (sh b) n
  | 0, a, b => by
    rw [smul_succ, smul_zero, smul_zero]
    show a 0 * b 1 + a 1 * b 0 = a 1 * b 0 + a 0 * b 1
    omega
  | n + 1, a, b => by
    rw [smul_succ, smul_right n (sh a) b, smul_succ]
    show a 0 * b (n + 2) + (a (n + 2) * b 0 + _) = a (n + 2) * b 0 + (a 0 * b (n + 2) + _)
    omega
theorem smul_comm : ∀ (n : Nat) (a b : Ser), smul a b n = smul b a n
  | 0, a, b => Int.mul_comm _ _
  | n + 1, a, b => by
    rw [smul_succ, smul_right n b a, smul_comm n (sh a) b, Int.mul_comm]
theorem sh_smul (a b : Ser) : sh (smul a b) = fun n => a 0 * sh b n + smul (sh a) b n := rfl
theorem smul_assoc : ∀ (n : Nat) (a b c : Ser), smul (smul a b) c n = smul a (smul b c) n
  | 0, a, b, c => by rw [smul_zero, smul_zero, smul_zero, smul_zero, Int.mul_assoc]
  | n + 1, a, b, c => by
    rw [smul_succ, smul_succ, sh_smul, smul_add_l (fun i => a 0 * sh b i) (smul (sh a) b) c n, smul_sc_l, smul_assoc n (sh a) b c, smul_succ b c n]
    show (a 0 * b 0) * _ + _ = _
    grind
theorem smul_add_r (a b c : Ser) (n : Nat) : smul c (fun i => a i + b i) n = smul c a n + smul c b n := by
  rw [smul_comm, smul_add_l, smul_comm n a c, smul_comm n b c]
theorem smul_sc_r (k : Int) (a c : Ser) (n : Nat) : smul c (fun i => k * a i) n = k * smul c a n := by
  rw [smul_comm, smul_sc_l, smul_comm n a c]
def one : Ser := fun n => if n = 0 then 1 else 0
def zer : Ser := fun _ => 0
def X1 : Ser := fun n => if n = 1 then 1 else 0
theorem smul_zer : ∀ (n : Nat) (b : Ser), smul zer b n = 0
  | 0, b => by rw [smul_zero]; exact Int.zero_mul _
  | n + 1, b => by
    rw [smul_succ, show sh zer = zer from rfl, smul_zer n b]
    show (0 : Int) * _ + 0 = 0
    omega
theorem smul_one : ∀ (n : Nat) (b : Ser), smul one b n = b n
  | 0, b => by rw [smul_zero]; exact Int.one_mul _
  | n + 1, b => by
    rw [smul_succ, show sh one = zer from rfl, smul_zer n b]
    show (1 : Int) * _ + 0 = _
    omega
/-! one put into another one -/
def cmpF : Nat → Ser → Ser → Nat → Int
  | 0, f, _, _ => f 0
  | _ + 1, f, _, 0 => f 0
  | m + 1, f, g, n + 1 => smul (sh g) (cmpF m (sh f) g) n
def comp (f g : Ser) : Ser := fun n => cmpF n f g n
theorem cmpF_stay : ∀ (m m' : Nat) (f g : Ser) (n : Nat), n ≤ m → n ≤ m' → cmpF m f g n = cmpF m' f g n
  | 0, 0, _, _, _, _, _ => rfl
  | 0, m' + 1, f, g, n, h1, _ => by
    obtain rfl : n = 0 := by omega
    rfl
  | m + 1, 0, f, g, n, _, h2 => by
    obtain rfl : n = 0 := by omega
    rfl
  | m + 1, m' + 1, f, g, 0, _, _ => rfl
  | m + 1, m' + 1, f, g, n + 1, h1, h2 => by
    show smul (sh g) (cmpF m (sh f) g) n = smul (sh g) (cmpF m' (sh f) g) n
    exact smul_congr n (fun _ _ => rfl) (fun i hi => cmpF_stay m m' (sh f) g i (by omega) (by omega))
theorem comp_zero (f g : Ser) : comp f g 0 = f 0 := rfl
theorem comp_succ (f g : Ser) (n : Nat) : comp f g (n + 1) = smul (sh g) (comp (sh f) g) n := by
  show smul (sh g) (cmpF n (sh f) g) n = _
  exact smul_congr n (fun _ _ => rfl) (fun i hi => cmpF_stay n i (sh f) g i hi (Nat.le_refl _))
theorem sh_comp (f g : Ser) : sh (comp f g) = smul (sh g) (comp (sh f) g) := by
  funext n
  exact comp_succ f g n
theorem comp_congr : ∀ (n : Nat) {f f' g g' : Ser}, (∀ i, i ≤ n → f i = f' i) → (∀ i, i ≤ n → g i = g' i) → comp f g n = comp f' g' n := by
  intro n
  induction n using Nat.strongRecOn with
  | ind n ih =>
    intro f f' g g' h1 h2
    cases n with
    | zero => exact h1 0 (Nat.le_refl _)
    | succ n =>
      rw [comp_succ, comp_succ]
      exact smul_congr n (fun i hi => h2 (i + 1) (by omega)) (fun i hi => ih i (by omega) (fun j hj => h1 (j + 1) (by omega)) (fun j hj => h2 j (by omega)))
theorem comp_add : ∀ (n : Nat) (a b g : Ser), comp (fun i => a i + b i) g n = comp a g n + comp b g n := by
  intro n
  induction n using Nat.strongRecOn with
  | ind n ih =>
    intro a b g
    cases n with
    | zero => rfl
    | succ n =>
      rw [comp_succ, comp_succ, comp_succ, ← smul_add_r]
      exact smul_congr n (fun _ _ => rfl) (fun i hi => ih i (by omega) (sh a) (sh b) g)
theorem comp_sc : ∀ (n : Nat) (k : Int) (a g : Ser), comp (fun i => k * a i) g n = k * comp a g n := by
  intro n
  induction n using Nat.strongRecOn with
  | ind n ih =>
    intro k a g
    cases n with
    | zero => rfl
    | succ n =>
      rw [comp_succ, comp_succ, ← smul_sc_r]
      exact smul_congr n (fun _ _ => rfl) (fun i hi => ih i (by omega) k (sh a) g)
theorem comp_smul : ∀ (n : Nat) (a b h : Ser), comp (smul a b) h n = smul (comp a h) (comp b h) n := by
  intro n
  induction n using Nat.strongRecOn with
  | ind n ih =>
    intro a b h
    cases n with
    | zero => rfl
    | succ n =>
      rw [comp_succ, sh_smul]
      have e1 : smul (sh h) (comp (fun i => a 0 * sh b i + smul (sh a) b i) h) n = smul (sh h) (fun i => a 0 * comp (sh b) h i + smul (comp (sh a) h) (comp b h) i) n :=
        smul_congr n (fun _ _ => rfl) (fun i hi => by rw [comp_add i (fun i => a 0 * sh b i) (smul (sh a) b) h, comp_sc, ih i (by omega)])
      rw [e1, smul_add_r, smul_sc_r, ← comp_succ, ← smul_assoc, ← sh_comp]
      rfl
theorem comp_assoc : ∀ (n : Nat) (f g h : Ser), comp (comp f g) h n = comp f (comp g h) n := by
  intro n
  induction n using Nat.strongRecOn with
  | ind n ih =>
    intro f g h
    cases n with
    | zero => rfl
    | succ n =>
      rw [comp_succ, comp_succ, sh_comp f g]
      have e1 : smul (sh h) (comp (smul (sh g) (comp (sh f) g)) h) n = smul (sh h) (smul (comp (sh g) h) (comp (sh f) (comp g h))) n :=
        smul_congr n (fun _ _ => rfl) (fun i hi => by
          rw [comp_smul]
          exact smul_congr i (fun _ _ => rfl) (fun j hj => ih j (by omega) (sh f) g h))
      rw [e1, ← smul_assoc, sh_comp g h]
theorem comp_one : ∀ (n : Nat) (g : Ser), comp one g n = one n
  | 0, g => rfl
  | n + 1, g => by
    rw [comp_succ]
    have : ∀ i, comp (sh one) g i = 0 := by
      intro i
      induction i using Nat.strongRecOn with
      | ind i ih =>
        cases i with
        | zero => rfl
        | succ i =>
          rw [comp_succ, show sh (sh one) = sh one from rfl, smul_comm]
          rw [smul_congr i (a' := zer) (b' := sh g) (fun j hj => ih j (by omega)) (fun _ _ => rfl), smul_zer]
    rw [smul_comm, smul_congr n (a' := zer) (b' := sh g) (fun j _ => this j) (fun _ _ => rfl), smul_zer]
    rfl
/-- x with g put into it is g (without a constant number) -/
theorem comp_X : ∀ (n : Nat) (g : Ser), g 0 = 0 → comp X1 g n = g n
  | 0, g, h => by rw [comp_zero, h]; rfl
  | n + 1, g, h => by
    rw [comp_succ, show sh X1 = one from by funext i; unfold sh X1 one; simp, smul_comm]
    rw [smul_congr n (a' := one) (b' := sh g) (fun j _ => comp_one j g) (fun _ _ => rfl), smul_one]
    rfl
/-- f with x put into it is f -/
theorem comp_by_X : ∀ (n : Nat) (f : Ser), comp f X1 n = f n := by
  intro n
  induction n using Nat.strongRecOn with
  | ind n ih =>
    intro f
    cases n with
    | zero => rfl
    | succ n =>
      rw [comp_succ, show sh X1 = one from by funext i; unfold sh X1 one; simp, smul_one, ih n (by omega)]
      rfl
/-! undoing -/
/-- the numbers ahead of n, else 0 -/
def cutN (g : Ser) (n : Nat) : Ser := fun i => if i < n then g i else 0
/-- the number n of what is put in comes once, with the first number of f -/
theorem comp_top (f g : Ser) (n : Nat) (g0 : g 0 = 0) : comp f g (n + 1) = f 1 * g (n + 1) + comp f (cutN g (n + 1)) (n + 1) := by
  rw [comp_succ, comp_succ]
  have z : ∀ (b : Ser) (n : Nat), smul (sh g) b n = b 0 * g (n + 1) + (smul (sh g) b n - b 0 * g (n + 1)) := fun b n => by omega
  have key : ∀ (n : Nat) (a a' b : Ser), (∀ i, i < n → a i = a' i) → smul a b n = (a n - a' n) * b 0 + smul a' b n := by
    intro n
    induction n with
    | zero => intro a a' b _; rw [smul_zero, smul_zero, Int.sub_mul]; omega
    | succ n ih =>
      intro a a' b h
      rw [smul_succ, smul_succ, ih (sh a) (sh a') b (fun i hi => h (i + 1) (by omega)), h 0 (by omega)]
      show _ + ((a (n + 1) - a' (n + 1)) * b 0 + _) = _
      omega
  have e1 : smul (sh g) (comp (sh f) g) n = smul (sh g) (comp (sh f) (cutN g (n + 1))) n :=
    smul_congr n (fun _ _ => rfl) (fun i hi => comp_congr i (fun _ _ => rfl) (fun j hj => by
      unfold cutN
      rw [if_pos (by omega)]))
  rw [e1, key n (sh g) (sh (cutN g (n + 1))) _ (fun i hi => by
    show g (i + 1) = cutN g (n + 1) (i + 1)
    unfold cutN
    rw [if_pos (by omega)])]
  have c0 : sh (cutN g (n + 1)) n = 0 := by
    show cutN g (n + 1) (n + 1) = 0
    unfold cutN
    rw [if_neg (by omega)]
  rw [c0, comp_zero]
  show (g (n + 1) - 0) * f 1 + _ = _
  rw [Int.sub_zero, Int.mul_comm]
/-- the numbers of what undoes f, one after the other -/
def invL (f : Ser) : Nat → List Int
  | 0 => [0]
  | n + 1 => invL f n ++ [f 1 * ((if n + 1 = 1 then 1 else 0) - comp f (fun i => (invL f n).getD i 0) (n + 1))]
theorem invL_len (f : Ser) : ∀ n, (invL f n).length = n + 1
  | 0 => rfl
  | n + 1 => by
    show (invL f n ++ [_]).length = _
    rw [List.length_append, invL_len f n]
    rfl
def inv (f : Ser) : Ser := fun n => (invL f n).getD n 0
theorem invL_get (f : Ser) : ∀ n i, i ≤ n → (invL f n).getD i 0 = inv f i
  | 0, i, h => by
    obtain rfl : i = 0 := by omega
    rfl
  | n + 1, i, h => by
    by_cases e : i = n + 1
    · subst e; rfl
    · have hi : i ≤ n := by omega
      show (invL f n ++ [_]).getD i 0 = _
      rw [List.getD_eq_getElem?_getD, List.getElem?_append_left (by rw [invL_len]; omega), ← List.getD_eq_getElem?_getD]
      exact invL_get f n i hi
theorem invL_fun (f : Ser) (n : Nat) : (fun i => (invL f n).getD i 0) = cutN (inv f) (n + 1) := by
  funext i
  unfold cutN
  by_cases h : i < n + 1
  · rw [if_pos h]
    exact invL_get f n i (by omega)
  · rw [if_neg h, List.getD_eq_getElem?_getD, List.getElem?_eq_none (by rw [invL_len]; omega)]
    rfl
theorem inv_succ (f : Ser) (n : Nat) : inv f (n + 1) = f 1 * ((if n + 1 = 1 then 1 else 0) - comp f (cutN (inv f) (n + 1)) (n + 1)) := by
  show (invL f n ++ [_]).getD (n + 1) 0 = _
  rw [List.getD_eq_getElem?_getD, List.getElem?_append_right (by rw [invL_len]; omega), invL_len, Nat.sub_self, invL_fun]
  rfl
theorem inv_right (f : Ser) (h : f 1 = 1 ∨ f 1 = -1) (f0 : f 0 = 0) : ∀ n, comp f (inv f) n = X1 n
  | 0 => by rw [comp_zero, f0]; rfl
  | n + 1 => by
    rw [comp_top f (inv f) n rfl, inv_succ]
    have : f 1 * f 1 = 1 := by rcases h with e | e <;> rw [e] <;> rfl
    rw [← Int.mul_assoc, this]
    unfold X1
    omega
theorem inv_first (f : Ser) (h : f 1 = 1 ∨ f 1 = -1) : inv f 1 = f 1 := by
  rw [inv_succ f 0]
  have : comp f (cutN (inv f) 1) 1 = 0 := by
    rw [comp_succ, smul_zero]
    have : sh (cutN (inv f) 1) 0 = 0 := by
      show cutN (inv f) 1 1 = 0
      unfold cutN
      rw [if_neg (by omega)]
    rw [this, Int.zero_mul]
  rw [this]
  show f 1 * (1 - 0) = f 1
  omega
/-- and it is undone by f -/
theorem inv_left (f : Ser) (h : f 1 = 1 ∨ f 1 = -1) (f0 : f 0 = 0) (n : Nat) : comp (inv f) f n = X1 n := by
  have h1 : inv f 1 = 1 ∨ inv f 1 = -1 := by rw [inv_first f h]; exact h
  have r1 := inv_right f h f0
  have r2 := inv_right (inv f) h1 rfl
  -- f is what undoes inv f
  have e : ∀ m, f m = inv (inv f) m := fun m => by
    have a := comp_assoc m f (inv f) (inv (inv f))
    rw [comp_congr m (f' := X1) (g' := inv (inv f)) (fun i _ => r1 i) (fun _ _ => rfl), comp_X m (inv (inv f)) rfl] at a
    rw [a, comp_congr m (f' := f) (g' := X1) (fun _ _ => rfl) (fun i _ => r2 i), comp_by_X]
  rw [comp_congr n (f' := inv f) (g' := inv (inv f)) (fun _ _ => rfl) (fun i _ => e i)]
  exact r2 n
/-- what undoes f up to n is what inv tells -/
theorem inv_unique (f g : Ser) (h : f 1 = 1 ∨ f 1 = -1) (f0 : f 0 = 0) (g0 : g 0 = 0) (N : Nat) (hg : ∀ n, n ≤ N → comp f g n = X1 n) : ∀ n, n ≤ N → g n = inv f n := by
  intro n
  induction n using Nat.strongRecOn with
  | ind n ih =>
    intro hn
    cases n with
    | zero => exact g0
    | succ n =>
      have a := hg (n + 1) hn
      rw [comp_top f g n g0, comp_congr (n + 1) (f' := f) (g' := cutN (inv f) (n + 1)) (fun _ _ => rfl) (fun i hi => by
        unfold cutN
        split
        · exact ih i (by omega) (by omega)
        · rfl)] at a
      have b := inv_right f h f0 (n + 1)
      rw [comp_top f (inv f) n rfl] at b
      have c : f 1 * g (n + 1) = f 1 * inv f (n + 1) := by omega
      rcases h with e | e <;> rw [e] at c <;> omega
end Gw

set_option linter.all false
set_option maxHeartbeats 1000000
namespace Gw
/-! Powers of a series; what is put together by powers; bounds. -/
theorem cutN_zero (a : Ser) : cutN a 0 = zer := by
  funext i
  unfold cutN zer
  rw [if_neg (by omega)]
theorem sh_cutN (a : Ser) (m : Nat) : sh (cutN a (m + 1)) = cutN (sh a) m := by
  funext i
  show (if i + 1 < m + 1 then a (i + 1) else 0) = if i < m then a (i + 1) else 0
  by_cases h : i < m
  · rw [if_pos h, if_pos (by omega)]
  · rw [if_neg h, if_neg (by omega)]
/-- one more number of the first factor -/
theorem smul_cut : ∀ (m n : Nat) (a b : Ser), smul (cutN a (m + 1)) b n = smul (cutN a m) b n + (if m ≤ n then a m * b (n - m) else 0)
  | 0, 0, a, b => by
    rw [smul_zero, smul_zero]
    show a 0 * b 0 = 0 * b 0 + (if 0 ≤ 0 then a 0 * b 0 else 0)
    rw [if_pos (Nat.le_refl _), Int.zero_mul, Int.zero_add]
  | 0, n + 1, a, b => by
    rw [smul_succ, sh_cutN, cutN_zero, smul_zer, cutN_zero, smul_zer, if_pos (Nat.zero_le _)]
    show a 0 * b (n + 1) + 0 = 0 + a 0 * b (n + 1)
    omega
  | m + 1, 0, a, b => by
    rw [smul_zero, smul_zero, if_neg (by omega)]
    show a 0 * b 0 = a 0 * b 0 + 0
    omega
  | m + 1, n + 1, a, b => by
    rw [smul_succ, smul_succ, sh_cutN, sh_cutN, smul_cut m n (sh a) b]
    show a 0 * b (n + 1) + _ = a 0 * b (n + 1) + _ + _
    by_cases h : m ≤ n
    · rw [if_pos h, if_pos (by omega), Nat.add_sub_add_right]
      show _ + (_ + a (m + 1) * _) = _
      omega
    · rw [if_neg h, if_neg (by omega)]
      omega
theorem smul_cut_all (n m : Nat) (a b : Ser) (h : n < m) : smul (cutN a m) b n = smul a b n :=
  smul_congr n (fun i hi => by unfold cutN; rw [if_pos (by omega)]) (fun _ _ => rfl)
def pw (g : Ser) : Nat → Ser
  | 0 => one
  | k + 1 => smul (pw g k) g
theorem pw_one (g : Ser) (n : Nat) : pw g 1 n = g n := smul_one n g
/-- the first m multiples of powers -/
def psum (f g : Ser) : Nat → Ser
  | 0 => zer
  | m + 1 => fun n => psum f g m n + f m * pw g m n
theorem pw_comm (g : Ser) (k n : Nat) : pw g (k + 1) n = smul g (pw g k) n := smul_comm n (pw g k) g
theorem psum_front (f g : Ser) : ∀ m n, psum f g (m + 1) n = f 0 * one n + smul g (psum (sh f) g m) n
  | 0, n => by
    show (0 : Int) + f 0 * one n = _
    rw [show psum (sh f) g 0 = zer from rfl, smul_comm, smul_zer]
    omega
  | m + 1, n => by
    show psum f g (m + 1) n + f (m + 1) * pw g (m + 1) n = _
    rw [psum_front f g m n, pw_comm, show psum (sh f) g (m + 1) = fun i => psum (sh f) g m i + (fun j => sh f m * pw g m j) i from rfl, smul_add_r, smul_sc_r]
    show _ = f 0 * one n + (_ + f (m + 1) * _)
    omega
theorem comp_psum (g : Ser) (g0 : g 0 = 0) : ∀ (n m : Nat) (f : Ser), n < m → comp f g n = psum f g m n := by
  intro n
  induction n using Nat.strongRecOn with
  | ind n ih =>
    intro m f h
    cases m with
    | zero => omega
    | succ m =>
      rw [psum_front]
      cases n with
      | zero =>
        rw [comp_zero, smul_zero, g0]
        show f 0 = f 0 * 1 + 0 * _
        rw [Int.zero_mul, Int.mul_one, Int.add_zero]
      | succ n =>
        rw [comp_succ, smul_succ, g0, Int.zero_mul, Int.zero_add]
        show _ = f 0 * 0 + _
        rw [Int.mul_zero, Int.zero_add]
        exact smul_congr n (fun _ _ => rfl) (fun i hi => ih i (by omega) m (sh f) (by omega))
theorem psum_congr (n : Nat) {f f' g g' : Ser} (h2 : ∀ i, i ≤ n → g i = g' i) : ∀ m, (∀ i, i < m → f i = f' i) → psum f g m n = psum f' g' m n
  | 0, _ => rfl
  | m + 1, h => by
    show psum f g m n + f m * pw g m n = psum f' g' m n + f' m * pw g' m n
    have hp : ∀ k i, i ≤ n → pw g k i = pw g' k i := by
      intro k
      induction k with
      | zero => intro i _; rfl
      | succ k ih => intro i hi; exact smul_congr i (fun j hj => ih j (by omega)) (fun j hj => h2 j (by omega))
    rw [psum_congr n h2 m (fun i hi => h i (by omega)), h m (by omega), hp m n (Nat.le_refl _)]
/-! bounds -/
theorem smul_bd {P R S : Nat} : ∀ (n : Nat) (c : Nat) (a b : Ser), (∀ i, i ≤ n → (a i).natAbs * P ≤ c * (2 * S) ^ i) → (∀ j, j ≤ n → (b j).natAbs * R ≤ S ^ j) → b 0 = 0 →
    (smul a b n).natAbs * (P * R) + c * S ^ n ≤ c * (2 * S) ^ n
  | 0, c, a, b, h1, h2, b0 => by
    rw [smul_zero, b0, Int.mul_zero]
    show 0 * _ + c * 1 ≤ c * 1
    omega
  | n + 1, c, a, b, h1, h2, b0 => by
    rw [smul_succ]
    have ih := smul_bd n (2 * S * c) (sh a) b (fun i hi => by
      have := h1 (i + 1) (by omega)
      rw [Nat.pow_succ] at this
      show (a (i + 1)).natAbs * P ≤ _
      calc _ ≤ _ := this
        _ = _ := by ac_rfl) (fun j hj => h2 j (by omega)) b0
    have e1 := Nat.mul_le_mul (h1 0 (Nat.zero_le _)) (h2 (n + 1) (Nat.le_refl _))
    have tri := Int.natAbs_add_le (a 0 * b (n + 1)) (smul (sh a) b n)
    rw [Int.natAbs_mul] at tri
    have t2 := Nat.mul_le_mul_right (P * R) tri
    rw [Nat.pow_zero, Nat.mul_one] at e1
    rw [Nat.add_mul] at t2
    have e2 : (a 0).natAbs * (b (n + 1)).natAbs * (P * R) = (a 0).natAbs * P * ((b (n + 1)).natAbs * R) := by ac_rfl
    rw [e2] at t2
    have e3 : 2 * S * c * S ^ n = 2 * (c * S ^ (n + 1)) := by rw [Nat.pow_succ]; ac_rfl
    have e4 : 2 * S * c * (2 * S) ^ n = c * (2 * S) ^ (n + 1) := by rw [Nat.pow_succ]; ac_rfl
    rw [e3, e4] at ih
    omega
theorem pw_bd {R S : Nat} (g : Ser) (g0 : g 0 = 0) (N : Nat) (h : ∀ j, j ≤ N → (g j).natAbs * R ≤ S ^ j) : ∀ k n, n ≤ N → (pw g k n).natAbs * R ^ k ≤ (2 * S) ^ n
  | 0, n, _ => by
    show (one n).natAbs * 1 ≤ _
    unfold one
    split
    · subst_vars; exact Nat.le_refl _
    · simp
  | k + 1, n, hn => by
    have := smul_bd (P := R ^ k) (R := R) (S := S) n 1 (pw g k) g (fun i hi => by rw [Nat.one_mul]; exact pw_bd g g0 N h k i (by omega)) (fun j hj => h j (by omega)) g0
    rw [Nat.one_mul, Nat.one_mul] at this
    show (smul (pw g k) g n).natAbs * R ^ (k + 1) ≤ _
    rw [Nat.pow_succ]
    omega
end Gw

set_option Elab.async false
set_option linter.all false
set_option maxRecDepth 100000
set_option maxHeartbeats 4000000
namespace Gw
open PySem PySem.Spec PyProof.Rows L2
/-! Lists of whole numbers by functions. -/
def tn (n : Nat) (f : Nat → Int) : List Int := (List.range n).map f
def tv (n : Nat) (f : Nat → Int) : List V := (tn n f).map V.int
theorem tn_len (n : Nat) (f : Nat → Int) : (tn n f).length = n := by unfold tn; rw [List.length_map, List.length_range]
theorem tv_len (n : Nat) (f : Nat → Int) : (tv n f).length = n := by unfold tv; rw [List.length_map, tn_len]
theorem tn_get {n i : Nat} (f : Nat → Int) (h : i < n) : (tn n f)[i]? = some (f i) := by
  unfold tn
  rw [List.getElem?_map, List.getElem?_range h]
  rfl
theorem tv_get {n i : Nat} (f : Nat → Int) (h : i < n) : (tv n f)[i]? = some (.int (f i)) := by
  unfold tv
  rw [List.getElem?_map, tn_get f h]
  rfl
theorem tv_got {n i : Nat} {f : Nat → Int} {y : V} (h : (tv n f)[i]? = some y) : i < n ∧ y = .int (f i) := by
  have hl : i < n := by
    have := (List.getElem?_eq_some_iff.mp h).1
    rwa [tv_len] at this
  rw [tv_get f hl] at h
  exact ⟨hl, (Option.some.inj h).symm⟩
theorem tv_at {n i : Nat} (f : Nat → Int) (h : i < n) : atI (tv n f) (i : Int) = some (.int (f i)) := atI_nat (tv_get f h)
theorem tv_ixN {n i : Nat} (f : Nat → Int) (h : i < n) : ixN (tv n f).length (i : Int) = some i := by
  rw [tv_len]
  unfold ixN
  rw [if_pos (by omega), if_pos (by omega)]
  simp
theorem tn_ext {n : Nat} {f : Nat → Int} {l : List Int} (h1 : l.length = n) (h2 : ∀ i, i < n → l[i]? = some (f i)) : l = tn n f := by
  apply List.ext_getElem?
  intro i
  by_cases h : i < n
  · rw [h2 i h, tn_get f h]
  · rw [List.getElem?_eq_none (by omega), List.getElem?_eq_none (by rw [tn_len]; omega)]
theorem tv_ext {n : Nat} {f : Nat → Int} {l : List V} (h1 : l.length = n) (h2 : ∀ i, i < n → l[i]? = some (.int (f i))) : l = tv n f := by
  apply List.ext_getElem?
  intro i
  by_cases h : i < n
  · rw [h2 i h, tv_get f h]
  · rw [List.getElem?_eq_none (by omega), List.getElem?_eq_none (by rw [tv_len]; omega)]
theorem tv_congr {n : Nat} {f g : Nat → Int} (h : ∀ i, i < n → f i = g i) : tv n f = tv n g :=
  tv_ext (tv_len n f) fun i hi => by rw [tv_get f hi, h i hi]
theorem tv_set {n k : Nat} (f : Nat → Int) (v : Int) (h : k < n) : (tv n f).set k (.int v) = tv n (fun i => if i = k then v else f i) := by
  refine tv_ext (by rw [List.length_set, tv_len]) fun i hi => ?_
  rw [List.getElem?_set, tv_len]
  by_cases e : k = i
  · subst e
    rw [if_pos rfl, if_pos rfl, if_pos hi]
  · rw [if_neg e, tv_get f hi, if_neg (Ne.symm e)]
theorem tv_snoc (n : Nat) (f : Nat → Int) : tv n f ++ [.int (f n)] = tv (n + 1) f := by
  refine tv_ext (by rw [List.length_append, tv_len]; rfl) fun i hi => ?_
  by_cases h : i < n
  · rw [List.getElem?_append_left (by rw [tv_len]; exact h), tv_get f h]
  · obtain rfl : i = n := by omega
    rw [List.getElem?_append_right (by rw [tv_len]; omega), tv_len, Nat.sub_self]
    rfl
theorem tv_zero (f : Nat → Int) : tv 0 f = [] := rfl
theorem tv_rep (n : Nat) (c : Int) : (List.replicate n [V.int c]).flatten = tv n (fun _ => c) := by
  induction n with
  | zero => rfl
  | succ n ih =>
    rw [← tv_snoc, ← ih, List.replicate_succ', List.flatten_append]
    rfl
theorem tv_of (l : List Int) : l.map V.int = tv l.length (fun i => l.getD i 0) := by
  refine tv_ext (by rw [List.length_map]) fun i hi => ?_
  rw [List.getElem?_map, List.getElem?_eq_getElem hi, List.getD_eq_getElem?_getD, List.getElem?_eq_getElem hi]
  rfl
theorem tv_cons (n : Nat) (c : Int) (f : Nat → Int) : V.int c :: tv n f = tv (n + 1) (fun i => if i = 0 then c else f (i - 1)) := by
  refine tv_ext (by rw [List.length_cons, tv_len]) fun i hi => ?_
  cases i with
  | zero => rfl
  | succ i =>
    rw [List.getElem?_cons_succ, tv_get f (by omega), if_neg (by omega)]
    rfl
theorem tv_inj {n : Nat} {f g : Nat → Int} (h : tv n f = tv n g) : ∀ i, i < n → f i = g i := fun i hi => by
  have := tv_get f hi
  rw [h, tv_get g hi] at this
  exact (V.int.inj (Option.some.inj this)).symm
/-- the series of a list: its numbers stand before the powers from the first on -/
def lift (f : Nat → Int) : Ser := fun i => if i = 0 then 0 else f (i - 1)
theorem lift_zero (f : Nat → Int) : lift f 0 = 0 := rfl
theorem lift_succ (f : Nat → Int) (i : Nat) : lift f (i + 1) = f i := by
  unfold lift
  rw [if_neg (by omega), Nat.add_sub_cancel]
theorem sqL_det {K : PySem.W.Frag} {H : Hp} {a : Addr} {n : Nat} {f : Nat → Int} {p : Addr} {q : Addr} (h : SqL K H a (tv n f)) (e : p = a) : SqL K H p (tv n f) := e ▸ h
/-- a walk over a list gives its numbers -/
theorem Same.sqL {K : PySem.W.Frag} {H H' : Hp} {a : Addr} {xs : List V} (s : Same H H') (h : SqL K H a xs) : SqL K H' a xs := s.seq h
end Gw

set_option linter.all false
set_option maxHeartbeats 1000000
namespace Gw
open L2
/-! How large the numbers of what undoes a series are. -/
def Rr : Nat := 262144
def Ss : Nat := 68719476736
theorem Rr_eq : Rr = 262144 := rfl
theorem Ss_eq : Ss = 68719476736 := rfl
theorem Rr_pos : 0 < Rr := by decide
theorem Ss_pos : 0 < Ss := by decide
/-- small enough: the number before the power j, times R, is at most S to the j -/
def Slow (g : Ser) (N : Nat) : Prop := g 0 = 0 ∧ ∀ j, j ≤ N → (g j).natAbs * Rr ≤ Ss ^ j
theorem slow_of {f : Nat → Int} {n : Nat} (h : ∀ i, i < n → (f i).natAbs ≤ 262144) : Slow (lift f) n := by
  refine ⟨rfl, fun j hj => ?_⟩
  cases j with
  | zero => rw [lift_zero]; decide
  | succ j =>
    rw [lift_succ, Nat.pow_succ]
    have a := h j (by omega)
    have b : 1 ≤ Ss ^ j := Nat.pow_pos Ss_pos
    calc (f j).natAbs * Rr ≤ 262144 * Rr := Nat.mul_le_mul_right _ a
      _ = 1 * Ss := rfl
      _ ≤ Ss ^ j * Ss := Nat.mul_le_mul_right _ b
theorem Slow.mono {g : Ser} {N M : Nat} (h : Slow g N) (l : M ≤ N) : Slow g M := ⟨h.1, fun j hj => h.2 j (by omega)⟩
theorem Slow.cut {g : Ser} {N : Nat} (h : Slow g N) (M : Nat) : Slow (cutN g M) N := by
  refine ⟨?_, fun j hj => ?_⟩
  · unfold cutN
    split
    · exact h.1
    · rfl
  · unfold cutN
    split
    · exact h.2 j hj
    · simp
theorem Slow.pw {g : Ser} {N : Nat} (h : Slow g N) (k n : Nat) (hn : n ≤ N) : (pw g k n).natAbs * Rr ^ k ≤ (2 * Ss) ^ n := pw_bd g h.1 N h.2 k n hn
theorem big_le {n : Nat} (h : n ≤ 12) : (2 * Ss) ^ n < 2 ^ 500 := by
  have e : (2 * Ss) = 2 ^ 37 := by rw [Ss_eq]
  rw [e, ← Nat.pow_mul]
  exact Nat.pow_lt_pow_right (by decide) (by omega)
theorem Slow.pw_lt {g : Ser} {N : Nat} (h : Slow g N) (k n : Nat) (hn : n ≤ N) (h12 : N ≤ 12) : (Gw.pw g k n).natAbs < 2 ^ 500 := by
  have a := h.pw k n hn
  have b : 0 < Rr ^ k := Nat.pow_pos Rr_pos
  have c := big_le (n := n) (by omega)
  exact Nat.lt_of_le_of_lt (Nat.le_trans (Nat.le_mul_of_pos_right _ b) a) c
theorem Slow.lt {g : Ser} {N : Nat} (h : Slow g N) (n : Nat) (hn : n ≤ N) (h12 : N ≤ 12) : (g n).natAbs < 2 ^ 500 := by
  have := h.pw_lt 1 n hn h12
  rwa [pw_one] at this
theorem psum_bd {g : Ser} {F : Ser} {n B : Nat} : ∀ m, (∀ k, k < m → (F k * pw g k n).natAbs * Rr ^ 2 ≤ B) → (psum F g m n).natAbs * Rr ^ 2 ≤ m * B
  | 0, _ => by
    show 0 * _ ≤ _
    omega
  | m + 1, h => by
    have ih := psum_bd m (fun k hk => h k (by omega))
    have a := h m (by omega)
    have tri := Nat.mul_le_mul_right (Rr ^ 2) (Int.natAbs_add_le (psum F g m n) (F m * pw g m n))
    rw [Nat.add_mul] at tri
    rw [Nat.succ_mul]
    show (psum F g m n + F m * pw g m n).natAbs * _ ≤ _
    omega
theorem inv_slow {F : Ser} {N : Nat} (F0 : F 0 = 0) (F1 : F 1 = 1 ∨ F 1 = -1) (h12 : N ≤ 12) (hF : ∀ i, i ≤ N → (F i).natAbs ≤ 4) : Slow (inv F) N := by
  refine ⟨rfl, fun n => ?_⟩
  induction n using Nat.strongRecOn with
  | ind n ih =>
    intro hn
    cases n with
    | zero => show 0 * _ ≤ _; simp
    | succ n =>
      have sl : Slow (cutN (inv F) (n + 1)) (n + 1) := by
        refine ⟨by unfold cutN; rw [if_pos (by omega)]; rfl, fun j hj => ?_⟩
        unfold cutN
        by_cases e : j < n + 1
        · rw [if_pos e]; exact ih j e (by omega)
        · rw [if_neg e]; simp
      have bd : (psum F (cutN (inv F) (n + 1)) (n + 2) (n + 1)).natAbs * Rr ^ 2 ≤ (n + 2) * (4 * (2 * Ss) ^ (n + 1)) := by
        refine psum_bd (n + 2) fun k hk => ?_
        match k, hk with
        | 0, _ => rw [F0, Int.zero_mul]; simp
        | 1, _ =>
          rw [pw_one]
          unfold cutN
          rw [if_neg (by omega), Int.mul_zero]
          simp
        | k + 2, hk =>
          have a := sl.pw (k + 2) (n + 1) (Nat.le_refl _)
          have b := hF (k + 2) (by omega)
          rw [Int.natAbs_mul]
          have c : Rr ^ 2 ≤ Rr ^ (k + 2) := Nat.pow_le_pow_right Rr_pos (by omega)
          calc _ ≤ 4 * (Gw.pw (cutN (inv F) (n + 1)) (k + 2) (n + 1)).natAbs * Rr ^ (k + 2) := Nat.mul_le_mul (Nat.mul_le_mul_right _ b) c
            _ = 4 * ((Gw.pw (cutN (inv F) (n + 1)) (k + 2) (n + 1)).natAbs * Rr ^ (k + 2)) := by ac_rfl
            _ ≤ _ := Nat.mul_le_mul_left 4 a
      rw [inv_succ, comp_psum _ sl.1 (n + 1) (n + 2) F (by omega)]
      have ab : (F 1 * ((if n + 1 = 1 then 1 else 0) - psum F (cutN (inv F) (n + 1)) (n + 2) (n + 1))).natAbs ≤ 1 + (psum F (cutN (inv F) (n + 1)) (n + 2) (n + 1)).natAbs := by
        rcases F1 with e | e <;> rw [e] <;> split <;> omega
      generalize hX : (psum F (cutN (inv F) (n + 1)) (n + 2) (n + 1)).natAbs = X at ab bd
      have p1 : (2 * Ss) ^ (n + 1) = 2 ^ (n + 1) * Ss ^ (n + 1) := Nat.mul_pow _ _ _
      have p2 : 2 ^ (n + 1) ≤ 2 ^ 12 := Nat.pow_le_pow_right (by decide) (by omega)
      have p3 : (2 * Ss) ^ (n + 1) ≤ 4096 * Ss ^ (n + 1) := by
        rw [p1]; exact Nat.mul_le_mul_right _ p2
      have p4 : X * Rr ^ 2 ≤ 13 * (4 * (4096 * Ss ^ (n + 1))) := Nat.le_trans bd (Nat.mul_le_mul (by omega) (Nat.mul_le_mul_left 4 p3))
      have p5 : 262144 * (X * Rr) ≤ 212992 * Ss ^ (n + 1) := by
        have : Rr ^ 2 = 262144 * Rr := rfl
        rw [this] at p4
        have e : X * (262144 * Rr) = 262144 * (X * Rr) := by ac_rfl
        omega
      have p6 : Ss ≤ Ss ^ (n + 1) := by
        rw [Nat.pow_succ]
        exact Nat.le_mul_of_pos_left _ (Nat.pow_pos Ss_pos)
      have p7 : (1 + X) * Rr = Rr + X * Rr := by rw [Nat.add_mul, Nat.one_mul]
      have p8 := Nat.mul_le_mul_right Rr ab
      rw [p7] at p8
      refine Nat.le_trans p8 ?_
      clear p1 p2 p3 p4 p7 p8 ab bd ih hF hX
      revert p5 p6
      generalize Ss ^ (n + 1) = Y
      generalize X * Rr = Z
      rw [Rr_eq, Ss_eq]
      intro p5 p6
      omega
end Gw

set_option Elab.async false
set_option linter.all false
set_option maxRecDepth 100000
set_option maxHeartbeats 4000000
namespace Gw
open PySem PySem.Spec PyProof.Rows L2
/-! == and != of data, also within comprehensions. -/
theorem ne_same {K : PySem.W.Frag} {x y : V} {H : Hp} {Q : VK} {d e : PyData} (hx : Dp K H x d) (hy : Dp K H y e) (h : d = e) (ok : SeqAt.shaped e = true) (k : Q (.bl false) H) : rNeD K x y H Q := by
  subst h
  refine ⟨_, _, hx, hy, ok, ok, ?_⟩
  rw [SeqAt.eqv_refl _ (SeqAt.canLay_of_shaped ok)]
  exact k
theorem eq_same {K : PySem.W.Frag} {x y : V} {H : Hp} {Q : VK} {d e : PyData} (hx : Dp K H x d) (hy : Dp K H y e) (h : d = e) (ok : SeqAt.shaped e = true) (k : Q (.bl true) H) : rEqD K x y H Q := by
  subst h
  refine ⟨_, _, hx, hy, ok, ok, ?_⟩
  rw [SeqAt.eqv_refl _ (SeqAt.canLay_of_shaped ok)]
  exact k
theorem op_eqDK {X : Cx} {K : PySem.W.Frag} (h : X.K = K) (hu : X.A.units + 64 < cLine) : OpR X (compareOp .Eq) (rEqD K) := by
  rw [← h]
  exact op_eqD hu
theorem op_neDK {X : Cx} {K : PySem.W.Frag} (h : X.K = K) (hu : X.A.units + 64 < cLine) : OpR X (compareOp .NotEq) (rNeD K) := by
  rw [← h]
  exact op_neD hu
end Gw

set_option Elab.async false
set_option linter.all false
set_option maxRecDepth 100000
set_option maxHeartbeats 4000000
namespace Gw
open PySem PySem.Spec PyProof.Rows L2
/-! Lists of whole numbers as data. -/
def dI (l : List Int) : List PyData := l.map PyData.int
abbrev dL (n : Nat) (f : Nat → Int) : PyData := .list (dI (tn n f))
theorem dpAll_I {K : PySem.W.Frag} {H : Hp} : ∀ l : List Int, DpAll K H (l.map V.int) (dI l)
  | [] => .nil
  | i :: l => .cons (.int i) (dpAll_I l)
theorem dp_L {K : PySem.W.Frag} {H : Hp} {a : Addr} {n : Nat} {f : Nat → Int} (h : SqL K H a (tv n f)) : Dp K H (.ref a) (dL n f) := .lst h (dpAll_I _)
theorem lay_I : ∀ l : List Int, PyData.canLayAll0 (dI l) = true
  | [] => by simp [dI, PyData.canLayAll0]
  | i :: l => by
    show PyData.canLayAll0 (.int i :: dI l) = true
    simp [PyData.canLayAll0, PyData.canLay0, lay_I l]
theorem depth_I : ∀ l : List Int, PyData.depthAll (dI l) = 0
  | [] => by simp [dI, PyData.depthAll]
  | i :: l => by
    show PyData.depthAll (.int i :: dI l) = 0
    simp [PyData.depthAll, PyData.depth, depth_I l]
theorem shaped_L (n : Nat) (f : Nat → Int) : SeqAt.shaped (dL n f) = true := by
  unfold SeqAt.shaped
  simp [PyData.canLay0, PyData.depth, lay_I, depth_I]
theorem shaped_LL (n m : Nat) (f g : Nat → Int) : SeqAt.shaped (.list [dL n f, dL m g]) = true := by
  unfold SeqAt.shaped
  simp [PyData.canLay0, PyData.canLayAll0, PyData.depth, PyData.depthAll, lay_I, depth_I]
theorem dL_congr {n : Nat} {f g : Nat → Int} (h : ∀ i, i < n → f i = g i) : dL n f = dL n g := by
  unfold dL
  congr 2
  exact tn_ext (tn_len n f) fun i hi => by rw [tn_get f hi, h i hi]
theorem nice_L {n : Nat} {f : Nat → Int} (n12 : n ≤ 12) (h : ∀ i, i < n → (f i).natAbs < 2 ^ 1000) : Nice 30000 (dL n f) := by
  refine nice_list (n := 2000) (fun d hd => ?_) (by rw [depth_I]; decide) (by unfold dI; rw [List.length_map, tn_len]; omega)
  unfold dI tn at hd
  rw [List.map_map, List.mem_map] at hd
  obtain ⟨i, hi, rfl⟩ := hd
  exact nice_int (Nat.lt_trans (log_lt (h i (List.mem_range.mp hi)) (by decide)) (by decide))
theorem dpAll_ints {K : PySem.W.Frag} {F : Hp} {P : Int → Prop} : ∀ {xs : List V} {ds : List PyData}, DpAll K F xs ds → (∀ (i : Nat) (d : PyData), ds[i]? = some d → ∃ z, d = PyData.int z ∧ P z) → ∃ zs : List Int, xs = zs.map V.int ∧ zs.length = ds.length ∧ ∀ i, i < zs.length → P (zs.getD i 0)
  | _, _, .nil, _ => ⟨[], rfl, rfl, fun i hi => absurd hi (Nat.not_lt_zero _)⟩
  | _, _, .cons h1 h2, h => by
    obtain ⟨z, rfl, pz⟩ := h 0 _ rfl
    obtain ⟨zs, rfl, e, hp⟩ := dpAll_ints h2 (fun i d hd => h (i + 1) d hd)
    cases h1
    refine ⟨z :: zs, rfl, by rw [List.length_cons, List.length_cons, e], fun i hi => ?_⟩
    cases i with
    | zero => exact pz
    | succ i => exact hp i (by rw [List.length_cons] at hi; omega)
end Gw

namespace Gw
open PySem PySem.Spec PyProof.Rows L2
/-- a series has one to twelve numbers -/
def terms (n : Nat) : Bool := decide (1 ≤ n) && decide (n ≤ 12)
/-- a new list comes back -/
def QNew (H : Hp) (Q : VK) (n : Nat) (f : Nat → Int) : Prop := ∀ (t : Addr) (H' : Hp), Same H H' → H t = none → H' t = some (.lst (tv n f)) → Q (.ref t) H'
def CMs (n : Nat) (f g : Nat → Int) : Prop := ∀ i j, i < n → j < n → CMulW (f i) (g j)
def mulF (f g : Nat → Int) : Nat → Int := fun i => smul (lift f) (lift g) (i + 1)
def putF (n : Nat) (f g : Nat → Int) : Nat → Int := fun i => psum (lift f) (lift g) (n + 1) (i + 1)
theorem pw_first (g : Nat → Int) (k : Nat) : pw (lift g) (k + 1) 0 = 0 := by
  show pw (lift g) k 0 * lift g 0 = 0
  rw [lift_zero, Int.mul_zero]
theorem lift_sh (a : Ser) (h : a 0 = 0) : lift (fun i => a (i + 1)) = a := by
  funext i
  cases i with
  | zero => rw [lift_zero, h]
  | succ i => rw [lift_succ]
def CPut (n : Nat) (f g : Nat → Int) : Prop := ∀ k, k < n → CMs n (fun i => pw (lift g) (k + 1) (i + 1)) g ∧ ∀ j, j < n → CMulW (f k) (pw (lift g) (k + 1) (j + 1))
theorem cput_of {n : Nat} {f g : Nat → Int} (n12 : n ≤ 12) (hf : ∀ i, i < n → (f i).natAbs < 2 ^ 500) (hg : Slow (lift g) n) : CPut n f g := by
  refine fun k hk => ⟨fun i j hi hj => ?_, fun j hj => ?_⟩
  · refine wide_mul (a := 500) (b := 500) (hg.pw_lt (k + 1) (i + 1) (by omega) n12) ?_ (by decide) (by decide) (by decide)
    have := hg.lt (j + 1) (by omega) n12
    rwa [lift_succ] at this
  · exact wide_mul (a := 500) (b := 500) (hf k hk) (hg.pw_lt (k + 1) (j + 1) (by omega) n12) (by decide) (by decide) (by decide)
/-- what undoes a series, its numbers ahead of k -/
def undK (f : Nat → Int) (k : Nat) : Nat → Int := fun i => if i < k then inv (lift f) (i + 1) else 0
theorem undK_succ (f : Nat → Int) (k i : Nat) : (if i = k then inv (lift f) (k + 1) else undK f k i) = undK f (k + 1) i := by
  unfold undK
  by_cases h : i = k
  · subst h
    rw [if_pos rfl, if_pos (by omega)]
  · rw [if_neg h]
    by_cases h2 : i < k
    · rw [if_pos h2, if_pos (by omega)]
    · rw [if_neg h2, if_neg (by omega)]
theorem lift_undK (f : Nat → Int) (k : Nat) : lift (undK f k) = cutN (inv (lift f)) (k + 1) := by
  funext i
  cases i with
  | zero => rfl
  | succ i =>
    rw [lift_succ]
    unfold undK cutN
    by_cases h : i < k
    · rw [if_pos h, if_pos (by omega)]
    · rw [if_neg h, if_neg (by omega)]
theorem putF_und (f : Nat → Int) (n k : Nat) (h : k < n) : inv (lift f) (k + 1) = f 0 * ((if k = 0 then 1 else 0) - putF n f (undK f k) k) := by
  unfold putF
  rw [inv_succ, lift_undK, ← comp_psum _ (by unfold cutN; rw [if_pos (by omega)]; rfl) (k + 1) (n + 1) (lift f) (by omega), lift_succ f 0]
  congr 2
  by_cases e : k = 0
  · rw [if_pos e, if_pos (by omega)]
  · rw [if_neg e, if_neg (by omega)]
theorem und_slow {f : Nat → Int} {n : Nat} (k : Nat) (h : Slow (inv (lift f)) n) : Slow (lift (undK f k)) n := by
  rw [lift_undK]
  exact h.cut (k + 1)
theorem inv_small {f : Nat → Int} {n : Nat} (n12 : n ≤ 12) (h0 : f 0 = 1 ∨ f 0 = -1) (hf : ∀ i, i < n → (f i).natAbs ≤ 4) : Slow (inv (lift f)) n := by
  refine inv_slow (F := lift f) (lift_zero f) (by rw [lift_succ f 0]; exact h0) n12 fun i hi => ?_
  cases i with
  | zero => exact Nat.zero_le _
  | succ i => rw [lift_succ]; exact hf i (by omega)
theorem lt500 {x : Int} (h : x.natAbs ≤ 4) : x.natAbs < 2 ^ 500 := Nat.lt_of_le_of_lt h (Nat.lt_of_lt_of_le (show 4 < 2 ^ 3 by decide) (Nat.pow_le_pow_right (by decide) (by decide)))
/-- the same for series from their first numbers on -/
def rowP (f g : Nat → Int) (k j i : Nat) : Int := if k ≤ i ∧ i < k + j then f k * g (i - k) else 0
theorem rowP_zero (f g : Nat → Int) (k i : Nat) : rowP f g k 0 i = 0 := if_neg (by omega)
theorem rowP_succ (f g : Nat → Int) (k j i : Nat) (S : Int) : (if i = k + j then (S + rowP f g k j i) + f k * g j else S + rowP f g k j i) = S + rowP f g k (j + 1) i := by
  unfold rowP
  by_cases h : i = k + j
  · subst h
    rw [if_pos rfl, if_neg (by omega), if_pos (by omega), show k + j - k = j by omega]
    omega
  · rw [if_neg h]
    by_cases h2 : k ≤ i ∧ i < k + j
    · rw [if_pos h2, if_pos (by omega)]
    · rw [if_neg h2, if_neg (by omega)]
theorem rowP_all (f g : Nat → Int) (n k i : Nat) (h : i < n) : smul (cutN f k) g i + rowP f g k (n - k) i = smul (cutN f (k + 1)) g i := by
  rw [smul_cut k i]
  unfold rowP
  congr 1
  by_cases h2 : k ≤ i
  · rw [if_pos (by omega), if_pos (by omega)]
  · rw [if_neg (by omega), if_neg h2]
/-! ### the text by places -/
def topS (i : Nat) : Stmt := PySem.Challenge.pw_graftworth_k03_series.main.body.getD i (.Pass ⟨0, 0, 0, 0⟩)
abbrev st__check_series : Stmt := topS 6
abbrev sl__check_series : List Str := ["series"]
theorem sc__check_series : FnScope sl__check_series ["series"] (defScope st__check_series) := ⟨rfl, rfl, rfl, by decide +kernel, rfl, by decide +kernel, by decide +kernel⟩
abbrev st__check_alike_long : Stmt := topS 7
abbrev sl__check_alike_long : List Str := ["one", "other"]
theorem sc__check_alike_long : FnScope sl__check_alike_long ["one", "other"] (defScope st__check_alike_long) := ⟨rfl, rfl, rfl, by decide +kernel, rfl, by decide +kernel, by decide +kernel⟩
abbrev st_added_series : Stmt := topS 8
abbrev sl_added_series : List Str := ["one", "other", "x", "y"]
theorem sc_added_series : FnScope sl_added_series ["one", "other"] (defScope st_added_series) := ⟨rfl, rfl, rfl, by decide +kernel, rfl, by decide +kernel, by decide +kernel⟩
abbrev st_multiplied_series : Stmt := topS 9
abbrev sl_multiplied_series : List Str := ["one", "other", "made", "first", "x", "second"]
theorem sc_multiplied_series : FnScope sl_multiplied_series ["one", "other"] (defScope st_multiplied_series) := ⟨rfl, rfl, rfl, by decide +kernel, rfl, by decide +kernel, by decide +kernel⟩
abbrev st_put_into : Stmt := topS 10
abbrev sl_put_into : List Str := ["one", "other", "made", "power", "term", "x", "y"]
theorem sc_put_into : FnScope sl_put_into ["one", "other"] (defScope st_put_into) := ⟨rfl, rfl, rfl, by decide +kernel, rfl, by decide +kernel, by decide +kernel⟩
abbrev st_undoing : Stmt := topS 11
abbrev sl_undoing : List Str := ["series", "first", "found", "index", "due"]
theorem sc_undoing : FnScope sl_undoing ["series"] (defScope st_undoing) := ⟨rfl, rfl, rfl, by decide +kernel, rfl, by decide +kernel, by decide +kernel⟩
abbrev st_turned_signs : Stmt := topS 12
abbrev sl_turned_signs : List Str := ["series", "index", "term"]
theorem sc_turned_signs : FnScope sl_turned_signs ["series"] (defScope st_turned_signs) := ⟨rfl, rfl, rfl, by decide +kernel, rfl, by decide +kernel, by decide +kernel⟩
abbrev st__law_plain : Stmt := topS 14
abbrev sl__law_plain : List Str := ["cell"]
theorem sc__law_plain : FnScope sl__law_plain ["cell"] (defScope st__law_plain) := ⟨rfl, rfl, rfl, by decide +kernel, rfl, by decide +kernel, by decide +kernel⟩
abbrev st__law_draws : Stmt := topS 15
abbrev sl__law_draws : List Str := ["script", "draws", "cell", "rest", "k", "once", "twice"]
theorem sc__law_draws : FnScope sl__law_draws ["script"] (defScope st__law_draws) := ⟨rfl, rfl, rfl, by decide +kernel, rfl, by decide +kernel, by decide +kernel⟩
abbrev st__law_next : Stmt := topS 16
abbrev sl__law_next : List Str := ["draws"]
theorem sc__law_next : FnScope sl__law_next ["draws"] (defScope st__law_next) := ⟨rfl, rfl, rfl, by decide +kernel, rfl, by decide +kernel, by decide +kernel⟩
abbrev st__law_product : Stmt := topS 17
abbrev sl__law_product : List Str := ["one", "other", "many", "parts", "i", "j"]
theorem sc__law_product : FnScope sl__law_product ["one", "other", "many"] (defScope st__law_product) := ⟨rfl, rfl, rfl, by decide +kernel, rfl, by decide +kernel, by decide +kernel⟩
abbrev st__law_put : Stmt := topS 18
abbrev sl__law_put : List Str := ["one", "other", "many", "power", "total", "i", "j"]
theorem sc__law_put : FnScope sl__law_put ["one", "other", "many"] (defScope st__law_put) := ⟨rfl, rfl, rfl, by decide +kernel, rfl, by decide +kernel, by decide +kernel⟩
abbrev st__law_told : Stmt := topS 19
abbrev sl__law_told : List Str := ["way", "one", "other", "error", "kinds"]
theorem sc__law_told : FnScope sl__law_told ["way", "one", "other"] (defScope st__law_told) := ⟨rfl, rfl, rfl, by decide +kernel, rfl, by decide +kernel, by decide +kernel⟩
abbrev st_law : Stmt := topS 20
abbrev sl_law : List Str := ["script", "draws", "many", "one", "other", "passed", "due", "way", "unit", "told", "j"]
theorem sc_law : FnScope sl_law ["script"] (defScope st_law) := ⟨rfl, rfl, rfl, by decide +kernel, rfl, by decide +kernel, by decide +kernel⟩
/-- where the text's own things stand -/
structure Ad where
  a__check_series : Addr
  d__check_series : FuncData
  a__check_alike_long : Addr
  d__check_alike_long : FuncData
  a_added_series : Addr
  d_added_series : FuncData
  a_multiplied_series : Addr
  d_multiplied_series : FuncData
  a_put_into : Addr
  d_put_into : FuncData
  a_undoing : Addr
  d_undoing : FuncData
  a_turned_signs : Addr
  d_turned_signs : FuncData
  a__law_plain : Addr
  d__law_plain : FuncData
  a__law_draws : Addr
  d__law_draws : FuncData
  a__law_next : Addr
  d__law_next : FuncData
  a__law_product : Addr
  d__law_product : FuncData
  a__law_put : Addr
  d__law_put : FuncData
  a__law_told : Addr
  d__law_told : FuncData
  a_law : Addr
  d_law : FuncData
  a_GraftError : Addr
  a_BadNumber : Addr
  a_NoAnswer : Addr
/-- what is known of them -/
structure Txt (K : PySem.W.Frag) (mg : Str → Option Value) (ad : Ad) : Prop where
  F__check_series : Fun K "_check_series" "_check_series" st__check_series ad.a__check_series ad.d__check_series
  b__check_series : Binds K ad.d__check_series ["series"] []
  g__check_series : mg "_check_series" = some (.ref ad.a__check_series)
  k__check_series : PySem.W.keepIn K (.ref ad.a__check_series) = true
  F__check_alike_long : Fun K "_check_alike_long" "_check_alike_long" st__check_alike_long ad.a__check_alike_long ad.d__check_alike_long
  b__check_alike_long : Binds K ad.d__check_alike_long ["one", "other"] []
  g__check_alike_long : mg "_check_alike_long" = some (.ref ad.a__check_alike_long)
  k__check_alike_long : PySem.W.keepIn K (.ref ad.a__check_alike_long) = true
  F_added_series : Fun K "added_series" "added_series" st_added_series ad.a_added_series ad.d_added_series
  b_added_series : Binds K ad.d_added_series ["one", "other"] []
  g_added_series : mg "added_series" = some (.ref ad.a_added_series)
  k_added_series : PySem.W.keepIn K (.ref ad.a_added_series) = true
  F_multiplied_series : Fun K "multiplied_series" "multiplied_series" st_multiplied_series ad.a_multiplied_series ad.d_multiplied_series
  b_multiplied_series : Binds K ad.d_multiplied_series ["one", "other"] []
  g_multiplied_series : mg "multiplied_series" = some (.ref ad.a_multiplied_series)
  k_multiplied_series : PySem.W.keepIn K (.ref ad.a_multiplied_series) = true
  F_put_into : Fun K "put_into" "put_into" st_put_into ad.a_put_into ad.d_put_into
  b_put_into : Binds K ad.d_put_into ["one", "other"] []
  g_put_into : mg "put_into" = some (.ref ad.a_put_into)
  k_put_into : PySem.W.keepIn K (.ref ad.a_put_into) = true
  F_undoing : Fun K "undoing" "undoing" st_undoing ad.a_undoing ad.d_undoing
  b_undoing : Binds K ad.d_undoing ["series"] []
  g_undoing : mg "undoing" = some (.ref ad.a_undoing)
  k_undoing : PySem.W.keepIn K (.ref ad.a_undoing) = true
  F_turned_signs : Fun K "turned_signs" "turned_signs" st_turned_signs ad.a_turned_signs ad.d_turned_signs
  b_turned_signs : Binds K ad.d_turned_signs ["series"] []
  g_turned_signs : mg "turned_signs" = some (.ref ad.a_turned_signs)
  k_turned_signs : PySem.W.keepIn K (.ref ad.a_turned_signs) = true
  F__law_plain : Fun K "_law_plain" "_law_plain" st__law_plain ad.a__law_plain ad.d__law_plain
  b__law_plain : Binds K ad.d__law_plain ["cell"] []
  g__law_plain : mg "_law_plain" = some (.ref ad.a__law_plain)
  k__law_plain : PySem.W.keepIn K (.ref ad.a__law_plain) = true
  F__law_draws : Fun K "_law_draws" "_law_draws" st__law_draws ad.a__law_draws ad.d__law_draws
  b__law_draws : Binds K ad.d__law_draws ["script"] []
  g__law_draws : mg "_law_draws" = some (.ref ad.a__law_draws)
  k__law_draws : PySem.W.keepIn K (.ref ad.a__law_draws) = true
  F__law_next : Fun K "_law_next" "_law_next" st__law_next ad.a__law_next ad.d__law_next
  b__law_next : Binds K ad.d__law_next ["draws"] []
  g__law_next : mg "_law_next" = some (.ref ad.a__law_next)
  k__law_next : PySem.W.keepIn K (.ref ad.a__law_next) = true
  F__law_product : Fun K "_law_product" "_law_product" st__law_product ad.a__law_product ad.d__law_product
  b__law_product : Binds K ad.d__law_product ["one", "other", "many"] []
  g__law_product : mg "_law_product" = some (.ref ad.a__law_product)
  k__law_product : PySem.W.keepIn K (.ref ad.a__law_product) = true
  F__law_put : Fun K "_law_put" "_law_put" st__law_put ad.a__law_put ad.d__law_put
  b__law_put : Binds K ad.d__law_put ["one", "other", "many"] []
  g__law_put : mg "_law_put" = some (.ref ad.a__law_put)
  k__law_put : PySem.W.keepIn K (.ref ad.a__law_put) = true
  F__law_told : Fun K "_law_told" "_law_told" st__law_told ad.a__law_told ad.d__law_told
  b__law_told : Binds K ad.d__law_told ["way", "one", "other"] []
  g__law_told : mg "_law_told" = some (.ref ad.a__law_told)
  k__law_told : PySem.W.keepIn K (.ref ad.a__law_told) = true
  F_law : Fun K "law" "law" st_law ad.a_law ad.d_law
  b_law : Binds K ad.d_law ["script"] []
  g_law : mg "law" = some (.ref ad.a_law)
  k_law : PySem.W.keepIn K (.ref ad.a_law) = true
  g_GraftError : mg "GraftError" = some (.ref ad.a_GraftError)
  k_GraftError : PySem.W.keepIn K (.ref ad.a_GraftError) = true
  x_GraftError : PySem.W.excIn K ad.a_GraftError vE "ValueError.__new__" = true
  s_GraftError : PySem.W.subIn K (.ref ad.a_GraftError) (.type "BaseException") = some true
  t_GraftError : PySem.W.typeIn K (.ref ad.a_GraftError) = some (.type "type")
  e_GraftError : ExcC K ad.a_GraftError
  i_GraftError_GraftError : PySem.W.kitOne K (.ref ad.a_GraftError) (.ref ad.a_GraftError) = some true
  m_GraftError_GraftError : PySem.W.exmOne K (.ref ad.a_GraftError) (.ref ad.a_GraftError) = some true
  i_GraftError_BadNumber : PySem.W.kitOne K (.ref ad.a_GraftError) (.ref ad.a_BadNumber) = some false
  m_GraftError_BadNumber : PySem.W.exmOne K (.ref ad.a_GraftError) (.ref ad.a_BadNumber) = some false
  i_GraftError_NoAnswer : PySem.W.kitOne K (.ref ad.a_GraftError) (.ref ad.a_NoAnswer) = some false
  m_GraftError_NoAnswer : PySem.W.exmOne K (.ref ad.a_GraftError) (.ref ad.a_NoAnswer) = some false
  g_BadNumber : mg "BadNumber" = some (.ref ad.a_BadNumber)
  k_BadNumber : PySem.W.keepIn K (.ref ad.a_BadNumber) = true
  x_BadNumber : PySem.W.excIn K ad.a_BadNumber vE "ValueError.__new__" = true
  s_BadNumber : PySem.W.subIn K (.ref ad.a_BadNumber) (.type "BaseException") = some true
  t_BadNumber : PySem.W.typeIn K (.ref ad.a_BadNumber) = some (.type "type")
  e_BadNumber : ExcC K ad.a_BadNumber
  i_BadNumber_GraftError : PySem.W.kitOne K (.ref ad.a_BadNumber) (.ref ad.a_GraftError) = some true
  m_BadNumber_GraftError : PySem.W.exmOne K (.ref ad.a_BadNumber) (.ref ad.a_GraftError) = some true
  i_BadNumber_BadNumber : PySem.W.kitOne K (.ref ad.a_BadNumber) (.ref ad.a_BadNumber) = some true
  m_BadNumber_BadNumber : PySem.W.exmOne K (.ref ad.a_BadNumber) (.ref ad.a_BadNumber) = some true
  i_BadNumber_NoAnswer : PySem.W.kitOne K (.ref ad.a_BadNumber) (.ref ad.a_NoAnswer) = some false
  m_BadNumber_NoAnswer : PySem.W.exmOne K (.ref ad.a_BadNumber) (.ref ad.a_NoAnswer) = some false
  g_NoAnswer : mg "NoAnswer" = some (.ref ad.a_NoAnswer)
  k_NoAnswer : PySem.W.keepIn K (.ref ad.a_NoAnswer) = true
  x_NoAnswer : PySem.W.excIn K ad.a_NoAnswer vE "ValueError.__new__" = true
  s_NoAnswer : PySem.W.subIn K (.ref ad.a_NoAnswer) (.type "BaseException") = some true
  t_NoAnswer : PySem.W.typeIn K (.ref ad.a_NoAnswer) = some (.type "type")
  e_NoAnswer : ExcC K ad.a_NoAnswer
  i_NoAnswer_GraftError : PySem.W.kitOne K (.ref ad.a_NoAnswer) (.ref ad.a_GraftError) = some true
  m_NoAnswer_GraftError : PySem.W.exmOne K (.ref ad.a_NoAnswer) (.ref ad.a_GraftError) = some true
  i_NoAnswer_BadNumber : PySem.W.kitOne K (.ref ad.a_NoAnswer) (.ref ad.a_BadNumber) = some false
  m_NoAnswer_BadNumber : PySem.W.exmOne K (.ref ad.a_NoAnswer) (.ref ad.a_BadNumber) = some false
  i_NoAnswer_NoAnswer : PySem.W.kitOne K (.ref ad.a_NoAnswer) (.ref ad.a_NoAnswer) = some true
  m_NoAnswer_NoAnswer : PySem.W.exmOne K (.ref ad.a_NoAnswer) (.ref ad.a_NoAnswer) = some true
  g_MOST_TERMS : ∃ u, mg "MOST_TERMS" = some u ∧ RelV (.int 12) u
  m_all : mg "all" = none
  m_enumerate : mg "enumerate" = none
  m_int : mg "int" = none
  m_isinstance : mg "isinstance" = none
  m_len : mg "len" = none
  m_list : mg "list" = none
  m_range : mg "range" = none
  m_repr : mg "repr" = none
  m_zip : mg "zip" = none
section
variable {P : Program} {w : World} {K : PySem.W.Frag} {mg : Str → Option Value} {base : Heap} {ad : Ad}

def sp_chk (K : PySem.W.Frag) (ad : Ad) : Sp := fun vs H Q E => ∃ (a : Addr) (xs : List V), vs = [.ref a] ∧ SqL K H a xs ∧ (terms xs.length = false → E (.ref ad.a_BadNumber) none H) ∧ (terms xs.length = true → Q .non H)
def sp_chk2 (K : PySem.W.Frag) (ad : Ad) : Sp := fun vs H Q E => ∃ (a b : Addr) (xs ys : List V), vs = [.ref a, .ref b] ∧ SqL K H a xs ∧ SqL K H b ys ∧ (terms xs.length = false → E (.ref ad.a_BadNumber) none H) ∧
  (terms xs.length = true → xs.length ≠ ys.length → E (.ref ad.a_BadNumber) none H) ∧ (terms xs.length = true → xs.length = ys.length → Q .non H)
/-- two series, what comes of them -/
def sp_two (K : PySem.W.Frag) (ad : Ad) (C : Nat → (Nat → Int) → (Nat → Int) → Prop) (F : Nat → (Nat → Int) → (Nat → Int) → Nat → Int) : Sp := fun vs H Q E => ∃ (a b : Addr) (n m : Nat) (f g : Nat → Int), vs = [.ref a, .ref b] ∧ SqL K H a (tv n f) ∧ SqL K H b (tv m g) ∧
  ((terms n && decide (n = m)) = false → E (.ref ad.a_BadNumber) none H) ∧ (terms n = true → n = m → C n f g ∧ QNew H Q n (F n f g))
abbrev sp_add (K : PySem.W.Frag) (ad : Ad) : Sp := sp_two K ad (fun _ _ _ => True) (fun _ f g i => f i + g i)
abbrev sp_mul (K : PySem.W.Frag) (ad : Ad) : Sp := sp_two K ad CMs (fun _ f g => mulF f g)
theorem eqV_int' (a b : Int) : eqV (.int a) (.int b) = decide (b = a) := by
  have h : eqV (.int a) (.int b) = decide (a = b) := by
    unfold eqV
    first | rfl | simp
  rw [h]
  by_cases e : a = b
  · rw [decide_eq_true e, decide_eq_true e.symm]
  · rw [decide_eq_false e, decide_eq_false (Ne.symm e)]
theorem none_of {H H' : Hp} {p : Addr} (s : Same H H') (h : H' p = none) : H p = none := by
  cases e : H p with
  | none => rfl
  | some o => rw [s p o e] at h; cases h
theorem yes_do {σ : L2.St} {H : Hp} {t e : Hp → Prop} (h : t H) : tYes σ H (fun b H3 => if b = true then t H3 else e H3) := by
  show if true = true then t H else e H
  rw [if_pos rfl]
  exact h
/-- what is added for one number of the first series, up to the number j of the second one -/
def rowE (f g : Nat → Int) (k j i : Nat) : Int := if k + 1 ≤ i ∧ i < k + 1 + j then f k * g (i - k - 1) else 0
theorem rowE_zero (f g : Nat → Int) (k i : Nat) : rowE f g k 0 i = 0 := if_neg (by omega)
theorem rowE_succ (f g : Nat → Int) (k j i : Nat) (S : Int) : (if i = k + 1 + j then (S + rowE f g k j i) + f k * g j else S + rowE f g k j i) = S + rowE f g k (j + 1) i := by
  unfold rowE
  by_cases h : i = k + 1 + j
  · subst h
    rw [if_pos rfl, if_neg (by omega), if_pos (by omega), show k + 1 + j - k - 1 = j by omega]
    omega
  · rw [if_neg h]
    by_cases h2 : k + 1 ≤ i ∧ i < k + 1 + j
    · rw [if_pos h2, if_pos (by omega)]
    · rw [if_neg h2, if_neg (by omega)]
theorem row_all (f g : Nat → Int) (n k i : Nat) (h : i < n) : smul (cutN (lift f) (k + 1)) (lift g) (i + 1) + rowE f g k (n - k - 1) i = smul (cutN (lift f) (k + 2)) (lift g) (i + 1) := by
  rw [smul_cut (k + 1) (i + 1), lift_succ]
  unfold rowE
  congr 1
  by_cases h2 : k + 1 ≤ i
  · rw [if_pos (by omega), if_pos (by omega), show i + 1 - (k + 1) = (i - k - 1) + 1 by omega, lift_succ]
  · rw [if_neg (by omega)]
    by_cases h3 : k = i
    · subst h3
      rw [if_pos (Nat.le_refl _), Nat.sub_self, lift_zero, Int.mul_zero]
    · rw [if_neg (by omega)]
theorem cut_one (f : Nat → Int) (b : Ser) (n : Nat) : smul (cutN (lift f) 1) b n = 0 := by
  rw [smul_cut, cutN_zero, smul_zer, lift_zero]
  simp
theorem int_le1 (n : Nat) : decide ((1 : Int) ≤ ((n : Nat) : Int)) = decide (1 ≤ n) := by
  by_cases h : 1 ≤ n
  · rw [decide_eq_true h, decide_eq_true (by omega)]
  · rw [decide_eq_false h, decide_eq_false (by omega)]
theorem int_le12 (n : Nat) : decide (((n : Nat) : Int) ≤ (12 : Int)) = decide (n ≤ 12) := by
  by_cases h : n ≤ 12
  · rw [decide_eq_true h, decide_eq_true (by omega)]
  · rw [decide_eq_false h, decide_eq_false (by omega)]
theorem terms_le {n : Nat} (h : terms n = true) : 1 ≤ n ∧ n ≤ 12 := by
  unfold terms at h
  simpa using h
abbrev sp_put (K : PySem.W.Frag) (ad : Ad) : Sp := sp_two K ad CPut putF
def sp_und (K : PySem.W.Frag) (ad : Ad) : Sp := fun vs H Q E => ∃ (a : Addr) (n : Nat) (f : Nat → Int), vs = [.ref a] ∧ SqL K H a (tv n f) ∧ (∀ i, i < n → (f i).natAbs < 2 ^ 500) ∧ (n ≤ 12 → 1 ≤ n → (f 0 = 1 ∨ f 0 = -1) → Slow (inv (lift f)) n) ∧ (terms n = false → E (.ref ad.a_BadNumber) none H) ∧
  (terms n = true → (f 0 ≠ 1 ∧ f 0 ≠ -1) → ∀ H', Same H H' → E (.ref ad.a_NoAnswer) none H') ∧ (terms n = true → (f 0 = 1 ∨ f 0 = -1) → QNew H Q n (fun i => inv (lift f) (i + 1)))
def sgnF (f : Nat → Int) : Nat → Int := fun i => if i % 2 = 1 then -f i else f i
def sp_sgn (K : PySem.W.Frag) (ad : Ad) : Sp := fun vs H Q E => ∃ (a : Addr) (n : Nat) (f : Nat → Int), vs = [.ref a] ∧ SqL K H a (tv n f) ∧ (terms n = false → E (.ref ad.a_BadNumber) none H) ∧ (terms n = true → QNew H Q n (sgnF f))
theorem QNew.mono {H H1 : Hp} {Q : VK} {n : Nat} {f : Nat → Int} (h : QNew H Q n f) (s : Same H H1) : QNew H1 Q n f := fun t H' s' nt ht => h t H' (s.trans s') (none_of s nt) ht
def sp_lprod (K : PySem.W.Frag) : Sp := fun vs H Q _ => ∃ (a b : Addr) (m : Nat) (f g : Nat → Int), vs = [.ref a, .ref b, .int (m : Int)] ∧ SqL K H a (tv (m + 1) f) ∧ SqL K H b (tv (m + 1) g) ∧ m ≤ 12 ∧ CMs (m + 1) f g ∧ QNew H Q (m + 1) (smul f g)
def sp_lput (K : PySem.W.Frag) : Sp := fun vs H Q _ => ∃ (a b : Addr) (m : Nat) (f g : Nat → Int), vs = [.ref a, .ref b, .int (m : Int)] ∧ SqL K H a (tv (m + 1) f) ∧ SqL K H b (tv (m + 1) g) ∧ m ≤ 12 ∧ f 0 = 0 ∧ Slow g m ∧ (∀ i, i ≤ m → (f i).natAbs < 2 ^ 500) ∧ QNew H Q (m + 1) (psum f g (m + 1))
/-- what the program tells: a list, or a text -/
def toldT (way : Int) (n m : Nat) (f : Nat → Int) : Str :=
  if way < 3 then (if (terms n && decide (n = m)) = true then "" else "!b") else if terms n = true then (if way = 3 ∧ f 0 ≠ 1 ∧ f 0 ≠ -1 then "!n" else "") else "!b"
def toldF (way : Int) (n : Nat) (f g : Nat → Int) : Nat → Int := if way = 0 then fun i => f i + g i else if way = 1 then mulF f g else if way = 2 then putF n f g else if way = 3 then fun i => inv (lift f) (i + 1) else sgnF f
def sp_told (K : PySem.W.Frag) : Sp := fun vs H Q _ => ∃ (way : Int) (a : Addr) (x : V) (n m : Nat) (f g : Nat → Int), vs = [.int way, .ref a, x] ∧ SqL K H a (tv n f) ∧ 0 ≤ way ∧ way < 5 ∧ (way < 3 → ∃ b, x = .ref b ∧ SqL K H b (tv m g)) ∧ (∀ i, i < n → (f i).natAbs ≤ 4) ∧ (∀ i, i < m → (g i).natAbs ≤ 4) ∧
  (toldT way n m f ≠ "" → ∀ H', Same H H' → Q (.str (toldT way n m f)) H') ∧ (toldT way n m f = "" → QNew H Q n (toldF way n f g))
theorem ok__check_series (T : Txt K mg ad) : FnOk P w K mg base (L2.CX P w) 1 ad.a__check_series ad.d__check_series ["series"] (sp_chk K ad) := by
  have nd := sc__check_series.nd
  refine T.F__check_series.okX sc__check_series (fun vs H Q E h => ?_) (fun cdv A outer s H vs Q E hr h => ?_)
  · first | (obtain ⟨_, rfl, _⟩ := h; rfl) | (obtain ⟨_, _, rfl, _⟩ := h; rfl) | (obtain ⟨_, _, _, rfl, _⟩ := h; rfl) | (obtain ⟨_, _, _, _, rfl, _⟩ := h; rfl) | (obtain ⟨_, _, _, _, _, rfl, _⟩ := h; rfl) | (obtain ⟨_, _, _, _, _, _, rfl, _⟩ := h; rfl) | (obtain ⟨_, _, _, _, _, _, _, rfl, _⟩ := h; rfl) | (obtain ⟨_, _, _, _, _, _, _, _, rfl, _⟩ := h; rfl)
  refine ⟨_, (pss_one (ps_if (pt_not (pt_chain op_le op_le pe_int (pe_callB call_len_seq (by rfl) T.m_len (by decide +kernel) (pa_cons (pv 0) pa_nil)) (Gw.pe_globE (v := .int 12) rfl T.g_MOST_TERMS))) (pss_one (ps_raise rfl (takes_of rfl rfl rfl rfl) (pmk_own PySem.F.excBase_ValueError T.x_BadNumber T.g_BadNumber T.k_BadNumber (raises_own T.s_BadNumber T.t_BadNumber) (by exact rfl)))) pss_nil)), ?_⟩

  obtain ⟨a, xs, rfl, hx, k1, k2⟩ := h
  refine ⟨_, rfl, a, xs, rfl, .inl hx, _, _, rfl, rfl, _, rfl, ?_⟩
  unfold terms at k1 k2
  rw [int_le1]
  refine iteB (fun c => ?_) (fun c => ?_)
  · refine ⟨_, _, rfl, rfl, _, rfl, ?_⟩
    dsimp only
    rw [int_le12]
    rw [c, Bool.true_and] at k1 k2
    refine iteB (fun c2 => ?_) (fun c2 => ?_)
    · exact k1 (by simpa using c2)
    · exact k2 (by simpa using c2)
  · rw [c, Bool.false_and] at k1
    exact ⟨_, rfl, k1 rfl⟩
theorem ok__check_alike_long (T : Txt K mg ad) : FnOk P w K mg base (L2.CX P w) 2 ad.a__check_alike_long ad.d__check_alike_long ["one", "other"] (sp_chk2 K ad) := by
  have nd := sc__check_alike_long.nd
  have G__check_series := ok__check_series (P := P) (w := w) (base := base) T
  have b__check_series := T.b__check_series
  refine T.F__check_alike_long.okX sc__check_alike_long (fun vs H Q E h => ?_) (fun cdv A outer s H vs Q E hr h => ?_)
  · first | (obtain ⟨_, rfl, _⟩ := h; rfl) | (obtain ⟨_, _, rfl, _⟩ := h; rfl) | (obtain ⟨_, _, _, rfl, _⟩ := h; rfl) | (obtain ⟨_, _, _, _, rfl, _⟩ := h; rfl) | (obtain ⟨_, _, _, _, _, rfl, _⟩ := h; rfl) | (obtain ⟨_, _, _, _, _, _, rfl, _⟩ := h; rfl) | (obtain ⟨_, _, _, _, _, _, _, rfl, _⟩ := h; rfl) | (obtain ⟨_, _, _, _, _, _, _, _, rfl, _⟩ := h; rfl)
  refine ⟨_, (pss_cons (ps_expr (pe_callS G__check_series (hr.mono (by decide)) rfl T.g__check_series T.k__check_series b__check_series (fun σ => passAt (takes_of rfl rfl rfl rfl) σ) (by exact (pa_cons (pv 0) pa_nil))))
      (pss_one (ps_if (pt_cmpR op_ne (pe_callB call_len_seq (by rfl) T.m_len (by decide +kernel) (pa_cons (pv 0) pa_nil)) (pe_callB call_len_seq (by rfl) T.m_len (by decide +kernel) (pa_cons (pv 1) pa_nil)) (nomark _)) (pss_one (ps_raise rfl (takes_of rfl rfl rfl rfl) (pmk_own PySem.F.excBase_ValueError T.x_BadNumber T.g_BadNumber T.k_BadNumber (raises_own T.s_BadNumber T.t_BadNumber) (by exact rfl)))) pss_nil))), ?_⟩

  obtain ⟨a, b, xs, ys, rfl, hx, hy, k1, k2, k3⟩ := h
  refine ⟨_, rfl, a, xs, rfl, hx, k1, fun c => ?_⟩
  refine ⟨_, rfl, a, xs, rfl, .inl hx, _, rfl, b, ys, rfl, .inl hy, rfl, _, rfl, ?_⟩
  refine iteB (fun c2 => ?_) (fun c2 => ?_)
  · refine k2 c fun e => ?_
    rw [e] at c2
    simp at c2
  · refine k3 c ?_
    have : V.int xs.length = V.int ys.length := by simpa using c2
    have := V.int.inj this
    omega
theorem ok_added_series (T : Txt K mg ad) : FnOk P w K mg base (L2.CX P w) 3 ad.a_added_series ad.d_added_series ["one", "other"] (sp_add K ad) := by
  have nd := sc_added_series.nd
  have G__check_alike_long := ok__check_alike_long (P := P) (w := w) (base := base) T
  have b__check_alike_long := T.b__check_alike_long
  refine T.F_added_series.okX sc_added_series (fun vs H Q E h => ?_) (fun cdv A outer s H vs Q E hr h => ?_)
  · first | (obtain ⟨_, rfl, _⟩ := h; rfl) | (obtain ⟨_, _, rfl, _⟩ := h; rfl) | (obtain ⟨_, _, _, rfl, _⟩ := h; rfl) | (obtain ⟨_, _, _, _, rfl, _⟩ := h; rfl) | (obtain ⟨_, _, _, _, _, rfl, _⟩ := h; rfl) | (obtain ⟨_, _, _, _, _, _, rfl, _⟩ := h; rfl) | (obtain ⟨_, _, _, _, _, _, _, rfl, _⟩ := h; rfl) | (obtain ⟨_, _, _, _, _, _, _, _, rfl, _⟩ := h; rfl)
  refine ⟨_, (pss_cons (ps_expr (pe_callS G__check_alike_long (hr.mono (by decide)) rfl T.g__check_alike_long T.k__check_alike_long b__check_alike_long (fun σ => passAt (takes_of rfl rfl rfl rfl) σ) (by exact (pa_cons (pv 0) (pa_cons (pv 1) pa_nil)))))
      (pss_one (ps_ret (pe_lc (own := [("x", 2), ("y", 3)]) (g := gTup K 2 (gCons (gName 2) (gCons (gName 3) gNil))) (by rfl) nd (pi_zip (by rfl) T.m_zip (pa_cons (pv 0) (pa_cons (pv 1) pa_nil))) (blkOk_by (own := [("x", 2), ("y", 3)]) (N := sl_added_series) (sc := defScope st_added_series) (by decide +kernel)) (fun _ _ _ _ _ => pg_tup rfl (pgs_cons (pg_name (i := 2) nd rfl (Or.inl rfl)) (pgs_cons (pg_name (i := 3) nd rfl (Or.inl rfl)) pgs_nil))) (fun _ _ _ _ _ => pts_nil) (fun _ _ _ _ _ => (pe_op op_add (pv 2) (pv 3))))))), ?_⟩

  obtain ⟨a, b, n, m, f, g, rfl, hx, hy, k1, k2⟩ := h
  refine ⟨_, rfl, _, rfl, a, b, _, _, rfl, hx, hy, fun c => ?_, fun c c2 => ?_, fun c c2 => ?_⟩
  · rw [tv_len] at c; exact k1 (by rw [c, Bool.false_and])
  · rw [tv_len] at c; rw [tv_len, tv_len] at c2; exact k1 (by rw [c, decide_eq_false c2]; rfl)
  · rw [tv_len] at c; rw [tv_len, tv_len] at c2
    have kk := (k2 c c2).2
    clear k1 k2
    subst c2
    obtain ⟨n1, n2⟩ := terms_le c
    refine ⟨_, rfl, _, rfl, a, b, _, _, rfl, hx, hy, fun D nD => ?_⟩
    refine lc_it (walk_zip (n := n) (by rw [tv_len, tv_len]; omega)) (fun i H' => Same H H' ∧ H' D = some (.lst (tv i (fun i => f i + g i)))) ⟨same_new nD, upd_same⟩ (fun i H' _ q => ⟨q.1.seq hx, q.1.seq hy⟩) ?_ ?_
    · rintro i x H1 H2 hi ⟨sm, hD⟩ ⟨T, x1, x2, rfl, nT, rfl, e1, e2⟩
      obtain ⟨_, rfl⟩ := tv_got e1
      obtain ⟨_, rfl⟩ := tv_got e2
      refine ⟨T, _, rfl, sqT_of upd_same, rfl, _, _, rfl, _, _, rfl, rfl, rfl, ?_⟩
      refine yes_do ?_
      have TD : D ≠ T := ne_of_none hD nT
      refine ⟨_, rfl, _, rfl, _, _, rfl, rfl, _, (by rw [upd_ne TD]; exact hD), lt_line (by rw [tv_len]; omega), fun c o e => ?_, ?_⟩
      · rw [upd_ne (ne_of_none e nD), upd_ne (ne_of_none (sm _ _ e) nT)]
        exact sm _ _ e
      · rw [upd_same]
        exact congrArg (fun l => some (HO.lst l)) (tv_snoc i (fun i => f i + g i))
    · rintro H1 ⟨sm, hD⟩
      exact kk D H1 sm nD hD
theorem ok_multiplied_series (T : Txt K mg ad) : FnOk P w K mg base (L2.CX P w) 3 ad.a_multiplied_series ad.d_multiplied_series ["one", "other"] (sp_mul K ad) := by
  have nd := sc_multiplied_series.nd
  have G__check_alike_long := ok__check_alike_long (P := P) (w := w) (base := base) T
  have b__check_alike_long := T.b__check_alike_long
  refine T.F_multiplied_series.okX sc_multiplied_series (fun vs H Q E h => ?_) (fun cdv A outer s H vs Q E hr h => ?_)
  · first | (obtain ⟨_, rfl, _⟩ := h; rfl) | (obtain ⟨_, _, rfl, _⟩ := h; rfl) | (obtain ⟨_, _, _, rfl, _⟩ := h; rfl) | (obtain ⟨_, _, _, _, rfl, _⟩ := h; rfl) | (obtain ⟨_, _, _, _, _, rfl, _⟩ := h; rfl) | (obtain ⟨_, _, _, _, _, _, rfl, _⟩ := h; rfl) | (obtain ⟨_, _, _, _, _, _, _, rfl, _⟩ := h; rfl) | (obtain ⟨_, _, _, _, _, _, _, _, rfl, _⟩ := h; rfl)
  refine ⟨_, (pss_cons (ps_expr (pe_callS G__check_alike_long (hr.mono (by decide)) rfl T.g__check_alike_long T.k__check_alike_long b__check_alike_long (fun σ => passAt (takes_of rfl rfl rfl rfl) σ) (by exact (pa_cons (pv 0) (pa_cons (pv 1) pa_nil)))))
      (pss_cons (ps_set (i := 2) nd rfl (Or.inl rfl) (pe_op op_rep (pe_lst (pa_cons pe_int pa_nil)) (pe_callB call_len_seq (by rfl) T.m_len (by decide +kernel) (pa_cons (pv 0) pa_nil))))
      (pss_cons (ps_for (passes_of rfl) rfl (pi_enum (by rfl) T.m_enumerate (pa_cons (pv 0) pa_nil)) (pg_tup rfl (pgs_cons (pg_name (i := 3) nd rfl (Or.inl rfl)) (pgs_cons (pg_name (i := 4) nd rfl (Or.inl rfl)) pgs_nil)))
      (pss_one (ps_for (passes_of rfl) rfl (pi_range1 (by rfl) T.m_range (pa_cons (pe_op op_sub (pe_op op_sub (pe_callB call_len_seq (by rfl) T.m_len (by decide +kernel) (pa_cons (pv 0) pa_nil)) (pv 3)) pe_int) pa_nil)) (pg_name (i := 5) nd rfl (Or.inl rfl))
      (pss_one (ps_augS (pv 2) (pe_op op_add (pe_op op_add (pv 3) (pv 5)) pe_int) Gw.get_list (pe_op op_mulW (pv 4) (pe_ix ix_list (pv 1) (pv 5) (fun _ _ => rfl))) ip_add set_list)))))
      (pss_one (ps_ret (pv 2)))))), ?_⟩

  obtain ⟨a, b, n, m, f, g, rfl, hx, hy, k1, k2⟩ := h
  refine ⟨_, rfl, _, rfl, a, b, _, _, rfl, hx, hy, fun c => ?_, fun c c2 => ?_, fun c c2 => ?_⟩
  · rw [tv_len] at c; exact k1 (by rw [c, Bool.false_and])
  · rw [tv_len] at c; rw [tv_len, tv_len] at c2; exact k1 (by rw [c, decide_eq_false c2]; rfl)
  · rw [tv_len] at c; rw [tv_len, tv_len] at c2
    obtain ⟨cm, kk⟩ := k2 c c2
    clear k1 k2
    subst c2
    obtain ⟨n1, n2⟩ := terms_le c
    refine ⟨by show 1 ≤ sizeLine; decide, fun q nq => ?_⟩
    refine ⟨_, rfl, a, _, rfl, .inl ((same_new nq).seq hx), q, _, _, rfl, rfl, upd_same, by rw [tv_len]; omega, by rw [tv_len]; omega, le_line (by rw [tv_len]; simp; omega), fun p np' => ?_⟩
    have np : H p = none := none_of (same_new nq) np'
    have sm2 : Same H (upd (upd H q (.lst [V.int 0])) p (.lst (List.replicate (Int.toNat ((tv n f).length : Int)) [V.int 0]).flatten)) := fun c o e => by
      rw [upd_ne (ne_of_none e np), upd_ne (ne_of_none e nq)]
      exact e
    have hp2 : (upd (upd H q (.lst [V.int 0])) p (.lst (List.replicate (Int.toNat ((tv n f).length : Int)) [V.int 0]).flatten)) p = some (.lst (tv n (fun i => smul (cutN (lift f) 1) (lift g) (i + 1)))) := by
      rw [upd_same, tv_rep, tv_len, Int.toNat_natCast]
      exact congrArg (fun l => some (HO.lst l)) (tv_congr fun i _ => (cut_one f _ _).symm)
    revert sm2 hp2
    generalize upd (upd H q (.lst [V.int 0])) p (.lst (List.replicate (Int.toNat ((tv n f).length : Int)) [V.int 0]).flatten) = H2
    intro sm2 hp2
    refine ⟨_, rfl, a, _, rfl, sm2.seq hx, for_it (walk_enum) (fun k σ H' => ∃ v3 v4 v5 : Option V, σ = [some (.ref a), some (.ref b), some (.ref p), v3, v4, v5] ∧ Same H H' ∧ H' p = some (.lst (tv n (fun i => smul (cutN (lift f) (k + 1)) (lift g) (i + 1)))))
      ⟨_, _, _, rfl, sm2, hp2⟩ (fun i σ H' _ ⟨_, _, _, _, sm, _⟩ => sm.seq hx) ?_ ?_⟩
    · rintro k x σ H1 H3 hk ⟨v3, v4, v5, rfl, sm, hp⟩ ⟨T1, x1, x2, rfl, nT, rfl, e1, e2⟩
      obtain rfl : V.int (k : Int) = x1 := Option.some.inj e1
      obtain ⟨hk, rfl⟩ := tv_got e2
      have TD : p ≠ T1 := ne_of_none hp nT
      refine ⟨T1, _, rfl, sqT_of upd_same, rfl, _, _, rfl, _, _, rfl, rfl, ?_⟩
      have sm1 : Same H (upd H1 T1 (.tup [.int (k : Int), .int (f k)])) := fun c o e => by
        rw [upd_ne (ne_of_none (sm _ _ e) nT)]
        exact sm _ _ e
      have hp1 : (upd H1 T1 (.tup [.int (k : Int), .int (f k)])) p = some (.lst (tv n (fun i => smul (cutN (lift f) (k + 1)) (lift g) (i + 1) + rowE f g k 0 i))) := by
        rw [upd_ne TD, hp]
        exact congrArg (fun l => some (HO.lst l)) (tv_congr fun i _ => by rw [rowE_zero, Int.add_zero])
      revert sm1 hp1
      generalize upd H1 T1 (.tup [.int (k : Int), .int (f k)]) = H3
      intro sm1 hp1
      have et : Int.toNat ((((tv n f).length : Nat) : Int) - (k : Int) - 1) = n - k - 1 := by rw [tv_len]; omega
      refine ⟨_, rfl, a, _, rfl, .inl (sm1.seq hx), _, rfl, _, _, rfl, rfl, _, _, rfl, rfl, ?_⟩
      refine ⟨_, rfl, by rw [tv_len]; omega, by rw [tv_len]; omega, for_range (lo := 0) (n := Int.toNat ((((tv n f).length : Nat) : Int) - (k : Int) - 1)) (fun j σ H' => ∃ v5 : Option V, σ = [some (.ref a), some (.ref b), some (.ref p), some (.int k), some (.int (f k)), v5] ∧ Same H H' ∧
        H' p = some (.lst (tv n (fun i => smul (cutN (lift f) (k + 1)) (lift g) (i + 1) + rowE f g k j i)))) ⟨_, rfl, sm1, hp1⟩ ?_ ?_⟩
      · rintro j σ H4 hj ⟨v5, rfl, sm4, hp4⟩
        rw [et] at hj
        have ij : (k : Int) + (0 + (j : Int)) + 1 = ((k + 1 + j : Nat) : Int) := by omega
        have ij2 : (0 : Int) + (j : Int) = ((j : Nat) : Int) := by omega
        refine ⟨_, rfl, _, rfl, _, rfl, _, _, rfl, rfl, _, _, rfl, rfl, p, _, _, _, rfl, rfl, sqL_of hp4, (by rw [ij]; exact tv_at _ (by omega)), _, rfl, _, rfl, _, rfl, b, _, _, _, rfl, rfl, sm4.seq hy, (by rw [ij2]; exact tv_at _ (by omega)), _, _, rfl, rfl, cm k j (by omega) (by omega),
          _, _, rfl, rfl, p, _, _, k + 1 + j, rfl, rfl, hp4, (by rw [ij]; exact tv_ixN _ (by omega)), ?_⟩
        refine ⟨_, rfl, fun c o e => ?_, ?_⟩
        · rw [upd_ne (ne_of_none e np)]
          exact sm4 _ _ e
        · rw [upd_same]
          refine congrArg (fun l => some (HO.lst l)) ((tv_set _ _ (by omega)).trans (tv_congr fun i hi => ?_))
          rw [← rowE_succ]
          by_cases e : i = k + 1 + j
          · subst e; rfl
          · rw [if_neg e, if_neg e]
      · rintro σ H4 ⟨v5, rfl, sm4, hp4⟩
        rw [et] at hp4
        refine ⟨_, _, _, rfl, sm4, ?_⟩
        rw [hp4]
        exact congrArg (fun l => some (HO.lst l)) (tv_congr fun i hi => row_all f g n k i hi)
    · rintro σ H1 ⟨v3, v4, v5, rfl, sm, hp⟩
      rw [tv_len] at hp
      refine ⟨_, rfl, kk p H1 sm np ?_⟩
      rw [hp]
      exact congrArg (fun l => some (HO.lst l)) (tv_congr fun i hi => by
        show _ = smul (lift f) (lift g) (i + 1)
        exact smul_cut_all _ _ _ _ (by omega))
theorem ok_put_into (T : Txt K mg ad) : FnOk P w K mg base (L2.CX P w) 4 ad.a_put_into ad.d_put_into ["one", "other"] (sp_put K ad) := by
  have nd := sc_put_into.nd
  have G__check_alike_long := ok__check_alike_long (P := P) (w := w) (base := base) T
  have b__check_alike_long := T.b__check_alike_long
  have G_multiplied_series := ok_multiplied_series (P := P) (w := w) (base := base) T
  have b_multiplied_series := T.b_multiplied_series
  refine T.F_put_into.okX sc_put_into (fun vs H Q E h => ?_) (fun cdv A outer s H vs Q E hr h => ?_)
  · first | (obtain ⟨_, rfl, _⟩ := h; rfl) | (obtain ⟨_, _, rfl, _⟩ := h; rfl) | (obtain ⟨_, _, _, rfl, _⟩ := h; rfl) | (obtain ⟨_, _, _, _, rfl, _⟩ := h; rfl) | (obtain ⟨_, _, _, _, _, rfl, _⟩ := h; rfl) | (obtain ⟨_, _, _, _, _, _, rfl, _⟩ := h; rfl) | (obtain ⟨_, _, _, _, _, _, _, rfl, _⟩ := h; rfl) | (obtain ⟨_, _, _, _, _, _, _, _, rfl, _⟩ := h; rfl)
  refine ⟨_, (pss_cons (ps_expr (pe_callS G__check_alike_long (hr.mono (by decide)) rfl T.g__check_alike_long T.k__check_alike_long b__check_alike_long (fun σ => passAt (takes_of rfl rfl rfl rfl) σ) (by exact (pa_cons (pv 0) (pa_cons (pv 1) pa_nil)))))
      (pss_cons (ps_set (i := 2) nd rfl (Or.inl rfl) (pe_op op_rep (pe_lst (pa_cons pe_int pa_nil)) (pe_callB call_len_seq (by rfl) T.m_len (by decide +kernel) (pa_cons (pv 0) pa_nil))))
      (pss_cons (ps_set (i := 3) nd rfl (Or.inl rfl) (pv 1))
      (pss_cons (ps_for (passes_of rfl) rfl (pi_list (pv 0)) (pg_name (i := 4) nd rfl (Or.inr rfl))
      (pss_cons (ps_setLc (i := 2) (own := [("x", 5), ("y", 6)]) (g := gTup K 2 (gCons (gName 5) (gCons (gName 6) gNil))) (by rfl) nd rfl rfl (sw_true rfl rfl rfl (by decide +kernel)) (pi_zip (by rfl) T.m_zip (pa_cons (pv 2) (pa_cons (pv 3) pa_nil))) (blkOk_by (own := [("x", 5), ("y", 6)]) (N := sl_put_into) (sc := defScope st_put_into) (by decide +kernel)) (fun _ _ _ _ _ => pg_tup rfl (pgs_cons (pg_name (i := 5) nd rfl (Or.inl rfl)) (pgs_cons (pg_name (i := 6) nd rfl (Or.inl rfl)) pgs_nil))) (fun _ _ _ _ _ => pts_nil) (fun _ _ _ _ _ => (pe_op op_add (pv 5) (pe_op op_mulW (pv 4) (pv 6)))))
      (pss_one (ps_set (i := 3) nd rfl (Or.inl rfl) (pe_callS G_multiplied_series (hr.mono (by decide)) rfl T.g_multiplied_series T.k_multiplied_series b_multiplied_series (fun σ => passAt (takes_of rfl rfl rfl rfl) σ) (by exact (pa_cons (pv 3) (pa_cons (pv 1) pa_nil))))))))
      (pss_one (ps_ret (pv 2))))))), ?_⟩

  obtain ⟨a, b, n, m, f, g, rfl, hx, hy, k1, k2⟩ := h
  refine ⟨_, rfl, _, rfl, a, b, _, _, rfl, hx, hy, fun c => ?_, fun c c2 => ?_, fun c c2 => ?_⟩
  · rw [tv_len] at c; exact k1 (by rw [c, Bool.false_and])
  · rw [tv_len] at c; rw [tv_len, tv_len] at c2; exact k1 (by rw [c, decide_eq_false c2]; rfl)
  · rw [tv_len] at c; rw [tv_len, tv_len] at c2
    obtain ⟨cm, kk⟩ := k2 c c2
    clear k1 k2
    subst c2
    obtain ⟨n1, n2⟩ := terms_le c
    refine ⟨by show 1 ≤ sizeLine; decide, fun q nq => ?_⟩
    refine ⟨_, rfl, a, _, rfl, .inl ((same_new nq).seq hx), q, _, _, rfl, rfl, upd_same, by rw [tv_len]; omega, by rw [tv_len]; omega, le_line (by rw [tv_len]; simp; omega), fun p np' => ?_⟩
    have np : H p = none := none_of (same_new nq) np'
    have sm2 : Same H (upd (upd H q (.lst [V.int 0])) p (.lst (List.replicate (Int.toNat ((tv n f).length : Int)) [V.int 0]).flatten)) := fun c o e => by
      rw [upd_ne (ne_of_none e np), upd_ne (ne_of_none e nq)]
      exact e
    have hp2 : (upd (upd H q (.lst [V.int 0])) p (.lst (List.replicate (Int.toNat ((tv n f).length : Int)) [V.int 0]).flatten)) p = some (.lst (tv n (fun i => psum (lift f) (lift g) 1 (i + 1)))) := by
      rw [upd_same, tv_rep, tv_len, Int.toNat_natCast]
      refine congrArg (fun l => some (HO.lst l)) (tv_congr fun i _ => ?_)
      show 0 = (0 : Int) + lift f 0 * _
      rw [lift_zero, Int.zero_mul, Int.add_zero]
    revert sm2 hp2
    generalize upd (upd H q (.lst [V.int 0])) p (.lst (List.replicate (Int.toNat ((tv n f).length : Int)) [V.int 0]).flatten) = H2
    intro sm2 hp2
    refine ⟨_, rfl, ?_⟩
    refine ⟨_, rfl, a, rfl, ⟨_, sm2.seq hx⟩, for_list (K := K) (a := a) (xs := tv n f) (fun k σ H' => ∃ (pm pp : Addr) (v4 v5 v6 : Option V), σ = [some (.ref a), some (.ref b), some (.ref pm), some (.ref pp), v4, v5, v6] ∧ Same H H' ∧ H pm = none ∧ H' pm = some (.lst (tv n (fun i => psum (lift f) (lift g) (k + 1) (i + 1)))) ∧ SqL K H' pp (tv n (fun i => pw (lift g) (k + 1) (i + 1))))
      ⟨p, b, _, _, _, rfl, sm2, np, hp2, ?_⟩ (fun i σ H' _ ⟨_, _, _, _, _, _, sm, _⟩ => sm.seq hx) ?_ ?_⟩
    · rw [show tv n (fun i => pw (lift g) (0 + 1) (i + 1)) = tv n g from tv_congr fun i _ => (pw_one (lift g) (i + 1)).trans (lift_succ g i)]
      exact sm2.seq hy
    · rintro k y σ H1 hk ⟨pm, pp, v4, v5, v6, rfl, sm, npm, hpm, hpp⟩
      obtain ⟨hk2, rfl⟩ := tv_got hk
      obtain ⟨cm1, cm2⟩ := cm k hk2
      refine ⟨_, rfl, _, rfl, pm, pp, _, _, rfl, sqL_of hpm, hpp, fun D nD => ?_⟩
      have hnD : H D = none := none_of sm nD
      refine lc_it (walk_zip (n := n) (by rw [tv_len, tv_len]; omega)) (fun i H' => Same H1 H' ∧ H' D = some (.lst (tv i (fun i => psum (lift f) (lift g) (k + 1 + 1) (i + 1))))) ⟨same_new nD, upd_same⟩ (fun i H' _ q => ⟨q.1.seq (sqL_of hpm), q.1.seq hpp⟩) ?_ ?_
      · rintro i x H3 H4 hi ⟨sm3, hD⟩ ⟨T, x1, x2, rfl, nT, rfl, e1, e2⟩
        obtain ⟨_, rfl⟩ := tv_got e1
        obtain ⟨_, rfl⟩ := tv_got e2
        refine ⟨T, _, rfl, sqT_of upd_same, rfl, _, _, rfl, _, _, rfl, rfl, rfl, ?_⟩
        refine yes_do ?_
        have TD : D ≠ T := ne_of_none hD nT
        refine ⟨_, rfl, _, rfl, _, rfl, _, _, rfl, rfl, cm2 i hi, _, _, rfl, rfl, _, (by rw [upd_ne TD]; exact hD), lt_line (by rw [tv_len]; omega), fun c o e => ?_, ?_⟩
        · rw [upd_ne (ne_of_none e nD), upd_ne (ne_of_none (sm3 _ _ e) nT)]
          exact sm3 _ _ e
        · rw [upd_same]
          refine congrArg (fun l => some (HO.lst l)) (Eq.trans ?_ (tv_snoc i (fun i => psum (lift f) (lift g) (k + 1 + 1) (i + 1))))
          show _ ++ [V.int (_ + _)] = _ ++ [V.int (_ + lift f (k + 1) * _)]
          rw [lift_succ]
      · rintro H3 ⟨sm3, hD⟩
        refine ⟨_, rfl, _, rfl, pp, b, n, n, (fun i => pw (lift g) (k + 1) (i + 1)), g, rfl, sm3.seq hpp, (sm.trans sm3).seq hy, fun e => absurd e (by rw [c]; simp), fun _ _ => ⟨cm1, fun t H5 s5 nt ht => ?_⟩⟩
        refine ⟨D, t, _, _, _, rfl, (sm.trans sm3).trans s5, hnD, s5 _ _ hD, ?_⟩
        refine sqL_of ?_
        rw [ht]
        refine congrArg (fun l => some (HO.lst l)) (tv_congr fun i hi => ?_)
        show smul (lift (fun i => pw (lift g) (k + 1) (i + 1))) (lift g) (i + 1) = smul (pw (lift g) (k + 1)) (lift g) (i + 1)
        rw [lift_sh _ (pw_first g k)]
    · rintro σ H1 ⟨pm, pp, v4, v5, v6, rfl, sm, npm, hpm, hpp⟩
      rw [tv_len] at hpm
      exact ⟨_, rfl, kk pm H1 sm npm hpm⟩
theorem ok_undoing (T : Txt K mg ad) : FnOk P w K mg base (L2.CX P w) 5 ad.a_undoing ad.d_undoing ["series"] (sp_und K ad) := by
  have nd := sc_undoing.nd
  have G__check_series := ok__check_series (P := P) (w := w) (base := base) T
  have b__check_series := T.b__check_series
  have G_put_into := ok_put_into (P := P) (w := w) (base := base) T
  have b_put_into := T.b_put_into
  refine T.F_undoing.okX sc_undoing (fun vs H Q E h => ?_) (fun cdv A outer s H vs Q E hr h => ?_)
  · first | (obtain ⟨_, rfl, _⟩ := h; rfl) | (obtain ⟨_, _, rfl, _⟩ := h; rfl) | (obtain ⟨_, _, _, rfl, _⟩ := h; rfl) | (obtain ⟨_, _, _, _, rfl, _⟩ := h; rfl) | (obtain ⟨_, _, _, _, _, rfl, _⟩ := h; rfl) | (obtain ⟨_, _, _, _, _, _, rfl, _⟩ := h; rfl) | (obtain ⟨_, _, _, _, _, _, _, rfl, _⟩ := h; rfl) | (obtain ⟨_, _, _, _, _, _, _, _, rfl, _⟩ := h; rfl)
  refine ⟨_, (pss_cons (ps_expr (pe_callS G__check_series (hr.mono (by decide)) rfl T.g__check_series T.k__check_series b__check_series (fun σ => passAt (takes_of rfl rfl rfl rfl) σ) (by exact (pa_cons (pv 0) pa_nil))))
      (pss_cons (ps_set (i := 1) nd rfl (Or.inl rfl) (pe_ix ix_list (pv 0) pe_int (fun _ _ => rfl)))
      (pss_cons (ps_if (pt_cmpR op_notIn_seq (pv 1) (pe_tup (pa_cons pe_int (pa_cons (pe_un un_neg pe_int) pa_nil))) (by rfl)) (pss_one (ps_raise rfl (takes_of rfl rfl rfl rfl) (pmk_own PySem.F.excBase_ValueError T.x_NoAnswer T.g_NoAnswer T.k_NoAnswer (raises_own T.s_NoAnswer T.t_NoAnswer) (by exact rfl)))) pss_nil)
      (pss_cons (ps_set (i := 2) nd rfl (Or.inl rfl) (pe_op op_rep (pe_lst (pa_cons pe_int pa_nil)) (pe_callB call_len_seq (by rfl) T.m_len (by decide +kernel) (pa_cons (pv 0) pa_nil))))
      (pss_cons (ps_for (passes_of rfl) rfl (pi_range1 (by rfl) T.m_range (pa_cons (pe_callB call_len_seq (by rfl) T.m_len (by decide +kernel) (pa_cons (pv 0) pa_nil)) pa_nil)) (pg_name (i := 3) nd rfl (Or.inl rfl))
      (pss_cons (ps_set (i := 4) nd rfl (Or.inl rfl) (pe_ifExp (pt_cmpR op_eq (pv 3) pe_int (nomark _)) pe_int pe_int))
      (pss_one (ps_asg (pe_op op_mul (pv 1) (pe_op op_sub (pv 4) (pe_ix ix_list (pe_callS G_put_into (hr.mono (by decide)) rfl T.g_put_into T.k_put_into b_put_into (fun σ => passAt (takes_of rfl rfl rfl rfl) σ) (by exact (pa_cons (pv 0) (pa_cons (pv 2) pa_nil)))) (pv 3) (fun _ _ => rfl)))) (pg_sub (pv 2) (pv 3) set_list)))))
      (pss_one (ps_ret (pv 2)))))))), ?_⟩

  obtain ⟨a, n, f, rfl, hx, hf, hs, k1, k2, k3⟩ := h
  refine ⟨_, rfl, a, _, rfl, hx, fun c => ?_, fun c => ?_⟩
  · rw [tv_len] at c; exact k1 c
  · rw [tv_len] at c
    obtain ⟨n1, n2⟩ := terms_le c
    clear k1
    refine ⟨_, rfl, a, _, (0 : Int), _, rfl, rfl, hx, tv_at f (i := 0) (by omega), ?_⟩
    refine ⟨_, rfl, _, rfl, by show 2 ≤ sizeLine; decide, fun t nt => ?_⟩
    refine ⟨_, _, rfl, .inr (sqT_of upd_same), rfl, rfl, _, rfl, ?_⟩
    have eb : inV (V.int (f 0)) [.int 1, .int (-1)] = (decide (f 0 = 1) || decide (f 0 = -1)) := by
      unfold inV
      simp only [List.any_cons, List.any_nil, Bool.or_false, eqV_int']
    refine iteB (fun c2 => ?_) (fun c2 => ?_)
    · refine k2 c ?_ _ (same_new nt)
      have c3 : (!inV (V.int (f 0)) [.int 1, .int (-1)]) = true := c2
      rw [eb] at c3
      simpa using c3
    · have c3 : (!inV (V.int (f 0)) [.int 1, .int (-1)]) = false := c2
      have h0 : f 0 = 1 ∨ f 0 = -1 := by
        rw [eb] at c3
        simpa [Decidable.or_iff_not_imp_left] using c3
      have kk := k3 c h0
      clear k2 k3
      have smt : Same H (upd H t (.tup [.int 1, .int (-1)])) := same_new nt
      revert smt
      generalize upd H t _ = H0
      intro smt
      refine ⟨by show 1 ≤ sizeLine; decide, fun q nq => ?_⟩
      refine ⟨_, rfl, a, _, rfl, .inl ((same_new nq).seq (smt.seq hx)), q, _, _, rfl, rfl, upd_same, by rw [tv_len]; omega, by rw [tv_len]; omega, le_line (by rw [tv_len]; simp; omega), fun p np' => ?_⟩
      have np0 : H0 p = none := none_of (same_new nq) np'
      have np : H p = none := none_of smt np0
      have sm2 : Same H (upd (upd H0 q (.lst [V.int 0])) p (.lst (List.replicate (Int.toNat ((tv n f).length : Int)) [V.int 0]).flatten)) := fun c o e => by
        rw [upd_ne (ne_of_none e np), upd_ne (ne_of_none (smt _ _ e) nq)]
        exact smt _ _ e
      have hp2 : (upd (upd H0 q (.lst [V.int 0])) p (.lst (List.replicate (Int.toNat ((tv n f).length : Int)) [V.int 0]).flatten)) p = some (.lst (tv n (undK f 0))) := by
        rw [upd_same, tv_rep, tv_len, Int.toNat_natCast]
        exact congrArg (fun l => some (HO.lst l)) (tv_congr fun i _ => (if_neg (by omega)).symm)
      revert sm2 hp2
      generalize upd (upd H0 q (.lst [V.int 0])) p (.lst (List.replicate (Int.toNat ((tv n f).length : Int)) [V.int 0]).flatten) = H2
      intro sm2 hp2
      refine ⟨_, rfl, a, _, rfl, .inl (sm2.seq hx), ?_⟩
      refine ⟨_, rfl, by rw [tv_len]; omega, by rw [tv_len]; omega, for_range (lo := 0) (n := Int.toNat (((tv n f).length : Nat) : Int)) (fun k σ H' => ∃ v3 v4 : Option V, σ = [some (.ref a), some (.int (f 0)), some (.ref p), v3, v4] ∧ Same H H' ∧
        H' p = some (.lst (tv n (undK f k)))) ⟨_, _, rfl, sm2, hp2⟩ ?_ ?_⟩
      · rintro k σ H4 hk ⟨v3, v4, rfl, sm4, hp4⟩
        rw [tv_len, Int.toNat_natCast] at hk
        have e0 : (0 : Int) + (k : Int) = (k : Int) := Int.zero_add _
        rw [e0]
        have cp := cput_of n2 hf (und_slow k (hs n2 n1 h0))
        have hf0 : f 0 = 1 ∨ f 0 = -1 := h0
        have pf := putF_und f n k hk
        refine ⟨_, rfl, rfl, _, rfl, ?_⟩
        refine iteB (fun c3 => ?_) (fun c3 => ?_)
        · have e1 : k = 0 := by
            have := V.int.inj (of_decide_eq_true c3)
            omega
          rw [if_pos e1] at pf
          refine ⟨_, rfl, _, rfl, _, rfl, _, rfl, a, p, n, n, f, undK f k, rfl, sm4.seq hx, sqL_of hp4, fun e => absurd e (by rw [c]; simp), fun _ _ => ⟨cp, fun t5 H5 s5 nt5 ht5 => ?_⟩⟩
          refine ⟨_, rfl, t5, _, _, _, rfl, rfl, sqL_of ht5, tv_at _ hk, _, _, rfl, rfl, _, _, rfl, rfl, .inl ⟨by omega, by omega⟩, _, rfl, _, rfl, p, _, _, k, rfl, rfl, s5 _ _ hp4, tv_ixN _ hk, ?_⟩
          refine ⟨_, _, rfl, fun c o e => ?_, ?_⟩
          · rw [upd_ne (ne_of_none e np)]
            exact s5 _ _ (sm4 _ _ e)
          · rw [upd_same]
            dsimp only
            rw [← pf]
            exact congrArg (fun l => some (HO.lst l)) ((tv_set _ _ hk).trans (tv_congr fun i hi => undK_succ f k i))
        · have e1 : k ≠ 0 := fun e => of_decide_eq_false c3 (by show V.int _ = V.int _; rw [e]; rfl)
          rw [if_neg e1] at pf
          refine ⟨_, rfl, _, rfl, _, rfl, _, rfl, a, p, n, n, f, undK f k, rfl, sm4.seq hx, sqL_of hp4, fun e => absurd e (by rw [c]; simp), fun _ _ => ⟨cp, fun t5 H5 s5 nt5 ht5 => ?_⟩⟩
          refine ⟨_, rfl, t5, _, _, _, rfl, rfl, sqL_of ht5, tv_at _ hk, _, _, rfl, rfl, _, _, rfl, rfl, .inl ⟨by omega, by omega⟩, _, rfl, _, rfl, p, _, _, k, rfl, rfl, s5 _ _ hp4, tv_ixN _ hk, ?_⟩
          refine ⟨_, _, rfl, fun c o e => ?_, ?_⟩
          · rw [upd_ne (ne_of_none e np)]
            exact s5 _ _ (sm4 _ _ e)
          · rw [upd_same]
            dsimp only
            rw [← pf]
            exact congrArg (fun l => some (HO.lst l)) ((tv_set _ _ hk).trans (tv_congr fun i hi => undK_succ f k i))
      · rintro σ H4 ⟨v3, v4, rfl, sm4, hp4⟩
        rw [tv_len, Int.toNat_natCast] at hp4
        refine ⟨_, rfl, kk p H4 sm4 np ?_⟩
        rw [hp4]
        exact congrArg (fun l => some (HO.lst l)) (tv_congr fun i hi => if_pos hi)
theorem ok_turned_signs (T : Txt K mg ad) : FnOk P w K mg base (L2.CX P w) 2 ad.a_turned_signs ad.d_turned_signs ["series"] (sp_sgn K ad) := by
  have nd := sc_turned_signs.nd
  have G__check_series := ok__check_series (P := P) (w := w) (base := base) T
  have b__check_series := T.b__check_series
  refine T.F_turned_signs.okX sc_turned_signs (fun vs H Q E h => ?_) (fun cdv A outer s H vs Q E hr h => ?_)
  · first | (obtain ⟨_, rfl, _⟩ := h; rfl) | (obtain ⟨_, _, rfl, _⟩ := h; rfl) | (obtain ⟨_, _, _, rfl, _⟩ := h; rfl) | (obtain ⟨_, _, _, _, rfl, _⟩ := h; rfl) | (obtain ⟨_, _, _, _, _, rfl, _⟩ := h; rfl) | (obtain ⟨_, _, _, _, _, _, rfl, _⟩ := h; rfl) | (obtain ⟨_, _, _, _, _, _, _, rfl, _⟩ := h; rfl) | (obtain ⟨_, _, _, _, _, _, _, _, rfl, _⟩ := h; rfl)
  refine ⟨_, (pss_cons (ps_expr (pe_callS G__check_series (hr.mono (by decide)) rfl T.g__check_series T.k__check_series b__check_series (fun σ => passAt (takes_of rfl rfl rfl rfl) σ) (by exact (pa_cons (pv 0) pa_nil))))
      (pss_one (ps_ret (pe_lc (own := [("index", 1), ("term", 2)]) (g := gTup K 2 (gCons (gName 1) (gCons (gName 2) gNil))) (by rfl) nd (pi_enum (by rfl) T.m_enumerate (pa_cons (pv 0) pa_nil)) (blkOk_by (own := [("index", 1), ("term", 2)]) (N := sl_turned_signs) (sc := defScope st_turned_signs) (by decide +kernel)) (fun _ _ _ _ _ => pg_tup rfl (pgs_cons (pg_name (i := 1) nd rfl (Or.inl rfl)) (pgs_cons (pg_name (i := 2) nd rfl (Or.inl rfl)) pgs_nil))) (fun _ _ _ _ _ => pts_nil) (fun _ _ _ _ _ => (pe_ifExp (pt_cmpR op_eq (pe_op op_mod (pv 1) pe_int) pe_int (nomark _)) (pe_un un_neg (pv 2)) (pv 2))))))), ?_⟩

  obtain ⟨a, n, f, rfl, hx, k1, k2⟩ := h
  refine ⟨_, rfl, a, _, rfl, hx, fun c => ?_, fun c => ?_⟩
  · rw [tv_len] at c; exact k1 c
  · rw [tv_len] at c
    obtain ⟨n1, n2⟩ := terms_le c
    have kk := k2 c
    clear k1 k2
    refine ⟨_, rfl, a, _, rfl, hx, fun D nD => ?_⟩
    refine lc_it (walk_enum) (fun i H' => Same H H' ∧ H' D = some (.lst (tv i (sgnF f)))) ⟨same_new nD, upd_same⟩ (fun i H' _ q => q.1.seq hx) ?_ ?_
    · rintro i x H1 H2 hi ⟨sm, hD⟩ ⟨T, x1, x2, rfl, nT, rfl, e1, e2⟩
      obtain rfl : V.int (i : Int) = x1 := Option.some.inj e1
      obtain ⟨hi2, rfl⟩ := tv_got e2
      refine ⟨T, _, rfl, sqT_of upd_same, rfl, _, _, rfl, _, _, rfl, rfl, rfl, ?_⟩
      refine yes_do ?_
      have TD : D ≠ T := ne_of_none hD nT
      have fin : ∀ v : Int, v = sgnF f i → ∃ acc, (upd H1 T (.tup [.int (i : Int), .int (f i)])) D = some (.lst acc) ∧ acc.length < sizeLine ∧ Same H (upd (upd H1 T (.tup [.int (i : Int), .int (f i)])) D (.lst (acc ++ [.int v]))) ∧
          upd (upd H1 T (.tup [.int (i : Int), .int (f i)])) D (.lst (acc ++ [.int v])) D = some (.lst (tv (i + 1) (sgnF f))) := by
        rintro v rfl
        refine ⟨_, (by rw [upd_ne TD]; exact hD), lt_line (by rw [tv_len]; omega), fun c o e => ?_, ?_⟩
        · rw [upd_ne (ne_of_none e nD), upd_ne (ne_of_none (sm _ _ e) nT)]
          exact sm _ _ e
        · rw [upd_same]
          exact congrArg (fun l => some (HO.lst l)) (tv_snoc i (sgnF f))
      refine ⟨_, rfl, _, _, rfl, rfl, by show (0 : Int) < 2; decide, rfl, _, rfl, ?_⟩
      refine iteB (fun c => ?_) (fun c => ?_)
      · have e : i % 2 = 1 := by
          have := V.int.inj (of_decide_eq_true c)
          omega
        exact ⟨_, rfl, _, rfl, fin _ (by unfold sgnF; rw [if_pos e])⟩
      · have e : ¬ i % 2 = 1 := fun e => of_decide_eq_false c (by show V.int _ = V.int _; congr 1; omega)
        exact ⟨_, rfl, fin _ (by unfold sgnF; rw [if_neg e])⟩
    · rintro H1 ⟨sm, hD⟩
      rw [tv_len] at hD
      exact kk D H1 sm nD hD
theorem ok__law_product (T : Txt K mg ad) : FnOk P w K mg base CX0 1 ad.a__law_product ad.d__law_product ["one", "other", "many"] (sp_lprod K) := by
  have nd := sc__law_product.nd
  refine T.F__law_product.ok sc__law_product (fun vs H Q E h => ?_) (fun cdv A outer s H vs Q E hr h => ?_)
  · first | (obtain ⟨_, rfl, _⟩ := h; rfl) | (obtain ⟨_, _, rfl, _⟩ := h; rfl) | (obtain ⟨_, _, _, rfl, _⟩ := h; rfl) | (obtain ⟨_, _, _, _, rfl, _⟩ := h; rfl) | (obtain ⟨_, _, _, _, _, rfl, _⟩ := h; rfl) | (obtain ⟨_, _, _, _, _, _, rfl, _⟩ := h; rfl) | (obtain ⟨_, _, _, _, _, _, _, rfl, _⟩ := h; rfl) | (obtain ⟨_, _, _, _, _, _, _, _, rfl, _⟩ := h; rfl)
  refine ⟨_, (pss_cons (ps_set (i := 3) nd rfl (Or.inl rfl) (pe_op op_rep (pe_lst (pa_cons pe_int pa_nil)) (pe_op op_add (pv 2) pe_int)))
      (pss_cons (ps_for PassesOwn.never rfl (pi_range1 (by rfl) T.m_range (pa_cons (pe_op op_add (pv 2) pe_int) pa_nil)) (pg_name (i := 4) nd rfl (Or.inl rfl))
      (pss_one (ps_for PassesOwn.never rfl (pi_range1 (by rfl) T.m_range (pa_cons (pe_op op_sub (pe_op op_add (pv 2) pe_int) (pv 4)) pa_nil)) (pg_name (i := 5) nd rfl (Or.inl rfl))
      (pss_one (ps_asg (pe_op op_add (pe_ix ix_list (pv 3) (pe_op op_add (pv 4) (pv 5)) (fun _ _ => rfl)) (pe_op op_mulW (pe_ix ix_list (pv 0) (pv 4) (fun _ _ => rfl)) (pe_ix ix_list (pv 1) (pv 5) (fun _ _ => rfl)))) (pg_sub (pv 3) (pe_op op_add (pv 4) (pv 5)) set_list))))))
      (pss_one (ps_ret (pv 3))))), ?_⟩

  obtain ⟨a, b, m, f, g, rfl, hx, hy, hm, cm, kk⟩ := h
  refine ⟨by show 1 ≤ sizeLine; decide, fun q nq => ?_⟩
  refine ⟨_, rfl, _, _, rfl, rfl, q, _, _, rfl, rfl, upd_same, by omega, by omega, le_line (by simp; omega), fun p np' => ?_⟩
  have np : H p = none := none_of (same_new nq) np'
  have sm2 : Same H (upd (upd H q (.lst [V.int 0])) p (.lst (List.replicate (Int.toNat ((m : Int) + 1)) [V.int 0]).flatten)) := fun c o e => by
    rw [upd_ne (ne_of_none e np), upd_ne (ne_of_none e nq)]
    exact e
  have hp2 : (upd (upd H q (.lst [V.int 0])) p (.lst (List.replicate (Int.toNat ((m : Int) + 1)) [V.int 0]).flatten)) p = some (.lst (tv (m + 1) (fun i => smul (cutN f 0) g i))) := by
    rw [upd_same, tv_rep, show Int.toNat ((m : Int) + 1) = m + 1 by omega]
    exact congrArg (fun l => some (HO.lst l)) (tv_congr fun i _ => by rw [cutN_zero, smul_zer])
  revert sm2 hp2
  generalize upd (upd H q (.lst [V.int 0])) p (.lst (List.replicate (Int.toNat ((m : Int) + 1)) [V.int 0]).flatten) = H2
  intro sm2 hp2
  refine ⟨_, rfl, _, _, rfl, rfl, ?_⟩
  refine ⟨_, rfl, by omega, by omega, for_range (lo := 0) (n := Int.toNat ((m : Int) + 1)) (fun k σ H' => ∃ v4 v5 : Option V, σ = [some (.ref a), some (.ref b), some (.int (m : Int)), some (.ref p), v4, v5] ∧ Same H H' ∧ H' p = some (.lst (tv (m + 1) (fun i => smul (cutN f k) g i))))
    ⟨_, _, rfl, sm2, hp2⟩ ?_ ?_⟩
  · rintro k σ H1 hk ⟨v4, v5, rfl, sm1, hp1⟩
    have e0 : (0 : Int) + (k : Int) = (k : Int) := Int.zero_add _
    rw [e0]
    have hp1 : H1 p = some (.lst (tv (m + 1) (fun i => smul (cutN f k) g i + rowP f g k 0 i))) := by
      rw [hp1]
      exact congrArg (fun l => some (HO.lst l)) (tv_congr fun i _ => by rw [rowP_zero, Int.add_zero])
    have et : Int.toNat ((m : Int) + 1 - (k : Int)) = m + 1 - k := by omega
    refine ⟨_, rfl, _, _, rfl, rfl, _, rfl, _, _, rfl, rfl, ?_⟩
    refine ⟨_, rfl, by omega, by omega, for_range (lo := 0) (n := Int.toNat ((m : Int) + 1 - (k : Int))) (fun j σ H' => ∃ v5 : Option V, σ = [some (.ref a), some (.ref b), some (.int (m : Int)), some (.ref p), some (.int k), v5] ∧ Same H H' ∧
      H' p = some (.lst (tv (m + 1) (fun i => smul (cutN f k) g i + rowP f g k j i)))) ⟨_, rfl, sm1, hp1⟩ ?_ ?_⟩
    · rintro j σ H4 hj ⟨v5, rfl, sm4, hp4⟩
      rw [et] at hj
      have e1 : (0 : Int) + (j : Int) = (j : Int) := Int.zero_add _
      rw [e1]
      have ij : (k : Int) + (j : Int) = ((k + j : Nat) : Int) := by omega
      refine ⟨_, rfl, _, rfl, _, rfl, _, _, rfl, rfl, p, _, _, _, rfl, rfl, sqL_of hp4, (by rw [ij]; exact tv_at _ (by omega)), ?_⟩
      refine ⟨_, rfl, _, rfl, a, _, _, _, rfl, rfl, sm4.seq hx, tv_at _ (by omega), _, rfl, _, rfl, b, _, _, _, rfl, rfl, sm4.seq hy, tv_at _ (by omega), _, _, rfl, rfl, cm k j (by omega) (by omega), _, _, rfl, rfl, ?_⟩
      refine ⟨_, rfl, _, rfl, _, rfl, _, _, rfl, rfl, p, _, _, k + j, rfl, rfl, hp4, (by rw [ij]; exact tv_ixN _ (by omega)), ?_⟩
      refine ⟨_, rfl, fun c o e => ?_, ?_⟩
      · rw [upd_ne (ne_of_none e np)]
        exact sm4 _ _ e
      · rw [upd_same]
        refine congrArg (fun l => some (HO.lst l)) ((tv_set _ _ (by omega)).trans (tv_congr fun i hi => ?_))
        rw [← rowP_succ]
        by_cases e : i = k + j
        · subst e; rfl
        · rw [if_neg e, if_neg e]
    · rintro σ H4 ⟨v5, rfl, sm4, hp4⟩
      rw [et] at hp4
      refine ⟨_, _, rfl, sm4, ?_⟩
      rw [hp4]
      exact congrArg (fun l => some (HO.lst l)) (tv_congr fun i hi => rowP_all f g (m + 1) k i hi)
  · rintro σ H1 ⟨v4, v5, rfl, sm1, hp1⟩
    refine ⟨_, rfl, kk p H1 sm1 np ?_⟩
    rw [hp1, show Int.toNat ((m : Int) + 1) = m + 1 by omega]
    exact congrArg (fun l => some (HO.lst l)) (tv_congr fun i hi => smul_cut_all _ _ _ _ hi)
theorem ok__law_put (T : Txt K mg ad) : FnOk P w K mg base CX0 2 ad.a__law_put ad.d__law_put ["one", "other", "many"] (sp_lput K) := by
  have nd := sc__law_put.nd
  have G__law_product := ok__law_product (P := P) (w := w) (base := base) T
  have b__law_product := T.b__law_product
  refine T.F__law_put.ok sc__law_put (fun vs H Q E h => ?_) (fun cdv A outer s H vs Q E hr h => ?_)
  · first | (obtain ⟨_, rfl, _⟩ := h; rfl) | (obtain ⟨_, _, rfl, _⟩ := h; rfl) | (obtain ⟨_, _, _, rfl, _⟩ := h; rfl) | (obtain ⟨_, _, _, _, rfl, _⟩ := h; rfl) | (obtain ⟨_, _, _, _, _, rfl, _⟩ := h; rfl) | (obtain ⟨_, _, _, _, _, _, rfl, _⟩ := h; rfl) | (obtain ⟨_, _, _, _, _, _, _, rfl, _⟩ := h; rfl) | (obtain ⟨_, _, _, _, _, _, _, _, rfl, _⟩ := h; rfl)
  refine ⟨_, (pss_cons (ps_set (i := 3) nd rfl (Or.inr rfl) (pe_op op_cat (pe_lst (pa_cons pe_int pa_nil)) (pe_op op_rep (pe_lst (pa_cons pe_int pa_nil)) (pv 2))))
      (pss_cons (ps_set (i := 4) nd rfl (Or.inr rfl) (pe_op op_rep (pe_lst (pa_cons pe_int pa_nil)) (pe_op op_add (pv 2) pe_int)))
      (pss_cons (ps_for PassesOwn.never rfl (pi_range2 (by rfl) T.m_range (pa_cons pe_int (pa_cons (pe_op op_add (pv 2) pe_int) pa_nil))) (pg_name (i := 5) nd rfl (Or.inr rfl))
      (pss_cons (ps_set (i := 3) nd rfl (Or.inr rfl) (pe_call G__law_product (hr.mono (by decide)) rfl T.g__law_product T.k__law_product b__law_product .nil pass0 (pa_cons (pv 3) (pa_cons (pv 1) (pa_cons (pv 2) pa_nil)))))
      (pss_one (ps_set (i := 4) nd rfl (Or.inr rfl) (pe_lc (own := [("j", 6)]) (g := gName 6) (by rfl) nd (pi_range1 (by rfl) T.m_range (pa_cons (pe_op op_add (pv 2) pe_int) pa_nil)) (blkOk_by (own := [("j", 6)]) (N := sl__law_put) (sc := defScope st__law_put) (by decide +kernel)) (fun _ _ _ _ _ => pg_name (i := 6) nd rfl (Or.inl rfl)) (fun _ _ _ _ _ => pts_nil) (fun _ _ _ _ _ => (pe_op op_add (pe_ix (Gw.ix_listK (K := K) rfl) (pv 4) (pv 6) (fun _ _ => rfl)) (pe_op op_mulW (pe_ix (Gw.ix_listK (K := K) rfl) (pv 0) (pv 5) (fun _ _ => rfl)) (pe_ix (Gw.ix_listK (K := K) rfl) (pv 3) (pv 6) (fun _ _ => rfl))))))))))
      (pss_one (ps_ret (pv 4)))))), ?_⟩

  obtain ⟨a, b, m, f, g, rfl, hx, hy, hm, f0, sl, fs, kk⟩ := h
  refine ⟨by show 1 ≤ sizeLine; decide, fun q1 nq1 => ?_⟩
  refine ⟨by show 1 ≤ sizeLine; decide, fun q2 nq2 => ?_⟩
  refine ⟨_, rfl, q2, _, _, rfl, rfl, upd_same, by omega, by omega, le_line (by simp; omega), fun q3 nq3 => ?_⟩
  have n12 : q1 ≠ q2 := ne_of_none upd_same nq2
  have n13 : q1 ≠ q3 := ne_of_none (by rw [upd_ne n12]; exact upd_same) nq3
  refine ⟨q1, q3, _, _, rfl, rfl, by rw [upd_ne n13, upd_ne n12]; exact upd_same, upd_same, le_line (by simp; omega), fun p1 np1 => ?_⟩
  have s3 : Same H (upd (upd (upd H q1 (.lst [.int 1])) q2 (.lst [.int 0])) q3 (.lst (List.replicate (Int.toNat (m : Int)) [V.int 0]).flatten)) := fun c o e => by
    rw [upd_ne (ne_of_none ((same_new nq2) _ _ ((same_new nq1) _ _ e)) nq3)]
    exact (same_new nq2) _ _ ((same_new nq1) _ _ e)
  have s4 : Same H (upd (upd (upd (upd H q1 (.lst [.int 1])) q2 (.lst [.int 0])) q3 (.lst (List.replicate (Int.toNat (m : Int)) [V.int 0]).flatten)) p1 (.lst ([V.int 1] ++ (List.replicate (Int.toNat (m : Int)) [V.int 0]).flatten))) := s3.trans (same_new np1)
  have h4 : (upd (upd (upd (upd H q1 (.lst [.int 1])) q2 (.lst [.int 0])) q3 (.lst (List.replicate (Int.toNat (m : Int)) [V.int 0]).flatten)) p1 (.lst ([V.int 1] ++ (List.replicate (Int.toNat (m : Int)) [V.int 0]).flatten))) p1 = some (.lst (tv (m + 1) (pw g 0))) := by
    rw [upd_same, tv_rep, Int.toNat_natCast]
    refine congrArg (fun l => some (HO.lst l)) ((tv_cons m 1 _).trans (tv_congr fun i _ => ?_))
    rfl
  revert s4 h4
  generalize upd (upd (upd (upd H q1 (.lst [.int 1])) q2 (.lst [.int 0])) q3 (.lst (List.replicate (Int.toNat (m : Int)) [V.int 0]).flatten)) p1 (.lst ([V.int 1] ++ (List.replicate (Int.toNat (m : Int)) [V.int 0]).flatten)) = H1
  intro s4 h4
  refine ⟨by show 1 ≤ sizeLine; decide, fun q nq => ?_⟩
  refine ⟨_, rfl, _, _, rfl, rfl, q, _, _, rfl, rfl, upd_same, by omega, by omega, le_line (by simp; omega), fun p np' => ?_⟩
  have s5 : Same H1 (upd (upd H1 q (.lst [V.int 0])) p (.lst (List.replicate (Int.toNat ((m : Int) + 1)) [V.int 0]).flatten)) := (same_new nq).trans (same_new np')
  have hp2 : (upd (upd H1 q (.lst [V.int 0])) p (.lst (List.replicate (Int.toNat ((m : Int) + 1)) [V.int 0]).flatten)) p = some (.lst (tv (m + 1) (fun i => psum f g 1 i))) := by
    rw [upd_same, tv_rep, show Int.toNat ((m : Int) + 1) = m + 1 by omega]
    refine congrArg (fun l => some (HO.lst l)) (tv_congr fun i _ => ?_)
    show 0 = (0 : Int) + f 0 * _
    rw [f0, Int.zero_mul, Int.add_zero]
  have np : H p = none := none_of (s4.trans (same_new nq)) np'
  revert s5 hp2
  generalize upd (upd H1 q (.lst [V.int 0])) p (.lst (List.replicate (Int.toNat ((m : Int) + 1)) [V.int 0]).flatten) = H2
  intro s5 hp2
  refine ⟨_, rfl, _, _, rfl, rfl, ?_⟩
  have et : Int.toNat ((m : Int) + 1 - 1) = m := by omega
  refine ⟨_, _, rfl, ⟨by decide, by decide, by omega, by omega⟩, for_range (lo := 1) (n := Int.toNat ((m : Int) + 1 - 1)) (fun k σ H' => ∃ (pp pt : Addr) (v5 v6 : Option V), σ = [some (.ref a), some (.ref b), some (.int (m : Int)), some (.ref pp), some (.ref pt), v5, v6] ∧ Same H H' ∧ H pt = none ∧ H' pp = some (.lst (tv (m + 1) (pw g k))) ∧ H' pt = some (.lst (tv (m + 1) (psum f g (k + 1)))))
    ⟨p1, p, _, _, rfl, s4.trans s5, np, s5 _ _ h4, hp2⟩ ?_ ?_⟩
  · rintro k σ H4 hk ⟨pp, pt, v5, v6, rfl, sm, npt, hpp, hpt⟩
    rw [et] at hk
    have hyk := sm.seq hy
    refine ⟨_, rfl, _, rfl, _, rfl, pp, b, m, pw g k, g, rfl, sqL_of hpp, hyk, hm, fun i j hi hj => wide_mul (a := 500) (b := 500) (sl.pw_lt k i (by omega) hm) (sl.lt j (by omega) hm) (by decide) (by decide) (by decide), fun t H5 s5' nt ht => ?_⟩
    refine ⟨_, rfl, _, _, rfl, rfl, _, rfl, by omega, by omega, fun D nD => ?_⟩
    have hnD : H D = none := none_of (sm.trans s5') nD
    have ek : (1 : Int) + (k : Int) = ((k + 1 : Nat) : Int) := by omega
    refine lc_it (walk_range (lo := 0) (n := Int.toNat ((m : Int) + 1))) (fun i H' => Same H5 H' ∧ H' D = some (.lst (tv i (psum f g (k + 1 + 1))))) ⟨same_new nD, upd_same⟩ (fun _ _ _ _ => trivial) ?_ ?_
    · rintro i x H6 H7 hi ⟨s6, hD⟩ ⟨rfl, rfl⟩
      have hi : i < m + 1 := by omega
      have ei : (0 : Int) + (i : Int) = (i : Int) := Int.zero_add _
      show gName 6 (V.int ((0 : Int) + (i : Int))) _ _ _
      rw [ei]
      refine ⟨rfl, ?_⟩
      refine yes_do ?_
      refine ⟨_, rfl, _, rfl, pt, _, _, _, rfl, rfl, sqL_of (s6 _ _ (s5' _ _ hpt)), tv_at _ hi, ?_⟩
      refine ⟨_, rfl, _, rfl, a, _, _, _, rfl, rfl, s6.seq (s5'.seq (sm.seq hx)), (by rw [ek]; exact tv_at _ (by omega)), _, rfl, _, rfl, t, _, _, _, rfl, rfl, sqL_of (s6 _ _ ht), tv_at _ hi, _, _, rfl, rfl, ?_, _, _, rfl, rfl, ?_⟩
      · exact wide_mul (a := 500) (b := 500) (fs (k + 1) (by omega)) (sl.pw_lt (k + 1) i (by omega) hm) (by decide) (by decide) (by decide)
      · refine ⟨_, hD, lt_line (by rw [tv_len]; omega), fun c o e => ?_, ?_⟩
        · rw [upd_ne (ne_of_none e nD)]
          exact s6 _ _ e
        · rw [upd_same]
          exact congrArg (fun l => some (HO.lst l)) (tv_snoc i (psum f g (k + 1 + 1)))
    · rintro H6 ⟨s6, hD⟩
      rw [show Int.toNat ((m : Int) + 1) = m + 1 by omega] at hD
      exact ⟨t, D, _, _, rfl, (sm.trans s5').trans s6, hnD, s6 _ _ ht, hD⟩
  · rintro σ H4 ⟨pp, pt, v5, v6, rfl, sm, npt, hpp, hpt⟩
    rw [et] at hpt
    exact ⟨_, rfl, kk pt H4 sm npt hpt⟩
theorem ok__law_told (T : Txt K mg ad) : FnOk P w K mg base CX0 6 ad.a__law_told ad.d__law_told ["way", "one", "other"] (sp_told K) := by
  have nd := sc__law_told.nd
  have G_undoing := ok_undoing (P := P) (w := w) (base := base) T
  have b_undoing := T.b_undoing
  have G_turned_signs := ok_turned_signs (P := P) (w := w) (base := base) T
  have b_turned_signs := T.b_turned_signs
  have G_added_series := ok_added_series (P := P) (w := w) (base := base) T
  have b_added_series := T.b_added_series
  have G_multiplied_series := ok_multiplied_series (P := P) (w := w) (base := base) T
  have b_multiplied_series := T.b_multiplied_series
  have G_put_into := ok_put_into (P := P) (w := w) (base := base) T
  have b_put_into := T.b_put_into
  refine T.F__law_told.ok sc__law_told (fun vs H Q E h => ?_) (fun cdv A outer s H vs Q E hr h => ?_)
  · first | (obtain ⟨_, rfl, _⟩ := h; rfl) | (obtain ⟨_, _, rfl, _⟩ := h; rfl) | (obtain ⟨_, _, _, rfl, _⟩ := h; rfl) | (obtain ⟨_, _, _, _, rfl, _⟩ := h; rfl) | (obtain ⟨_, _, _, _, _, rfl, _⟩ := h; rfl) | (obtain ⟨_, _, _, _, _, _, rfl, _⟩ := h; rfl) | (obtain ⟨_, _, _, _, _, _, _, rfl, _⟩ := h; rfl) | (obtain ⟨_, _, _, _, _, _, _, _, rfl, _⟩ := h; rfl)
  refine ⟨_, (pss_one (ps_try_as (i := 3) (Wout := fun _ _ _ _ => False) rfl rfl nd rfl rfl ⟨rfl, by decide, .inl T.g_GraftError⟩ takes0
      (fun W pn xe tk _ => (pss_cons (ps_if (pt_cmpR op_lt (pv 0) pe_int (nomark _)) (pss_one (ps_ret (Gw.pe_callE (k := 4) (S := (fun f sp => (f = ad.a_added_series ∧ sp = (sp_add K ad)) ∨ (f = ad.a_multiplied_series ∧ sp = (sp_mul K ad)) ∨ (f = ad.a_put_into ∧ sp = (sp_put K ad)))) (pe_ix (Gw.ix_listK (K := K) rfl) (pe_lst (pa_cons (pe_glob (v := .ref ad.a_added_series) rfl T.g_added_series rfl) (pa_cons (pe_glob (v := .ref ad.a_multiplied_series) rfl T.g_multiplied_series rfl) (pa_cons (pe_glob (v := .ref ad.a_put_into) rfl T.g_put_into rfl) pa_nil)))) (pv 0) (fun _ _ => rfl)) (fun f sp h => by
        rcases h with ⟨rfl, rfl⟩ | ⟨rfl, rfl⟩ | ⟨rfl, rfl⟩
        · exact ⟨_, _, G_added_series.mono (by decide), T.k_added_series, b_added_series⟩
        · exact ⟨_, _, G_multiplied_series.mono (by decide), T.k_multiplied_series, b_multiplied_series⟩
        · exact ⟨_, _, G_put_into.mono (by decide), T.k_put_into, b_put_into⟩) (hr.mono (by decide)) (fun σ => passAt tk σ) (by exact (pa_cons (pv 1) (pa_cons (pv 2) pa_nil)))))) pss_nil)
      (pss_one (ps_ret (Gw.pe_callE (k := 5) (S := (fun f sp => (f = ad.a_undoing ∧ sp = (sp_und K ad)) ∨ (f = ad.a_turned_signs ∧ sp = (sp_sgn K ad)))) (pe_ix (Gw.ix_listK (K := K) rfl) (pe_lst (pa_cons (pe_glob (v := .ref ad.a_undoing) rfl T.g_undoing rfl) (pa_cons (pe_glob (v := .ref ad.a_turned_signs) rfl T.g_turned_signs rfl) pa_nil))) (pe_op op_sub (pv 0) pe_int) (fun _ _ => rfl)) (fun f sp h => by
        rcases h with ⟨rfl, rfl⟩ | ⟨rfl, rfl⟩
        · exact ⟨_, _, G_undoing.mono (by decide), T.k_undoing, b_undoing⟩
        · exact ⟨_, _, G_turned_signs.mono (by decide), T.k_turned_signs, b_turned_signs⟩) (hr.mono (by decide)) (fun σ => passAt tk σ) (by exact (pa_cons (pv 1) pa_nil)))))))
      (fun a oe cls d pn hz hf => (pss_cons (ps_set (i := 4) nd rfl (Or.inl rfl) (pe_lst (pa_cons (pe_callB (Gw.cr_isA hz hf) (by rfl) T.m_isinstance (by decide +kernel) (pa_cons (pv 3) (pa_cons (pe_glob (v := .ref ad.a_BadNumber) rfl T.g_BadNumber rfl) pa_nil))) (pa_cons (pe_callB (Gw.cr_isA hz hf) (by rfl) T.m_isinstance (by decide +kernel) (pa_cons (pv 3) (pa_cons (pe_glob (v := .ref ad.a_NoAnswer) rfl T.g_NoAnswer rfl) pa_nil))) pa_nil))))
      (pss_one (ps_ret (pe_op op_add_str pe_str (pe_ix ix_str pe_str (by exact (show PE _ _ (tBM K "list" (rIndex K) _ _) from (pe_bm PySem.F.plainAttrs_list PySem.F.slot_list_index PySem.F.type_list_index mt_index (pv 4) (pa_cons pe_bl pa_nil)))) (fun _ _ => rfl))))))))), ?_⟩

  obtain ⟨way, a, x, n, m, f, g, rfl, hx, w0, w5, hxb, hf, hg, kb, kq⟩ := h
  have c0 : atI ("bn" : Str).cps.toList ((0 : Nat) : Int) = some 98 := by decide +kernel
  have c1 : atI ("bn" : Str).cps.toList ((1 : Nat) : Int) = some 110 := by decide +kernel
  have e0 : ("!" : Str) ++ ⟨#[98]⟩ = "!b" := by decide +kernel
  have e1 : ("!" : Str) ++ ⟨#[110]⟩ = "!n" := by decide +kernel
  have bad : ∀ H1, Same H H1 → toldT way n m f = "!b" → ∀ e, tsTwo K ad.a_BadNumber ad.a_NoAnswer 3 4 "bn" e (.ref ad.a_BadNumber) none
      { nx := fun σ' H' => Q .non H', rt := Q, bk := fun σ' H' => False, ct := fun σ' H' => False } [some (.int way), some (.ref a), some x, some (.ref e), none] H1 := fun H1 s1 et e => by
    refine suite_two T.e_BadNumber T.i_BadNumber_BadNumber T.i_BadNumber_NoAnswer rfl (by show 4 < 5; decide) (by decide) (j := 0) rfl (fun m z hm _ => absurd hm (by omega)) c0 fun q nq => ?_
    rw [e0, ← et]
    exact kb (by rw [et]; decide +kernel) _ (s1.trans (same_new nq))
  have bad2 : ∀ H1, Same H H1 → toldT way n m f = "!n" → ∀ e, tsTwo K ad.a_BadNumber ad.a_NoAnswer 3 4 "bn" e (.ref ad.a_NoAnswer) none
      { nx := fun σ' H' => Q .non H', rt := Q, bk := fun σ' H' => False, ct := fun σ' H' => False } [some (.int way), some (.ref a), some x, some (.ref e), none] H1 := fun H1 s1 et e => by
    refine suite_two T.e_NoAnswer T.i_NoAnswer_BadNumber T.i_NoAnswer_NoAnswer rfl (by show 4 < 5; decide) (by decide) (j := 1) rfl (fun m z hm hz => ?_) c1 fun q nq => ?_
    · have : m = 0 := by omega
      subst this
      cases hz
      rfl
    · rw [e1, ← et]
      exact kb (by rw [et]; decide +kernel) _ (s1.trans (same_new nq))
  have two : ∀ (C : Nat → (Nat → Int) → (Nat → Int) → Prop) (F : Nat → (Nat → Int) → (Nat → Int) → Nat → Int) (H1 : Hp) (b : Addr), Same H H1 → way < 3 → SqL K H b (tv m g) → (terms n = true → n = m → C n f g) → F n f g = toldF way n f g →
      ∀ W : XK, (∀ H1, Same H H1 → toldT way n m f = "!b" → W (.ref ad.a_BadNumber) none H1) → sp_two K ad C F [.ref a, .ref b] H1 Q W := fun C F H1 b s1 w3 hb hc ef W wb => by
    refine ⟨a, b, n, m, f, g, rfl, s1.seq hx, s1.seq hb, fun e => wb _ s1 ?_, fun e1 e2 => ⟨hc e1 e2, ?_⟩⟩
    · unfold toldT
      rw [if_pos w3, if_neg (by rw [e]; decide)]
    · rw [ef]
      refine (kq ?_).mono s1
      unfold toldT
      rw [if_pos w3, if_pos (by rw [e1, decide_eq_true e2]; rfl)]
  have hw : way = 0 ∨ way = 1 ∨ way = 2 ∨ way = 3 ∨ way = 4 := by omega
  rcases hw with rfl | rfl | rfl | rfl | rfl
  · obtain ⟨b, rfl, hb⟩ := hxb (by decide)
    refine ⟨_, rfl, _, _, rfl, rfl, _, rfl, iteB (fun _ => ?_) (fun c => absurd c (by decide))⟩
    refine ⟨by show 3 ≤ sizeLine; decide, fun q nq => ?_⟩
    refine ⟨_, rfl, q, _, 0, _, rfl, rfl, sqL_of upd_same, rfl, ad.a_added_series, _, rfl, .inl ⟨rfl, rfl⟩, _, rfl, _, rfl, ?_⟩
    exact two _ _ _ b (same_new nq) (by decide) hb (fun _ _ => trivial) rfl _ (fun H1 s1 et => ⟨true, T.m_BadNumber_GraftError, fun _ e ne => bad H1 s1 et e, fun q => nomatch q⟩)
  · obtain ⟨b, rfl, hb⟩ := hxb (by decide)
    refine ⟨_, rfl, _, _, rfl, rfl, _, rfl, iteB (fun _ => ?_) (fun c => absurd c (by decide))⟩
    refine ⟨by show 3 ≤ sizeLine; decide, fun q nq => ?_⟩
    refine ⟨_, rfl, q, _, 1, _, rfl, rfl, sqL_of upd_same, rfl, ad.a_multiplied_series, _, rfl, .inr (.inl ⟨rfl, rfl⟩), _, rfl, _, rfl, ?_⟩
    exact two _ _ _ b (same_new nq) (by decide) hb (fun _ e => fun i j hi hj => wide_mul (a := 500) (b := 500) (lt500 (hf i hi)) (lt500 (hg j (by omega))) (by decide) (by decide) (by decide)) rfl _ (fun H1 s1 et => ⟨true, T.m_BadNumber_GraftError, fun _ e ne => bad H1 s1 et e, fun q => nomatch q⟩)
  · obtain ⟨b, rfl, hb⟩ := hxb (by decide)
    refine ⟨_, rfl, _, _, rfl, rfl, _, rfl, iteB (fun _ => ?_) (fun c => absurd c (by decide))⟩
    refine ⟨by show 3 ≤ sizeLine; decide, fun q nq => ?_⟩
    refine ⟨_, rfl, q, _, 2, _, rfl, rfl, sqL_of upd_same, rfl, ad.a_put_into, _, rfl, .inr (.inr ⟨rfl, rfl⟩), _, rfl, _, rfl, ?_⟩
    exact two _ _ _ b (same_new nq) (by decide) hb (fun e1 e => cput_of (terms_le e1).2 (fun i hi => lt500 (hf i hi)) (slow_of fun i hi => Nat.le_trans (hg i (by omega)) (by decide))) rfl _ (fun H1 s1 et => ⟨true, T.m_BadNumber_GraftError, fun _ e ne => bad H1 s1 et e, fun q => nomatch q⟩)
  · refine ⟨_, rfl, _, _, rfl, rfl, _, rfl, iteB (fun c => absurd c (by decide)) (fun _ => ?_)⟩
    refine ⟨by show 2 ≤ sizeLine; decide, fun q nq => ?_⟩
    refine ⟨_, rfl, _, _, rfl, rfl, q, _, 0, _, rfl, rfl, sqL_of upd_same, rfl, ad.a_undoing, _, rfl, .inl ⟨rfl, rfl⟩, _, rfl, ?_⟩
    have sq := same_new (o := .lst [.ref ad.a_undoing, .ref ad.a_turned_signs]) nq
    refine ⟨a, n, f, rfl, sq.seq hx, fun i hi => lt500 (hf i hi), fun n2 _ h0 => inv_small n2 h0 hf, fun e => ⟨true, T.m_BadNumber_GraftError, fun _ e' ne => bad _ sq ?_ e', fun q => nomatch q⟩, fun e e2 H' s' => ⟨true, T.m_NoAnswer_GraftError, fun _ e' ne => bad2 _ (sq.trans s') ?_ e', fun q => nomatch q⟩, fun e e2 => (kq ?_).mono sq⟩
    · unfold toldT
      rw [if_neg (by decide), if_neg (by rw [e]; decide)]
    · unfold toldT
      rw [if_neg (by decide), if_pos e, if_pos ⟨rfl, e2⟩]
    · unfold toldT
      rw [if_neg (by decide), if_pos e, if_neg (by rintro ⟨_, q1, q2⟩; rcases e2 with q | q <;> contradiction)]
  · refine ⟨_, rfl, _, _, rfl, rfl, _, rfl, iteB (fun c => absurd c (by decide)) (fun _ => ?_)⟩
    refine ⟨by show 2 ≤ sizeLine; decide, fun q nq => ?_⟩
    refine ⟨_, rfl, _, _, rfl, rfl, q, _, 1, _, rfl, rfl, sqL_of upd_same, rfl, ad.a_turned_signs, _, rfl, .inr ⟨rfl, rfl⟩, _, rfl, ?_⟩
    have sq := same_new (o := .lst [.ref ad.a_undoing, .ref ad.a_turned_signs]) nq
    refine ⟨a, n, f, rfl, sq.seq hx, fun e => ⟨true, T.m_BadNumber_GraftError, fun _ e' ne => bad _ sq ?_ e', fun q => nomatch q⟩, fun e => (kq ?_).mono sq⟩
    · unfold toldT
      rw [if_neg (by decide), if_neg (by rw [e]; decide)]
    · unfold toldT
      rw [if_neg (by decide), if_pos e, if_neg (by rintro ⟨q1, _⟩; exact absurd q1 (by decide))]
theorem tv_lift (n : Nat) (f : Nat → Int) : [V.int 0] ++ tv n f = tv (n + 1) (lift f) := tv_cons n 0 f
theorem cut_tv (n : Nat) (h : Nat → Int) : cutV (tv (n + 1) h) (some 1) none = tv n (fun i => h (i + 1)) := by
  unfold cutV
  rw [tv_len]
  have e1 : HT.sIx (n + 1) 0 (some 1) = 1 := by simp [HT.sIx]
  have e2 : HT.sIx (n + 1) (n + 1) none = n + 1 := by simp [HT.sIx]
  rw [e1, e2, Nat.add_sub_cancel]
  refine tv_ext (by simp [tv_len]) fun i hi => ?_
  rw [List.getElem?_take, if_pos hi, List.getElem?_drop, Nat.add_comm 1 i]
  exact tv_get h (by omega)
theorem lift_le {f : Nat → Int} {n : Nat} (h : ∀ i, i < n → (f i).natAbs ≤ 4) (i : Nat) (hi : i < n + 1) : (lift f i).natAbs ≤ 4 := by
  cases i with
  | zero => exact Nat.zero_le _
  | succ i => rw [lift_succ]; exact h i (by omega)
theorem cms_lift {f g : Nat → Int} {n : Nat} (hf : ∀ i, i < n → (f i).natAbs ≤ 4) (hg : ∀ i, i < n → (g i).natAbs ≤ 4) : CMs (n + 1) (lift f) (lift g) := fun i j hi hj =>
  wide_mul (a := 500) (b := 500) (lt500 (lift_le hf i hi)) (lt500 (lift_le hg j hj)) (by decide) (by decide) (by decide)
theorem one_at {H : Hp} {t : Addr} {o : HO} (h : H t = some o) : Same (upd noH t o) H := fun b u e => by
  by_cases q : b = t
  · rw [q, upd_same] at e
    rw [q, h, e]
  · rw [upd_ne q] at e; cases e
theorem off_at {H : Hp} {t : Addr} {o : HO} (h : H t = none) : Off (upd noH t o) H := fun b u e => by
  by_cases q : b = t
  · rw [q]; exact h
  · rw [upd_ne q] at e; cases e
theorem smul_lt (A B : Nat) : ∀ (n : Nat) (a b : Ser), (∀ i, i ≤ n → (a i).natAbs ≤ A) → (∀ i, i ≤ n → (b i).natAbs ≤ B) → (smul a b n).natAbs ≤ (n + 1) * (A * B)
  | 0, a, b, h1, h2 => by
    rw [smul_zero, Int.natAbs_mul, Nat.zero_add, Nat.one_mul]
    exact Nat.mul_le_mul (h1 0 (Nat.le_refl _)) (h2 0 (Nat.le_refl _))
  | n + 1, a, b, h1, h2 => by
    rw [smul_succ]
    have ih := smul_lt A B n (sh a) b (fun i hi => h1 (i + 1) (by omega)) (fun i hi => h2 i (by omega))
    have e := Nat.mul_le_mul (h1 0 (Nat.zero_le _)) (h2 (n + 1) (Nat.le_refl _))
    have tri := Int.natAbs_add_le (a 0 * b (n + 1)) (smul (sh a) b n)
    rw [Int.natAbs_mul] at tri
    rw [Nat.succ_mul]
    omega
theorem psum_lt (B : Nat) (f g : Ser) (n : Nat) : ∀ m, (∀ k, k < m → (f k).natAbs ≤ 4) → (∀ k, k < m → (pw g k n).natAbs ≤ B) → (psum f g m n).natAbs ≤ m * (4 * B)
  | 0, _, _ => by show 0 ≤ _; omega
  | m + 1, h1, h2 => by
    have ih := psum_lt B f g n m (fun k hk => h1 k (by omega)) (fun k hk => h2 k (by omega))
    have e := Nat.mul_le_mul (h1 m (by omega)) (h2 m (by omega))
    have tri := Int.natAbs_add_le (psum f g m n) (f m * pw g m n)
    rw [Int.natAbs_mul] at tri
    rw [Nat.succ_mul]
    show (psum f g m n + f m * pw g m n).natAbs ≤ _
    omega
theorem lt1000 {x k : Nat} (h : x ≤ k * (4 * 2 ^ 500)) (hk : k ≤ 13) : x < 2 ^ 1000 := by
  have a : k * (4 * 2 ^ 500) ≤ 2 ^ 6 * 2 ^ 500 := by
    rw [← Nat.mul_assoc]
    exact Nat.mul_le_mul_right _ (by omega)
  rw [← Nat.pow_add] at a
  exact Nat.lt_of_le_of_lt (Nat.le_trans h a) (Nat.pow_lt_pow_right (by decide) (by decide))
theorem nice_due {n : Nat} {f g : Nat → Int} (n12 : n ≤ 12) (hf : ∀ i, i < n → (f i).natAbs ≤ 4) (hg : ∀ i, i < n → (g i).natAbs ≤ 4) : Nice 100000 (.list [dL n (fun i => f i + g i), dL n (mulF f g), dL n (putF n f g)]) := by
  have sl : Slow (lift g) n := slow_of fun i hi => Nat.le_trans (hg i hi) (by decide)
  have c4 : 4 ≤ 4 * 2 ^ 500 := Nat.le_mul_of_pos_right _ (Nat.pow_pos (by decide))
  refine nice_list (n := 30000) (fun d hd => ?_) (by simp [PyData.depthAll, PyData.depth, depth_I]) (by show 30000 * 3 + 2 * 3 + 3 ≤ 100000; decide)
  simp only [List.mem_cons, List.not_mem_nil, or_false] at hd
  rcases hd with rfl | rfl | rfl
  · refine nice_L n12 fun i hi => ?_
    have a := hf i hi
    have b := hg i hi
    have t := Int.natAbs_add_le (f i) (g i)
    exact lt1000 (k := 2) (Nat.le_trans t (Nat.le_trans (show _ ≤ 2 * 4 by omega) (Nat.mul_le_mul_left 2 c4))) (by decide)
  · refine nice_L n12 fun i hi => ?_
    have := smul_lt 4 4 (i + 1) (lift f) (lift g) (fun j hj => lift_le hf j (by omega)) (fun j hj => lift_le hg j (by omega))
    refine lt1000 (k := 13) (Nat.le_trans this ?_) (by decide)
    refine Nat.mul_le_mul (by omega) (Nat.mul_le_mul_left 4 (Nat.le_trans (show 4 ≤ 2 ^ 2 by decide) (Nat.pow_le_pow_right (by decide) (by decide))))
  · refine nice_L n12 fun i hi => ?_
    have := psum_lt (2 ^ 500) (lift f) (lift g) (i + 1) (n + 1) (fun k hk => lift_le hf k hk) (fun k hk => Nat.le_of_lt (sl.pw_lt k (i + 1) (by omega) n12))
    exact lt1000 this (by omega)
theorem tv_more (n : Nat) (g : Nat → Int) : tv n g ++ [.int 1] = tv (n + 1) (fun i => if i < n then g i else 1) := by
  have h := tv_snoc n (fun i => if i < n then g i else 1)
  rw [if_neg (Nat.lt_irrefl n)] at h
  rw [← h]
  congr 1
  exact tv_congr fun i hi => (if_pos hi).symm
theorem told_bad {w : Int} {n m : Nat} {f : Nat → Int} (h : terms n = false) : toldT w n m f = "!b" := by
  unfold toldT
  split
  · rw [if_neg (by rw [h]; simp)]
  · rw [if_neg (by rw [h]; simp)]
theorem told_other {w : Int} {n m : Nat} {f : Nat → Int} (h : w < 3) (e : n ≠ m) : toldT w n m f = "!b" := by
  unfold toldT
  rw [if_pos h, if_neg (by rw [decide_eq_false e, Bool.and_false]; decide)]
theorem ok__law_plain (T : Txt K mg ad) : FnOk P w K mg base CX0 1 ad.a__law_plain ad.d__law_plain ["cell"] sp_plain := by
  have nd := sc__law_plain.nd
  refine T.F__law_plain.ok sc__law_plain (fun vs H Q E h => ?_) (fun cdv A outer s H vs Q E hr h => ?_)
  · first | (obtain ⟨_, rfl, _⟩ := h; rfl) | (obtain ⟨_, _, rfl, _⟩ := h; rfl) | (obtain ⟨_, _, _, rfl, _⟩ := h; rfl) | (obtain ⟨_, _, _, _, rfl, _⟩ := h; rfl) | (obtain ⟨_, _, _, _, _, rfl, _⟩ := h; rfl) | (obtain ⟨_, _, _, _, _, _, rfl, _⟩ := h; rfl) | (obtain ⟨_, _, _, _, _, _, _, rfl, _⟩ := h; rfl) | (obtain ⟨_, _, _, _, _, _, _, _, rfl, _⟩ := h; rfl)
  refine ⟨_, (pss_cons (ps_if (pt_cmpR op_lt (pv 0) pe_int (nomark _)) (pss_one (ps_ret (pe_op op_sub pe_int (pv 0)))) pss_nil)
      (pss_one (ps_ret (pv 0)))), ?_⟩

  obtain ⟨i, rfl, k⟩ := h
  refine ⟨_, rfl, _, _, rfl, rfl, _, rfl, ?_⟩
  refine iteB (fun c => ?_) (fun c => ?_)
  · refine ⟨_, rfl, _, _, rfl, rfl, ?_⟩
    have e : plain i = 0 - i := if_pos (of_decide_eq_true c)
    rw [e] at k
    exact k
  · refine ⟨_, rfl, ?_⟩
    have e : plain i = i := if_neg (of_decide_eq_false c)
    rw [e] at k
    exact k
theorem ok__law_draws (T : Txt K mg ad) : FnOk P w K mg base CX0 2 ad.a__law_draws ad.d__law_draws ["script"] (sp_draws K) := by
  have nd := sc__law_draws.nd
  have G__law_plain := ok__law_plain (P := P) (w := w) (base := base) T
  have b__law_plain := T.b__law_plain
  refine T.F__law_draws.ok sc__law_draws (fun vs H Q E h => ?_) (fun cdv A outer s H vs Q E hr h => ?_)
  · first | (obtain ⟨_, rfl, _⟩ := h; rfl) | (obtain ⟨_, _, rfl, _⟩ := h; rfl) | (obtain ⟨_, _, _, rfl, _⟩ := h; rfl) | (obtain ⟨_, _, _, _, rfl, _⟩ := h; rfl) | (obtain ⟨_, _, _, _, _, rfl, _⟩ := h; rfl) | (obtain ⟨_, _, _, _, _, _, rfl, _⟩ := h; rfl) | (obtain ⟨_, _, _, _, _, _, _, rfl, _⟩ := h; rfl) | (obtain ⟨_, _, _, _, _, _, _, _, rfl, _⟩ := h; rfl)
  refine ⟨_, (pss_cons (ps_set (i := 1) nd rfl (Or.inl rfl) (pe_lst pa_nil))
      (pss_cons (ps_for PassesOwn.never rfl (pi_list (pv 0)) (pg_name (i := 2) nd rfl (Or.inl rfl))
      (pss_cons (ps_set (i := 3) nd rfl (Or.inl rfl) (pe_call G__law_plain (hr.mono (by decide)) rfl T.g__law_plain T.k__law_plain b__law_plain .nil pass0 (pa_cons (pv 2) pa_nil)))
      (pss_one (ps_if (pt_cmpR op_ge (pv 3) pe_int (nomark _)) (pss_one (ps_for PassesOwn.never rfl (pi_range1 (by rfl) T.m_range (pa_cons pe_int pa_nil)) (pg_name (i := 4) nd rfl (Or.inl rfl))
      (pss_cons (ps_if (pt_cmpR op_eq (pv 3) pe_int (nomark _)) (pss_one ps_break) pss_nil)
      (pss_cons (ps_expr (pe_bm PySem.F.plainAttrs_list PySem.F.slot_list_append PySem.F.type_list_append mt_append (pv 1) (pa_cons (pe_op op_mod (pe_callTy call_int1 (by rfl) T.m_int (by decide +kernel) (pa_cons (pv 3) pa_nil)) pe_int) pa_nil)))
      (pss_one (ps_set (i := 3) nd rfl (Or.inl rfl) (pe_op op_fdiv (pv 3) pe_int))))))) (pss_cons (ps_set (i := 5) nd rfl (Or.inl rfl) (pe_op op_mod (pe_callTy call_int1 (by rfl) T.m_int (by decide +kernel) (pa_cons (pe_op op_add (pe_op op_mul (pv 3) pe_int) pe_int) pa_nil)) pe_int))
      (pss_cons (ps_set (i := 6) nd rfl (Or.inl rfl) (pe_op op_mod (pe_callTy call_int1 (by rfl) T.m_int (by decide +kernel) (pa_cons (pe_op op_add (pe_op op_mul (pv 5) pe_int) (pv 3)) pa_nil)) pe_int))
      (pss_one (ps_expr (pe_bm PySem.F.plainAttrs_list PySem.F.slot_list_extend PySem.F.type_list_extend mt_extend (pv 1) (pa_cons (pe_lst (pa_cons (pe_op op_mod (pe_callTy call_int1 (by rfl) T.m_int (by decide +kernel) (pa_cons (pv 3) pa_nil)) pe_int) (pa_cons (pe_op op_mod (pe_callTy call_int1 (by rfl) T.m_int (by decide +kernel) (pa_cons (pv 5) pa_nil)) pe_int) (pa_cons (pe_op op_mod (pe_callTy call_int1 (by rfl) T.m_int (by decide +kernel) (pa_cons (pv 6) pa_nil)) pe_int) pa_nil)))) pa_nil))))))))))
      (pss_one (ps_ret (pv 1))))), ?_⟩

  obtain ⟨a, ns, rfl, hS, hn, k⟩ := h
  refine ⟨Nat.zero_le _, fun l nl => ?_⟩
  refine ⟨_, rfl, a, rfl, ⟨_, (same_new nl).seq hS⟩, for_list (K := K) (a := a) (xs := ns.map V.int) (fun i σ H' => ∃ (v2 v3 v4 v5 v6 : Option V) (ds : List Int), σ = [some (.ref a), some (.ref l), v2, v3, v4, v5, v6] ∧ Same H H' ∧ H' l = some (.lst (ds.map V.int)) ∧ ds.length ≤ 60 * i)
    ⟨_, _, _, _, _, [], rfl, same_new nl, upd_same, Nat.zero_le _⟩ (fun i σ H' _ ⟨_, _, _, _, _, _, _, sm, _⟩ => sm.seq hS) ?_ ?_⟩
  · rintro i y σ H2 hi ⟨v2, v3, v4, v5, v6, ds, rfl, sm, hl, hd⟩
    obtain ⟨z, hz, rfl⟩ := get_int hi
    have hi2 : i < 63 := by
      have := (List.getElem?_eq_some_iff.mp hz).1
      omega
    refine ⟨_, rfl, z, rfl, ?_⟩
    refine ⟨_, rfl, _, _, rfl, rfl, _, rfl, ?_⟩
    refine iteB (fun c => ?_) (fun c => ?_)
    · refine ⟨60, rfl, by decide, by decide, for_range (lo := 0) (n := 60) (fun j σ H3 => ∃ (w4 w5 w6 : Option V) (r : Int) (es : List Int), σ = [some (.ref a), some (.ref l), some (.int z), some (.int r), w4, w5, w6] ∧ Same H H3 ∧ H3 l = some (.lst (es.map V.int)) ∧ es.length ≤ 60 * i + j)
        ⟨_, _, _, _, ds, rfl, sm, hl, hd⟩ ?_ ?_⟩
      · rintro j σ H3 hj ⟨w4, w5, w6, r, es, rfl, sm3, hl3, hd3⟩
        refine ⟨_, rfl, rfl, _, rfl, ?_⟩
        refine iteB (fun c2 => ?_) (fun c2 => ?_)
        · exact ⟨_, _, _, _, _, es, rfl, sm3, hl3, by omega⟩
        · refine ⟨_, rfl, .inl ⟨rfl, _, sqL_of hl3⟩, _, rfl, .inl ⟨_, rfl, _, _, rfl, rfl, by show (0 : Int) < 1000; decide, l, _, _, rfl, rfl, hl3, lt_line (by rw [List.length_map]; omega), ?_⟩⟩
          refine ⟨_, rfl, _, _, rfl, rfl, ⟨by decide, by decide⟩, ?_⟩
          refine ⟨_, _, _, _, es ++ [r % 1000], rfl, fun b o e => ?_, ?_, by rw [List.length_append]; show es.length + 1 ≤ _; omega⟩
          · rw [upd_ne (ne_of_none e nl)]
            exact sm3 b o e
          · rw [upd_same, List.map_append]
            rfl
      · rintro σ H3 ⟨w4, w5, w6, r, es, rfl, sm3, hl3, hd3⟩
        exact ⟨_, _, _, _, _, es, rfl, sm3, hl3, by omega⟩
    · refine ⟨_, rfl, _, _, rfl, rfl, .inr ⟨by decide, by decide⟩, _, _, rfl, rfl, .inl ⟨_, rfl, _, _, rfl, rfl, by show (0 : Int) < 2147483647; decide, ?_⟩⟩
      refine ⟨_, rfl, _, _, rfl, rfl, .inr ⟨by decide, by decide⟩, _, rfl, _, _, rfl, rfl, .inl ⟨_, rfl, _, _, rfl, rfl, by show (0 : Int) < 2147483629; decide, ?_⟩⟩
      refine ⟨_, rfl, .inl ⟨rfl, _, sqL_of hl⟩, _, rfl, .inl ⟨_, rfl, _, _, rfl, rfl, by show (0 : Int) < 1000; decide, _, rfl, .inl ⟨_, rfl, _, _, rfl, rfl, by show (0 : Int) < 1000; decide, _, rfl, .inl ⟨_, rfl, _, _, rfl, rfl, by show (0 : Int) < 1000; decide, ?_⟩⟩⟩⟩
      refine ⟨by show 3 ≤ sizeLine; decide, fun q nq => ?_⟩
      have nql : l ≠ q := ne_of_none hl nq
      refine ⟨l, q, _, _, rfl, rfl, by rw [upd_ne nql]; exact hl, upd_same, ?_, ?_⟩
      · refine le_line ?_
        rw [List.length_map]
        show ds.length + 3 ≤ _
        omega
      · refine ⟨_, _, _, _, _, ds ++ [plain z % 1000, (plain z * 48271 + 11) % 2147483647 % 1000, ((plain z * 48271 + 11) % 2147483647 * 69621 + plain z) % 2147483629 % 1000], rfl, fun b o e => ?_, ?_, by rw [List.length_append]; show ds.length + 3 ≤ _; omega⟩
        · rw [upd_ne (ne_of_none e nl), upd_ne (ne_of_none (sm b o e) nq)]
          exact sm b o e
        · rw [upd_same, List.map_append]
          rfl
  · rintro σ H2 ⟨v2, v3, v4, v5, v6, ds, rfl, sm, hl, hd⟩
    exact ⟨_, rfl, k H2 l ds sm nl hl⟩
theorem ok__law_next (T : Txt K mg ad) : FnOk P w K mg base CX0 1 ad.a__law_next ad.d__law_next ["draws"] sp_next := by
  have nd := sc__law_next.nd
  refine T.F__law_next.ok sc__law_next (fun vs H Q E h => ?_) (fun cdv A outer s H vs Q E hr h => ?_)
  · first | (obtain ⟨_, rfl, _⟩ := h; rfl) | (obtain ⟨_, _, rfl, _⟩ := h; rfl) | (obtain ⟨_, _, _, rfl, _⟩ := h; rfl) | (obtain ⟨_, _, _, _, rfl, _⟩ := h; rfl) | (obtain ⟨_, _, _, _, _, rfl, _⟩ := h; rfl) | (obtain ⟨_, _, _, _, _, _, rfl, _⟩ := h; rfl) | (obtain ⟨_, _, _, _, _, _, _, rfl, _⟩ := h; rfl) | (obtain ⟨_, _, _, _, _, _, _, _, rfl, _⟩ := h; rfl)
  refine ⟨_, (pss_cons (ps_if (pt_truth (pv 0) (by intro _; rfl)) (pss_one (ps_ret (pe_bm0 PySem.F.plainAttrs_list PySem.F.slot_list_pop PySem.F.type_list_pop mt_pop (pv 0)))) pss_nil)
      (pss_one (ps_ret pe_int))), ?_⟩

  obtain ⟨l, ds, rfl, hl, k⟩ := h
  refine ⟨_, rfl, _, .inl ⟨_, sqL_of hl, rfl⟩, ?_⟩
  refine iteB (fun c => ?_) (fun c => ?_)
  · have hne : ds ≠ [] := by
      rintro rfl
      cases c
    have hlt : ds.length - 1 < ds.length := by
      have := List.length_pos_iff.mpr hne
      omega
    refine ⟨_, rfl, .inl ⟨rfl, _, sqL_of hl⟩, l, _, .int ds[ds.length - 1], rfl, rfl, hl, ?_, ?_⟩
    · rw [List.length_map, List.getElem?_map, List.getElem?_eq_getElem hlt]
      rfl
    · have := k ds[ds.length - 1] ds.dropLast
      rw [List.map_dropLast] at this
      exact this
  · have := k 0 ds
    rw [upd_id hl] at this
    exact this
theorem ok_law (T : Txt K mg ad) : FnAt callerA P w K mg base CX0 ad.a_law ad.d_law ["script"] (spLaw K) := by
  have nd := sc_law.nd
  have G__law_draws := ok__law_draws (P := P) (w := w) (base := base) T
  have b__law_draws := T.b__law_draws
  have G__law_told := ok__law_told (P := P) (w := w) (base := base) T
  have b__law_told := T.b__law_told
  have G_turned_signs := ok_turned_signs (P := P) (w := w) (base := base) T
  have b_turned_signs := T.b_turned_signs
  have G__law_product := ok__law_product (P := P) (w := w) (base := base) T
  have b__law_product := T.b__law_product
  have G__law_put := ok__law_put (P := P) (w := w) (base := base) T
  have b__law_put := T.b__law_put
  have G__law_next := ok__law_next (P := P) (w := w) (base := base) T
  have b__law_next := T.b__law_next
  refine fnAt_mk (k := 6) T.F_law sc_law ⟨rfl, by decide, by decide⟩ (fun vs H Q E h => ?_) (fun cdv outer s H vs Q E hr h => ?_)
  · first | (obtain ⟨_, rfl, _⟩ := h; rfl) | (obtain ⟨_, _, rfl, _⟩ := h; rfl) | (obtain ⟨_, _, _, rfl, _⟩ := h; rfl) | (obtain ⟨_, _, _, _, rfl, _⟩ := h; rfl) | (obtain ⟨_, _, _, _, _, rfl, _⟩ := h; rfl) | (obtain ⟨_, _, _, _, _, _, rfl, _⟩ := h; rfl) | (obtain ⟨_, _, _, _, _, _, _, rfl, _⟩ := h; rfl) | (obtain ⟨_, _, _, _, _, _, _, _, rfl, _⟩ := h; rfl)
  have hu6 := hu64 hr
  have hu1 := hu100 hr
  have hgd : (callerA.deeper (envOfC "law" (defScope st_law) s.heap.objs.size ad.a_law cdv)).guards = some [] := rfl
  refine ⟨_, (pss_cons (ps_set (i := 1) nd rfl (Or.inr rfl) (pe_call G__law_draws (hr.mono (by decide)) rfl T.g__law_draws T.k__law_draws b__law_draws .nil pass0 (pa_cons (pv 0) pa_nil)))
      (pss_cons (ps_expr (pe_bm0 PySem.F.plainAttrs_list PySem.F.slot_list_reverse PySem.F.type_list_reverse mt_reverse (pv 1)))
      (pss_cons (ps_set (i := 2) nd rfl (Or.inl rfl) (pe_op op_add pe_int (pe_op op_mod (pe_callTy call_int1 (by rfl) T.m_int (by decide +kernel) (pa_cons (pe_call G__law_next (hr.mono (by decide)) rfl T.g__law_next T.k__law_next b__law_next .nil pass0 (pa_cons (pv 1) pa_nil)) pa_nil)) pe_int)))
      (Evl.pss_cut (ps_if (PW.pt (pw_and (pt_cmpR op_gt (pv 2) pe_int (nomark _)) (pw_and1 (pt_cmpR op_gt (pe_op op_mod (pe_callTy call_int1 (by rfl) T.m_int (by decide +kernel) (pa_cons (pe_call G__law_next (hr.mono (by decide)) rfl T.g__law_next T.k__law_next b__law_next .nil pass0 (pa_cons (pv 1) pa_nil)) pa_nil)) pe_int) pe_int (nomark _))))) (pss_one (ps_set (i := 2) nd rfl (Or.inl rfl) pe_int)) pss_nil)
      (pss_cons (ps_set (i := 3) nd rfl (Or.inr rfl) (pe_lc (own := [("j", 10)]) (g := gName 10) (by rfl) nd (pi_range1 (by rfl) T.m_range (pa_cons (pv 2) pa_nil)) (blkOk_by (own := [("j", 10)]) (N := sl_law) (sc := defScope st_law) (by decide +kernel)) (fun _ _ _ _ _ => pg_name (i := 10) nd rfl (Or.inl rfl)) (fun _ _ _ _ _ => pts_nil) (fun _ _ _ _ _ => (pe_op op_sub (pe_op op_mod (pe_callTy call_int1 (by rfl) T.m_int (by decide +kernel) (pa_cons (pe_call G__law_next (hr.mono (by decide)) rfl T.g__law_next T.k__law_next b__law_next .nil pass0 (pa_cons (pv 1) pa_nil)) pa_nil)) pe_int) pe_int))))
      (pss_cons (ps_set (i := 4) nd rfl (Or.inr rfl) (pe_lc (own := [("j", 10)]) (g := gName 10) (by rfl) nd (pi_range1 (by rfl) T.m_range (pa_cons (pv 2) pa_nil)) (blkOk_by (own := [("j", 10)]) (N := sl_law) (sc := defScope st_law) (by decide +kernel)) (fun _ _ _ _ _ => pg_name (i := 10) nd rfl (Or.inl rfl)) (fun _ _ _ _ _ => pts_nil) (fun _ _ _ _ _ => (pe_op op_sub (pe_op op_mod (pe_callTy call_int1 (by rfl) T.m_int (by decide +kernel) (pa_cons (pe_call G__law_next (hr.mono (by decide)) rfl T.g__law_next T.k__law_next b__law_next .nil pass0 (pa_cons (pv 1) pa_nil)) pa_nil)) pe_int) pe_int))))
      (Evl.pss_cut (ps_if (pt_cmpR op_eq (pe_op op_mod (pe_callTy call_int1 (by rfl) T.m_int (by decide +kernel) (pa_cons (pe_call G__law_next (hr.mono (by decide)) rfl T.g__law_next T.k__law_next b__law_next .nil pass0 (pa_cons (pv 1) pa_nil)) pa_nil)) pe_int) pe_int (nomark _)) (pss_one (ps_asg (pe_op op_sub pe_int (pe_op op_mul pe_int (pe_op op_mod (pe_callTy call_int1 (by rfl) T.m_int (by decide +kernel) (pa_cons (pe_call G__law_next (hr.mono (by decide)) rfl T.g__law_next T.k__law_next b__law_next .nil pass0 (pa_cons (pv 1) pa_nil)) pa_nil)) pe_int))) (pg_sub (pv 4) pe_int set_list))) pss_nil)
      (pss_cons (ps_set (i := 5) nd rfl (Or.inr rfl) (pe_lst (pa_cons (pe_callTy call_list_of (by rfl) T.m_list (by decide +kernel) (pa_cons (pv 3) pa_nil)) (pa_cons (pe_callTy call_list_of (by rfl) T.m_list (by decide +kernel) (pa_cons (pv 4) pa_nil)) pa_nil))))
      (pss_cons (ps_set (i := 6) nd rfl (Or.inl rfl) (pe_lst (pa_cons (pe_lc (own := [("j", 10)]) (g := gName 10) (by rfl) nd (pi_range1 (by rfl) T.m_range (pa_cons (pv 2) pa_nil)) (blkOk_by (own := [("j", 10)]) (N := sl_law) (sc := defScope st_law) (by decide +kernel)) (fun _ _ _ _ _ => pg_name (i := 10) nd rfl (Or.inl rfl)) (fun _ _ _ _ _ => pts_nil) (fun _ _ _ _ _ => (pe_op op_add (pe_ix (Gw.ix_listK (K := K) rfl) (pv 3) (pv 10) (fun _ _ => rfl)) (pe_ix (Gw.ix_listK (K := K) rfl) (pv 4) (pv 10) (fun _ _ => rfl))))) pa_nil)))
      (pss_cons (ps_expr (pe_bm PySem.F.plainAttrs_list PySem.F.slot_list_append PySem.F.type_list_append mt_append (pv 6) (pa_cons (pe_slice sl_list (pe_call G__law_product (hr.mono (by decide)) rfl T.g__law_product T.k__law_product b__law_product .nil pass0 (pa_cons (pe_op op_cat (pe_lst (pa_cons pe_int pa_nil)) (pv 3)) (pa_cons (pe_op op_cat (pe_lst (pa_cons pe_int pa_nil)) (pv 4)) (pa_cons (pv 2) pa_nil)))) (po_some pe_int) po_none) pa_nil)))
      (Evl.pss_cut (ps_expr (pe_bm PySem.F.plainAttrs_list PySem.F.slot_list_append PySem.F.type_list_append mt_append (pv 6) (pa_cons (pe_slice sl_list (pe_call G__law_put (hr.mono (by decide)) rfl T.g__law_put T.k__law_put b__law_put .nil pass0 (pa_cons (pe_op op_cat (pe_lst (pa_cons pe_int pa_nil)) (pv 3)) (pa_cons (pe_op op_cat (pe_lst (pa_cons pe_int pa_nil)) (pv 4)) (pa_cons (pv 2) pa_nil)))) (po_some pe_int) po_none) pa_nil)))
      (Evl.pss_cut (ps_if (PW.pt (pw_or (pt_cmpR op_ne (pe_callB (Gw.cr_repr hgd hu1) (by rfl) T.m_repr (by decide +kernel) (pa_cons (pe_lc (own := [("way", 7)]) (g := gName 7) (by rfl) nd (pi_range1 (by rfl) T.m_range (pa_cons pe_int pa_nil)) (blkOk_by (own := [("way", 7)]) (N := sl_law) (sc := defScope st_law) (by decide +kernel)) (fun _ _ _ _ _ => pg_name (i := 7) nd rfl (Or.inl rfl)) (fun _ _ _ _ _ => pts_nil) (fun _ _ _ _ _ => (pe_call G__law_told (hr.mono (by decide)) rfl T.g__law_told T.k__law_told b__law_told .nil pass0 (pa_cons (pv 7) (pa_cons (pe_ix (Gw.ix_listK (K := K) rfl) (pv 5) pe_int (fun _ _ => rfl)) (pa_cons (pe_ix (Gw.ix_listK (K := K) rfl) (pv 5) pe_int (fun _ _ => rfl)) pa_nil)))))) pa_nil)) (pe_callB (Gw.cr_repr hgd hu1) (by rfl) T.m_repr (by decide +kernel) (pa_cons (pv 6) pa_nil)) (nomark _)) (pw_or1 (pt_cmpR (op_neD hu6) (pv 5) (pe_lst (pa_cons (pv 3) (pa_cons (pv 4) pa_nil))) (nomark _))))) (pss_one (ps_ret pe_bl)) pss_nil)
      (Evl.pss_cut (ps_if (pt_cmpR (op_neD hu6) (pe_call G_turned_signs (hr.mono (by decide)) rfl T.g_turned_signs T.k_turned_signs b_turned_signs .nil passL (pa_cons (pe_callTy call_list_of (by rfl) T.m_list (by decide +kernel) (pa_cons (pv 3) pa_nil)) pa_nil)) (pe_lc (own := [("j", 10)]) (g := gName 10) (by rfl) nd (pi_range1 (by rfl) T.m_range (pa_cons (pv 2) pa_nil)) (blkOk_by (own := [("j", 10)]) (N := sl_law) (sc := defScope st_law) (by decide +kernel)) (fun _ _ _ _ _ => pg_name (i := 10) nd rfl (Or.inl rfl)) (fun _ _ _ _ _ => pts_nil) (fun _ _ _ _ _ => (pe_op op_mul (pe_ix (Gw.ix_listK (K := K) rfl) (pv 3) (pv 10) (fun _ _ => rfl)) (pe_op op_sub pe_int (pe_op op_mul pe_int (pe_op op_mod (pv 10) pe_int)))))) (nomark _)) (pss_one (ps_ret pe_bl)) pss_nil)
      (pss_cons (ps_set (i := 8) nd rfl (Or.inl rfl) (pe_op op_cat (pe_lst (pa_cons pe_int (pa_cons pe_int pa_nil))) (pe_op op_rep (pe_lst (pa_cons pe_int pa_nil)) (pe_op op_sub (pv 2) pe_int))))
      (Evl.pss_cut (ps_set (i := 9) nd rfl (Or.inl rfl) (pe_call G__law_told (hr.mono (by decide)) rfl T.g__law_told T.k__law_told b__law_told .nil pass0 (pa_cons pe_int (pa_cons (pe_callTy call_list_of (by rfl) T.m_list (by decide +kernel) (pa_cons (pv 4) pa_nil)) (pa_cons pe_non pa_nil)))))
      (Evl.pss_cut (ps_if (pt_cmpR op_notIn_seq (pe_ix ix_list (pv 4) pe_int (fun _ _ => rfl)) (pe_lst (pa_cons pe_int (pa_cons (pe_un un_neg pe_int) pa_nil))) (by rfl)) (pss_one (ps_if (pt_cmpR (op_neD hu6) (pv 9) pe_str (nomark _)) (pss_one (ps_ret pe_bl)) pss_nil)) (pss_one (ps_if (PW.pt (pw_or (pt_cmpR (op_neD hu6) (pe_call G__law_put (hr.mono (by decide)) rfl T.g__law_put T.k__law_put b__law_put .nil pass0 (pa_cons (pe_op op_cat (pe_lst (pa_cons pe_int pa_nil)) (pv 4)) (pa_cons (pe_op op_cat (pe_lst (pa_cons pe_int pa_nil)) (pv 9)) (pa_cons (pv 2) pa_nil)))) (pv 8) (nomark _)) (pw_or1 (pt_cmpR (op_neD hu6) (pe_call G__law_put (hr.mono (by decide)) rfl T.g__law_put T.k__law_put b__law_put .nil pass0 (pa_cons (pe_op op_cat (pe_lst (pa_cons pe_int pa_nil)) (pv 9)) (pa_cons (pe_op op_cat (pe_lst (pa_cons pe_int pa_nil)) (pv 4)) (pa_cons (pv 2) pa_nil)))) (pv 8) (nomark _))))) (pss_one (ps_ret pe_bl)) pss_nil)))
      (pss_cons (ps_for (passes_of rfl) rfl (pi_range1 (by rfl) T.m_range (pa_cons pe_int pa_nil)) (pg_name (i := 7) nd rfl (Or.inl rfl))
      (pss_one (ps_if (PW.pt (pw_or (pt_cmpR (op_neD hu6) (pe_call G__law_told (hr.mono (by decide)) rfl T.g__law_told T.k__law_told b__law_told .nil pass0 (pa_cons (pv 7) (pa_cons (pe_lst pa_nil) (pa_cons (pe_lst pa_nil) pa_nil)))) pe_str (nomark _)) (pw_or1 (pt_cmpR (op_neD hu6) (pe_call G__law_told (hr.mono (by decide)) rfl T.g__law_told T.k__law_told b__law_told .nil pass0 (pa_cons (pv 7) (pa_cons (pe_op op_rep (pe_lst (pa_cons pe_int pa_nil)) pe_int) (pa_cons (pe_op op_rep (pe_lst (pa_cons pe_int pa_nil)) pe_int) pa_nil)))) pe_str (nomark _))))) (pss_one (ps_ret pe_bl)) pss_nil)))
      (pss_one (ps_ret (pe_callB (cr_all rfl) (by rfl) T.m_all (by decide +kernel) (pa_cons (pe_lc (own := [("way", 7)]) (g := gName 7) (by rfl) nd (pi_range1 (by rfl) T.m_range (pa_cons pe_int pa_nil)) (blkOk_by (own := [("way", 7)]) (N := sl_law) (sc := defScope st_law) (by decide +kernel)) (fun _ _ _ _ _ => pg_name (i := 7) nd rfl (Or.inl rfl)) (fun _ _ _ _ _ => pts_nil) (fun _ _ _ _ _ => (pe_cmpR (Gw.op_eqDK (K := K) rfl hu6) (pe_call G__law_told (hr.mono (by decide)) rfl T.g__law_told T.k__law_told b__law_told .nil pass0 (pa_cons (pv 7) (pa_cons (pv 3) (pa_cons (pe_op op_cat (pv 4) (pe_lst (pa_cons pe_int pa_nil))) pa_nil)))) pe_str (nomark _)))) pa_nil))))))))))))))))))))), ?_⟩

  obtain ⟨a0, ns, rfl, hS, hl, k⟩ := h
  refine ⟨_, rfl, a0, ns, rfl, hS, hl, fun H0 l e0 s1 nl hl0 => ?_⟩
  -- draws.reverse()
  refine ⟨_, rfl, .inl ⟨rfl, _, sqL_of hl0⟩, l, _, rfl, rfl, hl0, ?_⟩
  have hl1 : (upd H0 l (.lst (e0.map V.int).reverse)) l = some (.lst (e0.reverse.map V.int)) := by rw [upd_same, List.map_reverse]
  revert hl1; generalize upd H0 l (.lst (e0.map V.int).reverse) = H1; generalize e0.reverse = e0'; intro hl1
  clear s1 nl hl0 hS hl
  -- many
  refine ⟨_, rfl, l, _, rfl, hl1, fun d1 e1 => .inl ⟨_, rfl, _, _, rfl, rfl, by show (0 : Int) < 12; decide, _, _, rfl, rfl, ?_⟩⟩
  have D1 := emod3 d1 (m := 12) (by decide)
  have hl2 : (upd H1 l (.lst (e1.map V.int))) l = some (.lst (e1.map V.int)) := upd_same
  revert hl2; generalize upd H1 l (.lst (e1.map V.int)) = H2; intro hl2
  refine ⟨fun σ H' => ∃ (n : Nat) (es : List Int), σ = [some (.ref a0), some (.ref l), some (.int (n : Int)), none, none, none, none, none, none, none, none] ∧ H' l = some (.lst (es.map V.int)) ∧ 1 ≤ n ∧ n ≤ 12, ?_, ?_⟩
  · have e12 : (1 : Int) + d1 % 12 = ((Int.toNat (1 + d1 % 12) : Nat) : Int) := by omega
    refine ⟨_, rfl, _, _, rfl, rfl, _, rfl, ?_⟩
    refine iteB (fun c => ?_) (fun c => ?_)
    · skip
      refine ⟨_, rfl, l, _, rfl, hl2, fun d2 e2 => .inl ⟨_, rfl, _, _, rfl, rfl, by show (0 : Int) < 3; decide, _, _, rfl, rfl, _, rfl, ?_⟩⟩
      have D2 := emod3 d2 (m := 3) (by decide)
      have hl3 : (upd H2 l (.lst (e2.map V.int))) l = some (.lst (e2.map V.int)) := upd_same
      revert hl3; generalize upd H2 l (.lst (e2.map V.int)) = H3; intro hl3
      refine iteB (fun c2 => ?_) (fun c2 => ?_)
      · exact ⟨5, _, rfl, hl3, by decide, by decide⟩
      · exact ⟨_, _, by rw [← e12]; rfl, hl3, by omega, by omega⟩
    · exact ⟨_, _, by rw [← e12]; rfl, hl2, by omega, by omega⟩
  clear hl1 hl2 D1
  rintro σ H1 ⟨n, e2, rfl, hl1, n1, n12⟩
  -- one
  refine rd_seq ?_
  refine rd_asg (lc_draw (K := K) (l := l) (n := n) (fun _ d => ∃ z : Int, d = PyData.int z ∧ z.natAbs ≤ 4) (by omega) hl1 ?_ ?_ ?_ ?_)
  · exact fun Q' q => ⟨_, rfl, q⟩
  · intro x; rfl
  · intro i H3 es Q' hi b3 hl3 k3
    refine ⟨_, rfl, l, _, rfl, hl3, fun d4 e4 => .inl ⟨_, rfl, _, _, rfl, rfl, by show (0 : Int) < 9; decide, _, _, rfl, rfl, ?_⟩⟩
    have D4 := emod3 d4 (m := 9) (by decide)
    exact k3 _ _ noH _ e4 (But.refl _ _).upd upd_same (noH_in _) (noH_off _) ⟨d4 % 9 - 4, rfl, by omega⟩ (.int _)
  intro D1 H3 F1 xs ds e3 nD1 b3 hD1 hl3 f1 f2 f3 dx dl hg
  obtain ⟨zs, rfl, lz, hf⟩ := dpAll_ints dx hg
  rw [tv_of, lz, dl] at hD1
  rw [lz, dl] at hf
  obtain ⟨f, hD1, hf⟩ : ∃ f : Nat → Int, H3 D1 = some (.lst (tv n f)) ∧ ∀ i, i < n → (f i).natAbs ≤ 4 := ⟨_, hD1, hf⟩
  have lD1 : l ≠ D1 := ne_of_none hl1 nD1
  clear f1 f2 f3 dx dl hg lz b3 hl1 nD1
  -- other
  refine rd_name ?_
  dsimp only
  refine rd_seq ?_
  refine rd_asg (lc_draw (K := K) (l := l) (n := n) (fun _ d => ∃ z : Int, d = PyData.int z ∧ z.natAbs ≤ 4) (by omega) hl3 ?_ ?_ ?_ ?_)
  · exact fun Q' q => ⟨_, rfl, q⟩
  · intro x; rfl
  · intro i H4 es Q' hi b3 hl4 k3
    refine ⟨_, rfl, l, _, rfl, hl4, fun d4 e4 => .inl ⟨_, rfl, _, _, rfl, rfl, by show (0 : Int) < 7; decide, _, _, rfl, rfl, ?_⟩⟩
    have D4 := emod3 d4 (m := 7) (by decide)
    exact k3 _ _ noH _ e4 (But.refl _ _).upd upd_same (noH_in _) (noH_off _) ⟨d4 % 7 - 3, rfl, by omega⟩ (.int _)
  intro D2 H5 F2 xs ds e5 nD2 b5 hD2 hl5 f1 f2 f3 dx dl hg
  obtain ⟨zs2, rfl, lz, hg⟩ := dpAll_ints dx hg
  rw [tv_of, lz, dl] at hD2
  rw [lz, dl] at hg
  obtain ⟨g, hD2, hg⟩ : ∃ g : Nat → Int, H5 D2 = some (.lst (tv n g)) ∧ ∀ i, i < n → (g i).natAbs ≤ 4 := ⟨_, hD2, hg⟩
  have lD2 : l ≠ D2 := ne_of_none hl3 nD2
  have D12 : D1 ≠ D2 := ne_of_none hD1 nD2
  have hD1 := b5 D1 _ (Ne.symm lD1) hD1
  clear f1 f2 f3 dx dl lz b5 hl3 nD2
  refine rd_name ?_
  -- other[0]
  refine ⟨fun σ H' => ∃ g : Nat → Int, σ = [some (.ref a0), some (.ref l), some (.int (n : Int)), some (.ref D1), some (.ref D2), none, none, none, none, none, none] ∧ H' D1 = some (.lst (tv n f)) ∧ H' D2 = some (.lst (tv n g)) ∧ ∀ i, i < n → (g i).natAbs ≤ 4, ?_, ?_⟩
  · refine ⟨_, rfl, l, _, rfl, hl5, fun d7 e7 => .inl ⟨_, rfl, _, _, rfl, rfl, by show (0 : Int) < 2; decide, rfl, _, rfl, ?_⟩⟩
    refine iteB (fun c => ?_) (fun c => ?_)
    · refine ⟨_, rfl, l, _, rfl, upd_same, fun d8 e8 => .inl ⟨_, rfl, _, _, rfl, rfl, by show (0 : Int) < 2; decide, _, _, rfl, rfl, .inl ⟨by decide, by decide⟩, _, _, rfl, rfl, _, rfl, D2, _, 0, 0, rfl, rfl, (by rw [upd_ne (Ne.symm lD2), upd_ne (Ne.symm lD2)]; exact hD2), tv_ixN (i := 0) g (by omega), ?_⟩⟩
      have m := emod3 d8 (m := 2) (by decide)
      refine ⟨fun i => if i = 0 then 1 - 2 * (d8 % 2) else g i, rfl, ?_, ?_, fun i hi => ?_⟩
      · rw [upd_ne D12, upd_ne (Ne.symm lD1), upd_ne (Ne.symm lD1)]
        exact hD1
      · rw [upd_same]
        exact congrArg (fun l => some (HO.lst l)) (tv_set _ _ (by omega))
      · show (if i = 0 then 1 - 2 * (d8 % 2) else g i).natAbs ≤ 4
        split
        · omega
        · exact hg i hi
    · exact ⟨g, rfl, by rw [upd_ne (Ne.symm lD1)]; exact hD1, by rw [upd_ne (Ne.symm lD2)]; exact hD2, hg⟩
  clear hD1 hD2 hl5 hg g
  rintro σ H0 ⟨g, rfl, hD1, hD2, hg⟩
  -- passed
  refine ⟨_, rfl, D1, _, rfl, .inl (sqL_of hD1), fun p1 np1 => ⟨_, rfl, D2, _, rfl, .inl (sqL_of ((same_new np1) _ _ hD2)), fun p2 np2 => ⟨by show 2 ≤ sizeLine; decide, fun pp npp => ?_⟩⟩⟩
  have s1 : Same (upd H0 p1 (.lst (tv n f))) (upd (upd (upd H0 p1 (.lst (tv n f))) p2 (.lst (tv n g))) pp (.lst [.ref p1, .ref p2])) := (same_new np2).trans (same_new npp)
  have hD1 := s1 _ _ ((same_new np1) _ _ hD1)
  have hD2 := s1 _ _ ((same_new np1) _ _ hD2)
  have hp1 := s1 p1 (.lst (tv n f)) upd_same
  have hp2 := (same_new (o := .lst [.ref p1, .ref p2]) npp) p2 (.lst (tv n g)) upd_same
  have hpp : (upd (upd (upd H0 p1 (.lst (tv n f))) p2 (.lst (tv n g))) pp (.lst [.ref p1, .ref p2])) pp = some (.lst [.ref p1, .ref p2]) := upd_same
  clear s1
  revert hD1 hD2 hp1 hp2 hpp
  generalize upd (upd (upd H0 p1 (.lst (tv n f))) p2 (.lst (tv n g))) pp (.lst [.ref p1, .ref p2]) = H1
  intro hD1 hD2 hp1 hp2 hpp
  -- due
  refine rd_name ?_
  dsimp only
  refine rd_seq ?_
  refine ⟨_, rfl, _, rfl, by omega, by omega, fun D3 nD3 => ?_⟩
  refine lc_it (walk_range (lo := 0) (n := Int.toNat (n : Int))) (fun i H' => Same H1 H' ∧ H' D3 = some (.lst (tv i (fun i => f i + g i)))) ⟨same_new nD3, upd_same⟩ (fun _ _ _ _ => trivial) ?_ (fun H2 q2 => ?_)
  · rintro i x H6 H7 hi ⟨s6, hD⟩ ⟨rfl, rfl⟩
    have hi : i < n := by omega
    have ei : (0 : Int) + (i : Int) = (i : Int) := Int.zero_add _
    show gName 10 (V.int ((0 : Int) + (i : Int))) _ _ _
    rw [ei]
    refine ⟨rfl, ?_⟩
    refine yes_do ?_
    refine ⟨_, rfl, _, rfl, D1, _, _, _, rfl, rfl, sqL_of (s6 _ _ hD1), tv_at _ hi, _, rfl, _, rfl, D2, _, _, _, rfl, rfl, sqL_of (s6 _ _ hD2), tv_at _ hi, _, _, rfl, rfl, ?_⟩
    refine ⟨_, hD, lt_line (by rw [tv_len]; omega), fun c o e => ?_, ?_⟩
    · rw [upd_ne (ne_of_none e nD3)]
      exact s6 _ _ e
    · rw [upd_same]
      exact congrArg (fun l => some (HO.lst l)) (tv_snoc i (fun i => f i + g i))
  obtain ⟨s2, hD3⟩ := q2
  rw [Int.toNat_natCast] at hD3
  refine ⟨by show 1 ≤ sizeLine; decide, fun dd ndd => ?_⟩
  have s3 := s2.trans (same_new (o := .lst [.ref D3]) ndd)
  have hD3' := (same_new (o := .lst [.ref D3]) ndd) _ _ hD3
  have hdd : (upd H2 dd (.lst [.ref D3])) dd = some (.lst [.ref D3]) := upd_same
  have x1 : D1 ≠ dd := ne_of_none (s2 _ _ hD1) ndd
  have x2 : D2 ≠ dd := ne_of_none (s2 _ _ hD2) ndd
  have x3 : p1 ≠ dd := ne_of_none (s2 _ _ hp1) ndd
  have x4 : p2 ≠ dd := ne_of_none (s2 _ _ hp2) ndd
  have x5 : pp ≠ dd := ne_of_none (s2 _ _ hpp) ndd
  have x6 : D3 ≠ dd := ne_of_none hD3 ndd
  have hD3 := hD3'
  clear hD3'
  revert s3 hD3 hdd
  generalize upd H2 dd (.lst [.ref D3]) = H3
  intro s3 hdd hD3
  have hD1 := s3 _ _ hD1
  have hD2 := s3 _ _ hD2
  have hp1 := s3 _ _ hp1
  have hp2 := s3 _ _ hp2
  have hpp := s3 _ _ hpp
  clear s2 s3 nD3 ndd
  refine rd_name ?_
  dsimp only
  -- due.append: the product
  refine ⟨_, rfl, .inl ⟨rfl, _, sqL_of hdd⟩, ?_⟩
  refine ⟨by show 1 ≤ sizeLine; decide, fun q1 nq1 => ⟨_, rfl, q1, D1, _, _, rfl, rfl, upd_same, (same_new nq1) _ _ hD1, le_line (by rw [tv_len]; simp; omega), fun a1 na1 => ?_⟩⟩
  have s4 : Same H3 (upd (upd H3 q1 (.lst [V.int 0])) a1 (.lst ([V.int 0] ++ tv n f))) := (same_new nq1).trans (same_new na1)
  have ha1 : (upd (upd H3 q1 (.lst [V.int 0])) a1 (.lst ([V.int 0] ++ tv n f))) a1 = some (.lst (tv (n + 1) (lift f))) := by rw [upd_same, tv_lift]
  revert s4 ha1
  generalize upd (upd H3 q1 (.lst [V.int 0])) a1 (.lst ([V.int 0] ++ tv n f)) = H4
  intro s4 ha1
  refine ⟨by show 1 ≤ sizeLine; decide, fun q2 nq2 => ⟨_, rfl, q2, D2, _, _, rfl, rfl, upd_same, (same_new nq2) _ _ (s4 _ _ hD2), le_line (by rw [tv_len]; simp; omega), fun a2 na2 => ?_⟩⟩
  have s5 : Same H4 (upd (upd H4 q2 (.lst [V.int 0])) a2 (.lst ([V.int 0] ++ tv n g))) := (same_new nq2).trans (same_new na2)
  have ha2 : (upd (upd H4 q2 (.lst [V.int 0])) a2 (.lst ([V.int 0] ++ tv n g))) a2 = some (.lst (tv (n + 1) (lift g))) := by rw [upd_same, tv_lift]
  revert s5 ha2
  generalize upd (upd H4 q2 (.lst [V.int 0])) a2 (.lst ([V.int 0] ++ tv n g)) = H5
  intro s5 ha2
  refine ⟨_, rfl, a1, a2, n, lift f, lift g, rfl, sqL_of (s5 _ _ ha1), sqL_of ha2, n12, cms_lift hf hg, fun t H6 s6 nt ht => ?_⟩
  refine ⟨_, rfl, t, _, rfl, sqL_of ht, fun u nu => ?_⟩
  have s7 := (s4.trans s5).trans (s6.trans (same_new (o := .lst (cutV (tv (n + 1) (smul (lift f) (lift g))) (some 1) none)) nu))
  have hu : (upd H6 u (.lst (cutV (tv (n + 1) (smul (lift f) (lift g))) (some 1) none))) u = some (.lst (tv n (mulF f g))) := by rw [upd_same, cut_tv]; rfl
  refine ⟨dd, _, _, rfl, rfl, s7 _ _ hdd, by show 1 < sizeLine; decide, ?_⟩
  have x7 : u ≠ dd := Ne.symm (ne_of_none ((s4.trans (s5.trans s6)) _ _ hdd) nu)
  have hD1 := s7 _ _ hD1
  have hD2 := s7 _ _ hD2
  have hp1 := s7 _ _ hp1
  have hp2 := s7 _ _ hp2
  have hpp := s7 _ _ hpp
  have hD3 := s7 _ _ hD3
  clear s7 s4 s5 s6 hdd ha1 ha2 ht
  revert hD1 hD2 hp1 hp2 hpp hD3 hu
  generalize upd H6 u _ = H7
  intro hu hD1 hD2 hp1 hp2 hpp hD3
  have hdd : (upd H7 dd (.lst ([.ref D3] ++ [.ref u]))) dd = some (.lst [.ref D3, .ref u]) := upd_same
  have hD1 : (upd H7 dd (.lst ([.ref D3] ++ [.ref u]))) D1 = _ := (upd_ne x1).trans hD1
  have hD2 : (upd H7 dd (.lst ([.ref D3] ++ [.ref u]))) D2 = _ := (upd_ne x2).trans hD2
  have hp1 : (upd H7 dd (.lst ([.ref D3] ++ [.ref u]))) p1 = _ := (upd_ne x3).trans hp1
  have hp2 : (upd H7 dd (.lst ([.ref D3] ++ [.ref u]))) p2 = _ := (upd_ne x4).trans hp2
  have hpp : (upd H7 dd (.lst ([.ref D3] ++ [.ref u]))) pp = _ := (upd_ne x5).trans hpp
  have hD3 : (upd H7 dd (.lst ([.ref D3] ++ [.ref u]))) D3 = _ := (upd_ne x6).trans hD3
  have hu : (upd H7 dd (.lst ([.ref D3] ++ [.ref u]))) u = _ := (upd_ne x7).trans hu
  revert hD1 hD2 hp1 hp2 hpp hD3 hu hdd
  generalize upd H7 dd _ = H3
  intro hdd hD1 hD2 hp1 hp2 hpp hD3 hu
  -- due.append: one put into the other
  refine ⟨fun σ H' => σ = [some (.ref a0), some (.ref l), some (.int (n : Int)), some (.ref D1), some (.ref D2), some (.ref pp), some (.ref dd), none, none, none, none] ∧ H' D1 = some (.lst (tv n f)) ∧ H' D2 = some (.lst (tv n g)) ∧ H' p1 = some (.lst (tv n f)) ∧ H' p2 = some (.lst (tv n g)) ∧
    H' pp = some (.lst [.ref p1, .ref p2]) ∧ ∃ t2 : Addr, H' dd = some (.lst [.ref D3, .ref u, .ref t2]) ∧ H' D3 = some (.lst (tv n (fun i => f i + g i))) ∧ H' u = some (.lst (tv n (mulF f g))) ∧ H' t2 = some (.lst (tv n (putF n f g))), ?_, ?_⟩
  · refine ⟨_, rfl, .inl ⟨rfl, _, sqL_of hdd⟩, ?_⟩
    refine ⟨by show 1 ≤ sizeLine; decide, fun q1 nq1 => ⟨_, rfl, q1, D1, _, _, rfl, rfl, upd_same, (same_new nq1) _ _ hD1, le_line (by rw [tv_len]; simp; omega), fun a1 na1 => ?_⟩⟩
    have s4 : Same H3 (upd (upd H3 q1 (.lst [V.int 0])) a1 (.lst ([V.int 0] ++ tv n f))) := (same_new nq1).trans (same_new na1)
    have ha1 : (upd (upd H3 q1 (.lst [V.int 0])) a1 (.lst ([V.int 0] ++ tv n f))) a1 = some (.lst (tv (n + 1) (lift f))) := by rw [upd_same, tv_lift]
    revert s4 ha1
    generalize upd (upd H3 q1 (.lst [V.int 0])) a1 (.lst ([V.int 0] ++ tv n f)) = H4
    intro s4 ha1
    refine ⟨by show 1 ≤ sizeLine; decide, fun q2 nq2 => ⟨_, rfl, q2, D2, _, _, rfl, rfl, upd_same, (same_new nq2) _ _ (s4 _ _ hD2), le_line (by rw [tv_len]; simp; omega), fun a2 na2 => ?_⟩⟩
    have s5 : Same H4 (upd (upd H4 q2 (.lst [V.int 0])) a2 (.lst ([V.int 0] ++ tv n g))) := (same_new nq2).trans (same_new na2)
    have ha2 : (upd (upd H4 q2 (.lst [V.int 0])) a2 (.lst ([V.int 0] ++ tv n g))) a2 = some (.lst (tv (n + 1) (lift g))) := by rw [upd_same, tv_lift]
    revert s5 ha2
    generalize upd (upd H4 q2 (.lst [V.int 0])) a2 (.lst ([V.int 0] ++ tv n g)) = H5
    intro s5 ha2
    refine ⟨_, rfl, a1, a2, n, lift f, lift g, rfl, sqL_of (s5 _ _ ha1), sqL_of ha2, n12, lift_zero f, slow_of (fun i hi => Nat.le_trans (hg i hi) (by decide)), fun i hi => lt500 (lift_le hf i (by omega)), fun t H6 s6 nt ht => ?_⟩
    refine ⟨_, rfl, t, _, rfl, sqL_of ht, fun v nv => ?_⟩
    have s7 := (s4.trans s5).trans (s6.trans (same_new (o := .lst (cutV (tv (n + 1) (psum (lift f) (lift g) (n + 1))) (some 1) none)) nv))
    have hv : (upd H6 v (.lst (cutV (tv (n + 1) (psum (lift f) (lift g) (n + 1))) (some 1) none))) v = some (.lst (tv n (putF n f g))) := by rw [upd_same, cut_tv]; rfl
    have x8 : v ≠ dd := Ne.symm (ne_of_none ((s4.trans (s5.trans s6)) _ _ hdd) nv)
    refine ⟨dd, _, _, rfl, rfl, s7 _ _ hdd, by show 2 < sizeLine; decide, ?_⟩
    refine ⟨rfl, (upd_ne x1).trans (s7 _ _ hD1), (upd_ne x2).trans (s7 _ _ hD2), (upd_ne x3).trans (s7 _ _ hp1), (upd_ne x4).trans (s7 _ _ hp2), (upd_ne x5).trans (s7 _ _ hpp), v, upd_same, (upd_ne x6).trans (s7 _ _ hD3), (upd_ne x7).trans (s7 _ _ hu), (upd_ne x8).trans hv⟩
  clear hD1 hD2 hp1 hp2 hpp hD3 hu hdd
  rintro σ H1 ⟨rfl, hD1, hD2, hp1, hp2, hpp, t2, hdd, hD3, hu, ht2⟩
  -- repr(..) != repr(due) or passed != [one, other]
  refine ⟨fun σ H' => σ = [some (.ref a0), some (.ref l), some (.int (n : Int)), some (.ref D1), some (.ref D2), some (.ref pp), some (.ref dd), none, none, none, none] ∧ H' D1 = some (.lst (tv n f)) ∧ H' D2 = some (.lst (tv n g)), ?_, ?_⟩
  · refine rd_test (rd_op (rd_cb (rd_cons (lc_data (K := K) (n := 3) (fun w => dL n (toldF (w : Int) n f g)) (by decide) ?_ ?_ ?_ ?_))))
    · exact fun Q' q => q
    · intro x; rfl
    · intro i H' Q' hi s' k'
      have et : toldT (i : Int) n n f = "" := by
        unfold toldT
        rw [if_pos (by omega), if_pos (by unfold terms; simp; omega)]
      refine ⟨_, rfl, _, rfl, pp, _, (0 : Int), _, rfl, rfl, sqL_of (s' _ _ hpp), rfl, _, rfl, pp, _, (1 : Int), _, rfl, rfl, sqL_of (s' _ _ hpp), rfl, ?_⟩
      exact ⟨(i : Int), p1, .ref p2, n, n, f, g, rfl, sqL_of (s' _ _ hp1), by omega, by omega, fun _ => ⟨p2, rfl, sqL_of (s' _ _ hp2)⟩, hf, hg, fun ne => absurd et ne, fun _ t H2 s2 nt ht => k' _ H2 _ s2 (one_at ht) (off_at nt) (dp_L (sqL_of upd_same))⟩
    intro D H12 G xs nD s12 hD g1 g2 g3 dx
    have nice := nice_due n12 hf hg
    have edx : (List.range 3).map (fun w : Nat => dL n (toldF (w : Int) n f g)) = [dL n (fun i => f i + g i), dL n (mulF f g), dL n (putF n f g)] := rfl
    rw [edx] at dx
    refine rd_nil (repr_rd (.lst (sqL_of hD) (dpAll_same g1 dx)) nice (by decide) ?_)
    refine ⟨_, rfl, ?_⟩
    refine rd_nil (repr_rd (.lst (sqL_of (s12 _ _ hdd)) (.cons (dp_L (sqL_of (s12 _ _ hD3))) (.cons (dp_L (sqL_of (s12 _ _ hu))) (.cons (dp_L (sqL_of (s12 _ _ ht2))) .nil)))) nice (by decide) ?_)
    refine ⟨rfl, _, rfl, ?_⟩
    rw [decide_eq_true rfl]
    refine iteF ?_
    refine ⟨_, rfl, _, rfl, _, rfl, by show 2 ≤ sizeLine; decide, fun q nq => ?_⟩
    refine ne_same (.lst (sqL_of ((same_new nq) _ _ (s12 _ _ hpp))) (.cons (dp_L (sqL_of ((same_new nq) _ _ (s12 _ _ hp1)))) (.cons (dp_L (sqL_of ((same_new nq) _ _ (s12 _ _ hp2)))) .nil)))
      (.lst (sqL_of upd_same) (.cons (dp_L (sqL_of ((same_new nq) _ _ (s12 _ _ hD1)))) (.cons (dp_L (sqL_of ((same_new nq) _ _ (s12 _ _ hD2)))) .nil))) rfl (shaped_LL n n f g) ?_
    refine ⟨_, rfl, ?_⟩
    refine iteF ?_
    exact ⟨rfl, (same_new nq) _ _ (s12 _ _ hD1), (same_new nq) _ _ (s12 _ _ hD2)⟩
  clear hD1 hD2 hp1 hp2 hpp hD3 hu hdd ht2 x1 x2 x3 x4 x5 x6 x7
  rintro σ H1 ⟨rfl, hD1, hD2⟩
  have tn1 : terms n = true := by unfold terms; simp; omega
  -- turned_signs
  refine ⟨fun σ H' => σ = [some (.ref a0), some (.ref l), some (.int (n : Int)), some (.ref D1), some (.ref D2), some (.ref pp), some (.ref dd), none, none, none, none] ∧ H' D1 = some (.lst (tv n f)) ∧ H' D2 = some (.lst (tv n g)), ?_, ?_⟩
  · refine ⟨_, rfl, D1, _, rfl, .inl (sqL_of hD1), fun c1 nc1 => ?_⟩
    refine ⟨c1, n, f, rfl, sqL_of upd_same, fun e => absurd (tn1.symm.trans e) (by decide), fun _ t H2 s2 nt ht => ?_⟩
    have s2 : Same H1 H2 := (same_new nc1).trans s2
    refine ⟨_, rfl, _, rfl, by omega, by omega, fun D3 nD3 => ?_⟩
    refine lc_it (walk_range (lo := 0) (n := Int.toNat (n : Int))) (fun i H' => Same H2 H' ∧ H' D3 = some (.lst (tv i (fun i => f i * (1 - 2 * ((i : Int) % 2)))))) ⟨same_new nD3, upd_same⟩ (fun _ _ _ _ => trivial) ?_ (fun H3 q3 => ?_)
    · rintro i x H6 H7 hi ⟨s6, hD⟩ ⟨rfl, rfl⟩
      have hi : i < n := by omega
      have ei : (0 : Int) + (i : Int) = (i : Int) := Int.zero_add _
      show gName 10 (V.int ((0 : Int) + (i : Int))) _ _ _
      rw [ei]
      refine ⟨rfl, ?_⟩
      refine yes_do ?_
      have hfi := hf i hi
      refine ⟨_, rfl, _, rfl, D1, _, _, _, rfl, rfl, sqL_of (s6 _ _ (s2 _ _ hD1)), tv_at _ hi, _, rfl, _, _, rfl, rfl, by show (0 : Int) < 2; decide, _, _, rfl, rfl, .inl ⟨by decide, by decide⟩, _, _, rfl, rfl, _, _, rfl, rfl, .inl ⟨by omega, by omega⟩, ?_⟩
      refine ⟨_, hD, lt_line (by rw [tv_len]; omega), fun c o e => ?_, ?_⟩
      · rw [upd_ne (ne_of_none e nD3)]
        exact s6 _ _ e
      · rw [upd_same]
        exact congrArg (fun l => some (HO.lst l)) (tv_snoc i (fun i => f i * (1 - 2 * ((i : Int) % 2))))
    obtain ⟨s3, hD3⟩ := q3
    rw [Int.toNat_natCast] at hD3
    refine ne_same (dp_L (sqL_of (s3 _ _ ht))) (dp_L (sqL_of hD3)) (dL_congr fun i hi => ?_) (shaped_L _ _) ?_
    · show (if i % 2 = 1 then -f i else f i) = f i * (1 - 2 * ((i : Int) % 2))
      by_cases e : i % 2 = 1
      · rw [if_pos e, show (i : Int) % 2 = 1 by omega]
        show -f i = f i * (-1)
        omega
      · rw [if_neg e, show (i : Int) % 2 = 0 by omega]
        show f i = f i * 1
        omega
    refine ⟨_, rfl, ?_⟩
    refine iteF ?_
    exact ⟨rfl, s3 _ _ (s2 _ _ hD1), s3 _ _ (s2 _ _ hD2)⟩
  clear hD1 hD2
  rintro σ H1 ⟨rfl, hD1, hD2⟩
  -- unit
  refine ⟨by show 2 ≤ sizeLine; decide, fun u1 nu1 => ⟨by show 1 ≤ sizeLine; decide, fun u2 nu2 => ⟨_, rfl, _, _, rfl, rfl, u2, _, _, rfl, rfl, upd_same, by omega, by omega, le_line (by simp; omega), fun u3 nu3 => ?_⟩⟩⟩
  have y12 : u1 ≠ u2 := ne_of_none upd_same nu2
  have y13 : u1 ≠ u3 := ne_of_none (by rw [upd_ne y12]; exact upd_same) nu3
  refine ⟨u1, u3, _, _, rfl, rfl, by rw [upd_ne y13, upd_ne y12]; exact upd_same, upd_same, le_line (by simp; omega), fun un nun => ?_⟩
  have su := ((same_new nu1).trans (same_new nu2)).trans ((same_new nu3).trans (same_new (o := .lst ([V.int 0, V.int 1] ++ (List.replicate (Int.toNat ((n : Int) - 1)) [V.int 0]).flatten)) nun))
  have hun : (upd (upd (upd (upd H1 u1 (.lst [V.int 0, V.int 1])) u2 (.lst [V.int 0])) u3 (.lst (List.replicate (Int.toNat ((n : Int) - 1)) [V.int 0]).flatten)) un (.lst ([V.int 0, V.int 1] ++ (List.replicate (Int.toNat ((n : Int) - 1)) [V.int 0]).flatten))) un = some (.lst (tv (n + 1) X1)) := by
    rw [upd_same, tv_rep, show Int.toNat ((n : Int) - 1) = n - 1 by omega]
    refine congrArg (fun l => some (HO.lst l)) (tv_ext ?_ fun i hi => ?_)
    · rw [List.length_append, tv_len]; show 2 + (n - 1) = n + 1; omega
    · match i, hi with
      | 0, _ => rfl
      | 1, _ => rfl
      | i + 2, hi =>
        rw [List.getElem?_append_right (by show 2 ≤ i + 2; omega), show i + 2 - [V.int 0, V.int 1].length = i from rfl, tv_get _ (by omega)]
        rfl
  have hD1 := su _ _ hD1
  have hD2 := su _ _ hD2
  clear su
  revert hD1 hD2 hun
  generalize upd (upd (upd (upd H1 u1 (.lst [V.int 0, V.int 1])) u2 (.lst [V.int 0])) u3 (.lst (List.replicate (Int.toNat ((n : Int) - 1)) [V.int 0]).flatten)) un (.lst ([V.int 0, V.int 1] ++ (List.replicate (Int.toNat ((n : Int) - 1)) [V.int 0]).flatten)) = H2
  intro hun hD1 hD2
  refine rd_name ?_
  dsimp only
  -- told
  refine ⟨fun σ H' => ∃ v : V, σ = [some (.ref a0), some (.ref l), some (.int (n : Int)), some (.ref D1), some (.ref D2), some (.ref pp), some (.ref dd), none, some (.ref un), some v, none] ∧ H' D1 = some (.lst (tv n f)) ∧ H' D2 = some (.lst (tv n g)) ∧ H' un = some (.lst (tv (n + 1) X1)) ∧
    ((v = .str "!n" ∧ g 0 ≠ 1 ∧ g 0 ≠ -1) ∨ ((g 0 = 1 ∨ g 0 = -1) ∧ ∃ t, v = .ref t ∧ H' t = some (.lst (tv n (fun i => inv (lift g) (i + 1)))))), ?_, ?_⟩
  · refine ⟨_, rfl, D2, _, rfl, .inl (sqL_of hD2), fun c2 nc2 => ?_⟩
    have sc := same_new (o := .lst (tv n g)) nc2
    refine ⟨3, c2, .non, n, 0, g, g, rfl, sqL_of upd_same, by decide, by decide, fun h => absurd h (by decide), hg, fun i hi => absurd hi (Nat.not_lt_zero _), fun ne H' s' => ?_, fun e t H' s' nt ht => ?_⟩
    · have s' : Same H2 H' := sc.trans s'
      by_cases c : g 0 ≠ 1 ∧ g 0 ≠ -1
      · have et : toldT 3 n 0 g = "!n" := by
          unfold toldT
          rw [if_neg (by decide), if_pos tn1, if_pos ⟨rfl, c⟩]
        rw [et]
        exact ⟨_, rfl, s' _ _ hD1, s' _ _ hD2, s' _ _ hun, .inl ⟨rfl, c⟩⟩
      · refine absurd ?_ ne
        unfold toldT
        rw [if_neg (by decide), if_pos tn1, if_neg (fun q => c q.2)]
    · have s' : Same H2 H' := sc.trans s'
      have c : ¬ (g 0 ≠ 1 ∧ g 0 ≠ -1) := fun c => by
        unfold toldT at e
        rw [if_neg (by decide), if_pos tn1, if_pos ⟨rfl, c⟩] at e
        exact absurd e (by decide +kernel)
      exact ⟨_, rfl, s' _ _ hD1, s' _ _ hD2, s' _ _ hun, .inr ⟨by omega, t, rfl, ht⟩⟩
  clear hD1 hD2 hun
  rintro σ H1 ⟨v, rfl, hD1, hD2, hun, hv⟩
  -- if other[0] not in [1, -1]
  refine ⟨fun σ H' => ∃ v : V, σ = [some (.ref a0), some (.ref l), some (.int (n : Int)), some (.ref D1), some (.ref D2), some (.ref pp), some (.ref dd), none, some (.ref un), some v, none] ∧ H' D1 = some (.lst (tv n f)) ∧ H' D2 = some (.lst (tv n g)), ?_, ?_⟩
  · refine ⟨_, rfl, D2, _, (0 : Int), _, rfl, rfl, sqL_of hD2, tv_at g (i := 0) (by omega), ?_⟩
    refine ⟨_, rfl, by show 2 ≤ sizeLine; decide, fun q nq => ?_⟩
    refine ⟨_, _, rfl, .inl (sqL_of upd_same), rfl, rfl, _, rfl, ?_⟩
    have eb : inV (V.int (g 0)) [.int 1, .int (-1)] = (decide (g 0 = 1) || decide (g 0 = -1)) := by
      unfold inV
      simp only [List.any_cons, List.any_nil, Bool.or_false, eqV_int']
    have sq := same_new (o := .lst [.int 1, .int (-1)]) nq
    refine iteB (fun c => ?_) (fun c => ?_)
    · have c3 : (!inV (V.int (g 0)) [.int 1, .int (-1)]) = true := c
      rw [eb] at c3
      have c4 : g 0 ≠ 1 ∧ g 0 ≠ -1 := by simpa using c3
      rcases hv with ⟨rfl, _⟩ | ⟨h0, _⟩
      · refine ⟨_, rfl, ?_⟩
        refine rd_c ?_
        refine ne_strs (s := ("!n" : Str)) (.str _) (.str _) rfl rfl (by decide +kernel) ?_
        refine ⟨_, rfl, ?_⟩
        refine iteF ?_
        exact ⟨_, rfl, sq _ _ hD1, sq _ _ hD2⟩
      · exact absurd h0 (by omega)
    · have c3 : (!inV (V.int (g 0)) [.int 1, .int (-1)]) = false := c
      rw [eb] at c3
      rcases hv with ⟨_, c4⟩ | ⟨h0, t, rfl, ht⟩
      · simp [c4.1, c4.2] at c3
      have islow : Slow (inv (lift g)) n := inv_slow (F := lift g) (lift_zero g) (by rw [lift_succ g 0]; exact h0) n12 (fun i hi => lift_le hg i (by omega))
      have gslow : Slow (lift g) n := slow_of (fun i hi => Nat.le_trans (hg i hi) (by decide))
      have h1 : lift g 1 = 1 ∨ lift g 1 = -1 := by rw [lift_succ g 0]; exact h0
      have hD1 := sq _ _ hD1
      have hD2 := sq _ _ hD2
      have hun := sq _ _ hun
      have ht := sq _ _ ht
      clear sq c
      revert hD1 hD2 hun ht
      generalize upd H1 q _ = H3
      intro hD1 hD2 hun ht
      refine ⟨by show 1 ≤ sizeLine; decide, fun q1 nq1 => ⟨_, rfl, q1, D2, _, _, rfl, rfl, upd_same, (same_new nq1) _ _ hD2, le_line (by rw [tv_len]; simp; omega), fun a1 na1 => ?_⟩⟩
      have s4 : Same H3 (upd (upd H3 q1 (.lst [V.int 0])) a1 (.lst ([V.int 0] ++ tv n g))) := (same_new nq1).trans (same_new na1)
      have ha1 : (upd (upd H3 q1 (.lst [V.int 0])) a1 (.lst ([V.int 0] ++ tv n g))) a1 = some (.lst (tv (n + 1) (lift g))) := by rw [upd_same, tv_lift]
      revert s4 ha1
      generalize upd (upd H3 q1 (.lst [V.int 0])) a1 (.lst ([V.int 0] ++ tv n g)) = H4
      intro s4 ha1
      refine ⟨by show 1 ≤ sizeLine; decide, fun q2 nq2 => ⟨_, rfl, q2, t, _, _, rfl, rfl, upd_same, (same_new nq2) _ _ (s4 _ _ ht), le_line (by rw [tv_len]; simp; omega), fun a2 na2 => ?_⟩⟩
      have s5 : Same H4 (upd (upd H4 q2 (.lst [V.int 0])) a2 (.lst ([V.int 0] ++ tv n (fun i => inv (lift g) (i + 1))))) := (same_new nq2).trans (same_new na2)
      have ha2 : (upd (upd H4 q2 (.lst [V.int 0])) a2 (.lst ([V.int 0] ++ tv n (fun i => inv (lift g) (i + 1))))) a2 = some (.lst (tv (n + 1) (inv (lift g)))) := by rw [upd_same, tv_lift, lift_sh _ islow.1]
      revert s5 ha2
      generalize upd (upd H4 q2 (.lst [V.int 0])) a2 (.lst ([V.int 0] ++ tv n (fun i => inv (lift g) (i + 1)))) = H5
      intro s5 ha2
      refine ⟨_, rfl, a1, a2, n, lift g, inv (lift g), rfl, sqL_of (s5 _ _ ha1), sqL_of ha2, n12, lift_zero g, islow, fun i hi => lt500 (lift_le hg i (by omega)), fun r H6 s6 nr hr => ?_⟩
      have s7 := (s4.trans s5).trans s6
      refine ⟨_, rfl, ?_⟩
      refine ne_same (dp_L (sqL_of hr)) (dp_L (sqL_of (s7 _ _ hun))) (dL_congr fun i hi => by rw [← comp_psum _ islow.1 i (n + 1) (lift g) hi, inv_right (lift g) h1 (lift_zero g)]) (shaped_L _ _) ?_
      refine ⟨_, rfl, ?_⟩
      refine iteF ?_
      have hD1 := s7 _ _ hD1
      have hD2 := s7 _ _ hD2
      have hun := s7 _ _ hun
      have ht := s7 _ _ ht
      clear s4 s5 s6 s7 ha1 ha2 hr nr
      refine ⟨by show 1 ≤ sizeLine; decide, fun q1 nq1 => ⟨_, rfl, q1, t, _, _, rfl, rfl, upd_same, (same_new nq1) _ _ ht, le_line (by rw [tv_len]; simp; omega), fun a1 na1 => ?_⟩⟩
      have s4 : Same H6 (upd (upd H6 q1 (.lst [V.int 0])) a1 (.lst ([V.int 0] ++ tv n (fun i => inv (lift g) (i + 1))))) := (same_new nq1).trans (same_new na1)
      have ha1 : (upd (upd H6 q1 (.lst [V.int 0])) a1 (.lst ([V.int 0] ++ tv n (fun i => inv (lift g) (i + 1))))) a1 = some (.lst (tv (n + 1) (inv (lift g)))) := by rw [upd_same, tv_lift, lift_sh _ islow.1]
      revert s4 ha1
      generalize upd (upd H6 q1 (.lst [V.int 0])) a1 (.lst ([V.int 0] ++ tv n (fun i => inv (lift g) (i + 1)))) = H7
      intro s4 ha1
      refine ⟨by show 1 ≤ sizeLine; decide, fun q2 nq2 => ⟨_, rfl, q2, D2, _, _, rfl, rfl, upd_same, (same_new nq2) _ _ (s4 _ _ hD2), le_line (by rw [tv_len]; simp; omega), fun a2 na2 => ?_⟩⟩
      have s5 : Same H7 (upd (upd H7 q2 (.lst [V.int 0])) a2 (.lst ([V.int 0] ++ tv n g))) := (same_new nq2).trans (same_new na2)
      have ha2 : (upd (upd H7 q2 (.lst [V.int 0])) a2 (.lst ([V.int 0] ++ tv n g))) a2 = some (.lst (tv (n + 1) (lift g))) := by rw [upd_same, tv_lift]
      revert s5 ha2
      generalize upd (upd H7 q2 (.lst [V.int 0])) a2 (.lst ([V.int 0] ++ tv n g)) = H8
      intro s5 ha2
      refine ⟨_, rfl, a1, a2, n, inv (lift g), lift g, rfl, sqL_of (s5 _ _ ha1), sqL_of ha2, n12, islow.1, gslow, fun i hi => islow.lt i hi n12, fun r H9 s6 nr hr => ?_⟩
      have s7 := (s4.trans s5).trans s6
      refine ⟨_, rfl, ?_⟩
      refine ne_same (dp_L (sqL_of hr)) (dp_L (sqL_of (s7 _ _ hun))) (dL_congr fun i hi => by rw [← comp_psum _ (lift_zero g) i (n + 1) (inv (lift g)) hi, inv_left (lift g) h1 (lift_zero g)]) (shaped_L _ _) ?_
      refine ⟨_, rfl, ?_⟩
      refine iteF ?_
      exact ⟨_, rfl, s7 _ _ hD1, s7 _ _ hD2⟩
  clear hD1 hD2 hun hv
  rintro σ H1 ⟨v2, rfl, hD1, hD2⟩
  refine ⟨5, rfl, by decide, by decide, for_range (lo := 0) (n := 5) (fun i σ H' => ∃ v7 : Option V, σ = [some (.ref a0), some (.ref l), some (.int (n : Int)), some (.ref D1), some (.ref D2), some (.ref pp), some (.ref dd), v7, some (.ref un), some v2, none] ∧ H' D1 = some (.lst (tv n f)) ∧ H' D2 = some (.lst (tv n g))) ⟨_, rfl, hD1, hD2⟩ ?_ ?_⟩
  · rintro i σ H2 hi ⟨v7, rfl, hD1, hD2⟩
    have t0 : ∀ w : Int, toldT w 0 0 (fun _ => 0) = "!b" := fun w => told_bad rfl
    have t13 : ∀ w : Int, toldT w 13 13 (fun _ => 1) = "!b" := fun w => told_bad rfl
    refine ⟨_, rfl, by show 0 ≤ sizeLine; decide, fun q1 nq1 => ⟨by show 0 ≤ sizeLine; decide, fun q2 nq2 => ?_⟩⟩
    refine ⟨(0 : Int) + (i : Int), q1, .ref q2, 0, 0, fun _ => 0, fun _ => 0, rfl, sqL_of ((same_new nq2) _ _ upd_same), by omega, by omega, fun _ => ⟨q2, rfl, sqL_of upd_same⟩, fun i hi => absurd hi (Nat.not_lt_zero _), fun i hi => absurd hi (Nat.not_lt_zero _), fun _ H3 s3 => ?_, fun e => absurd (e.symm.trans (t0 _)) (by decide +kernel)⟩
    rw [t0]
    have s3 := ((same_new nq1).trans (same_new nq2)).trans s3
    have hD1 := s3 _ _ hD1
    have hD2 := s3 _ _ hD2
    clear s3
    refine rd_c ?_
    refine ne_strs (s := ("!b" : Str)) (.str _) (.str _) rfl rfl (by decide +kernel) ?_
    refine ⟨_, rfl, ?_⟩
    refine iteF ?_
    refine ⟨_, rfl, by show 1 ≤ sizeLine; decide, fun q3 nq3 => ⟨q3, _, _, rfl, rfl, upd_same, by decide, by decide, le_line (by decide), fun a1 na1 => ⟨by show 1 ≤ sizeLine; decide, fun q4 nq4 => ⟨q4, _, _, rfl, rfl, upd_same, by decide, by decide, le_line (by decide), fun a2 na2 => ?_⟩⟩⟩⟩
    have e13 : (List.replicate (Int.toNat 13) [V.int 1]).flatten = tv 13 (fun _ => 1) := tv_rep 13 1
    refine ⟨(0 : Int) + (i : Int), a1, .ref a2, 13, 13, fun _ => 1, fun _ => 1, rfl, sqL_of (((same_new nq4).trans (same_new na2)) _ _ (by rw [upd_same]; exact congrArg (fun l => some (HO.lst l)) e13)), by omega, by omega, fun _ => ⟨a2, rfl, sqL_of (by rw [upd_same]; exact congrArg (fun l => some (HO.lst l)) e13)⟩, fun i hi => by show Int.natAbs 1 ≤ 4; decide, fun i hi => by show Int.natAbs 1 ≤ 4; decide, fun _ H4 s4 => ?_, fun e => absurd (e.symm.trans (t13 _)) (by decide +kernel)⟩
    rw [t13]
    have s4 := ((same_new nq3).trans (same_new na1)).trans (((same_new nq4).trans (same_new na2)).trans s4)
    refine rd_c ?_
    refine ne_strs (s := ("!b" : Str)) (.str _) (.str _) rfl rfl (by decide +kernel) ?_
    refine ⟨_, rfl, ?_⟩
    refine iteF ?_
    exact ⟨_, rfl, s4 _ _ hD1, s4 _ _ hD2⟩
  · rintro σ H2 ⟨v7, rfl, hD1, hD2⟩
    refine ⟨3, rfl, by decide, by decide, fun D nD => ?_⟩
    refine lc_it (walk_range (lo := 0) (n := Int.toNat 3)) (fun i H' => Same H2 H' ∧ H' D = some (.lst ((List.replicate i true).map V.bl))) ⟨same_new nD, upd_same⟩ (fun _ _ _ _ => trivial) ?_ (fun H3 q3 => ?_)
    · rintro i x H6 H7 hi ⟨s6, hD⟩ ⟨rfl, rfl⟩
      have hi : i < 3 := hi
      have tb : toldT ((0 : Int) + (i : Int)) n (n + 1) f = "!b" := told_other (by omega) (by omega)
      refine ⟨rfl, ?_⟩
      refine yes_do ?_
      refine ⟨_, rfl, _, rfl, _, rfl, by show 1 ≤ sizeLine; decide, fun q nq => ⟨D2, q, _, _, rfl, rfl, (same_new nq) _ _ (s6 _ _ hD2), upd_same, le_line (by rw [tv_len]; simp; omega), fun a1 na1 => ?_⟩⟩
      refine ⟨(0 : Int) + (i : Int), D1, .ref a1, n, n + 1, f, fun i => if i < n then g i else 1, rfl, sqL_of (((same_new nq).trans (same_new na1)) _ _ (s6 _ _ hD1)), by omega, by omega, fun _ => ⟨a1, rfl, sqL_of (by rw [upd_same, tv_more])⟩, hf, fun j hj => ?_, fun _ H4 s4 => ?_, fun e => absurd (e.symm.trans tb) (by decide +kernel)⟩
      · show (if j < n then g j else 1).natAbs ≤ 4
        split
        · exact hg j ‹_›
        · decide
      rw [tb]
      have s4 := ((same_new nq).trans (same_new na1)).trans s4
      refine rd_c ?_
      refine eq_same (.str ("!b" : Str)) (.str ("!b" : Str)) rfl (by decide +kernel) ?_
      refine ⟨_, s4 _ _ hD, lt_line (by simp; omega), fun c o e => ?_, ?_⟩
      · rw [upd_ne (ne_of_none e nD)]
        exact s4 _ _ (s6 _ _ e)
      · rw [upd_same, List.replicate_succ', List.map_append]
        rfl
    · exact ⟨D, List.replicate 3 true, rfl, sqL_of q3.2, k _⟩
end
def HasAd (K : PySem.W.Frag) (mg : Str → Option Value) (fa : Addr) : Prop := ∃ ad : Ad, Txt K mg ad ∧ ad.a_law = fa ∧ ∀ (s : Shared) (u : Value), BindsTo s ad.d_law ⟨[u], []⟩ [("script", u)]
theorem all_mk {K : PySem.W.Frag} {h : Heap} {mg : Str → Option Value} {fa : Addr} (X : K.In h) (G : h.Ns mainGlobals mg) (hfa : mg "law" = some (.ref fa))
    {f__check_series : Addr} {f__check_alike_long : Addr} {f_added_series : Addr} {f_multiplied_series : Addr} {f_put_into : Addr} {f_undoing : Addr} {f_turned_signs : Addr} {f__law_plain : Addr} {f__law_draws : Addr} {f__law_next : Addr} {f__law_product : Addr} {f__law_put : Addr} {f__law_told : Addr} {f_law : Addr} {f_GraftError : Addr} {f_BadNumber : Addr} {f_NoAnswer : Addr} {oc__check_series kV__check_series dc__check_series pm__check_series cd__check_series ct__check_series : Value} {od__check_series an__check_series : Option Addr} {sv__check_series : Array (Option Value)} {oc__check_alike_long kV__check_alike_long dc__check_alike_long pm__check_alike_long cd__check_alike_long ct__check_alike_long : Value} {od__check_alike_long an__check_alike_long : Option Addr} {sv__check_alike_long : Array (Option Value)} {oc_added_series kV_added_series dc_added_series pm_added_series cd_added_series ct_added_series : Value} {od_added_series an_added_series : Option Addr} {sv_added_series : Array (Option Value)} {oc_multiplied_series kV_multiplied_series dc_multiplied_series pm_multiplied_series cd_multiplied_series ct_multiplied_series : Value} {od_multiplied_series an_multiplied_series : Option Addr} {sv_multiplied_series : Array (Option Value)} {oc_put_into kV_put_into dc_put_into pm_put_into cd_put_into ct_put_into : Value} {od_put_into an_put_into : Option Addr} {sv_put_into : Array (Option Value)} {oc_undoing kV_undoing dc_undoing pm_undoing cd_undoing ct_undoing : Value} {od_undoing an_undoing : Option Addr} {sv_undoing : Array (Option Value)} {oc_turned_signs kV_turned_signs dc_turned_signs pm_turned_signs cd_turned_signs ct_turned_signs : Value} {od_turned_signs an_turned_signs : Option Addr} {sv_turned_signs : Array (Option Value)} {oc__law_plain kV__law_plain dc__law_plain pm__law_plain cd__law_plain ct__law_plain : Value} {od__law_plain an__law_plain : Option Addr} {sv__law_plain : Array (Option Value)} {oc__law_draws kV__law_draws dc__law_draws pm__law_draws cd__law_draws ct__law_draws : Value} {od__law_draws an__law_draws : Option Addr} {sv__law_draws : Array (Option Value)} {oc__law_next kV__law_next dc__law_next pm__law_next cd__law_next ct__law_next : Value} {od__law_next an__law_next : Option Addr} {sv__law_next : Array (Option Value)} {oc__law_product kV__law_product dc__law_product pm__law_product cd__law_product ct__law_product : Value} {od__law_product an__law_product : Option Addr} {sv__law_product : Array (Option Value)} {oc__law_put kV__law_put dc__law_put pm__law_put cd__law_put ct__law_put : Value} {od__law_put an__law_put : Option Addr} {sv__law_put : Array (Option Value)} {oc__law_told kV__law_told dc__law_told pm__law_told cd__law_told ct__law_told : Value} {od__law_told an__law_told : Option Addr} {sv__law_told : Array (Option Value)} {oc_law kV_law dc_law pm_law cd_law ct_law : Value} {od_law an_law : Option Addr} {sv_law : Array (Option Value)} {u_MOST_TERMS : Value}
    (a__check_series : PySem.W.nsIn K mainGlobals "_check_series" = some (some (.ref f__check_series)))
    (l__check_series : K.lookup f__check_series = some ⟨oc__check_series, od__check_series, .func (PySem.W.fnOf "_check_series" "_check_series" (defArgs st__check_series) (defBody st__check_series) (defScope st__check_series) .none kV__check_series dc__check_series pm__check_series an__check_series cd__check_series ct__check_series), sv__check_series⟩)
    (c__check_series : PySem.W.codeIn K cd__check_series "_check_series" = true)
    (k__check_series : PySem.W.keepIn K (.ref f__check_series) = true)
    (a__check_alike_long : PySem.W.nsIn K mainGlobals "_check_alike_long" = some (some (.ref f__check_alike_long)))
    (l__check_alike_long : K.lookup f__check_alike_long = some ⟨oc__check_alike_long, od__check_alike_long, .func (PySem.W.fnOf "_check_alike_long" "_check_alike_long" (defArgs st__check_alike_long) (defBody st__check_alike_long) (defScope st__check_alike_long) .none kV__check_alike_long dc__check_alike_long pm__check_alike_long an__check_alike_long cd__check_alike_long ct__check_alike_long), sv__check_alike_long⟩)
    (c__check_alike_long : PySem.W.codeIn K cd__check_alike_long "_check_alike_long" = true)
    (k__check_alike_long : PySem.W.keepIn K (.ref f__check_alike_long) = true)
    (a_added_series : PySem.W.nsIn K mainGlobals "added_series" = some (some (.ref f_added_series)))
    (l_added_series : K.lookup f_added_series = some ⟨oc_added_series, od_added_series, .func (PySem.W.fnOf "added_series" "added_series" (defArgs st_added_series) (defBody st_added_series) (defScope st_added_series) .none kV_added_series dc_added_series pm_added_series an_added_series cd_added_series ct_added_series), sv_added_series⟩)
    (c_added_series : PySem.W.codeIn K cd_added_series "added_series" = true)
    (k_added_series : PySem.W.keepIn K (.ref f_added_series) = true)
    (a_multiplied_series : PySem.W.nsIn K mainGlobals "multiplied_series" = some (some (.ref f_multiplied_series)))
    (l_multiplied_series : K.lookup f_multiplied_series = some ⟨oc_multiplied_series, od_multiplied_series, .func (PySem.W.fnOf "multiplied_series" "multiplied_series" (defArgs st_multiplied_series) (defBody st_multiplied_series) (defScope st_multiplied_series) .none kV_multiplied_series dc_multiplied_series pm_multiplied_series an_multiplied_series cd_multiplied_series ct_multiplied_series), sv_multiplied_series⟩)
    (c_multiplied_series : PySem.W.codeIn K cd_multiplied_series "multiplied_series" = true)
    (k_multiplied_series : PySem.W.keepIn K (.ref f_multiplied_series) = true)
    (a_put_into : PySem.W.nsIn K mainGlobals "put_into" = some (some (.ref f_put_into)))
    (l_put_into : K.lookup f_put_into = some ⟨oc_put_into, od_put_into, .func (PySem.W.fnOf "put_into" "put_into" (defArgs st_put_into) (defBody st_put_into) (defScope st_put_into) .none kV_put_into dc_put_into pm_put_into an_put_into cd_put_into ct_put_into), sv_put_into⟩)
    (c_put_into : PySem.W.codeIn K cd_put_into "put_into" = true)
    (k_put_into : PySem.W.keepIn K (.ref f_put_into) = true)
    (a_undoing : PySem.W.nsIn K mainGlobals "undoing" = some (some (.ref f_undoing)))
    (l_undoing : K.lookup f_undoing = some ⟨oc_undoing, od_undoing, .func (PySem.W.fnOf "undoing" "undoing" (defArgs st_undoing) (defBody st_undoing) (defScope st_undoing) .none kV_undoing dc_undoing pm_undoing an_undoing cd_undoing ct_undoing), sv_undoing⟩)
    (c_undoing : PySem.W.codeIn K cd_undoing "undoing" = true)
    (k_undoing : PySem.W.keepIn K (.ref f_undoing) = true)
    (a_turned_signs : PySem.W.nsIn K mainGlobals "turned_signs" = some (some (.ref f_turned_signs)))
    (l_turned_signs : K.lookup f_turned_signs = some ⟨oc_turned_signs, od_turned_signs, .func (PySem.W.fnOf "turned_signs" "turned_signs" (defArgs st_turned_signs) (defBody st_turned_signs) (defScope st_turned_signs) .none kV_turned_signs dc_turned_signs pm_turned_signs an_turned_signs cd_turned_signs ct_turned_signs), sv_turned_signs⟩)
    (c_turned_signs : PySem.W.codeIn K cd_turned_signs "turned_signs" = true)
    (k_turned_signs : PySem.W.keepIn K (.ref f_turned_signs) = true)
    (a__law_plain : PySem.W.nsIn K mainGlobals "_law_plain" = some (some (.ref f__law_plain)))
    (l__law_plain : K.lookup f__law_plain = some ⟨oc__law_plain, od__law_plain, .func (PySem.W.fnOf "_law_plain" "_law_plain" (defArgs st__law_plain) (defBody st__law_plain) (defScope st__law_plain) .none kV__law_plain dc__law_plain pm__law_plain an__law_plain cd__law_plain ct__law_plain), sv__law_plain⟩)
    (c__law_plain : PySem.W.codeIn K cd__law_plain "_law_plain" = true)
    (k__law_plain : PySem.W.keepIn K (.ref f__law_plain) = true)
    (a__law_draws : PySem.W.nsIn K mainGlobals "_law_draws" = some (some (.ref f__law_draws)))
    (l__law_draws : K.lookup f__law_draws = some ⟨oc__law_draws, od__law_draws, .func (PySem.W.fnOf "_law_draws" "_law_draws" (defArgs st__law_draws) (defBody st__law_draws) (defScope st__law_draws) .none kV__law_draws dc__law_draws pm__law_draws an__law_draws cd__law_draws ct__law_draws), sv__law_draws⟩)
    (c__law_draws : PySem.W.codeIn K cd__law_draws "_law_draws" = true)
    (k__law_draws : PySem.W.keepIn K (.ref f__law_draws) = true)
    (a__law_next : PySem.W.nsIn K mainGlobals "_law_next" = some (some (.ref f__law_next)))
    (l__law_next : K.lookup f__law_next = some ⟨oc__law_next, od__law_next, .func (PySem.W.fnOf "_law_next" "_law_next" (defArgs st__law_next) (defBody st__law_next) (defScope st__law_next) .none kV__law_next dc__law_next pm__law_next an__law_next cd__law_next ct__law_next), sv__law_next⟩)
    (c__law_next : PySem.W.codeIn K cd__law_next "_law_next" = true)
    (k__law_next : PySem.W.keepIn K (.ref f__law_next) = true)
    (a__law_product : PySem.W.nsIn K mainGlobals "_law_product" = some (some (.ref f__law_product)))
    (l__law_product : K.lookup f__law_product = some ⟨oc__law_product, od__law_product, .func (PySem.W.fnOf "_law_product" "_law_product" (defArgs st__law_product) (defBody st__law_product) (defScope st__law_product) .none kV__law_product dc__law_product pm__law_product an__law_product cd__law_product ct__law_product), sv__law_product⟩)
    (c__law_product : PySem.W.codeIn K cd__law_product "_law_product" = true)
    (k__law_product : PySem.W.keepIn K (.ref f__law_product) = true)
    (a__law_put : PySem.W.nsIn K mainGlobals "_law_put" = some (some (.ref f__law_put)))
    (l__law_put : K.lookup f__law_put = some ⟨oc__law_put, od__law_put, .func (PySem.W.fnOf "_law_put" "_law_put" (defArgs st__law_put) (defBody st__law_put) (defScope st__law_put) .none kV__law_put dc__law_put pm__law_put an__law_put cd__law_put ct__law_put), sv__law_put⟩)
    (c__law_put : PySem.W.codeIn K cd__law_put "_law_put" = true)
    (k__law_put : PySem.W.keepIn K (.ref f__law_put) = true)
    (a__law_told : PySem.W.nsIn K mainGlobals "_law_told" = some (some (.ref f__law_told)))
    (l__law_told : K.lookup f__law_told = some ⟨oc__law_told, od__law_told, .func (PySem.W.fnOf "_law_told" "_law_told" (defArgs st__law_told) (defBody st__law_told) (defScope st__law_told) .none kV__law_told dc__law_told pm__law_told an__law_told cd__law_told ct__law_told), sv__law_told⟩)
    (c__law_told : PySem.W.codeIn K cd__law_told "_law_told" = true)
    (k__law_told : PySem.W.keepIn K (.ref f__law_told) = true)
    (a_law : PySem.W.nsIn K mainGlobals "law" = some (some (.ref f_law)))
    (l_law : K.lookup f_law = some ⟨oc_law, od_law, .func (PySem.W.fnOf "law" "law" (defArgs st_law) (defBody st_law) (defScope st_law) .none kV_law dc_law pm_law an_law cd_law ct_law), sv_law⟩)
    (c_law : PySem.W.codeIn K cd_law "law" = true)
    (k_law : PySem.W.keepIn K (.ref f_law) = true)
    (a_GraftError : PySem.W.nsIn K mainGlobals "GraftError" = some (some (.ref f_GraftError)))
    (a_BadNumber : PySem.W.nsIn K mainGlobals "BadNumber" = some (some (.ref f_BadNumber)))
    (a_NoAnswer : PySem.W.nsIn K mainGlobals "NoAnswer" = some (some (.ref f_NoAnswer)))
    (k_GraftError : PySem.W.keepIn K (.ref f_GraftError) = true)
    (x_GraftError : PySem.W.excIn K f_GraftError vE "ValueError.__new__" = true)
    (s_GraftError : PySem.W.subIn K (.ref f_GraftError) (.type "BaseException") = some true)
    (t_GraftError : PySem.W.typeIn K (.ref f_GraftError) = some (.type "type"))
    (e1_GraftError : PySem.W.findIn K (.ref f_GraftError) "__getattribute__" = some (some (.builtin "BaseException.__getattribute__")))
    (e2_GraftError : PySem.W.findIn K (.ref f_GraftError) "__getattr__" = some none)
    (e3_GraftError : PySem.W.hasDictIn K f_GraftError = true)
    (e4_GraftError : PySem.W.findIn K (.ref f_GraftError) "__class__" = some (some (.builtin "object.__class__")))
    (e5_GraftError : PySem.W.mroIn K f_GraftError (.type "object") = some true)
    (u_GraftError_GraftError : PySem.W.subIn K (.ref f_GraftError) (.ref f_GraftError) = some true)
    (u_GraftError_BadNumber : PySem.W.subIn K (.ref f_GraftError) (.ref f_BadNumber) = some false)
    (u_GraftError_NoAnswer : PySem.W.subIn K (.ref f_GraftError) (.ref f_NoAnswer) = some false)
    (k_BadNumber : PySem.W.keepIn K (.ref f_BadNumber) = true)
    (x_BadNumber : PySem.W.excIn K f_BadNumber vE "ValueError.__new__" = true)
    (s_BadNumber : PySem.W.subIn K (.ref f_BadNumber) (.type "BaseException") = some true)
    (t_BadNumber : PySem.W.typeIn K (.ref f_BadNumber) = some (.type "type"))
    (e1_BadNumber : PySem.W.findIn K (.ref f_BadNumber) "__getattribute__" = some (some (.builtin "BaseException.__getattribute__")))
    (e2_BadNumber : PySem.W.findIn K (.ref f_BadNumber) "__getattr__" = some none)
    (e3_BadNumber : PySem.W.hasDictIn K f_BadNumber = true)
    (e4_BadNumber : PySem.W.findIn K (.ref f_BadNumber) "__class__" = some (some (.builtin "object.__class__")))
    (e5_BadNumber : PySem.W.mroIn K f_BadNumber (.type "object") = some true)
    (u_BadNumber_GraftError : PySem.W.subIn K (.ref f_BadNumber) (.ref f_GraftError) = some true)
    (u_BadNumber_BadNumber : PySem.W.subIn K (.ref f_BadNumber) (.ref f_BadNumber) = some true)
    (u_BadNumber_NoAnswer : PySem.W.subIn K (.ref f_BadNumber) (.ref f_NoAnswer) = some false)
    (k_NoAnswer : PySem.W.keepIn K (.ref f_NoAnswer) = true)
    (x_NoAnswer : PySem.W.excIn K f_NoAnswer vE "ValueError.__new__" = true)
    (s_NoAnswer : PySem.W.subIn K (.ref f_NoAnswer) (.type "BaseException") = some true)
    (t_NoAnswer : PySem.W.typeIn K (.ref f_NoAnswer) = some (.type "type"))
    (e1_NoAnswer : PySem.W.findIn K (.ref f_NoAnswer) "__getattribute__" = some (some (.builtin "BaseException.__getattribute__")))
    (e2_NoAnswer : PySem.W.findIn K (.ref f_NoAnswer) "__getattr__" = some none)
    (e3_NoAnswer : PySem.W.hasDictIn K f_NoAnswer = true)
    (e4_NoAnswer : PySem.W.findIn K (.ref f_NoAnswer) "__class__" = some (some (.builtin "object.__class__")))
    (e5_NoAnswer : PySem.W.mroIn K f_NoAnswer (.type "object") = some true)
    (u_NoAnswer_GraftError : PySem.W.subIn K (.ref f_NoAnswer) (.ref f_GraftError) = some true)
    (u_NoAnswer_BadNumber : PySem.W.subIn K (.ref f_NoAnswer) (.ref f_BadNumber) = some false)
    (u_NoAnswer_NoAnswer : PySem.W.subIn K (.ref f_NoAnswer) (.ref f_NoAnswer) = some true)
    (sp1 : PySem.W.specialIn K (.builtin "object.__class__") "__get__" = some (some (.builtin "getset_descriptor.__get__")))
    (sp2 : PySem.W.takesIn K (.builtin "object.__class__") = some true)
    (a_MOST_TERMS : PySem.W.nsIn K mainGlobals "MOST_TERMS" = some (some u_MOST_TERMS))
    (v_MOST_TERMS : RelV (V.int 12) u_MOST_TERMS)
    (m_all : PySem.W.nsIn K mainGlobals "all" = some none)
    (m_enumerate : PySem.W.nsIn K mainGlobals "enumerate" = some none)
    (m_int : PySem.W.nsIn K mainGlobals "int" = some none)
    (m_isinstance : PySem.W.nsIn K mainGlobals "isinstance" = some none)
    (m_len : PySem.W.nsIn K mainGlobals "len" = some none)
    (m_list : PySem.W.nsIn K mainGlobals "list" = some none)
    (m_range : PySem.W.nsIn K mainGlobals "range" = some none)
    (m_repr : PySem.W.nsIn K mainGlobals "repr" = some none)
    (m_zip : PySem.W.nsIn K mainGlobals "zip" = some none)
    : HasAd K mg fa := by
  have ef : f_law = fa := by
    have z := hfa.symm.trans (PySem.W.mg_of X G a_law)
    cases z; rfl
  subst ef
  have F__check_series := fun_mk (st := st__check_series) l__check_series c__check_series k__check_series
  have b__check_series := F__check_series.binds (ps := ["series"]) fun _ _ _ _ _ _ us hl => match us, hl with | [_], _ => rfl
  have F__check_alike_long := fun_mk (st := st__check_alike_long) l__check_alike_long c__check_alike_long k__check_alike_long
  have b__check_alike_long := F__check_alike_long.binds (ps := ["one", "other"]) fun _ _ _ _ _ _ us hl => match us, hl with | [_, _], _ => rfl
  have F_added_series := fun_mk (st := st_added_series) l_added_series c_added_series k_added_series
  have b_added_series := F_added_series.binds (ps := ["one", "other"]) fun _ _ _ _ _ _ us hl => match us, hl with | [_, _], _ => rfl
  have F_multiplied_series := fun_mk (st := st_multiplied_series) l_multiplied_series c_multiplied_series k_multiplied_series
  have b_multiplied_series := F_multiplied_series.binds (ps := ["one", "other"]) fun _ _ _ _ _ _ us hl => match us, hl with | [_, _], _ => rfl
  have F_put_into := fun_mk (st := st_put_into) l_put_into c_put_into k_put_into
  have b_put_into := F_put_into.binds (ps := ["one", "other"]) fun _ _ _ _ _ _ us hl => match us, hl with | [_, _], _ => rfl
  have F_undoing := fun_mk (st := st_undoing) l_undoing c_undoing k_undoing
  have b_undoing := F_undoing.binds (ps := ["series"]) fun _ _ _ _ _ _ us hl => match us, hl with | [_], _ => rfl
  have F_turned_signs := fun_mk (st := st_turned_signs) l_turned_signs c_turned_signs k_turned_signs
  have b_turned_signs := F_turned_signs.binds (ps := ["series"]) fun _ _ _ _ _ _ us hl => match us, hl with | [_], _ => rfl
  have F__law_plain := fun_mk (st := st__law_plain) l__law_plain c__law_plain k__law_plain
  have b__law_plain := F__law_plain.binds (ps := ["cell"]) fun _ _ _ _ _ _ us hl => match us, hl with | [_], _ => rfl
  have F__law_draws := fun_mk (st := st__law_draws) l__law_draws c__law_draws k__law_draws
  have b__law_draws := F__law_draws.binds (ps := ["script"]) fun _ _ _ _ _ _ us hl => match us, hl with | [_], _ => rfl
  have F__law_next := fun_mk (st := st__law_next) l__law_next c__law_next k__law_next
  have b__law_next := F__law_next.binds (ps := ["draws"]) fun _ _ _ _ _ _ us hl => match us, hl with | [_], _ => rfl
  have F__law_product := fun_mk (st := st__law_product) l__law_product c__law_product k__law_product
  have b__law_product := F__law_product.binds (ps := ["one", "other", "many"]) fun _ _ _ _ _ _ us hl => match us, hl with | [_, _, _], _ => rfl
  have F__law_put := fun_mk (st := st__law_put) l__law_put c__law_put k__law_put
  have b__law_put := F__law_put.binds (ps := ["one", "other", "many"]) fun _ _ _ _ _ _ us hl => match us, hl with | [_, _, _], _ => rfl
  have F__law_told := fun_mk (st := st__law_told) l__law_told c__law_told k__law_told
  have b__law_told := F__law_told.binds (ps := ["way", "one", "other"]) fun _ _ _ _ _ _ us hl => match us, hl with | [_, _, _], _ => rfl
  have F_law := fun_mk (st := st_law) l_law c_law k_law
  have b_law := F_law.binds (ps := ["script"]) fun _ _ _ _ _ _ us hl => match us, hl with | [_], _ => rfl
  refine ⟨{
      a__check_series := f__check_series, d__check_series := _,
      a__check_alike_long := f__check_alike_long, d__check_alike_long := _,
      a_added_series := f_added_series, d_added_series := _,
      a_multiplied_series := f_multiplied_series, d_multiplied_series := _,
      a_put_into := f_put_into, d_put_into := _,
      a_undoing := f_undoing, d_undoing := _,
      a_turned_signs := f_turned_signs, d_turned_signs := _,
      a__law_plain := f__law_plain, d__law_plain := _,
      a__law_draws := f__law_draws, d__law_draws := _,
      a__law_next := f__law_next, d__law_next := _,
      a__law_product := f__law_product, d__law_product := _,
      a__law_put := f__law_put, d__law_put := _,
      a__law_told := f__law_told, d__law_told := _,
      a_law := f_law, d_law := _,
      a_GraftError := f_GraftError,
      a_BadNumber := f_BadNumber,
      a_NoAnswer := f_NoAnswer }, {
      F__check_series := F__check_series, b__check_series := b__check_series, g__check_series := PySem.W.mg_of X G a__check_series, k__check_series := k__check_series,
      F__check_alike_long := F__check_alike_long, b__check_alike_long := b__check_alike_long, g__check_alike_long := PySem.W.mg_of X G a__check_alike_long, k__check_alike_long := k__check_alike_long,
      F_added_series := F_added_series, b_added_series := b_added_series, g_added_series := PySem.W.mg_of X G a_added_series, k_added_series := k_added_series,
      F_multiplied_series := F_multiplied_series, b_multiplied_series := b_multiplied_series, g_multiplied_series := PySem.W.mg_of X G a_multiplied_series, k_multiplied_series := k_multiplied_series,
      F_put_into := F_put_into, b_put_into := b_put_into, g_put_into := PySem.W.mg_of X G a_put_into, k_put_into := k_put_into,
      F_undoing := F_undoing, b_undoing := b_undoing, g_undoing := PySem.W.mg_of X G a_undoing, k_undoing := k_undoing,
      F_turned_signs := F_turned_signs, b_turned_signs := b_turned_signs, g_turned_signs := PySem.W.mg_of X G a_turned_signs, k_turned_signs := k_turned_signs,
      F__law_plain := F__law_plain, b__law_plain := b__law_plain, g__law_plain := PySem.W.mg_of X G a__law_plain, k__law_plain := k__law_plain,
      F__law_draws := F__law_draws, b__law_draws := b__law_draws, g__law_draws := PySem.W.mg_of X G a__law_draws, k__law_draws := k__law_draws,
      F__law_next := F__law_next, b__law_next := b__law_next, g__law_next := PySem.W.mg_of X G a__law_next, k__law_next := k__law_next,
      F__law_product := F__law_product, b__law_product := b__law_product, g__law_product := PySem.W.mg_of X G a__law_product, k__law_product := k__law_product,
      F__law_put := F__law_put, b__law_put := b__law_put, g__law_put := PySem.W.mg_of X G a__law_put, k__law_put := k__law_put,
      F__law_told := F__law_told, b__law_told := b__law_told, g__law_told := PySem.W.mg_of X G a__law_told, k__law_told := k__law_told,
      F_law := F_law, b_law := b_law, g_law := PySem.W.mg_of X G a_law, k_law := k_law,
      g_GraftError := PySem.W.mg_of X G a_GraftError, k_GraftError := k_GraftError, x_GraftError := x_GraftError, s_GraftError := s_GraftError, t_GraftError := t_GraftError, e_GraftError := ⟨e1_GraftError, e2_GraftError, s_GraftError, e3_GraftError, e4_GraftError, sp1, sp2, e5_GraftError⟩,
      i_GraftError_GraftError := kit_of u_GraftError_GraftError (fun _ => u_GraftError_GraftError) e3_GraftError t_GraftError, m_GraftError_GraftError := PySem.W.exm_ref s_GraftError e3_GraftError t_GraftError u_GraftError_GraftError,
      i_GraftError_BadNumber := kit_of u_GraftError_BadNumber (fun _ => u_GraftError_GraftError) e3_BadNumber t_BadNumber, m_GraftError_BadNumber := PySem.W.exm_ref s_BadNumber e3_BadNumber t_BadNumber u_GraftError_BadNumber,
      i_GraftError_NoAnswer := kit_of u_GraftError_NoAnswer (fun _ => u_GraftError_GraftError) e3_NoAnswer t_NoAnswer, m_GraftError_NoAnswer := PySem.W.exm_ref s_NoAnswer e3_NoAnswer t_NoAnswer u_GraftError_NoAnswer,
      g_BadNumber := PySem.W.mg_of X G a_BadNumber, k_BadNumber := k_BadNumber, x_BadNumber := x_BadNumber, s_BadNumber := s_BadNumber, t_BadNumber := t_BadNumber, e_BadNumber := ⟨e1_BadNumber, e2_BadNumber, s_BadNumber, e3_BadNumber, e4_BadNumber, sp1, sp2, e5_BadNumber⟩,
      i_BadNumber_GraftError := kit_of u_BadNumber_GraftError (fun _ => u_BadNumber_BadNumber) e3_GraftError t_GraftError, m_BadNumber_GraftError := PySem.W.exm_ref s_GraftError e3_GraftError t_GraftError u_BadNumber_GraftError,
      i_BadNumber_BadNumber := kit_of u_BadNumber_BadNumber (fun _ => u_BadNumber_BadNumber) e3_BadNumber t_BadNumber, m_BadNumber_BadNumber := PySem.W.exm_ref s_BadNumber e3_BadNumber t_BadNumber u_BadNumber_BadNumber,
      i_BadNumber_NoAnswer := kit_of u_BadNumber_NoAnswer (fun _ => u_BadNumber_BadNumber) e3_NoAnswer t_NoAnswer, m_BadNumber_NoAnswer := PySem.W.exm_ref s_NoAnswer e3_NoAnswer t_NoAnswer u_BadNumber_NoAnswer,
      g_NoAnswer := PySem.W.mg_of X G a_NoAnswer, k_NoAnswer := k_NoAnswer, x_NoAnswer := x_NoAnswer, s_NoAnswer := s_NoAnswer, t_NoAnswer := t_NoAnswer, e_NoAnswer := ⟨e1_NoAnswer, e2_NoAnswer, s_NoAnswer, e3_NoAnswer, e4_NoAnswer, sp1, sp2, e5_NoAnswer⟩,
      i_NoAnswer_GraftError := kit_of u_NoAnswer_GraftError (fun _ => u_NoAnswer_NoAnswer) e3_GraftError t_GraftError, m_NoAnswer_GraftError := PySem.W.exm_ref s_GraftError e3_GraftError t_GraftError u_NoAnswer_GraftError,
      i_NoAnswer_BadNumber := kit_of u_NoAnswer_BadNumber (fun _ => u_NoAnswer_NoAnswer) e3_BadNumber t_BadNumber, m_NoAnswer_BadNumber := PySem.W.exm_ref s_BadNumber e3_BadNumber t_BadNumber u_NoAnswer_BadNumber,
      i_NoAnswer_NoAnswer := kit_of u_NoAnswer_NoAnswer (fun _ => u_NoAnswer_NoAnswer) e3_NoAnswer t_NoAnswer, m_NoAnswer_NoAnswer := PySem.W.exm_ref s_NoAnswer e3_NoAnswer t_NoAnswer u_NoAnswer_NoAnswer,
      g_MOST_TERMS := ⟨_, PySem.W.mg_of X G a_MOST_TERMS, v_MOST_TERMS⟩,
      m_all := PySem.W.mg_none_of X G m_all,
      m_enumerate := PySem.W.mg_none_of X G m_enumerate,
      m_int := PySem.W.mg_none_of X G m_int,
      m_isinstance := PySem.W.mg_none_of X G m_isinstance,
      m_len := PySem.W.mg_none_of X G m_len,
      m_list := PySem.W.mg_none_of X G m_list,
      m_range := PySem.W.mg_none_of X G m_range,
      m_repr := PySem.W.mg_none_of X G m_repr,
      m_zip := PySem.W.mg_none_of X G m_zip }, rfl, fun s u => ?_⟩
  exact .of_eq rfl
theorem has_fd {P : Program} {w : World} {K : PySem.W.Frag} {mg : Str → Option Value} {fa : Addr} (e : HasAd K mg fa) : ∃ fd : FuncData, (∀ (s : Shared) (u : Value), BindsTo s fd ⟨[u], []⟩ [("script", u)]) ∧
    ∀ base : Heap, K.In base → base.Ns mainGlobals mg → FnAt callerA P w K mg base CX0 fa fd ["script"] (spLaw K) := by
  obtain ⟨ad, T, rfl, bd⟩ := e
  exact ⟨ad.d_law, bd, fun base _ _ => ok_law T⟩
end Gw
open PySem PySem.W PyProof.Rows
set_option maxRecDepth 100000 in
set_option maxHeartbeats 0 in
theorem PySem.Challenge.cw_graftworth_k03_series_holds : PySem.Challenge.rw_graftworth_k03_series.Holds := by
  w_on; o_law; k_head; (case hw => w_witness2)
  k_fill
  refine Gw.law_walk (l := PySem.Challenge.rw_graftworth_k03_series) (n := 63) (x := "script") (sp := Gw.spLaw) rfl (by decide) rfl (fun w h Y => PySem.W.kIn_of Y) ?F ?S
  case F =>
    intro w mg fa h KX G hmg
    refine Gw.has_fd ?_
    refine' Gw.all_mk KX G hmg ?a__check_series ?l__check_series ?c__check_series ?k__check_series ?a__check_alike_long ?l__check_alike_long ?c__check_alike_long ?k__check_alike_long ?a_added_series ?l_added_series ?c_added_series ?k_added_series ?a_multiplied_series ?l_multiplied_series ?c_multiplied_series ?k_multiplied_series ?a_put_into ?l_put_into ?c_put_into ?k_put_into ?a_undoing ?l_undoing ?c_undoing ?k_undoing ?a_turned_signs ?l_turned_signs ?c_turned_signs ?k_turned_signs ?a__law_plain ?l__law_plain ?c__law_plain ?k__law_plain ?a__law_draws ?l__law_draws ?c__law_draws ?k__law_draws ?a__law_next ?l__law_next ?c__law_next ?k__law_next ?a__law_product ?l__law_product ?c__law_product ?k__law_product ?a__law_put ?l__law_put ?c__law_put ?k__law_put ?a__law_told ?l__law_told ?c__law_told ?k__law_told ?a_law ?l_law ?c_law ?k_law ?a_GraftError ?a_BadNumber ?a_NoAnswer ?k_GraftError ?x_GraftError ?s_GraftError ?t_GraftError ?e1_GraftError ?e2_GraftError ?e3_GraftError ?e4_GraftError ?e5_GraftError ?u_GraftError_GraftError ?u_GraftError_BadNumber ?u_GraftError_NoAnswer ?k_BadNumber ?x_BadNumber ?s_BadNumber ?t_BadNumber ?e1_BadNumber ?e2_BadNumber ?e3_BadNumber ?e4_BadNumber ?e5_BadNumber ?u_BadNumber_GraftError ?u_BadNumber_BadNumber ?u_BadNumber_NoAnswer ?k_NoAnswer ?x_NoAnswer ?s_NoAnswer ?t_NoAnswer ?e1_NoAnswer ?e2_NoAnswer ?e3_NoAnswer ?e4_NoAnswer ?e5_NoAnswer ?u_NoAnswer_GraftError ?u_NoAnswer_BadNumber ?u_NoAnswer_NoAnswer ?sp1 ?sp2 ?a_MOST_TERMS ?v_MOST_TERMS ?m_all ?m_enumerate ?m_int ?m_isinstance ?m_len ?m_list ?m_range ?m_repr ?m_zip
    (case a__check_series => k_is)
    (case l__check_series => k_is)
    (case c__check_series => k_is)
    (case k__check_series => k_is)
    (case a__check_alike_long => k_is)
    (case l__check_alike_long => k_is)
    (case c__check_alike_long => k_is)
    (case k__check_alike_long => k_is)
    (case a_added_series => k_is)
    (case l_added_series => k_is)
    (case c_added_series => k_is)
    (case k_added_series => k_is)
    (case a_multiplied_series => k_is)
    (case l_multiplied_series => k_is)
    (case c_multiplied_series => k_is)
    (case k_multiplied_series => k_is)
    (case a_put_into => k_is)
    (case l_put_into => k_is)
    (case c_put_into => k_is)
    (case k_put_into => k_is)
    (case a_undoing => k_is)
    (case l_undoing => k_is)
    (case c_undoing => k_is)
    (case k_undoing => k_is)
    (case a_turned_signs => k_is)
    (case l_turned_signs => k_is)
    (case c_turned_signs => k_is)
    (case k_turned_signs => k_is)
    (case a__law_plain => k_is)
    (case l__law_plain => k_is)
    (case c__law_plain => k_is)
    (case k__law_plain => k_is)
    (case a__law_draws => k_is)
    (case l__law_draws => k_is)
    (case c__law_draws => k_is)
    (case k__law_draws => k_is)
    (case a__law_next => k_is)
    (case l__law_next => k_is)
    (case c__law_next => k_is)
    (case k__law_next => k_is)
    (case a__law_product => k_is)
    (case l__law_product => k_is)
    (case c__law_product => k_is)
    (case k__law_product => k_is)
    (case a__law_put => k_is)
    (case l__law_put => k_is)
    (case c__law_put => k_is)
    (case k__law_put => k_is)
    (case a__law_told => k_is)
    (case l__law_told => k_is)
    (case c__law_told => k_is)
    (case k__law_told => k_is)
    (case a_law => k_is)
    (case l_law => k_is)
    (case c_law => k_is)
    (case k_law => k_is)
    (case a_GraftError => k_is)
    (case a_BadNumber => k_is)
    (case a_NoAnswer => k_is)
    (case k_GraftError => k_is)
    (case x_GraftError => k_exc)
    (case s_GraftError => k_is)
    (case t_GraftError => k_is)
    (case e1_GraftError => k_is)
    (case e2_GraftError => k_is)
    (case e3_GraftError => k_is)
    (case e4_GraftError => k_is)
    (case e5_GraftError => k_is)
    (case u_GraftError_GraftError => k_is)
    (case u_GraftError_BadNumber => k_is)
    (case u_GraftError_NoAnswer => k_is)
    (case k_BadNumber => k_is)
    (case x_BadNumber => k_exc)
    (case s_BadNumber => k_is)
    (case t_BadNumber => k_is)
    (case e1_BadNumber => k_is)
    (case e2_BadNumber => k_is)
    (case e3_BadNumber => k_is)
    (case e4_BadNumber => k_is)
    (case e5_BadNumber => k_is)
    (case u_BadNumber_GraftError => k_is)
    (case u_BadNumber_BadNumber => k_is)
    (case u_BadNumber_NoAnswer => k_is)
    (case k_NoAnswer => k_is)
    (case x_NoAnswer => k_exc)
    (case s_NoAnswer => k_is)
    (case t_NoAnswer => k_is)
    (case e1_NoAnswer => k_is)
    (case e2_NoAnswer => k_is)
    (case e3_NoAnswer => k_is)
    (case e4_NoAnswer => k_is)
    (case e5_NoAnswer => k_is)
    (case u_NoAnswer_GraftError => k_is)
    (case u_NoAnswer_BadNumber => k_is)
    (case u_NoAnswer_NoAnswer => k_is)
    (case sp1 => k_is)
    (case sp2 => k_is)
    (case a_MOST_TERMS => k_is)
    (case v_MOST_TERMS => first | exact ⟨_, rfl⟩ | exact ⟨by decide, by repeat (first | exact Gw.vs_nil | refine Gw.vs_int ?_ | refine Gw.vs_str ?_)⟩ | (repeat (first | exact Gw.vs_nil | refine Gw.vs_int ?_ | refine Gw.vs_str ?_)) | exact ⟨_, rfl⟩)
    (case m_all => k_is)
    (case m_enumerate => k_is)
    (case m_int => k_is)
    (case m_isinstance => k_is)
    (case m_len => k_is)
    (case m_list => k_is)
    (case m_range => k_is)
    (case m_repr => k_is)
    (case m_zip => k_is)
  case S =>
    intro K H a ns hl hS
    exact ⟨a, ns, rfl, hS, hl, fun _ => rfl⟩


