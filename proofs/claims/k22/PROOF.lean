import PyProof.Rows.All
import Wide.All
import OpenK.AllK
import Wide.FinOn
import PySem.Challenge.RW_fewspans_k22_whole_independent_demands_b
import HandS.ForMost
import HandS.Wide
import HandS.IsInst
import HandS.Conv
import HandS.TupLe
import HandS.Strs
import HandS.SetFor
import HandS.Style
import HandS.TupSets
import HandS.Keys
import HandS.Sort
import HandS.SortOrd
import HandS.SortRule
import HandS.SortKw
import HandS.SetBool
import HandS.TupAny
import HandS.Zip
import HandS.NoneIn
import HandS.Deep
import KE.GoesEnum
import KE.GoesMore
import HandS.Lambda
import HandS.CallLocal
import KE.DataCmp
import HandS.EndTab
import KE.KMinBuiltin
import HandS.TupMul
import PyProof.NeKinds
import HandS.Defaults
import HandS.MakeKwOnly
import HandS.OwnEq
import HandS.FStr
import KE.KCallOwn
set_option Elab.async false
set_option linter.all false
set_option maxRecDepth 100000
set_option maxHeartbeats 4000000
namespace L9
open PySem PySem.Spec PyProof.Rows L2

/-! ### set(xs), xs a list of ints: the library has it of tuples; the walk is a list's here -/
section
variable {P : Program} {w : World} {A : Around} {E : Value → Shared → Prop} {s : Shared}
abbrev noSet (w : World) : Obj := { cls := .type "set", dict := none, data := .set #[] 0 (.fresh 0 0 (!w.params.followText "set-order")) }
theorem setL_ints {l : Addr} {its : Array Value} (ns : List Int) {Q : Value → Shared → Prop} (quiet : A.handled = none) (isL : s.heap.IsList l its) (allI : IntsAre its.toList ns) (few : ns.length + 1 < scanBound)
    (fin : ∀ (h2 : Heap) (tk n : Nat), SetR w h2 s.heap.objs.size (fun j => decide (j ∈ ns)) n → n ≤ ns.length → (∀ b o, s.heap.get? b = some o → h2.get? b = some o) → Q (.ref s.heap.objs.size) { s with heap := h2, toks := tk }) :
    wpAny (model P w) A (call (.type "set") [.ref l]) Q E s := by
  have size : its.size = ns.length := by
    rw [← Array.length_toList]
    exact allI.length
  obtain ⟨cA, tA, mA⟩ := F.called_set.mro
  have f1 := F.called_set.made
  have f2 := F.called_set.sub
  refine wpAny_call (codeAny_of_tree (?_ : wpAny _ _ (callAny (.type "set") _) _ _ _))
  refine wpAny_pure (And.intro (Code.quiet_builtin _ (by decide +kernel)) (codeAny_builtin F.entry_type_call ?_))
  rw [Around.under_plain (weight_type_call_type "set" [Value.ref l] []) rfl]
  have f3 := F.called_set.notType
  have f4 := F.called_set.canCreate
  have f5 := F.typeCall_set_1 (Value.ref l)
  repeat any_goals first | assumption | wp_step
  refine codeAny_mono (code_set_led1 (.ref l) (E := E) (Q₁ := fun v s1 => v = .ref s.heap.objs.size ∧ s1 = { s with heap := s.heap.push (noSet w) }) (And.intro rfl rfl)) fun r s1 h1 => ?_
  match r, h1 with
  | .error e, h1 => exact h1
  | .ok (.ret v), h1 =>
    obtain ⟨rfl, rfl⟩ := h1
    have at0 : (s.heap.push (noSet w)).get? s.heap.objs.size = some (noSet w) := Heap.get?_push_size _ rfl
    have ty0 : Shared.TypeIs { s with heap := s.heap.push (noSet w) } (.ref s.heap.objs.size) "set" := Exists.intro _ (And.intro at0 rfl)
    have f6 := F.called_set.init.lookup
    have f7 := F.called_set.init.bind (Value.ref s.heap.objs.size)
    repeat any_goals first | assumption | wp_step
    let Z : Value → Shared → Prop := fun v s2 => v = .none ∧ ∃ h2 tk n, s2 = { s with heap := h2, toks := tk } ∧ SetR w h2 s.heap.objs.size (fun j => decide (j ∈ ns)) n ∧ n ≤ ns.length ∧ ∀ b o, s.heap.get? b = some o → h2.get? b = some o
    refine codeAny_mono (codeAny_call_builtin (R := wants Z E) F.called_set.init.plain F.entry_set_init (check_set_init_1 ty0 ?_)) fun r2 s2 h2 => ?_
    · obtain ⟨o, eo, ec, k, ed⟩ := isL
      obtain ⟨oc, od, oD, oS⟩ := o
      simp only at ec ed
      subst ec ed
      have lt : l < s.heap.objs.size := Heap.lt_size eo
      have eo1 : (s.heap.push (noSet w)).get? l = some { cls := .type "list", dict := od, data := .seq its k, slots := oS } := Heap.get?_push_of_some _ eo
      have g1 := F.sub_list_set
      have g2 := F.sub_list_frozenset
      have g3 : (Value.type "list" == Value.type "dict") = false := by decide
      have isL1 : (s.heap.push (noSet w)).IsList l its := Exists.intro _ (And.intro eo1 (And.intro rfl (Exists.intro k rfl)))
      unfold Builtin.«set.__init__» Builtin.Frozenset.updateFrom noKeywords
      generalize keep : pyIter = itr
      wp_walk
      subst keep
      refine wpAny_pyIter_list isL1 (wpAny_bind (wpAny_runValue ?_))
      have quiet3 : A.in1.in1.in1.handled = none := by simp [quiet]
      have sz : (s.heap.push (noSet w)).objs.size = s.heap.objs.size + 1 := Heap.size_push ..
      have lI : l ≠ (s.heap.push (noSet w)).objs.size := by
        rw [sz]
        exact Nat.ne_of_lt (Nat.lt_succ_of_lt lt)
      have out : s.heap.objs.size ∉ [(s.heap.push (noSet w)).objs.size, l] := by
        rw [sz]
        intro z
        rcases List.mem_cons.mp z with z | z
        · exact absurd z (Nat.ne_of_lt (Nat.lt_succ_self _))
        · exact absurd (List.mem_singleton.mp z) (Nat.ne_of_gt lt)
      have vals : ∀ (i : Nat) (v : Value), its[i]? = some v → ∃ j t, ns[i]? = some j ∧ v = .int j t := fun i v hv => by
        have lti : i < ns.length := by
          rw [← size]
          exact (Array.getElem?_eq_some_iff.mp hv).1
        obtain ⟨t, e⟩ := allI.int_at i v (by rw [Array.getElem?_toList]; exact hv)
        have en := List.getElem?_eq_getElem lti
        refine ⟨_, t, en, e.trans ?_⟩
        rw [List.getD_eq_getElem?_getD, en]
        rfl
      refine set_update_ints (Walks.list quiet3 _ l lI its).toS s.heap.objs.size out ns size few vals (its.size - 0) 0 _ rfl (Nat.zero_le _) (And.intro (Exists.intro _ (And.intro (Heap.get?_push_size _ rfl) (And.intro rfl rfl))) (isL1.push _)) ?start ?last
      case start =>
        exact ⟨0, Nat.le_refl _, setR_new_at (Heap.get?_push_of_some _ at0)⟩
      case last =>
        intro s3 n mv le R
        obtain ⟨h3, g3', d3, tk3, o3⟩ := s3
        have m1 : g3' = s.gens := mv.gens
        have m2 : d3 = s.drawn := mv.drawn
        have m3 : o3 = s.os := mv.os
        subst m1 m2 m3
        refine wpAny_pure (?_ : wpAny _ _ (ret Value.none) _ _ _)
        rw [size] at le
        refine wpAny_pure (And.intro rfl ⟨h3, tk3, n, rfl, R, le, fun b o e => ?_⟩)
        have lb := Heap.lt_size e
        refine mv.heap b o (fun z => ?_) (Heap.get?_push_of_some _ (Heap.get?_push_of_some _ e))
        rcases List.mem_cons.mp z with z | z
        · exact absurd z (Nat.ne_of_lt lb)
        · have z1 := List.mem_singleton.mp z
          rw [sz] at z1
          exact absurd z1 (Nat.ne_of_lt (Nat.lt_succ_of_lt lb))
    · match r2, h2 with
      | .error e, h2 => exact h2
      | .ok (.ret v), h2 =>
        obtain ⟨rfl, h', tk, n, rfl, R, le, kp⟩ := h2
        repeat any_goals first | assumption | wp_step
        exact fin h' tk n R le kp
      | .ok .next, h2 => exact h2
      | .ok .brk, h2 => exact h2
      | .ok .cont, h2 => exact h2
  | .ok .next, h1 => exact h1
  | .ok .brk, h1 => exact h1
  | .ok .cont, h1 => exact h1
end
section
variable {X : Cx}
def rSetOfI (K : PySem.W.Frag) (w : World) : List V → Hp → VK → Prop := fun xs H Q => ∃ (l : Addr) (ns : List Int), xs = [V.ref l] ∧ SqL K H l (ns.map V.int) ∧ ns.length < 60 ∧
  ∀ (H' : Hp) a n, Same H H' → H a = none → H' a = some (SetO w a (fun j => decide (j ∈ ns)) n) → n ≤ ns.length → Q (.ref a) H'
theorem cr_setOfI (calm : X.calm = true) : CallR X (.type "set") (rSetOfI X.K X.w) := by
  intro pins s σ H xs us Q I r h
  obtain ⟨l, ns, rfl, hl, few, q⟩ := h
  rw [Vals.ref1 r]
  obtain ⟨its, rv, pl, _⟩ := I.list hl
  refine setL_ints (P := X.prog) (w := X.w) ns (I.ok.hd calm) pl.isList (ints_of_vals rv) (by unfold scanBound; omega) fun h2 tk n R le kp => ?_
  exact ⟨.ref s.heap.objs.size, _, I.laid (t' := tk) kp (Nat.le_refl _) (setO_new R), rfl, q _ _ n (fun b x e => by rw [upd_ne (ne_of_none e (I.hok.fresh (Nat.le_refl _)))]; exact e) (I.hok.fresh (Nat.le_refl _)) upd_same le⟩
end

/-! ### set(t), t a tuple of tuples of ints: the library has it of lists; the walk is a tuple's here -/
section
variable {P : Program} {w : World} {A : Around} {E : Value → Shared → Prop} {s : Shared}
abbrev noSetT (w : World) : Obj := { cls := .type "set", dict := none, data := .set #[] 0 (.fresh 0 0 (!w.params.followText "set-order")) }
theorem setT_tups {l : Addr} {its : Array Value} (ks : List (Addr × List Int)) {Q : Value → Shared → Prop} (quiet : A.handled = none) (isT : s.heap.IsTuple l its) (refs : its.toList = ks.map fun p => Value.ref p.1)
    (tk : ∀ p ∈ ks, IsT P w s.heap p.2 p.1) (few : ks.length < 64) (un : A.units + 3 < cLine)
    (fin : ∀ (h2 : Heap) (tk : Nat) L es ep t, SetTR P w h2 s.heap.objs.size L es ep t → Got ks ks.length L → (∀ b o, s.heap.get? b = some o → h2.get? b = some o) → Q (.ref s.heap.objs.size) { s with heap := h2, toks := tk }) :
    wpAny (model P w) A (call (.type "set") [.ref l]) Q E s := by
  have size : its.size = ks.length := by
    rw [← Array.length_toList, refs, List.length_map]
  obtain ⟨cA, tA, mA⟩ := F.called_set.mro
  have f1 := F.called_set.made
  have f2 := F.called_set.sub
  refine wpAny_call (codeAny_of_tree (?_ : wpAny _ _ (callAny (.type "set") _) _ _ _))
  refine wpAny_pure (And.intro (Code.quiet_builtin _ (by decide +kernel)) (codeAny_builtin F.entry_type_call ?_))
  rw [Around.under_plain (weight_type_call_type "set" [Value.ref l] []) rfl]
  have f3 := F.called_set.notType
  have f4 := F.called_set.canCreate
  have f5 := F.typeCall_set_1 (Value.ref l)
  repeat any_goals first | assumption | wp_step
  refine codeAny_mono (code_set_led1 (.ref l) (E := E) (Q₁ := fun v s1 => v = .ref s.heap.objs.size ∧ s1 = { s with heap := s.heap.push (noSetT w) }) (And.intro rfl rfl)) fun r s1 h1 => ?_
  match r, h1 with
  | .error e, h1 => exact h1
  | .ok (.ret v), h1 =>
    obtain ⟨rfl, rfl⟩ := h1
    have at0 : (s.heap.push (noSetT w)).get? s.heap.objs.size = some (noSetT w) := Heap.get?_push_size _ rfl
    have ty0 : Shared.TypeIs { s with heap := s.heap.push (noSetT w) } (.ref s.heap.objs.size) "set" := Exists.intro _ (And.intro at0 rfl)
    have f6 := F.called_set.init.lookup
    have f7 := F.called_set.init.bind (Value.ref s.heap.objs.size)
    repeat any_goals first | assumption | wp_step
    let Z : Value → Shared → Prop := fun v s2 => v = .none ∧ ∃ h2 tk L es ep t, s2 = { s with heap := h2, toks := tk } ∧ SetTR P w h2 s.heap.objs.size L es ep t ∧ Got ks ks.length L ∧ ∀ b o, s.heap.get? b = some o → h2.get? b = some o
    refine codeAny_mono (codeAny_call_builtin (R := wants Z E) F.called_set.init.plain F.entry_set_init (check_set_init_1 ty0 ?_)) fun r2 s2 h2 => ?_
    · obtain ⟨o, eo, ec, k, ed⟩ := isT
      obtain ⟨oc, od, oD, oS⟩ := o
      simp only at ec ed
      subst ec ed
      have lt : l < s.heap.objs.size := Heap.lt_size eo
      have eo1 : (s.heap.push (noSetT w)).get? l = some { cls := .type "tuple", dict := od, data := .seq its k, slots := oS } := Heap.get?_push_of_some _ eo
      have g1 := F.sub_tuple_set
      have g2 := F.sub_tuple_frozenset
      have g3 : (Value.type "tuple" == Value.type "dict") = false := by decide
      have isT1 : (s.heap.push (noSetT w)).IsTuple l its := Exists.intro _ (And.intro eo1 (And.intro rfl (Exists.intro k rfl)))
      unfold Builtin.«set.__init__» Builtin.Frozenset.updateFrom noKeywords
      generalize keep : pyIter = itr
      wp_walk
      subst keep
      refine wpAny_pyIter_tuple isT1 (wpAny_bind (wpAny_runValue ?_))
      have quiet3 : A.in1.in1.in1.handled = none := by simp [quiet]
      have sz : (s.heap.push (noSetT w)).objs.size = s.heap.objs.size + 1 := Heap.size_push ..
      have lI : l ≠ (s.heap.push (noSetT w)).objs.size := by
        rw [sz]
        exact Nat.ne_of_lt (Nat.lt_succ_of_lt lt)
      have out : s.heap.objs.size ∉ [(s.heap.push (noSetT w)).objs.size, l] := by
        rw [sz]
        intro z
        rcases List.mem_cons.mp z with z | z
        · exact absurd z (Nat.ne_of_lt (Nat.lt_succ_self _))
        · exact absurd (List.mem_singleton.mp z) (Nat.ne_of_gt lt)
      have vals : ∀ (i : Nat) (v : Value), its[i]? = some v → ∃ p, ks[i]? = some p ∧ v = .ref p.1 := fun i v hv => by
        have z : its.toList[i]? = some v := by
          rw [Array.getElem?_toList]
          exact hv
        rw [refs, List.getElem?_map] at z
        obtain ⟨p, e1, e2⟩ := Option.map_eq_some_iff.mp z
        exact Exists.intro p (And.intro e1 e2.symm)
      have beyond : ∀ b, s.heap.objs.size ≤ b → s.heap.get? b = none := fun b hb => by
        cases z : s.heap.get? b with
        | none => rfl
        | some o => exact (Nat.lt_irrefl _ (Nat.lt_of_lt_of_le (Heap.lt_size z) hb)).elim
      refine set_update_tups (Walks.tuple quiet3 _ l lI its).toS s.heap.objs.size out ks size few vals s.heap tk (beyond _ (Nat.le_refl _)) (fun b hb => beyond b ?_) un (its.size - 0) 0 _ rfl (Nat.zero_le _) (And.intro (Exists.intro _ (And.intro (Heap.get?_push_size _ rfl) (And.intro rfl rfl))) (isT1.push _)) (fun b o e => Heap.get?_push_of_some _ (Heap.get?_push_of_some _ e)) ?start ?last
      · rw [List.mem_singleton.mp hb, sz]
        exact Nat.le_succ _
      case start =>
        exact ⟨[], #[], 0, _, setTR_fresh (Heap.get?_push_of_some _ at0), Got.zero ks⟩
      case last =>
        intro s3 L es ep t mv R got kp
        obtain ⟨h3, g3', d3, tk3, o3⟩ := s3
        have m1 : g3' = s.gens := mv.gens
        have m2 : d3 = s.drawn := mv.drawn
        have m3 : o3 = s.os := mv.os
        subst m1 m2 m3
        refine wpAny_pure (?_ : wpAny _ _ (ret Value.none) _ _ _)
        rw [size] at got
        exact wpAny_pure (And.intro rfl ⟨h3, tk3, L, es, ep, t, rfl, R, got, kp⟩)
    · match r2, h2 with
      | .error e, h2 => exact h2
      | .ok (.ret v), h2 =>
        obtain ⟨rfl, h', tk, L, es, ep, t, rfl, R, got, kp⟩ := h2
        repeat any_goals first | assumption | wp_step
        exact fin h' tk L es ep t R got kp
      | .ok .next, h2 => exact h2
      | .ok .brk, h2 => exact h2
      | .ok .cont, h2 => exact h2
  | .ok .next, h1 => exact h1
  | .ok .brk, h1 => exact h1
  | .ok .cont, h1 => exact h1
end
section
variable {X : Cx}
def rSetOfTT (K : PySem.W.Frag) (P : Program) (w : World) : List V → Hp → VK → Prop := fun xs H Q => ∃ (l : Addr) (ks : List (Addr × List Int)), xs = [V.ref l] ∧ SqT K H l (ks.map fun p => V.ref p.1) ∧ (∀ p ∈ ks, SqT K H p.1 (p.2.map V.int)) ∧ ks.length < 64 ∧
  ∀ a L, H a = none → (∀ p ∈ L, p ∈ ks) → (∀ p ∈ ks, p.2 ∈ L.map (·.2)) → Q (.ref a) (upd H a (SetTO P w a L))
theorem cr_setOfTT (calm : X.calm = true) (units : X.A.units + 64 < cLine) : CallR X (.type "set") (rSetOfTT X.K X.prog X.w) := by
  intro pins s σ H xs us Q I r h
  obtain ⟨l, ks, rfl, hl, hk, few, q⟩ := h
  rw [Vals.ref1 r]
  obtain ⟨its, rv, pl, _⟩ := I.tuple hl
  have nn : H s.heap.objs.size = none := I.hok.fresh (Nat.le_refl _)
  refine setT_tups (P := X.prog) (w := X.w) (its := its.toArray) ks (I.ok.hd calm) pl (by simpa using refs_of_vals rv) (fun p hp => I.isT (hk p hp)) few (by omega) fun h2 tk L es ep t R got kp => ?_
  exact ⟨.ref s.heap.objs.size, _, I.laid (t' := tk) kp (Nat.le_refl _) (setTO_new R.t0), rfl, q _ L nn (fun p hp => List.mem_of_mem_take (got.sub p hp)) (fun p hp => got.all p (by rw [List.take_length]; exact hp))⟩
end

/-- a statement that is never come to -/
theorem ps_never {X : Cx} {st : Stmt} : PS X st (fun _ _ _ => False) := ⟨fun _ _ _ _ _ _ h => h.elim⟩

/-! ### defs that are run where no text-making of the machine is under way (repr, str of nested data ask for it) -/
abbrev Quiet (A : Around) : Prop := A.guards = some []
structure FnG (P : Program) (w : World) (K : PySem.W.Frag) (mg : Str → Option Value) (base : Heap) (k : Nat) (f : Addr) (fd : FuncData) (ps : List Str) (sp : Sp) : Prop where
  size : ∀ {vs H Q}, sp vs H Q E0 → vs.length = ps.length
  go : ∀ {A outer s H us vs Q}, Room k A → Quiet A → Env0 P w K mg base A outer s H → BindsTo s fd ⟨us, []⟩ (ps.zip us) → Vals vs us → sp vs H Q E0 →
    codeAny (model P w) A (.call (.ref f) ⟨us, []⟩) (CR CX0 outer P w H s Q E0) s
section
variable {P : Program} {w : World} {K : PySem.W.Frag} {mg : Str → Option Value} {base : Heap}
theorem FnG.of {x qual : Str} {st : Stmt} {f : Addr} {fd : FuncData} {N ps : List Str} {k : Nat} {sp : Sp} (F : Fun K x qual st f fd) (S : FnScope N ps (defScope st))
    (size : ∀ {vs H Q}, sp vs H Q E0 → vs.length = ps.length)
    (body : ∀ cdv A outer s H vs Q, Room k (A.deeper (envOfC qual (defScope st) s.heap.objs.size f cdv)) → Quiet (A.deeper (envOfC qual (defScope st) s.heap.objs.size f cdv)) → sp vs H Q E0 →
      ∃ t, PSs (cxOf CX0 P w K mg base N qual (defScope st) f cdv A outer s H E0).nox (defBody st) t ∧ t { nx := fun _ H' => Q .non H', rt := Q } (start N vs) H) :
    FnG P w K mg base (k + 1) f fd ps sp := by
  obtain ⟨oc, od, kV, doc, pm, an, cdv, ct, osl, rfl, look, code⟩ := F.ex
  constructor
  · exact size
  intro A outer s H us vs Q room quiet e0 bind rel want
  have inH : K.In s.heap := e0.mod.kin.keeps fun b o q => (e0.bs b o q).1
  have lim := e0.mod.nolimit.keeps (fun b o q => (e0.bs b o q).1)
  have kinds : ∀ y ∈ ps.zip us, (defScope st).names.lookup y.1 = some .local ∨ ((defScope st).names.lookup y.1 = some .cell ∧ ((cellsFrom (s.heap.objs.size + 1) (defScope st).names []).lookup y.1).isSome = true) := by
    rintro ⟨n, v⟩ hy
    have hn := (List.of_mem_zip hy).1
    cases S.par n hn with
    | inl q => exact Or.inl q
    | inr q => exact Or.inr ⟨q, PySem.W.cellsFrom_some _ _ _ (Or.inl q)⟩
  apply codeAny_call_function room.depth (inH _ _ look) rfl S.co S.gen rfl (PySem.W.codeRec_of inH code)
  apply bind
  apply wpAny_newFunctionEnv_cells S.kind kinds
  intro env he s1 x
  subst he
  refine And.intro (lim.keeps x.toInCall.keep) (codeAny_func ?_)
  obtain ⟨t, ht, hq⟩ := body cdv A outer s H vs Q (room.deeper _) quiet want
  have I := inv_start (CX := CX0) (E := E0) S room.hd e0 (size want) rel x
  apply wpAny_mono (ht.nox.run [] s1 (start N vs) H _ I hq)
  · intro fl s' hs
    cases fl with
    | ret u =>
      obtain ⟨v, σ', H', J, rv, q⟩ := hs
      exact Exists.intro v ⟨H', J.os, J.bare, J.base, J.hok, rv, q⟩
    | next =>
      obtain ⟨σ', H', J, q⟩ := hs
      exact Exists.intro V.non ⟨H', J.os, J.bare, J.base, J.hok, rfl, q⟩
    | brk => exact hs.elim fun _ h => h.elim fun _ h => h.2.elim
    | cont => exact hs.elim fun _ h => h.elim fun _ h => h.2.elim
  · intro e s' hs
    exact hs
end
section
variable {X : Cx} {k : Nat} {f : Addr} {fd : FuncData} {ps : List Str} {sp : Sp} {x : Str} {p pos : Pos} {e : Expr} {es : List Expr} {t : TA}
theorem pe_callG (F : FnG X.prog X.w X.K X.mg X.base k f fd ps sp) (room : Room k X.A) (quiet : Quiet X.A) (hg : Gl X x) (hm : X.mg x = some (.ref f)) (keep : PySem.W.keepIn X.K (.ref f) = true) (bind : Binds X.K fd ps [])
    (args : PA X (e :: es) t) (hdb : (x == ("__debug__" : Str)) = false := by decide) (star : starEach (e :: es) X.env = (false, eval e X.env) :: starEach es X.env := by rfl) (plain : (backTo pos (starEach es X.env)).any (·.1) = false := by rfl) :
    PE X (.Call (.Name x p) (e :: es) [] pos) (tCall sp [] E0 t) := by
  constructor
  intro pins s σ H Q I h
  apply wpAny_Call_Name_kw
  apply ld_glob I hg hm _ hdb
  apply PySem.W.callWith_K (h₀ := X.base) I.ok.mod.kin keep _ star plain
  apply thn (args.run pos pins s σ H _ I h)
  rintro us s1 ⟨vs, H1, I1, rel, q⟩
  refine And.intro I1.kIn ?_
  have q' : sp vs H1 Q E0 := by
    have z := q
    rw [List.append_nil] at z
    exact z
  have same : us.length = ps.length := rel.length.symm.trans (F.size q')
  have b := bind s1 us I1.kIn (by rw [List.append_nil]; exact same)
  rw [List.append_nil] at b
  apply wpAny_call
  apply codeAny_mono (F.go room quiet I1.env0 b rel q')
  intro r s' hr
  match r, hr with
  | .error _, hr => exact hr.elim
  | .ok (.ret u), hr => exact I1.after hr
  | .ok .next, hr => exact False.elim hr
  | .ok .brk, hr => exact False.elim hr
  | .ok .cont, hr => exact False.elim hr
end
/-! ### repr of data at any depth -/
structure Sm (n dp : Nat) (d : PyData) : Prop where
  shows : d.showable = true
  short : d.leavesShort 40 = true
  small : d.weight ≤ n
  flat : d.depth ≤ dp
theorem Sm.mono {n m dp dq : Nat} {d : PyData} (h : Sm n dp d) (h1 : n ≤ m) (h2 : dp ≤ dq) : Sm m dq d := ⟨h.shows, h.short, Nat.le_trans h.small h1, Nat.le_trans h.flat h2⟩
theorem Sm.none : Sm 0 0 .none := ⟨rfl, rfl, Nat.le_refl _, Nat.le_refl _⟩
theorem Sm.bool (b : Bool) : Sm 0 0 (.bool b) := ⟨rfl, rfl, Nat.le_refl _, Nat.le_refl _⟩
theorem log2_small {i : Int} (h : i.natAbs < 10 ^ 30) : i.natAbs.log2 < 100 := PySem.Flt.log2_lt_of (by decide) (Nat.lt_trans h (by decide))
theorem Sm.int {i : Int} (h : i.natAbs < 10 ^ 30) : Sm 100 0 (.int i) := by
  have l := log2_small h
  refine ⟨decide_eq_true (Nat.lt_trans l (by decide)), decide_eq_true ?_, ?_, Nat.le_refl _⟩
  · have q := int_text_length_le10 (a := i) (k := 30) (by decide) h
    show (Str.ofString (toString i)).length ≤ 40
    rw [PySem.ofString_length]
    exact Nat.le_trans q (by decide)
  · show (if i == 0 then 0 else i.natAbs.log2 + 1) ≤ 100
    split <;> omega
theorem smAll {n dp : Nat} : ∀ {ds : List PyData}, (∀ d ∈ ds, Sm n dp d) → PyData.showableAll ds = true ∧ PyData.leavesShortAll 40 ds = true ∧ PyData.weightAll ds ≤ ds.length * (n + 1) ∧ PyData.depthAll ds ≤ dp
  | [], _ => ⟨rfl, rfl, Nat.zero_le _, Nat.zero_le _⟩
  | d :: ds, h => by
    obtain ⟨a, b, c, e⟩ := smAll (ds := ds) fun x hx => h x (List.mem_cons_of_mem _ hx)
    have z := h d List.mem_cons_self
    refine ⟨?_, ?_, ?_, ?_⟩
    · show (d.showable && PyData.showableAll ds) = true
      rw [z.shows, a]
      rfl
    · show (d.leavesShort 40 && PyData.leavesShortAll 40 ds) = true
      rw [z.short, b]
      rfl
    · show d.weight + 1 + PyData.weightAll ds ≤ (ds.length + 1) * (n + 1)
      have := z.small
      rw [Nat.add_mul]
      omega
    · show max d.depth (PyData.depthAll ds) ≤ dp
      exact Nat.max_le.mpr ⟨z.flat, e⟩
theorem Sm.tup {n dp : Nat} {ds : List PyData} (h : ∀ d ∈ ds, Sm n dp d) : Sm (ds.length * (n + 1)) (dp + 1) (.tuple ds) :=
  let ⟨a, b, c, e⟩ := smAll h
  ⟨a, b, c, Nat.succ_le_succ e⟩
theorem Sm.lst {n dp : Nat} {ds : List PyData} (h : ∀ d ∈ ds, Sm n dp d) : Sm (ds.length * (n + 1)) (dp + 1) (.list ds) :=
  let ⟨a, b, c, e⟩ := smAll h
  ⟨a, b, c, Nat.succ_le_succ e⟩
theorem Sm.fits {n dp : Nat} {d : PyData} (h : Sm n dp d) (hn : n ≤ 300000) : d.shown.length ≤ sizeLine := by
  have q := PyData.shown_le 40 (by decide) d h.short
  have := h.small
  have e : sizeLine = 16777216 := by decide
  rw [e]
  omega
/-- data with dicts in it; its lists stand in the heap by themselves -/
def keyD : Key → PyData
  | .inl i => .int i
  | .inr x => .str x
mutual
inductive Dv (K : PySem.W.Frag) (H : Hp) : V → PyData → Prop
  | non : Dv K H .non .none
  | bl (b : Bool) : Dv K H (.bl b) (.bool b)
  | int (i : Int) : Dv K H (.int i) (.int i)
  | str (x : Str) : Dv K H (.str x) (.str x)
  | lst {a : Addr} {xs : List V} {ds : List PyData} : H a = some (.lst xs) → DvAll K H xs ds → Dv K H (.ref a) (.list ds)
  | tup {a : Addr} {xs : List V} {ds : List PyData} : H a = some (.tup xs) → DvAll K H xs ds → Dv K H (.ref a) (.tuple ds)
  | dic {a : Addr} {kvs : List (Key × V)} {ds : List PyData} : H a = some (.dK kvs) → DvAll K H (kvs.map (·.2)) ds → Dv K H (.ref a) (.dict ((kvs.map fun p => keyD p.1).zip ds))
inductive DvAll (K : PySem.W.Frag) (H : Hp) : List V → List PyData → Prop
  | nil : DvAll K H [] []
  | cons {v : V} {vs : List V} {d : PyData} {ds : List PyData} : Dv K H v d → DvAll K H vs ds → DvAll K H (v :: vs) (d :: ds)
end
theorem DvAll.length {K : PySem.W.Frag} {H : Hp} : ∀ {vs : List V} {ds : List PyData}, DvAll K H vs ds → vs.length = ds.length
  | _, _, .nil => rfl
  | _, _, .cons _ h => by rw [List.length_cons, List.length_cons, h.length]
theorem keys_read {P : Program} {w : World} {h : Heap} : ∀ {es : List DictEntry} {vs : List (Key × Value)}, Pairs (mixKind P w) es vs → ReadsAll h (es.map (·.key)) (vs.map fun p => keyD p.1) []
  | _, _, .nil => .nil
  | _, _, .cons (e := e) (kv := kv) hk _ r => by
    have one : Reads h e.key (keyD kv.1) [] := by
      rcases keyIs_shape hk with ⟨i, t, e1, e2⟩ | ⟨x, t, e1, e2⟩
      · rw [e1, e2]
        exact .int i t
      · rw [e1, e2]
        exact .str x t
    exact ReadsAll.cons one (keys_read r)
theorem vals_read {P : Program} {w : World} : ∀ {es : List DictEntry} {vs : List (Key × Value)}, Pairs (mixKind P w) es vs → es.map (·.val) = vs.map (·.2)
  | _, _, .nil => rfl
  | _, _, .cons _ hv r => by rw [List.map_cons, List.map_cons, hv, vals_read r]
theorem kv_vals : ∀ {kvs : List (Key × V)} {vs : List (Key × Value)}, KV kvs vs → Vals (kvs.map (·.2)) (vs.map (·.2)) ∧ (vs.map fun p => keyD p.1) = kvs.map fun p => keyD p.1
  | _, _, .nil => ⟨.nil, rfl⟩
  | _, _, .cons h r => by
    obtain ⟨a, b⟩ := kv_vals r
    refine ⟨.cons h.2 a, ?_⟩
    rw [List.map_cons, List.map_cons, b, h.1]
section
variable {X : Cx} {pins : List (Addr × Obj)} {σ : L2.St} {H : Hp} {s : Shared}
theorem Dv.reads (I : Inv X pins σ H s) (mods : ∃ mm, X.base.Ns sysModules mm) {v : V} {d : PyData} (h : Dv X.K H v d) : ∀ u : Value, RelV v u → ∃ as, Reads s.heap u d as ∧ sysModules ∉ as := by
  have free : H sysModules = none := by
    obtain ⟨mm, o, es, ep, e, _⟩ := mods
    exact (I.bs _ o e).2
  refine Dv.rec (K := X.K) (H := H) (motive_1 := fun v d _ => ∀ u : Value, RelV v u → ∃ as, Reads s.heap u d as ∧ sysModules ∉ as) (motive_2 := fun vs ds _ => ∀ us : List Value, Vals vs us → ∃ as, ReadsAll s.heap us ds as ∧ sysModules ∉ as) ?_ ?_ ?_ ?_ ?_ ?_ ?_ ?_ ?_ h
  · intro u r
    cases r
    exact ⟨_, .none, fun z => nomatch z⟩
  · intro b u r
    cases r
    exact ⟨_, .bool b, fun z => nomatch z⟩
  · intro i u r
    obtain ⟨t, rfl⟩ := r
    exact ⟨_, .int i t, fun z => nomatch z⟩
  · intro x u r
    obtain ⟨t, rfl⟩ := r
    exact ⟨_, .str x t, fun z => nomatch z⟩
  · intro a xs ds e _ ih u r
    cases r
    obtain ⟨_, its, n, rv, q⟩ := I.hok a _ e
    obtain ⟨as, ra, na⟩ := ih _ rv
    refine ⟨a :: as, .list q rfl rfl (by simpa using ra), fun z => ?_⟩
    rcases List.mem_cons.mp z with z | z
    · rw [← z, free] at e
      cases e
    · exact na z
  · intro a xs ds e _ ih u r
    cases r
    obtain ⟨_, its, rv, o, ho, hc, n, hd⟩ := I.hok a _ e
    obtain ⟨as, ra, na⟩ := ih _ rv
    exact ⟨as, .tuple ho hc hd (by simpa using ra), na⟩
  · intro a kvs ds e hall ih u r
    cases r
    obtain ⟨_, hne, vs, kv, o, es, ep, ho, ex, hd, _, prs, _⟩ := I.hok a _ e
    obtain ⟨rv, ek⟩ := kv_vals kv
    obtain ⟨as, ra, na⟩ := ih _ rv
    have len : (kvs.map fun p => keyD p.1).length = ds.length := by
      have z := hall.length
      rw [List.length_map] at z
      rw [List.length_map, z]
    refine ⟨_, .dict ho ex.1 hd (as := []) (bs := as) ?_ ?_, fun z => ?_⟩
    · rw [List.map_fst_zip (by omega), ← ek]
      exact keys_read prs
    · rw [List.map_snd_zip (by omega), vals_read prs]
      exact ra
    · rcases List.mem_cons.mp z with z | z
      · rw [← z] at hne
        exact absurd hne (by decide)
      · exact na z
  · intro us r
    cases r
    exact ⟨_, .nil, fun z => nomatch z⟩
  · intro v vs d ds _ _ ih1 ih2 us r
    cases r with
    | cons r1 r2 =>
      obtain ⟨as, ra, na⟩ := ih1 _ r1
      obtain ⟨bs, rb, nb⟩ := ih2 _ r2
      refine ⟨_, .cons ra rb, fun z => ?_⟩
      rcases List.mem_append.mp z with z | z
      · exact na z
      · exact nb z
theorem call_reprV (mods : ∃ mm, X.base.Ns sysModules mm) (quiet : Quiet X.A) (units : X.A.units + 64 < cLine) : CallR X (.builtin "repr")
    (fun xs H Q => ∃ v d n dp, xs = [v] ∧ Dv X.K H v d ∧ Sm n dp d ∧ n ≤ 300000 ∧ dp ≤ 60 ∧ Q (.str d.shown) H) := by
  intro pins s σ H xs us Q I r h
  obtain ⟨v, d, n, dp, rfl, hd, sm, hn, hdp, q⟩ := h
  obtain ⟨u, rfl, ru⟩ := vals1 r
  have fits := sm.fits hn
  have flat := sm.flat
  obtain ⟨as, rd, off⟩ := Dv.reads I mods hd _ ru
  cases hd with
  | non =>
    cases ru
    exact PySem.P.repr_of_none ⟨.str _, H, I.tok _, ⟨_, rfl⟩, q⟩
  | bl b =>
    cases ru
    exact PySem.P.repr_of_bool ⟨.str _, H, I.tok _, ⟨_, rfl⟩, q⟩
  | int i =>
    obtain ⟨t, rfl⟩ := ru
    exact PySem.P.repr_of_int (of_decide_eq_true sm.shows) ⟨.str _, H, I.tok _, ⟨_, rfl⟩, q⟩
  | str x =>
    obtain ⟨t, rfl⟩ := ru
    exact PySem.P.repr_of_str ⟨.str _, H, I.tok _, ⟨_, rfl⟩, q⟩ fits
  | _ =>
    cases ru
    exact repr_of_reads' rd sm.shows (fun _ => off) quiet (by omega) (fun _ _ e => e) (fun h' t tk more => ⟨.str _, H, I.kept more, ⟨_, rfl⟩, q⟩) fits
end
theorem Dp.noDict {K : PySem.W.Frag} {H : Hp} {v : V} {d : PyData} (h : Dp K H v d) : d.hasDict = false := by
  refine Dp.rec (K := K) (H := H) (motive_1 := fun v d _ => d.hasDict = false) (motive_2 := fun vs ds _ => PyData.hasDictAll ds = false) ?_ ?_ ?_ ?_ ?_ ?_ ?_ ?_ h
  all_goals intros
  all_goals simp_all [PyData.hasDict, PyData.hasDictAll]
section
variable {X : Cx}
theorem call_reprD (quiet : Quiet X.A) (units : X.A.units + 64 < cLine) : CallR X (.builtin "repr")
    (fun xs H Q => ∃ v d n dp, xs = [v] ∧ Dp X.K H v d ∧ Sm n dp d ∧ n ≤ 300000 ∧ dp ≤ 60 ∧ Q (.str d.shown) H) := by
  intro pins s σ H xs us Q I r h
  obtain ⟨v, d, n, dp, rfl, hd, sm, hn, hdp, q⟩ := h
  obtain ⟨u, rfl, ru⟩ := vals1 r
  have fits := sm.fits hn
  have flat := sm.flat
  obtain ⟨as, rd⟩ := Dp.reads I d v u hd ru
  cases hd with
  | non =>
    cases ru
    exact PySem.P.repr_of_none ⟨.str _, H, I.tok _, ⟨_, rfl⟩, q⟩
  | bl b =>
    cases ru
    exact PySem.P.repr_of_bool ⟨.str _, H, I.tok _, ⟨_, rfl⟩, q⟩
  | int i =>
    obtain ⟨t, rfl⟩ := ru
    exact PySem.P.repr_of_int (of_decide_eq_true sm.shows) ⟨.str _, H, I.tok _, ⟨_, rfl⟩, q⟩
  | str x =>
    obtain ⟨t, rfl⟩ := ru
    exact PySem.P.repr_of_str ⟨.str _, H, I.tok _, ⟨_, rfl⟩, q⟩ fits
  | lst h1 h2 =>
    cases ru
    exact repr_of_reads' rd sm.shows (PyData.noDict_hsm (Dp.noDict (Dp.lst h1 h2))) quiet (by omega) (fun _ _ e => e) (fun h' t tk more => ⟨.str _, H, I.kept more, ⟨_, rfl⟩, q⟩) fits
  | tup h1 h2 =>
    cases ru
    exact repr_of_reads' rd sm.shows (PyData.noDict_hsm (Dp.noDict (Dp.tup h1 h2))) quiet (by omega) (fun _ _ e => e) (fun h' t tk more => ⟨.str _, H, I.kept more, ⟨_, rfl⟩, q⟩) fits
end
/-! ### the end of a law row whose def is of the quiet kind -/
theorem quiet_law {P : Program} {w : World} {K : PySem.W.Frag} {mg mb : Str → Option Value} {k : Nat} {fa a : Addr} {fd : FuncData} {x : Str} {sp : Sp} {s₁ : Shared} {vs : List Value} {ns : List Int}
    (inK : K.In s₁.heap) (glob : s₁.heap.Ns mainGlobals mg) (blt : s₁.heap.Ns builtinsNs mb) (bltIs : ∀ y : Str, y ≠ "__name__" → mb y = bootBuiltins y) (lim : s₁.heap.NoLimit) (gens : s₁.gens = #[]) (mods : ∃ mm, s₁.heap.Ns sysModules mm)
    (here : s₁.heap.get? a = some { cls := .type "list", data := .seq vs.toArray }) (whole : IntsAre vs ns) (few : ns.length ≤ sizeLine) (room : Room k callerA)
    (F : ∀ base : Heap, K.In base → base.Ns mainGlobals mg → (∃ mm, base.Ns sysModules mm) → FnG P w K mg base k fa fd [x] sp) (bind : ∀ (s : Shared) (u : Value), BindsTo s fd ⟨[u], []⟩ [(x, u)])
    (want : ∀ H : Hp, Only H → SqL K H a (ns.map V.int) → sp [.ref a] H (fun v _ => v = .bl true) E0) :
    codeAny (model P w) callerA (.call (.ref fa) ⟨[.ref a], []⟩) (fun r s' => r = .ok (.ret (.bool true)) ∧ OldK s₁.heap s'.heap ∧ s'.os = s₁.os ∧ AllBare s'.gens) s₁ := by
  have rel := vals_ints whole
  -- H: the script alone, or nothing
  have main : ∀ H : Hp, Only H → SqL K H a (ns.map V.int) → HOk P w H s₁.heap → (∀ b u, H b = some u → b = a ∧ K.lookup b = none) →
      codeAny (model P w) callerA (.call (.ref fa) ⟨[.ref a], []⟩) (fun r s' => r = .ok (.ret (.bool true)) ∧ OldK s₁.heap s'.heap ∧ s'.os = s₁.os ∧ AllBare s'.gens) s₁ := by
    intro H only sq ok apart
    have untold : ∀ {b o}, s₁.heap.get? b = some o → (b = a → False) → H b = none := by
      intro b o e ne
      cases q : H b with
      | none => rfl
      | some u => exact (ne (apart b u q).1).elim
    have ns1 : ∀ {b m}, s₁.heap.Ns b m → (hidT s₁.heap H).Ns b m := by
      rintro b m ⟨o, es, ep, e, d, r⟩
      refine ⟨o, es, ep, hidT_get e (untold e fun z => ?_), d, r⟩
      subst z
      rw [here] at e
      cases e
      cases d
    have kIn : K.In (hidT s₁.heap H) := by
      intro b o e
      apply hidT_get (inK b o e)
      cases q : H b with
      | none => rfl
      | some u =>
        have z := (apart b u q).2
        rw [e] at z
        cases z
    have lim1 : (hidT s₁.heap H).NoLimit := by
      obtain ⟨mc, h1, h2⟩ := lim
      exact ⟨mc, ns1 h1, h2⟩
    have e0 : Env0 P w K mg (hidT s₁.heap H) callerA [] s₁ H := {
      frames := rfl, mod := ⟨kIn, ns1 glob, ⟨mb, ns1 blt, bltIs⟩, lim1⟩, bs := fun _ _ e => of_hidT e, bsz := Nat.le_of_eq (hidT_size _ _), funs := True.intro, frf := (fun _ hb => nomatch hb), hok := ok, bare := .of_eq gens }
    apply codeAny_mono ((F _ kIn (ns1 glob) (mods.elim fun mm h => ⟨mm, ns1 h⟩)).go (us := [.ref a]) (vs := [.ref a]) room rfl e0 (bind s₁ _) (.cons rfl .nil) (want H only sq))
    intro r s' hr
    match r, hr with
    | .error _, hr => exact hr.elim
    | .ok .next, hr => exact False.elim hr
    | .ok .brk, hr => exact False.elim hr
    | .ok .cont, hr => exact False.elim hr
    | .ok (.ret u), hr =>
      obtain ⟨v, H', os, bare, un, ok', rv, q⟩ := hr
      cases (show v = V.bl true from q)
      cases (show u = Value.bool true from rv)
      refine ⟨rfl, OldK.of_keep ?_, os, bare⟩
      intro b o e
      cases only b with
      | inl n => exact un.keep b o e n (fun z => nomatch z) (fun z => nomatch z)
      | inr n =>
        obtain ⟨ob, xs, z⟩ := n
        have e1 := (ok b _ z).1
        have e2 := (ok' b _ (un.frzs b ob _ z)).1
        rw [e] at e1
        cases e1
        exact e2
  have small : (ns.map V.int).length ≤ sizeLine := by rw [List.length_map]; exact few
  cases known : K.lookup a with
  | some o =>
    have e := inK a o known
    rw [here] at e
    cases e
    have sz : vs.length ≤ sizeLine := by rw [← rel.length]; exact small
    exact main (fun _ => none) (fun _ => .inl rfl) (.inr ⟨_, vs.toArray, _, known, rfl, rfl, rfl, by simpa using sz, by simpa using rel⟩) (fun _ _ z => nomatch z) (fun _ _ z => nomatch z)
  | none =>
    have at1 : ∀ {b u}, (if b = a then some (HO.frz { cls := .type "list", data := .seq vs.toArray } (.lst (ns.map V.int))) else none) = some u → b = a := by
      intro b u z
      by_cases hb : b = a
      · exact hb
      · rw [if_neg hb] at z
        cases z
    refine main (fun b => if b = a then some (.frz { cls := .type "list", data := .seq vs.toArray } (.lst (ns.map V.int))) else none) (fun b => ?_) (.inl (.inr ⟨{ cls := .type "list", data := .seq vs.toArray }, if_pos rfl⟩)) (fun b u z => ?_) (fun b u z => ?_)
    · by_cases hb : b = a
      · exact .inr ⟨_, _, if_pos hb⟩
      · exact .inl (if_neg hb)
    · have hb := at1 z
      subst hb
      have z2 := (if_pos rfl).symm.trans z
      cases z2
      exact ⟨here, small, vs, _, rel, here⟩
    · have hb := at1 z
      subst hb
      exact ⟨rfl, known⟩
theorem quiet_walk {l : PySem.W.OpenLaw} {n k : Nat} {q : Program} {loose : List Str} {XP : (Str → Option Value) → Heap → Prop} {YP : World → Heap → Prop} {d : DefRec} {K : Params → PySem.W.Frag} {sp : World → Sp} {x : Str}
    (noImport : importsNone q = true) (most : l.most = some n) (n2 : n ≤ sizeLine) (defaults : d.params.defaults = []) (room : Room k callerA) (hY : ∀ (w : World) (h : Heap), YP w h → (K w.params).In h)
    (F : ∀ (w : World) (mg : Str → Option Value) (fa : Addr) (h : Heap), (K w.params).In h → h.Ns mainGlobals mg → mg d.name = some (.ref fa) →
      ∃ fd : FuncData, (∀ (s : Shared) (u : Value), BindsTo s fd ⟨[u], []⟩ [(x, u)]) ∧ ∀ base : Heap, (K w.params).In base → base.Ns mainGlobals mg → (∃ mm, base.Ns sysModules mm) → FnG l.prog w (K w.params) mg base k fa fd [x] (sp w))
    (want : ∀ (w : World) (H : Hp) (a : Addr) (ns : List Int), ns.length ≤ n → Only H → SqL (K w.params) H a (ns.map V.int) → sp w [.ref a] H (fun v _ => v = .bl true) E0) :
    PySem.W.WalkO q loose XP YP l.row.toRowW d [] (fun f vs => PySem.call f vs) := by
  apply Att.attach_call most defaults
  intro w s₀ s₁ mg mb fa o pm cd doc a vs ns G Y ho hd hcd hmg hobj hints hlen hg
  obtain ⟨fd, hb, hF⟩ := F w mg fa _ (hY w _ Y) G.T.g hmg
  exact quiet_law (hY w _ Y) G.T.g G.T.b G.T.builtins G.T.nolimit hg ((G.T.seer noImport).mods.elim fun mm h => ⟨mm, h.1⟩) hobj hints (Nat.le_trans hlen n2) room hF hb fun H o1 s1 => want w H a ns hlen o1 s1

/-! ### a op1 b op2 c op3 .. : chains of any length -/
section
variable {X : Cx}
structure PCh (X : Cx) (ops : List CmpOp) (es : List Expr) (t : V → TE) : Prop where
  run : ∀ (pos : Pos) (pins : List (Addr × Obj)) (s : Shared) (σ : L2.St) (H : Hp) (Q : VK) (x : V) (v : Value), Inv X pins σ H s → RelV x v → t x σ H Q → wpAny (model X.prog X.w) X.A (compareChain pos v ops (evalEach es X.env)) (EP X pins σ Q) X.xe s
structure PChT (X : Cx) (ops : List CmpOp) (es : List Expr) (t : V → TE) : Prop where
  run : ∀ (pos : Pos) (pins : List (Addr × Obj)) (s : Shared) (σ : L2.St) (H : Hp) (Q : Bool → Hp → Prop) (x : V) (v : Value), Inv X pins σ H s → RelV x v → (t x σ H fun y H' => ∃ k, y = .bl k ∧ Q k H') → wpAny (model X.prog X.w) X.A (testChain pos v ops (evalEach es X.env)) (TP X pins σ Q) X.xe s
def tLast (r : R2) (tb : TE) : V → TE := fun x σ H Q => tb σ H fun y H2 => r x y H2 Q
def tLink (r : R2) (tb : TE) (rest : V → TE) : V → TE := fun x σ H Q => tb σ H fun y H2 => r x y H2 fun z H3 => ∃ k, z = .bl k ∧ (if k = true then rest y σ H3 Q else Q (.bl false) H3)
def tCh (ta : TE) (rest : V → TE) : TE := fun σ H Q => ta σ H fun x H1 => rest x σ H1 Q
theorem pch_last {op : CmpOp} {r : R2} {b : Expr} {tb : TE} (ho : OpR X (compareOp op) r) (hb : PE X b tb) : PCh X [op] [b] (tLast r tb) :=
  ⟨fun pos pins s σ H Q x v I rx h => chain_last (thn (hb.run pins s σ H _ I h) fun u s2 ⟨y, H2, I2, r2, q2⟩ => ho pins s2 σ H2 x y v u Q I2 rx r2 q2)⟩
theorem pch_link {op op' : CmpOp} {ops : List CmpOp} {r : R2} {b b' : Expr} {bs : List Expr} {tb : TE} {rest : V → TE} (ho : OpR X (compareOp op) r) (hb : PE X b tb) (hr : PCh X (op' :: ops) (b' :: bs) rest) : PCh X (op :: op' :: ops) (b :: b' :: bs) (tLink r tb rest) := by
  refine ⟨fun pos pins s σ H Q x v I rx h => ?_⟩
  refine chain_link (thn (hb.run pins s σ H _ I h) fun u s2 ⟨y, H2, I2, r2, q2⟩ => thn (ho pins s2 σ H2 x y v u _ I2 rx r2 q2) fun d s3 ⟨z, H3, I3, r3, k, e, q3⟩ => ?_)
  subst e
  cases r3
  refine wpAny_truthy_bool ?_
  cases k with
  | false => exact ite_ff ⟨.bl false, H3, I3, rfl, q3⟩
  | true => exact ite_tt (hr.run pos pins s3 σ H3 Q y u I3 r2 q3)
theorem pe_chN {op op' : CmpOp} {ops : List CmpOp} {a b b' : Expr} {bs : List Expr} {pos : Pos} {ta : TE} {rest : V → TE} (ha : PE X a ta) (hr : PCh X (op :: op' :: ops) (b :: b' :: bs) rest)
    (hm : lastMarks (op :: op' :: ops) (b :: b' :: bs) = false := by with_unfolding_all rfl) : PE X (.Compare a (op :: op' :: ops) (b :: b' :: bs) pos) (tCh ta rest) :=
  ⟨fun pins s σ H Q I h => Compare_chain (thn (ha.run pins s σ H _ I h) fun v s1 ⟨x, H1, I1, r1, q1⟩ => hr.run pos pins s1 σ H1 Q x v I1 r1 q1) hm⟩
theorem pchT_last {op : CmpOp} {r : R2} {b : Expr} {tb : TE} (ho : OpR X (compareOp op) r) (hb : PE X b tb) : PChT X [op] [b] (tLast r tb) := by
  refine ⟨fun pos pins s σ H Q x v I rx h => ?_⟩
  refine test_last (thn (hb.run pins s σ H _ I h) fun u s2 ⟨y, H2, I2, r2, q2⟩ => thn (ho pins s2 σ H2 x y v u _ I2 rx r2 q2) fun d s3 ⟨z, H3, I3, r3, k, e, q3⟩ => ?_)
  subst e
  cases r3
  exact wpAny_truthy_bool ⟨H3, I3, q3⟩
theorem pchT_link {op op' : CmpOp} {ops : List CmpOp} {r : R2} {b b' : Expr} {bs : List Expr} {tb : TE} {rest : V → TE} (ho : OpR X (compareOp op) r) (hb : PE X b tb) (hr : PChT X (op' :: ops) (b' :: bs) rest) : PChT X (op :: op' :: ops) (b :: b' :: bs) (tLink r tb rest) := by
  refine ⟨fun pos pins s σ H Q x v I rx h => ?_⟩
  refine test_link (thn (hb.run pins s σ H _ I h) fun u s2 ⟨y, H2, I2, r2, q2⟩ => thn (ho pins s2 σ H2 x y v u _ I2 rx r2 q2) fun d s3 ⟨z, H3, I3, r3, k, e, q3⟩ => ?_)
  subst e
  cases r3
  refine wpAny_truthy_bool ?_
  cases k with
  | false =>
    obtain ⟨k', e', q'⟩ := q3
    cases e'
    exact ite_ff ⟨H3, I3, q'⟩
  | true => exact ite_tt (hr.run pos pins s3 σ H3 Q y u I3 r2 q3)
theorem pt_chN {op op' : CmpOp} {ops : List CmpOp} {a b b' : Expr} {bs : List Expr} {pos : Pos} {ta : TE} {rest : V → TE} (ha : PE X a ta) (hr : PChT X (op :: op' :: ops) (b :: b' :: bs) rest)
    (hm : lastMarks (op :: op' :: ops) (b :: b' :: bs) = false := by with_unfolding_all rfl) : PT X (.Compare a (op :: op' :: ops) (b :: b' :: bs) pos) (tTest (tCh ta rest)) :=
  ⟨fun pins s σ H Q I h => isTrue_chain (thn (ha.run pins s σ H _ I h) fun v s1 ⟨x, H1, I1, r1, q1⟩ => hr.run pos pins s1 σ H1 Q x v I1 r1 q1) hm⟩
end

theorem pi_listK {X : Cx} {K : PySem.W.Frag} {tg l : Expr} {tl : TE} (hK : X.K = K) (hl : PE X l tl) : PI X tg l (iList K tl) := hK ▸ pi_list hl
theorem pi_tupK {X : Cx} {K : PySem.W.Frag} {tg l : Expr} {tl : TE} (hK : X.K = K) (hl : PE X l tl) : PI X tg l (iTup K tl) := hK ▸ pi_tup hl

/-! ### enumerate of a tuple -/
section
open Sem (wp)
set_option maxHeartbeats 4000000 in
theorem enum_of_tuple (t : Addr) (items : Array Value) : Meets (Builtin.«enumerate.__new__» ⟨[.type "enumerate", .ref t], []⟩) (fun _ R s => s.heap.IsTuple t items ∧
    R (.ok (.ret (.ref (s.heap.push { cls := .type "tuple_iterator", data := .fields #[.ref t, .int 0 0] }).objs.size)))
      { s with heap := (s.heap.push { cls := .type "tuple_iterator", data := .fields #[.ref t, .int 0 0] }).push { cls := .type "enumerate", data := .fields #[.none, .bool false, .ref s.heap.objs.size, rawInt 0, .none, .none] } }) := by
  refine .of_wp fun prog w A R s h => ?_
  obtain ⟨hp, g, d, tk, os⟩ := s
  obtain ⟨isT, h⟩ := h
  have sub := sub_enumerate
  have start : ∀ {A' : Around} {E : Value → Shared → Prop} {Q : Value → Shared → Prop}, Q (.ref hp.objs.size) ⟨hp.push { cls := .type "tuple_iterator", data := .fields #[.ref t, .int 0 0] }, g, d, tk, os⟩ → wpAny (model prog w) A' (pyIter (.ref t)) Q E ⟨hp, g, d, tk, os⟩ := by
    intro A' E Q q
    exact (begins_tuple t items).iter prog w A' E ⟨hp, g, d, tk, os⟩ Q isT q
  wp_walk using start
  refine wpAny_stack_any fun st => wpAny_pure ?_
  split
  · rename_i cc _ _ _ _ _
    cases (cc == Value.type "enumerate") <;> (wp_walk using start; exact Exists.intro _ ⟨rfl, h⟩)
  · wp_walk using start
    exact Exists.intro _ ⟨rfl, h⟩
end
theorem call_enumT {prog : Program} {w : World} {A : Around} {E : Value → Shared → Prop} {s : Shared} {t : Addr} {items : Array Value} {Q : Value → Shared → Prop} (isT : s.heap.IsTuple t items)
    (h : ∀ h', IsEnum h' (s.heap.objs.size + 1) s.heap.objs.size 0 .none → h'.IsTupleIter s.heap.objs.size t 0 → (∀ b o, s.heap.get? b = some o → h'.get? b = some o) → Q (.ref (s.heap.objs.size + 1)) { s with heap := h' }) :
    wpAny (model prog w) A (call (.type "enumerate") [.ref t]) Q E s := by
  refine callType_new F.called_enumerate (by decide) (F.typeCall_enumerate_1 _) (F.newCall_enumerate_1 _) (fun obj => F.args_object_init_2 obj _) F.entry_enumerate_new (enum_of_tuple t items) (And.intro isT ?_)
  have size : (s.heap.push { cls := .type "tuple_iterator", data := .fields #[.ref t, .int 0 0] }).objs.size = s.heap.objs.size + 1 := Heap.size_push ..
  show _ ∧ _
  rw [size]
  have made := Heap.get?_push_size (s.heap.push { cls := .type "tuple_iterator", data := .fields #[.ref t, .int 0 0] }) (o := { cls := .type "enumerate", data := .fields #[.none, .bool false, .ref s.heap.objs.size, rawInt 0, .none, .none] }) rfl
  rw [size] at made
  refine ⟨⟨_, made, rfl⟩, h _ made ⟨_, Heap.get?_push_of_some _ (Heap.get?_push_size _ rfl), rfl, rfl⟩ ?_⟩
  intro b o e
  exact Heap.get?_push_of_some _ (Heap.get?_push_of_some _ e)
/-- the tuple at a, each item in a new pair with its place -/
def IteT (K : PySem.W.Frag) (a : Addr) (N : Nat) : It where
  go := fun i H => ∃ (xs : List V) (x : V), SqT K H a xs ∧ xs[i]? = some x ∧ xs.length = N
  yld := fun i H v H' => ∃ t x, v = .ref t ∧ H t = none ∧ H' = upd H t (.tup [.int (i : Nat), x]) ∧ ∀ xs, SqT K H a xs → xs[i]? = some x
  stop := fun i H => ∃ xs : List V, SqT K H a xs ∧ xs.length = N ∧ N ≤ i
theorem turn_enumT {P : Program} {w : World} {K : PySem.W.Frag} {elts : List Expr} {kk : Nat} {tpos : Pos} (a e it : Addr) (N : Nat) :
    Turn P w K (.Tuple elts kk tpos) (IteT K a N) [e, it] e (fun i h => (∃ old, IsEnum h e it ((i : Nat) : Int) old) ∧ h.IsTupleIter it a i ∧ e ≠ it ∧ i ≤ N) := by
  have two : ∀ {b : Addr}, b ∈ [e, it] → b = e ∨ b = it := fun hb => by simpa using hb
  constructor
  · simp
  · rintro i h ⟨⟨old, he⟩, ⟨o, ho, hc, hd⟩, _, _⟩ b hb
    rcases two hb with rfl | rfl
    · exact ⟨_, he, fun v q => nomatch q⟩
    · refine ⟨o, ho, fun v q => ?_⟩
      rw [hd] at q
      cases q
  · rintro i h h' ⟨⟨old, he⟩, hi, hne, hN⟩ k
    exact ⟨⟨old, k e (by simp) _ he⟩, hi.at fun o q => k it (by simp) o q, hne, hN⟩
  · intro X hP hw hK hc i pins s σ H E I hf st hg
    subst hP hw hK
    obtain ⟨⟨old, he⟩, hit, hne, hN⟩ := st
    obtain ⟨xs, x, hq, hx, hxN⟩ := hg
    have inside := (List.getElem?_eq_some_iff.mp hx).1
    obtain ⟨its, rv, p, _⟩ := I.tuple hq
    obtain ⟨u, hu, ru⟩ := rv.get hx
    have isT : s.heap.IsTuple a its.toArray := p
    have apart : a ≠ it := by
      rintro rfl
      obtain ⟨o1, q1, c1, _⟩ := hit
      obtain ⟨o2, q2, c2, _⟩ := isT
      rw [q1] at q2
      cases q2
      rw [c1] at c2
      exact absurd (Value.type.inj c2) (by decide)
    have hea : e ≠ a := by
      rintro rfl
      obtain ⟨o2, q2, c2, _⟩ := isT
      rw [he] at q2
      cases q2
      exact absurd (Value.type.inj c2) (by decide)
    have lte : e < s.heap.objs.size := Heap.lt_size he
    have lti : it < s.heap.objs.size := hit.elim fun _ q => Heap.lt_size q.1
    have less : i < its.toArray.size := by
      have z := (List.getElem?_eq_some_iff.mp hu).1
      rw [List.size_toArray]
      exact z
    apply wpAny_pyNext_enum_itemD (Draws.tuple (A := X.A.in1) (I.ok.hd hc) it a apart its.toArray) he ⟨hit, isT⟩ less hne (by simp [hne, hea])
    intro y h' tk hy ho st' hT hsz hk
    have ey : y = u := by
      have z : its[i]? = some y := by simpa using hy
      rw [hu] at z
      exact (Option.some.inj z).symm
    subst ey
    refine ⟨_, rfl, wpAny_letOwnedTupleGo_enum (s := { s with heap := h', toks := tk + 1 }) ho fun h2 he2 sb => ?_⟩
    have kept : ∀ b o, b ∉ [e, it] → s.heap.get? b = some o → h2.get? b = some o := by
      intro b o nb q
      have n1 : b ≠ e := fun z => nb (by simp [z])
      have n2 : b ≠ it := fun z => nb (by simp [z])
      exact (sb.2 b n1).trans (hk b o n1 n2 q)
    have hT2 : h2.get? s.heap.objs.size = some { cls := .type "tuple", data := .seq #[.int i tk, y] } := (sb.2 _ (Nat.ne_of_gt lte)).trans hT
    have I1 : Inv X pins σ (upd H s.heap.objs.size (.tup [.int (i : Nat), x])) { s with heap := h2, toks := tk + 1 } := by
      refine I.turnedNew (ch := [e, it]) kept hf (Nat.le_refl _) ⟨by show 2 ≤ sizeLine; decide, [.int i tk, y], .cons ⟨_, rfl⟩ (.cons ru .nil), ?_⟩
      exact ⟨_, hT2, rfl, _, rfl⟩
    refine ⟨.ref s.heap.objs.size, _, I1, rfl, ⟨_, x, rfl, I.hok.fresh (Nat.le_refl _), rfl, fun ys hys => ?_⟩, ⟨⟨y, ?_⟩, ?_, hne, by omega⟩, fun b hb => ?_⟩
    · rw [I.tuple_inj hys hq]
      exact hx
    · have cast : ((i + 1 : Nat) : Int) = (i : Int) + 1 := by omega
      rw [cast]
      exact he2
    · exact st'.1.at fun o q => (sb.2 it hne.symm).trans q
    · have lt : b < s.heap.objs.size := by
        rcases two hb with rfl | rfl
        · exact lte
        · exact lti
      rw [upd_ne (Nat.ne_of_lt lt)]
      exact (hf b hb).1
  · intro X hP hw hK hc i pins s σ H E I hf st hg
    subst hP hw hK
    obtain ⟨⟨old, he⟩, hit, hne, hN⟩ := st
    obtain ⟨xs, hq, hxN, hx⟩ := hg
    obtain ⟨its, rv, p, _⟩ := I.tuple hq
    have isT : s.heap.IsTuple a its.toArray := p
    have apart : a ≠ it := by
      rintro rfl
      obtain ⟨o1, q1, c1, _⟩ := hit
      obtain ⟨o2, q2, c2, _⟩ := isT
      rw [q1] at q2
      cases q2
      rw [c1] at c2
      exact absurd (Value.type.inj c2) (by decide)
    obtain ⟨f0, f1, f2, f3, f4, f5⟩ := hf it (by simp)
    have len := rv.length
    have at1 : i = its.toArray.size := by
      rw [List.size_toArray]
      omega
    subst at1
    apply wpAny_pyNext_enum_endD (Draws.tuple (A := X.A.in1) (I.ok.hd hc) it a apart its.toArray) he ⟨hit, isT⟩
    intro h' eb
    exact And.intro rfl (I.turned (t' := s.toks) (fun b o hb q => eb b o hb q) f0 f1 f3 f4 f5)
  · rintro A i s Q E ⟨⟨_, he⟩, _⟩ h
    exact wpAny_pyIter_enum he h
def iEnumT (K : PySem.W.Frag) (ta : TA) : TI := fun σ H R => ta σ H fun vs H1 => ∃ a xs, vs = [.ref a] ∧ SqT K H1 a xs ∧ R (IteT K a xs.length) H1
theorem pi_enumT {X : Cx} {e : Expr} {ta : TA} {p pos tpos : Pos} {elts : List Expr} {kk : Nat} (hg : Gl X "enumerate") (hm : X.mg "enumerate" = none) (args : PA X [e] ta) (star : starEach [e] X.env = [(false, eval e X.env)] := by rfl) :
    PI X (.Tuple elts kk tpos) (.Call (.Name "enumerate" p) [e] [] pos) (iEnumT X.K ta) := by
  constructor
  intro pins s σ H R I h
  refine Call_ (ld_blt I hg hm boot_enumerate ?_)
  refine PyProof.Rows.callWith_type1 (thn (args.run pos pins s σ H _ I h) ?_) star rfl
  rintro us s1 ⟨vs, H1, I1, rel, a, xs, rfl, sq, q⟩
  obtain ⟨u, rfl, ru⟩ := vals1 rel
  cases ru
  obtain ⟨its, rv, isT, _⟩ := I1.tuple sq
  refine call_enumT (items := its.toArray) isT fun h' he hit hk => wpAny_pyIter_enum he ?_
  have fresh : ∀ b ∈ [s1.heap.objs.size + 1, s1.heap.objs.size], s1.heap.objs.size ≤ b := by
    intro b hb
    have z : b = s1.heap.objs.size + 1 ∨ b = s1.heap.objs.size := by simpa using hb
    rcases z with rfl | rfl
    · exact Nat.le_add_right _ _
    · exact Nat.le_refl _
  exact ⟨_, _, _, _, H1, rfl, I1.kept hk, turn_enumT a (s1.heap.objs.size + 1) s1.heap.objs.size xs.length, ⟨⟨.none, he⟩, hit, Nat.succ_ne_self _, Nat.zero_le _⟩, fun b hb => I1.fpOk (fresh b hb) (I1.hok.fresh (fresh b hb)), q⟩

/-! ### t[::-1] of a tuple; xs == [], xs != [] of a list that may hold anything -/
section
open HT
variable {prog : Program} {w : World} {A : Around} {E : Value → Shared → Prop} {s : Shared}
theorem adjust_rev (n : Nat) : Builtin.Slice.sliceAdjust none none (-1) (n : Int) = ((n : Int) - 1, -1) := by
  unfold Builtin.Slice.sliceAdjust
  have h1 : (-1 : Int) < 0 := by decide
  simp only [h1, if_true]
theorem places_rev (n : Nat) : Builtin.Slice.slicePlaces ((n : Int) - 1) (-1) (-1) = n := by
  unfold Builtin.Slice.slicePlaces
  have h1 : ¬ ((-1 : Int) > 0) := by decide
  simp only [h1, if_false]
  have h2 : (-(-1) : Int) = 1 := by decide
  rw [h2, Int.ediv_one]
  split <;> omega
theorem sliceApplied_rev {sl : Addr} {vl vu vs : Value} {n : Nat} {Q : Int × Int × Nat → Shared → Prop} (hs : s.heap.IsSliceOf sl vl vu vs) (pl : IsPart vl none) (pu : IsPart vu none) (pt : IsPart vs (some (-1)))
    (h : Q ((n : Int) - 1, -1, n) s) : wpAny (model prog w) A (Builtin.Slice.sliceApplied (.ref sl) (pure (n : Int))) Q E s := by
  obtain ⟨os, hos, hcs, hds⟩ := id hs
  unfold Builtin.Slice.sliceApplied Builtin.Slice.sliceFields
  refine wpAny_bind (wpAny_bind (wpAny_field hos hds (x := vl) rfl (wpAny_bind (wpAny_field hos hds (x := vu) rfl (wpAny_bind (wpAny_field hos hds (x := vs) rfl (wpAny_pure ?_)))))))
  refine wpAny_bind (slicePart_ pt ?_)
  show wpAny _ _ (if ((-1 : Int) == 0) = true then _ else _) _ _ s
  rw [if_neg (by decide)]
  refine wpAny_bind (slicePart_ pl (wpAny_bind (slicePart_ pu (wpAny_bind (wpAny_pure ?_)))))
  show wpAny _ _ (match Builtin.Slice.sliceAdjust none none (-1) (n : Int) with | (lo, hi) => pure (lo, (-1 : Int), Builtin.Slice.slicePlaces lo hi (-1))) _ _ s
  rw [adjust_rev]
  show wpAny _ _ (pure ((n : Int) - 1, (-1 : Int), Builtin.Slice.slicePlaces ((n : Int) - 1) (-1) (-1))) _ _ s
  rw [places_rev]
  exact wpAny_pure h
theorem pick_rev (xs : Array Value) : ((List.range xs.size).filterMap fun (k : Nat) => xs[((xs.size : Int) - 1 + (k : Int) * (-1)).toNat]?) = xs.toList.reverse := by
  have e : ∀ m : Nat, m ≤ xs.size → ((List.range m).filterMap fun (k : Nat) => xs[((xs.size : Int) - 1 + (k : Int) * (-1)).toNat]?) = xs.toList.reverse.take m := by
    intro m
    induction m with
    | zero => intro _; rfl
    | succ m ih =>
      intro hm
      rw [List.range_succ, List.filterMap_append, ih (by omega), List.take_add_one]
      congr 1
      have e1 : ((xs.size : Int) - 1 + (m : Int) * (-1)).toNat = xs.size - 1 - m := by omega
      have e2 : xs.toList.reverse[m]? = xs[xs.size - 1 - m]? := by
        rw [List.getElem?_reverse (by rw [Array.length_toList]; omega), Array.length_toList, Array.getElem?_toList]
      rw [e2]
      have lt : xs.size - 1 - m < xs.size := by omega
      simp only [List.filterMap_cons, List.filterMap_nil, e1]
      rw [Array.getElem?_eq_getElem lt]
      rfl
  rw [e _ (Nat.le_refl _), List.take_of_length_le (by rw [List.length_reverse, Array.length_toList]; exact Nat.le_refl _)]
theorem getItem_tuple_rev {t sl : Addr} {items : Array Value} {vl vu vs : Value} {Q : Value → Shared → Prop} (ht : IsTup s.heap t items) (hs : s.heap.IsSliceOf sl vl vu vs) (pl : IsPart vl none) (pu : IsPart vu none) (pt : IsPart vs (some (-1)))
    (h : Q (.ref s.heap.objs.size) { s with heap := s.heap.push { cls := .type "tuple", data := .seq items.toList.reverse.toArray } })
    (hsz : items.size ≤ sizeLine) : wpAny (model prog w) A (getItem (.ref t) (.ref sl)) Q E s := by
  have htake : sizeOk (.seq items.toList.reverse.toArray) := by
    show items.toList.reverse.toArray.size ≤ sizeLine
    rw [List.size_toArray, List.length_reverse, Array.length_toList]
    omega
  obtain ⟨os, hos, hcs, hds⟩ := id hs
  have hTs : s.TypeIs (.ref sl) "slice" := ⟨os, hos, hcs⟩
  unfold getItem
  try with_reducible refine wpAny_holding ?_
  first | refine wpAny_bind (wpAny_pure ?_) | skip
  refine wpAny_bind (wpAny_sequenceKey ht.typeIs (by decide) ?_)
  refine wpAny_bind (wpAny_callSpecial?_slot (name := Str.ofString "__getitem__") ht.typeIs PyProof.Rows.slot_tuple_getitem
    (wpAny_call_entry PyProof.Rows.slot_tuple_getitem ht.typeIs entry_tuple_getitem ?_ (args_tuple_getitem _ _)))
  show wpAny _ _ (Builtin.Tuple.tupleItemsOf (.ref t) >>= _) _ _ s
  refine wpAny_bind (tupleItemsOf_ ht ?_)
  refine wpAny_bind (wpAny_typeOf hTs ?_)
  rw [if_pos (by decide)]
  refine wpAny_bind (sliceApplied_rev hs pl pu pt ?_)
  have hno : ¬ ((((items.size : Int) - 1) == 0 && (-1 : Int) == 1 && items.size == items.size) = true) := by
    intro q
    rw [Bool.and_eq_true, Bool.and_eq_true] at q
    exact absurd q.1.2 (by decide)
  show wpAny _ _ (if (((items.size : Int) - 1) == 0 && (-1 : Int) == 1 && items.size == items.size) = true then _ else _) _ _ s
  rw [if_neg hno, pick_rev]
  first
    | exact wpAny_bind (m := Builtin.Tuple.tupleExact _) (wpAny_newObj_type (wpAny_pure ⟨_, rfl, wpAny_pure h⟩) htake)
    | exact wpAny_bind (m := Builtin.Tuple.tupleExact _) (wpAny_newObj_type (wpAny_bind (wpAny_pure (wpAny_pure ⟨_, rfl, wpAny_pure h⟩))) htake)
    | exact wpAny_bind (wpAny_bind (m := Builtin.Tuple.tupleExact _) (wpAny_newObj_type (wpAny_pure (wpAny_pure ⟨_, rfl, wpAny_pure h⟩)) htake))
    | exact wpAny_bind (wpAny_bind (m := Builtin.Tuple.tupleExact _) (wpAny_newObj_type (wpAny_pure ⟨_, rfl, wpAny_pure h⟩) htake))
end
section
variable {X : Cx}
def tRevT (K : PySem.W.Frag) (te : TE) : TE := fun σ H Q => te σ H fun x H1 => ∃ a xs, x = .ref a ∧ SqT K H1 a xs ∧ ∀ p, H1 p = none → Q (.ref p) (upd H1 p (.tup xs.reverse))
theorem pe_revT {e : Expr} {te : TE} {k : Nat} {p1 p2 p3 pos : Pos} (he : PE X e te) : PE X (.Subscript e (.Slice none none (some (.UnaryOp .USub (.Constant (.int 1) k p1) p2)) p3) pos) (tRevT X.K te) := by
  refine ⟨fun pins s σ H Q I h => ?_⟩
  refine Subscript_ (thn (he.run pins s σ H _ I h) fun v s1 ⟨x, H1, I1, r1, q1⟩ => ?_)
  obtain ⟨a, xs, ex, hx, q⟩ := q1
  subst ex
  cases r1
  have hst : PO X (some (.UnaryOp .USub (.Constant (.int 1) k p1) p2)) (tPart (tUn (rU fun i => .int (-i)) (tC (.int 1)))) := po_some (pe_un un_neg pe_int)
  refine wpAny_Slice (thn (po_none.run pins s1 σ H1 (fun o H2 => o = none ∧ H2 = H1) I1 ⟨rfl, rfl⟩) fun vl s2 ⟨l, H2, I2, pl, el, e2⟩ => ?_)
  subst el e2
  refine thn (po_none.run pins s2 σ H2 (fun o H3 => o = none ∧ H3 = H2) I2 ⟨rfl, rfl⟩) fun vu s3 ⟨u, H3, I3, pu, eu, e3⟩ => ?_
  subst eu e3
  refine thn (hst.run pins s3 σ H3 (fun o H4 => o = some (-1) ∧ H4 = H3) I3 ⟨1, rfl, -1, rfl, rfl, rfl⟩) fun vs s4 ⟨o, H4, I4, ps, eo, e4⟩ => ?_
  subst eo e4
  have I5 : Inv X pins σ H4 { s4 with heap := s4.heap.push { cls := .type "slice", data := .fields #[vl, vu, vs] } } := I4.kept (t' := s4.toks) fun b ob q => Heap.get?_push_of_some _ q
  obtain ⟨its, r, ht, hz⟩ := I5.tuple hx
  have hlen := r.length
  show wpAny (model X.prog X.w) X.A (subscriptTail e (.Slice none none (some (.UnaryOp .USub (.Constant (.int 1) k p1) p2)) p3) (.ref a) (.ref s4.heap.objs.size)) (EP X pins σ Q) X.xe { s4 with heap := s4.heap.push { cls := .type "slice", data := .fields #[vl, vu, vs] } }
  refine tail_any (ops := [.ref a, .ref s4.heap.objs.size]) ht.typeIs (PyProof.Rows.slot_tuple_getitem.lookup) ?_ (by with_unfolding_all rfl)
  refine getItem_tuple_rev ht (Heap.IsSliceOf.new _ vl vu vs) pl pu ps ?_ (by rw [List.size_toArray]; omega)
  refine ⟨.ref _, _, I5.laid (t' := s4.toks) (o := .tup xs.reverse) (fun b ob q => Heap.get?_push_of_some _ q) (Nat.le_refl _) ?_, rfl, q _ (I5.hok.fresh (Nat.le_refl _))⟩
  exact ⟨by rw [List.length_reverse]; exact hz, _, r.reverse, IsTup.new _ _⟩
def rEqL (K : PySem.W.Frag) : R2 := fun x y H Q => ∃ (a b : Addr) (xs : List V), x = .ref a ∧ y = .ref b ∧ SqL K H a xs ∧ SqL K H b [] ∧ Q (.bl xs.isEmpty) H
def rNeL (K : PySem.W.Frag) : R2 := fun x y H Q => ∃ (a b : Addr) (xs : List V), x = .ref a ∧ y = .ref b ∧ SqL K H a xs ∧ SqL K H b [] ∧ Q (.bl (!xs.isEmpty)) H
theorem op_eqL (units : X.A.units < cLine) : OpR X (compareOp .Eq) (rEqL X.K) := by
  intro pins s σ H x y v u Q I rx ry h
  obtain ⟨a, b, xs, rfl, rfl, ha, hb, q⟩ := h
  cases rx
  cases ry
  obtain ⟨its, r1, p1, _⟩ := I.list ha
  obtain ⟨its2, r2, p2, _⟩ := I.list hb
  cases r2
  cases r1 with
  | nil =>
    exact SeqAt.eq_listAt (e := fun _ => true) p1.isList p2.isList rfl units (fun j h1 h2 => absurd h2 (Nat.not_lt_zero j)) ⟨.bl true, H, I, rfl, q⟩
  | cons r t =>
    exact SeqAt.eq_list_lengthsAt p1.isList p2.isList (by simp) units ⟨.bl false, H, I, rfl, q⟩
theorem op_neL (units : X.A.units < cLine) : OpR X (compareOp .NotEq) (rNeL X.K) := by
  intro pins s σ H x y v u Q I rx ry h
  obtain ⟨a, b, xs, rfl, rfl, ha, hb, q⟩ := h
  cases rx
  cases ry
  obtain ⟨its, r1, p1, _⟩ := I.list ha
  obtain ⟨its2, r2, p2, _⟩ := I.list hb
  cases r2
  cases r1 with
  | nil =>
    exact SeqAt.RcNeAt.lists (e := fun _ => true) p1.isList p2.isList rfl units (fun j h1 h2 => absurd h2 (Nat.not_lt_zero j)) X.prog X.w X.xe (EP X pins σ Q) ⟨.bl false, H, I, rfl, q⟩
  | cons r t =>
    exact SeqAt.RcNeAt.lists_lengths p1.isList p2.isList (by simp) units X.prog X.w X.xe (EP X pins σ Q) ⟨.bl true, H, I, rfl, q⟩
end

/-! ### x in t, x not in t, for a tuple of data -/
theorem units65 {k : Nat} {A : Around} (r : Room k A) : A.units + 65 < cLine := by
  have := r.un
  omega
section
variable {X : Cx}
def rInT (K : PySem.W.Frag) : R2 := fun x y H Q => ∃ d ds, Dp K H x d ∧ Dp K H y (.tuple ds) ∧ SeqAt.shaped d = true ∧ SeqAt.shaped (.tuple ds) = true ∧ Q (.bl (ds.any fun z => PyData.eqv z d)) H
def rNotInT (K : PySem.W.Frag) : R2 := fun x y H Q => ∃ d ds, Dp K H x d ∧ Dp K H y (.tuple ds) ∧ SeqAt.shaped d = true ∧ SeqAt.shaped (.tuple ds) = true ∧ Q (.bl (!ds.any fun z => PyData.eqv z d)) H
theorem op_inT (units : X.A.units + 65 < cLine) : OpR X (compareOp .In) (rInT X.K) := by
  intro pins s σ H x y v u Q I rx ry ⟨d, ds, dx, dy, sx, sy, q⟩
  obtain ⟨_, r1⟩ := Dp.reads I d x v dx rx
  obtain ⟨_, r2⟩ := Dp.reads I (.tuple ds) y u dy ry
  have l2 : PyData.canLayAll0 ds = true := SeqAt.canLay_of_shaped sy
  exact SeqAt.in_tuple_reads r2 r1 l2 (SeqAt.canLay_of_shaped sx) (room_in_shaped sx units) (Exists.intro (V.bl _) ⟨H, I, rfl, q⟩)
theorem op_notInT (units : X.A.units + 65 < cLine) : OpR X (compareOp .NotIn) (rNotInT X.K) := by
  intro pins s σ H x y v u Q I rx ry ⟨d, ds, dx, dy, sx, sy, q⟩
  obtain ⟨_, r1⟩ := Dp.reads I d x v dx rx
  obtain ⟨_, r2⟩ := Dp.reads I (.tuple ds) y u dy ry
  have l2 : PyData.canLayAll0 ds = true := SeqAt.canLay_of_shaped sy
  exact SeqAt.notIn_tuple_reads r2 r1 l2 (SeqAt.canLay_of_shaped sx) (room_in_shaped sx units) (Exists.intro (V.bl _) ⟨H, I, rfl, q⟩)
end
theorem for_zipU {K : PySem.W.Frag} {a b : Addr} {xs ys : List V} {g : TG} {tb : TS} {D : Ends} {σ : L2.St} {H : Hp} (Pv : Nat → L2.St → Hp → Prop) (h0 : Pv 0 σ H) (hq : ∀ i σ H, Pv i σ H → SqT K H a xs ∧ SqT K H b ys)
    (hs : ∀ (i : Nat) (x y : V) (T : Addr) (σ : L2.St) (H : Hp), xs[i]? = some x → ys[i]? = some y → Pv i σ H → H T = none → g (.ref T) σ (upd H T (.tup [x, y])) fun σ2 H2 => tb { D with nx := Pv (i + 1), ct := Pv (i + 1), bk := D.nx } σ2 H2) (hd : ∀ i σ H, i ≤ xs.length → Pv i σ H → D.nx σ H) :
    ∃ W : Nat → Nat → L2.St → Hp → Prop, (∃ m, W 0 m σ H) ∧ ∀ i m σ H, W i m σ H →
      ((RZ.ItzT K a b).stop i H ∧ D.nx σ H) ∨ ((RZ.ItzT K a b).go i H ∧ ∃ N : L2.St → Hp → Prop, (∀ σ' H', N σ' H' → ∃ m', m' < m ∧ W (i + 1) m' σ' H') ∧ ∀ v H', (RZ.ItzT K a b).yld i H v H' → g v σ H' fun σ2 H2 => tb { D with nx := N, ct := N, bk := D.nx } σ2 H2) := by
  refine ⟨fun i m σ H => m = xs.length - i ∧ i ≤ xs.length ∧ Pv i σ H, ⟨_, rfl, Nat.zero_le _, h0⟩, ?_⟩
  rintro i m σ H ⟨rfl, hi, p⟩
  obtain ⟨q1, q2⟩ := hq i σ H p
  by_cases c : i < xs.length ∧ i < ys.length
  · refine .inr ⟨⟨xs, ys, xs[i]'c.1, ys[i]'c.2, q1, q2, List.getElem?_eq_getElem c.1, List.getElem?_eq_getElem c.2⟩, Pv (i + 1), fun σ' H' p' => ⟨xs.length - (i + 1), by omega, rfl, by omega, p'⟩, fun v H' hy => ?_⟩
    obtain ⟨T, x, y, rfl, nT, rfl, f1, f2⟩ := hy
    exact hs i x y T σ H (f1 xs q1) (f2 ys q2) p nT
  · exact .inl ⟨⟨xs, ys, q1, q2, by omega⟩, hd i σ H hi p⟩

/-! ### a walk over a tuple, whatever its body is (comprehensions with two for) -/
theorem walkT {K : PySem.W.Frag} {a : Addr} {xs : List V} {B : V → Hp → (Hp → Prop) → Prop} {H0 : Hp} {Qd : Hp → Prop} (Pv : Nat → Hp → Prop) (h0 : Pv 0 H0) (hl : ∀ i H, i ≤ xs.length → Pv i H → SqT K H a xs)
    (hs : ∀ i x H, xs[i]? = some x → Pv i H → B x H (Pv (i + 1))) (hd : ∀ H, Pv xs.length H → Qd H) :
    ∃ W : Nat → Nat → Hp → Prop, (∃ m, W 0 m H0) ∧ ∀ i m H, W i m H →
      ((Itt K a).stop i H ∧ Qd H) ∨ ((Itt K a).go i H ∧ ∃ Nx : Hp → Prop, (∀ H', Nx H' → ∃ m', m' < m ∧ W (i + 1) m' H') ∧ ∀ x H', (Itt K a).yld i H x H' → B x H' Nx) := by
  refine ⟨fun i m H => m = xs.length - i ∧ i ≤ xs.length ∧ Pv i H, ⟨xs.length, by simp, Nat.zero_le _, h0⟩, ?_⟩
  rintro i m H ⟨rfl, hi, p⟩
  have q := hl i H hi p
  by_cases hlt : i < xs.length
  · refine .inr ⟨⟨xs, xs[i], q, by simp [hlt]⟩, Pv (i + 1), fun H' p' => ⟨xs.length - (i + 1), by omega, rfl, hlt, p'⟩, fun x H' y => ?_⟩
    obtain ⟨e, y⟩ := y
    subst e
    exact hs i x _ (y xs q) p
  · have e : i = xs.length := by omega
    subst e
    exact .inl ⟨⟨xs, q, by omega⟩, hd H p⟩

/-! ### a min-max theorem: demands are rectangles, intervals are points -/
abbrev Dem := Int × Int × Int
def sv (z : Int × Int) (d : Dem) : Bool := decide (d.2.1 ≤ z.1 ∧ z.1 ≤ d.1 ∧ d.1 ≤ z.2 ∧ z.2 ≤ d.2.2)
def cf (d e : Dem) : Bool := decide ((e.2.1 ≤ d.1 ∧ d.1 ≤ e.2.2) ∧ d.2.1 ≤ e.1 ∧ e.1 ≤ d.2.2)
def Vd (d : Dem) : Prop := d.2.1 ≤ d.1 ∧ d.1 ≤ d.2.2
theorem sv_iff' {z : Int × Int} {d : Dem} : sv z d = true ↔ d.2.1 ≤ z.1 ∧ z.1 ≤ d.1 ∧ d.1 ≤ z.2 ∧ z.2 ≤ d.2.2 := decide_eq_true_iff
theorem cf_iff {d e : Dem} : cf d e = true ↔ (e.2.1 ≤ d.1 ∧ d.1 ≤ e.2.2) ∧ d.2.1 ≤ e.1 ∧ e.1 ≤ d.2.2 := decide_eq_true_iff
theorem cf_comm (d e : Dem) : cf d e = cf e d := by
  rw [Bool.eq_iff_iff, cf_iff, cf_iff]
  exact ⟨fun h => ⟨h.2, h.1⟩, fun h => ⟨h.2, h.1⟩⟩
theorem cf_of_sv {z : Int × Int} {d e : Dem} (h1 : sv z d = true) (h2 : sv z e = true) : cf d e = true := by
  rw [sv_iff'] at h1 h2
  rw [cf_iff]
  omega
theorem cf_self {d : Dem} (h : Vd d) : cf d d = true := by
  rw [cf_iff]
  exact ⟨h, h⟩
/-- how many of the demands the point serves -/
def cov (L : List Dem) (z : Int × Int) : Nat := L.countP (sv z)
theorem cov_nil (z : Int × Int) : cov [] z = 0 := rfl
theorem cov_cons (d : Dem) (L : List Dem) (z : Int × Int) : cov (d :: L) z = cov L z + (if sv z d = true then 1 else 0) := List.countP_cons
theorem cov_app (L M : List Dem) (z : Int × Int) : cov (L ++ M) z = cov L z + cov M z := List.countP_append
theorem cov_perm {L M : List Dem} (h : L.Perm M) (z : Int × Int) : cov L z = cov M z := h.countP_eq _
/-- no two of them conflict -/
def Ind (L : List Dem) : Prop := L.Pairwise fun d e => cf d e = false
theorem Ind.cov_le {L : List Dem} (h : Ind L) (z : Int × Int) : cov L z ≤ 1 := by
  induction L with
  | nil => exact Nat.zero_le _
  | cons d L ih =>
    have p := List.pairwise_cons.mp h
    rw [cov_cons]
    split
    · next s =>
      have e : cov L z = 0 := List.countP_eq_zero.mpr fun e he c => by
        have := p.1 e he
        rw [cf_of_sv s c] at this
        cases this
      omega
    · have := ih p.2
      omega
structure Fam (F : List Dem) : Prop where
  ok : ∀ d ∈ F, 0 ≤ d.2.1 ∧ Vd d
  ex : ∀ d ∈ F, ∀ e ∈ F, d.1 < e.1 → d.2.1 < e.2.1 → d.2.2 < e.2.2 → cf d e = true → (d.1, e.2) ∈ F ∧ (e.1, d.2) ∈ F
  cross : ∀ d ∈ F, ∀ e ∈ F, cf d e = true → d.2 = e.2 ∨ (d.2.1 < e.2.1 ∧ d.2.2 < e.2.2) ∨ (e.2.1 < d.2.1 ∧ e.2.2 < d.2.2)
theorem sv_exch {z : Int × Int} {d e : Dem} (h1 : d.1 < e.1) (h2 : d.2.1 < e.2.1) (h3 : d.2.2 < e.2.2) (c : cf d e = true) :
    (if sv z (d.1, e.2) = true then 1 else 0) + (if sv z (e.1, d.2) = true then 1 else 0) ≤ (if sv z d = true then 1 else 0) + (if sv z e = true then 1 else 0) := by
  have c := cf_iff.mp c
  simp only [sv_iff']
  split <;> split <;> split <;> split <;> omega
def pot (L : List Dem) : Int := (L.map fun d => d.1 * (d.2.1 + d.2.2)).sum
theorem pot_cons (d : Dem) (L : List Dem) : pot (d :: L) = d.1 * (d.2.1 + d.2.2) + pot L := by
  unfold pot
  rw [List.map_cons, List.sum_cons]
theorem pot_nonneg {L : List Dem} (h : ∀ d ∈ L, 0 ≤ d.2.1 ∧ Vd d) : 0 ≤ pot L := by
  induction L with
  | nil => exact Int.le_refl _
  | cons d L ih =>
    rw [pot_cons]
    have := ih fun e he => h e (List.mem_cons_of_mem _ he)
    have q := h d List.mem_cons_self
    unfold Vd at q
    have : 0 ≤ d.1 * (d.2.1 + d.2.2) := Int.mul_nonneg (by omega) (by omega)
    omega
theorem pot_perm {L M : List Dem} (h : L.Perm M) : pot L = pot M := by
  induction h with
  | nil => rfl
  | cons x _ ih => rw [pot_cons, pot_cons, ih]
  | swap x y l =>
    rw [pot_cons, pot_cons, pot_cons, pot_cons]
    omega
  | trans _ _ i1 i2 => rw [i1, i2]
def Corner (d e : Dem) : Prop := cf d e = true ∧ d.1 < e.1 ∧ d.2.1 < e.2.1 ∧ d.2.2 < e.2.2
theorem pull2 {L : List Dem} {d e : Dem} (hd : d ∈ L) (he : e ∈ L) (ne : d ≠ e) : ∃ R, L.Perm (d :: e :: R) := by
  have p1 := List.perm_cons_erase hd
  have he' : e ∈ L.erase d := (List.mem_erase_of_ne (Ne.symm ne)).mpr he
  exact ⟨(L.erase d).erase e, p1.trans ((List.perm_cons_erase he').cons d)⟩
theorem uncross {F : List Dem} (fam : Fam F) : ∀ (n : Nat) (L : List Dem), (∀ d ∈ L, d ∈ F) → (pot L).toNat < n → ∃ M : List Dem, (∀ d ∈ M, d ∈ F) ∧ M.length = L.length ∧ (∀ z, cov M z ≤ cov L z) ∧ ∀ d ∈ M, ∀ e ∈ M, ¬ Corner d e := by
  intro n
  induction n with
  | zero => exact fun _ _ h => absurd h (Nat.not_lt_zero _)
  | succ n ih =>
    intro L hL hn
    by_cases c : ∀ d ∈ L, ∀ e ∈ L, ¬ Corner d e
    · exact ⟨L, hL, rfl, fun _ => Nat.le_refl _, c⟩
    · have ⟨d, hd, e, he, k⟩ : ∃ d ∈ L, ∃ e ∈ L, Corner d e := by
        refine Classical.byContradiction fun z => c fun d hd e he k => z ⟨d, hd, e, he, k⟩
      obtain ⟨k1, k2, k3, k4⟩ := k
      have ne : d ≠ e := fun z => by
        subst z
        exact absurd k2 (Int.lt_irrefl _)
      obtain ⟨R, pm⟩ := pull2 hd he ne
      have x := fam.ex d (hL d hd) e (hL e he) k2 k3 k4 k1
      have hR : ∀ f ∈ R, f ∈ F := fun f hf => hL f (pm.mem_iff.mpr (List.mem_cons_of_mem _ (List.mem_cons_of_mem _ hf)))
      have hN : ∀ f ∈ (d.1, e.2) :: (e.1, d.2) :: R, f ∈ F := fun f hf => by
        rcases List.mem_cons.mp hf with rfl | hf
        · exact x.1
        rcases List.mem_cons.mp hf with rfl | hf
        · exact x.2
        · exact hR f hf
      have less : pot ((d.1, e.2) :: (e.1, d.2) :: R) < pot L := by
        rw [pot_perm pm, pot_cons, pot_cons, pot_cons, pot_cons]
        show d.1 * (e.2.1 + e.2.2) + (e.1 * (d.2.1 + d.2.2) + pot R) < d.1 * (d.2.1 + d.2.2) + (e.1 * (e.2.1 + e.2.2) + pot R)
        have : 0 < (e.1 - d.1) * ((e.2.1 + e.2.2) - (d.2.1 + d.2.2)) := Int.mul_pos (by omega) (by omega)
        rw [Int.sub_mul, Int.mul_sub, Int.mul_sub] at this
        omega
      have nn := pot_nonneg fun f hf => fam.ok f (hN f hf)
      obtain ⟨M, m1, m2, m3, m4⟩ := ih _ hN (by omega)
      refine ⟨M, m1, by rw [m2, pm.length_eq]; rfl, fun z => Nat.le_trans (m3 z) ?_, m4⟩
      rw [cov_perm pm, cov_cons, cov_cons, cov_cons, cov_cons]
      have := sv_exch (z := z) k2 k3 k4 k1
      omega
/-- e lies across d -/
def Und (e d : Dem) : Prop := d.2.1 ≤ e.2.1 ∧ e.1 ≤ d.1 ∧ d.2.2 ≤ e.2.2
theorem und_of {F : List Dem} (fam : Fam F) {d e : Dem} (hd : d ∈ F) (he : e ∈ F) (c : cf d e = true) (n1 : ¬ Corner d e) (n2 : ¬ Corner e d) : Und d e ∨ Und e d := by
  unfold Und
  rcases fam.cross d hd e he c with h | h | h
  · rw [h]
    omega
  · have : ¬ d.1 < e.1 := fun z => n1 ⟨c, z, h.1, h.2⟩
    omega
  · have : ¬ e.1 < d.1 := fun z => n2 ⟨by rw [cf_comm]; exact c, z, h.1, h.2⟩
    omega
def leD (d e : Dem) : Bool := decide (d.1 - d.2.1 < e.1 - e.2.1 ∨ (d.1 - d.2.1 = e.1 - e.2.1 ∧ e.2.2 ≤ d.2.2))
theorem leD_total (a b : Dem) : (leD a b || leD b a) = true := by
  unfold leD
  rw [Bool.or_eq_true, decide_eq_true_eq, decide_eq_true_eq]
  omega
theorem leD_trans (a b c : Dem) : leD a b = true → leD b c = true → leD a c = true := by
  unfold leD
  rw [decide_eq_true_eq, decide_eq_true_eq, decide_eq_true_eq]
  omega
theorem und_le {F : List Dem} (fam : Fam F) {f e : Dem} (hf : f ∈ F) (he : e ∈ F) (c : cf f e = true) (n1 : ¬ Corner f e) (n2 : ¬ Corner e f) (le : leD f e = true) : Und f e := by
  have le := of_decide_eq_true le
  rcases und_of fam hf he c n1 n2 with h | h
  · exact h
  · unfold Und at *
    omega
def gre : Nat → List Dem → List Dem
  | 0, _ => []
  | _, [] => []
  | n + 1, d :: R => d :: gre n (R.filter fun e => !cf d e)
def lef : Nat → List Dem → List Dem
  | 0, L => L
  | _, [] => []
  | n + 1, d :: R => (R.filter fun e => cf d e) ++ lef n (R.filter fun e => !cf d e)
theorem gre_lef : ∀ (n : Nat) (L : List Dem), L.Perm (gre n L ++ lef n L)
  | 0, L => List.Perm.refl _
  | n + 1, [] => List.Perm.refl _
  | n + 1, d :: R => by
    have ih := gre_lef n (R.filter fun e => !cf d e)
    show (d :: R).Perm (d :: (gre n (R.filter fun e => !cf d e) ++ ((R.filter fun e => cf d e) ++ lef n (R.filter fun e => !cf d e))))
    refine List.Perm.cons d ?_
    have p1 := (List.filter_append_perm (fun e => cf d e) R).symm
    refine p1.trans ?_
    refine ((List.Perm.refl (R.filter fun e => cf d e)).append ih).trans ?_
    rw [← List.append_assoc, ← List.append_assoc]
    exact List.perm_append_comm.append_right _
theorem gre_sub (n : Nat) (L : List Dem) : ∀ d ∈ gre n L, d ∈ L := fun d hd => (gre_lef n L).mem_iff.mpr (List.mem_append_left _ hd)
theorem lef_sub (n : Nat) (L : List Dem) : ∀ d ∈ lef n L, d ∈ L := fun d hd => (gre_lef n L).mem_iff.mpr (List.mem_append_right _ hd)
theorem gre_ind : ∀ (n : Nat) (L : List Dem), Ind (gre n L)
  | 0, _ => List.Pairwise.nil
  | n + 1, [] => List.Pairwise.nil
  | n + 1, d :: R => by
    refine List.pairwise_cons.mpr ⟨fun e he => ?_, gre_ind n _⟩
    have := (List.mem_filter.mp (gre_sub n _ e he)).2
    rw [Bool.not_eq_true'] at this
    exact this
theorem gre_in : ∀ (n : Nat) (A B : List Dem) (e : Dem), A.length < n → e ∈ gre n (A ++ e :: B) ∨ ∃ f ∈ A, cf f e = true
  | 0, _, _, _, h => absurd h (Nat.not_lt_zero _)
  | n + 1, [], B, e, _ => .inl List.mem_cons_self
  | n + 1, d :: A, B, e, h => by
    by_cases c : cf d e = true
    · exact .inr ⟨d, List.mem_cons_self, c⟩
    · have eq : (A ++ e :: B).filter (fun x => !cf d x) = A.filter (fun x => !cf d x) ++ e :: B.filter (fun x => !cf d x) := by
        rw [List.filter_append, List.filter_cons_of_pos (by rw [Bool.not_eq_true] at c; rw [c]; rfl)]
      have l : (A.filter fun x => !cf d x).length < n := Nat.lt_of_le_of_lt (List.length_filter_le _ _) (Nat.lt_of_succ_lt_succ h)
      rcases gre_in n (A.filter fun x => !cf d x) (B.filter fun x => !cf d x) e l with g | ⟨f, hf, k⟩
      · refine .inl (List.mem_cons_of_mem _ ?_)
        show e ∈ gre n ((A ++ e :: B).filter fun x => !cf d x)
        rw [eq]
        exact g
      · exact .inr ⟨f, List.mem_cons_of_mem _ (List.mem_filter.mp hf).1, k⟩
theorem cov_lt {z w : Int × Int} {f : Dem} : ∀ {L : List Dem}, f ∈ L → (∀ c ∈ L, sv z c = true → sv w c = true) → sv z f = false → sv w f = true → cov L z < cov L w
  | [], hf, _, _, _ => nomatch hf
  | d :: L, hf, h, n, y => by
    rw [cov_cons, cov_cons]
    have le : cov L z ≤ cov L w := List.countP_mono_left fun c hc => h c (List.mem_cons_of_mem _ hc)
    have h1 := h d List.mem_cons_self
    rcases List.mem_cons.mp hf with rfl | hf
    · rw [n, y]
      simp
      omega
    · have ih := cov_lt hf (fun c hc => h c (List.mem_cons_of_mem _ hc)) n y
      split
      · next s => rw [if_pos (h1 s)]; omega
      · split <;> omega
theorem first_of {p : Dem → Bool} : ∀ {L : List Dem}, (∃ d ∈ L, p d = true) → ∃ A e B, L = A ++ e :: B ∧ p e = true ∧ ∀ f ∈ A, p f = false
  | [], h => by
    obtain ⟨d, hd, _⟩ := h
    cases hd
  | d :: L, h => by
    by_cases c : p d = true
    · exact ⟨[], d, L, rfl, c, fun f hf => nomatch hf⟩
    · obtain ⟨x, hx, px⟩ := h
      rcases List.mem_cons.mp hx with rfl | hx
      · exact absurd px c
      · obtain ⟨A, e, B, r1, r2, r3⟩ := first_of ⟨x, hx, px⟩
        refine ⟨d :: A, e, B, by rw [r1]; rfl, r2, fun f hf => ?_⟩
        rcases List.mem_cons.mp hf with rfl | hf
        · exact Bool.not_eq_true _ ▸ c
        · exact r3 f hf
theorem lef_cov {F : List Dem} (fam : Fam F) {L : List Dem} (hL : ∀ d ∈ L, d ∈ F) (nc : ∀ d ∈ L, ∀ e ∈ L, ¬ Corner d e) (srt : L.Pairwise fun d e => leD d e = true) {m : Nat} (hm : ∀ z, cov L z ≤ m + 1) (z : Int × Int) : cov (lef L.length L) z ≤ m := by
  have sum := cov_perm (gre_lef L.length L) z
  rw [cov_app] at sum
  have top := hm z
  by_cases g : ∃ d ∈ gre L.length L, sv z d = true
  · have : 0 < cov (gre L.length L) z := List.countP_pos_iff.mpr g
    omega
  · by_cases s : ∃ d ∈ L, sv z d = true
    · obtain ⟨A, e, B, rfl, se, nA⟩ := first_of s
      have la : A.length < (A ++ e :: B).length := by
        rw [List.length_append, List.length_cons]
        omega
      rcases gre_in _ A B e la with q | ⟨f, hf, k⟩
      · exact absurd ⟨e, q, se⟩ g
      · have mf : f ∈ A ++ e :: B := List.mem_append_left _ hf
        have me : e ∈ A ++ e :: B := List.mem_append_right _ List.mem_cons_self
        have pw := List.pairwise_append.mp srt
        have u1 := und_le fam (hL f mf) (hL e me) k (nc f mf e me) (nc e me f mf) (pw.2.2 f hf e List.mem_cons_self)
        have w : cov (A ++ e :: B) z < cov (A ++ e :: B) (f.1, z.2) := by
          have vf := (fam.ok f (hL f mf)).2
          have ve := sv_iff'.mp se
          refine cov_lt mf (fun c hc sc => ?_) (nA f hf) ?_
          · have u2 : Und e c := by
              rcases List.mem_append.mp hc with h | h
              · rw [nA c h] at sc
                cases sc
              · rcases List.mem_cons.mp h with rfl | h
                · exact ⟨Int.le_refl _, Int.le_refl _, Int.le_refl _⟩
                · exact und_le fam (hL e me) (hL c hc) (cf_of_sv se sc) (nc e me c hc) (nc c hc e me) ((List.pairwise_cons.mp pw.2.1).1 c h)
            have sc := sv_iff'.mp sc
            rw [sv_iff']
            unfold Und Vd at *
            show c.2.1 ≤ f.1 ∧ f.1 ≤ c.1 ∧ c.1 ≤ z.2 ∧ z.2 ≤ c.2.2
            omega
          · rw [sv_iff']
            unfold Und Vd at *
            show f.2.1 ≤ f.1 ∧ f.1 ≤ f.1 ∧ f.1 ≤ z.2 ∧ z.2 ≤ f.2.2
            omega
        have := hm (f.1, z.2)
        omega
    · have : cov L z = 0 := List.countP_eq_zero.mpr fun d hd c => s ⟨d, hd, c⟩
      omega
theorem len_le {F : List Dem} (fam : Fam F) {k : Nat} (hk : ∀ I, Ind I → (∀ d ∈ I, d ∈ F) → I.length ≤ k) : ∀ (m : Nat) (L : List Dem), (∀ d ∈ L, d ∈ F) → (∀ d ∈ L, ∀ e ∈ L, ¬ Corner d e) → (∀ z, cov L z ≤ m) → L.length ≤ m * k
  | 0, L, hL, _, hm => by
    cases L with
    | nil => exact Nat.zero_le _
    | cons d L =>
      have v := (fam.ok d (hL d List.mem_cons_self)).2
      have := hm (d.1, d.1)
      rw [cov_cons, if_pos (sv_iff'.mpr (by unfold Vd at v; exact ⟨v.1, Int.le_refl _, Int.le_refl _, v.2⟩))] at this
      omega
  | m + 1, L, hL, nc, hm => by
    have pm := List.mergeSort_perm L leD
    have srt := List.pairwise_mergeSort leD_trans leD_total L
    generalize L.mergeSort leD = S at *
    have hS : ∀ d ∈ S, d ∈ L := fun d hd => pm.mem_iff.mp hd
    have hl := lef_cov fam (fun d hd => hL d (hS d hd)) (fun d hd e he => nc d (hS d hd) e (hS e he)) srt (m := m) (fun z => by rw [cov_perm pm]; exact hm z)
    have sub := lef_sub S.length S
    have ih := len_le fam hk m (lef S.length S) (fun d hd => hL d (hS d (sub d hd))) (fun d hd e he => nc d (hS d (sub d hd)) e (hS e (sub e he))) hl
    have g := hk _ (gre_ind S.length S) fun d hd => hL d (hS d (gre_sub _ _ d hd))
    have e := (gre_lef S.length S).length_eq
    have e2 := pm.length_eq
    rw [List.length_append] at e
    rw [Nat.add_mul]
    omega
theorem sum_lt {α : Type} {f : α → Nat} : ∀ {Z : List α} {w : α}, w ∈ Z → (∀ x ∈ Z, f x ≤ 1) → f w = 0 → (Z.map f).sum + 1 ≤ Z.length
  | [], _, h, _, _ => nomatch h
  | x :: Z, w, h, h1, h0 => by
    have le : ∀ Y : List α, (∀ x ∈ Y, f x ≤ 1) → (Y.map f).sum ≤ Y.length := by
      intro Y
      induction Y with
      | nil => exact fun _ => Nat.le_refl _
      | cons y Y ih =>
        intro hy
        have := ih fun x hx => hy x (List.mem_cons_of_mem _ hx)
        have := hy y List.mem_cons_self
        rw [List.map_cons, List.sum_cons, List.length_cons]
        omega
    have r := le Z fun x hx => h1 x (List.mem_cons_of_mem _ hx)
    have hx := h1 x List.mem_cons_self
    rw [List.map_cons, List.sum_cons, List.length_cons]
    rcases List.mem_cons.mp h with rfl | h
    · omega
    · have := sum_lt h (fun x hx => h1 x (List.mem_cons_of_mem _ hx)) h0
      omega
theorem cov_flat {α : Type} (I : α → List Dem) (z : Int × Int) : ∀ Z : List α, cov (Z.flatMap I) z = (Z.map fun w => cov (I w) z).sum
  | [] => rfl
  | x :: Z => by
    rw [List.flatMap_cons, cov_app, cov_flat I z Z, List.map_cons, List.sum_cons]
theorem len_flat {α β : Type} (I : α → List β) {k : Nat} : ∀ Z : List α, (∀ w ∈ Z, (I w).length = k) → (Z.flatMap I).length = Z.length * k
  | [], _ => by simp
  | x :: Z, h => by
    rw [List.flatMap_cons, List.length_append, len_flat I Z fun w hw => h w (List.mem_cons_of_mem _ hw), h x List.mem_cons_self, List.length_cons, Nat.add_mul]
    omega
theorem top_of (F : List Dem) : ∃ M : Nat, ∀ d ∈ F, d.2.2 ≤ M := by
  induction F with
  | nil => exact ⟨0, fun d hd => nomatch hd⟩
  | cons d F ih =>
    obtain ⟨M, h⟩ := ih
    refine ⟨M + d.2.2.toNat, fun e he => ?_⟩
    rcases List.mem_cons.mp he with rfl | he
    · omega
    · have := h e he
      omega
def box (M : Nat) : List (Int × Int) := (List.range (M + 1)).flatMap fun (x : Nat) => (List.range (M + 1)).map fun (y : Nat) => ((x : Int), (y : Int))
theorem mem_box {M : Nat} {z : Int × Int} (h : 0 ≤ z.1 ∧ z.1 ≤ M) (h2 : 0 ≤ z.2 ∧ z.2 ≤ M) : z ∈ box M := by
  unfold box
  refine List.mem_flatMap.mpr ⟨z.1.toNat, List.mem_range.mpr (by omega), List.mem_map.mpr ⟨z.2.toNat, List.mem_range.mpr (by omega), ?_⟩⟩
  exact Prod.ext (by show ((z.1.toNat : Nat) : Int) = z.1; omega) (by show ((z.2.toNat : Nat) : Int) = z.2; omega)
/-- a point that every largest selection has to pay for -/
theorem hits {F : List Dem} (fam : Fam F) {k : Nat} (hk : ∀ I, Ind I → (∀ d ∈ I, d ∈ F) → I.length ≤ k + 1) : ∃ z, ∀ I, Ind I → (∀ d ∈ I, d ∈ F) → I.length = k + 1 → ∃ d ∈ I, sv z d = true := by
  refine Classical.byContradiction fun no => ?_
  have miss : ∀ z, ∃ I, Ind I ∧ (∀ d ∈ I, d ∈ F) ∧ I.length = k + 1 ∧ ∀ d ∈ I, sv z d = false := fun z => by
    refine Classical.byContradiction fun h => no ⟨z, fun I i1 i2 i3 => Classical.byContradiction fun n => h ⟨I, i1, i2, i3, fun d hd => ?_⟩⟩
    rw [← Bool.not_eq_true]
    exact fun s => n ⟨d, hd, s⟩
  obtain ⟨I, hI⟩ := Classical.axiomOfChoice miss
  obtain ⟨M, hM⟩ := top_of F
  have hsub : ∀ d ∈ (box M).flatMap I, d ∈ F := fun d hd => by
    obtain ⟨w, _, h⟩ := List.mem_flatMap.mp hd
    exact (hI w).2.1 d h
  have hlen := len_flat I (k := k + 1) (box M) fun w _ => (hI w).2.2.1
  have pos : 0 < (box M).length := List.length_pos_of_mem (mem_box (M := M) (z := (0, 0)) ⟨by decide, by show (0 : Int) ≤ M; omega⟩ ⟨by decide, by show (0 : Int) ≤ M; omega⟩)
  have hc : ∀ z, cov ((box M).flatMap I) z ≤ (box M).length - 1 := fun z => by
    by_cases b : (0 ≤ z.1 ∧ z.1 ≤ M) ∧ 0 ≤ z.2 ∧ z.2 ≤ M
    · have s := sum_lt (f := fun w => cov (I w) z) (mem_box b.1 b.2) (fun x _ => (hI x).1.cov_le z) (List.countP_eq_zero.mpr fun d hd c => by
        rw [(hI z).2.2.2 d hd] at c
        cases c)
      rw [cov_flat]
      omega
    · have : cov ((box M).flatMap I) z = 0 := List.countP_eq_zero.mpr fun d hd c => b (by
        have c := sv_iff'.mp c
        have o := fam.ok d (hsub d hd)
        have t := hM d (hsub d hd)
        unfold Vd at o
        omega)
      omega
  obtain ⟨N, n1, n2, n3, n4⟩ := uncross fam _ _ hsub (Nat.lt_succ_self _)
  have := len_le fam hk ((box M).length - 1) N n1 n4 fun z => Nat.le_trans (n3 z) (hc z)
  rw [n2, hlen] at this
  obtain ⟨b, eb⟩ : ∃ b, (box M).length = b + 1 := ⟨(box M).length - 1, by omega⟩
  rw [eb, Nat.add_sub_cancel, Nat.add_mul, Nat.one_mul] at this
  omega
theorem Fam.rest {F : List Dem} (fam : Fam F) (z : Int × Int) : Fam (F.filter fun d => !sv z d) := by
  have hs : ∀ d, d ∈ F.filter (fun d => !sv z d) → d ∈ F ∧ sv z d = false := fun d hd => by
    have := List.mem_filter.mp hd
    exact ⟨this.1, by rw [← Bool.not_eq_true']; exact this.2⟩
  refine ⟨fun d hd => fam.ok d (hs d hd).1, fun d hd e he h1 h2 h3 c => ?_, fun d hd e he c => fam.cross d (hs d hd).1 e (hs e he).1 c⟩
  have x := fam.ex d (hs d hd).1 e (hs e he).1 h1 h2 h3 c
  have y := sv_exch (z := z) h1 h2 h3 c
  rw [(hs d hd).2, (hs e he).2] at y
  simp at y
  exact ⟨List.mem_filter.mpr ⟨x.1, by rw [y.1]; rfl⟩, List.mem_filter.mpr ⟨x.2, by rw [y.2]; rfl⟩⟩
/-- as many points as the largest selection has serve all -/
theorem min_max : ∀ (k : Nat) {F : List Dem}, Fam F → (∀ I, Ind I → (∀ d ∈ I, d ∈ F) → I.length ≤ k) → ∃ S : List (Int × Int), S.length ≤ k ∧ ∀ d ∈ F, ∃ z ∈ S, sv z d = true
  | 0, F, fam, hk => ⟨[], Nat.le_refl _, fun d hd => by
    have := hk [d] (List.pairwise_singleton _ _) fun e he => by
      rw [List.mem_singleton.mp he]
      exact hd
    exact absurd this (by simp)⟩
  | k + 1, F, fam, hk => by
    obtain ⟨z, hz⟩ := hits fam hk
    obtain ⟨S, s1, s2⟩ := min_max k (fam.rest z) fun I i1 i2 => by
      have sub : ∀ d ∈ I, d ∈ F ∧ sv z d = false := fun d hd => by
        have := List.mem_filter.mp (i2 d hd)
        exact ⟨this.1, by rw [← Bool.not_eq_true']; exact this.2⟩
      have le := hk I i1 fun d hd => (sub d hd).1
      by_cases e : I.length = k + 1
      · obtain ⟨d, hd, s⟩ := hz I i1 (fun d hd => (sub d hd).1) e
        rw [(sub d hd).2] at s
        cases s
      · omega
    refine ⟨z :: S, by rw [List.length_cons]; omega, fun d hd => ?_⟩
    by_cases s : sv z d = true
    · exact ⟨z, List.mem_cons_self, s⟩
    · obtain ⟨w, hw, q⟩ := s2 d (List.mem_filter.mpr ⟨hd, by rw [Bool.not_eq_true] at s; rw [s]; rfl⟩)
      exact ⟨w, List.mem_cons_of_mem _ hw, q⟩

def topS (i : Nat) : Stmt := PySem.Challenge.pw_fewspans_k22_whole_independent_demands_b.main.body.getD i (.Pass ⟨0, 0, 0, 0⟩)
abbrev s_depth_changes : Stmt := topS 1
abbrev N_depth_changes : List Str := ["intervals", "changes", "low", "high"]
theorem sc_depth_changes : FnScope N_depth_changes ["intervals"] (defScope s_depth_changes) := ⟨rfl, rfl, rfl, by decide +kernel, rfl, by decide +kernel, by decide +kernel⟩
abbrev s_find_blocks : Stmt := topS 2
abbrev N_find_blocks : List Str := ["intervals", "changes", "borders", "blocks", "depth", "low", "after"]
theorem sc_find_blocks : FnScope N_find_blocks ["intervals"] (defScope s_find_blocks) := ⟨rfl, rfl, rfl, by decide +kernel, rfl, by decide +kernel, by decide +kernel⟩
abbrev s_is_number : Stmt := topS 5
abbrev N_is_number : List Str := ["value"]
theorem sc_is_number : FnScope N_is_number ["value"] (defScope s_is_number) := ⟨rfl, rfl, rfl, by decide +kernel, rfl, by decide +kernel, by decide +kernel⟩
abbrev s_is_position : Stmt := topS 6
abbrev N_is_position : List Str := ["value"]
theorem sc_is_position : FnScope N_is_position ["value"] (defScope s_is_position) := ⟨rfl, rfl, rfl, by decide +kernel, rfl, by decide +kernel, by decide +kernel⟩
abbrev s_is_tuple_of : Stmt := topS 7
abbrev N_is_tuple_of : List Str := ["value", "length"]
theorem sc_is_tuple_of : FnScope N_is_tuple_of ["value", "length"] (defScope s_is_tuple_of) := ⟨rfl, rfl, rfl, by decide +kernel, rfl, by decide +kernel, by decide +kernel⟩
abbrev s_is_interval : Stmt := topS 8
abbrev N_is_interval : List Str := ["value", "low", "high"]
theorem sc_is_interval : FnScope N_is_interval ["value"] (defScope s_is_interval) := ⟨rfl, rfl, rfl, by decide +kernel, rfl, by decide +kernel, by decide +kernel⟩
abbrev s_has_position : Stmt := topS 9
abbrev N_has_position : List Str := ["interval", "position"]
theorem sc_has_position : FnScope N_has_position ["interval", "position"] (defScope s_has_position) := ⟨rfl, rfl, rfl, by decide +kernel, rfl, by decide +kernel, by decide +kernel⟩
abbrev s_contains : Stmt := topS 10
abbrev N_contains : List Str := ["outer", "inner"]
theorem sc_contains : FnScope N_contains ["outer", "inner"] (defScope s_contains) := ⟨rfl, rfl, rfl, by decide +kernel, rfl, by decide +kernel, by decide +kernel⟩
abbrev s_is_demand : Stmt := topS 12
abbrev N_is_demand : List Str := ["value", "position", "target"]
theorem sc_is_demand : FnScope N_is_demand ["value"] (defScope s_is_demand) := ⟨rfl, rfl, rfl, by decide +kernel, rfl, by decide +kernel, by decide +kernel⟩
abbrev s_serves : Stmt := topS 13
abbrev N_serves : List Str := ["piece", "demand", "position", "target"]
theorem sc_serves : FnScope N_serves ["piece", "demand"] (defScope s_serves) := ⟨rfl, rfl, rfl, by decide +kernel, rfl, by decide +kernel, by decide +kernel⟩
abbrev s_conflict : Stmt := topS 14
abbrev N_conflict : List Str := ["first", "second"]
theorem sc_conflict : FnScope N_conflict ["first", "second"] (defScope s_conflict) := ⟨rfl, rfl, rfl, by decide +kernel, rfl, by decide +kernel, by decide +kernel⟩
abbrev s_is_independent : Stmt := topS 15
abbrev N_is_independent : List Str := ["value", "item", "index", "first", "second"]
theorem sc_is_independent : FnScope N_is_independent ["value"] (defScope s_is_independent) := ⟨rfl, rfl, rfl, by decide +kernel, rfl, by decide +kernel, by decide +kernel⟩
abbrev s_demands_at_blocks : Stmt := topS 16
abbrev N_demands_at_blocks : List Str := ["targets", "blocks", "low", "high", "target"]
theorem sc_demands_at_blocks : FnScope N_demands_at_blocks ["targets", "blocks"] (defScope s_demands_at_blocks) := ⟨rfl, rfl, rfl, by decide +kernel, rfl, by decide +kernel, by decide +kernel⟩
abbrev s_is_open : Stmt := topS 17
abbrev N_is_open : List Str := ["pieces", "demand", "piece"]
theorem sc_is_open : FnScope N_is_open ["pieces", "demand"] (defScope s_is_open) := ⟨rfl, rfl, rfl, by decide +kernel, rfl, by decide +kernel, by decide +kernel⟩
abbrev s_open_demands : Stmt := topS 18
abbrev N_open_demands : List Str := ["targets", "pieces", "demands", "demand"]
theorem sc_open_demands : FnScope N_open_demands ["targets", "pieces"] (defScope s_open_demands) := ⟨rfl, rfl, rfl, by decide +kernel, rfl, by decide +kernel, by decide +kernel⟩
abbrev s_pieces_inside : Stmt := topS 23
abbrev N_pieces_inside : List Str := ["pieces", "target", "piece"]
theorem sc_pieces_inside : FnScope N_pieces_inside ["pieces", "target"] (defScope s_pieces_inside) := ⟨rfl, rfl, rfl, by decide +kernel, rfl, by decide +kernel, by decide +kernel⟩
abbrev s_first_gap : Stmt := topS 24
abbrev N_first_gap : List Str := ["pieces", "target", "position", "last", "low", "high"]
theorem sc_first_gap : FnScope N_first_gap ["pieces", "target"] (defScope s_first_gap) := ⟨rfl, rfl, rfl, by decide +kernel, rfl, by decide +kernel, by decide +kernel⟩
abbrev s_find_missing : Stmt := topS 25
abbrev N_find_missing : List Str := ["targets", "pieces", "target", "gap"]
theorem sc_find_missing : FnScope N_find_missing ["targets", "pieces"] (defScope s_find_missing) := ⟨rfl, rfl, rfl, by decide +kernel, rfl, by decide +kernel, by decide +kernel⟩
abbrev s_without_item : Stmt := topS 26
abbrev N_without_item : List Str := ["items", "item", "other"]
theorem sc_without_item : FnScope N_without_item ["items", "item"] (defScope s_without_item) := ⟨rfl, rfl, rfl, by decide +kernel, rfl, by decide +kernel, by decide +kernel⟩
abbrev s_require_generated : Stmt := topS 27
abbrev N_require_generated : List Str := ["targets", "pieces", "missing"]
theorem sc_require_generated : FnScope N_require_generated ["targets", "pieces"] (defScope s_require_generated) := ⟨rfl, rfl, rfl, by decide +kernel, rfl, by decide +kernel, by decide +kernel⟩
abbrev s_can_spare : Stmt := topS 28
abbrev N_can_spare : List Str := ["targets", "pieces", "piece"]
theorem sc_can_spare : FnScope N_can_spare ["targets", "pieces", "piece"] (defScope s_can_spare) := ⟨rfl, rfl, rfl, by decide +kernel, rfl, by decide +kernel, by decide +kernel⟩
abbrev s_prune_pieces : Stmt := topS 29
abbrev N_prune_pieces : List Str := ["targets", "pieces", "left", "piece"]
theorem sc_prune_pieces : FnScope N_prune_pieces ["targets", "pieces"] (defScope s_prune_pieces) := ⟨rfl, rfl, rfl, by decide +kernel, rfl, by decide +kernel, by decide +kernel⟩
abbrev s_law_deck : Stmt := topS 31
abbrev N_law_deck : List Str := ["_law_script", "_law_cell"]
theorem sc_law_deck : FnScope N_law_deck ["_law_script"] (defScope s_law_deck) := ⟨rfl, rfl, rfl, by decide +kernel, rfl, by decide +kernel, by decide +kernel⟩
abbrev s_law_draw : Stmt := topS 32
abbrev N_law_draw : List Str := ["_law_deck_here", "_law_bound", "_law_place", "_law_cell", "_law_mixed"]
theorem sc_law_draw : FnScope N_law_draw ["_law_deck_here", "_law_bound"] (defScope s_law_draw) := ⟨rfl, rfl, rfl, by decide +kernel, rfl, by decide +kernel, by decide +kernel⟩
abbrev s_law_line : Stmt := topS 33
abbrev N_law_line : List Str := ["_law_deck_here", "_law_count", "_law_line_here", "_law_k"]
theorem sc_law_line : FnScope N_law_line ["_law_deck_here", "_law_count"] (defScope s_law_line) := ⟨rfl, rfl, rfl, by decide +kernel, rfl, by decide +kernel, by decide +kernel⟩
abbrev s_law_interval : Stmt := topS 34
abbrev N_law_interval : List Str := ["_law_deck_here", "_law_line_here", "_law_first", "_law_second"]
theorem sc_law_interval : FnScope N_law_interval ["_law_deck_here", "_law_line_here"] (defScope s_law_interval) := ⟨rfl, rfl, rfl, by decide +kernel, rfl, by decide +kernel, by decide +kernel⟩
abbrev s_law_intervals : Stmt := topS 35
abbrev N_law_intervals : List Str := ["_law_deck_here", "_law_line_here", "_law_most", "_law_items", "_law_k"]
theorem sc_law_intervals : FnScope N_law_intervals ["_law_deck_here", "_law_line_here", "_law_most"] (defScope s_law_intervals) := ⟨rfl, rfl, rfl, by decide +kernel, rfl, by decide +kernel, by decide +kernel⟩
abbrev s_law_conflict : Stmt := topS 36
abbrev N_law_conflict : List Str := ["_law_first", "_law_second", "_law_low", "_law_high"]
theorem sc_law_conflict : FnScope N_law_conflict ["_law_first", "_law_second"] (defScope s_law_conflict) := ⟨rfl, rfl, rfl, by decide +kernel, rfl, by decide +kernel, by decide +kernel⟩
abbrev s_law_independent : Stmt := topS 37
abbrev N_law_independent : List Str := ["_law_deck_here", "_law_demands", "_law_remaining", "_law_chosen", "_law_demand", "_law_other"]
theorem sc_law_independent : FnScope N_law_independent ["_law_deck_here", "_law_demands"] (defScope s_law_independent) := ⟨rfl, rfl, rfl, by decide +kernel, rfl, by decide +kernel, by decide +kernel⟩
abbrev s_law_completions : Stmt := topS 39
abbrev N_law_completions : List Str := ["_law_deck_here", "_law_targets", "_law_pieces", "_law_line_here", "_law_starts", "_law_low", "_law_high", "_law_blocks", "_law_after"]
theorem sc_law_completions : FnScope N_law_completions ["_law_deck_here", "_law_targets", "_law_pieces", "_law_line_here"] (defScope s_law_completions) := ⟨rfl, rfl, rfl, by decide +kernel, rfl, by decide +kernel, by decide +kernel⟩
abbrev s_law_right : Stmt := topS 40
abbrev N_law_right : List Str := ["_law_targets", "_law_pieces", "_law_added", "_law_demands", "_law_both", "_law_more", "_law_piece", "_law_demand"]
theorem sc_law_right : FnScope N_law_right ["_law_targets", "_law_pieces", "_law_added", "_law_demands"] (defScope s_law_right) := ⟨rfl, rfl, rfl, by decide +kernel, rfl, by decide +kernel, by decide +kernel⟩
abbrev s_law : Stmt := topS 41
abbrev N_law : List Str := ["_law_script", "_law_deck_here", "_law_turn", "_law_line_here", "_law_targets", "_law_pieces", "_law_some", "_law_demands", "_law_positions", "_law_position", "_law_target", "_law_owners", "_law_added"]
theorem sc_law : FnScope N_law ["_law_script"] (defScope s_law) := ⟨rfl, rfl, rfl, by decide +kernel, rfl, by decide +kernel, by decide +kernel⟩
/-! ### the deck and its draws -/
structure Dk (H : Hp) (d c : Addr) (n : Int) : Prop where
  top : H d = some (.lst [.ref c, .int n])
  cells : ∃ xs : List Int, H c = some (.lst (xs.map V.int)) ∧ xs.length ≤ 63 ∧ ∀ x ∈ xs, 0 ≤ x
theorem Dk.ne {H : Hp} {d c : Addr} {n : Int} (h : Dk H d c n) : c ≠ d := by
  obtain ⟨xs, e, _⟩ := h.cells
  intro z
  subst z
  have q := e.symm.trans h.top
  cases xs with
  | nil => cases q
  | cons x r => cases q
/-- nothing but the deck has changed -/
def Kp (d c : Addr) (H H' : Hp) : Prop := ∀ b o, b ≠ d → b ≠ c → H b = some o → H' b = some o
theorem Kp.trans {d c : Addr} {H H1 H2 : Hp} (h1 : Kp d c H H1) (h2 : Kp d c H1 H2) : Kp d c H H2 := fun b o n1 n2 e => h2 b o n1 n2 (h1 b o n1 n2 e)
theorem Kp.same {d c : Addr} {H H1 : Hp} (h : Same H H1) : Kp d c H H1 := fun b o _ _ e => h b o e
theorem Kp.none {d c : Addr} {H H' : Hp} (k : Kp d c H H') {n m : Int} (h : Dk H d c n) (h' : Dk H' d c m) {t : Addr} (e : H' t = none) : H t = none := by
  by_cases e1 : t = d
  · rw [e1, h'.top] at e
    cases e
  · by_cases e2 : t = c
    · obtain ⟨xs, z, _⟩ := h'.cells
      rw [e2, z] at e
      cases e
    · cases q : H t with
      | none => rfl
      | some o =>
        rw [k t o e1 e2 q] at e
        cases e
theorem Dk.kept {H H' : Hp} {d c : Addr} {n : Int} (h : Dk H d c n) (s : Same H H') : Dk H' d c n :=
  let ⟨xs, e, a⟩ := h.cells
  ⟨s _ _ h.top, xs, s _ _ e, a⟩
theorem Dk.eq {H : Hp} {d c : Addr} {n m : Int} (h : Dk H d c n) (e : n = m) : Dk H d c m := e ▸ h
def sp_law_deck (K : PySem.W.Frag) : Sp := fun vs H Q _ => ∃ (a : Addr) (ns : List Int), vs = [.ref a] ∧ SqL K H a (ns.map V.int) ∧ ns.length ≤ 63 ∧
  ∀ H' d c, Same H H' → H d = none → H c = none → Dk H' d c 0 → Q (.ref d) H'
def sp_law_draw : Sp := fun vs H Q _ => ∃ (d c : Addr) (n lim : Int), vs = [.ref d, .int lim] ∧ Dk H d c n ∧ 0 ≤ n ∧ n < 1000000 ∧ 0 < lim ∧ lim < 2 ^ 63 ∧
  ∀ H' r, Kp d c H H' → Dk H' d c (n + 1) → 0 ≤ r → r < lim → Q (.int r) H'
theorem same_new {H : Hp} {p : Addr} {o : HO} (h : H p = none) : Same H (upd H p o) := fun b x e => by
  rw [upd_ne (ne_of_none e h)]
  exact e
theorem cutTo (xs : List V) (j : Nat) : cutV xs none (some (j : Int)) = xs.take j := by
  unfold cutV
  rw [HT.sIx_none, show HT.sIx xs.length xs.length (some (j : Int)) = min j xs.length from HT.sIx_nat xs.length xs.length j]
  rw [Nat.sub_zero, List.drop_zero]
  rcases Nat.le_total j xs.length with h | h
  · rw [Nat.min_eq_left h]
  · rw [Nat.min_eq_right h, List.take_length, List.take_of_length_le h]
section
structure Tx (K : PySem.W.Frag) (mg : Str → Option Value) (f_depth_changes f_find_blocks f_is_number f_is_position f_is_tuple_of f_is_interval f_has_position f_contains f_is_demand f_serves f_conflict f_is_independent f_demands_at_blocks f_is_open f_open_demands f_pieces_inside f_first_gap f_find_missing f_without_item f_require_generated f_can_spare f_prune_pieces f_law_deck f_law_draw f_law_line f_law_interval f_law_intervals f_law_conflict f_law_independent f_law_completions f_law_right f_law : Addr) (d_depth_changes d_find_blocks d_is_number d_is_position d_is_tuple_of d_is_interval d_has_position d_contains d_is_demand d_serves d_conflict d_is_independent d_demands_at_blocks d_is_open d_open_demands d_pieces_inside d_first_gap d_find_missing d_without_item d_require_generated d_can_spare d_prune_pieces d_law_deck d_law_draw d_law_line d_law_interval d_law_intervals d_law_conflict d_law_independent d_law_completions d_law_right d_law : FuncData) (t_LAST_POSITION : Tok) : Prop where
  F_depth_changes : Fun K "depth_changes" "depth_changes" s_depth_changes f_depth_changes d_depth_changes
  b_depth_changes : Binds K d_depth_changes ["intervals"] []
  g_depth_changes : mg "depth_changes" = some (.ref f_depth_changes)
  F_find_blocks : Fun K "find_blocks" "find_blocks" s_find_blocks f_find_blocks d_find_blocks
  b_find_blocks : Binds K d_find_blocks ["intervals"] []
  g_find_blocks : mg "find_blocks" = some (.ref f_find_blocks)
  F_is_number : Fun K "is_number" "is_number" s_is_number f_is_number d_is_number
  b_is_number : Binds K d_is_number ["value"] []
  g_is_number : mg "is_number" = some (.ref f_is_number)
  F_is_position : Fun K "is_position" "is_position" s_is_position f_is_position d_is_position
  b_is_position : Binds K d_is_position ["value"] []
  g_is_position : mg "is_position" = some (.ref f_is_position)
  F_is_tuple_of : Fun K "is_tuple_of" "is_tuple_of" s_is_tuple_of f_is_tuple_of d_is_tuple_of
  b_is_tuple_of : Binds K d_is_tuple_of ["value", "length"] []
  g_is_tuple_of : mg "is_tuple_of" = some (.ref f_is_tuple_of)
  F_is_interval : Fun K "is_interval" "is_interval" s_is_interval f_is_interval d_is_interval
  b_is_interval : Binds K d_is_interval ["value"] []
  g_is_interval : mg "is_interval" = some (.ref f_is_interval)
  F_has_position : Fun K "has_position" "has_position" s_has_position f_has_position d_has_position
  b_has_position : Binds K d_has_position ["interval", "position"] []
  g_has_position : mg "has_position" = some (.ref f_has_position)
  F_contains : Fun K "contains" "contains" s_contains f_contains d_contains
  b_contains : Binds K d_contains ["outer", "inner"] []
  g_contains : mg "contains" = some (.ref f_contains)
  F_is_demand : Fun K "is_demand" "is_demand" s_is_demand f_is_demand d_is_demand
  b_is_demand : Binds K d_is_demand ["value"] []
  g_is_demand : mg "is_demand" = some (.ref f_is_demand)
  F_serves : Fun K "serves" "serves" s_serves f_serves d_serves
  b_serves : Binds K d_serves ["piece", "demand"] []
  g_serves : mg "serves" = some (.ref f_serves)
  F_conflict : Fun K "conflict" "conflict" s_conflict f_conflict d_conflict
  b_conflict : Binds K d_conflict ["first", "second"] []
  g_conflict : mg "conflict" = some (.ref f_conflict)
  F_is_independent : Fun K "is_independent" "is_independent" s_is_independent f_is_independent d_is_independent
  b_is_independent : Binds K d_is_independent ["value"] []
  g_is_independent : mg "is_independent" = some (.ref f_is_independent)
  F_demands_at_blocks : Fun K "demands_at_blocks" "demands_at_blocks" s_demands_at_blocks f_demands_at_blocks d_demands_at_blocks
  b_demands_at_blocks : Binds K d_demands_at_blocks ["targets", "blocks"] []
  g_demands_at_blocks : mg "demands_at_blocks" = some (.ref f_demands_at_blocks)
  F_is_open : Fun K "is_open" "is_open" s_is_open f_is_open d_is_open
  b_is_open : Binds K d_is_open ["pieces", "demand"] []
  g_is_open : mg "is_open" = some (.ref f_is_open)
  F_open_demands : Fun K "open_demands" "open_demands" s_open_demands f_open_demands d_open_demands
  b_open_demands : Binds K d_open_demands ["targets", "pieces"] []
  g_open_demands : mg "open_demands" = some (.ref f_open_demands)
  F_pieces_inside : Fun K "pieces_inside" "pieces_inside" s_pieces_inside f_pieces_inside d_pieces_inside
  b_pieces_inside : Binds K d_pieces_inside ["pieces", "target"] []
  g_pieces_inside : mg "pieces_inside" = some (.ref f_pieces_inside)
  F_first_gap : Fun K "first_gap" "first_gap" s_first_gap f_first_gap d_first_gap
  b_first_gap : Binds K d_first_gap ["pieces", "target"] []
  g_first_gap : mg "first_gap" = some (.ref f_first_gap)
  F_find_missing : Fun K "find_missing" "find_missing" s_find_missing f_find_missing d_find_missing
  b_find_missing : Binds K d_find_missing ["targets", "pieces"] []
  g_find_missing : mg "find_missing" = some (.ref f_find_missing)
  F_without_item : Fun K "without_item" "without_item" s_without_item f_without_item d_without_item
  b_without_item : Binds K d_without_item ["items", "item"] []
  g_without_item : mg "without_item" = some (.ref f_without_item)
  F_require_generated : Fun K "require_generated" "require_generated" s_require_generated f_require_generated d_require_generated
  b_require_generated : Binds K d_require_generated ["targets", "pieces"] []
  g_require_generated : mg "require_generated" = some (.ref f_require_generated)
  F_can_spare : Fun K "can_spare" "can_spare" s_can_spare f_can_spare d_can_spare
  b_can_spare : Binds K d_can_spare ["targets", "pieces", "piece"] []
  g_can_spare : mg "can_spare" = some (.ref f_can_spare)
  F_prune_pieces : Fun K "prune_pieces" "prune_pieces" s_prune_pieces f_prune_pieces d_prune_pieces
  b_prune_pieces : Binds K d_prune_pieces ["targets", "pieces"] []
  g_prune_pieces : mg "prune_pieces" = some (.ref f_prune_pieces)
  F_law_deck : Fun K "_law_deck" "_law_deck" s_law_deck f_law_deck d_law_deck
  b_law_deck : Binds K d_law_deck ["_law_script"] []
  g_law_deck : mg "_law_deck" = some (.ref f_law_deck)
  F_law_draw : Fun K "_law_draw" "_law_draw" s_law_draw f_law_draw d_law_draw
  b_law_draw : Binds K d_law_draw ["_law_deck_here", "_law_bound"] []
  g_law_draw : mg "_law_draw" = some (.ref f_law_draw)
  F_law_line : Fun K "_law_line" "_law_line" s_law_line f_law_line d_law_line
  b_law_line : Binds K d_law_line ["_law_deck_here", "_law_count"] []
  g_law_line : mg "_law_line" = some (.ref f_law_line)
  F_law_interval : Fun K "_law_interval" "_law_interval" s_law_interval f_law_interval d_law_interval
  b_law_interval : Binds K d_law_interval ["_law_deck_here", "_law_line_here"] []
  g_law_interval : mg "_law_interval" = some (.ref f_law_interval)
  F_law_intervals : Fun K "_law_intervals" "_law_intervals" s_law_intervals f_law_intervals d_law_intervals
  b_law_intervals : Binds K d_law_intervals ["_law_deck_here", "_law_line_here", "_law_most"] []
  g_law_intervals : mg "_law_intervals" = some (.ref f_law_intervals)
  F_law_conflict : Fun K "_law_conflict" "_law_conflict" s_law_conflict f_law_conflict d_law_conflict
  b_law_conflict : Binds K d_law_conflict ["_law_first", "_law_second"] []
  g_law_conflict : mg "_law_conflict" = some (.ref f_law_conflict)
  F_law_independent : Fun K "_law_independent" "_law_independent" s_law_independent f_law_independent d_law_independent
  b_law_independent : Binds K d_law_independent ["_law_deck_here", "_law_demands"] []
  g_law_independent : mg "_law_independent" = some (.ref f_law_independent)
  F_law_completions : Fun K "_law_completions" "_law_completions" s_law_completions f_law_completions d_law_completions
  b_law_completions : Binds K d_law_completions ["_law_deck_here", "_law_targets", "_law_pieces", "_law_line_here"] []
  g_law_completions : mg "_law_completions" = some (.ref f_law_completions)
  F_law_right : Fun K "_law_right" "_law_right" s_law_right f_law_right d_law_right
  b_law_right : Binds K d_law_right ["_law_targets", "_law_pieces", "_law_added", "_law_demands"] []
  g_law_right : mg "_law_right" = some (.ref f_law_right)
  F_law : Fun K "law" "law" s_law f_law d_law
  b_law : Binds K d_law ["_law_script"] []
  g_law : mg "law" = some (.ref f_law)
  c_LAST_POSITION : mg "LAST_POSITION" = some (.int 1000000000000 t_LAST_POSITION)
  z_abs : mg "abs" = none
  z_all : mg "all" = none
  z_any : mg "any" = none
  z_bool : mg "bool" = none
  z_enumerate : mg "enumerate" = none
  z_int : mg "int" = none
  z_isinstance : mg "isinstance" = none
  z_len : mg "len" = none
  z_list : mg "list" = none
  z_max : mg "max" = none
  z_min : mg "min" = none
  z_range : mg "range" = none
  z_set : mg "set" = none
  z_sorted : mg "sorted" = none
  z_tuple : mg "tuple" = none
  z_zip : mg "zip" = none
variable {P : Program} {w : World} {K : PySem.W.Frag} {mg : Str → Option Value} {base : Heap} {f_depth_changes f_find_blocks f_is_number f_is_position f_is_tuple_of f_is_interval f_has_position f_contains f_is_demand f_serves f_conflict f_is_independent f_demands_at_blocks f_is_open f_open_demands f_pieces_inside f_first_gap f_find_missing f_without_item f_require_generated f_can_spare f_prune_pieces f_law_deck f_law_draw f_law_line f_law_interval f_law_intervals f_law_conflict f_law_independent f_law_completions f_law_right f_law : Addr} {d_depth_changes d_find_blocks d_is_number d_is_position d_is_tuple_of d_is_interval d_has_position d_contains d_is_demand d_serves d_conflict d_is_independent d_demands_at_blocks d_is_open d_open_demands d_pieces_inside d_first_gap d_find_missing d_without_item d_require_generated d_can_spare d_prune_pieces d_law_deck d_law_draw d_law_line d_law_interval d_law_intervals d_law_conflict d_law_independent d_law_completions d_law_right d_law : FuncData} {t_LAST_POSITION : Tok}
abbrev TxA (K : PySem.W.Frag) (mg : Str → Option Value) (f_depth_changes f_find_blocks f_is_number f_is_position f_is_tuple_of f_is_interval f_has_position f_contains f_is_demand f_serves f_conflict f_is_independent f_demands_at_blocks f_is_open f_open_demands f_pieces_inside f_first_gap f_find_missing f_without_item f_require_generated f_can_spare f_prune_pieces f_law_deck f_law_draw f_law_line f_law_interval f_law_intervals f_law_conflict f_law_independent f_law_completions f_law_right f_law : Addr) (d_depth_changes d_find_blocks d_is_number d_is_position d_is_tuple_of d_is_interval d_has_position d_contains d_is_demand d_serves d_conflict d_is_independent d_demands_at_blocks d_is_open d_open_demands d_pieces_inside d_first_gap d_find_missing d_without_item d_require_generated d_can_spare d_prune_pieces d_law_deck d_law_draw d_law_line d_law_interval d_law_intervals d_law_conflict d_law_independent d_law_completions d_law_right d_law : FuncData) (t_LAST_POSITION : Tok) := Tx K mg f_depth_changes f_find_blocks f_is_number f_is_position f_is_tuple_of f_is_interval f_has_position f_contains f_is_demand f_serves f_conflict f_is_independent f_demands_at_blocks f_is_open f_open_demands f_pieces_inside f_first_gap f_find_missing f_without_item f_require_generated f_can_spare f_prune_pieces f_law_deck f_law_draw f_law_line f_law_interval f_law_intervals f_law_conflict f_law_independent f_law_completions f_law_right f_law d_depth_changes d_find_blocks d_is_number d_is_position d_is_tuple_of d_is_interval d_has_position d_contains d_is_demand d_serves d_conflict d_is_independent d_demands_at_blocks d_is_open d_open_demands d_pieces_inside d_first_gap d_find_missing d_without_item d_require_generated d_can_spare d_prune_pieces d_law_deck d_law_draw d_law_line d_law_interval d_law_intervals d_law_conflict d_law_independent d_law_completions d_law_right d_law t_LAST_POSITION
theorem ok_law_deck (T : Tx K mg f_depth_changes f_find_blocks f_is_number f_is_position f_is_tuple_of f_is_interval f_has_position f_contains f_is_demand f_serves f_conflict f_is_independent f_demands_at_blocks f_is_open f_open_demands f_pieces_inside f_first_gap f_find_missing f_without_item f_require_generated f_can_spare f_prune_pieces f_law_deck f_law_draw f_law_line f_law_interval f_law_intervals f_law_conflict f_law_independent f_law_completions f_law_right f_law d_depth_changes d_find_blocks d_is_number d_is_position d_is_tuple_of d_is_interval d_has_position d_contains d_is_demand d_serves d_conflict d_is_independent d_demands_at_blocks d_is_open d_open_demands d_pieces_inside d_first_gap d_find_missing d_without_item d_require_generated d_can_spare d_prune_pieces d_law_deck d_law_draw d_law_line d_law_interval d_law_intervals d_law_conflict d_law_independent d_law_completions d_law_right d_law t_LAST_POSITION) : FnOk P w K mg base CX0 1 f_law_deck d_law_deck ["_law_script"] (sp_law_deck K) := by
  refine T.F_law_deck.ok sc_law_deck (fun vs H Q E h => ?_) (fun cdv A outer s H vs Q E hr h => ?_)
  · obtain ⟨a, ns, rfl, _⟩ := h
    rfl
  · obtain ⟨a, ns0, rfl, hS, hlen, q⟩ := h
    refine ⟨_, (pss_one (ps_ret (pe_lst (pa_cons (pe_lc (own := [("_law_cell", 1)]) (g := (gName 1)) (tt := tYes) (by rfl) sc_law_deck.nd (pi_list (pe_slice sl_list (pv 0) po_none (po_some pe_int))) (blkOk_by (own := [("_law_cell", 1)]) (N := N_law_deck) (sc := defScope s_law_deck) (by decide +kernel)) (fun _ _ _ _ _ => (pg_name (i := 1) sc_law_deck.nd rfl (Or.inl rfl))) (fun _ _ _ _ _ => pts_nil) (fun _ _ _ _ _ => (pe_callB call_abs (by rfl) T.z_abs (by decide +kernel) (pa_cons (pv 1) pa_nil)))) (pa_cons pe_int pa_nil))))), ?_⟩
    refine ⟨.ref a, rfl, 60, rfl, a, ns0.map V.int, rfl, hS, fun p np => ?_⟩
    rw [show cutV (ns0.map V.int) none (some 60) = (ns0.take 60).map V.int by rw [List.map_take]; exact cutTo _ 60]
    have hlen : (ns0.take 60).length ≤ 63 := Nat.le_trans (List.length_take_le' _ _) hlen
    generalize ns0.take 60 = ns at *
    have s1 : Same H (upd H p (.lst (ns.map V.int))) := same_new np
    refine ⟨p, rfl, ⟨_, SqL.of upd_same⟩, fun D nD => ?_⟩
    have nDp : D ≠ p := fun e => by
      rw [e, upd_same] at nD
      cases nD
    have nD0 : H D = none := by
      rw [upd_ne nDp] at nD
      exact nD
    refine lc_list (K := K) (a := p) (xs := ns.map V.int) (fun i H' => Same (upd H p (.lst (ns.map V.int))) H' ∧ H' D = some (.lst (((ns.take i).map fun (x : Int) => if x < 0 then -x else x).map V.int))) ⟨same_new nD, upd_same⟩ (fun i H' _ h => h.1.seq (SqL.of upd_same)) ?_ ?_
    · rintro i x H' hi ⟨sm, eD⟩
      rw [List.getElem?_map] at hi
      obtain ⟨n, en, rfl⟩ := Option.map_eq_some_iff.mp hi
      refine ⟨rfl, .int n, rfl, n, rfl, _, eD, ?_, ?_, ?_⟩
      · have : (List.take i ns).length ≤ ns.length := List.length_take_le' i ns
        simp only [List.length_map]
        exact small1000 (by omega)
      · intro b o e
        have nb : b ≠ D := ne_of_none e nD
        rw [upd_ne nb]
        exact sm b o e
      · rw [upd_same, List.take_add_one, en]
        simp
    · rintro H' ⟨sm, eD⟩
      rw [List.length_map, List.take_length] at eD
      refine ⟨by show 2 ≤ sizeLine; decide, fun d nd => ?_⟩
      have nDd : D ≠ d := ne_of_none eD nd
      have nd0 : H d = none := s1.free (sm.free nd)
      refine q _ d D (s1.trans (sm.trans (same_new nd))) nd0 nD0 ⟨upd_same, _, by rw [upd_ne nDd]; exact eD, by rw [List.length_map]; exact hlen, fun x hx => ?_⟩
      obtain ⟨y, _, rfl⟩ := List.mem_map.mp hx
      split <;> omega
def mxI (i j : Int) : Int := if j > i then j else i
def mnI (i j : Int) : Int := if j < i then j else i
theorem ok_law_draw (T : Tx K mg f_depth_changes f_find_blocks f_is_number f_is_position f_is_tuple_of f_is_interval f_has_position f_contains f_is_demand f_serves f_conflict f_is_independent f_demands_at_blocks f_is_open f_open_demands f_pieces_inside f_first_gap f_find_missing f_without_item f_require_generated f_can_spare f_prune_pieces f_law_deck f_law_draw f_law_line f_law_interval f_law_intervals f_law_conflict f_law_independent f_law_completions f_law_right f_law d_depth_changes d_find_blocks d_is_number d_is_position d_is_tuple_of d_is_interval d_has_position d_contains d_is_demand d_serves d_conflict d_is_independent d_demands_at_blocks d_is_open d_open_demands d_pieces_inside d_first_gap d_find_missing d_without_item d_require_generated d_can_spare d_prune_pieces d_law_deck d_law_draw d_law_line d_law_interval d_law_intervals d_law_conflict d_law_independent d_law_completions d_law_right d_law t_LAST_POSITION) : FnOk P w K mg base CX0 1 f_law_draw d_law_draw ["_law_deck_here", "_law_bound"] sp_law_draw := by
  refine T.F_law_draw.ok sc_law_draw (fun vs H Q E h => ?_) (fun cdv A outer s H vs Q E hr h => ?_)
  · obtain ⟨d, c, n, lim, rfl, _⟩ := h
    rfl
  · obtain ⟨d, c, n, lim, rfl, dk, n0, n1, l0, l1, q⟩ := h
    obtain ⟨xs, ec, xl, xp⟩ := dk.cells
    have ncd := dk.ne
    have ed := dk.top
    have l64 : lim.natAbs < 2 ^ 64 := by omega
    have n64 : (n + 1).natAbs < 2 ^ 64 := by omega
    refine ⟨_, (pss_cons (ps_asg (pe_op op_add (pe_ix ix_list (pv 0) pe_int (fun _ _ => rfl)) pe_int) (pg_sub (pv 0) pe_int set_list))
      (pss_cons (ps_set (i := 2) sc_law_draw.nd rfl (Or.inl rfl) (pe_op op_mod (pe_ix ix_list (pv 0) pe_int (fun _ _ => rfl)) (pe_callB (call_max2 rfl) (by rfl) T.z_max (by decide +kernel) (pa_cons pe_int (pa_cons (pe_callB call_len_seq (by rfl) T.z_len PySem.boot_len (pa_cons (pe_ix ix_list (pv 0) pe_int (fun _ _ => rfl)) pa_nil)) pa_nil)))))
      (pss_cons (ps_set (i := 3) sc_law_draw.nd rfl (Or.inl rfl) (pe_ix ix_list (pe_op op_cat (pe_ix ix_list (pv 0) pe_int (fun _ _ => rfl)) (pe_lst (pa_cons pe_int pa_nil))) (pv 2) (fun _ _ => rfl)))
      (pss_cons (ps_if (pt_cmpR op_ge (pv 3) (pe_op op_pow pe_int pe_int) (nomark _))
      (pss_cons (ps_asg (pe_op op_fdivW (pv 3) (pv 1)) (pg_sub (pe_ix ix_list (pv 0) pe_int (fun _ _ => rfl)) (pv 2) set_list))
      (pss_one (ps_ret (pe_op op_mod (pv 3) (pv 1)))))
      pss_nil)
      (pss_cons (ps_set (i := 4) sc_law_draw.nd rfl (Or.inl rfl) (pe_op op_mod (pe_op op_pow (pe_op op_add (pe_op op_add (pe_op op_mod (pv 3) pe_int) (pe_op op_mulW pe_int (pe_ix ix_list (pv 0) pe_int (fun _ _ => rfl)))) pe_int) pe_int) pe_int))
      (pss_one (ps_ret (pe_op op_mod (pe_op op_add (pe_op op_fdivW (pv 4) pe_int) (pe_op op_mulW pe_int (pe_ix ix_list (pv 0) pe_int (fun _ _ => rfl)))) (pv 1))))))))), ?_⟩
    -- deck[1] = deck[1] + 1
    refine ⟨.ref d, rfl, d, _, 1, .int n, rfl, rfl, SqL.of ed, rfl, n, 1, rfl, rfl, .ref d, rfl, d, _, 1, 1, rfl, rfl, ed, rfl, ?_⟩
    generalize eH : upd H d (.lst ([V.ref c, V.int n].set 1 (.int (n + 1)))) = H1
    have ed1 : H1 d = some (.lst [.ref c, .int (n + 1)]) := by
      rw [← eH, upd_same]
      rfl
    have ec1 : H1 c = some (.lst (xs.map V.int)) := by
      rw [← eH, upd_ne ncd]
      exact ec
    have kp1 : Kp d c H H1 := fun b o nb _ e => by
      rw [← eH, upd_ne nb]
      exact e
    -- place
    refine ⟨.ref d, rfl, d, _, 1, .int (n + 1), rfl, rfl, SqL.of ed1, rfl, .ref d, rfl, d, _, 0, .ref c, rfl, rfl, SqL.of ed1, rfl, c, _, rfl, .inl (SqL.of ec1), 1, _, rfl, ?_⟩
    obtain ⟨m, em⟩ : ∃ m : Int, (if ((xs.map V.int).length : Int) > 1 then ((xs.map V.int).length : Int) else 1) = m := ⟨_, rfl⟩
    have hm : (m = xs.length ∧ 0 < xs.length) ∨ (m = 1 ∧ xs.length = 0) := by
      rw [List.length_map] at em
      rw [← em]
      split <;> omega
    rw [em]
    have m0 : 0 < m := by omega
    refine ⟨_, _, rfl, rfl, m0, ?_⟩
    have rem0 : 0 ≤ (n + 1) % m := Int.emod_nonneg _ (by omega)
    have rem1 : (n + 1) % m < m := Int.emod_lt_of_pos _ m0
    obtain ⟨j, ej⟩ : ∃ j : Nat, (n + 1) % m = j := ⟨_, (Int.toNat_of_nonneg rem0).symm⟩
    rw [ej] at rem1
    -- cell
    obtain ⟨cell, gj, c0, cin⟩ : ∃ cell : Int, (xs.map V.int ++ [V.int 0])[j]? = some (.int cell) ∧ 0 ≤ cell ∧ (cell ≠ 0 → ∃ h : j < xs.length, xs[j] = cell) := by
      by_cases hj : j < xs.length
      · refine ⟨xs[j], ?_, xp _ (List.getElem_mem hj), fun _ => ⟨hj, rfl⟩⟩
        rw [List.getElem?_append_left (by rw [List.length_map]; exact hj), List.getElem?_map, List.getElem?_eq_getElem hj]
        rfl
      · refine ⟨0, ?_, by decide, fun h => absurd rfl h⟩
        have : j = xs.length := by omega
        subst this
        rw [List.getElem?_append_right (by rw [List.length_map]; exact Nat.le_refl _), List.length_map, Nat.sub_self]
        rfl
    refine ⟨.ref d, rfl, d, _, 0, .ref c, rfl, rfl, SqL.of ed1, rfl, by show 1 ≤ sizeLine; decide, fun z nz => ?_⟩
    have s2 := same_new (o := .lst [.int 0]) nz
    refine ⟨c, z, _, _, rfl, rfl, s2 _ _ ec1, upd_same, ?_, fun g ng => ?_⟩
    · rw [List.length_map, show sizeLine = 16777216 by decide]
      show xs.length + 1 ≤ _
      omega
    have s3 := same_new (o := .lst (xs.map V.int ++ [.int 0])) ng
    refine ⟨.int _, rfl, g, _, _, .int cell, rfl, rfl, SqL.of upd_same, (by rw [ej]; exact atI_nat gj), ?_⟩
    have s23 := s2.trans s3
    replace ed1 := s23 _ _ ed1
    replace ec1 := s23 _ _ ec1
    replace kp1 := kp1.trans (Kp.same s23)
    generalize upd (upd H1 z (.lst [.int 0])) g (.lst (xs.map V.int ++ [.int 0])) = H2 at *
    have dk1 : Dk H2 d c (n + 1) := ⟨ed1, xs, ec1, xl, xp⟩
    -- if cell >= 10 ** 18
    refine ⟨.int cell, rfl, 10, 18, rfl, rfl, ⟨by decide, by decide, by decide⟩, _, _, rfl, rfl, _, rfl, ite2 (fun e2 => ?_) (fun e2 => ?_)⟩
    · have e3 : (10 : Int) ^ (18 : Int).toNat ≤ cell := of_decide_eq_true e2
      rw [show (10 : Int) ^ (18 : Int).toNat = 1000000000000000000 by decide] at e3
      obtain ⟨hj, ex⟩ := cin (by omega)
      refine ⟨.int cell, rfl, .int lim, rfl, _, _, rfl, rfl, wide_div l0 l64 (by decide) (by decide), .ref d, rfl, d, _, 0, .ref c, rfl, rfl, SqL.of ed1, rfl, .int _, rfl, c, _, _, j, rfl, rfl, ec1, ?_, ?_⟩
      · rw [ej]
        unfold ixN
        rw [if_pos (by omega), if_pos (by rw [List.length_map]; omega)]
        rfl
      · refine ⟨.int cell, rfl, .int lim, rfl, _, _, rfl, rfl, l0, ?_⟩
        refine q _ _ ?_ ⟨?_, xs.set j (cell / lim), ?_, ?_, ?_⟩ (Int.emod_nonneg _ (by omega)) (Int.emod_lt_of_pos _ l0)
        · intro b o nb nc e
          rw [upd_ne nc]
          exact kp1 b o nb nc e
        · rw [upd_ne ncd.symm]
          exact ed1
        · rw [upd_same, List.map_set]
        · rw [List.length_set]
          exact xl
        · intro x hx
          rcases List.mem_or_eq_of_mem_set hx with hm | he
          · exact xp x hm
          · rw [he]
            exact Int.ediv_nonneg c0 (by omega)
    · refine ⟨.int cell, rfl, _, _, rfl, rfl, (by show (0 : Int) < 2147483563; decide), .ref d, rfl, d, _, 1, .int (n + 1), rfl, rfl, SqL.of ed1, rfl, _, _, rfl, rfl, wide_mul (a := 17) (b := 64) (by decide) n64 (by decide) (by decide) (by decide), _, _, rfl, rfl, _, _, rfl, rfl, _, _, rfl, rfl, ⟨by decide, by decide, ?_⟩, _, _, rfl, rfl, (by show (0 : Int) < 2147483629; decide), ?_⟩
      · have a0 := Int.emod_nonneg cell (show (2147483563 : Int) ≠ 0 by decide)
        have a1 := Int.emod_lt_of_pos cell (show (0 : Int) < 2147483563 by decide)
        omega
      · refine ⟨_, rfl, _, _, rfl, rfl, wide_div (b := 4) (by decide) (by decide) (by decide) (by decide), .ref d, rfl, d, _, 1, .int (n + 1), rfl, rfl, SqL.of ed1, rfl, _, _, rfl, rfl, wide_mul (a := 5) (b := 64) (by decide) n64 (by decide) (by decide) (by decide), _, _, rfl, rfl, .int lim, rfl, _, _, rfl, rfl, l0, ?_⟩
        exact q _ _ kp1 dk1 (Int.emod_nonneg _ (by omega)) (Int.emod_lt_of_pos _ l0)

abbrev Off (d c p : Addr) : Prop := p ≠ d ∧ p ≠ c
/-! ### a line of positions, and intervals of it -/
theorem Kp.keep {d c : Addr} {H H' : Hp} (k : Kp d c H H') {a : Addr} {o : HO} (n1 : a ≠ d ∧ a ≠ c) (h : H a = some o) : H' a = some o := k a o n1.1 n1.2 h
theorem Kp.tup {d c : Addr} {n : Int} {H H' : Hp} (k : Kp d c H H') (dk : Dk H d c n) {a : Addr} {xs : List V} (h : H a = some (.tup xs)) : H' a = some (.tup xs) := by
  obtain ⟨ys, e, _⟩ := dk.cells
  exact k a _ (ne_of h dk.top (fun z => by cases z)) (ne_of h e (fun z => by cases z)) h
theorem Dk.off {H : Hp} {d c : Addr} {n : Int} (h : Dk H d c n) {p : Addr} (e : H p = none) : p ≠ d ∧ p ≠ c := by
  obtain ⟨ys, z, _⟩ := h.cells
  exact ⟨(ne_of_none h.top e).symm, (ne_of_none z e).symm⟩
theorem Dk.upd {H : Hp} {d c : Addr} {n : Int} (h : Dk H d c n) {p : Addr} {o : HO} (off : p ≠ d ∧ p ≠ c) : Dk (upd H p o) d c n := by
  obtain ⟨ys, z, w⟩ := h.cells
  exact ⟨by rw [upd_ne off.1.symm]; exact h.top, ys, by rw [upd_ne off.2.symm]; exact z, w⟩
/-- a line: strictly ascending positions -/
structure Ln (ns : List Int) : Prop where
  asc : ns.Pairwise (· < ·)
  ok : ∀ x ∈ ns, 0 ≤ x ∧ x ≤ 999999999990
def sp_law_line : Sp := fun vs H Q _ => ∃ (d c : Addr) (n cnt : Int), vs = [.ref d, .int cnt] ∧ Dk H d c n ∧ 0 ≤ n ∧ n < 999000 ∧ 1 ≤ cnt ∧ cnt ≤ 9 ∧
  ∀ H' p ns, Kp d c H H' → Dk H' d c (n + cnt) → H p = none → H' p = some (.lst (ns.map V.int)) → (ns.length : Int) = cnt → Ln ns → Q (.ref p) H'
theorem lim3 {r : Int} (h0 : 0 ≤ r) (h1 : r < 3) : ∃ L : Int, atI [V.int 0, .int 4, .int ((10 : Int) ^ (12 : Int).toNat - 90)] r = some (.int L) ∧ 0 ≤ L ∧ L ≤ 999999999910 := by
  have : r = 0 ∨ r = 1 ∨ r = 2 := by omega
  rcases this with rfl | rfl | rfl
  · exact ⟨0, rfl, by decide, by decide⟩
  · exact ⟨4, rfl, by decide, by decide⟩
  · exact ⟨_, rfl, by decide, by decide⟩
theorem step4 {r : Int} (h0 : 0 ≤ r) (h1 : r < 4) : ∃ L : Int, atI [V.int 1, .int 1, .int 2, .int 9] r = some (.int L) ∧ 1 ≤ L ∧ L ≤ 9 := by
  have : r = 0 ∨ r = 1 ∨ r = 2 ∨ r = 3 := by omega
  rcases this with rfl | rfl | rfl | rfl
  · exact ⟨1, rfl, by decide, by decide⟩
  · exact ⟨1, rfl, by decide, by decide⟩
  · exact ⟨2, rfl, by decide, by decide⟩
  · exact ⟨9, rfl, by decide, by decide⟩
theorem ok_law_line (T : Tx K mg f_depth_changes f_find_blocks f_is_number f_is_position f_is_tuple_of f_is_interval f_has_position f_contains f_is_demand f_serves f_conflict f_is_independent f_demands_at_blocks f_is_open f_open_demands f_pieces_inside f_first_gap f_find_missing f_without_item f_require_generated f_can_spare f_prune_pieces f_law_deck f_law_draw f_law_line f_law_interval f_law_intervals f_law_conflict f_law_independent f_law_completions f_law_right f_law d_depth_changes d_find_blocks d_is_number d_is_position d_is_tuple_of d_is_interval d_has_position d_contains d_is_demand d_serves d_conflict d_is_independent d_demands_at_blocks d_is_open d_open_demands d_pieces_inside d_first_gap d_find_missing d_without_item d_require_generated d_can_spare d_prune_pieces d_law_deck d_law_draw d_law_line d_law_interval d_law_intervals d_law_conflict d_law_independent d_law_completions d_law_right d_law t_LAST_POSITION) : FnOk P w K mg base CX0 2 f_law_line d_law_line ["_law_deck_here", "_law_count"] sp_law_line := by
  refine T.F_law_line.ok sc_law_line (fun vs H Q E h => ?_) (fun cdv A outer s H vs Q E hr h => ?_)
  · obtain ⟨d, c, n, cnt, rfl, _⟩ := h
    rfl
  · obtain ⟨d, c, n, cnt, rfl, dk, n0, n1, c0, c1, q⟩ := h
    refine ⟨_, (pss_cons (ps_set (i := 2) sc_law_line.nd rfl (Or.inl rfl) (pe_lst (pa_cons (pe_ix ix_list (pe_lst (pa_cons pe_int (pa_cons pe_int (pa_cons (pe_op op_sub (pe_op op_pow pe_int pe_int) pe_int) pa_nil)))) (pe_call (ok_law_draw T) (hr.mono (by decide)) (by rfl) T.g_law_draw T.F_law_draw.kp T.b_law_draw .nil pass0 (pa_cons (pv 0) (pa_cons pe_int pa_nil))) (fun _ _ => rfl)) pa_nil)))
      (pss_cons (ps_for PassesOwn.never rfl (pi_range1 (by rfl) T.z_range (pa_cons (pe_op op_sub (pv 1) pe_int) pa_nil)) (pg_name (i := 3) sc_law_line.nd rfl (Or.inl rfl))
      (pss_one (ps_expr (pe_bm PySem.F.plainAttrs_list PySem.F.slot_list_append PySem.F.type_list_append mt_append (pv 2) (pa_cons (pe_op op_add (pe_ix ix_list (pv 2) (pe_un un_neg pe_int) (fun _ _ => rfl)) (pe_ix ix_list (pe_lst (pa_cons pe_int (pa_cons pe_int (pa_cons pe_int (pa_cons pe_int pa_nil))))) (pe_call (ok_law_draw T) (hr.mono (by decide)) (by rfl) T.g_law_draw T.F_law_draw.kp T.b_law_draw .nil pass0 (pa_cons (pv 0) (pa_cons pe_int pa_nil))) (fun _ _ => rfl))) pa_nil)))))
      (pss_one (ps_ret (pv 2))))), ?_⟩
    refine ⟨10, 12, rfl, rfl, ⟨by decide, by decide, by decide⟩, _, _, rfl, rfl, by show 3 ≤ sizeLine; decide, fun p np => ?_⟩
    have off := dk.off np
    refine ⟨.ref d, rfl, d, c, n, 3, rfl, dk.kept (same_new np), n0, by omega, by decide, by decide, fun H1 r kp1 dk1 r0 r1 => ?_⟩
    obtain ⟨L, eL, L0, L1⟩ := lim3 r0 r1
    refine ⟨p, _, r, _, rfl, rfl, SqL.of (kp1.keep off upd_same), eL, by show 1 ≤ sizeLine; decide, fun l nl => ?_⟩
    have kpA : Kp d c H H1 := (Kp.same (same_new np)).trans kp1
    have offl := dk1.off nl
    have nl0 : H l = none := kpA.none dk dk1 nl
    obtain ⟨m, rfl⟩ : ∃ m : Nat, cnt = m + 1 := ⟨(cnt - 1).toNat, by omega⟩
    refine ⟨.int _, rfl, _, _, rfl, rfl, (m : Int) + 1 - 1, rfl, by omega, by omega, for_range (n := ((m : Int) + 1 - 1).toNat) (fun i σ H' => (Kp d c H H' ∧ Dk H' d c (n + 1 + i)) ∧ (∃ ns : List Int, H' l = some (.lst (ns.map V.int)) ∧ ns.length = i + 1 ∧ ns.Pairwise (· < ·) ∧ (∀ x ∈ ns, 0 ≤ x ∧ x ≤ 999999999910 + 9 * i) ∧ ∃ (ys : List Int) (z : Int), ns = ys ++ [z] ∧ (∀ y ∈ ys, y < z)) ∧ ∃ y3, σ = [some (.ref d), some (.int ((m : Int) + 1)), some (.ref l), y3])
      ⟨⟨kpA.trans (Kp.same (same_new nl)), (dk1.upd offl).eq (by simp)⟩, ⟨[L], upd_same, rfl, List.pairwise_singleton _ _, fun x hx => ?_, [], L, rfl, fun y hy => nomatch hy⟩, _, rfl⟩ ?_ ?_⟩
    · rw [List.mem_singleton.mp hx]
      omega
    · rintro i σ H2 hi ⟨⟨kp2, dk2⟩, ⟨ns, el, nl1, asc, bd, ys, z, rfl, hz⟩, y3, rfl⟩
      refine ⟨.ref l, rfl, .inl ⟨rfl, _, SqL.of el⟩, .ref l, rfl, 1, rfl, l, _, -1, .int z, rfl, rfl, SqL.of el, (by rw [List.map_append]; exact atI_last _ _), by show 4 ≤ sizeLine; decide, fun p2 np2 => ?_⟩
      have off2 := dk2.off np2
      refine ⟨.ref d, rfl, d, c, _, 4, rfl, dk2.kept (same_new np2), by omega, by omega, by decide, by decide, fun H3 r2 kp3 dk3 r20 r21 => ?_⟩
      obtain ⟨L2, eL2, L20, L21⟩ := step4 r20 r21
      have el3 : H3 l = some (.lst ((ys ++ [z]).map V.int)) := kp3.keep offl (same_new np2 _ _ el)
      refine ⟨p2, _, r2, _, rfl, rfl, SqL.of (kp3.keep off2 upd_same), eL2, _, _, rfl, rfl, l, _, _, rfl, rfl, el3, ?_, ?_⟩
      · rw [List.length_map]
        exact small1000 (by omega)
      refine ⟨⟨?_, ?_⟩, ⟨(ys ++ [z]) ++ [z + L2], ?_, ?_, ?_, ?_, ys ++ [z], z + L2, rfl, ?_⟩, _, rfl⟩
      · intro b o n1 n2 e
        rw [upd_ne (ne_of_none e nl0)]
        exact kp3 b o n1 n2 (same_new np2 _ _ (kp2 b o n1 n2 e))
      · exact (dk3.upd offl).eq (by omega)
      · rw [upd_same, List.map_append (l₁ := ys ++ [z])]
        rfl
      · rw [List.length_append, nl1]
        rfl
      · refine List.pairwise_append.mpr ⟨asc, List.pairwise_singleton _ _, fun a ha b hb => ?_⟩
        rw [List.mem_singleton.mp hb]
        rcases List.mem_append.mp ha with h | h
        · have := hz a h
          omega
        · rw [List.mem_singleton.mp h]
          omega
      · intro x hx
        have bz := bd z (List.mem_append_right _ (List.mem_singleton.mpr rfl))
        rcases List.mem_append.mp hx with h | h
        · have := bd x h
          omega
        · rw [List.mem_singleton.mp h]
          omega
      · intro y hy
        rcases List.mem_append.mp hy with h | h
        · have := hz y h
          omega
        · rw [List.mem_singleton.mp h]
          omega
    · rintro σ H2 ⟨⟨kp2, dk2⟩, ⟨ns, el, nl1, asc, bd, _⟩, y3, rfl⟩
      refine ⟨.ref l, rfl, q H2 l ns kp2 (dk2.eq (by omega)) nl0 el (by omega) ⟨asc, fun x hx => ?_⟩⟩
      have := bd x hx
      omega
def sp_law_interval : Sp := fun vs H Q _ => ∃ (d c l : Addr) (n : Int) (ns : List Int), vs = [.ref d, .ref l] ∧ Dk H d c n ∧ 0 ≤ n ∧ n < 999990 ∧ (l ≠ d ∧ l ≠ c) ∧ H l = some (.lst (ns.map V.int)) ∧ 0 < ns.length ∧ ns.length ≤ 100 ∧
  ∀ H' lo hi t, Kp d c H H' → Dk H' d c (n + 2) → lo ∈ ns → hi ∈ ns → lo ≤ hi → H t = none → H' t = some (.tup [.int lo, .int hi]) → Q (.ref t) H'
theorem nth_of {ns : List Int} {r : Int} (h0 : 0 ≤ r) (h1 : r < ((ns.map V.int).length : Nat)) : ∃ x, x ∈ ns ∧ atI (ns.map V.int) r = some (.int x) := by
  obtain ⟨j, rfl⟩ : ∃ j : Nat, r = j := ⟨r.toNat, by omega⟩
  have hj : j < ns.length := by
    rw [List.length_map] at h1
    omega
  refine ⟨ns[j], List.getElem_mem hj, atI_nat ?_⟩
  rw [List.getElem?_map, List.getElem?_eq_getElem hj]
  rfl
theorem ok_law_interval (T : Tx K mg f_depth_changes f_find_blocks f_is_number f_is_position f_is_tuple_of f_is_interval f_has_position f_contains f_is_demand f_serves f_conflict f_is_independent f_demands_at_blocks f_is_open f_open_demands f_pieces_inside f_first_gap f_find_missing f_without_item f_require_generated f_can_spare f_prune_pieces f_law_deck f_law_draw f_law_line f_law_interval f_law_intervals f_law_conflict f_law_independent f_law_completions f_law_right f_law d_depth_changes d_find_blocks d_is_number d_is_position d_is_tuple_of d_is_interval d_has_position d_contains d_is_demand d_serves d_conflict d_is_independent d_demands_at_blocks d_is_open d_open_demands d_pieces_inside d_first_gap d_find_missing d_without_item d_require_generated d_can_spare d_prune_pieces d_law_deck d_law_draw d_law_line d_law_interval d_law_intervals d_law_conflict d_law_independent d_law_completions d_law_right d_law t_LAST_POSITION) : FnOk P w K mg base CX0 2 f_law_interval d_law_interval ["_law_deck_here", "_law_line_here"] sp_law_interval := by
  refine T.F_law_interval.ok sc_law_interval (fun vs H Q E h => ?_) (fun cdv A outer s H vs Q E hr h => ?_)
  · obtain ⟨d, c, l, n, ns, rfl, _⟩ := h
    rfl
  · obtain ⟨d, c, l, n, ns, rfl, dk, n0, n1, off, el, ln0, ln1, q⟩ := h
    have lp : (0 : Int) < ((ns.map V.int).length : Nat) := by rw [List.length_map]; omega
    have lp2 : (((ns.map V.int).length : Nat) : Int) < 2 ^ 63 := by rw [List.length_map]; omega
    refine ⟨_, (pss_cons (ps_par (by rfl) sc_law_interval.nd (i := 2) (j := 3) rfl rfl (by decide) rfl rfl (pa_cons (pe_ix ix_list (pv 1) (pe_call (ok_law_draw T) (hr.mono (by decide)) (by rfl) T.g_law_draw T.F_law_draw.kp T.b_law_draw .nil pass0 (pa_cons (pv 0) (pa_cons (pe_callB call_len_seq (by rfl) T.z_len PySem.boot_len (pa_cons (pv 1) pa_nil)) pa_nil))) (fun _ _ => rfl)) (pa_cons (pe_ix ix_list (pv 1) (pe_call (ok_law_draw T) (hr.mono (by decide)) (by rfl) T.g_law_draw T.F_law_draw.kp T.b_law_draw .nil pass0 (pa_cons (pv 0) (pa_cons (pe_callB call_len_seq (by rfl) T.z_len PySem.boot_len (pa_cons (pv 1) pa_nil)) pa_nil))) (fun _ _ => rfl)) pa_nil)) (by rfl))
      (pss_one (ps_ret (pe_tup (pa_cons (pe_callB (call_min2 rfl) (by rfl) T.z_min (by decide +kernel) (pa_cons (pv 2) (pa_cons (pv 3) pa_nil))) (pa_cons (pe_callB (call_max2 rfl) (by rfl) T.z_max (by decide +kernel) (pa_cons (pv 2) (pa_cons (pv 3) pa_nil))) pa_nil)))))), ?_⟩
    refine ⟨.ref l, rfl, .ref d, rfl, .ref l, rfl, l, _, rfl, .inl (SqL.of el), d, c, n, _, rfl, dk, n0, by omega, lp, lp2, fun H1 r kp1 dk1 r0 r1 => ?_⟩
    have el1 := kp1.keep off el
    obtain ⟨x, mx, ex⟩ := nth_of r0 r1
    refine ⟨l, _, r, _, rfl, rfl, SqL.of el1, ex, .ref l, rfl, .ref d, rfl, .ref l, rfl, l, _, rfl, .inl (SqL.of el1), d, c, n + 1, _, rfl, dk1, by omega, by omega, lp, lp2, fun H2 r2 kp2 dk2 r20 r21 => ?_⟩
    have el2 := kp2.keep off el1
    obtain ⟨y, my, ey⟩ := nth_of r20 r21
    refine ⟨l, _, r2, _, rfl, rfl, SqL.of el2, ey, _, _, rfl, ?_⟩
    refine ⟨_, rfl, _, rfl, _, _, rfl, _, rfl, _, rfl, _, _, rfl, by show 2 ≤ sizeLine; decide, fun t nt => ?_⟩
    have s := same_new (o := .tup [.int (mnI x y), .int (mxI x y)]) nt
    have kp := kp1.trans kp2
    refine q _ (mnI x y) (mxI x y) t (kp.trans (Kp.same s)) ((dk2.kept s).eq (by omega)) ?_ ?_ ?_ (kp.none dk dk2 nt) upd_same
    · unfold mnI
      split <;> assumption
    · unfold mxI
      split <;> assumption
    · unfold mnI mxI
      split <;> split <;> omega

/-! ### what stays when the heap grows, or the deck is drawn from -/
theorem rd_same {H H' : Hp} (s : Same H H') {a : Addr} {u : HO} (h : Rd H a u) : Rd H' a u := by
  rcases h with h | ⟨o, h⟩
  · exact .inl (s _ _ h)
  · exact .inr ⟨o, s _ _ h⟩
theorem sqT_same {K : PySem.W.Frag} {H H' : Hp} (s : Same H H') {a : Addr} {xs : List V} (h : SqT K H a xs) : SqT K H' a xs := by
  rcases h with h | h
  · exact .inl (rd_same s h)
  · exact .inr h
theorem dp_same {K : PySem.W.Frag} {H H' : Hp} (s : Same H H') {v : V} {d : PyData} (h : Dp K H v d) : Dp K H' v d := by
  refine Dp.rec (K := K) (H := H) (motive_1 := fun v d _ => Dp K H' v d) (motive_2 := fun vs ds _ => DpAll K H' vs ds) .non (fun b => .bl b) (fun i => .int i) (fun x => .str x) (fun hs _ q => .lst (s.seq hs) q) (fun hs _ q => .tup (sqT_same s hs) q) .nil (fun _ _ a b => .cons a b) h
theorem dp2 {K : PySem.W.Frag} {H : Hp} {t : Addr} {x y : Int} (h : H t = some (.tup [.int x, .int y])) : Dp K H (.ref t) (.tuple [.int x, .int y]) := .tup (SqT.of h) (.cons (.int x) (.cons (.int y) .nil))
theorem sm2 {x y : Int} (h1 : x.natAbs < 10 ^ 30) (h2 : y.natAbs < 10 ^ 30) : Sm 202 1 (.tuple [.int x, .int y]) := by
  have h := Sm.tup (n := 100) (dp := 0) (ds := [.int x, .int y]) (fun d hd => by
    rcases List.mem_cons.mp hd with rfl | hd
    · exact Sm.int h1
    · rcases List.mem_cons.mp hd with rfl | hd
      · exact Sm.int h2
      · cases hd)
  exact h
/-- an interval, or None -/
def optD : Option (Int × Int) → PyData
  | none => .none
  | some (x, y) => .tuple [.int x, .int y]
def OV (H : Hp) (v : V) : Option (Int × Int) → Prop
  | none => v = .non
  | some (x, y) => ∃ t, v = .ref t ∧ H t = some (.tup [.int x, .int y])
theorem OV.same {H H' : Hp} (s : Same H H') {v : V} {o : Option (Int × Int)} (h : OV H v o) : OV H' v o := by
  match o, h with
  | none, h => exact h
  | some (x, y), h =>
    obtain ⟨t, e, z⟩ := h
    exact ⟨t, e, s _ _ z⟩
theorem OV.kp {d c : Addr} {n : Int} {H H' : Hp} (k : Kp d c H H') (dk : Dk H d c n) {v : V} {o : Option (Int × Int)} (h : OV H v o) : OV H' v o := by
  match o, h with
  | none, h => exact h
  | some (x, y), h =>
    obtain ⟨t, e, z⟩ := h
    exact ⟨t, e, k.tup dk z⟩
theorem OV.dp {K : PySem.W.Frag} {H : Hp} {v : V} {o : Option (Int × Int)} (h : OV H v o) : Dp K H v (optD o) := by
  match o, h with
  | none, h =>
    cases h
    exact .non
  | some (x, y), h =>
    obtain ⟨t, e, z⟩ := h
    subst e
    exact dp2 z

/-! ### rows of intervals -/
inductive Ivs (H : Hp) : List V → List (Int × Int) → Prop
  | nil : Ivs H [] []
  | cons {a : Addr} {x y : Int} {vs : List V} {ps : List (Int × Int)} : H a = some (.tup [.int x, .int y]) → Ivs H vs ps → Ivs H (.ref a :: vs) ((x, y) :: ps)
theorem Ivs.length {H : Hp} {vs : List V} {ps : List (Int × Int)} (h : Ivs H vs ps) : vs.length = ps.length := by
  induction h with
  | nil => rfl
  | cons _ _ ih => rw [List.length_cons, List.length_cons, ih]
theorem Ivs.same {H H' : Hp} (s : Same H H') {vs : List V} {ps : List (Int × Int)} (h : Ivs H vs ps) : Ivs H' vs ps := by
  induction h with
  | nil => exact .nil
  | cons e _ ih => exact .cons (s _ _ e) ih
theorem Ivs.kp {d c : Addr} {n : Int} {H H' : Hp} (k : Kp d c H H') (dk : Dk H d c n) {vs : List V} {ps : List (Int × Int)} (h : Ivs H vs ps) : Ivs H' vs ps := by
  induction h with
  | nil => exact .nil
  | cons e _ ih => exact .cons (k.tup dk e) ih
theorem Ivs.get {H : Hp} {vs : List V} {ps : List (Int × Int)} (h : Ivs H vs ps) : ∀ {i : Nat} {v : V}, vs[i]? = some v → ∃ a x y, v = .ref a ∧ ps[i]? = some (x, y) ∧ H a = some (.tup [.int x, .int y]) := by
  induction h with
  | nil =>
    intro i v e
    simp at e
  | cons e _ ih =>
    intro i v q
    cases i with
    | zero =>
      cases q
      exact ⟨_, _, _, rfl, rfl, e⟩
    | succ i => exact ih q
theorem Ivs.snoc {H : Hp} {vs : List V} {ps : List (Int × Int)} {a : Addr} {x y : Int} (h : Ivs H vs ps) (e : H a = some (.tup [.int x, .int y])) : Ivs H (vs ++ [.ref a]) (ps ++ [(x, y)]) := by
  induction h with
  | nil => exact .cons e .nil
  | cons z _ ih => exact .cons z ih
def pairD (p : Int × Int) : PyData := .tuple [.int p.1, .int p.2]
theorem Ivs.dp {K : PySem.W.Frag} {H : Hp} {vs : List V} {ps : List (Int × Int)} (h : Ivs H vs ps) : DpAll K H vs (ps.map pairD) := by
  induction h with
  | nil => exact .nil
  | cons e _ ih => exact .cons (dp2 e) ih

/-! ### comprehensions that change nothing but make new objects -/
/-- the tuples stay -/
def Tps (H H' : Hp) : Prop := ∀ b xs, H b = some (.tup xs) → H' b = some (.tup xs)
theorem Tps.refl (H : Hp) : Tps H H := fun _ _ e => e
theorem Tps.trans {H H1 H2 : Hp} (h : Tps H H1) (h2 : Tps H1 H2) : Tps H H2 := fun b xs e => h2 b xs (h b xs e)
theorem Tps.same {H H1 : Hp} (h : Same H H1) : Tps H H1 := fun b xs e => h b _ e
theorem Kp.tps {d c : Addr} {n : Int} {H H' : Hp} (k : Kp d c H H') (dk : Dk H d c n) : Tps H H' := fun _ _ e => k.tup dk e
theorem Tps.lst {H : Hp} {D : Addr} {ws vs : List V} (e : H D = some (.lst ws)) : Tps H (upd H D (.lst vs)) := fun b xs h => by
  rw [upd_ne (ne_of h e (fun z => by cases z))]
  exact h
theorem same_off {H0 H : Hp} {D : Addr} {o : HO} (n : H0 D = none) (s : Same H0 H) : Same H0 (upd H D o) := fun b u e => by
  rw [upd_ne (ne_of_none e n)]
  exact s b u e
theorem few_line {n : Nat} (h : n < 1000) : n < sizeLine := by
  rw [show sizeLine = 16777216 by decide]
  omega
theorem lcL {K : PySem.W.Frag} {a : Addr} {xs : List V} {g : TG} {tt : TT} {te : TE} {vs : List Nat} {σ : L2.St} {H1 : Hp} {D : Addr} {Qd : Hp → Prop} (R : Nat → Hp → List V → Prop) (nD : H1 D = none) (hl : ∀ H', Same H1 H' → SqL K H' a xs) (few : xs.length < 1000)
    (mono : ∀ i H' H'' ws, Tps H' H'' → R i H' ws → R i H'' ws) (len : ∀ i H' ws, R i H' ws → ws.length ≤ i) (r0 : ∀ H', R 0 H' [])
    (hs : ∀ i x H' (N : Hp → Prop) acc, xs[i]? = some x → Same H1 H' → H' D = some (.lst acc) → acc.length < sizeLine → R i H' acc → (∀ H'', Same H' H'' → R (i + 1) H'' acc → N H'') → (∀ H'' y, Same H' H'' → R (i + 1) H'' (acc ++ [y]) → ∃ acc', H'' D = some (.lst acc') ∧ acc'.length < sizeLine ∧ N (upd H'' D (.lst (acc' ++ [y])))) →
      g x (wipe σ vs) H' fun σ2 H2 => wipe σ2 vs = wipe σ vs ∧ tt σ2 H2 fun b H3 => if b = true then te σ2 H3 fun y H4 => ∃ acc, H4 D = some (.lst acc) ∧ acc.length < sizeLine ∧ N (upd H4 D (.lst (acc ++ [y]))) else N H3)
    (hd : ∀ H' ws, Same H1 H' → H' D = some (.lst ws) → R xs.length H' ws → Qd H') :
    ∃ W : Nat → Nat → Hp → Prop, (∃ m, W 0 m (upd H1 D (.lst []))) ∧ ∀ i m H, W i m H →
      ((Itl K a).stop i H ∧ Qd H) ∨ ((Itl K a).go i H ∧ ∃ Nx : Hp → Prop, (∀ H', Nx H' → ∃ m', m' < m ∧ W (i + 1) m' H') ∧ ∀ x H', (Itl K a).yld i H x H' → g x (wipe σ vs) H' fun σ2 H2 => wipe σ2 vs = wipe σ vs ∧ tt σ2 H2 fun b H3 =>
        if b = true then te σ2 H3 fun y H4 => ∃ acc, H4 D = some (.lst acc) ∧ acc.length < sizeLine ∧ Nx (upd H4 D (.lst (acc ++ [y]))) else Nx H3) := by
  refine lc_list (K := K) (a := a) (xs := xs) (fun i H' => Same H1 H' ∧ ∃ ws, H' D = some (.lst ws) ∧ R i H' ws) ⟨same_new nD, [], upd_same, r0 _⟩ (fun i H' _ h => hl H' h.1) ?_ ?_
  · rintro i x H' hi ⟨sm, ws, eD, r⟩
    have lt := (List.getElem?_eq_some_iff.mp hi).1
    have lw := len i H' ws r
    have sz : ws.length < sizeLine := few_line (by omega)
    refine hs i x H' _ ws hi sm eD sz r (fun H'' s r2 => ⟨sm.trans s, ws, s _ _ eD, r2⟩) (fun H'' y s r2 => ?_)
    exact ⟨ws, s _ _ eD, sz, same_off nD (sm.trans s), _, upd_same, mono _ _ _ _ (Tps.lst (s _ _ eD)) r2⟩
  · rintro H' ⟨sm, ws, eD, r⟩
    exact hd H' ws sm eD r
theorem lcT {K : PySem.W.Frag} {a : Addr} {xs : List V} {g : TG} {tt : TT} {te : TE} {vs : List Nat} {σ : L2.St} {H1 : Hp} {D : Addr} {Qd : Hp → Prop} (R : Nat → Hp → List V → Prop) (nD : H1 D = none) (hl : ∀ H', Same H1 H' → SqT K H' a xs) (few : xs.length < 1000)
    (mono : ∀ i H' H'' ws, Tps H' H'' → R i H' ws → R i H'' ws) (len : ∀ i H' ws, R i H' ws → ws.length ≤ i) (r0 : ∀ H', R 0 H' [])
    (hs : ∀ i x H' (N : Hp → Prop) acc, xs[i]? = some x → Same H1 H' → H' D = some (.lst acc) → acc.length < sizeLine → R i H' acc → (∀ H'', Same H' H'' → R (i + 1) H'' acc → N H'') → (∀ H'' y, Same H' H'' → R (i + 1) H'' (acc ++ [y]) → ∃ acc', H'' D = some (.lst acc') ∧ acc'.length < sizeLine ∧ N (upd H'' D (.lst (acc' ++ [y])))) →
      g x (wipe σ vs) H' fun σ2 H2 => wipe σ2 vs = wipe σ vs ∧ tt σ2 H2 fun b H3 => if b = true then te σ2 H3 fun y H4 => ∃ acc, H4 D = some (.lst acc) ∧ acc.length < sizeLine ∧ N (upd H4 D (.lst (acc ++ [y]))) else N H3)
    (hd : ∀ H' ws, Same H1 H' → H' D = some (.lst ws) → R xs.length H' ws → Qd H') :
    ∃ W : Nat → Nat → Hp → Prop, (∃ m, W 0 m (upd H1 D (.lst []))) ∧ ∀ i m H, W i m H →
      ((Itt K a).stop i H ∧ Qd H) ∨ ((Itt K a).go i H ∧ ∃ Nx : Hp → Prop, (∀ H', Nx H' → ∃ m', m' < m ∧ W (i + 1) m' H') ∧ ∀ x H', (Itt K a).yld i H x H' → g x (wipe σ vs) H' fun σ2 H2 => wipe σ2 vs = wipe σ vs ∧ tt σ2 H2 fun b H3 =>
        if b = true then te σ2 H3 fun y H4 => ∃ acc, H4 D = some (.lst acc) ∧ acc.length < sizeLine ∧ Nx (upd H4 D (.lst (acc ++ [y]))) else Nx H3) := by
  refine lc_tup (K := K) (a := a) (xs := xs) (fun i H' => Same H1 H' ∧ ∃ ws, H' D = some (.lst ws) ∧ R i H' ws) ⟨same_new nD, [], upd_same, r0 _⟩ (fun i H' _ h => hl H' h.1) ?_ ?_
  · rintro i x H' hi ⟨sm, ws, eD, r⟩
    have lt := (List.getElem?_eq_some_iff.mp hi).1
    have lw := len i H' ws r
    have sz : ws.length < sizeLine := few_line (by omega)
    refine hs i x H' _ ws hi sm eD sz r (fun H'' s r2 => ⟨sm.trans s, ws, s _ _ eD, r2⟩) (fun H'' y s r2 => ?_)
    exact ⟨ws, s _ _ eD, sz, same_off nD (sm.trans s), _, upd_same, mono _ _ _ _ (Tps.lst (s _ _ eD)) r2⟩
  · rintro H' ⟨sm, ws, eD, r⟩
    exact hd H' ws sm eD r
theorem map_filter_len {α : Type} {ns : List α} {p : α → Bool} {f : α → V} (i : Nat) : (((ns.take i).filter p).map f).length ≤ i := by
  rw [List.length_map]
  exact Nat.le_trans (List.length_filter_le _ _) (List.length_take_le _ _)
theorem take_filter {α : Type} {ns : List α} {i : Nat} {n : α} {p : α → Bool} (h : ns[i]? = some n) : (ns.take (i + 1)).filter p = (ns.take i).filter p ++ (if p n = true then [n] else []) := by
  rw [List.take_add_one, h, List.filter_append]
  congr 1
  show List.filter p [n] = _
  rw [List.filter_cons]
  split <;> rfl
theorem nodup_le {α : Type} [DecidableEq α] : ∀ {l m : List α}, l.Nodup → (∀ x ∈ l, x ∈ m) → l.length ≤ m.length
  | [], _, _, _ => Nat.zero_le _
  | a :: l, m, h, hs => by
    have hm := hs a List.mem_cons_self
    have h' := List.nodup_cons.mp h
    have ih := nodup_le (l := l) (m := m.erase a) h'.2 (fun x hx => (List.mem_erase_of_ne (fun e => h'.1 (by rw [← e]; exact hx))).mpr (hs x (List.mem_cons_of_mem _ hx)))
    rw [List.length_erase_of_mem hm] at ih
    have := List.length_pos_of_mem hm
    rw [List.length_cons]
    omega

/-! ### demands, and rows of them -/
structure Dm (H : Hp) (v : V) (p lo hi : Int) : Prop where
  ex : ∃ u t, v = .ref u ∧ H u = some (.tup [.int p, .ref t]) ∧ H t = some (.tup [.int lo, .int hi])
  low : lo ≤ p
  high : p ≤ hi
theorem Dm.tps {H H' : Hp} (s : Tps H H') {v : V} {p lo hi : Int} (h : Dm H v p lo hi) : Dm H' v p lo hi := by
  obtain ⟨u, t, rfl, e1, e2⟩ := h.ex
  exact ⟨⟨u, t, rfl, s _ _ e1, s _ _ e2⟩, h.low, h.high⟩
theorem Dm.same {H H' : Hp} (s : Same H H') {v : V} {p lo hi : Int} (h : Dm H v p lo hi) : Dm H' v p lo hi := h.tps (Tps.same s)
inductive Dms (H : Hp) : List V → List (Int × Int × Int) → Prop
  | nil : Dms H [] []
  | cons {v : V} {p lo hi : Int} {vs : List V} {ds : List (Int × Int × Int)} : Dm H v p lo hi → Dms H vs ds → Dms H (v :: vs) ((p, lo, hi) :: ds)
theorem Dms.length {H : Hp} {vs : List V} {ds : List (Int × Int × Int)} (h : Dms H vs ds) : vs.length = ds.length := by
  induction h with
  | nil => rfl
  | cons _ _ ih => rw [List.length_cons, List.length_cons, ih]
theorem Dms.tps {H H' : Hp} (s : Tps H H') {vs : List V} {ds : List (Int × Int × Int)} (h : Dms H vs ds) : Dms H' vs ds := by
  induction h with
  | nil => exact .nil
  | cons e _ ih => exact .cons (e.tps s) ih
theorem Dms.same {H H' : Hp} (s : Same H H') {vs : List V} {ds : List (Int × Int × Int)} (h : Dms H vs ds) : Dms H' vs ds := h.tps (Tps.same s)
theorem Dms.get {H : Hp} {vs : List V} {ds : List (Int × Int × Int)} (h : Dms H vs ds) : ∀ {i : Nat} {v : V}, vs[i]? = some v → ∃ p lo hi, ds[i]? = some (p, lo, hi) ∧ Dm H v p lo hi := by
  induction h with
  | nil =>
    intro i v e
    simp at e
  | cons e _ ih =>
    intro i v q
    cases i with
    | zero =>
      cases q
      exact ⟨_, _, _, rfl, e⟩
    | succ i => exact ih q
theorem Dms.append {H : Hp} {vs us : List V} {ds es : List (Int × Int × Int)} (h : Dms H vs ds) (h2 : Dms H us es) : Dms H (vs ++ us) (ds ++ es) := by
  induction h with
  | nil => exact h2
  | cons e _ ih => exact .cons e ih
theorem Dms.snoc {H : Hp} {vs : List V} {ds : List (Int × Int × Int)} {v : V} {p lo hi : Int} (h : Dms H vs ds) (e : Dm H v p lo hi) : Dms H (vs ++ [v]) (ds ++ [(p, lo, hi)]) := h.append (.cons e .nil)
theorem Dms.take {H : Hp} {vs : List V} {ds : List (Int × Int × Int)} (h : Dms H vs ds) : ∀ n : Nat, Dms H (vs.take n) (ds.take n) := by
  induction h with
  | nil =>
    intro n
    rw [List.take_nil, List.take_nil]
    exact .nil
  | cons e _ ih =>
    intro n
    cases n with
    | zero => exact .nil
    | succ n => exact .cons e (ih n)
theorem Dms.reverse {H : Hp} {vs : List V} {ds : List (Int × Int × Int)} (h : Dms H vs ds) : Dms H vs.reverse ds.reverse := by
  induction h with
  | nil => exact .nil
  | cons e _ ih =>
    rw [List.reverse_cons, List.reverse_cons]
    exact ih.snoc e
theorem Dms.isEmpty {H : Hp} {vs : List V} {ds : List (Int × Int × Int)} (h : Dms H vs ds) : vs.isEmpty = ds.isEmpty := by
  cases h <;> rfl
theorem Dms.ok {H : Hp} {vs : List V} {ds : List (Int × Int × Int)} (h : Dms H vs ds) : ∀ q ∈ ds, q.2.1 ≤ q.1 ∧ q.1 ≤ q.2.2 := by
  induction h with
  | nil =>
    intro q hq
    cases hq
  | cons e _ ih =>
    intro q hq
    rcases List.mem_cons.mp hq with rfl | hq
    · exact ⟨e.low, e.high⟩
    · exact ih q hq
/-! ### comprehensions over a range that draw -/
theorem lcK {d c : Addr} {n0 per : Int} {lo : Int} {n : Nat} {g : TG} {tt : TT} {te : TE} {vs : List Nat} {σ : L2.St} {H1 : Hp} {D : Addr} {Qd : Hp → Prop} (R : Nat → Hp → List V → Prop) (nD : H1 D = none) (dk : Dk H1 d c n0) (few : n < 1000)
    (mono : ∀ i H' H'' ws, Tps H' H'' → R i H' ws → R i H'' ws) (len : ∀ i H' ws, R i H' ws → ws.length ≤ i) (r0 : ∀ H', R 0 H' [])
    (hs : ∀ i H' (N : Hp → Prop) acc, i < n → Kp d c H1 H' → Dk H' d c (n0 + per * i) → H' D = some (.lst acc) → R i H' acc → (∀ H'' y, Kp d c H' H'' → Dk H'' d c (n0 + per * i + per) → R (i + 1) H'' (acc ++ [y]) → ∃ acc', H'' D = some (.lst acc') ∧ acc'.length < sizeLine ∧ N (upd H'' D (.lst (acc' ++ [y])))) →
      g (.int (lo + i)) (wipe σ vs) H' fun σ2 H2 => wipe σ2 vs = wipe σ vs ∧ tt σ2 H2 fun b H3 => if b = true then te σ2 H3 fun y H4 => ∃ acc, H4 D = some (.lst acc) ∧ acc.length < sizeLine ∧ N (upd H4 D (.lst (acc ++ [y]))) else N H3)
    (hd : ∀ H' ws, Kp d c H1 H' → Dk H' d c (n0 + per * n) → H' D = some (.lst ws) → R n H' ws → Qd H') :
    ∃ W : Nat → Nat → Hp → Prop, (∃ m, W 0 m (upd H1 D (.lst []))) ∧ ∀ i m H, W i m H →
      ((Itr lo n).stop i H ∧ Qd H) ∨ ((Itr lo n).go i H ∧ ∃ Nx : Hp → Prop, (∀ H', Nx H' → ∃ m', m' < m ∧ W (i + 1) m' H') ∧ ∀ x H', (Itr lo n).yld i H x H' → g x (wipe σ vs) H' fun σ2 H2 => wipe σ2 vs = wipe σ vs ∧ tt σ2 H2 fun b H3 =>
        if b = true then te σ2 H3 fun y H4 => ∃ acc, H4 D = some (.lst acc) ∧ acc.length < sizeLine ∧ Nx (upd H4 D (.lst (acc ++ [y]))) else Nx H3) := by
  have off := dk.off nD
  refine lc_range (lo := lo) (n := n) (fun i H' => Kp d c H1 H' ∧ Dk H' d c (n0 + per * i) ∧ ∃ ws, H' D = some (.lst ws) ∧ R i H' ws) ⟨Kp.same (same_new nD), (dk.upd off).eq (by simp), [], upd_same, r0 _⟩ ?_ ?_
  · rintro i H' hi ⟨kp, dk', ws, eD, r⟩
    have lw := len i H' ws r
    have sz : ws.length < sizeLine := few_line (by omega)
    refine hs i H' _ ws hi kp dk' eD r (fun H'' y kp2 dk2 r2 => ?_)
    have eD2 := kp2.keep off eD
    refine ⟨ws, eD2, sz, fun b o n1 n2 e => ?_, (dk2.upd off).eq ?_, _, upd_same, mono _ _ _ _ (Tps.lst eD2) r2⟩
    · rw [upd_ne (ne_of_none e nD)]
      exact kp2 b o n1 n2 (kp b o n1 n2 e)
    · rw [Int.natCast_succ, Int.mul_add, Int.mul_one]
      omega
  · rintro H' ⟨kp, dk', ws, eD, r⟩
    exact hd H' ws kp dk' eD r

theorem Ivs.tps {H H' : Hp} (s : Tps H H') {vs : List V} {ps : List (Int × Int)} (h : Ivs H vs ps) : Ivs H' vs ps := by
  induction h with
  | nil => exact .nil
  | cons e _ ih => exact .cons (s _ _ e) ih
theorem Ivs.append {H : Hp} {vs us : List V} {ps qs : List (Int × Int)} (h : Ivs H vs ps) (h2 : Ivs H us qs) : Ivs H (vs ++ us) (ps ++ qs) := by
  induction h with
  | nil => exact h2
  | cons e _ ih => exact .cons e ih
theorem Ivs.isEmpty {H : Hp} {vs : List V} {ps : List (Int × Int)} (h : Ivs H vs ps) : vs.isEmpty = ps.isEmpty := by
  cases h <;> rfl

/-! ### sorted(set(pairs)) -/
def ltP (a b : Int × Int) : Prop := a.1 < b.1 ∨ (a.1 = b.1 ∧ a.2 < b.2)
def prL (q : Int × Int) : List Int := [q.1, q.2]
theorem prL_inj {a b : Int × Int} (h : prL a = prL b) : a = b := by
  unfold prL at h
  cases a
  cases b
  simp at h
  rw [h.1, h.2]
theorem mem_prL {q : Int × Int} {ps : List (Int × Int)} : prL q ∈ ps.map prL ↔ q ∈ ps := by
  rw [List.mem_map]
  exact ⟨fun ⟨a, ha, e⟩ => prL_inj e ▸ ha, fun h => ⟨q, h, rfl⟩⟩
theorem Ivs.keys {H : Hp} {us : List V} {ps : List (Int × Int)} (h : Ivs H us ps) : ∃ ks : List (Addr × List Int), us = ks.map (fun p => V.ref p.1) ∧ ks.map (·.2) = ps.map prL ∧ ∀ p ∈ ks, ∃ x y : Int, p.2 = [x, y] ∧ H p.1 = some (.tup [.int x, .int y]) := by
  induction h with
  | nil => exact ⟨[], rfl, rfl, fun p hp => nomatch hp⟩
  | cons e _ ih =>
    obtain ⟨ks, e1, e2, e3⟩ := ih
    refine ⟨(_, [_, _]) :: ks, by rw [List.map_cons, e1], by rw [List.map_cons, List.map_cons, e2]; rfl, fun p hp => ?_⟩
    rcases List.mem_cons.mp hp with rfl | hp
    · exact ⟨_, _, rfl, e⟩
    · exact e3 p hp
theorem Ivs.ofKeys {H : Hp} : ∀ {L : List (Addr × List Int)}, (∀ p ∈ L, ∃ x y : Int, p.2 = [x, y] ∧ H p.1 = some (.tup [.int x, .int y])) → ∃ ps, Ivs H (L.map fun p => V.ref p.1) ps ∧ L.map (·.2) = ps.map prL
  | [], _ => ⟨[], .nil, rfl⟩
  | p :: L, h => by
    obtain ⟨x, y, e, e1⟩ := h p List.mem_cons_self
    obtain ⟨ps, i, e2⟩ := Ivs.ofKeys (L := L) fun q hq => h q (List.mem_cons_of_mem _ hq)
    exact ⟨(x, y) :: ps, .cons e1 i, by rw [List.map_cons, List.map_cons, e2, e]; rfl⟩
theorem Ivs.tpsMem {H : Hp} {us : List V} {ps : List (Int × Int)} (h : Ivs H us ps) {q : Int × Int} (hq : q ∈ ps) : ∃ a, V.ref a ∈ us ∧ H a = some (.tup [.int q.1, .int q.2]) := by
  induction h with
  | nil => cases hq
  | cons e _ ih =>
    rcases List.mem_cons.mp hq with rfl | hq
    · exact ⟨_, List.mem_cons_self, e⟩
    · obtain ⟨a, h1, h2⟩ := ih hq
      exact ⟨a, List.mem_cons_of_mem _ h1, h2⟩
theorem sorted_keys {K : PySem.W.Frag} {P : Program} {w : World} {H : Hp} {ps : List (Int × Int)} {Q : VK} {ks L : List (Addr × List Int)} {a : Addr} (e2 : ks.map (·.2) = ps.map prL) (e3 : ∀ p ∈ ks, ∃ x y : Int, p.2 = [x, y] ∧ H p.1 = some (.tup [.int x, .int y])) (na : H a = none) (h1 : ∀ p ∈ L, p ∈ ks) (h2 : ∀ p ∈ ks, p.2 ∈ L.map (·.2)) (bd : ∀ q ∈ ps, (0 ≤ q.1 ∧ q.1 < 10 ^ 13) ∧ 0 ≤ q.2 ∧ q.2 < 10 ^ 13)
    (fin : ∀ H' p us' ps', Same H H' → H p = none → H' p = some (.lst us') → Ivs H' us' ps' → ps'.Pairwise ltP → (∀ q, q ∈ ps' ↔ q ∈ ps) → Q (.ref p) H') :
    rSortedT K P w [.ref a] (upd H a (SetTO P w a L)) Q := by
  have s1 : Same H (upd H a (SetTO P w a L)) := same_new na
  refine ⟨a, L, 2, 10 ^ 13, rfl, upd_same, fun p hp => ?_, by decide, fun p hp => ?_, fun L' p pm nd fw pw np => ?_⟩
  · obtain ⟨x, y, e, e1⟩ := e3 p (h1 p hp)
    rw [e]
    exact SqT.of (s1 _ _ e1)
  · have m : p.2 ∈ ks.map (·.2) := List.mem_map.mpr ⟨p, h1 p hp, rfl⟩
    rw [e2] at m
    obtain ⟨q, hq, e⟩ := List.mem_map.mp m
    have b := bd q hq
    rw [← e]
    refine ⟨rfl, fun m hm => ?_⟩
    unfold prL at hm
    rcases List.mem_cons.mp hm with rfl | hm
    · exact b.1
    · rw [List.mem_singleton.mp hm]
      exact b.2
  · have s2 : Same (upd H a (SetTO P w a L)) (upd (upd H a (SetTO P w a L)) p (.lst (L'.map fun q => V.ref q.1))) := same_new np
    obtain ⟨ps', i, e4⟩ := Ivs.ofKeys (H := H) (L := L') fun q hq => e3 q (h1 q (pm.mem_iff.mp hq))
    have mem : ∀ q, q ∈ ps' ↔ q ∈ ps := fun q => by
      rw [← mem_prL, ← e4, ← mem_prL (ps := ps), ← e2, (pm.map (·.2)).mem_iff]
      constructor
      · intro h
        obtain ⟨p, hp, e⟩ := List.mem_map.mp h
        exact List.mem_map.mpr ⟨p, h1 p hp, e⟩
      · intro h
        obtain ⟨p, hp, e⟩ := List.mem_map.mp h
        rw [← e]
        exact h2 p hp
    refine fin _ p _ ps' (s1.trans s2) (s1.free np) upd_same (i.same (s1.trans s2)) ?_ mem
    have pw2 : (L'.map (·.2)).Pairwise (fun q r => TS.code (10 ^ 13) q ≤ TS.code (10 ^ 13) r) := List.pairwise_map.mpr pw
    have both := pw2.and nd
    rw [e4] at both
    refine (List.pairwise_map.mp both).imp_of_mem fun {x y} hx hy h => ?_
    have bx := bd x ((mem x).mp hx)
    have bY := bd y ((mem y).mp hy)
    have tb : ∀ {z : Int × Int}, ((0 ≤ z.1 ∧ z.1 < 10 ^ 13) ∧ 0 ≤ z.2 ∧ z.2 < 10 ^ 13) → TS.Bd (10 ^ 13) [z.1, z.2] := fun b m hm => by
      rcases List.mem_cons.mp hm with rfl | hm
      · exact b.1
      · rw [List.mem_singleton.mp hm]
        exact b.2
    rcases code_lex (tb bx) (tb bY) h.1 with c | ⟨c1, c2⟩
    · exact .inl c
    · refine .inr ⟨c1, ?_⟩
      rcases Int.lt_or_eq_of_le c2 with z | z
      · exact z
      · exact absurd (show prL x = prL y by unfold prL; rw [c1, z]) h.2
theorem sorted_set_pairs {K : PySem.W.Frag} {P : Program} {w : World} {H : Hp} {l : Addr} {us : List V} {ps : List (Int × Int)} {Q : VK} (hl : SqL K H l us) (iv : Ivs H us ps) (few : ps.length < 64) (bd : ∀ q ∈ ps, (0 ≤ q.1 ∧ q.1 < 10 ^ 13) ∧ 0 ≤ q.2 ∧ q.2 < 10 ^ 13)
    (fin : ∀ H' p us' ps', Same H H' → H p = none → H' p = some (.lst us') → Ivs H' us' ps' → ps'.Pairwise ltP → (∀ q, q ∈ ps' ↔ q ∈ ps) → Q (.ref p) H') :
    rSetOfT K P w [.ref l] H (fun x H1 => rSortedT K P w [x] H1 Q) := by
  obtain ⟨ks, rfl, e2, e3⟩ := iv.keys
  have lk : ks.length = ps.length := by
    have z := congrArg List.length e2
    rw [List.length_map, List.length_map] at z
    exact z
  refine ⟨l, ks, rfl, hl, fun p hp => ?_, by omega, fun a L na h1 h2 => ?_⟩
  · obtain ⟨x, y, e, e1⟩ := e3 p hp
    rw [e]
    exact SqT.of e1
  exact sorted_keys e2 e3 na h1 h2 bd fin
/-- drawn intervals: ascending, of the line -/
structure Row (ls : List Int) (ps : List (Int × Int)) : Prop where
  asc : ps.Pairwise ltP
  ok : ∀ q ∈ ps, (q.1 ∈ ls ∧ q.2 ∈ ls) ∧ q.1 ≤ q.2
def sp_law_intervals : Sp := fun vs H Q _ => ∃ (d c l : Addr) (n most : Int) (ls : List Int), vs = [.ref d, .ref l, .int most] ∧ Dk H d c n ∧ 0 ≤ n ∧ n < 999000 ∧ (l ≠ d ∧ l ≠ c) ∧ H l = some (.lst (ls.map V.int)) ∧ 0 < ls.length ∧ ls.length ≤ 100 ∧ Ln ls ∧ 0 ≤ most ∧ most ≤ 30 ∧
  ∀ H' t us ps m, Kp d c H H' → Dk H' d c m → n ≤ m → m ≤ n + 1 + 2 * most → H' t = some (.tup us) → Ivs H' us ps → Row ls ps → (ps.length : Int) ≤ most → Q (.ref t) H'
theorem ok_law_intervals (T : Tx K mg f_depth_changes f_find_blocks f_is_number f_is_position f_is_tuple_of f_is_interval f_has_position f_contains f_is_demand f_serves f_conflict f_is_independent f_demands_at_blocks f_is_open f_open_demands f_pieces_inside f_first_gap f_find_missing f_without_item f_require_generated f_can_spare f_prune_pieces f_law_deck f_law_draw f_law_line f_law_interval f_law_intervals f_law_conflict f_law_independent f_law_completions f_law_right f_law d_depth_changes d_find_blocks d_is_number d_is_position d_is_tuple_of d_is_interval d_has_position d_contains d_is_demand d_serves d_conflict d_is_independent d_demands_at_blocks d_is_open d_open_demands d_pieces_inside d_first_gap d_find_missing d_without_item d_require_generated d_can_spare d_prune_pieces d_law_deck d_law_draw d_law_line d_law_interval d_law_intervals d_law_conflict d_law_independent d_law_completions d_law_right d_law t_LAST_POSITION) : FnOk P w K mg base CX0 3 f_law_intervals d_law_intervals ["_law_deck_here", "_law_line_here", "_law_most"] sp_law_intervals := by
  refine T.F_law_intervals.ok sc_law_intervals (fun vs H Q E h => ?_) (fun cdv A outer s H vs Q E hr h => ?_)
  · obtain ⟨d, c, l, n, most, ls, rfl, _⟩ := h
    rfl
  · obtain ⟨d, c, l, n, most, ls, rfl, dk, n0, n1, off, el, ln0, ln1, ln, m0, m1, q⟩ := h
    refine ⟨_, (pss_cons (ps_setLc (i := 3) (own := [("_law_k", 4)]) (g := (gName 4)) (tt := tYes) (by rfl) sc_law_intervals.nd rfl rfl (sw_true rfl rfl rfl (by decide +kernel)) (pi_range1 (by rfl) T.z_range (pa_cons (pe_call (ok_law_draw T) (hr.mono (by decide)) (by rfl) T.g_law_draw T.F_law_draw.kp T.b_law_draw .nil pass0 (pa_cons (pv 0) (pa_cons (pe_op op_add (pv 2) pe_int) pa_nil))) pa_nil)) (blkOk_by (own := [("_law_k", 4)]) (N := N_law_intervals) (sc := defScope s_law_intervals) (by decide +kernel)) (fun _ _ _ _ _ => (pg_name (i := 4) sc_law_intervals.nd rfl (Or.inl rfl))) (fun _ _ _ _ _ => pts_nil) (fun _ _ _ _ _ => (pe_call (ok_law_interval T) (hr.mono (by decide)) (by rfl) T.g_law_interval T.F_law_interval.kp T.b_law_interval .nil pass0 (pa_cons (pv 0) (pa_cons (pv 1) pa_nil)))))
      (pss_one (ps_ret (pe_callTy call_tuple_of (by rfl) T.z_tuple (by decide +kernel) (pa_cons (pe_callB (cr_sortedT rfl) (by rfl) T.z_sorted (by decide +kernel) (pa_cons (pe_callTy (cr_setOfT rfl hr.units) (by rfl) T.z_set (by decide +kernel) (pa_cons (pv 3) pa_nil)) pa_nil)) pa_nil))))), ?_⟩
    refine ⟨.ref d, rfl, .int most, rfl, _, _, rfl, rfl, d, c, n, most + 1, rfl, dk, n0, by omega, by omega, by omega, fun H1 r kp1 dk1 r0 r1 => ?_⟩
    have el1 := kp1.keep off el
    refine ⟨r, rfl, by omega, by omega, fun D nD => ?_⟩
    refine lcK (d := d) (c := c) (per := 2) (n0 := n + 1) (lo := 0) (n := r.toNat) (fun j H' ws => ∃ ps, Ivs H' ws ps ∧ ps.length = j ∧ ∀ q ∈ ps, (q.1 ∈ ls ∧ q.2 ∈ ls) ∧ q.1 ≤ q.2) nD dk1 (by omega) (fun _ _ _ _ t ⟨ps, h1, h2⟩ => ⟨ps, h1.tps t, h2⟩) (fun j H' ws ⟨ps, h1, h2, _⟩ => by rw [h1.length, h2]; exact Nat.le_refl _) (fun _ => ⟨[], .nil, rfl, fun q hq => nomatch hq⟩) ?_ ?_
    · rintro j H' N acc hj kp' dk' eD ⟨ps, iv, pl, pin⟩ yes
      refine ⟨rfl, .ref d, rfl, .ref l, rfl, d, c, l, _, ls, rfl, dk', by omega, by omega, off, kp'.keep off el1, by omega, by omega, fun H6 lo hi t kp6 dk6 mlo mhi lh nt et => ?_⟩
      refine yes H6 _ kp6 dk6 ⟨ps ++ [(lo, hi)], (iv.tps (kp6.tps dk')).snoc et, by rw [List.length_append, pl]; rfl, fun q hq => ?_⟩
      rcases List.mem_append.mp hq with hq | hq
      · exact pin q hq
      · rw [List.mem_singleton.mp hq]
        exact ⟨⟨mlo, mhi⟩, lh⟩
    · rintro H6 ws kp6 dk6 eD ⟨ps, iv, pl, pin⟩
      refine ⟨.ref D, rfl, ?_⟩
      dsimp only [tNil]
      refine sorted_set_pairs (SqL.of eD) iv (by omega) (fun q hq => ?_) (fun H7 p us' ps' s7 np ep iv' asc mem => ?_)
      · have h := pin q hq
        have h1 := ln.ok _ h.1.1
        have h2 := ln.ok _ h.1.2
        omega
      · refine ⟨p, us', rfl, .inl ⟨SqL.of ep, fun t nt => ?_⟩⟩
        have s8 := same_new (o := .tup us') nt
        have nd : ps'.length ≤ ps.length := by
          have ndp : ps'.Nodup := asc.imp fun {a b} h e => by
            subst e
            rcases h with h | h <;> omega
          exact nodup_le ndp fun x hx => (mem x).mp hx
        refine q _ t us' ps' _ (kp1.trans (kp6.trans (Kp.same (s7.trans s8)))) (dk6.kept (s7.trans s8)) (by omega) (by omega) upd_same (iv'.same s8) ⟨asc, fun q hq => pin q ((mem q).mp hq)⟩ (by omega)

/-! ### the program: contains, has_position, serves -/
def inI (x y u v : Int) : Bool := decide (x ≤ u) && decide (v ≤ y)
def atP (x y p : Int) : Bool := decide (x ≤ p) && decide (p ≤ y)
def sp_contains : Sp := fun vs H Q _ => ∃ (a b : Addr) (x y u v : Int), vs = [.ref a, .ref b] ∧ H a = some (.tup [.int x, .int y]) ∧ H b = some (.tup [.int u, .int v]) ∧ Q (.bl (inI x y u v)) H
theorem ok_contains (T : Tx K mg f_depth_changes f_find_blocks f_is_number f_is_position f_is_tuple_of f_is_interval f_has_position f_contains f_is_demand f_serves f_conflict f_is_independent f_demands_at_blocks f_is_open f_open_demands f_pieces_inside f_first_gap f_find_missing f_without_item f_require_generated f_can_spare f_prune_pieces f_law_deck f_law_draw f_law_line f_law_interval f_law_intervals f_law_conflict f_law_independent f_law_completions f_law_right f_law d_depth_changes d_find_blocks d_is_number d_is_position d_is_tuple_of d_is_interval d_has_position d_contains d_is_demand d_serves d_conflict d_is_independent d_demands_at_blocks d_is_open d_open_demands d_pieces_inside d_first_gap d_find_missing d_without_item d_require_generated d_can_spare d_prune_pieces d_law_deck d_law_draw d_law_line d_law_interval d_law_intervals d_law_conflict d_law_independent d_law_completions d_law_right d_law t_LAST_POSITION) : FnOk P w K mg base CX0 1 f_contains d_contains ["outer", "inner"] sp_contains := by
  refine T.F_contains.ok sc_contains (fun vs H Q E h => ?_) (fun cdv A outer s H vs Q E hr h => ?_)
  · obtain ⟨a, b, x, y, u, v, rfl, _⟩ := h
    rfl
  · obtain ⟨a, b, x, y, u, v, rfl, ha, hb, q⟩ := h
    refine ⟨_, (pss_one (ps_ret (pe_and (pe_cmpR op_le (pe_ix ix_tup (pv 0) pe_int (fun _ _ => rfl)) (pe_ix ix_tup (pv 1) pe_int (fun _ _ => rfl)) (nomark _)) (pe_one (pe_cmpR op_le (pe_ix ix_tup (pv 1) pe_int (fun _ _ => rfl)) (pe_ix ix_tup (pv 0) pe_int (fun _ _ => rfl)) (nomark _)))))), ?_⟩
    unfold inI at q
    refine ⟨.ref a, rfl, a, _, 0, .int x, rfl, rfl, SqT.of ha, rfl, .ref b, rfl, b, _, 0, .int u, rfl, rfl, SqT.of hb, rfl, _, _, rfl, rfl, _, rfl, ite2 (fun e => ?_) (fun e => ?_)⟩
    · refine ⟨.ref b, rfl, b, _, 1, .int v, rfl, rfl, SqT.of hb, rfl, .ref a, rfl, a, _, 1, .int y, rfl, rfl, SqT.of ha, rfl, _, _, rfl, rfl, ?_⟩
      rw [e] at q
      exact q
    · rw [Bool.not_eq_true] at e
      rw [e] at q
      exact q
def sp_has_position : Sp := fun vs H Q _ => ∃ (a : Addr) (x y p : Int), vs = [.ref a, .int p] ∧ H a = some (.tup [.int x, .int y]) ∧ Q (.bl (atP x y p)) H
theorem ok_has_position (T : Tx K mg f_depth_changes f_find_blocks f_is_number f_is_position f_is_tuple_of f_is_interval f_has_position f_contains f_is_demand f_serves f_conflict f_is_independent f_demands_at_blocks f_is_open f_open_demands f_pieces_inside f_first_gap f_find_missing f_without_item f_require_generated f_can_spare f_prune_pieces f_law_deck f_law_draw f_law_line f_law_interval f_law_intervals f_law_conflict f_law_independent f_law_completions f_law_right f_law d_depth_changes d_find_blocks d_is_number d_is_position d_is_tuple_of d_is_interval d_has_position d_contains d_is_demand d_serves d_conflict d_is_independent d_demands_at_blocks d_is_open d_open_demands d_pieces_inside d_first_gap d_find_missing d_without_item d_require_generated d_can_spare d_prune_pieces d_law_deck d_law_draw d_law_line d_law_interval d_law_intervals d_law_conflict d_law_independent d_law_completions d_law_right d_law t_LAST_POSITION) : FnOk P w K mg base CX0 1 f_has_position d_has_position ["interval", "position"] sp_has_position := by
  refine T.F_has_position.ok sc_has_position (fun vs H Q E h => ?_) (fun cdv A outer s H vs Q E hr h => ?_)
  · obtain ⟨a, x, y, p, rfl, _⟩ := h
    rfl
  · obtain ⟨a, x, y, p, rfl, ha, q⟩ := h
    refine ⟨_, (pss_one (ps_ret (pe_chain op_le op_le (pe_ix ix_tup (pv 0) pe_int (fun _ _ => rfl)) (pv 1) (pe_ix ix_tup (pv 0) pe_int (fun _ _ => rfl))))), ?_⟩
    unfold atP at q
    refine ⟨.ref a, rfl, a, _, 0, .int x, rfl, rfl, SqT.of ha, rfl, .int p, rfl, _, _, rfl, rfl, _, rfl, ite2 (fun e => ?_) (fun e => ?_)⟩
    · refine ⟨.ref a, rfl, a, _, 1, .int y, rfl, rfl, SqT.of ha, rfl, _, _, rfl, rfl, ?_⟩
      rw [e] at q
      exact q
    · rw [Bool.not_eq_true] at e
      rw [e] at q
      exact q
def svI (x y p lo hi : Int) : Bool := inI lo hi x y && atP x y p
def sp_serves : Sp := fun vs H Q _ => ∃ (a u t : Addr) (x y p lo hi : Int), vs = [.ref a, .ref u] ∧ H a = some (.tup [.int x, .int y]) ∧ H u = some (.tup [.int p, .ref t]) ∧ H t = some (.tup [.int lo, .int hi]) ∧ Q (.bl (svI x y p lo hi)) H
theorem ok_serves (T : Tx K mg f_depth_changes f_find_blocks f_is_number f_is_position f_is_tuple_of f_is_interval f_has_position f_contains f_is_demand f_serves f_conflict f_is_independent f_demands_at_blocks f_is_open f_open_demands f_pieces_inside f_first_gap f_find_missing f_without_item f_require_generated f_can_spare f_prune_pieces f_law_deck f_law_draw f_law_line f_law_interval f_law_intervals f_law_conflict f_law_independent f_law_completions f_law_right f_law d_depth_changes d_find_blocks d_is_number d_is_position d_is_tuple_of d_is_interval d_has_position d_contains d_is_demand d_serves d_conflict d_is_independent d_demands_at_blocks d_is_open d_open_demands d_pieces_inside d_first_gap d_find_missing d_without_item d_require_generated d_can_spare d_prune_pieces d_law_deck d_law_draw d_law_line d_law_interval d_law_intervals d_law_conflict d_law_independent d_law_completions d_law_right d_law t_LAST_POSITION) : FnOk P w K mg base CX0 2 f_serves d_serves ["piece", "demand"] sp_serves := by
  refine T.F_serves.ok sc_serves (fun vs H Q E h => ?_) (fun cdv A outer s H vs Q E hr h => ?_)
  · obtain ⟨a, u, t, x, y, p, lo, hi, rfl, _⟩ := h
    rfl
  · obtain ⟨a, u, t, x, y, p, lo, hi, rfl, ha, hu, ht, q⟩ := h
    refine ⟨_, (pss_cons (ps_asg (pv 1) (pg_tup rfl (pgs_cons (pg_name (i := 2) sc_serves.nd rfl (Or.inl rfl)) (pgs_cons (pg_name (i := 3) sc_serves.nd rfl (Or.inl rfl)) pgs_nil))))
      (pss_one (ps_ret (pe_and (pe_call (ok_contains T) (hr.mono (by decide)) (by rfl) T.g_contains T.F_contains.kp T.b_contains .nil pass0 (pa_cons (pv 3) (pa_cons (pv 0) pa_nil))) (pe_one (pe_call (ok_has_position T) (hr.mono (by decide)) (by rfl) T.g_has_position T.F_has_position.kp T.b_has_position .nil pass0 (pa_cons (pv 0) (pa_cons (pv 2) pa_nil)))))))), ?_⟩
    unfold svI at q
    refine ⟨.ref u, rfl, u, _, rfl, SqT.of hu, rfl, .int p, [.ref t], rfl, .ref t, [], rfl, rfl, ?_⟩
    refine ⟨.ref t, rfl, .ref a, rfl, t, a, lo, hi, x, y, rfl, ht, ha, _, rfl, ite2 (fun e => ?_) (fun e => ?_)⟩
    · refine ⟨.ref a, rfl, .int p, rfl, a, x, y, p, rfl, ha, ?_⟩
      rw [e] at q
      exact q
    · rw [Bool.not_eq_true] at e
      rw [e] at q
      exact q

def strI (f s : Int) (p : Int × Int) : Int × Int := (p.1 * f + s, p.2 * f + f - 1 + s)

/-! ### blocks, position by position -/
def depI (row : List (Int × Int)) (p : Int) : Int := (row.map fun q => if q.1 ≤ p ∧ p ≤ q.2 then (1 : Int) else 0).sum
def delI (row : List (Int × Int)) (p : Int) : Int := (row.map fun q => (if q.1 = p then (1 : Int) else 0) - (if q.2 + 1 = p then 1 else 0)).sum
def Bd (row : List (Int × Int)) (p : Int) : Prop := ∃ q ∈ row, q.1 = p ∨ q.2 + 1 = p
def Good (row : List (Int × Int)) : Prop := ∀ q ∈ row, 0 ≤ q.1 ∧ q.1 ≤ q.2
instance (row : List (Int × Int)) (p : Int) : Decidable (Bd row p) := by
  unfold Bd
  infer_instance
theorem Good.tail {q : Int × Int} {row : List (Int × Int)} (g : Good (q :: row)) : Good row := fun x hx => g x (List.mem_cons_of_mem _ hx)
theorem dep_step : ∀ {row : List (Int × Int)}, Good row → ∀ p : Int, depI row p = depI row (p - 1) + delI row p
  | [], _, _ => rfl
  | q :: row, g, p => by
    have ih := dep_step g.tail p
    have z := g q List.mem_cons_self
    unfold depI delI at *
    simp only [List.map_cons, List.sum_cons]
    rw [ih]
    split <;> split <;> split <;> split <;> omega
theorem del_zero : ∀ {row : List (Int × Int)} {p : Int}, ¬ Bd row p → delI row p = 0
  | [], _, _ => rfl
  | q :: row, p, h => by
    have ih := del_zero (row := row) (p := p) fun ⟨x, hx, e⟩ => h ⟨x, List.mem_cons_of_mem _ hx, e⟩
    have n1 : ¬ q.1 = p := fun e => h ⟨q, List.mem_cons_self, .inl e⟩
    have n2 : ¬ q.2 + 1 = p := fun e => h ⟨q, List.mem_cons_self, .inr e⟩
    unfold delI at *
    simp only [List.map_cons, List.sum_cons]
    rw [ih, if_neg n1, if_neg n2]
    rfl
theorem dep_nonneg : ∀ (row : List (Int × Int)) (p : Int), 0 ≤ depI row p
  | [], _ => Int.le_refl _
  | q :: row, p => by
    have ih := dep_nonneg row p
    unfold depI at *
    simp only [List.map_cons, List.sum_cons]
    split <;> omega
theorem dep_pos : ∀ {row : List (Int × Int)} {p : Int}, 0 < depI row p ↔ ∃ q ∈ row, q.1 ≤ p ∧ p ≤ q.2
  | [], p => by
    constructor
    · intro h
      exact absurd h (by show ¬ (0 : Int) < 0; decide)
    · rintro ⟨q, h, _⟩
      cases h
  | q :: row, p => by
    have ih := dep_pos (row := row) (p := p)
    have nn := dep_nonneg row p
    have e : depI (q :: row) p = (if q.1 ≤ p ∧ p ≤ q.2 then (1 : Int) else 0) + depI row p := by
      unfold depI
      rw [List.map_cons, List.sum_cons]
    rw [e]
    by_cases h : q.1 ≤ p ∧ p ≤ q.2
    · rw [if_pos h]
      constructor
      · intro _
        exact ⟨q, List.mem_cons_self, h⟩
      · intro _
        omega
    · rw [if_neg h]
      constructor
      · intro z
        obtain ⟨x, hx, w⟩ := ih.mp (by omega)
        exact ⟨x, List.mem_cons_of_mem _ hx, w⟩
      · rintro ⟨x, hx, w⟩
        rcases List.mem_cons.mp hx with rfl | hx
        · exact absurd w h
        · have := ih.mpr ⟨x, hx, w⟩
          omega
theorem dep_zero {row : List (Int × Int)} {p : Int} (h : ∀ q ∈ row, p < q.1 ∨ q.2 < p) : depI row p = 0 := by
  have nn := dep_nonneg row p
  by_cases z : 0 < depI row p
  · obtain ⟨q, hq, w⟩ := dep_pos.mp z
    have := h q hq
    omega
  · omega
theorem dep_const {row : List (Int × Int)} (g : Good row) {a : Int} : ∀ k : Nat, (∀ j : Int, a < j → j ≤ a + k → ¬ Bd row j) → depI row (a + k) = depI row a
  | 0, _ => by
    rw [show a + ((0 : Nat) : Int) = a by omega]
  | k + 1, h => by
    have ih := dep_const g k fun j h1 h2 => h j h1 (by omega)
    rw [dep_step g, del_zero (h _ (by omega) (Int.le_refl _)), show a + ((k + 1 : Nat) : Int) - 1 = a + (k : Int) by omega, ih]
    omega
def extl (l : List (Int × Int)) (p : Int) : List (Int × Int) := l.dropLast ++ (l.getLast?.map fun q => (q.1, p)).toList
theorem extl_snoc (l : List (Int × Int)) (q : Int × Int) (p : Int) : extl (l ++ [q]) p = l ++ [(q.1, p)] := by
  unfold extl
  rw [List.dropLast_concat, List.getLast?_concat]
  rfl
theorem extl_nil (p : Int) : extl [] p = [] := rfl
theorem extl_extl (l : List (Int × Int)) (p r : Int) : extl (extl l p) r = extl l r := by
  rcases List.eq_nil_or_concat l with rfl | ⟨m, q, rfl⟩
  · rfl
  · rw [List.concat_eq_append, extl_snoc, extl_snoc, extl_snoc]
theorem extl_ne {l : List (Int × Int)} (h : l ≠ []) (p : Int) : extl l p ≠ [] := by
  rcases List.eq_nil_or_concat l with rfl | ⟨m, q, rfl⟩
  · exact absurd rfl h
  · rw [List.concat_eq_append, extl_snoc]
    exact List.append_ne_nil_of_right_ne_nil _ (List.cons_ne_nil _ _)
theorem extl_map (f : Int × Int → Int × Int) {l : List (Int × Int)} {p r : Int} (h : ∀ q : Int × Int, f (q.1, p) = ((f q).1, r)) : extl (l.map f) r = (extl l p).map f := by
  rcases List.eq_nil_or_concat l with rfl | ⟨m, q, rfl⟩
  · rfl
  · rw [List.concat_eq_append, extl_snoc, List.map_append, List.map_singleton, extl_snoc, List.map_append, List.map_singleton, h]
/-- the blocks of the positions below n -/
def Cb (row : List (Int × Int)) : Nat → List (Int × Int)
  | 0 => []
  | n + 1 => if 0 < depI row n then (if Bd row n then Cb row n ++ [((n : Int), (n : Int))] else extl (Cb row n) n) else Cb row n
theorem Cb_succ (row : List (Int × Int)) (n : Nat) : Cb row (n + 1) = if 0 < depI row n then (if Bd row n then Cb row n ++ [((n : Int), (n : Int))] else extl (Cb row n) n) else Cb row n := rfl
theorem Cb_seg {row : List (Int × Int)} (g : Good row) {a : Nat} : ∀ k : Nat, (∀ j : Int, (a : Int) < j → j ≤ a + k → ¬ Bd row j) →
    Cb row (a + k + 1) = if 0 < depI row a then (if Bd row a then Cb row a ++ [((a : Int), (a : Int) + k)] else extl (Cb row a) (a + k)) else Cb row a
  | 0, _ => by
    rw [Nat.add_zero, Cb_succ, show (a : Int) + ((0 : Nat) : Int) = a by omega]
  | k + 1, h => by
    have ih := Cb_seg g k fun j h1 h2 => h j h1 (by omega)
    have dc := dep_const g (k + 1) h
    have cast : (((a + (k + 1)) : Nat) : Int) = (a : Int) + ((k + 1 : Nat) : Int) := by omega
    rw [Cb_succ, cast, dc]
    by_cases hd : 0 < depI row a
    · rw [if_pos hd, if_neg (h _ (by omega) (Int.le_refl _)), show a + (k + 1) = a + k + 1 by omega, ih, if_pos hd]
      by_cases hb : Bd row a
      · rw [if_pos hb, if_pos hb, if_pos hd, extl_snoc]
      · rw [if_neg hb, if_neg hb, if_pos hd, extl_extl]
    · rw [if_neg hd, if_neg hd, show a + (k + 1) = a + k + 1 by omega, ih, if_neg hd]
theorem Cb_top {row : List (Int × Int)} {N : Nat} (h : ∀ q ∈ row, q.2 + 1 ≤ N) : ∀ k : Nat, Cb row (N + k) = Cb row N
  | 0 => rfl
  | k + 1 => by
    have z : depI row ((N + k : Nat) : Int) = 0 := dep_zero fun q hq => by
      have := h q hq
      omega
    rw [show N + (k + 1) = (N + k) + 1 by omega, Cb_succ, z, if_neg (by omega)]
    exact Cb_top h k
theorem Cb_low {row : List (Int × Int)} : ∀ {N : Nat}, (∀ q ∈ row, (N : Int) ≤ q.1) → Cb row N = []
  | 0, _ => rfl
  | N + 1, h => by
    have z : depI row (N : Int) = 0 := dep_zero fun q hq => by
      have := h q hq
      omega
    rw [Cb_succ, z, if_neg (by omega)]
    exact Cb_low fun q hq => by
      have := h q hq
      omega
def topN : List (Int × Int) → Nat
  | [] => 0
  | q :: r => max (q.2 + 1).toNat (topN r)
theorem topN_le : ∀ {row : List (Int × Int)} {q : Int × Int}, q ∈ row → q.2 + 1 ≤ topN row
  | r :: row, q, h => by
    rcases List.mem_cons.mp h with rfl | h
    · show q.2 + 1 ≤ ((max (q.2 + 1).toNat (topN row) : Nat) : Int)
      omega
    · have := topN_le h
      show q.2 + 1 ≤ ((max (r.2 + 1).toNat (topN row) : Nat) : Int)
      omega
def blocksOf (row : List (Int × Int)) : List (Int × Int) := Cb row (topN row)
theorem Cb_all {row : List (Int × Int)} {N : Nat} (h : ∀ q ∈ row, q.2 + 1 ≤ N) : Cb row N = blocksOf row := by
  unfold blocksOf
  rcases Nat.le_total N (topN row) with z | z
  · obtain ⟨k, e⟩ := Nat.le.dest z
    rw [← e, Cb_top h k]
  · obtain ⟨k, e⟩ := Nat.le.dest z
    rw [← e, Cb_top (fun q hq => topN_le hq) k]
theorem Cb_ne {row : List (Int × Int)} (g : Good row) : ∀ n : Nat, 0 < depI row n → Cb row (n + 1) ≠ []
  | 0, h => by
    obtain ⟨q, hq, w⟩ := dep_pos.mp h
    have z := g q hq
    have hb : Bd row ((0 : Nat) : Int) := ⟨q, hq, .inl (by omega)⟩
    rw [Cb_succ, if_pos h, if_pos hb]
    exact List.append_ne_nil_of_right_ne_nil _ (List.cons_ne_nil _ _)
  | n + 1, h => by
    rw [Cb_succ, if_pos h]
    by_cases hb : Bd row ((n + 1 : Nat) : Int)
    · rw [if_pos hb]
      exact List.append_ne_nil_of_right_ne_nil _ (List.cons_ne_nil _ _)
    · rw [if_neg hb]
      have e := dep_step g ((n + 1 : Nat) : Int)
      rw [del_zero hb, show ((n + 1 : Nat) : Int) - 1 = (n : Int) by omega] at e
      exact extl_ne (Cb_ne g n (by omega)) _
/-- the blocks of stretched intervals -/
theorem bd_str {row : List (Int × Int)} {f s : Int} {j : Int} : Bd (row.map (strI f s)) j ↔ ∃ b, Bd row b ∧ j = b * f + s := by
  constructor
  · rintro ⟨q, hq, h⟩
    obtain ⟨r, hr, rfl⟩ := List.mem_map.mp hq
    rcases h with h | h
    · exact ⟨r.1, ⟨r, hr, .inl rfl⟩, h.symm⟩
    · refine ⟨r.2 + 1, ⟨r, hr, .inr rfl⟩, ?_⟩
      rw [← h, Int.add_mul]
      show r.2 * f + f - 1 + s + 1 = r.2 * f + 1 * f + s
      omega
  · rintro ⟨b, ⟨r, hr, h⟩, rfl⟩
    refine ⟨strI f s r, List.mem_map.mpr ⟨r, hr, rfl⟩, ?_⟩
    rcases h with h | h
    · exact .inl (by rw [← h]; rfl)
    · refine .inr ?_
      rw [← h, Int.add_mul]
      show r.2 * f + f - 1 + s + 1 = r.2 * f + 1 * f + s
      omega
theorem mul_le_iff {a b f : Int} (hf : 0 < f) : a * f ≤ b * f ↔ a ≤ b := ⟨fun h => Int.le_of_mul_le_mul_right h hf, fun h => Int.mul_le_mul_of_nonneg_right h (by omega)⟩
theorem dep_str {f s : Int} (hf : 0 < f) : ∀ {row : List (Int × Int)} {N : Int}, depI (row.map (strI f s)) (N * f + s) = depI row N
  | [], _ => rfl
  | q :: row, N => by
    have ih := dep_str (s := s) hf (row := row) (N := N)
    have e1 := mul_le_iff (a := q.1) (b := N) hf
    have e2 := mul_le_iff (a := N) (b := q.2) hf
    have e3 : N * f ≤ q.2 * f + f - 1 ↔ N ≤ q.2 := by
      constructor
      · intro h
        by_cases z : N ≤ q.2
        · exact z
        · have w := (mul_le_iff (a := q.2 + 1) (b := N) hf).mpr (by omega)
          rw [Int.add_mul] at w
          omega
      · intro h
        have := e2.mpr h
        omega
    have c : (q.1 * f + s ≤ N * f + s ∧ N * f + s ≤ q.2 * f + f - 1 + s) ↔ (q.1 ≤ N ∧ N ≤ q.2) := by
      rw [← e1, ← e3]
      constructor
      · rintro ⟨h1, h2⟩
        exact ⟨by omega, by omega⟩
      · rintro ⟨h1, h2⟩
        exact ⟨by omega, by omega⟩
    unfold depI at *
    simp only [List.map_cons, List.sum_cons]
    rw [ih]
    congr 1
    show (if q.1 * f + s ≤ N * f + s ∧ N * f + s ≤ q.2 * f + f - 1 + s then (1 : Int) else 0) = _
    by_cases z : q.1 ≤ N ∧ N ≤ q.2
    · rw [if_pos z, if_pos (c.mpr z)]
    · rw [if_neg z, if_neg (fun w => z (c.mp w))]
theorem good_str {row : List (Int × Int)} (g : Good row) {f s : Int} (hf : 0 < f) (hs : 0 ≤ s) : Good (row.map (strI f s)) := by
  intro q hq
  obtain ⟨r, hr, rfl⟩ := List.mem_map.mp hq
  have z := g r hr
  have m1 := (mul_le_iff (a := 0) (b := r.1) hf).mpr z.1
  have m2 := (mul_le_iff (a := r.1) (b := r.2) hf).mpr z.2
  constructor
  · show 0 ≤ r.1 * f + s
    omega
  · show r.1 * f + s ≤ r.2 * f + f - 1 + s
    omega
theorem Cb_str {row : List (Int × Int)} (g : Good row) {f s : Int} (hf : 0 < f) (hs : 0 ≤ s) : ∀ N : Nat, Cb (row.map (strI f s)) ((N : Int) * f + s).toNat = (Cb row N).map (strI f s)
  | 0 => by
    have e : ((0 : Nat) : Int) * f + s = s := by
      rw [show ((0 : Nat) : Int) = 0 from rfl, Int.zero_mul]
      omega
    rw [e, Cb_low]
    · rfl
    · intro q hq
      obtain ⟨r, hr, rfl⟩ := List.mem_map.mp hq
      have z := g r hr
      have m1 := (mul_le_iff (a := 0) (b := r.1) hf).mpr z.1
      show ((s.toNat : Nat) : Int) ≤ r.1 * f + s
      omega
  | N + 1 => by
    have ih := Cb_str g hf hs N
    have nn := (mul_le_iff (a := 0) (b := N) hf).mpr (by omega)
    have cast : (((N : Int) * f + s).toNat : Int) = (N : Int) * f + s := by omega
    have e : (((N + 1 : Nat) : Int) * f + s).toNat = ((N : Int) * f + s).toNat + (f - 1).toNat + 1 := by
      have : ((N + 1 : Nat) : Int) * f = (N : Int) * f + f := by
        rw [show ((N + 1 : Nat) : Int) = (N : Int) + 1 by omega, Int.add_mul, Int.one_mul]
      omega
    have seg := Cb_seg (good_str g hf hs) (a := ((N : Int) * f + s).toNat) (f - 1).toNat (fun j h1 h2 hb => by
      obtain ⟨b, _, ej⟩ := bd_str.mp hb
      rw [cast] at h1 h2
      have l1 : (N : Int) < b := by
        by_cases z : b ≤ N
        · have := (mul_le_iff (a := b) (b := N) hf).mpr z
          omega
        · omega
      have := (mul_le_iff (a := (N : Int) + 1) (b := b) hf).mpr (by omega)
      rw [Int.add_mul] at this
      omega)
    have eb : Bd (row.map (strI f s)) ((N : Int) * f + s) ↔ Bd row N := by
      constructor
      · intro h
        obtain ⟨b, hb, ej⟩ := bd_str.mp h
        have : b = N := by
          rcases Int.lt_trichotomy b N with z | z | z
          · have := (mul_le_iff (a := b + 1) (b := N) hf).mpr (by omega)
            rw [Int.add_mul] at this
            omega
          · exact z
          · have := (mul_le_iff (a := (N : Int) + 1) (b := b) hf).mpr (by omega)
            rw [Int.add_mul] at this
            omega
        rw [← this]
        exact hb
      · intro h
        exact bd_str.mpr ⟨N, h, rfl⟩
    rw [e, seg, cast, dep_str hf, ih, Cb_succ]
    by_cases hd : 0 < depI row N
    · rw [if_pos hd, if_pos hd]
      have last : (N : Int) * f + s + ((f - 1).toNat : Int) = (N : Int) * f + f - 1 + s := by omega
      by_cases hb : Bd row N
      · rw [if_pos hb, if_pos (eb.mpr hb), List.map_append, List.map_singleton, last]
        rfl
      · rw [if_neg hb, if_neg (fun z => hb (eb.mp z)), last]
        exact extl_map (strI f s) fun q => rfl
    · rw [if_neg hd, if_neg hd]
theorem blocks_str {row : List (Int × Int)} (g : Good row) {f s : Int} (hf : 0 < f) (hs : 0 ≤ s) : blocksOf (row.map (strI f s)) = (blocksOf row).map (strI f s) := by
  rw [← Cb_all (row := row.map (strI f s)) (N := ((topN row : Int) * f + s).toNat)]
  · exact Cb_str g hf hs _
  · intro q hq
    obtain ⟨r, hr, rfl⟩ := List.mem_map.mp hq
    have z := topN_le hr
    have m := (mul_le_iff (a := r.2 + 1) (b := topN row) hf).mpr z
    have nn := (mul_le_iff (a := 0) (b := topN row) hf).mpr (by omega)
    rw [Int.add_mul] at m
    show r.2 * f + f - 1 + s + 1 ≤ ((((topN row : Int) * f + s).toNat : Nat) : Int)
    omega

/-! ### what the blocks are: ascending, apart, covering, begun at the borders that are covered -/
theorem extl_fst (l : List (Int × Int)) (p : Int) : (extl l p).map (·.1) = l.map (·.1) := by
  rcases List.eq_nil_or_concat l with rfl | ⟨m, q, rfl⟩
  · rfl
  · rw [List.concat_eq_append, extl_snoc, List.map_append, List.map_append]
    rfl
def stB (row : List (Int × Int)) (p : Nat) : Bool := decide (0 < depI row p) && decide (Bd row p)
structure Bl (row : List (Int × Int)) (N : Nat) (l : List (Int × Int)) : Prop where
  asc : l.Pairwise (fun a b => a.2 < b.1)
  ok : ∀ q ∈ l, 0 ≤ q.1 ∧ q.1 ≤ q.2 ∧ q.2 < N
  cov : ∀ p : Nat, p < N → (0 < depI row p ↔ ∃ q ∈ l, q.1 ≤ p ∧ (p : Int) ≤ q.2)
  fst : l.map (·.1) = ((List.range N).filter (stB row)).map (fun n : Nat => (n : Int))
theorem Cb_bl {row : List (Int × Int)} (g : Good row) : ∀ N : Nat, Bl row N (Cb row N)
  | 0 => ⟨.nil, (fun q hq => nomatch hq), (fun p hp => absurd hp (Nat.not_lt_zero p)), rfl⟩
  | n + 1 => by
    have ih := Cb_bl g n
    have fr : ((List.range (n + 1)).filter (stB row)).map (fun n : Nat => (n : Int)) = ((List.range n).filter (stB row)).map (fun n : Nat => (n : Int)) ++ (if stB row n then [(n : Int)] else []) := by
      rw [List.range_succ, List.filter_append, List.map_append]
      congr 1
      cases h : stB row n <;> simp [List.filter_cons, h]
    rw [Cb_succ]
    by_cases hd : 0 < depI row n
    · rw [if_pos hd]
      by_cases hb : Bd row n
      · rw [if_pos hb]
        refine ⟨?_, fun q hq => ?_, fun p hp => ?_, ?_⟩
        · refine List.pairwise_append.mpr ⟨ih.asc, List.pairwise_singleton _ _, fun a ha b hb2 => ?_⟩
          rw [List.mem_singleton.mp hb2]
          exact (ih.ok a ha).2.2
        · rcases List.mem_append.mp hq with hq | hq
          · have := ih.ok q hq
            exact ⟨this.1, this.2.1, by omega⟩
          · rw [List.mem_singleton.mp hq]
            refine ⟨?_, ?_, ?_⟩
            · show (0 : Int) ≤ (n : Int)
              omega
            · show (n : Int) ≤ (n : Int)
              omega
            · show (n : Int) < ((n + 1 : Nat) : Int)
              omega
        · rcases Nat.lt_or_ge p n with h | h
          · rw [ih.cov p h]
            constructor
            · rintro ⟨q, hq, w⟩
              exact ⟨q, List.mem_append_left _ hq, w⟩
            · rintro ⟨q, hq, w⟩
              rcases List.mem_append.mp hq with hq | hq
              · exact ⟨q, hq, w⟩
              · rw [List.mem_singleton.mp hq] at w
                have w1 : (n : Int) ≤ (p : Int) := w.1
                omega
          · have e : p = n := by omega
            subst e
            exact ⟨fun _ => ⟨((p : Int), (p : Int)), List.mem_append_right _ (List.mem_singleton.mpr rfl), Int.le_refl _, Int.le_refl _⟩, fun _ => hd⟩
        · rw [List.map_append, ih.fst, fr]
          have : stB row n = true := Bool.and_eq_true_iff.mpr ⟨decide_eq_true hd, decide_eq_true hb⟩
          rw [this]
          rfl
      · rw [if_neg hb]
        have sf : stB row n = false := by
          unfold stB
          rw [decide_eq_false hb, Bool.and_false]
        -- the last block ends just before n
        have e := dep_step g (n : Int)
        rw [del_zero hb] at e
        have n0 : 0 < n := by
          rcases Nat.eq_zero_or_pos n with z | z
          · subst z
            obtain ⟨q, hq, w⟩ := dep_pos.mp hd
            have := g q hq
            exact absurd ⟨q, hq, .inl (by omega)⟩ hb
          · exact z
        obtain ⟨k, rfl⟩ : ∃ k, n = k + 1 := ⟨n - 1, by omega⟩
        have dk : 0 < depI row k := by
          rw [show ((k + 1 : Nat) : Int) - 1 = (k : Int) by omega] at e
          omega
        obtain ⟨q, hq, w1, w2⟩ := (ih.cov k (by omega)).mp dk
        have oq := ih.ok q hq
        generalize Cb row (k + 1) = l at *
        rcases List.eq_nil_or_concat l with rfl | ⟨m, z, rfl⟩
        · cases hq
        · rw [List.concat_eq_append] at *
          rw [extl_snoc]
          have pa := List.pairwise_append.mp ih.asc
          have oz := ih.ok z (List.mem_append_right _ (List.mem_singleton.mpr rfl))
          have qz : q = z := by
            rcases List.mem_append.mp hq with h | h
            · have := pa.2.2 q h z (List.mem_singleton.mpr rfl)
              omega
            · exact List.mem_singleton.mp h
          subst qz
          have q2 : q.2 = (k : Int) := by omega
          refine ⟨?_, fun r hr => ?_, fun p hp => ?_, ?_⟩
          · refine List.pairwise_append.mpr ⟨pa.1, List.pairwise_singleton _ _, fun a ha b hb2 => ?_⟩
            rw [List.mem_singleton.mp hb2]
            exact pa.2.2 a ha q (List.mem_singleton.mpr rfl)
          · rcases List.mem_append.mp hr with hr | hr
            · have := ih.ok r (List.mem_append_left _ hr)
              exact ⟨this.1, this.2.1, by omega⟩
            · rw [List.mem_singleton.mp hr]
              refine ⟨oq.1, ?_, ?_⟩
              · show q.1 ≤ ((k + 1 : Nat) : Int)
                omega
              · show ((k + 1 : Nat) : Int) < ((k + 1 + 1 : Nat) : Int)
                omega
          · rcases Nat.lt_or_ge p (k + 1) with h | h
            · rw [ih.cov p h]
              constructor
              · rintro ⟨r, hr, w⟩
                rcases List.mem_append.mp hr with hr | hr
                · exact ⟨r, List.mem_append_left _ hr, w⟩
                · rw [List.mem_singleton.mp hr] at w
                  refine ⟨_, List.mem_append_right _ (List.mem_singleton.mpr rfl), w.1, ?_⟩
                  show (p : Int) ≤ ((k + 1 : Nat) : Int)
                  omega
              · rintro ⟨r, hr, w⟩
                rcases List.mem_append.mp hr with hr | hr
                · exact ⟨r, List.mem_append_left _ hr, w⟩
                · rw [List.mem_singleton.mp hr] at w
                  exact ⟨q, List.mem_append_right _ (List.mem_singleton.mpr rfl), w.1, by omega⟩
            · have e : p = k + 1 := by omega
              subst e
              refine ⟨fun _ => ⟨_, List.mem_append_right _ (List.mem_singleton.mpr rfl), ?_, ?_⟩, fun _ => hd⟩
              · show q.1 ≤ ((k + 1 : Nat) : Int)
                omega
              · exact Int.le_refl _
          · rw [fr, sf, ← ih.fst, List.map_append, List.map_append]
            simp
    · rw [if_neg hd]
      have sf : stB row n = false := by
        unfold stB
        rw [decide_eq_false hd, Bool.false_and]
      refine ⟨ih.asc, fun q hq => ?_, fun p hp => ?_, ?_⟩
      · have := ih.ok q hq
        exact ⟨this.1, this.2.1, by omega⟩
      · rcases Nat.lt_or_ge p n with h | h
        · exact ih.cov p h
        · have e : p = n := by omega
          subst e
          refine ⟨fun z => absurd z hd, ?_⟩
          rintro ⟨q, hq, w⟩
          have := (ih.ok q hq).2.2
          omega
      · rw [fr, sf, ih.fst]
        simp
theorem blocks_bl {row : List (Int × Int)} (g : Good row) : Bl row (topN row) (blocksOf row) := Cb_bl g _
def lowsOf (row : List (Int × Int)) : List Int := (blocksOf row).map (·.1)
def ixI (row : List (Int × Int)) (pos : Int) : Int := (((lowsOf row).filter fun c => decide (c ≤ pos)).length : Int) - 1
theorem cnt_at {pos : Int} : ∀ {l : List (Int × Int)} {j : Nat} {q : Int × Int}, l.Pairwise (fun a b => a.2 < b.1) → (∀ q ∈ l, q.1 ≤ q.2) → l[j]? = some q → q.1 ≤ pos → pos ≤ q.2 → ((l.map (·.1)).filter fun c => decide (c ≤ pos)).length = j + 1
  | [], _, _, _, _, e, _, _ => by simp at e
  | x :: r, 0, q, asc, ok, e, h1, h2 => by
    cases e
    have p := List.pairwise_cons.mp asc
    rw [List.map_cons, List.filter_cons, if_pos (decide_eq_true h1), List.length_cons]
    have nil : (r.map (·.1)).filter (fun c => decide (c ≤ pos)) = [] := by
      apply List.filter_eq_nil_iff.mpr
      intro c hc
      obtain ⟨y, hy, rfl⟩ := List.mem_map.mp hc
      have := p.1 y hy
      rw [decide_eq_true_eq]
      omega
    rw [nil]
    rfl
  | x :: r, j + 1, q, asc, ok, e, h1, h2 => by
    have p := List.pairwise_cons.mp asc
    have e' : r[j]? = some q := e
    have := p.1 q (List.mem_of_getElem? e')
    have := ok x List.mem_cons_self
    rw [List.map_cons, List.filter_cons, if_pos (decide_eq_true (by omega)), List.length_cons, cnt_at p.2 (fun z hz => ok z (List.mem_cons_of_mem _ hz)) e' h1 h2]
theorem ix_at {row : List (Int × Int)} (g : Good row) {pos : Int} {j : Nat} {q : Int × Int} (e : (blocksOf row)[j]? = some q) (h1 : q.1 ≤ pos) (h2 : pos ≤ q.2) : ixI row pos = j ∧ 0 < depI row pos := by
  have B := blocks_bl g
  have mq := List.mem_of_getElem? e
  have oq := B.ok q mq
  refine ⟨?_, ?_⟩
  · unfold ixI lowsOf
    rw [cnt_at B.asc (fun z hz => (B.ok z hz).2.1) e h1 h2]
    omega
  · obtain ⟨p, rfl⟩ : ∃ p : Nat, pos = p := ⟨pos.toNat, by omega⟩
    exact (B.cov p (by omega)).mpr ⟨q, mq, h1, h2⟩
theorem dep_in {row : List (Int × Int)} (g : Good row) {pos : Int} (h : 0 < depI row pos) : ∃ q ∈ blocksOf row, q.1 ≤ pos ∧ pos ≤ q.2 := by
  obtain ⟨r, hr, w⟩ := dep_pos.mp h
  have := g r hr
  have := topN_le hr
  obtain ⟨p, rfl⟩ : ∃ p : Nat, pos = p := ⟨pos.toNat, by omega⟩
  exact ((blocks_bl g).cov p (by omega)).mp h
theorem Bl.idx {row : List (Int × Int)} {N : Nat} {l : List (Int × Int)} (B : Bl row N l) {i j : Nat} {a b : Int × Int} (ij : i < j) (ea : l[i]? = some a) (eb : l[j]? = some b) : a.2 < b.1 := by
  obtain ⟨hi, rfl⟩ := List.getElem?_eq_some_iff.mp ea
  obtain ⟨hj, rfl⟩ := List.getElem?_eq_some_iff.mp eb
  exact List.pairwise_iff_getElem.mp B.asc i j hi hj ij
theorem low_at {row : List (Int × Int)} (g : Good row) {q : Int × Int} (hq : q ∈ row) : ∃ (j : Nat) (b : Int × Int), (blocksOf row)[j]? = some b ∧ b.1 = q.1 := by
  have B := blocks_bl g
  have gq := g q hq
  have tq := topN_le hq
  have d : 0 < depI row q.1 := dep_pos.mpr ⟨q, hq, Int.le_refl _, gq.2⟩
  have bd : Bd row q.1 := ⟨q, hq, .inl rfl⟩
  have m : q.1 ∈ (blocksOf row).map (·.1) := by
    rw [B.fst]
    refine List.mem_map.mpr ⟨q.1.toNat, List.mem_filter.mpr ⟨List.mem_range.mpr (by omega), ?_⟩, by omega⟩
    have c : ((q.1.toNat : Nat) : Int) = q.1 := by omega
    unfold stB
    rw [c]
    exact Bool.and_eq_true_iff.mpr ⟨decide_eq_true d, decide_eq_true bd⟩
  obtain ⟨b, hb, e⟩ := List.mem_map.mp m
  obtain ⟨j, ej⟩ := List.getElem?_of_mem hb
  exact ⟨j, b, ej, e⟩
/-- no border lies within a block -/
theorem Bl.inner {row : List (Int × Int)} {N : Nat} {l : List (Int × Int)} (B : Bl row N l) {q : Int × Int} (hq : q ∈ l) {p : Int} (h1 : q.1 < p) (h2 : p ≤ q.2) : ¬ Bd row p := by
  intro bd
  have oq := B.ok q hq
  have c : ((p.toNat : Nat) : Int) = p := by omega
  have d : 0 < depI row p := by
    have z := (B.cov p.toNat (by omega)).mpr ⟨q, hq, by omega, by omega⟩
    rw [c] at z
    exact z
  have m : p ∈ l.map (·.1) := by
    rw [B.fst]
    refine List.mem_map.mpr ⟨p.toNat, List.mem_filter.mpr ⟨List.mem_range.mpr (by omega), ?_⟩, by omega⟩
    unfold stB
    rw [c]
    exact Bool.and_eq_true_iff.mpr ⟨decide_eq_true d, decide_eq_true bd⟩
  obtain ⟨r, hr, e⟩ := List.mem_map.mp m
  obtain ⟨i, ei⟩ := List.getElem?_of_mem hq
  obtain ⟨j, ej⟩ := List.getElem?_of_mem hr
  rcases Nat.lt_trichotomy i j with z | z | z
  · have := B.idx z ei ej
    omega
  · subst z
    rw [ei] at ej
    cases ej
    omega
  · have := B.idx z ej ei
    have := B.ok r hr
    omega
theorem high_at {row : List (Int × Int)} (g : Good row) {q : Int × Int} (hq : q ∈ row) : ∃ (j : Nat) (b : Int × Int), (blocksOf row)[j]? = some b ∧ b.2 = q.2 ∧ b.1 ≤ q.2 := by
  have B := blocks_bl g
  have gq := g q hq
  obtain ⟨b, hb, w1, w2⟩ := dep_in g (dep_pos.mpr ⟨q, hq, gq.2, Int.le_refl _⟩)
  obtain ⟨j, ej⟩ := List.getElem?_of_mem hb
  refine ⟨j, b, ej, ?_, w1⟩
  rcases Int.lt_or_le q.2 b.2 with z | z
  · exact absurd ⟨q, hq, .inr rfl⟩ (B.inner hb (p := q.2 + 1) (by omega) (by omega))
  · omega
theorem nodup_sub {α : Type} [DecidableEq α] : ∀ {l m : List α}, l.Nodup → (∀ x ∈ l, x ∈ m) → l.length ≤ m.length
  | [], _, _, _ => Nat.zero_le _
  | a :: l, m, h, hs => by
    have hm := hs a List.mem_cons_self
    have h' := List.nodup_cons.mp h
    have ih := nodup_sub (l := l) (m := m.erase a) h'.2 (fun x hx => (List.mem_erase_of_ne (fun e => h'.1 (by rw [← e]; exact hx))).mpr (hs x (List.mem_cons_of_mem _ hx)))
    rw [List.length_erase_of_mem hm] at ih
    have := List.length_pos_of_mem hm
    rw [List.length_cons]
    omega
theorem blocks_few {row : List (Int × Int)} (g : Good row) : (blocksOf row).length ≤ 2 * row.length := by
  have B := blocks_bl g
  have nd : ((blocksOf row).map (·.1)).Nodup := by
    rw [B.fst]
    refine List.Pairwise.map _ (fun a b h e => h (Int.ofNat.inj e)) ((List.nodup_range).filter _)
  have z := nodup_sub (m := row.map (·.1) ++ row.map (fun q => q.2 + 1)) nd (fun c hc => by
    rw [B.fst] at hc
    obtain ⟨n, hn, rfl⟩ := List.mem_map.mp hc
    obtain ⟨q, hq, w⟩ := of_decide_eq_true (Bool.and_eq_true_iff.mp (List.mem_filter.mp hn).2).2
    rcases w with w | w
    · exact List.mem_append_left _ (List.mem_map.mpr ⟨q, hq, w⟩)
    · exact List.mem_append_right _ (List.mem_map.mpr ⟨q, hq, w⟩))
  rw [List.length_map, List.length_append, List.length_map, List.length_map] at z
  omega


/-! ### the program's find_blocks -/
structure Dd (row : List (Int × Int)) (kvs : List (Key × V)) : Prop where
  val : ∀ k : Int, valV kvs (Sum.inl k) = if Bd row k then some (.int (delI row k)) else none
  nd : (kvs.map (·.1)).Nodup
  keys : ∃ ks : List Int, kvs.map (·.1) = ks.map Sum.inl
  len : kvs.length ≤ 2 * row.length
theorem keys_put (kvs : List (Key × V)) (k : Key) (v : V) : ((putK kvs k v).map (·.1) = kvs.map (·.1) ∧ k ∈ kvs.map (·.1)) ∨ ((putK kvs k v).map (·.1) = kvs.map (·.1) ++ [k] ∧ k ∉ kvs.map (·.1)) := by
  cases e : valV kvs k with
  | none =>
    refine .inr ⟨?_, valV_not e⟩
    rw [putK_new v e, List.map_append]
    rfl
  | some u =>
    refine .inl ⟨?_, valV_in e⟩
    have h : (kvs.any fun kv => decide (kv.1 = k)) = true := by
      rw [valV_any, e]
      rfl
    unfold putK
    rw [if_pos h, List.map_map]
    apply List.map_congr_left
    intro p _
    show (if p.1 = k then (p.1, v) else p).1 = p.1
    split <;> rfl
theorem put_parts {kvs : List (Key × V)} {k : Int} {v : V} (nd : (kvs.map (·.1)).Nodup) (keys : ∃ ks : List Int, kvs.map (·.1) = ks.map Sum.inl) :
    ((putK kvs (Sum.inl k) v).map (·.1)).Nodup ∧ (∃ ks : List Int, (putK kvs (Sum.inl k) v).map (·.1) = ks.map Sum.inl) ∧ (putK kvs (Sum.inl k) v).length ≤ kvs.length + 1 := by
  obtain ⟨ks, ek⟩ := keys
  rcases keys_put kvs (Sum.inl k) v with ⟨e, _⟩ | ⟨e, hn⟩
  · refine ⟨by rw [e]; exact nd, ⟨ks, by rw [e, ek]⟩, ?_⟩
    have l := congrArg List.length e
    rw [List.length_map, List.length_map] at l
    omega
  · refine ⟨?_, ⟨ks ++ [k], by rw [e, ek, List.map_append]; rfl⟩, ?_⟩
    · rw [e]
      exact List.nodup_append.mpr ⟨nd, by simp, fun a ha b hb z => hn (by rw [List.mem_singleton.mp hb] at z; rw [← z]; exact ha)⟩
    · have l := congrArg List.length e
      rw [List.length_map, List.length_append, List.length_map] at l
      simp at l
      omega
theorem bd_snoc {row : List (Int × Int)} {q : Int × Int} {k : Int} : Bd (row ++ [q]) k ↔ Bd row k ∨ q.1 = k ∨ q.2 + 1 = k := by
  constructor
  · rintro ⟨x, hx, h⟩
    rcases List.mem_append.mp hx with hx | hx
    · exact .inl ⟨x, hx, h⟩
    · rw [List.mem_singleton.mp hx] at h
      exact .inr h
  · rintro (⟨x, hx, h⟩ | h)
    · exact ⟨x, List.mem_append_left _ hx, h⟩
    · exact ⟨q, List.mem_append_right _ (List.mem_singleton.mpr rfl), h⟩
theorem del_snoc (row : List (Int × Int)) (q : Int × Int) (k : Int) : delI (row ++ [q]) k = delI row k + ((if q.1 = k then (1 : Int) else 0) - (if q.2 + 1 = k then 1 else 0)) := by
  unfold delI
  rw [List.map_append, List.sum_append, List.map_singleton, List.sum_singleton]
theorem Dd.get {row : List (Int × Int)} {kvs : List (Key × V)} (h : Dd row kvs) (k : Int) : (valV kvs (Sum.inl k)).getD (.int 0) = .int (delI row k) := by
  rw [h.val]
  by_cases b : Bd row k
  · rw [if_pos b]
    rfl
  · rw [if_neg b, del_zero b]
    rfl
theorem Dd.step {row : List (Int × Int)} {kvs : List (Key × V)} (h : Dd row kvs) {x y : Int} (xy : x ≤ y) :
    Dd (row ++ [(x, y)]) (putK (putK kvs (Sum.inl x) (.int (delI row x + 1))) (Sum.inl (y + 1)) (.int (delI row (y + 1) - 1))) := by
  obtain ⟨n1, k1, l1⟩ := put_parts (k := x) (v := .int (delI row x + 1)) h.nd h.keys
  obtain ⟨n2, k2, l2⟩ := put_parts (k := y + 1) (v := .int (delI row (y + 1) - 1)) n1 k1
  refine ⟨fun k => ?_, n2, k2, ?_⟩
  · rw [valV_put, valV_put, h.val]
    by_cases e1 : k = y + 1
    · have b : Bd (row ++ [(x, y)]) k := bd_snoc.mpr (.inr (.inr e1.symm))
      rw [if_pos (by rw [e1]), if_pos b, del_snoc, e1, if_neg (show ¬ x = y + 1 by omega), if_pos rfl]
      congr 2
    · rw [if_neg (fun z => e1 (Sum.inl.inj z))]
      by_cases e2 : k = x
      · have b : Bd (row ++ [(x, y)]) k := bd_snoc.mpr (.inr (.inl e2.symm))
        rw [if_pos (by rw [e2]), if_pos b, del_snoc, e2, if_pos rfl, if_neg (show ¬ y + 1 = x by omega)]
        congr 2
      · rw [if_neg (fun z => e2 (Sum.inl.inj z))]
        have same : delI (row ++ [(x, y)]) k = delI row k := by
          rw [del_snoc, if_neg (fun z => e2 z.symm), if_neg (fun z => e1 z.symm)]
          omega
        by_cases b : Bd row k
        · rw [if_pos b, if_pos (bd_snoc.mpr (.inl b)), same]
        · rw [if_neg b, if_neg (fun z => (bd_snoc.mp z).elim b (fun w => w.elim (fun w => e2 w.symm) (fun w => e1 w.symm)))]
  · rw [List.length_append, List.length_singleton]
    have := h.len
    omega
def sp_depth_changes : Sp := fun vs H Q _ => ∃ (a : Addr) (us : List V) (row : List (Int × Int)), vs = [.ref a] ∧ H a = some (.tup us) ∧ Ivs H us row ∧ (∀ q ∈ row, q.1 ≤ q.2) ∧ row.length ≤ 100 ∧
  ∀ H' p kvs, Same H H' → H p = none → H' p = some (.dK kvs) → Dd row kvs → Q (.ref p) H'
theorem ok_depth_changes (T : Tx K mg f_depth_changes f_find_blocks f_is_number f_is_position f_is_tuple_of f_is_interval f_has_position f_contains f_is_demand f_serves f_conflict f_is_independent f_demands_at_blocks f_is_open f_open_demands f_pieces_inside f_first_gap f_find_missing f_without_item f_require_generated f_can_spare f_prune_pieces f_law_deck f_law_draw f_law_line f_law_interval f_law_intervals f_law_conflict f_law_independent f_law_completions f_law_right f_law d_depth_changes d_find_blocks d_is_number d_is_position d_is_tuple_of d_is_interval d_has_position d_contains d_is_demand d_serves d_conflict d_is_independent d_demands_at_blocks d_is_open d_open_demands d_pieces_inside d_first_gap d_find_missing d_without_item d_require_generated d_can_spare d_prune_pieces d_law_deck d_law_draw d_law_line d_law_interval d_law_intervals d_law_conflict d_law_independent d_law_completions d_law_right d_law t_LAST_POSITION) : FnOk P w K mg base CX0 1 f_depth_changes d_depth_changes ["intervals"] sp_depth_changes := by
  refine T.F_depth_changes.ok sc_depth_changes (fun vs H Q E h => ?_) (fun cdv A outer s H vs Q E hr h => ?_)
  · obtain ⟨a, us, row, rfl, _⟩ := h
    rfl
  · obtain ⟨a, us, row, rfl, ha, iv, xy, few, q⟩ := h
    refine ⟨_, (pss_cons (ps_set (i := 1) sc_depth_changes.nd rfl (Or.inl rfl) pe_dnewK)
      (pss_cons (ps_for PassesOwn.never rfl (pi_tup (pv 0)) (pg_tup rfl (pgs_cons (pg_name (i := 2) sc_depth_changes.nd rfl (Or.inl rfl)) (pgs_cons (pg_name (i := 3) sc_depth_changes.nd rfl (Or.inl rfl)) pgs_nil)))
      (pss_cons (ps_dput (hu_of hr) (pv 1) (pv 2) (pe_op op_add (pe_dget2 (hu_of hr) (pv 1) (pv 2) pe_int ⟨rfl, rfl, rfl, rfl⟩) pe_int) rfl)
      (pss_one (ps_dput (hu_of hr) (pv 1) (pe_op op_add (pv 3) pe_int) (pe_op op_sub (pe_dget2 (hu_of hr) (pv 1) (pe_op op_add (pv 3) pe_int) pe_int ⟨rfl, rfl, rfl, rfl⟩) pe_int) rfl))))
      (pss_one (ps_ret (pv 1))))), ?_⟩
    refine fun p np => ?_
    refine ⟨.ref a, rfl, a, rfl, ⟨_, SqT.of (same_new np _ _ ha)⟩, for_tup (K := K) (a := a) (xs := us) (fun i σ H' => Same H H' ∧ (∃ kvs, H' p = some (.dK kvs) ∧ Dd (row.take i) kvs) ∧ ∃ y2 y3, σ = [some (.ref a), some (.ref p), y2, y3])
      ⟨same_new np, ⟨[], upd_same, ⟨fun k => rfl, List.nodup_nil, ⟨[], rfl⟩, Nat.zero_le _⟩⟩, _, _, rfl⟩ (fun i σ H' _ h => SqT.of (h.1 _ _ ha)) ?_ ?_⟩
    · rintro i v σ H1 hi ⟨sm, ⟨kvs, ep, dd⟩, y2, y3, rfl⟩
      obtain ⟨b, x, y, rfl, er, eb⟩ := iv.get hi
      have le := xy _ (List.mem_of_getElem? er)
      have lt := List.length_take_le' i row
      have len := dd.len
      refine ⟨b, _, rfl, SqT.of (sm _ _ eb), rfl, .int x, [.int y], rfl, .int y, [], rfl, rfl, ?_⟩
      refine ⟨.ref p, rfl, p, rfl, .inl ⟨kvs, .inl ep⟩, .int x, rfl, _, DGet.k (k := Sum.inl x) ep, _, _, dd.get x, rfl, .ref p, rfl, .int x, rfl, p, _, rfl, DPut.k (k := Sum.inl x) ep (small1000 (by omega)), ?_⟩
      have e1 := upd_same (H := H1) (a := p) (o := .dK (putK kvs (Sum.inl x) (.int (delI (row.take i) x + 1))))
      have g1 : (valV (putK kvs (Sum.inl x) (.int (delI (row.take i) x + 1))) (Sum.inl (y + 1))).getD (.int 0) = .int (delI (row.take i) (y + 1)) := by
        rw [valV_put, if_neg (fun z => by
          have z' := Sum.inl.inj z
          have le' : x ≤ y := le
          omega)]
        exact dd.get (y + 1)
      obtain ⟨_, _, l1⟩ := put_parts (k := x) (v := .int (delI (row.take i) x + 1)) dd.nd dd.keys
      refine ⟨.ref p, rfl, p, rfl, .inl ⟨_, .inl e1⟩, .int y, rfl, _, _, rfl, rfl, _, DGet.k (k := Sum.inl (y + 1)) e1, _, _, g1, rfl, .ref p, rfl, .int y, rfl, _, _, rfl, rfl, p, _, rfl, DPut.k (k := Sum.inl (y + 1)) e1 (small1000 (by omega)), ?_⟩
      refine ⟨fun b' o eb' => ?_, ⟨_, upd_same, ?_⟩, _, _, rfl⟩
      · have nb := ne_of_none eb' np
        rw [upd_ne nb, upd_ne nb]
        exact sm _ _ eb'
      · rw [List.take_add_one, er]
        exact dd.step le
    · rintro σ H1 ⟨sm, ⟨kvs, ep, dd⟩, y2, y3, rfl⟩
      rw [iv.length, List.take_length] at dd
      exact ⟨.ref p, rfl, q _ p kvs sm np ep dd⟩

structure Bs (row : List (Int × Int)) (bs : List Int) : Prop where
  mem : ∀ k, k ∈ bs ↔ Bd row k
  srt : bs.Pairwise (· < ·)
theorem Bs.lt {row : List (Int × Int)} {bs : List Int} (h : Bs row bs) {i j : Nat} {a b : Int} (ij : i < j) (ea : bs[i]? = some a) (eb : bs[j]? = some b) : a < b := by
  obtain ⟨hi, rfl⟩ := List.getElem?_eq_some_iff.mp ea
  obtain ⟨hj, rfl⟩ := List.getElem?_eq_some_iff.mp eb
  exact List.pairwise_iff_getElem.mp h.srt i j hi hj ij
theorem Bs.gap {row : List (Int × Int)} {bs : List Int} (h : Bs row bs) {i : Nat} {a b : Int} (ea : bs[i]? = some a) (eb : bs[i + 1]? = some b) : ∀ j : Int, a < j → j < b → ¬ Bd row j := by
  intro j h1 h2 hb
  obtain ⟨m, hm⟩ := List.getElem?_of_mem ((h.mem j).mpr hb)
  rcases Nat.lt_trichotomy m i with z | z | z
  · have := h.lt z hm ea
    omega
  · subst z
    rw [ea] at hm
    cases hm
    omega
  · rcases Nat.lt_or_ge (i + 1) m with z2 | z2
    · have := h.lt z2 eb hm
      omega
    · have z3 : m = i + 1 := by omega
      subst z3
      rw [eb] at hm
      cases hm
      omega
theorem Bs.first {row : List (Int × Int)} {bs : List Int} (h : Bs row bs) {a : Int} (ea : bs[0]? = some a) {k : Int} (hb : Bd row k) : a ≤ k := by
  obtain ⟨m, hm⟩ := List.getElem?_of_mem ((h.mem k).mpr hb)
  rcases Nat.lt_or_ge 0 m with z | z
  · have := h.lt z ea hm
    omega
  · have z2 : m = 0 := by omega
    subst z2
    rw [ea] at hm
    cases hm
    exact Int.le_refl _
theorem Bs.last {row : List (Int × Int)} {bs : List Int} (h : Bs row bs) {i : Nat} {a : Int} (ea : bs[i]? = some a) (hi : i + 1 = bs.length) {k : Int} (hb : Bd row k) : k ≤ a := by
  obtain ⟨m, hm⟩ := List.getElem?_of_mem ((h.mem k).mpr hb)
  have hl := (List.getElem?_eq_some_iff.mp hm).1
  rcases Nat.lt_or_ge m i with z | z
  · have := h.lt z hm ea
    omega
  · have z2 : m = i := by omega
    subst z2
    rw [ea] at hm
    cases hm
    exact Int.le_refl _
theorem Dd.bs {row : List (Int × Int)} {kvs : List (Key × V)} (dd : Dd row kvs) {ks bs : List Int} (ek : kvs.map (·.1) = ks.map Sum.inl) (perm : bs.Perm ks) (srt : bs.Pairwise (· ≤ ·)) : Bs row bs := by
  have ndk : ks.Nodup := by
    have z := dd.nd
    rw [ek] at z
    exact List.Pairwise.of_map Sum.inl (fun a b h e => h (by rw [e])) z
  have ndb : bs.Nodup := perm.nodup_iff.mpr ndk
  refine ⟨fun k => ?_, ?_⟩
  · rw [perm.mem_iff]
    constructor
    · intro hk
      have hm : (Sum.inl k : Key) ∈ kvs.map (·.1) := by
        rw [ek]
        exact List.mem_map.mpr ⟨k, hk, rfl⟩
      by_cases b : Bd row k
      · exact b
      · have v := dd.val k
        rw [if_neg b] at v
        exact absurd hm (valV_not v)
    · intro b
      have v := dd.val k
      rw [if_pos b] at v
      have hm := valV_in v
      rw [ek] at hm
      obtain ⟨j, hj, e⟩ := List.mem_map.mp hm
      rw [← Sum.inl.inj e]
      exact hj
  · refine (srt.and ndb).imp fun {a b} h => ?_
    have h1 := h.1
    have h2 := h.2
    omega
theorem Cb_next {row : List (Int × Int)} (g : Good row) {bs : List Int} (h : Bs row bs) {i : Nat} {a b : Int} (ea : bs[i]? = some a) (eb : bs[i + 1]? = some b) (a0 : 0 ≤ a) :
    Cb row b.toNat = (if 0 < depI row a then Cb row a.toNat ++ [(a, b - 1)] else Cb row a.toNat) ∧ depI row (b - 1) = depI row a := by
  have ab := h.lt (Nat.lt_succ_self i) ea eb
  have gap := h.gap ea eb
  have hb : Bd row a := (h.mem a).mp (List.mem_of_getElem? ea)
  have ca : ((a.toNat : Nat) : Int) = a := by omega
  have seg := Cb_seg g (a := a.toNat) (b - a - 1).toNat (fun j h1 h2 => gap j (by omega) (by omega))
  have e : a.toNat + (b - a - 1).toNat + 1 = b.toNat := by omega
  rw [e, ca, if_pos hb, show a + ((b - a - 1).toNat : Int) = b - 1 by omega] at seg
  refine ⟨seg, ?_⟩
  have dc := dep_const g (a := a) (b - a - 1).toNat (fun j h1 h2 => gap j h1 (by omega))
  rw [show a + ((b - a - 1).toNat : Int) = b - 1 by omega] at dc
  exact dc
def atB (row : List (Int × Int)) (bs : List Int) (i : Nat) : List (Int × Int) := match bs[i]? with
  | some b => Cb row b.toNat
  | none => []
def depB (row : List (Int × Int)) (bs : List Int) (i : Nat) : Int := match bs[i]? with
  | some b => depI row (b - 1)
  | none => 0
theorem atB_some {row : List (Int × Int)} {bs : List Int} {i : Nat} {b : Int} (e : bs[i]? = some b) : atB row bs i = Cb row b.toNat := by
  unfold atB
  rw [e]
theorem depB_some {row : List (Int × Int)} {bs : List Int} {i : Nat} {b : Int} (e : bs[i]? = some b) : depB row bs i = depI row (b - 1) := by
  unfold depB
  rw [e]
theorem atB_start {row : List (Int × Int)} (g : Good row) {bs : List Int} (h : Bs row bs) : atB row bs 0 = [] ∧ depB row bs 0 = 0 := by
  cases e : bs[0]? with
  | none =>
    unfold atB depB
    rw [e]
    exact ⟨rfl, rfl⟩
  | some b =>
    rw [atB_some e, depB_some e]
    have low : ∀ q ∈ row, b ≤ q.1 := fun q hq => h.first e ⟨q, hq, .inl rfl⟩
    have b0 : 0 ≤ b := by
      obtain ⟨q, hq, w⟩ := (h.mem b).mp (List.mem_of_getElem? e)
      have := g q hq
      omega
    refine ⟨Cb_low fun q hq => ?_, dep_zero fun q hq => .inl ?_⟩
    · have := low q hq
      omega
    · have := low q hq
      omega
theorem atB_end {row : List (Int × Int)} (g : Good row) {bs : List Int} (h : Bs row bs) {i : Nat} (hi : i = bs.length - 1) : atB row bs i = blocksOf row := by
  cases e : bs[i]? with
  | none =>
    have le := List.getElem?_eq_none_iff.mp e
    have nil : bs = [] := by
      cases bs with
      | nil => rfl
      | cons x r =>
        rw [List.length_cons] at hi le
        omega
    have rn : row = [] := by
      cases row with
      | nil => rfl
      | cons q r =>
        have z := (h.mem q.1).mpr ⟨q, List.mem_cons_self, .inl rfl⟩
        rw [nil] at z
        cases z
    unfold atB
    rw [e, rn]
    rfl
  | some b =>
    have lt := (List.getElem?_eq_some_iff.mp e).1
    rw [atB_some e]
    apply Cb_all
    intro q hq
    have := h.last e (by omega) ⟨q, hq, .inr rfl⟩
    omega
def sp_find_blocks : Sp := fun vs H Q _ => ∃ (a : Addr) (us : List V) (row : List (Int × Int)), vs = [.ref a] ∧ H a = some (.tup us) ∧ Ivs H us row ∧ Good row ∧ row.length ≤ 31 ∧
  ∀ H' p ws, Same H H' → H' p = some (.tup ws) → Ivs H' ws (blocksOf row) → Q (.ref p) H'
theorem cutFrom1 (xs : List V) : cutV xs (some 1) none = xs.drop 1 := by
  unfold cutV
  rw [show HT.sIx xs.length 0 (some 1) = min 1 xs.length from HT.sIx_nat xs.length 0 1, HT.sIx_none]
  cases xs with
  | nil => rfl
  | cons x r =>
    rw [List.length_cons, show min 1 (r.length + 1) = 1 by omega]
    show List.take (r.length + 1 - 1) r = r
    rw [Nat.add_sub_cancel]
    exact List.take_length
theorem ok_find_blocks (T : Tx K mg f_depth_changes f_find_blocks f_is_number f_is_position f_is_tuple_of f_is_interval f_has_position f_contains f_is_demand f_serves f_conflict f_is_independent f_demands_at_blocks f_is_open f_open_demands f_pieces_inside f_first_gap f_find_missing f_without_item f_require_generated f_can_spare f_prune_pieces f_law_deck f_law_draw f_law_line f_law_interval f_law_intervals f_law_conflict f_law_independent f_law_completions f_law_right f_law d_depth_changes d_find_blocks d_is_number d_is_position d_is_tuple_of d_is_interval d_has_position d_contains d_is_demand d_serves d_conflict d_is_independent d_demands_at_blocks d_is_open d_open_demands d_pieces_inside d_first_gap d_find_missing d_without_item d_require_generated d_can_spare d_prune_pieces d_law_deck d_law_draw d_law_line d_law_interval d_law_intervals d_law_conflict d_law_independent d_law_completions d_law_right d_law t_LAST_POSITION) : FnOk P w K mg base CX0 2 f_find_blocks d_find_blocks ["intervals"] sp_find_blocks := by
  refine T.F_find_blocks.ok sc_find_blocks (fun vs H Q E h => ?_) (fun cdv A outer s H vs Q E hr h => ?_)
  · obtain ⟨a, us, row, rfl, _⟩ := h
    rfl
  · obtain ⟨a, us, row, rfl, ha, iv, good, few, q⟩ := h
    refine ⟨_, (pss_cons (ps_set (i := 1) sc_find_blocks.nd rfl (Or.inl rfl) (pe_call (ok_depth_changes T) (hr.mono (by decide)) (by rfl) T.g_depth_changes T.F_depth_changes.kp T.b_depth_changes .nil pass0 (pa_cons (pv 0) pa_nil)))
      (pss_cons (ps_set (i := 2) sc_find_blocks.nd rfl (Or.inl rfl) (pe_callB (call_sortedDI rfl) (by rfl) T.z_sorted (by decide +kernel) (pa_cons (pv 1) pa_nil)))
      (pss_cons (ps_set (i := 3) sc_find_blocks.nd rfl (Or.inl rfl) (pe_lst pa_nil))
      (pss_cons (ps_set (i := 4) sc_find_blocks.nd rfl (Or.inl rfl) pe_int)
      (pss_cons (ps_for PassesOwn.never rfl (pi_zip (by rfl) T.z_zip (pa_cons (pv 2) (pa_cons (pe_slice sl_list (pv 2) (po_some pe_int) po_none) pa_nil))) (pg_tup rfl (pgs_cons (pg_name (i := 5) sc_find_blocks.nd rfl (Or.inl rfl)) (pgs_cons (pg_name (i := 6) sc_find_blocks.nd rfl (Or.inl rfl)) pgs_nil)))
      (pss_cons (ps_aug (i := 4) sc_find_blocks.nd rfl (Or.inl rfl) (pe_dget (hu_of hr) (pv 1) (pv 5) (fun _ _ => rfl)) ip_add)
      (pss_one (ps_if (pt_cmpR op_gt (pv 4) pe_int (nomark _))
      (pss_one (ps_expr (pe_bm PySem.F.plainAttrs_list PySem.F.slot_list_append PySem.F.type_list_append mt_append (pv 3) (pa_cons (pe_tup (pa_cons (pv 5) (pa_cons (pe_op op_sub (pv 6) pe_int) pa_nil))) pa_nil))))
      pss_nil))))
      (pss_one (ps_ret (pe_callTy call_tuple_of (by rfl) T.z_tuple (by decide +kernel) (pa_cons (pv 3) pa_nil))))))))), ?_⟩
    refine ⟨.ref a, rfl, a, us, row, rfl, ha, iv, fun x hx => (good x hx).2, by omega, fun H1 pc kvs s1 npc ec dd => ?_⟩
    obtain ⟨ks, ek⟩ := dd.keys
    have lk : kvs.length = ks.length := by
      have z := congrArg List.length ek
      rw [List.length_map, List.length_map] at z
      exact z
    have dl := dd.len
    refine ⟨.ref pc, rfl, pc, kvs, ks, rfl, .inl ec, ek, by omega, fun bs pb perm srt npb => ?_⟩
    have hB := dd.bs ek perm srt
    have lb : bs.length = ks.length := perm.length_eq
    have s2 := same_new (o := .lst (bs.map V.int)) npb
    have eb := upd_same (H := H1) (a := pb) (o := .lst (bs.map V.int))
    generalize upd H1 pb (.lst (bs.map V.int)) = H2 at *
    refine ⟨by show 0 ≤ sizeLine; decide, fun pl npl => ?_⟩
    have nbl : pb ≠ pl := ne_of_none eb npl
    have ncl : pc ≠ pl := ne_of_none (s2 _ _ ec) npl
    have npl0 : H pl = none := (s1.trans s2).free npl
    have s3 := same_new (o := .lst []) npl
    have el := upd_same (H := H2) (a := pl) (o := .lst [])
    generalize upd H2 pl (.lst []) = H3 at *
    refine ⟨.ref pb, rfl, .ref pb, rfl, 1, rfl, pb, _, rfl, SqL.of (s3 _ _ eb), fun pz npz => ?_⟩
    rw [cutFrom1]
    have nlz : pl ≠ pz := ne_of_none el npz
    have s4 := same_new (o := .lst ((bs.map V.int).drop 1)) npz
    have ez := upd_same (H := H3) (a := pz) (o := .lst ((bs.map V.int).drop 1))
    generalize upd H3 pz (.lst ((bs.map V.int).drop 1)) = H4 at *
    replace eb := s4 _ _ (s3 _ _ eb)
    replace ec := s4 _ _ (s3 _ _ (s2 _ _ ec))
    replace el := s4 _ _ el
    have sm4 : Same H H4 := s1.trans (s2.trans (s3.trans s4))
    obtain ⟨st1, st2⟩ := atB_start good hB
    refine ⟨pb, pz, bs.map V.int, (bs.map V.int).drop 1, rfl, SqL.of eb, SqL.of ez, ?_⟩
    refine ⟨fun i m σ H' => i + m = bs.length - 1 ∧ Same H H' ∧ H' pb = some (.lst (bs.map V.int)) ∧ H' pz = some (.lst ((bs.map V.int).drop 1)) ∧ H' pc = some (.dK kvs) ∧ (∃ ws, H' pl = some (.lst ws) ∧ ws.length ≤ i ∧ Ivs H' ws (atB row bs i)) ∧
        ∃ y5 y6, σ = [some (.ref a), some (.ref pc), some (.ref pb), some (.ref pl), some (.int (depB row bs i)), y5, y6],
      ⟨bs.length - 1, by omega, sm4, eb, ez, ec, ⟨[], el, Nat.zero_le _, by rw [st1]; exact .nil⟩, none, none, by rw [st2]; rfl⟩, fun i m σ H5 hW => ?_⟩
    obtain ⟨em, sm, fb, fz, fc, ⟨ws, fl, wl, ivw⟩, y5, y6, rfl⟩ := hW
    by_cases hi : i < bs.length - 1
    · obtain ⟨x, ex⟩ : ∃ x, bs[i]? = some x := ⟨bs[i], List.getElem?_eq_getElem (by omega)⟩
      obtain ⟨y, ey⟩ : ∃ y, bs[i + 1]? = some y := ⟨bs[i + 1], List.getElem?_eq_getElem (by omega)⟩
      have g1 : (bs.map V.int)[i]? = some (.int x) := by
        rw [List.getElem?_map, ex]
        rfl
      have g2 : ((bs.map V.int).drop 1)[i]? = some (.int y) := by
        rw [List.getElem?_drop, Nat.add_comm 1 i, List.getElem?_map, ey]
        rfl
      have hbx : Bd row x := (hB.mem x).mp (List.mem_of_getElem? ex)
      have x0 : 0 ≤ x := by
        obtain ⟨r, hr1, w1⟩ := hbx
        have := good r hr1
        omega
      obtain ⟨cn, dn⟩ := Cb_next good hB ex ey x0
      have hval : valV kvs (Sum.inl x) = some (.int (delI row x)) := by
        rw [dd.val, if_pos hbx]
      refine .inr ⟨⟨_, _, _, _, SqL.of fb, SqL.of fz, g1, g2⟩, fun σ' H' => Same H H' ∧ H' pb = some (.lst (bs.map V.int)) ∧ H' pz = some (.lst ((bs.map V.int).drop 1)) ∧ H' pc = some (.dK kvs) ∧ (∃ ws, H' pl = some (.lst ws) ∧ ws.length ≤ i + 1 ∧ Ivs H' ws (atB row bs (i + 1))) ∧
          ∃ y5 y6, σ' = [some (.ref a), some (.ref pc), some (.ref pb), some (.ref pl), some (.int (depB row bs (i + 1))), y5, y6], fun σ' H' hN => ?_, fun z H' hy => ?_⟩
      · obtain ⟨n1, n2, n3, n4, n5, n6⟩ := hN
        exact ⟨m - 1, by omega, by omega, n1, n2, n3, n4, n5, n6⟩
      · obtain ⟨tt, x1, x2, rfl, nT, rfl, f1, f2⟩ := hy
        have ex1 : x1 = .int x := Option.some.inj ((f1 _ (SqL.of fb)).symm.trans g1)
        have ex2 : x2 = .int y := Option.some.inj ((f2 _ (SqL.of fz)).symm.trans g2)
        subst ex1 ex2
        have sT := same_new (o := .tup [.int x, .int y]) nT
        have eT := upd_same (H := H5) (a := tt) (o := .tup [.int x, .int y])
        generalize upd H5 tt (.tup [.int x, .int y]) = H6 at *
        refine ⟨tt, _, rfl, SqT.of eT, rfl, .int x, [.int y], rfl, .int y, [], rfl, rfl, ?_⟩
        have dg := DGet.k (k := Sum.inl x) (sT _ _ fc)
        rw [hval] at dg
        refine ⟨_, rfl, .ref pc, rfl, .int x, rfl, pc, _, rfl, dg, _, _, rfl, rfl, ?_⟩
        have ed : depB row bs i + delI row x = depI row x := by
          rw [depB_some ex]
          exact (dep_step good x).symm
        have ed2 : depB row bs (i + 1) = depI row x := by
          rw [depB_some ey]
          exact dn
        have ea2 : atB row bs (i + 1) = if 0 < depI row x then atB row bs i ++ [(x, y - 1)] else atB row bs i := by
          rw [atB_some ey, atB_some ex]
          exact cn
        refine ⟨_, rfl, _, _, rfl, rfl, _, rfl, ite2 (fun e => ?_) (fun e => ?_)⟩
        · have e1 : 0 < depB row bs i + delI row x := of_decide_eq_true e
          rw [ed] at e1
          refine ⟨.ref pl, rfl, .inl ⟨rfl, _, SqL.of (sT _ _ fl)⟩, .int x, rfl, .int y, rfl, _, _, rfl, rfl, by show 2 ≤ sizeLine; decide, fun t nt => ?_⟩
          have st := same_new (o := .tup [.int x, .int (y - 1)]) nt
          have et := upd_same (H := H6) (a := t) (o := .tup [.int x, .int (y - 1)])
          generalize upd H6 t (.tup [.int x, .int (y - 1)]) = H7 at *
          have fl7 := st _ _ (sT _ _ fl)
          refine ⟨pl, ws, _, rfl, rfl, fl7, small1000 (by omega), ?_⟩
          have up : ∀ {b' : Addr} {o' : HO}, b' ≠ pl → H5 b' = some o' → (upd H7 pl (.lst (ws ++ [.ref t]))) b' = some o' := fun nb e' => by
            rw [upd_ne nb]
            exact st _ _ (sT _ _ e')
          have upI : ∀ {vs : List V} {qs : List (Int × Int)}, Ivs H5 vs qs → Ivs (upd H7 pl (.lst (ws ++ [.ref t]))) vs qs := by
            intro vs qs hv
            induction hv with
            | nil => exact .nil
            | cons e' _ ih => exact .cons (up (ne_of e' fl (fun z => by cases z)) e') ih
          refine ⟨fun b' o' e' => up (ne_of_none e' npl0) (sm _ _ e'), up nbl fb, up nlz.symm fz, up ncl fc, ⟨_, upd_same, ?_, ?_⟩, some (.int x), some (.int y), ?_⟩
          · rw [List.length_append, List.length_singleton]
            omega
          · rw [ea2, if_pos e1]
            refine (upI ivw).snoc ?_
            rw [upd_ne (ne_of et fl7 (fun z => by cases z))]
            exact et
          · rw [ed2, ← ed]
            rfl
        · have e1 : ¬ 0 < depI row x := fun z => e (by
            rw [← ed] at z
            exact decide_eq_true z)
          refine ⟨sm.trans sT, sT _ _ fb, sT _ _ fz, sT _ _ fc, ⟨ws, sT _ _ fl, by omega, ?_⟩, some (.int x), some (.int y), ?_⟩
          · rw [ea2, if_neg e1]
            exact ivw.same sT
          · rw [ed2, ← ed]
            rfl
    · refine .inl ⟨⟨_, _, SqL.of fb, SqL.of fz, .inr ?_⟩, ?_⟩
      · rw [List.length_drop, List.length_map]
        omega
      · have ei : i = bs.length - 1 := by omega
        rw [atB_end good hB ei] at ivw
        refine ⟨.ref pl, rfl, pl, ws, rfl, .inl ⟨SqL.of fl, fun p np => ?_⟩⟩
        exact q _ p ws (sm.trans (same_new np)) upd_same (ivw.same (same_new np))

/-! ### tuples joined and cut, whichever object comes out -/
theorem catA_any {K : PySem.W.Frag} {H : Hp} {a b : Addr} {xs ys : List V} {Q : VK} (h1 : H a = some (.tup xs)) (h2 : H b = some (.tup ys)) (sz : xs.length + ys.length ≤ sizeLine) (k : ∀ H' p, Same H H' → H' p = some (.tup (xs ++ ys)) → Q (.ref p) H') : rCatA K (.ref a) (.ref b) H Q := by
  refine ⟨a, b, xs, ys, rfl, rfl, SqT.of h1, SqT.of h2, sz, fun e => k H b (Same.refl _) ?_, fun _ e => k H a (Same.refl _) ?_, fun _ _ p np => k _ p (same_new np) upd_same⟩
  · rw [e]
    exact h2
  · rw [e, List.append_nil]
    exact h1
theorem slA_any {K : PySem.W.Frag} {H : Hp} {a : Addr} {xs : List V} {lo hi : Option Int} {Q : VK} (h1 : H a = some (.tup xs)) (k : ∀ H' p, Same H H' → H' p = some (.tup (cutV xs lo hi)) → Q (.ref p) H') : rSlA K (.ref a) lo hi H Q := by
  refine ⟨a, xs, rfl, SqT.of h1, fun e => k H a (Same.refl _) ?_, fun _ p np => k _ p (same_new np) upd_same⟩
  have e2 : cutV xs lo hi = xs := by
    unfold cutV
    rw [e.1, e.2]
    simp
  rw [e2]
  exact h1
theorem Ivs.take {H : Hp} {vs : List V} {ps : List (Int × Int)} (h : Ivs H vs ps) : ∀ n : Nat, Ivs H (vs.take n) (ps.take n) := by
  induction h with
  | nil =>
    intro n
    rw [List.take_nil, List.take_nil]
    exact .nil
  | cons e _ ih =>
    intro n
    cases n with
    | zero => exact .nil
    | succ n => exact .cons e (ih n)

/-! ### demands at the beginnings of blocks; open demands -/
def dabT (ts : List (Int × Int)) (x : Int) : List (Int × Int × Int) := (ts.filter fun t => atP t.1 t.2 x).map fun t => (x, t.1, t.2)
def dab (ts bs : List (Int × Int)) : List (Int × Int × Int) := bs.flatMap fun b => dabT ts b.1
theorem dab_snoc {ts bs : List (Int × Int)} {b : Int × Int} : dab ts (bs ++ [b]) = dab ts bs ++ dabT ts b.1 := by
  unfold dab
  rw [List.flatMap_append]
  simp
theorem dab_len {ts : List (Int × Int)} : ∀ {bs : List (Int × Int)}, (dab ts bs).length ≤ bs.length * ts.length
  | [] => Nat.zero_le _
  | b :: bs => by
    have ih := dab_len (ts := ts) (bs := bs)
    unfold dab at ih ⊢
    rw [List.flatMap_cons, List.length_append, List.length_cons, Nat.add_mul]
    have : (dabT ts b.1).length ≤ ts.length := by
      unfold dabT
      rw [List.length_map]
      exact List.length_filter_le _ _
    omega
def sp_demands_at_blocks : Sp := fun vs H Q _ => ∃ (a b : Addr) (us ws : List V) (ts bs : List (Int × Int)), vs = [.ref a, .ref b] ∧ H a = some (.tup us) ∧ H b = some (.tup ws) ∧ Ivs H us ts ∧ Ivs H ws bs ∧ ts.length ≤ 30 ∧ bs.length ≤ 100 ∧
  ∀ H' p zs, Same H H' → H' p = some (.lst zs) → Dms H' zs (dab ts bs) → Q (.ref p) H'
theorem ok_demands_at_blocks (T : Tx K mg f_depth_changes f_find_blocks f_is_number f_is_position f_is_tuple_of f_is_interval f_has_position f_contains f_is_demand f_serves f_conflict f_is_independent f_demands_at_blocks f_is_open f_open_demands f_pieces_inside f_first_gap f_find_missing f_without_item f_require_generated f_can_spare f_prune_pieces f_law_deck f_law_draw f_law_line f_law_interval f_law_intervals f_law_conflict f_law_independent f_law_completions f_law_right f_law d_depth_changes d_find_blocks d_is_number d_is_position d_is_tuple_of d_is_interval d_has_position d_contains d_is_demand d_serves d_conflict d_is_independent d_demands_at_blocks d_is_open d_open_demands d_pieces_inside d_first_gap d_find_missing d_without_item d_require_generated d_can_spare d_prune_pieces d_law_deck d_law_draw d_law_line d_law_interval d_law_intervals d_law_conflict d_law_independent d_law_completions d_law_right d_law t_LAST_POSITION) : FnOk P w K mg base CX0 2 f_demands_at_blocks d_demands_at_blocks ["targets", "blocks"] sp_demands_at_blocks := by
  refine T.F_demands_at_blocks.ok sc_demands_at_blocks (fun vs H Q E h => ?_) (fun cdv A outer s H vs Q E hr h => ?_)
  · obtain ⟨a, b, us, ws, ts, bs, rfl, _⟩ := h
    rfl
  · obtain ⟨a, b, us, ws, ts, bs, rfl, ha, hb, ivt, ivb, lt, lb, q⟩ := h
    have lu := ivt.length
    have lw := ivb.length
    refine ⟨_, (pss_one (ps_ret (pe_lc2 (own := [("low", 2), ("high", 3), ("target", 4)]) (vs1 := [4]) (g := (gTup K 2 (gCons (gName 2) (gCons (gName 3) gNil)))) (g1 := (gName 4)) (tt := tYes) (by rfl) sc_demands_at_blocks.nd (pi_tup (pv 1)) (blkOk_by (own := [("low", 2), ("high", 3), ("target", 4)]) (N := N_demands_at_blocks) (sc := defScope s_demands_at_blocks) (by decide +kernel)) (by decide) (fun _ _ _ _ _ => (pg_tup rfl (pgs_cons (pg_name (i := 2) sc_demands_at_blocks.nd rfl (Or.inl rfl)) (pgs_cons (pg_name (i := 3) sc_demands_at_blocks.nd rfl (Or.inl rfl)) pgs_nil)))) (fun _ _ _ _ _ => pts_nil) (fun _ _ _ _ _ => (pi_tupK (K := K) rfl (pv 0))) (fun _ _ _ _ _ => (pg_name (i := 4) sc_demands_at_blocks.nd rfl (Or.inl rfl))) (fun _ _ _ _ _ => pts_one (pt_val (pe_call (ok_has_position T) (hr.mono (by decide)) (by rfl) T.g_has_position T.F_has_position.kp T.b_has_position .nil pass0 (pa_cons (pv 4) (pa_cons (pv 2) pa_nil))))) (fun _ _ _ _ _ => (pe_tup (pa_cons (pv 2) (pa_cons (pv 4) pa_nil))))))), ?_⟩
    refine ⟨.ref b, rfl, b, rfl, ⟨_, SqT.of hb⟩, fun D nD => ?_⟩
    refine walkT (K := K) (a := b) (xs := ws) (fun i H' => Same H H' ∧ ∃ zs, H' D = some (.lst zs) ∧ Dms H' zs (dab ts (bs.take i))) ⟨same_new nD, [], upd_same, .nil⟩ (fun i H' _ h => SqT.of (h.1 _ _ hb)) ?_ ?_
    · rintro i v H1 hi ⟨s1, zs, eD, dm⟩
      obtain ⟨bb, x, y, rfl, ep, hbb⟩ := ivb.get hi
      have hil := (List.getElem?_eq_some_iff.mp ep).1
      refine ⟨bb, _, rfl, SqT.of (s1 _ _ hbb), rfl, .int x, [.int y], rfl, .int y, [], rfl, rfl, rfl, ?_⟩
      refine ⟨.ref a, rfl, a, rfl, ⟨_, SqT.of (s1 _ _ ha)⟩, ?_⟩
      refine walkT (K := K) (a := a) (xs := us) (fun j H' => Same H H' ∧ ∃ zs, H' D = some (.lst zs) ∧ Dms H' zs (dab ts (bs.take i) ++ dabT (ts.take j) x)) ⟨s1, zs, eD, by show Dms H1 zs (_ ++ []); rw [List.append_nil]; exact dm⟩ (fun j H' _ h => SqT.of (h.1 _ _ ha)) ?_ ?_
      · rintro j v H2 hj ⟨s2, zs2, eD2, dm2⟩
        obtain ⟨tt, lo, hi2, rfl, et, htt⟩ := ivt.get hj
        have hjl := (List.getElem?_eq_some_iff.mp et).1
        have sz : zs2.length < sizeLine := by
          have h1 := dm2.length
          have h2 := dab_len (ts := ts) (bs := bs.take i)
          have h3 : (dabT (ts.take j) x).length ≤ 30 := by
            unfold dabT
            rw [List.length_map]
            exact Nat.le_trans (List.length_filter_le _ _) (Nat.le_trans (List.length_take_le' _ _) lt)
          have h4 : (bs.take i).length ≤ 100 := Nat.le_trans (List.length_take_le' _ _) lb
          have h5 : (bs.take i).length * ts.length ≤ 100 * 30 := Nat.mul_le_mul h4 lt
          rw [List.length_append] at h1
          rw [show sizeLine = 16777216 by decide]
          omega
        refine ⟨rfl, .ref tt, rfl, .int x, rfl, tt, lo, hi2, x, rfl, s2 _ _ htt, _, rfl, ite2 (fun c => ?_) (fun c => ?_)⟩
        · refine ⟨.int x, rfl, .ref tt, rfl, by show 2 ≤ sizeLine; decide, fun t nt => ?_⟩
          have s3 := same_new (o := .tup [.int x, .ref tt]) nt
          have et3 := upd_same (H := H2) (a := t) (o := .tup [.int x, .ref tt])
          have eD3 := s3 _ _ eD2
          have dm3 := dm2.same s3
          have s23 := s2.trans s3
          generalize upd H2 t (.tup [.int x, .ref tt]) = H3 at *
          refine ⟨zs2, eD3, sz, same_off nD s23, _, upd_same, ?_⟩
          have cc : lo ≤ x ∧ x ≤ hi2 := by
            have z := Bool.and_eq_true_iff.mp c
            exact ⟨of_decide_eq_true z.1, of_decide_eq_true z.2⟩
          have e : dabT (ts.take (j + 1)) x = dabT (ts.take j) x ++ [(x, lo, hi2)] := by
            unfold dabT
            rw [take_filter et, if_pos c, List.map_append]
            rfl
          rw [e, ← List.append_assoc]
          exact (dm3.snoc ⟨⟨t, tt, rfl, et3, s23 _ _ htt⟩, cc.1, cc.2⟩).tps (Tps.lst eD3)
        · refine ⟨s2, zs2, eD2, ?_⟩
          have e : dabT (ts.take (j + 1)) x = dabT (ts.take j) x := by
            unfold dabT
            rw [take_filter et, if_neg c, List.append_nil]
          rw [e]
          exact dm2
      · rintro H2 ⟨s2, zs2, eD2, dm2⟩
        refine ⟨s2, zs2, eD2, ?_⟩
        rw [lu, List.take_length] at dm2
        rw [List.take_add_one, ep]
        show Dms H2 zs2 (dab ts (bs.take i ++ [(x, y)]))
        rw [dab_snoc]
        exact dm2
    · rintro H1 ⟨s1, zs, eD, dm⟩
      rw [lw, List.take_length] at dm
      exact q H1 D zs s1 eD dm
def opB (ps : List (Int × Int)) (d : Int × Int × Int) : Bool := !((ps.map fun q => svI q.1 q.2 d.1 d.2.1 d.2.2).any id)
def sp_is_open : Sp := fun vs H Q _ => ∃ (a : Addr) (v : V) (us : List V) (ps : List (Int × Int)) (p lo hi : Int), vs = [.ref a, v] ∧ H a = some (.tup us) ∧ Ivs H us ps ∧ ps.length < 1000 ∧ Dm H v p lo hi ∧
  ∀ H', Same H H' → Q (.bl (opB ps (p, lo, hi))) H'
theorem ok_is_open (T : Tx K mg f_depth_changes f_find_blocks f_is_number f_is_position f_is_tuple_of f_is_interval f_has_position f_contains f_is_demand f_serves f_conflict f_is_independent f_demands_at_blocks f_is_open f_open_demands f_pieces_inside f_first_gap f_find_missing f_without_item f_require_generated f_can_spare f_prune_pieces f_law_deck f_law_draw f_law_line f_law_interval f_law_intervals f_law_conflict f_law_independent f_law_completions f_law_right f_law d_depth_changes d_find_blocks d_is_number d_is_position d_is_tuple_of d_is_interval d_has_position d_contains d_is_demand d_serves d_conflict d_is_independent d_demands_at_blocks d_is_open d_open_demands d_pieces_inside d_first_gap d_find_missing d_without_item d_require_generated d_can_spare d_prune_pieces d_law_deck d_law_draw d_law_line d_law_interval d_law_intervals d_law_conflict d_law_independent d_law_completions d_law_right d_law t_LAST_POSITION) : FnOk P w K mg base CX0 3 f_is_open d_is_open ["pieces", "demand"] sp_is_open := by
  refine T.F_is_open.ok sc_is_open (fun vs H Q E h => ?_) (fun cdv A outer s H vs Q E hr h => ?_)
  · obtain ⟨a, v, us, ps, p, lo, hi, rfl, _⟩ := h
    rfl
  · obtain ⟨a, v, us, ps, p, lo, hi, rfl, ha, iv, few, dm, q⟩ := h
    have lu := iv.length
    obtain ⟨u, t, rfl, e1, e2⟩ := dm.ex
    refine ⟨_, (pss_one (ps_ret (pe_not (pe_callB (cr_any rfl) (by rfl) T.z_any (by decide +kernel) (pa_cons (pe_lc (own := [("piece", 2)]) (g := (gName 2)) (tt := tYes) (by rfl) sc_is_open.nd (pi_tup (pv 0)) (blkOk_by (own := [("piece", 2)]) (N := N_is_open) (sc := defScope s_is_open) (by decide +kernel)) (fun _ _ _ _ _ => (pg_name (i := 2) sc_is_open.nd rfl (Or.inl rfl))) (fun _ _ _ _ _ => pts_nil) (fun _ _ _ _ _ => (pe_call (ok_serves T) (hr.mono (by decide)) (by rfl) T.g_serves T.F_serves.kp T.b_serves .nil pass0 (pa_cons (pv 2) (pa_cons (pv 1) pa_nil))))) pa_nil))))), ?_⟩
    refine ⟨.ref a, rfl, a, rfl, ⟨_, SqT.of ha⟩, fun D nD => ?_⟩
    refine lcT (K := K) (a := a) (xs := us) (fun i H' ws => ws = ((ps.take i).map fun q : Int × Int => svI q.1 q.2 p lo hi).map V.bl) nD (fun H' s => SqT.of (s _ _ ha)) (by omega) (fun _ _ _ _ _ r => r) (fun i H' ws r => by rw [r, List.length_map, List.length_map]; exact List.length_take_le _ _) (fun _ => rfl) ?_ ?_
    · rintro i z H' N acc hi2 sm eD sz r no yes
      obtain ⟨bb, x, y, rfl, ep, hb⟩ := iv.get hi2
      refine ⟨rfl, .ref bb, rfl, .ref u, rfl, bb, u, t, x, y, p, lo, hi, rfl, sm _ _ hb, sm _ _ e1, sm _ _ e2, yes H' _ (Same.refl _) ?_⟩
      rw [r, List.take_add_one, ep, List.map_append, List.map_append]
      rfl
    · intro H1 ws s1 eD r
      rw [lu, List.take_length] at r
      subst r
      exact ⟨D, _, rfl, SqL.of eD, _, rfl, q H1 s1⟩
def sp_open_demands : Sp := fun vs H Q _ => ∃ (a b : Addr) (us ws : List V) (ts ps : List (Int × Int)), vs = [.ref a, .ref b] ∧ H a = some (.tup us) ∧ H b = some (.tup ws) ∧ Ivs H us ts ∧ Ivs H ws ps ∧ Good (ts ++ ps) ∧ ts.length + ps.length ≤ 30 ∧
  ∀ H' p zs, Same H H' → H' p = some (.tup zs) → Dms H' zs ((dab ts (blocksOf (ts ++ ps))).filter (opB ps)) → Q (.ref p) H'
theorem ok_open_demands (T : Tx K mg f_depth_changes f_find_blocks f_is_number f_is_position f_is_tuple_of f_is_interval f_has_position f_contains f_is_demand f_serves f_conflict f_is_independent f_demands_at_blocks f_is_open f_open_demands f_pieces_inside f_first_gap f_find_missing f_without_item f_require_generated f_can_spare f_prune_pieces f_law_deck f_law_draw f_law_line f_law_interval f_law_intervals f_law_conflict f_law_independent f_law_completions f_law_right f_law d_depth_changes d_find_blocks d_is_number d_is_position d_is_tuple_of d_is_interval d_has_position d_contains d_is_demand d_serves d_conflict d_is_independent d_demands_at_blocks d_is_open d_open_demands d_pieces_inside d_first_gap d_find_missing d_without_item d_require_generated d_can_spare d_prune_pieces d_law_deck d_law_draw d_law_line d_law_interval d_law_intervals d_law_conflict d_law_independent d_law_completions d_law_right d_law t_LAST_POSITION) : FnOk P w K mg base CX0 4 f_open_demands d_open_demands ["targets", "pieces"] sp_open_demands := by
  refine T.F_open_demands.ok sc_open_demands (fun vs H Q E h => ?_) (fun cdv A outer s H vs Q E hr h => ?_)
  · obtain ⟨a, b, us, ws, ts, ps, rfl, _⟩ := h
    rfl
  · obtain ⟨a, b, us, ws, ts, ps, rfl, ha, hb, ivt, ivp, g, lt, q⟩ := h
    have lu := ivt.length
    have lw := ivp.length
    refine ⟨_, (pss_cons (ps_set (i := 2) sc_open_demands.nd rfl (Or.inl rfl) (pe_call (ok_demands_at_blocks T) (hr.mono (by decide)) (by rfl) T.g_demands_at_blocks T.F_demands_at_blocks.kp T.b_demands_at_blocks .nil pass0 (pa_cons (pv 0) (pa_cons (pe_call (ok_find_blocks T) (hr.mono (by decide)) (by rfl) T.g_find_blocks T.F_find_blocks.kp T.b_find_blocks .nil pass0 (pa_cons (pe_op op_catA (pv 0) (pv 1)) pa_nil)) pa_nil))))
      (pss_one (ps_ret (pe_callTy call_tuple_of (by rfl) T.z_tuple (by decide +kernel) (pa_cons (pe_lc (own := [("demand", 3)]) (g := (gName 3)) (by rfl) sc_open_demands.nd (pi_list (pv 2)) (blkOk_by (own := [("demand", 3)]) (N := N_open_demands) (sc := defScope s_open_demands) (by decide +kernel)) (fun _ _ _ _ _ => (pg_name (i := 3) sc_open_demands.nd rfl (Or.inl rfl))) (fun _ _ _ _ _ => pts_one (pt_val (pe_call (ok_is_open T) (hr.mono (by decide)) (by rfl) T.g_is_open T.F_is_open.kp T.b_is_open .nil pass0 (pa_cons (pv 1) (pa_cons (pv 3) pa_nil))))) (fun _ _ _ _ _ => (pv 3))) pa_nil))))), ?_⟩
    refine ⟨.ref a, rfl, .ref a, rfl, .ref b, rfl, catA_any ha hb (by rw [show sizeLine = 16777216 by decide]; omega) (fun H1 c s1 ec => ?_)⟩
    have ll : (ts ++ ps).length ≤ 30 := by rw [List.length_append]; exact lt
    refine ⟨c, us ++ ws, ts ++ ps, rfl, ec, (ivt.same s1).append (ivp.same s1), g, by omega, fun H2 bl bws s2 ebl ivb => ?_⟩
    have s12 := s1.trans s2
    have few := blocks_few g
    refine ⟨a, bl, us, bws, ts, _, rfl, s12 _ _ ha, ebl, ivt.same s12, ivb, by omega, by omega, fun H3 D zs s3 eD dm => ?_⟩
    have s13 := s12.trans s3
    obtain ⟨ds, eds⟩ : ∃ ds, ds = dab ts (blocksOf (ts ++ ps)) := ⟨_, rfl⟩
    rw [← eds] at dm q
    have lds : ds.length ≤ 1800 := by
      have h1 := dab_len (ts := ts) (bs := blocksOf (ts ++ ps))
      have h2 : (blocksOf (ts ++ ps)).length * ts.length ≤ 60 * 30 := Nat.mul_le_mul (by omega) (by omega)
      rw [eds]
      omega
    have lz := dm.length
    refine ⟨.ref D, rfl, D, rfl, ⟨_, SqL.of eD⟩, fun D2 nD2 => ?_⟩
    refine lc_list (K := K) (a := D) (xs := zs) (fun i H' => Same H3 H' ∧ ∃ ys, H' D2 = some (.lst ys) ∧ Dms H' ys ((ds.take i).filter (opB ps))) ⟨same_new nD2, [], upd_same, .nil⟩ (fun i H' _ h => SqL.of (h.1 _ _ eD)) ?_ ?_
    · rintro i v H4 hi ⟨s4, ys, eD2, dmy⟩
      obtain ⟨p, lo, hi2, ed, dmv⟩ := dm.get hi
      have hb4 := s4 _ _ (s13 _ _ hb)
      have dv4 := dmv.same s4
      refine ⟨rfl, .ref b, rfl, v, rfl, b, v, ws, ps, p, lo, hi2, rfl, hb4, ivp.same (s13.trans s4), by omega, dv4, fun H5 s5 => ?_⟩
      have ly : ys.length < sizeLine := by
        have h1 := dmy.length
        have h2 := List.length_filter_le (opB ps) (ds.take i)
        have h3 := List.length_take_le' i ds
        rw [show sizeLine = 16777216 by decide]
        omega
      refine ⟨_, rfl, ite2 (fun c => ?_) (fun c => ?_)⟩
      · refine ⟨v, rfl, ys, s5 _ _ eD2, ly, same_off nD2 (s4.trans s5), _, upd_same, ?_⟩
        rw [take_filter ed, if_pos c]
        exact ((dmy.same s5).snoc (dv4.same s5)).tps (Tps.lst (s5 _ _ eD2))
      · refine ⟨s4.trans s5, ys, s5 _ _ eD2, ?_⟩
        rw [take_filter ed, if_neg c, List.append_nil]
        exact dmy.same s5
    · rintro H4 ⟨s4, ys, eD2, dmy⟩
      rw [lz, List.take_length] at dmy
      refine ⟨D2, ys, rfl, .inl ⟨SqL.of eD2, fun l nl => ?_⟩⟩
      have s5 := same_new (o := .tup ys) nl
      exact q _ l ys (s13.trans (s4.trans s5)) upd_same (dmy.same s5)

/-! ### what the targets need: the program's number is right -/
def Com (ts ps S : List (Int × Int)) : Prop := ∀ t ∈ ts, ∀ p, t.1 ≤ p → p ≤ t.2 → ∃ q ∈ ps ++ S, t.1 ≤ q.1 ∧ q.1 ≤ p ∧ p ≤ q.2 ∧ q.2 ≤ t.2
def OpenD (ts ps : List (Int × Int)) (d : Dem) : Prop := d.2 ∈ ts ∧ Vd d ∧ ∀ q ∈ ps, sv q d = false
theorem sv_svI (q : Int × Int) (d : Dem) : svI q.1 q.2 d.1 d.2.1 d.2.2 = sv q d := by
  rw [Bool.eq_iff_iff, sv_iff']
  unfold svI inI atP
  simp only [Bool.and_eq_true, decide_eq_true_eq]
  omega
theorem opB_iff {ps : List (Int × Int)} {d : Dem} : opB ps d = true ↔ ∀ q ∈ ps, sv q d = false := by
  unfold opB
  rw [Bool.not_eq_true', List.any_eq_false]
  constructor
  · intro h q hq
    have := h _ (List.mem_map.mpr ⟨q, hq, rfl⟩)
    rw [← sv_svI, ← Bool.not_eq_true]
    exact this
  · intro h b hb
    obtain ⟨q, hq, rfl⟩ := List.mem_map.mp hb
    have := h q hq
    rw [← sv_svI] at this
    rw [Bool.not_eq_true]
    exact this
theorem sum_served {S : List (Int × Int)} : ∀ {D : List Dem}, (∀ d ∈ D, ∃ z ∈ S, sv z d = true) → D.length ≤ (S.map fun z => cov D z).sum := by
  intro D
  induction D with
  | nil => exact fun _ => Nat.zero_le _
  | cons d D ih =>
    intro h
    have r := ih fun e he => h e (List.mem_cons_of_mem _ he)
    obtain ⟨z, hz, s⟩ := h d List.mem_cons_self
    have step : ∀ T : List (Int × Int), (T.map fun z => cov (d :: D) z).sum = (T.map fun z => cov D z).sum + T.countP (fun z => sv z d) := by
      intro T
      induction T with
      | nil => rfl
      | cons w T it =>
        rw [List.map_cons, List.map_cons, List.sum_cons, List.sum_cons, it, cov_cons, List.countP_cons]
        omega
    rw [step, List.length_cons]
    have : 0 < S.countP (fun z => sv z d) := List.countP_pos_iff.mpr ⟨z, hz, s⟩
    omega
theorem sum_one {α : Type} {f : α → Nat} : ∀ {S : List α}, (∀ x ∈ S, f x ≤ 1) → (S.map f).sum ≤ S.length
  | [], _ => Nat.le_refl _
  | x :: S, h => by
    have r := sum_one (S := S) fun y hy => h y (List.mem_cons_of_mem _ hy)
    have := h x List.mem_cons_self
    rw [List.map_cons, List.sum_cons, List.length_cons]
    omega
/-- no fewer pieces than independent open demands -/
theorem weak_dual {ts ps S : List (Int × Int)} {D : List Dem} (c : Com ts ps S) (i : Ind D) (o : ∀ d ∈ D, OpenD ts ps d) : D.length ≤ S.length := by
  refine Nat.le_trans (sum_served (S := S) fun d hd => ?_) (sum_one fun z _ => i.cov_le z)
  obtain ⟨h1, h2, h3⟩ := o d hd
  obtain ⟨q, hq, k1, k2, k3, k4⟩ := c d.2 h1 d.1 h2.1 h2.2
  have s : sv q d = true := sv_iff'.mpr ⟨k1, k2, k3, k4⟩
  rcases List.mem_append.mp hq with hq | hq
  · rw [h3 q hq] at s
    cases s
  · exact ⟨q, hq, s⟩

/-! ### the first gap of a target -/
def covI (ps : List (Int × Int)) (lo hi p : Int) : Prop := ∃ q ∈ ps, (lo ≤ q.1 ∧ q.2 ≤ hi) ∧ q.1 ≤ p ∧ p ≤ q.2
def IsGap (ps : List (Int × Int)) (lo hi : Int) : Option Int → Prop
  | none => ∀ p, lo ≤ p → p ≤ hi → covI ps lo hi p
  | some g => (lo ≤ g ∧ g ≤ hi) ∧ ¬ covI ps lo hi g ∧ ∀ p, lo ≤ p → p < g → covI ps lo hi p
theorem IsGap.uniq {ps : List (Int × Int)} {lo hi : Int} : ∀ {o o' : Option Int}, IsGap ps lo hi o → IsGap ps lo hi o' → o = o'
  | none, none, _, _ => rfl
  | none, some g, h, h' => absurd (h g h'.1.1 h'.1.2) h'.2.1
  | some g, none, h, h' => absurd (h' g h.1.1 h.1.2) h.2.1
  | some g, some g', h, h' => by
    rcases Int.lt_trichotomy g g' with z | z | z
    · exact absurd (h'.2.2 g h.1.1 z) h.2.1
    · rw [z]
    · exact absurd (h.2.2 g' h'.1.1 z) h'.2.1
noncomputable def gapO (ps : List (Int × Int)) (q : Int × Int) : Option Int := by
  classical
  exact if h : ∃ o, IsGap ps q.1 q.2 o then Classical.choose h else none
theorem gapO_eq {ps : List (Int × Int)} {q : Int × Int} {o : Option Int} (h : IsGap ps q.1 q.2 o) : gapO ps q = o := by
  unfold gapO
  rw [dif_pos ⟨o, h⟩]
  exact IsGap.uniq (Classical.choose_spec ⟨o, h⟩) h
def gv : Option Int → V
  | none => .non
  | some g => .int g
theorem Ivs.perm {H : Hp} {xs ys : List V} (pm : ys.Perm xs) : ∀ {ps : List (Int × Int)}, Ivs H xs ps → ∃ ps', Ivs H ys ps' ∧ ps'.Perm ps := by
  induction pm with
  | nil =>
    intro ps h
    exact ⟨ps, h, .refl _⟩
  | cons x _ ih =>
    intro ps h
    cases h with
    | cons e h =>
      obtain ⟨ps', h', p'⟩ := ih h
      exact ⟨_ :: ps', .cons e h', p'.cons _⟩
  | swap x y l =>
    intro ps h
    cases h with
    | cons e h =>
      cases h with
      | cons e2 h => exact ⟨_, .cons e2 (.cons e h), .swap _ _ _⟩
  | trans _ _ ih1 ih2 =>
    intro ps h
    obtain ⟨p2, h2, q2⟩ := ih2 h
    obtain ⟨p1, h1, q1⟩ := ih1 h2
    exact ⟨p1, h1, q1.trans q2⟩
theorem Ivs.pair {H : Hp} {R : V → V → Prop} {S : Int × Int → Int × Int → Prop} (rs : ∀ a b x y u v, H a = some (.tup [.int x, .int y]) → H b = some (.tup [.int u, .int v]) → R (.ref a) (.ref b) → S (x, y) (u, v)) {vs : List V} {ps : List (Int × Int)} (h : Ivs H vs ps) (pw : vs.Pairwise R) : ps.Pairwise S := by
  induction h with
  | nil => exact .nil
  | cons e h ih =>
    have p := List.pairwise_cons.mp pw
    refine List.pairwise_cons.mpr ⟨fun q hq => ?_, ih p.2⟩
    obtain ⟨b, hb, eb⟩ := h.tpsMem hq
    exact rs _ b _ _ q.1 q.2 e eb (p.1 _ hb)
theorem Ivs.mem {H : Hp} {vs : List V} {ps : List (Int × Int)} (h : Ivs H vs ps) {v : V} (hv : v ∈ vs) : ∃ a q, q ∈ ps ∧ v = .ref a ∧ H a = some (.tup [.int q.1, .int q.2]) := by
  obtain ⟨i, ei⟩ := List.getElem?_of_mem hv
  obtain ⟨a, x, y, e, ep, ea⟩ := h.get ei
  exact ⟨a, (x, y), List.mem_of_getElem? ep, e, ea⟩
/-- pieces: pairs of positions in order -/
def Pc (ps : List (Int × Int)) : Prop := ∀ q ∈ ps, (0 ≤ q.1 ∧ q.1 ≤ q.2) ∧ q.2 < 10 ^ 13
def sp_pieces_inside : Sp := fun vs H Q _ => ∃ (a t : Addr) (us : List V) (ps : List (Int × Int)) (lo hi : Int), vs = [.ref a, .ref t] ∧ H a = some (.tup us) ∧ Ivs H us ps ∧ ps.length < 1000 ∧ H t = some (.tup [.int lo, .int hi]) ∧
  ∀ H' p ws, Same H H' → H' p = some (.lst ws) → Ivs H' ws (ps.filter fun q => inI lo hi q.1 q.2) → Q (.ref p) H'
theorem ok_pieces_inside (T : Tx K mg f_depth_changes f_find_blocks f_is_number f_is_position f_is_tuple_of f_is_interval f_has_position f_contains f_is_demand f_serves f_conflict f_is_independent f_demands_at_blocks f_is_open f_open_demands f_pieces_inside f_first_gap f_find_missing f_without_item f_require_generated f_can_spare f_prune_pieces f_law_deck f_law_draw f_law_line f_law_interval f_law_intervals f_law_conflict f_law_independent f_law_completions f_law_right f_law d_depth_changes d_find_blocks d_is_number d_is_position d_is_tuple_of d_is_interval d_has_position d_contains d_is_demand d_serves d_conflict d_is_independent d_demands_at_blocks d_is_open d_open_demands d_pieces_inside d_first_gap d_find_missing d_without_item d_require_generated d_can_spare d_prune_pieces d_law_deck d_law_draw d_law_line d_law_interval d_law_intervals d_law_conflict d_law_independent d_law_completions d_law_right d_law t_LAST_POSITION) : FnOk P w K mg base CX0 2 f_pieces_inside d_pieces_inside ["pieces", "target"] sp_pieces_inside := by
  refine T.F_pieces_inside.ok sc_pieces_inside (fun vs H Q E h => ?_) (fun cdv A outer s H vs Q E hr h => ?_)
  · obtain ⟨a, t, us, ps, lo, hi, rfl, _⟩ := h
    rfl
  · obtain ⟨a, t, us, ps, lo, hi, rfl, ha, iv, few, ht, q⟩ := h
    have lu := iv.length
    refine ⟨_, (pss_one (ps_ret (pe_lc (own := [("piece", 2)]) (g := (gName 2)) (by rfl) sc_pieces_inside.nd (pi_tup (pv 0)) (blkOk_by (own := [("piece", 2)]) (N := N_pieces_inside) (sc := defScope s_pieces_inside) (by decide +kernel)) (fun _ _ _ _ _ => (pg_name (i := 2) sc_pieces_inside.nd rfl (Or.inl rfl))) (fun _ _ _ _ _ => pts_one (pt_val (pe_call (ok_contains T) (hr.mono (by decide)) (by rfl) T.g_contains T.F_contains.kp T.b_contains .nil pass0 (pa_cons (pv 1) (pa_cons (pv 2) pa_nil))))) (fun _ _ _ _ _ => (pv 2))))), ?_⟩
    refine ⟨.ref a, rfl, a, rfl, ⟨_, SqT.of ha⟩, fun D nD => ?_⟩
    refine lcT (K := K) (a := a) (xs := us) (fun j H' ws => Ivs H' ws ((ps.take j).filter fun q => inI lo hi q.1 q.2)) nD (fun H' s => SqT.of (s _ _ ha)) (by omega) (fun _ _ _ _ t r => r.tps t) (fun j H' ws r => ?_) (fun _ => .nil) ?_ ?_
    · rw [r.length]
      exact Nat.le_trans (List.length_filter_le _ _) (List.length_take_le _ _)
    · rintro j z H' N acc hj sj eA sz r no yes
      obtain ⟨b, x, y, rfl, exy, hb⟩ := iv.get hj
      refine ⟨rfl, .ref t, rfl, .ref b, rfl, t, b, lo, hi, x, y, rfl, sj _ _ ht, sj _ _ hb, _, rfl, ite2 (fun c => ?_) (fun c => ?_)⟩
      · refine ⟨.ref b, rfl, yes H' _ (Same.refl _) ?_⟩
        rw [take_filter exy, if_pos c]
        exact r.snoc (sj _ _ hb)
      · refine no H' (Same.refl _) ?_
        rw [take_filter exy, if_neg c, List.append_nil]
        exact r
    · intro H' ws s' eD r
      rw [lu, List.take_length] at r
      exact q H' D ws s' eD r
theorem mem_inI {ps : List (Int × Int)} {lo hi : Int} {q : Int × Int} : q ∈ (ps.filter fun q => inI lo hi q.1 q.2) ↔ q ∈ ps ∧ lo ≤ q.1 ∧ q.2 ≤ hi := by
  rw [List.mem_filter]
  unfold inI
  simp only [Bool.and_eq_true, decide_eq_true_eq]
def sp_first_gap : Sp := fun vs H Q _ => ∃ (a t : Addr) (us : List V) (ps : List (Int × Int)) (lo hi : Int), vs = [.ref a, .ref t] ∧ H a = some (.tup us) ∧ Ivs H us ps ∧ Pc ps ∧ ps.length ≤ 63 ∧ H t = some (.tup [.int lo, .int hi]) ∧ lo ≤ hi ∧
  ∀ H', Same H H' → Q (gv (gapO ps (lo, hi))) H'
theorem ok_first_gap (T : Tx K mg f_depth_changes f_find_blocks f_is_number f_is_position f_is_tuple_of f_is_interval f_has_position f_contains f_is_demand f_serves f_conflict f_is_independent f_demands_at_blocks f_is_open f_open_demands f_pieces_inside f_first_gap f_find_missing f_without_item f_require_generated f_can_spare f_prune_pieces f_law_deck f_law_draw f_law_line f_law_interval f_law_intervals f_law_conflict f_law_independent f_law_completions f_law_right f_law d_depth_changes d_find_blocks d_is_number d_is_position d_is_tuple_of d_is_interval d_has_position d_contains d_is_demand d_serves d_conflict d_is_independent d_demands_at_blocks d_is_open d_open_demands d_pieces_inside d_first_gap d_find_missing d_without_item d_require_generated d_can_spare d_prune_pieces d_law_deck d_law_draw d_law_line d_law_interval d_law_intervals d_law_conflict d_law_independent d_law_completions d_law_right d_law t_LAST_POSITION) : FnOk P w K mg base CX0 3 f_first_gap d_first_gap ["pieces", "target"] sp_first_gap := by
  refine T.F_first_gap.ok sc_first_gap (fun vs H Q E h => ?_) (fun cdv A outer s H vs Q E hr h => ?_)
  · obtain ⟨a, t, us, ps, lo, hi, rfl, _⟩ := h
    rfl
  · obtain ⟨a, t, us, ps, lo, hi, rfl, ha, iv, pc, few, ht, lh, q⟩ := h
    refine ⟨_, (pss_cons (ps_asg (pv 1) (pg_tup rfl (pgs_cons (pg_name (i := 2) sc_first_gap.nd rfl (Or.inl rfl)) (pgs_cons (pg_name (i := 3) sc_first_gap.nd rfl (Or.inl rfl)) pgs_nil))))
      (pss_cons (ps_for PassesOwn.never rfl (pi_list (pe_callB (cr_sortT (d := 2) (B := 10 ^ 13) (by decide)) (by rfl) T.z_sorted (by decide +kernel) (pa_cons (pe_call (ok_pieces_inside T) (hr.mono (by decide)) (by rfl) T.g_pieces_inside T.F_pieces_inside.kp T.b_pieces_inside .nil pass0 (pa_cons (pv 0) (pa_cons (pv 1) pa_nil))) pa_nil))) (pg_tup rfl (pgs_cons (pg_name (i := 4) sc_first_gap.nd rfl (Or.inl rfl)) (pgs_cons (pg_name (i := 5) sc_first_gap.nd rfl (Or.inl rfl)) pgs_nil)))
      (pss_cons (ps_if (pt_cmpR op_gt (pv 4) (pv 2) (nomark _))
      (pss_one (ps_ret (pv 2)))
      pss_nil)
      (pss_one (ps_set (i := 2) sc_first_gap.nd rfl (Or.inl rfl) (pe_callB (call_max2 rfl) (by rfl) T.z_max (by decide +kernel) (pa_cons (pv 2) (pa_cons (pe_op op_add (pv 5) pe_int) pa_nil)))))))
      (pss_one (ps_ret (pe_ifExp (pt_cmpR op_le (pv 2) (pv 3) (nomark _)) (pv 2) pe_non))))), ?_⟩
    refine ⟨.ref t, rfl, t, _, rfl, SqT.of ht, rfl, .int lo, [.int hi], rfl, .int hi, [], rfl, rfl, ?_⟩
    refine ⟨.ref a, rfl, .ref t, rfl, a, t, us, ps, lo, hi, rfl, ha, iv, by omega, ht, fun H1 p ws s1 ep iv1 => ?_⟩
    obtain ⟨fs, efs⟩ : ∃ fs, fs = ps.filter fun q => inI lo hi q.1 q.2 := ⟨_, rfl⟩
    have mf : ∀ q, q ∈ fs ↔ q ∈ ps ∧ lo ≤ q.1 ∧ q.2 ≤ hi := fun q => by
      rw [efs]
      exact mem_inI
    have lf : fs.length ≤ ps.length := by
      rw [efs]
      exact List.length_filter_le _ _
    rw [← efs] at iv1
    have lw := iv1.length
    have bdp : ∀ q ∈ fs, TS.Bd (10 ^ 13) [q.1, q.2] := fun q hq m hm => by
      have z := pc q ((mf q).mp hq).1
      rcases List.mem_cons.mp hm with rfl | hm
      · exact ⟨z.1.1, Int.lt_of_le_of_lt z.1.2 z.2⟩
      · rw [List.mem_singleton.mp hm]
        exact ⟨Int.le_trans z.1.1 z.1.2, z.2⟩
    refine ⟨p, ws, rfl, SqL.of ep, by omega, fun x hx => ?_, fun ys p2 pm pw np2 => ?_⟩
    · obtain ⟨b, qq, hqq, e, eb⟩ := iv1.mem hx
      exact ⟨[qq.1, qq.2], ⟨b, e, SqT.of eb⟩, rfl, bdp qq hqq⟩
    obtain ⟨gs, ivg, pmg⟩ := Ivs.perm pm iv1
    have mg : ∀ q, q ∈ gs ↔ q ∈ ps ∧ lo ≤ q.1 ∧ q.2 ≤ hi := fun q => by rw [pmg.mem_iff, mf]
    have asc : gs.Pairwise (fun a b => a.1 ≤ b.1) := by
      have z : gs.Pairwise (fun a b => TS.code (10 ^ 13) [a.1, a.2] ≤ TS.code (10 ^ 13) [b.1, b.2]) := Ivs.pair (S := fun a b => TS.code (10 ^ 13) [a.1, a.2] ≤ TS.code (10 ^ 13) [b.1, b.2]) (fun a b x y u v ea eb h => h [x, y] [u, v] ⟨a, rfl, SqT.of ea⟩ ⟨b, rfl, SqT.of eb⟩) ivg pw
      refine z.imp_of_mem fun {x y} hx hy h => ?_
      exact code_first (bdp x (pmg.mem_iff.mp hx)) (bdp y (pmg.mem_iff.mp hy)) h
    have s2 := same_new (o := .lst ys) np2
    have ep2 := upd_same (H := H1) (a := p2) (o := .lst ys)
    replace ivg := ivg.same s2
    generalize upd H1 p2 (.lst ys) = H2 at *
    have lg := ivg.length
    refine ⟨p2, rfl, ⟨_, SqL.of ep2⟩, for_list (K := K) (a := p2) (xs := ys) (fun i σ H' => H' = H2 ∧ ∃ (pos : Int) (y4 y5 : Option V), (lo ≤ pos ∧ pos ≤ hi + 1) ∧ (∀ z, lo ≤ z → z < pos → covI ps lo hi z) ∧ (∀ q ∈ gs.take i, q.2 < pos) ∧ σ = [some (.ref a), some (.ref t), some (.int pos), some (.int hi), y4, y5])
      ⟨rfl, lo, _, _, by omega, (fun z h1 h2 => absurd h1 (by omega)), (fun q hq => nomatch hq), rfl⟩ (fun i σ H' _ h => by rw [h.1]; exact SqL.of ep2) ?_ ?_⟩
    · rintro i v σ H' hi2 ⟨rfl, pos, y4, y5, b1, cv, dn, rfl⟩
      obtain ⟨b, x, y, rfl, exy, hb⟩ := ivg.get hi2
      have inq := (mg (x, y)).mp (List.mem_of_getElem? exy)
      have pq := pc _ inq.1
      simp only at inq pq
      refine ⟨b, _, rfl, SqT.of hb, rfl, .int x, [.int y], rfl, .int y, [], rfl, rfl, ?_⟩
      refine ⟨.int x, rfl, .int pos, rfl, _, _, rfl, rfl, _, rfl, ite2 (fun c => ?_) (fun c => ?_)⟩
      · have c := of_decide_eq_true c
        refine ⟨.int pos, rfl, ?_⟩
        have g : IsGap ps lo hi (some pos) := by
          refine ⟨by omega, fun ⟨q, hq, hin, h1, h2⟩ => ?_, cv⟩
          obtain ⟨j, ej⟩ := List.getElem?_of_mem ((mg q).mpr ⟨hq, hin⟩)
          rcases Nat.lt_or_ge j i with z | z
          · have := dn q (List.mem_of_getElem? (show (gs.take i)[j]? = some q by rw [List.getElem?_take_of_lt z]; exact ej))
            omega
          · have : x ≤ q.1 := by
              obtain ⟨hj', rfl⟩ := List.getElem?_eq_some_iff.mp ej
              obtain ⟨hi', e'⟩ := List.getElem?_eq_some_iff.mp exy
              rcases Nat.eq_or_lt_of_le z with z | z
              · subst z
                rw [e']
                exact Int.le_refl _
              · have := List.pairwise_iff_getElem.mp asc i j hi' hj' z
                rw [e'] at this
                exact this
            omega
        have z := q _ (s1.trans s2)
        rw [gapO_eq (q := (lo, hi)) g] at z
        exact z
      · have c : ¬ (pos < x) := fun z => c (decide_eq_true z)
        refine ⟨.int pos, rfl, .int y, rfl, _, _, rfl, rfl, _, _, rfl, rfl, mxI pos (y + 1), _, _, ?_, fun z h1 h2 => ?_, fun q hq => ?_, rfl⟩
        · unfold mxI
          split <;> omega
        · rcases Int.lt_or_le z pos with h | h
          · exact cv z h1 h
          · refine ⟨(x, y), inq.1, inq.2, ?_, ?_⟩
            · show x ≤ z
              omega
            · show z ≤ y
              unfold mxI at h2
              split at h2 <;> omega
        · rw [List.take_add_one, exy] at hq
          have m1 : pos ≤ mxI pos (y + 1) ∧ y + 1 ≤ mxI pos (y + 1) := by
            unfold mxI
            split <;> omega
          rcases List.mem_append.mp hq with hq | hq
          · have := dn q hq
            omega
          · rw [List.mem_singleton.mp hq]
            show y < _
            omega
    · rintro σ H' ⟨rfl, pos, y4, y5, b1, cv, dn, rfl⟩
      rw [lg, List.take_length] at dn
      have z := q _ (s1.trans s2)
      refine ⟨.int pos, rfl, .int hi, rfl, _, _, rfl, rfl, _, rfl, ite2 (fun c => ?_) (fun c => ?_)⟩
      · have c := of_decide_eq_true c
        have g : IsGap ps lo hi (some pos) := by
          refine ⟨by omega, fun ⟨q, hq, hin, h1, h2⟩ => ?_, cv⟩
          have := dn q ((mg q).mpr ⟨hq, hin⟩)
          omega
        rw [gapO_eq (q := (lo, hi)) g] at z
        exact ⟨.int pos, rfl, z⟩
      · have c : ¬ (pos ≤ hi) := fun z => c (decide_eq_true z)
        have g : IsGap ps lo hi none := fun p h1 h2 => cv p h1 (by omega)
        rw [gapO_eq (q := (lo, hi)) g] at z
        exact z

/-! ### the first missing demand -/
theorem iteND {c A B : Prop} [Decidable c] (hc : ¬ c) (h : A) : if (!decide c) = true then A else B := by
  rw [decide_eq_false hc]
  exact iteT h
theorem gap_upto (ps : List (Int × Int)) (lo hi : Int) : ∀ k : Nat, (∀ p, lo ≤ p → p < lo + k → covI ps lo hi p) ∨ ∃ g, (lo ≤ g ∧ g < lo + k) ∧ ¬ covI ps lo hi g ∧ ∀ p, lo ≤ p → p < g → covI ps lo hi p
  | 0 => .inl fun p h1 h2 => absurd h1 (by omega)
  | k + 1 => by
    rcases gap_upto ps lo hi k with h | ⟨g, h1, h2⟩
    · by_cases c : covI ps lo hi (lo + k)
      · refine .inl fun p h1 h2 => ?_
        rcases Int.lt_or_le p (lo + k) with z | z
        · exact h p h1 z
        · have : p = lo + k := by omega
          rw [this]
          exact c
      · exact .inr ⟨lo + k, by omega, c, fun p h1 h2 => h p h1 h2⟩
    · exact .inr ⟨g, by omega, h2⟩
theorem gapO_spec (ps : List (Int × Int)) (q : Int × Int) : IsGap ps q.1 q.2 (gapO ps q) := by
  have ex : ∃ o, IsGap ps q.1 q.2 o := by
    rcases gap_upto ps q.1 q.2 (q.2 + 1 - q.1).toNat with h | ⟨g, h1, h2, h3⟩
    · exact ⟨none, fun p h1 h2 => h p h1 (by omega)⟩
    · exact ⟨some g, ⟨h1.1, by omega⟩, h2, h3⟩
  obtain ⟨o, h⟩ := ex
  rw [gapO_eq h]
  exact h
noncomputable def misF (ps : List (Int × Int)) (t : Int × Int) : Option (Int × Int × Int) := (gapO ps t).map fun g => (g, t.1, t.2)
noncomputable def missO (ps ts : List (Int × Int)) : Option (Int × Int × Int) := ts.findSome? (misF ps)
theorem miss_step {f : Int × Int → Option (Int × Int × Int)} {ps : List (Int × Int)} {i : Nat} {q : Int × Int} (e : ps[i]? = some q) : (ps.drop i).findSome? f = match f q with
    | some r => some r
    | none => (ps.drop (i + 1)).findSome? f := by
  obtain ⟨hi, rfl⟩ := List.getElem?_eq_some_iff.mp e
  rw [List.drop_eq_getElem_cons hi, List.findSome?_cons]
  cases f ps[i] <;> rfl
theorem missO_some {ps ts : List (Int × Int)} {g lo hi : Int} (h : missO ps ts = some (g, lo, hi)) : (lo, hi) ∈ ts ∧ gapO ps (lo, hi) = some g := by
  unfold missO at h
  obtain ⟨t, ht, e⟩ := List.exists_of_findSome?_eq_some h
  unfold misF at e
  obtain ⟨g', e1, e2⟩ := Option.map_eq_some_iff.mp e
  cases e2
  exact ⟨ht, e1⟩
theorem missO_none {ps ts : List (Int × Int)} : missO ps ts = none ↔ ∀ t ∈ ts, gapO ps t = none := by
  unfold missO misF
  rw [List.findSome?_eq_none_iff]
  constructor
  · intro h t ht
    have z := h t ht
    rw [Option.map_eq_none_iff] at z
    exact z
  · intro h t ht
    rw [h t ht]
    rfl
theorem gap_self {ps : List (Int × Int)} {t : Int × Int} (h : t ∈ ps) : gapO ps t = none := gapO_eq (show IsGap ps t.1 t.2 none from fun p h1 h2 => ⟨t, h, ⟨Int.le_refl _, Int.le_refl _⟩, h1, h2⟩)
def demD : Option (Int × Int × Int) → PyData
  | none => .none
  | some (g, lo, hi) => .tuple [.int g, .tuple [.int lo, .int hi]]
def DV (H : Hp) (v : V) : Option (Int × Int × Int) → Prop
  | none => v = .non
  | some (g, lo, hi) => ∃ u t, v = .ref u ∧ H u = some (.tup [.int g, .ref t]) ∧ H t = some (.tup [.int lo, .int hi])
theorem DV.tps {H H' : Hp} (s : Tps H H') {v : V} {o : Option (Int × Int × Int)} (h : DV H v o) : DV H' v o := by
  match o, h with
  | none, h => exact h
  | some (g, lo, hi), h =>
    obtain ⟨u, t, e, e1, e2⟩ := h
    exact ⟨u, t, e, s _ _ e1, s _ _ e2⟩
theorem DV.dp {K : PySem.W.Frag} {H : Hp} {v : V} {o : Option (Int × Int × Int)} (h : DV H v o) : Dp K H v (demD o) := by
  match o, h with
  | none, h =>
    cases h
    exact .non
  | some (g, lo, hi), h =>
    obtain ⟨u, t, e, e1, e2⟩ := h
    subst e
    exact .tup (SqT.of e1) (.cons (.int g) (.cons (dp2 e2) .nil))
theorem sm_dem {o : Option (Int × Int × Int)} (h : ∀ g lo hi, o = some (g, lo, hi) → g.natAbs < 10 ^ 30 ∧ lo.natAbs < 10 ^ 30 ∧ hi.natAbs < 10 ^ 30) : Sm 406 2 (demD o) := by
  match o, h with
  | none, _ => exact Sm.none.mono (by decide) (by decide)
  | some (g, lo, hi), h =>
    obtain ⟨h1, h2, h3⟩ := h g lo hi rfl
    exact Sm.tup (n := 202) (dp := 1) (ds := [.int g, .tuple [.int lo, .int hi]]) (fun d hd => by
      rcases List.mem_cons.mp hd with rfl | hd
      · exact (Sm.int h1).mono (by decide) (by decide)
      · rcases List.mem_cons.mp hd with rfl | hd
        · exact sm2 h2 h3
        · cases hd)
def Tg (ts : List (Int × Int)) : Prop := ∀ t ∈ ts, t.1 ≤ t.2
def sp_find_missing : Sp := fun vs H Q _ => ∃ (a b : Addr) (tus us : List V) (ts ps : List (Int × Int)), vs = [.ref a, .ref b] ∧ H a = some (.tup tus) ∧ Ivs H tus ts ∧ Tg ts ∧ H b = some (.tup us) ∧ Ivs H us ps ∧ Pc ps ∧ ps.length ≤ 63 ∧
  ∀ H' r, Same H H' → DV H' r (missO ps ts) → Q r H'
theorem ok_find_missing (T : Tx K mg f_depth_changes f_find_blocks f_is_number f_is_position f_is_tuple_of f_is_interval f_has_position f_contains f_is_demand f_serves f_conflict f_is_independent f_demands_at_blocks f_is_open f_open_demands f_pieces_inside f_first_gap f_find_missing f_without_item f_require_generated f_can_spare f_prune_pieces f_law_deck f_law_draw f_law_line f_law_interval f_law_intervals f_law_conflict f_law_independent f_law_completions f_law_right f_law d_depth_changes d_find_blocks d_is_number d_is_position d_is_tuple_of d_is_interval d_has_position d_contains d_is_demand d_serves d_conflict d_is_independent d_demands_at_blocks d_is_open d_open_demands d_pieces_inside d_first_gap d_find_missing d_without_item d_require_generated d_can_spare d_prune_pieces d_law_deck d_law_draw d_law_line d_law_interval d_law_intervals d_law_conflict d_law_independent d_law_completions d_law_right d_law t_LAST_POSITION) : FnOk P w K mg base CX0 4 f_find_missing d_find_missing ["targets", "pieces"] sp_find_missing := by
  refine T.F_find_missing.ok sc_find_missing (fun vs H Q E h => ?_) (fun cdv A outer s H vs Q E hr h => ?_)
  · obtain ⟨a, b, tus, us, ts, ps, rfl, _⟩ := h
    rfl
  · obtain ⟨a, b, tus, us, ts, ps, rfl, ha, tiv, tg, hb, iv, pc, few, q⟩ := h
    refine ⟨_, (pss_cons (ps_for PassesOwn.never rfl (pi_tup (pv 0)) (pg_name (i := 2) sc_find_missing.nd rfl (Or.inl rfl))
      (pss_cons (ps_set (i := 3) sc_find_missing.nd rfl (Or.inl rfl) (pe_call (ok_first_gap T) (hr.mono (by decide)) (by rfl) T.g_first_gap T.F_first_gap.kp T.b_first_gap .nil pass0 (pa_cons (pv 1) (pa_cons (pv 2) pa_nil))))
      (pss_one (ps_if (pt_cmpR op_notN (pv 3) pe_non (nomark _))
      (pss_one (ps_ret (pe_tup (pa_cons (pv 3) (pa_cons (pv 2) pa_nil)))))
      pss_nil))))
      (pss_one (ps_ret pe_non))), ?_⟩
    refine ⟨.ref a, rfl, a, rfl, ⟨_, SqT.of ha⟩, for_tup (K := K) (a := a) (xs := tus) (fun i σ H' => Same H H' ∧ missO ps ts = (ts.drop i).findSome? (misF ps) ∧ ∃ y2 y3, σ = [some (.ref a), some (.ref b), y2, y3]) ⟨Same.refl _, rfl, _, _, rfl⟩ (fun i σ H' _ h => SqT.of (h.1 _ _ ha)) ?_ ?_⟩
    · rintro i x σ H1 hi ⟨s1, ef, y2, y3, rfl⟩
      obtain ⟨t, lo, hi2, rfl, et, ht⟩ := tiv.get hi
      have lh := tg _ (List.mem_of_getElem? et)
      rw [miss_step et] at ef
      unfold misF at ef
      refine ⟨.ref b, rfl, .ref t, rfl, b, t, us, ps, lo, hi2, rfl, s1 _ _ hb, iv.same s1, pc, few, s1 _ _ ht, lh, fun H2 s2 => ?_⟩
      have s12 := s1.trans s2
      cases eg : gapO ps (lo, hi2) with
      | none =>
        rw [eg] at ef
        exact ⟨_, rfl, rfl, _, rfl, iteF ⟨s12, ef, _, _, rfl⟩⟩
      | some g =>
        rw [eg] at ef
        refine ⟨_, rfl, rfl, _, rfl, ?_⟩
        refine iteND (fun z : V.int g = V.non => by cases z) ⟨_, rfl, .ref t, rfl, by show 2 ≤ sizeLine; decide, fun u nu => q _ _ (s12.trans (same_new nu)) ?_⟩
        rw [ef]
        exact ⟨u, t, rfl, upd_same, same_new nu _ _ (s12 _ _ ht)⟩
    · rintro σ H1 ⟨s1, ef, y2, y3, rfl⟩
      refine q _ _ s1 ?_
      rw [ef, tiv.length, List.drop_length]
      rfl

/-! ### pieces that can be spared -/
def wo (ps : List (Int × Int)) (q : Int × Int) : List (Int × Int) := ps.filter fun x => !decide (x = q)
theorem wo_len (ps : List (Int × Int)) (q : Int × Int) : (wo ps q).length ≤ ps.length := List.length_filter_le _ _
theorem wo_sub {ps : List (Int × Int)} {q x : Int × Int} (h : x ∈ wo ps q) : x ∈ ps := (List.mem_filter.mp h).1
theorem Pc.wo {ps : List (Int × Int)} (h : Pc ps) (q : Int × Int) : Pc (wo ps q) := fun x hx => h x (wo_sub hx)
noncomputable def spB (ts ps : List (Int × Int)) (q : Int × Int) : Bool := (missO (wo ps q) ts).isNone
theorem eqv_pair (x y u v : Int) : PyData.eqv (.tuple [.int x, .int y]) (.tuple [.int u, .int v]) = decide ((x, y) = (u, v)) := by
  show ((x == u) && ((y == v) && true)) = decide ((x, y) = (u, v))
  rw [Bool.and_true, Bool.eq_iff_iff, Bool.and_eq_true, beq_iff_eq, beq_iff_eq, decide_eq_true_eq, Prod.mk.injEq]
theorem DV.isN {H : Hp} {r : V} {o : Option (Int × Int × Int)} (h : DV H r o) : decide (r = .non) = o.isNone := by
  match o, h with
  | none, h =>
    cases h
    rfl
  | some (g, lo, hi), h =>
    obtain ⟨u, t, e, _⟩ := h
    rw [e]
    exact decide_eq_false (fun z => by cases z)
def sp_without_item : Sp := fun vs H Q _ => ∃ (a t : Addr) (us : List V) (ps : List (Int × Int)) (x y : Int), vs = [.ref a, .ref t] ∧ H a = some (.tup us) ∧ Ivs H us ps ∧ ps.length < 1000 ∧ H t = some (.tup [.int x, .int y]) ∧
  ∀ H' p ws, Same H H' → H' p = some (.tup ws) → Ivs H' ws (wo ps (x, y)) → Q (.ref p) H'
theorem ok_without_item (T : Tx K mg f_depth_changes f_find_blocks f_is_number f_is_position f_is_tuple_of f_is_interval f_has_position f_contains f_is_demand f_serves f_conflict f_is_independent f_demands_at_blocks f_is_open f_open_demands f_pieces_inside f_first_gap f_find_missing f_without_item f_require_generated f_can_spare f_prune_pieces f_law_deck f_law_draw f_law_line f_law_interval f_law_intervals f_law_conflict f_law_independent f_law_completions f_law_right f_law d_depth_changes d_find_blocks d_is_number d_is_position d_is_tuple_of d_is_interval d_has_position d_contains d_is_demand d_serves d_conflict d_is_independent d_demands_at_blocks d_is_open d_open_demands d_pieces_inside d_first_gap d_find_missing d_without_item d_require_generated d_can_spare d_prune_pieces d_law_deck d_law_draw d_law_line d_law_interval d_law_intervals d_law_conflict d_law_independent d_law_completions d_law_right d_law t_LAST_POSITION) : FnOk P w K mg base CX0 1 f_without_item d_without_item ["items", "item"] sp_without_item := by
  refine T.F_without_item.ok sc_without_item (fun vs H Q E h => ?_) (fun cdv A outer s H vs Q E hr h => ?_)
  · obtain ⟨a, t, us, ps, x, y, rfl, _⟩ := h
    rfl
  · obtain ⟨a, t, us, ps, x, y, rfl, ha, iv, few, ht, q⟩ := h
    have lu := iv.length
    refine ⟨_, (pss_one (ps_ret (pe_callTy call_tuple_of (by rfl) T.z_tuple (by decide +kernel) (pa_cons (pe_lc (own := [("other", 2)]) (g := (gName 2)) (by rfl) sc_without_item.nd (pi_tup (pv 0)) (blkOk_by (own := [("other", 2)]) (N := N_without_item) (sc := defScope s_without_item) (by decide +kernel)) (fun _ _ _ _ _ => (pg_name (i := 2) sc_without_item.nd rfl (Or.inl rfl))) (fun _ _ _ _ _ => pts_one (pt_cmpR (show OpR _ (compareOp .NotEq) (rNeD K) from (op_neD hr.units)) (pv 2) (pv 1) (nomark _))) (fun _ _ _ _ _ => (pv 2))) pa_nil)))), ?_⟩
    refine ⟨.ref a, rfl, a, rfl, ⟨_, SqT.of ha⟩, fun D nD => ?_⟩
    refine lcT (K := K) (a := a) (xs := us) (fun j H' ws => Ivs H' ws ((ps.take j).filter fun z => !decide (z = (x, y)))) nD (fun H' s => SqT.of (s _ _ ha)) (by omega) (fun _ _ _ _ t r => r.tps t) (fun j H' ws r => ?_) (fun _ => .nil) ?_ ?_
    · rw [r.length]
      exact Nat.le_trans (List.length_filter_le _ _) (List.length_take_le _ _)
    · rintro j z H' N acc hj sj eA sz r no yes
      obtain ⟨b, u, v, rfl, exy, hb⟩ := iv.get hj
      refine ⟨rfl, .ref b, rfl, .ref t, rfl, _, _, dp2 (sj _ _ hb), dp2 (sj _ _ ht), rfl, rfl, _, rfl, ?_⟩
      rw [eqv_pair]
      refine ite2 (fun c => ?_) (fun c => ?_)
      · refine ⟨.ref b, rfl, yes H' _ (Same.refl _) ?_⟩
        rw [take_filter exy, if_pos c]
        exact r.snoc (sj _ _ hb)
      · refine no H' (Same.refl _) ?_
        rw [take_filter exy, if_neg c, List.append_nil]
        exact r
    · intro H1 ws s1 eD r
      rw [lu, List.take_length] at r
      refine ⟨D, ws, rfl, .inl ⟨SqL.of eD, fun p np => ?_⟩⟩
      exact q _ p ws (s1.trans (same_new np)) upd_same (r.same (same_new np))
def sp_require_generated : Sp := fun vs H Q _ => ∃ (a b : Addr) (tus us : List V) (ts ps : List (Int × Int)), vs = [.ref a, .ref b] ∧ H a = some (.tup tus) ∧ Ivs H tus ts ∧ Tg ts ∧ H b = some (.tup us) ∧ Ivs H us ps ∧ Pc ps ∧ ps.length ≤ 63 ∧ missO ps ts = none ∧
  ∀ H', Same H H' → Q .non H'
theorem ok_require_generated (T : Tx K mg f_depth_changes f_find_blocks f_is_number f_is_position f_is_tuple_of f_is_interval f_has_position f_contains f_is_demand f_serves f_conflict f_is_independent f_demands_at_blocks f_is_open f_open_demands f_pieces_inside f_first_gap f_find_missing f_without_item f_require_generated f_can_spare f_prune_pieces f_law_deck f_law_draw f_law_line f_law_interval f_law_intervals f_law_conflict f_law_independent f_law_completions f_law_right f_law d_depth_changes d_find_blocks d_is_number d_is_position d_is_tuple_of d_is_interval d_has_position d_contains d_is_demand d_serves d_conflict d_is_independent d_demands_at_blocks d_is_open d_open_demands d_pieces_inside d_first_gap d_find_missing d_without_item d_require_generated d_can_spare d_prune_pieces d_law_deck d_law_draw d_law_line d_law_interval d_law_intervals d_law_conflict d_law_independent d_law_completions d_law_right d_law t_LAST_POSITION) : FnOk P w K mg base CX0 5 f_require_generated d_require_generated ["targets", "pieces"] sp_require_generated := by
  refine T.F_require_generated.ok sc_require_generated (fun vs H Q E h => ?_) (fun cdv A outer s H vs Q E hr h => ?_)
  · obtain ⟨a, b, tus, us, ts, ps, rfl, _⟩ := h
    rfl
  · obtain ⟨a, b, tus, us, ts, ps, rfl, ha, tiv, tg, hb, iv, pc, few, em, q⟩ := h
    refine ⟨_, (pss_cons (ps_set (i := 2) sc_require_generated.nd rfl (Or.inl rfl) (pe_call (ok_find_missing T) (hr.mono (by decide)) (by rfl) T.g_find_missing T.F_find_missing.kp T.b_find_missing .nil pass0 (pa_cons (pv 0) (pa_cons (pv 1) pa_nil))))
      (pss_one (ps_if (pt_cmpR op_notN (pv 2) pe_non (nomark _))
      (pss_one ps_never)
      pss_nil))), ?_⟩
    refine ⟨.ref a, rfl, .ref b, rfl, a, b, tus, us, ts, ps, rfl, ha, tiv, tg, hb, iv, pc, few, fun H1 r s1 d1 => ?_⟩
    rw [em] at d1
    cases d1
    exact ⟨_, rfl, rfl, _, rfl, iteF (q _ s1)⟩
def sp_can_spare : Sp := fun vs H Q _ => ∃ (a b t : Addr) (tus us : List V) (ts ps : List (Int × Int)) (x y : Int), vs = [.ref a, .ref b, .ref t] ∧ H a = some (.tup tus) ∧ Ivs H tus ts ∧ Tg ts ∧ H b = some (.tup us) ∧ Ivs H us ps ∧ Pc ps ∧ ps.length ≤ 63 ∧ H t = some (.tup [.int x, .int y]) ∧
  ∀ H', Same H H' → Q (.bl (spB ts ps (x, y))) H'
theorem ok_can_spare (T : Tx K mg f_depth_changes f_find_blocks f_is_number f_is_position f_is_tuple_of f_is_interval f_has_position f_contains f_is_demand f_serves f_conflict f_is_independent f_demands_at_blocks f_is_open f_open_demands f_pieces_inside f_first_gap f_find_missing f_without_item f_require_generated f_can_spare f_prune_pieces f_law_deck f_law_draw f_law_line f_law_interval f_law_intervals f_law_conflict f_law_independent f_law_completions f_law_right f_law d_depth_changes d_find_blocks d_is_number d_is_position d_is_tuple_of d_is_interval d_has_position d_contains d_is_demand d_serves d_conflict d_is_independent d_demands_at_blocks d_is_open d_open_demands d_pieces_inside d_first_gap d_find_missing d_without_item d_require_generated d_can_spare d_prune_pieces d_law_deck d_law_draw d_law_line d_law_interval d_law_intervals d_law_conflict d_law_independent d_law_completions d_law_right d_law t_LAST_POSITION) : FnOk P w K mg base CX0 5 f_can_spare d_can_spare ["targets", "pieces", "piece"] sp_can_spare := by
  refine T.F_can_spare.ok sc_can_spare (fun vs H Q E h => ?_) (fun cdv A outer s H vs Q E hr h => ?_)
  · obtain ⟨a, b, t, tus, us, ts, ps, x, y, rfl, _⟩ := h
    rfl
  · obtain ⟨a, b, t, tus, us, ts, ps, x, y, rfl, ha, tiv, tg, hb, iv, pc, few, ht, q⟩ := h
    refine ⟨_, (pss_one (ps_ret (pe_cmpR op_isN (pe_call (ok_find_missing T) (hr.mono (by decide)) (by rfl) T.g_find_missing T.F_find_missing.kp T.b_find_missing .nil pass0 (pa_cons (pv 0) (pa_cons (pe_call (ok_without_item T) (hr.mono (by decide)) (by rfl) T.g_without_item T.F_without_item.kp T.b_without_item .nil pass0 (pa_cons (pv 1) (pa_cons (pv 2) pa_nil))) pa_nil))) pe_non (nomark _)))), ?_⟩
    refine ⟨.ref a, rfl, .ref b, rfl, .ref t, rfl, b, t, us, ps, x, y, rfl, hb, iv, by omega, ht, fun H1 p ws s1 ep iv1 => ?_⟩
    have wl := wo_len ps (x, y)
    refine ⟨a, p, tus, ws, ts, wo ps (x, y), rfl, s1 _ _ ha, tiv.same s1, tg, ep, iv1, pc.wo _, by omega, fun H2 r s2 d2 => ⟨rfl, ?_⟩⟩
    rw [d2.isN]
    exact q _ (s1.trans s2)

theorem shaped_pairs (ps : List (Int × Int)) : SeqAt.shaped (.tuple (ps.map pairD)) = true := by
  have h1 : ∀ ps : List (Int × Int), PyData.canLayAll0 (ps.map pairD) = true := by
    intro ps
    induction ps with
    | nil => rfl
    | cons n r ih => exact ih
  have h2 : ∀ ps : List (Int × Int), PyData.depthAll (ps.map pairD) ≤ 1 := by
    intro ps
    induction ps with
    | nil => exact Nat.zero_le _
    | cons n r ih =>
      show max 1 (PyData.depthAll (r.map pairD)) ≤ 1
      omega
  unfold SeqAt.shaped
  rw [show PyData.canLay0 (.tuple (ps.map pairD)) = PyData.canLayAll0 (ps.map pairD) from rfl, h1 ps]
  show decide (PyData.depthAll (ps.map pairD) + 1 ≤ 64) = true
  exact decide_eq_true (by have := h2 ps; omega)
theorem eqv_self (ps : List (Int × Int)) : PyData.eqv (.tuple (ps.map pairD)) (.tuple (ps.map pairD)) = true := by
  show PyData.eqvAll (ps.map pairD) (ps.map pairD) = true
  induction ps with
  | nil => rfl
  | cons q r ih =>
    show (((q.1 == q.1) && ((q.2 == q.2) && true)) && PyData.eqvAll (r.map pairD) (r.map pairD)) = true
    rw [ih, beq_self_eq_true, beq_self_eq_true]
    rfl

theorem sorted_set_pairsT {K : PySem.W.Frag} {P : Program} {w : World} {H : Hp} {l : Addr} {us : List V} {ps : List (Int × Int)} {Q : VK} (hl : H l = some (.tup us)) (iv : Ivs H us ps) (few : ps.length < 64) (bd : ∀ q ∈ ps, (0 ≤ q.1 ∧ q.1 < 10 ^ 13) ∧ 0 ≤ q.2 ∧ q.2 < 10 ^ 13)
    (fin : ∀ H' p us' ps', Same H H' → H p = none → H' p = some (.lst us') → Ivs H' us' ps' → ps'.Pairwise ltP → (∀ q, q ∈ ps' ↔ q ∈ ps) → Q (.ref p) H') :
    rSetOfTT K P w [.ref l] H (fun x H1 => rSortedT K P w [x] H1 Q) := by
  obtain ⟨ks, rfl, e2, e3⟩ := iv.keys
  -- the same keys, in a list that nobody holds: what follows is as there
  have lk : ks.length = ps.length := by
    have z := congrArg List.length e2
    rw [List.length_map, List.length_map] at z
    exact z
  refine ⟨l, ks, rfl, SqT.of hl, fun p hp => ?_, by omega, fun a L na h1 h2 => ?_⟩
  · obtain ⟨x, y, e, e1⟩ := e3 p hp
    rw [e]
    exact SqT.of e1
  exact sorted_keys e2 e3 na h1 h2 bd fin

theorem gap_mono {ps ps' : List (Int × Int)} {t : Int × Int} (h : gapO ps t = none) (sub : ∀ q ∈ ps, q ∈ ps') : gapO ps' t = none := by
  have g := gapO_spec ps t
  rw [h] at g
  refine gapO_eq (show IsGap ps' t.1 t.2 none from fun p h1 h2 => ?_)
  obtain ⟨q, hq, w⟩ := g p h1 h2
  exact ⟨q, sub q hq, w⟩
noncomputable def prF (ts left : List (Int × Int)) (q : Int × Int) : List (Int × Int) := if spB ts left q = true then wo left q else left
noncomputable def prO (ts ps qs : List (Int × Int)) : List (Int × Int) := qs.foldl (prF ts) ps
theorem prF_sub {ts left : List (Int × Int)} {q x : Int × Int} (h : x ∈ prF ts left q) : x ∈ left := by
  unfold prF at h
  split at h
  · exact wo_sub h
  · exact h
theorem prO_sub {ts : List (Int × Int)} {x : Int × Int} : ∀ {qs left : List (Int × Int)}, x ∈ prO ts left qs → x ∈ left
  | [], _, h => h
  | _ :: qs, _, h => prF_sub (prO_sub (qs := qs) h)
theorem prF_len (ts left : List (Int × Int)) (q : Int × Int) : (prF ts left q).length ≤ left.length := by
  unfold prF
  split
  · exact wo_len _ _
  · exact Nat.le_refl _
theorem prO_len (ts : List (Int × Int)) : ∀ (qs left : List (Int × Int)), (prO ts left qs).length ≤ left.length
  | [], _ => Nat.le_refl _
  | q :: qs, left => Nat.le_trans (prO_len ts qs (prF ts left q)) (prF_len ts left q)
theorem prO_snoc (ts left qs : List (Int × Int)) (q : Int × Int) : prO ts left (qs ++ [q]) = prF ts (prO ts left qs) q := by
  unfold prO
  rw [List.foldl_append]
  rfl
theorem prF_miss {ts left : List (Int × Int)} {q : Int × Int} (h : missO left ts = none) : missO (prF ts left q) ts = none := by
  unfold prF
  split
  · rename_i e
    exact Option.isNone_iff_eq_none.mp e
  · exact h
theorem prO_miss {ts : List (Int × Int)} : ∀ {qs left : List (Int × Int)}, missO left ts = none → missO (prO ts left qs) ts = none
  | [], _, h => h
  | _ :: qs, _, h => prO_miss (qs := qs) (prF_miss h)
theorem miss_mono {ts ps ps' : List (Int × Int)} (h : missO ps ts = none) (sub : ∀ q ∈ ps, q ∈ ps') : missO ps' ts = none := missO_none.mpr fun t ht => gap_mono (missO_none.mp h t ht) sub
theorem spB_mono {ts ps ps' : List (Int × Int)} {q : Int × Int} (sub : ∀ x ∈ ps, x ∈ ps') (h : spB ts ps q = true) : spB ts ps' q = true := by
  unfold spB at h ⊢
  rw [Option.isNone_iff_eq_none] at h ⊢
  refine miss_mono h fun x hx => ?_
  have z := List.mem_filter.mp hx
  exact List.mem_filter.mpr ⟨sub x z.1, z.2⟩
theorem prO_kept {ts : List (Int × Int)} {x : Int × Int} : ∀ {qs left : List (Int × Int)}, x ∈ qs → x ∈ prO ts left qs → spB ts (prO ts left qs) x = false
  | q :: qs, left, hx, h => by
    rcases List.mem_cons.mp hx with rfl | hx
    · by_cases e : spB ts left x = true
      · have z : x ∈ prF ts left x := prO_sub (qs := qs) h
        unfold prF at z
        rw [if_pos e] at z
        have y := (List.mem_filter.mp z).2
        rw [decide_eq_true rfl] at y
        cases y
      · rw [← Bool.not_eq_true]
        exact fun z => e (spB_mono (fun y hy => prF_sub (prO_sub (qs := qs) hy)) z)
    · exact prO_kept (qs := qs) hx h
theorem prO_same {ts ps : List (Int × Int)} : ∀ {qs : List (Int × Int)}, (∀ q ∈ qs, spB ts ps q = false) → prO ts ps qs = ps
  | [], _ => rfl
  | q :: qs, h => by
    show prO ts (prF ts ps q) qs = ps
    have e : prF ts ps q = ps := by
      unfold prF
      rw [h q List.mem_cons_self]
      rfl
    rw [e]
    exact prO_same fun x hx => h x (List.mem_cons_of_mem _ hx)
theorem prO_done {ts ps : List (Int × Int)} : (prO ts ps ps).filter (spB ts (prO ts ps ps)) = [] ∧ prO ts (prO ts ps ps) (prO ts ps ps) = prO ts ps ps := by
  have h : ∀ q ∈ prO ts ps ps, spB ts (prO ts ps ps) q = false := fun q hq => prO_kept (prO_sub (qs := ps) hq) hq
  refine ⟨List.filter_eq_nil_iff.mpr fun q hq => by rw [h q hq]; exact Bool.false_ne_true, prO_same h⟩
theorem Pc.prO {ts ps qs : List (Int × Int)} (h : Pc ps) : Pc (prO ts ps qs) := fun q hq => h q (prO_sub (qs := qs) hq)
def sp_prune_pieces : Sp := fun vs H Q _ => ∃ (a b : Addr) (tus us : List V) (ts ps : List (Int × Int)), vs = [.ref a, .ref b] ∧ H a = some (.tup tus) ∧ Ivs H tus ts ∧ Tg ts ∧ H b = some (.tup us) ∧ Ivs H us ps ∧ Pc ps ∧ ps.length ≤ 63 ∧ missO ps ts = none ∧
  ∀ H' p ws, Same H H' → H' p = some (.tup ws) → Ivs H' ws (prO ts ps ps) → Q (.ref p) H'
theorem ok_prune_pieces (T : Tx K mg f_depth_changes f_find_blocks f_is_number f_is_position f_is_tuple_of f_is_interval f_has_position f_contains f_is_demand f_serves f_conflict f_is_independent f_demands_at_blocks f_is_open f_open_demands f_pieces_inside f_first_gap f_find_missing f_without_item f_require_generated f_can_spare f_prune_pieces f_law_deck f_law_draw f_law_line f_law_interval f_law_intervals f_law_conflict f_law_independent f_law_completions f_law_right f_law d_depth_changes d_find_blocks d_is_number d_is_position d_is_tuple_of d_is_interval d_has_position d_contains d_is_demand d_serves d_conflict d_is_independent d_demands_at_blocks d_is_open d_open_demands d_pieces_inside d_first_gap d_find_missing d_without_item d_require_generated d_can_spare d_prune_pieces d_law_deck d_law_draw d_law_line d_law_interval d_law_intervals d_law_conflict d_law_independent d_law_completions d_law_right d_law t_LAST_POSITION) : FnOk P w K mg base CX0 6 f_prune_pieces d_prune_pieces ["targets", "pieces"] sp_prune_pieces := by
  refine T.F_prune_pieces.ok sc_prune_pieces (fun vs H Q E h => ?_) (fun cdv A outer s H vs Q E hr h => ?_)
  · obtain ⟨a, b, tus, us, ts, ps, rfl, _⟩ := h
    rfl
  · obtain ⟨a, b, tus, us, ts, ps, rfl, ha, tiv, tg, hb, iv, pc, few, em, q⟩ := h
    have lu := iv.length
    refine ⟨_, (pss_cons (ps_expr (pe_call (ok_require_generated T) (hr.mono (by decide)) (by rfl) T.g_require_generated T.F_require_generated.kp T.b_require_generated .nil pass0 (pa_cons (pv 0) (pa_cons (pv 1) pa_nil))))
      (pss_cons (ps_set (i := 2) sc_prune_pieces.nd rfl (Or.inl rfl) (pv 1))
      (pss_cons (ps_for PassesOwn.never rfl (pi_tup (pv 1)) (pg_name (i := 3) sc_prune_pieces.nd rfl (Or.inl rfl))
      (pss_one (ps_if (pt_val (pe_call (ok_can_spare T) (hr.mono (by decide)) (by rfl) T.g_can_spare T.F_can_spare.kp T.b_can_spare .nil pass0 (pa_cons (pv 0) (pa_cons (pv 2) (pa_cons (pv 3) pa_nil)))))
      (pss_one (ps_set (i := 2) sc_prune_pieces.nd rfl (Or.inl rfl) (pe_call (ok_without_item T) (hr.mono (by decide)) (by rfl) T.g_without_item T.F_without_item.kp T.b_without_item .nil pass0 (pa_cons (pv 2) (pa_cons (pv 3) pa_nil)))))
      pss_nil)))
      (pss_one (ps_ret (pv 2)))))), ?_⟩
    refine ⟨.ref a, rfl, .ref b, rfl, a, b, tus, us, ts, ps, rfl, ha, tiv, tg, hb, iv, pc, few, em, fun H1 s1 => ?_⟩
    refine ⟨.ref b, rfl, .ref b, rfl, b, rfl, ⟨_, SqT.of (s1 _ _ hb)⟩, ?_⟩
    refine for_tup (K := K) (a := b) (xs := us) (D := ⟨_, _, fun _ _ => True, fun _ _ => True⟩) (fun i σ H' => Same H H' ∧ ∃ p ws y3, H' p = some (.tup ws) ∧ Ivs H' ws (prO ts ps (ps.take i)) ∧ σ = [some (.ref a), some (.ref b), some (.ref p), y3]) ⟨s1, b, us, _, s1 _ _ hb, iv.same s1, rfl⟩ (fun i σ H' _ h => SqT.of (h.1 _ _ hb)) ?_ ?_
    · rintro i x σ H2 hi ⟨s2, p, ws, y3, ep, ivw, rfl⟩
      obtain ⟨c, x, y, rfl, exy, hc⟩ := iv.get hi
      have tk : ps.take (i + 1) = ps.take i ++ [(x, y)] := by
        rw [List.take_add_one, exy]
        rfl
      have pl := prO_len ts (ps.take i) ps
      have pcl : Pc (prO ts ps (ps.take i)) := pc.prO
      refine ⟨.ref a, rfl, .ref p, rfl, .ref c, rfl, a, p, c, tus, ws, ts, prO ts ps (ps.take i), x, y, rfl, s2 _ _ ha, tiv.same s2, tg, ep, ivw, pcl, by omega, s2 _ _ hc, fun H3 s3 => ⟨_, rfl, ite2 (fun e => ?_) (fun e => ?_)⟩⟩
      · have s23 := s2.trans s3
        refine ⟨.ref p, rfl, .ref c, rfl, p, c, ws, _, x, y, rfl, s3 _ _ ep, ivw.same s3, by omega, s23 _ _ hc, fun H4 p4 w4 s4 e4 iv4 => ?_⟩
        refine ⟨s23.trans s4, p4, w4, _, e4, ?_, rfl⟩
        rw [tk, prO_snoc]
        unfold prF
        rw [if_pos e]
        exact iv4
      · refine ⟨s2.trans s3, p, ws, _, s3 _ _ ep, ?_, rfl⟩
        rw [tk, prO_snoc]
        unfold prF
        rw [if_neg e]
        exact ivw.same s3
    · rintro σ H2 ⟨s2, p, ws, y3, ep, ivw, rfl⟩
      rw [lu, List.take_length] at ivw
      exact ⟨.ref p, rfl, q _ p ws s2 ep ivw⟩

/-! ### for i, x in enumerate(t) -/
theorem for_enumT {K : PySem.W.Frag} {a : Addr} {xs : List V} {g : TG} {tb : TS} {D : Ends} {σ : L2.St} {H : Hp} (Pv : Nat → L2.St → Hp → Prop) (h0 : Pv 0 σ H) (hq : ∀ i σ H, Pv i σ H → SqT K H a xs)
    (hs : ∀ (i : Nat) (x : V) (t : Addr) (σ : L2.St) (H : Hp), xs[i]? = some x → Pv i σ H → H t = none → g (.ref t) σ (upd H t (.tup [.int (i : Nat), x])) fun σ2 H2 => tb { D with nx := Pv (i + 1), ct := Pv (i + 1), bk := D.nx } σ2 H2) (hd : ∀ σ H, Pv xs.length σ H → D.nx σ H) :
    ∃ W : Nat → Nat → L2.St → Hp → Prop, (∃ m, W 0 m σ H) ∧ ∀ i m σ H, W i m σ H →
      ((IteT K a xs.length).stop i H ∧ D.nx σ H) ∨ ((IteT K a xs.length).go i H ∧ ∃ N : L2.St → Hp → Prop, (∀ σ' H', N σ' H' → ∃ m', m' < m ∧ W (i + 1) m' σ' H') ∧ ∀ v H', (IteT K a xs.length).yld i H v H' → g v σ H' fun σ2 H2 => tb { D with nx := N, ct := N, bk := D.nx } σ2 H2) := by
  refine ⟨fun i m σ H => i + m = xs.length ∧ Pv i σ H, ⟨xs.length, by omega, h0⟩, ?_⟩
  rintro i m σ H ⟨im, p⟩
  have hx := hq i σ H p
  by_cases c : i < xs.length
  · refine .inr ⟨⟨xs, xs[i], hx, List.getElem?_eq_getElem c, rfl⟩, Pv (i + 1), fun σ' H' p' => ⟨m - 1, by omega, by omega, p'⟩, ?_⟩
    rintro v H' ⟨t, x, rfl, nt, rfl, at_⟩
    exact hs i x t σ H (at_ xs hx) p nt
  · refine .inl ⟨⟨xs, hx, rfl, by omega⟩, hd σ H ?_⟩
    have : i = xs.length := by omega
    rw [← this]
    exact p

/-! ### small facts that plans want -/
theorem kit_tupT {K : PySem.W.Frag} : PySem.W.kitOne K (.type "tuple") (.type "tuple") = some true := kit_ty (a := "tuple") (b := "tuple") (r := true) (by decide +kernel)
theorem kit_intI {K : PySem.W.Frag} : PySem.W.kitOne K (.type "int") (.type "int") = some true := kit_ty (a := "int") (b := "int") (r := true) (by decide +kernel)
theorem kit_intB {K : PySem.W.Frag} : PySem.W.kitOne K (.type "int") (.type "bool") = some false := kit_ty (a := "int") (b := "bool") (r := false) (by decide +kernel)

def sp_conflict : Sp := fun vs H Q _ => ∃ (v1 v2 : V) (p1 lo1 hi1 p2 lo2 hi2 : Int), vs = [v1, v2] ∧ Dm H v1 p1 lo1 hi1 ∧ Dm H v2 p2 lo2 hi2 ∧ Q (.bl (cf (p1, lo1, hi1) (p2, lo2, hi2))) H
theorem cf_at {p1 lo1 hi1 p2 lo2 hi2 : Int} : cf (p1, lo1, hi1) (p2, lo2, hi2) = (atP lo2 hi2 p1 && atP lo1 hi1 p2) := by
  rw [Bool.eq_iff_iff, cf_iff, Bool.and_eq_true]
  unfold atP
  rw [Bool.and_eq_true, Bool.and_eq_true, decide_eq_true_eq, decide_eq_true_eq, decide_eq_true_eq, decide_eq_true_eq]
theorem ok_conflict (T : Tx K mg f_depth_changes f_find_blocks f_is_number f_is_position f_is_tuple_of f_is_interval f_has_position f_contains f_is_demand f_serves f_conflict f_is_independent f_demands_at_blocks f_is_open f_open_demands f_pieces_inside f_first_gap f_find_missing f_without_item f_require_generated f_can_spare f_prune_pieces f_law_deck f_law_draw f_law_line f_law_interval f_law_intervals f_law_conflict f_law_independent f_law_completions f_law_right f_law d_depth_changes d_find_blocks d_is_number d_is_position d_is_tuple_of d_is_interval d_has_position d_contains d_is_demand d_serves d_conflict d_is_independent d_demands_at_blocks d_is_open d_open_demands d_pieces_inside d_first_gap d_find_missing d_without_item d_require_generated d_can_spare d_prune_pieces d_law_deck d_law_draw d_law_line d_law_interval d_law_intervals d_law_conflict d_law_independent d_law_completions d_law_right d_law t_LAST_POSITION) : FnOk P w K mg base CX0 2 f_conflict d_conflict ["first", "second"] sp_conflict := by
  refine T.F_conflict.ok sc_conflict (fun vs H Q E h => ?_) (fun cdv A outer s H vs Q E hr h => ?_)
  · obtain ⟨v1, v2, p1, lo1, hi1, p2, lo2, hi2, rfl, _⟩ := h
    rfl
  · obtain ⟨v1, v2, p1, lo1, hi1, p2, lo2, hi2, rfl, d1, d2, q⟩ := h
    refine ⟨_, (pss_one (ps_ret (pe_and (pe_call (ok_has_position T) (hr.mono (by decide)) (by rfl) T.g_has_position T.F_has_position.kp T.b_has_position .nil pass0 (pa_cons (pe_ix ix_tup (pv 1) pe_int (fun _ _ => rfl)) (pa_cons (pe_ix ix_tup (pv 0) pe_int (fun _ _ => rfl)) pa_nil))) (pe_one (pe_call (ok_has_position T) (hr.mono (by decide)) (by rfl) T.g_has_position T.F_has_position.kp T.b_has_position .nil pass0 (pa_cons (pe_ix ix_tup (pv 0) pe_int (fun _ _ => rfl)) (pa_cons (pe_ix ix_tup (pv 1) pe_int (fun _ _ => rfl)) pa_nil))))))), ?_⟩
    obtain ⟨u1, t1, rfl, e11, e12⟩ := d1.ex
    obtain ⟨u2, t2, rfl, e21, e22⟩ := d2.ex
    rw [cf_at] at q
    refine ⟨.ref u2, rfl, u2, _, 1, .ref t2, rfl, rfl, SqT.of e21, rfl, .ref u1, rfl, u1, _, 0, .int p1, rfl, rfl, SqT.of e11, rfl, t2, lo2, hi2, p1, rfl, e22, _, rfl, ite2 (fun c => ?_) (fun c => ?_)⟩
    · refine ⟨.ref u1, rfl, u1, _, 1, .ref t1, rfl, rfl, SqT.of e11, rfl, .ref u2, rfl, u2, _, 0, .int p2, rfl, rfl, SqT.of e21, rfl, t1, lo1, hi1, p2, rfl, e12, ?_⟩
      rw [c] at q
      exact q
    · rw [Bool.not_eq_true] at c
      rw [c] at q
      exact q

/-! ### is_independent, of right demands (sohold has it too) -/
def sp_is_number : Sp := fun vs H Q _ => ∃ i : Int, vs = [.int i] ∧ Q (.bl true) H
theorem ok_is_number (T : Tx K mg f_depth_changes f_find_blocks f_is_number f_is_position f_is_tuple_of f_is_interval f_has_position f_contains f_is_demand f_serves f_conflict f_is_independent f_demands_at_blocks f_is_open f_open_demands f_pieces_inside f_first_gap f_find_missing f_without_item f_require_generated f_can_spare f_prune_pieces f_law_deck f_law_draw f_law_line f_law_interval f_law_intervals f_law_conflict f_law_independent f_law_completions f_law_right f_law d_depth_changes d_find_blocks d_is_number d_is_position d_is_tuple_of d_is_interval d_has_position d_contains d_is_demand d_serves d_conflict d_is_independent d_demands_at_blocks d_is_open d_open_demands d_pieces_inside d_first_gap d_find_missing d_without_item d_require_generated d_can_spare d_prune_pieces d_law_deck d_law_draw d_law_line d_law_interval d_law_intervals d_law_conflict d_law_independent d_law_completions d_law_right d_law t_LAST_POSITION) : FnOk P w K mg base CX0 1 f_is_number d_is_number ["value"] sp_is_number := by
  refine T.F_is_number.ok sc_is_number (fun vs H Q E h => ?_) (fun cdv A outer s H vs Q E hr h => ?_)
  · obtain ⟨i, rfl, _⟩ := h
    rfl
  · obtain ⟨i, rfl, q⟩ := h
    refine ⟨_, (pss_one (ps_ret (pe_and (pe_callB call_isi (by rfl) T.z_isinstance (by decide +kernel) (pa_cons (pv 0) (pa_cons (pe_bltn (v := .ty "int") (u := .type "int") (by rfl) T.z_int (by decide +kernel) rfl) pa_nil))) (pe_one (pe_not (pe_callB call_isi (by rfl) T.z_isinstance (by decide +kernel) (pa_cons (pv 0) (pa_cons (pe_bltn (v := .ty "bool") (u := .type "bool") (by rfl) T.z_bool (by decide +kernel) rfl) pa_nil)))))))), ?_⟩
    refine ⟨.int i, rfl, .int i, .ty "int", _, _, _, rfl, .ty "int", .base (.int i), kit_intI, _, rfl, iteT ?_⟩
    exact ⟨.int i, rfl, .int i, .ty "bool", _, _, _, rfl, .ty "bool", .base (.int i), kit_intB, _, rfl, q⟩
def sp_is_position : Sp := fun vs H Q _ => ∃ i : Int, vs = [.int i] ∧ (0 ≤ i ∧ i ≤ 1000000000000) ∧ Q (.bl true) H
theorem ok_is_position (T : Tx K mg f_depth_changes f_find_blocks f_is_number f_is_position f_is_tuple_of f_is_interval f_has_position f_contains f_is_demand f_serves f_conflict f_is_independent f_demands_at_blocks f_is_open f_open_demands f_pieces_inside f_first_gap f_find_missing f_without_item f_require_generated f_can_spare f_prune_pieces f_law_deck f_law_draw f_law_line f_law_interval f_law_intervals f_law_conflict f_law_independent f_law_completions f_law_right f_law d_depth_changes d_find_blocks d_is_number d_is_position d_is_tuple_of d_is_interval d_has_position d_contains d_is_demand d_serves d_conflict d_is_independent d_demands_at_blocks d_is_open d_open_demands d_pieces_inside d_first_gap d_find_missing d_without_item d_require_generated d_can_spare d_prune_pieces d_law_deck d_law_draw d_law_line d_law_interval d_law_intervals d_law_conflict d_law_independent d_law_completions d_law_right d_law t_LAST_POSITION) : FnOk P w K mg base CX0 2 f_is_position d_is_position ["value"] sp_is_position := by
  refine T.F_is_position.ok sc_is_position (fun vs H Q E h => ?_) (fun cdv A outer s H vs Q E hr h => ?_)
  · obtain ⟨i, rfl, _⟩ := h
    rfl
  · obtain ⟨i, rfl, b, q⟩ := h
    refine ⟨_, (pss_one (ps_ret (pe_and (pe_call (ok_is_number T) (hr.mono (by decide)) (by rfl) T.g_is_number T.F_is_number.kp T.b_is_number .nil pass0 (pa_cons (pv 0) pa_nil)) (pe_one (pe_chain op_le op_le pe_int (pv 0) (pe_glob (v := .int 1000000000000) (by rfl) T.c_LAST_POSITION ⟨_, rfl⟩)))))), ?_⟩
    refine ⟨.int i, rfl, i, rfl, _, rfl, iteT ?_⟩
    refine ⟨.int i, rfl, _, _, rfl, rfl, _, rfl, ?_⟩
    rw [decide_eq_true b.1]
    refine iteT ⟨_, _, rfl, rfl, ?_⟩
    have q' : Q (.bl (decide (i ≤ 1000000000000))) H := by
      rw [decide_eq_true b.2]
      exact q
    exact q'
def sp_is_tuple_of : Sp := fun vs H Q _ => ∃ (a : Addr) (x y : V), vs = [.ref a, .int 2] ∧ H a = some (.tup [x, y]) ∧ Q (.bl true) H
theorem ok_is_tuple_of (T : Tx K mg f_depth_changes f_find_blocks f_is_number f_is_position f_is_tuple_of f_is_interval f_has_position f_contains f_is_demand f_serves f_conflict f_is_independent f_demands_at_blocks f_is_open f_open_demands f_pieces_inside f_first_gap f_find_missing f_without_item f_require_generated f_can_spare f_prune_pieces f_law_deck f_law_draw f_law_line f_law_interval f_law_intervals f_law_conflict f_law_independent f_law_completions f_law_right f_law d_depth_changes d_find_blocks d_is_number d_is_position d_is_tuple_of d_is_interval d_has_position d_contains d_is_demand d_serves d_conflict d_is_independent d_demands_at_blocks d_is_open d_open_demands d_pieces_inside d_first_gap d_find_missing d_without_item d_require_generated d_can_spare d_prune_pieces d_law_deck d_law_draw d_law_line d_law_interval d_law_intervals d_law_conflict d_law_independent d_law_completions d_law_right d_law t_LAST_POSITION) : FnOk P w K mg base CX0 1 f_is_tuple_of d_is_tuple_of ["value", "length"] sp_is_tuple_of := by
  refine T.F_is_tuple_of.ok sc_is_tuple_of (fun vs H Q E h => ?_) (fun cdv A outer s H vs Q E hr h => ?_)
  · obtain ⟨a, x, y, rfl, _⟩ := h
    rfl
  · obtain ⟨a, x, y, rfl, ha, q⟩ := h
    refine ⟨_, (pss_one (ps_ret (pe_and (pe_callB call_isi (by rfl) T.z_isinstance (by decide +kernel) (pa_cons (pv 0) (pa_cons (pe_bltn (v := .ty "tuple") (u := .type "tuple") (by rfl) T.z_tuple (by decide +kernel) rfl) pa_nil))) (pe_one (pe_cmpR op_eq (pe_callB call_len_seq (by rfl) T.z_len PySem.boot_len (pa_cons (pv 0) pa_nil)) (pv 1) (nomark _)))))), ?_⟩
    refine ⟨.ref a, rfl, .ref a, .ty "tuple", _, _, _, rfl, .ty "tuple", .base (.tup ha), kit_tupT, _, rfl, iteT ?_⟩
    exact ⟨.ref a, rfl, a, _, rfl, .inr (SqT.of ha), .int 2, rfl, rfl, q⟩
def sp_is_interval : Sp := fun vs H Q _ => ∃ (a : Addr) (x y : Int), vs = [.ref a] ∧ H a = some (.tup [.int x, .int y]) ∧ ((0 ≤ x ∧ x ≤ y) ∧ y ≤ 1000000000000) ∧ Q (.bl true) H
theorem ok_is_interval (T : Tx K mg f_depth_changes f_find_blocks f_is_number f_is_position f_is_tuple_of f_is_interval f_has_position f_contains f_is_demand f_serves f_conflict f_is_independent f_demands_at_blocks f_is_open f_open_demands f_pieces_inside f_first_gap f_find_missing f_without_item f_require_generated f_can_spare f_prune_pieces f_law_deck f_law_draw f_law_line f_law_interval f_law_intervals f_law_conflict f_law_independent f_law_completions f_law_right f_law d_depth_changes d_find_blocks d_is_number d_is_position d_is_tuple_of d_is_interval d_has_position d_contains d_is_demand d_serves d_conflict d_is_independent d_demands_at_blocks d_is_open d_open_demands d_pieces_inside d_first_gap d_find_missing d_without_item d_require_generated d_can_spare d_prune_pieces d_law_deck d_law_draw d_law_line d_law_interval d_law_intervals d_law_conflict d_law_independent d_law_completions d_law_right d_law t_LAST_POSITION) : FnOk P w K mg base CX0 3 f_is_interval d_is_interval ["value"] sp_is_interval := by
  refine T.F_is_interval.ok sc_is_interval (fun vs H Q E h => ?_) (fun cdv A outer s H vs Q E hr h => ?_)
  · obtain ⟨a, x, y, rfl, _⟩ := h
    rfl
  · obtain ⟨a, x, y, rfl, ha, b, q⟩ := h
    refine ⟨_, (pss_cons (ps_if (pt_not (pt_val (pe_call (ok_is_tuple_of T) (hr.mono (by decide)) (by rfl) T.g_is_tuple_of T.F_is_tuple_of.kp T.b_is_tuple_of .nil pass0 (pa_cons (pv 0) (pa_cons pe_int pa_nil)))))
      (pss_one (ps_ret pe_bl))
      pss_nil)
      (pss_cons (ps_asg (pv 0) (pg_tup rfl (pgs_cons (pg_name (i := 1) sc_is_interval.nd rfl (Or.inl rfl)) (pgs_cons (pg_name (i := 2) sc_is_interval.nd rfl (Or.inl rfl)) pgs_nil))))
      (pss_one (ps_ret (pe_and (pe_call (ok_is_position T) (hr.mono (by decide)) (by rfl) T.g_is_position T.F_is_position.kp T.b_is_position .nil pass0 (pa_cons (pv 1) pa_nil)) (pe_and (pe_call (ok_is_position T) (hr.mono (by decide)) (by rfl) T.g_is_position T.F_is_position.kp T.b_is_position .nil pass0 (pa_cons (pv 2) pa_nil)) (pe_one (pe_cmpR op_le (pv 1) (pv 2) (nomark _))))))))), ?_⟩
    refine ⟨.ref a, rfl, a, .int x, .int y, rfl, ha, _, rfl, iteF ?_⟩
    refine ⟨.ref a, rfl, a, _, rfl, SqT.of ha, rfl, .int x, [.int y], rfl, .int y, [], rfl, rfl, ?_⟩
    refine ⟨.int x, rfl, x, rfl, by omega, _, rfl, iteT ?_⟩
    refine ⟨.int y, rfl, y, rfl, by omega, _, rfl, iteT ?_⟩
    refine ⟨.int x, rfl, .int y, rfl, _, _, rfl, rfl, ?_⟩
    have q' : Q (.bl (decide (x ≤ y))) H := by
      rw [decide_eq_true b.1.2]
      exact q
    exact q'
def sp_is_demand : Sp := fun vs H Q _ => ∃ (a t : Addr) (p x y : Int), vs = [.ref a] ∧ H a = some (.tup [.int p, .ref t]) ∧ H t = some (.tup [.int x, .int y]) ∧ (0 ≤ x ∧ x ≤ p ∧ p ≤ y ∧ y ≤ 1000000000000) ∧ Q (.bl true) H
theorem ok_is_demand (T : Tx K mg f_depth_changes f_find_blocks f_is_number f_is_position f_is_tuple_of f_is_interval f_has_position f_contains f_is_demand f_serves f_conflict f_is_independent f_demands_at_blocks f_is_open f_open_demands f_pieces_inside f_first_gap f_find_missing f_without_item f_require_generated f_can_spare f_prune_pieces f_law_deck f_law_draw f_law_line f_law_interval f_law_intervals f_law_conflict f_law_independent f_law_completions f_law_right f_law d_depth_changes d_find_blocks d_is_number d_is_position d_is_tuple_of d_is_interval d_has_position d_contains d_is_demand d_serves d_conflict d_is_independent d_demands_at_blocks d_is_open d_open_demands d_pieces_inside d_first_gap d_find_missing d_without_item d_require_generated d_can_spare d_prune_pieces d_law_deck d_law_draw d_law_line d_law_interval d_law_intervals d_law_conflict d_law_independent d_law_completions d_law_right d_law t_LAST_POSITION) : FnOk P w K mg base CX0 4 f_is_demand d_is_demand ["value"] sp_is_demand := by
  refine T.F_is_demand.ok sc_is_demand (fun vs H Q E h => ?_) (fun cdv A outer s H vs Q E hr h => ?_)
  · obtain ⟨a, t, p, x, y, rfl, _⟩ := h
    rfl
  · obtain ⟨a, t, p, x, y, rfl, ha, ht, b, q⟩ := h
    refine ⟨_, (pss_cons (ps_if (pt_not (pt_val (pe_call (ok_is_tuple_of T) (hr.mono (by decide)) (by rfl) T.g_is_tuple_of T.F_is_tuple_of.kp T.b_is_tuple_of .nil pass0 (pa_cons (pv 0) (pa_cons pe_int pa_nil)))))
      (pss_one (ps_ret pe_bl))
      pss_nil)
      (pss_cons (ps_asg (pv 0) (pg_tup rfl (pgs_cons (pg_name (i := 1) sc_is_demand.nd rfl (Or.inl rfl)) (pgs_cons (pg_name (i := 2) sc_is_demand.nd rfl (Or.inl rfl)) pgs_nil))))
      (pss_one (ps_ret (pe_and (pe_call (ok_is_position T) (hr.mono (by decide)) (by rfl) T.g_is_position T.F_is_position.kp T.b_is_position .nil pass0 (pa_cons (pv 1) pa_nil)) (pe_and (pe_call (ok_is_interval T) (hr.mono (by decide)) (by rfl) T.g_is_interval T.F_is_interval.kp T.b_is_interval .nil pass0 (pa_cons (pv 2) pa_nil)) (pe_one (pe_call (ok_has_position T) (hr.mono (by decide)) (by rfl) T.g_has_position T.F_has_position.kp T.b_has_position .nil pass0 (pa_cons (pv 2) (pa_cons (pv 1) pa_nil)))))))))), ?_⟩
    refine ⟨.ref a, rfl, a, .int p, .ref t, rfl, ha, _, rfl, iteF ?_⟩
    refine ⟨.ref a, rfl, a, _, rfl, SqT.of ha, rfl, .int p, [.ref t], rfl, .ref t, [], rfl, rfl, ?_⟩
    refine ⟨.int p, rfl, p, rfl, by omega, _, rfl, iteT ?_⟩
    refine ⟨.ref t, rfl, t, x, y, rfl, ht, by omega, _, rfl, iteT ?_⟩
    refine ⟨.ref t, rfl, .int p, rfl, t, x, y, p, rfl, ht, ?_⟩
    have e : atP x y p = true := by
      unfold atP
      rw [decide_eq_true b.2.1, decide_eq_true b.2.2.1]
      rfl
    rw [e]
    exact q
theorem all_true (n : Nat) : (List.replicate n true).all id = true := by
  induction n with
  | zero => rfl
  | succ n ih =>
    rw [List.replicate_succ, List.all_cons, ih]
    rfl
theorem any_false (n : Nat) : (List.replicate n false).any id = false := by
  induction n with
  | zero => rfl
  | succ n ih =>
    rw [List.replicate_succ, List.any_cons, ih]
    rfl
/-- demands that do not conflict -/
structure IndOk (W : List Dem) : Prop where
  ok : ∀ d ∈ W, 0 ≤ d.2.1 ∧ d.2.1 ≤ d.1 ∧ d.1 ≤ d.2.2 ∧ d.2.2 ≤ 1000000000000
  ind : Ind W
def sp_is_independent : Sp := fun vs H Q _ => ∃ (v : Addr) (zs : List V) (W : List Dem), vs = [.ref v] ∧ H v = some (.tup zs) ∧ Dms H zs W ∧ W.length < 900 ∧ IndOk W ∧ ∀ H', Same H H' → Q (.bl true) H'
theorem ok_is_independent (T : Tx K mg f_depth_changes f_find_blocks f_is_number f_is_position f_is_tuple_of f_is_interval f_has_position f_contains f_is_demand f_serves f_conflict f_is_independent f_demands_at_blocks f_is_open f_open_demands f_pieces_inside f_first_gap f_find_missing f_without_item f_require_generated f_can_spare f_prune_pieces f_law_deck f_law_draw f_law_line f_law_interval f_law_intervals f_law_conflict f_law_independent f_law_completions f_law_right f_law d_depth_changes d_find_blocks d_is_number d_is_position d_is_tuple_of d_is_interval d_has_position d_contains d_is_demand d_serves d_conflict d_is_independent d_demands_at_blocks d_is_open d_open_demands d_pieces_inside d_first_gap d_find_missing d_without_item d_require_generated d_can_spare d_prune_pieces d_law_deck d_law_draw d_law_line d_law_interval d_law_intervals d_law_conflict d_law_independent d_law_completions d_law_right d_law t_LAST_POSITION) : FnOk P w K mg base CX0 5 f_is_independent d_is_independent ["value"] sp_is_independent := by
  refine T.F_is_independent.ok sc_is_independent (fun vs H Q E h => ?_) (fun cdv A outer s H vs Q E hr h => ?_)
  · obtain ⟨v, zs, W, rfl, _⟩ := h
    rfl
  · obtain ⟨v, zs, W, rfl, hv, dm, few, ok, q⟩ := h
    refine ⟨_, (pss_cons (ps_if (PW.pt (pw_or (pt_not (pt_val (pe_callB call_isi (by rfl) T.z_isinstance (by decide +kernel) (pa_cons (pv 0) (pa_cons (pe_bltn (v := .ty "tuple") (u := .type "tuple") (by rfl) T.z_tuple (by decide +kernel) rfl) pa_nil))))) (pw_or1 (pt_not (pt_val (pe_callB (cr_all rfl) (by rfl) T.z_all (by decide +kernel) (pa_cons (pe_lc (own := [("item", 1)]) (g := (gName 1)) (tt := tYes) (by rfl) sc_is_independent.nd (pi_tup (pv 0)) (blkOk_by (own := [("item", 1)]) (N := N_is_independent) (sc := defScope s_is_independent) (by decide +kernel)) (fun _ _ _ _ _ => (pg_name (i := 1) sc_is_independent.nd rfl (Or.inl rfl))) (fun _ _ _ _ _ => pts_nil) (fun _ _ _ _ _ => (pe_call (ok_is_demand T) (hr.mono (by decide)) (by rfl) T.g_is_demand T.F_is_demand.kp T.b_is_demand .nil pass0 (pa_cons (pv 1) pa_nil)))) pa_nil)))))))
      (pss_one (ps_ret pe_bl))
      pss_nil)
      (pss_cons (ps_for PassesOwn.never rfl (pi_enumT (by rfl) T.z_enumerate (pa_cons (pv 0) pa_nil)) (pg_tup rfl (pgs_cons (pg_name (i := 2) sc_is_independent.nd rfl (Or.inl rfl)) (pgs_cons (pg_name (i := 3) sc_is_independent.nd rfl (Or.inr rfl)) pgs_nil)))
      (pss_one (ps_if (pt_val (pe_callB (cr_any rfl) (by rfl) T.z_any (by decide +kernel) (pa_cons (pe_lc (own := [("second", 4)]) (g := (gName 4)) (tt := tYes) (by rfl) sc_is_independent.nd (pi_tup (pe_slice sl_tupA (pv 0) po_none (po_some (pv 2)))) (blkOk_by (own := [("second", 4)]) (N := N_is_independent) (sc := defScope s_is_independent) (by decide +kernel)) (fun _ _ _ _ _ => (pg_name (i := 4) sc_is_independent.nd rfl (Or.inl rfl))) (fun _ _ _ _ _ => pts_nil) (fun _ _ _ _ _ => (pe_call (ok_conflict T) (hr.mono (by decide)) (by rfl) T.g_conflict T.F_conflict.kp T.b_conflict .nil pass0 (pa_cons (pv 3) (pa_cons (pv 4) pa_nil))))) pa_nil)))
      (pss_one (ps_ret pe_bl))
      pss_nil)))
      (pss_one (ps_ret pe_bl)))), ?_⟩
    have lz := dm.length
    refine ⟨.ref v, rfl, .ref v, .ty "tuple", _, _, _, rfl, .ty "tuple", .base (.tup hv), kit_tupT, _, rfl, iteF ?_⟩
    refine ⟨.ref v, rfl, v, rfl, ⟨_, SqT.of hv⟩, fun D nD => ?_⟩
    refine lcT (K := K) (a := v) (xs := zs) (fun j H' ws => ws = (List.replicate j true).map V.bl) nD (fun H' s => SqT.of (s _ _ (hv))) (by omega) (fun _ _ _ _ t r => r) (fun j H' ws r => (by rw [r, List.length_map, List.length_replicate]; exact Nat.le_refl _)) (fun _ => rfl) ?_ ?_
    · rintro j z H' N acc hj sm eA sz rr no yes
      obtain ⟨p, lo, hi, ed, dz⟩ := dm.get hj
      have k1 := ok.ok _ (List.mem_of_getElem? ed)
      obtain ⟨u, t, rfl, e1, e2⟩ := (dz.same sm).ex
      refine ⟨rfl, .ref u, rfl, u, t, p, lo, hi, rfl, e1, e2, k1, yes H' _ (Same.refl _) ?_⟩
      rw [rr, List.replicate_succ', List.map_append]
      rfl
    intro H1 ws s1 eD rr
    subst rr
    refine ⟨D, List.replicate zs.length true, rfl, SqL.of eD, ?_⟩
    rw [all_true]
    refine ⟨_, rfl, iteF ?_⟩
    refine ⟨.ref v, rfl, v, zs, rfl, SqT.of (s1 _ _ hv), ?_⟩
    refine for_enumT (K := K) (a := v) (xs := zs) (D := ⟨_, _, fun _ _ => True, fun _ _ => True⟩) (fun j σ H' => Same H H' ∧ ∃ y1 y2 y3 y4, σ = [some (.ref v), y1, y2, y3, y4])
      ⟨s1, _, _, _, _, rfl⟩ (fun j σ H' h => SqT.of (h.1 _ _ hv)) ?_ ?_
    · rintro k z TT σ H3 hz ⟨s3, y1, y2, y3, y4, rfl⟩ nT
      obtain ⟨p, lo, hi, ed, dz⟩ := dm.get hz
      have sT := same_new (o := .tup [.int (k : Nat), z]) nT
      have eT := upd_same (H := H3) (a := TT) (o := .tup [.int (k : Nat), z])
      generalize upd H3 TT (.tup [.int (k : Nat), z]) = H4 at *
      have s4 := s3.trans sT
      have dz4 := dz.same s4
      refine ⟨TT, _, rfl, SqT.of eT, rfl, .int (k : Nat), [z], rfl, z, [], rfl, rfl, ?_⟩
      refine ⟨.ref v, rfl, .int (k : Nat), rfl, k, rfl, slA_any (s4 _ _ hv) (fun H7 sl s7 esl => ?_)⟩
      rw [cutTo] at esl
      have s07 := s4.trans s7
      refine ⟨sl, rfl, ⟨_, SqT.of esl⟩, fun D3 nD3 => ?_⟩
      refine lcT (K := K) (a := sl) (xs := (zs.take k)) (fun j H' ws => ws = (List.replicate j false).map V.bl) nD3 (fun H' s => SqT.of (s _ _ (esl))) (by rw [List.length_take]; omega) (fun _ _ _ _ t r => r) (fun j H' ws r => (by rw [r, List.length_map, List.length_replicate]; exact Nat.le_refl _)) (fun _ => rfl) ?_ ?_
      · rintro j o H' N acc hj sm eA sz rr no yes
        obtain ⟨p2, lo2, hi2, eo, dzo⟩ := ((dm.same s07).take k).get hj
        have jk : j < k := by
          have := (List.getElem?_eq_some_iff.mp hj).1
          rw [List.length_take] at this
          omega
        rw [List.getElem?_take_of_lt jk] at eo
        have nc : cf (p, lo, hi) (p2, lo2, hi2) = false := by
          obtain ⟨z1, w1⟩ := List.getElem?_eq_some_iff.mp eo
          obtain ⟨z2, w2⟩ := List.getElem?_eq_some_iff.mp ed
          have z := List.pairwise_iff_getElem.mp ok.ind j k z1 z2 jk
          rw [w1, w2] at z
          rw [cf_comm]
          exact z
        refine ⟨rfl, z, rfl, o, rfl, z, o, p, lo, hi, p2, lo2, hi2, rfl, (dz4.same s7).same sm, dzo.same sm, ?_⟩
        rw [nc]
        refine yes H' _ (Same.refl _) ?_
        rw [rr, List.replicate_succ', List.map_append]
        rfl
      intro H8 w8 s8 eD3 rr
      subst rr
      refine ⟨D3, List.replicate (zs.take k).length false, rfl, SqL.of eD3, ?_⟩
      rw [any_false]
      exact ⟨_, rfl, iteF ⟨s07.trans s8, _, _, _, _, rfl⟩⟩
    · rintro σ H3 ⟨s3, y1, y2, y3, y4, rfl⟩
      exact q H3 s3

/-! ### sets: how many -/
section
variable {X : Cx}
def rSetOfI3 (K : PySem.W.Frag) (w : World) : List V → Hp → VK → Prop := fun xs H Q => ∃ (l : Addr) (ns : List Int), xs = [V.ref l] ∧ SqL K H l (ns.map V.int) ∧ ns.length < 60 ∧
  ∀ (H' : Hp) (a : Addr) (n : Nat) (L : List Int), Same H H' → H a = none → H' a = some (SetO w a (fun j => decide (j ∈ ns)) n) → L.Nodup → L.length = n → (∀ j, j ∈ L ↔ j ∈ ns) → Q (.ref a) H'
theorem cr_setOfI3 (calm : X.calm = true) : CallR X (.type "set") (rSetOfI3 X.K X.w) := by
  intro pins s σ H xs us Q I r h
  obtain ⟨l, ns, rfl, hl, few, q⟩ := h
  rw [Vals.ref1 r]
  obtain ⟨its, rv, pl, _⟩ := I.list hl
  refine setL_ints (P := X.prog) (w := X.w) ns (I.ok.hd calm) pl.isList (ints_of_vals rv) (by unfold scanBound; omega) fun h2 tk n R le kp => ?_
  have R0 := R
  obtain ⟨o, es, ep, t, _, _, _, _, nd, hS, _, _, hn, _⟩ := R0
  exact ⟨.ref s.heap.objs.size, _, I.laid (t' := tk) kp (Nat.le_refl _) (setO_new R), rfl, q _ _ n (es.toList.map keyOf) (fun b x e => by rw [upd_ne (ne_of_none e (I.hok.fresh (Nat.le_refl _)))]; exact e) (I.hok.fresh (Nat.le_refl _)) upd_same nd (by rw [List.length_map, Array.length_toList]; exact hn) (fun j => ⟨fun hj => of_decide_eq_true ((hS j).mpr hj), fun hj => (hS j).mp (decide_eq_true hj)⟩)⟩
def rLenSetN (K : PySem.W.Frag) (P : Program) (w : World) : List V → Hp → VK → Prop := fun xs H Q => ∃ (a : Addr) (L : List (Addr × List Int)), xs = [.ref a] ∧ H a = some (SetTO P w a L) ∧ (∀ p ∈ L, SqT K H p.1 (p.2.map V.int)) ∧ ((L.map (·.2)).Nodup → Q (.int L.length) H)
theorem cr_lenSetN : CallR X (.builtin "len") (rLenSetN X.K X.prog X.w) := by
  intro ps s σ H xs us Q I r h
  obtain ⟨a, L, rfl, ha, hk, q⟩ := h
  rw [Vals.ref1 r]
  have nd : (L.map (·.2)).Nodup := by
    obtain ⟨_, _, _, _, _, _, nd, _⟩ := (I.hok a _ ha).1.ex
    exact nd
  obtain ⟨es, ep, t, R⟩ := SetT0.full (I.hok a _ ha).1 fun p hp => I.isT (hk p hp)
  have sz := R.size
  have fits := R.fits
  have few := R.few
  obtain ⟨o, ho, hex, hd⟩ := R.ob
  refine call_len_set ho hex hd fits ?_ ⟨.int es.size, H, I.tok _, ⟨_, rfl⟩, ?_⟩
  · omega
  · rw [sz]
    exact q nd
end

/-! ### demands chosen without conflicts -/
theorem Row.pc {ls : List Int} (ln : Ln ls) {ps : List (Int × Int)} (h : Row ls ps) : Pc ps := fun q hq => by
  have z := h.ok q hq
  have z1 := ln.ok _ z.1.1
  have z2 := ln.ok _ z.1.2
  omega
def sp_law_conflict : Sp := fun vs H Q _ => ∃ (v1 v2 : V) (p1 lo1 hi1 p2 lo2 hi2 : Int), vs = [v1, v2] ∧ Dm H v1 p1 lo1 hi1 ∧ Dm H v2 p2 lo2 hi2 ∧ Q (.bl (cf (p1, lo1, hi1) (p2, lo2, hi2))) H
theorem ok_law_conflict (T : Tx K mg f_depth_changes f_find_blocks f_is_number f_is_position f_is_tuple_of f_is_interval f_has_position f_contains f_is_demand f_serves f_conflict f_is_independent f_demands_at_blocks f_is_open f_open_demands f_pieces_inside f_first_gap f_find_missing f_without_item f_require_generated f_can_spare f_prune_pieces f_law_deck f_law_draw f_law_line f_law_interval f_law_intervals f_law_conflict f_law_independent f_law_completions f_law_right f_law d_depth_changes d_find_blocks d_is_number d_is_position d_is_tuple_of d_is_interval d_has_position d_contains d_is_demand d_serves d_conflict d_is_independent d_demands_at_blocks d_is_open d_open_demands d_pieces_inside d_first_gap d_find_missing d_without_item d_require_generated d_can_spare d_prune_pieces d_law_deck d_law_draw d_law_line d_law_interval d_law_intervals d_law_conflict d_law_independent d_law_completions d_law_right d_law t_LAST_POSITION) : FnOk P w K mg base CX0 1 f_law_conflict d_law_conflict ["_law_first", "_law_second"] sp_law_conflict := by
  refine T.F_law_conflict.ok sc_law_conflict (fun vs H Q E h => ?_) (fun cdv A outer s H vs Q E hr h => ?_)
  · obtain ⟨v1, v2, p1, lo1, hi1, p2, lo2, hi2, rfl, _⟩ := h
    rfl
  · obtain ⟨v1, v2, p1, lo1, hi1, p2, lo2, hi2, rfl, d1, d2, q⟩ := h
    refine ⟨_, (pss_cons (ps_par (by rfl) sc_law_conflict.nd (i := 2) (j := 3) rfl rfl (by decide) rfl rfl (pa_cons (pe_callB (call_max2 rfl) (by rfl) T.z_max (by decide +kernel) (pa_cons (pe_ix ix_tup (pe_ix ix_tup (pv 0) pe_int (fun _ _ => rfl)) pe_int (fun _ _ => rfl)) (pa_cons (pe_ix ix_tup (pe_ix ix_tup (pv 1) pe_int (fun _ _ => rfl)) pe_int (fun _ _ => rfl)) pa_nil))) (pa_cons (pe_callB (call_min2 rfl) (by rfl) T.z_min (by decide +kernel) (pa_cons (pe_ix ix_tup (pe_ix ix_tup (pv 0) pe_int (fun _ _ => rfl)) pe_int (fun _ _ => rfl)) (pa_cons (pe_ix ix_tup (pe_ix ix_tup (pv 1) pe_int (fun _ _ => rfl)) pe_int (fun _ _ => rfl)) pa_nil))) pa_nil)) (by rfl))
      (pss_one (ps_ret (pe_and (pe_chain op_le op_le (pv 2) (pe_ix ix_tup (pv 0) pe_int (fun _ _ => rfl)) (pv 3)) (pe_one (pe_chain op_le op_le (pv 2) (pe_ix ix_tup (pv 1) pe_int (fun _ _ => rfl)) (pv 3))))))), ?_⟩
    obtain ⟨⟨u1, t1, rfl, e11, e12⟩, k1, k2⟩ := d1
    obtain ⟨⟨u2, t2, rfl, e21, e22⟩, k3, k4⟩ := d2
    have unf : cf (p1, lo1, hi1) (p2, lo2, hi2) = decide ((lo2 ≤ p1 ∧ p1 ≤ hi2) ∧ lo1 ≤ p2 ∧ p2 ≤ hi1) := rfl
    refine ⟨.ref u1, rfl, u1, _, 1, .ref t1, rfl, rfl, SqT.of e11, rfl, t1, _, 0, .int lo1, rfl, rfl, SqT.of e12, rfl, .ref u2, rfl, u2, _, 1, .ref t2, rfl, rfl, SqT.of e21, rfl, t2, _, 0, .int lo2, rfl, rfl, SqT.of e22, rfl, lo1, lo2, rfl, ?_⟩
    refine ⟨.ref u1, rfl, u1, _, 1, .ref t1, rfl, rfl, SqT.of e11, rfl, t1, _, 1, .int hi1, rfl, rfl, SqT.of e12, rfl, .ref u2, rfl, u2, _, 1, .ref t2, rfl, rfl, SqT.of e21, rfl, t2, _, 1, .int hi2, rfl, rfl, SqT.of e22, rfl, hi1, hi2, rfl, ?_⟩
    refine ⟨_, _, rfl, ?_⟩
    have no : cf (p1, lo1, hi1) (p2, lo2, hi2) = false → Q (.bl false) H := fun e => by
      rw [e] at q
      exact q
    refine ⟨.int _, rfl, .ref u1, rfl, u1, _, 0, .int p1, rfl, rfl, SqT.of e11, rfl, _, _, rfl, rfl, _, rfl, ite2 (fun a1 => ?_) (fun a1 => ⟨_, rfl, iteF (no (by rw [unf]; exact decide_eq_false fun z => a1 (decide_eq_true (by split <;> omega))))⟩)⟩
    refine ⟨.int _, rfl, _, _, rfl, rfl, _, rfl, ite2 (fun a2 => ?_) (fun a2 => no (by rw [unf]; exact decide_eq_false fun z => a2 (decide_eq_true (by split <;> omega))))⟩
    refine ⟨.int _, rfl, .ref u2, rfl, u2, _, 0, .int p2, rfl, rfl, SqT.of e21, rfl, _, _, rfl, rfl, _, rfl, ite2 (fun a3 => ?_) (fun a3 => no (by rw [unf]; exact decide_eq_false fun z => a3 (decide_eq_true (by split <;> omega))))⟩
    refine ⟨.int _, rfl, _, _, rfl, rfl, ?_⟩
    have a1 := of_decide_eq_true a1
    have a2 := of_decide_eq_true a2
    have a3 := of_decide_eq_true a3
    have fin : ∀ b : Bool, b = cf (p1, lo1, hi1) (p2, lo2, hi2) → Q (.bl b) H := fun b e => e ▸ q
    refine fin _ ?_
    rw [unf]
    refine decide_eq_decide.mpr ⟨fun a4 => ?_, fun z => ?_⟩
    · split at a1 <;> split at a2 <;> split at a3 <;> split at a4 <;> omega
    · split <;> omega
theorem Dms.erase {H : Hp} {vs : List V} {ds : List (Int × Int × Int)} (h : Dms H vs ds) : ∀ k : Nat, Dms H (vs.eraseIdx k) (ds.eraseIdx k) := by
  induction h with
  | nil => exact fun _ => .nil
  | cons e h ih =>
    intro k
    cases k with
    | zero => exact h
    | succ k => exact .cons e (ih k)
def lenL (r : Addr) (H : Hp) : Nat := match H r with
  | some (.lst xs) => xs.length
  | _ => 0
theorem lenL_of {r : Addr} {H : Hp} {xs : List V} (h : H r = some (.lst xs)) : lenL r H = xs.length := by
  unfold lenL
  rw [h]
theorem seq_nat {k n : Nat} (h : k < n) : seqIndex? (k : Int) n = some k := by
  unfold seqIndex?
  have h1 : ¬ ((k : Int) < 0) := by omega
  have h2 : (k : Int) < n := by omega
  simp only [if_neg h1]
  rw [decide_eq_true h2, decide_eq_true (show (0 : Int) ≤ k by omega)]
  rfl
def sp_law_independent : Sp := fun vs H Q _ => ∃ (d c a : Addr) (n : Int) (zs : List V) (D : List Dem), vs = [.ref d, .ref a] ∧ Dk H d c n ∧ 0 ≤ n ∧ n < 900000 ∧ H a = some (.tup zs) ∧ Dms H zs D ∧ D.length ≤ 900 ∧
  ∀ H' l ws W m, Kp d c H H' → Dk H' d c m → n ≤ m → m ≤ n + D.length → H' l = some (.lst ws) → Off d c l → Dms H' ws W → (∀ x ∈ W, x ∈ D) → Ind W → W.length ≤ D.length → Q (.ref l) H'
theorem ok_law_independent (T : Tx K mg f_depth_changes f_find_blocks f_is_number f_is_position f_is_tuple_of f_is_interval f_has_position f_contains f_is_demand f_serves f_conflict f_is_independent f_demands_at_blocks f_is_open f_open_demands f_pieces_inside f_first_gap f_find_missing f_without_item f_require_generated f_can_spare f_prune_pieces f_law_deck f_law_draw f_law_line f_law_interval f_law_intervals f_law_conflict f_law_independent f_law_completions f_law_right f_law d_depth_changes d_find_blocks d_is_number d_is_position d_is_tuple_of d_is_interval d_has_position d_contains d_is_demand d_serves d_conflict d_is_independent d_demands_at_blocks d_is_open d_open_demands d_pieces_inside d_first_gap d_find_missing d_without_item d_require_generated d_can_spare d_prune_pieces d_law_deck d_law_draw d_law_line d_law_interval d_law_intervals d_law_conflict d_law_independent d_law_completions d_law_right d_law t_LAST_POSITION) : FnOk P w K mg base CX0 2 f_law_independent d_law_independent ["_law_deck_here", "_law_demands"] sp_law_independent := by
  refine T.F_law_independent.ok sc_law_independent (fun vs H Q E h => ?_) (fun cdv A outer s H vs Q E hr h => ?_)
  · obtain ⟨d, c, a, n, zs, D, rfl, _⟩ := h
    rfl
  · obtain ⟨d, c, a, n, zs, D, rfl, dk, n0, n1, ha, dm, few, q⟩ := h
    refine ⟨_, (pss_cons (ps_set (i := 2) sc_law_independent.nd rfl (Or.inl rfl) (pe_callTy call_list_of (by rfl) T.z_list (by decide +kernel) (pa_cons (pv 1) pa_nil)))
      (pss_cons (ps_set (i := 3) sc_law_independent.nd rfl (Or.inl rfl) (pe_lst pa_nil))
      (pss_cons (ps_while PassesOwn.never (pt_cmpR (op_neL hr.units0) (pv 2) (pe_lst pa_nil) (nomark _))
      (pss_cons (ps_set (i := 4) sc_law_independent.nd rfl (Or.inr rfl) (pe_bm PySem.F.plainAttrs_list PySem.F.slot_list_pop PySem.F.type_list_pop mt_popAt (pv 2) (pa_cons (pe_call (ok_law_draw T) (hr.mono (by decide)) (by rfl) T.g_law_draw T.F_law_draw.kp T.b_law_draw .nil pass0 (pa_cons (pv 0) (pa_cons (pe_callB call_len_seq (by rfl) T.z_len PySem.boot_len (pa_cons (pv 2) pa_nil)) pa_nil))) pa_nil)))
      (pss_one (ps_if (pt_cmpR (op_eqL hr.units0) (pe_lc (own := [("_law_other", 5)]) (g := (gName 5)) (by rfl) sc_law_independent.nd (pi_list (pv 3)) (blkOk_by (own := [("_law_other", 5)]) (N := N_law_independent) (sc := defScope s_law_independent) (by decide +kernel)) (fun _ _ _ _ _ => (pg_name (i := 5) sc_law_independent.nd rfl (Or.inl rfl))) (fun _ _ _ _ _ => pts_one (pt_val (pe_call (ok_law_conflict T) (hr.mono (by decide)) (by rfl) T.g_law_conflict T.F_law_conflict.kp T.b_law_conflict .nil pass0 (pa_cons (pv 5) (pa_cons (pv 4) pa_nil))))) (fun _ _ _ _ _ => (pv 5))) (pe_lst pa_nil) (nomark _))
      (pss_one (ps_expr (pe_bm PySem.F.plainAttrs_list PySem.F.slot_list_append PySem.F.type_list_append mt_append (pv 3) (pa_cons (pv 4) pa_nil))))
      pss_nil))))
      (pss_one (ps_ret (pv 3)))))), ?_⟩
    refine ⟨.ref a, rfl, a, zs, rfl, .inr (SqT.of ha), fun r nr => ?_⟩
    have offr := dk.off nr
    have s1 := same_new (o := .lst zs) nr
    have er := upd_same (H := H) (a := r) (o := .lst zs)
    generalize upd H r (.lst zs) = H1 at *
    refine ⟨by show 0 ≤ sizeLine; decide, fun l nl => ?_⟩
    have offl := (dk.kept s1).off nl
    have nrl : r ≠ l := ne_of_none er nl
    have s2 := same_new (o := .lst []) nl
    have el := upd_same (H := H1) (a := l) (o := .lst [])
    generalize upd H1 l (.lst []) = H2 at *
    have s12 := s1.trans s2
    refine while_by (fun σ H' => ∃ (m : Int) (zs' ws : List V) (R W : List Dem) (y4 y5 : Option V), Kp d c H H' ∧ Dk H' d c m ∧ n ≤ m ∧ m + R.length ≤ n + D.length ∧ H' r = some (.lst zs') ∧ Dms H' zs' R ∧ (∀ x ∈ R, x ∈ D) ∧ H' l = some (.lst ws) ∧ Dms H' ws W ∧ (∀ x ∈ W, x ∈ D) ∧ Ind W ∧ W.length + R.length ≤ D.length ∧ σ = [some (.ref d), some (.ref a), some (.ref r), some (.ref l), y4, y5]) (fun _ H' => lenL r H') ⟨n, zs, [], D, [], _, _, Kp.same s12, dk.kept s12, Int.le_refl _, Int.le_refl _, s2 _ _ er, dm.same s12, (fun x h => h), el, .nil, (fun x h => nomatch h), List.Pairwise.nil, by simp, rfl⟩ ?_ ?_
    · rintro σ H3 ⟨m, zs', ws, R, W, y4, y5, kp, dk3, nm, mm, er3, dmr, subR, el3, dmw, subW, ind, len, rfl⟩
      have lz := dmr.length
      have lws := dmw.length
      refine ⟨.ref r, rfl, by show 0 ≤ sizeLine; decide, fun e ne => ?_⟩
      have s4 := same_new (o := .lst []) ne
      have ee := upd_same (H := H3) (a := e) (o := .lst [])
      generalize upd H3 e (.lst []) = H4 at *
      have k4 := kp.trans (Kp.same s4)
      have dk4 := dk3.kept s4
      have er4 := s4 _ _ er3
      have el4 := s4 _ _ el3
      have dmr4 := dmr.same s4
      have dmw4 := dmw.same s4
      refine ⟨r, e, zs', rfl, rfl, SqL.of er4, SqL.of ee, _, rfl, ?_⟩
      cases zs' with
      | nil => exact iteF ⟨.ref l, rfl, q H4 l ws W m k4 dk4 nm (by omega) el4 offl dmw4 subW ind (by omega)⟩
      | cons z0 zr =>
        refine iteT ?_
        refine ⟨.ref r, rfl, .inl ⟨rfl, _, SqL.of er4⟩, .ref d, rfl, .ref r, rfl, r, _, rfl, .inl (SqL.of er4), d, c, m, ((z0 :: zr).length : Int), rfl, dk4, by omega, by omega, by rw [List.length_cons]; omega, by omega, fun Ha x kpa dka x0 x1 => ?_⟩
        have era := kpa.keep offr er4
        have ela := kpa.keep offl el4
        have dma := dmr4.tps (kpa.tps dk4)
        have dwa := dmw4.tps (kpa.tps dk4)
        obtain ⟨k, rfl⟩ : ∃ k : Nat, x = (k : Int) := ⟨x.toNat, by omega⟩
        have hk : k < (z0 :: zr).length := by omega
        have gk := List.getElem?_eq_getElem hk
        obtain ⟨p, lo, hi, ed, dz⟩ := dma.get gk
        generalize (z0 :: zr)[k] = v at gk dz
        have mD : (p, lo, hi) ∈ D := subR _ (List.mem_of_getElem? ed)
        refine ⟨r, _, k, k, v, rfl, rfl, era, by omega, by omega, seq_nat hk, gk, ?_⟩
        have tb : Tps Ha (upd Ha r (.lst ((z0 :: zr).eraseIdx k))) := Tps.lst era
        have elb : upd Ha r (.lst ((z0 :: zr).eraseIdx k)) l = some (.lst ws) := by rw [upd_ne nrl.symm]; exact ela
        have erb : upd Ha r (.lst ((z0 :: zr).eraseIdx k)) r = some (.lst ((z0 :: zr).eraseIdx k)) := upd_same
        have dkb : Dk (upd Ha r (.lst ((z0 :: zr).eraseIdx k))) d c (m + 1) := dka.upd offr
        have kpb : Kp d c H (upd Ha r (.lst ((z0 :: zr).eraseIdx k))) := fun b o n1 n2 e => by
          rw [upd_ne (ne_of_none e nr)]
          exact kpa b o n1 n2 (k4 b o n1 n2 e)
        have dmb := (dma.erase k).tps tb
        have dwb := dwa.tps tb
        have dzb := dz.tps tb
        have lek : (R.eraseIdx k).length + 1 = R.length := by
          rw [List.length_eraseIdx, if_pos (by omega)]
          omega
        have subb : ∀ x ∈ R.eraseIdx k, x ∈ D := fun x hx => subR x (List.eraseIdx_subset hx)
        have lzk : ((z0 :: zr).eraseIdx k).length + 1 = (z0 :: zr).length := by
          rw [List.length_eraseIdx, if_pos (by omega)]
          omega
        have m0 : lenL r H3 = (z0 :: zr).length := lenL_of er3
        generalize upd Ha r (.lst ((z0 :: zr).eraseIdx k)) = Hb at *
        generalize (z0 :: zr).eraseIdx k = zr' at *
        generalize R.eraseIdx k = R' at *
        refine ⟨.ref l, rfl, l, rfl, ⟨_, SqL.of elb⟩, fun D1 nD1 => ?_⟩
        refine lcL (K := K) (a := l) (xs := ws) (fun j H' ws => Dms H' ws ((W.take j).filter fun z => cf z (p, lo, hi))) nD1 (fun H' s => SqL.of (s _ _ (elb))) (by omega) (fun _ _ _ _ t r => r.tps t) (fun j H' ws r => (by rw [r.length]; exact Nat.le_trans (List.length_filter_le _ _) (List.length_take_le _ _))) (fun _ => .nil) ?_ ?_
        · rintro j w H' N acc hj sj eA sz rr no yes
          obtain ⟨p', lo', hi', ew, dw⟩ := (dwb.same sj).get hj
          refine ⟨rfl, w, rfl, v, rfl, w, v, p', lo', hi', p, lo, hi, rfl, dw, dzb.same sj, _, rfl, ite2 (fun c => ?_) (fun c => ?_)⟩
          · refine ⟨w, rfl, yes H' _ (Same.refl _) ?_⟩
            rw [take_filter ew, if_pos c]
            exact rr.snoc dw
          · refine no H' (Same.refl _) ?_
            rw [take_filter ew, if_neg c, List.append_nil]
            exact rr
        intro Hc wf sc eD1 rr
        rw [lws, List.take_length] at rr
        refine ⟨by show 0 ≤ sizeLine; decide, fun z nz => ?_⟩
        have sd := same_new (o := .lst []) nz
        have ez := upd_same (H := Hc) (a := z) (o := .lst [])
        generalize upd Hc z (.lst []) = Hd at *
        have sbd := sc.trans sd
        refine ⟨D1, z, wf, rfl, rfl, SqL.of (sd _ _ eD1), SqL.of ez, _, rfl, ?_⟩
        rw [rr.isEmpty]
        have eld := sbd _ _ elb
        have erd := sbd _ _ erb
        have kpd := kpb.trans (Kp.same sbd)
        have dkd := dkb.kept sbd
        cases em : (W.filter fun z => cf z (p, lo, hi)).isEmpty with
        | false =>
          refine iteF ⟨⟨m + 1, zr', ws, R', W, _, _, kpd, dkd, by omega, by omega, erd, dmb.same sbd, subb, eld, dwb.same sbd, subW, ind, by omega, rfl⟩, ?_⟩
          rw [lenL_of erd, m0]
          omega
        | true =>
          have free : ∀ z ∈ W, cf z (p, lo, hi) = false := fun z hz => by
            rw [← Bool.not_eq_true]
            intro h
            have : z ∈ W.filter fun z => cf z (p, lo, hi) := List.mem_filter.mpr ⟨hz, h⟩
            rw [List.isEmpty_iff.mp em] at this
            cases this
          refine iteT ⟨.ref l, rfl, .inl ⟨rfl, _, SqL.of eld⟩, v, rfl, l, ws, v, rfl, rfl, eld, small1000 (by omega), ?_⟩
          have te : Tps Hd (upd Hd l (.lst (ws ++ [v]))) := Tps.lst eld
          have ere : upd Hd l (.lst (ws ++ [v])) r = some (.lst zr') := by rw [upd_ne nrl]; exact erd
          refine ⟨⟨m + 1, zr', ws ++ [v], R', W ++ [(p, lo, hi)], _, _, fun b o n1 n2 e => ?_, dkd.upd offl, by omega, by omega, ere, (dmb.same sbd).tps te, subb, upd_same, ((dwb.same sbd).snoc (dzb.same sbd)).tps te, fun x hx => ?_, ?_, by rw [List.length_append]; show W.length + 1 + _ ≤ _; omega, rfl⟩, ?_⟩
          · rw [upd_ne (ne_of_none (s1 _ _ e) nl)]
            exact kpd b o n1 n2 e
          · rcases List.mem_append.mp hx with h | h
            · exact subW x h
            · rw [List.mem_singleton.mp h]
              exact mD
          · exact List.pairwise_append.mpr ⟨ind, List.pairwise_singleton _ _, fun a ha b hb => by rw [List.mem_singleton.mp hb]; exact free a ha⟩
          · rw [lenL_of ere, m0]
            omega
    · rintro σ H1 Q1 Q2 hm ⟨v, e, hz, f⟩
      refine ⟨v, e, hz, fun p np => ?_⟩
      obtain ⟨a, b, xs, e1, e2, e3, e4, k, ek, z⟩ := f p np
      exact ⟨a, b, xs, e1, e2, e3, e4, k, ek, hm _ _ z⟩

/-! ### a comprehension over two lists -/
theorem lcZL {K : PySem.W.Frag} {a b : Addr} {xs ys : List V} {g : TG} {tt : TT} {te : TE} {vs : List Nat} {σ : L2.St} {H1 : Hp} {D : Addr} {Qd : Hp → Prop} (R : Nat → Hp → List V → Prop) (nD : H1 D = none) (ha : ∀ H', Same H1 H' → SqL K H' a xs) (hb : ∀ H', Same H1 H' → SqL K H' b ys) (few : xs.length < 1000)
    (mono : ∀ i H' H'' ws, Tps H' H'' → R i H' ws → R i H'' ws) (len : ∀ i H' ws, R i H' ws → ws.length ≤ i) (r0 : ∀ H', R 0 H' [])
    (hs : ∀ i x y T H' (N : Hp → Prop) acc, xs[i]? = some x → ys[i]? = some y → Same H1 H' → H' T = some (.tup [x, y]) → H' D = some (.lst acc) → acc.length < sizeLine → R i H' acc → (∀ H'', Same H' H'' → R (i + 1) H'' acc → N H'') → (∀ H'' y, Same H' H'' → R (i + 1) H'' (acc ++ [y]) → ∃ acc', H'' D = some (.lst acc') ∧ acc'.length < sizeLine ∧ N (upd H'' D (.lst (acc' ++ [y])))) →
      g (.ref T) (wipe σ vs) H' fun σ2 H2 => wipe σ2 vs = wipe σ vs ∧ tt σ2 H2 fun b H3 => if b = true then te σ2 H3 fun y H4 => ∃ acc, H4 D = some (.lst acc) ∧ acc.length < sizeLine ∧ N (upd H4 D (.lst (acc ++ [y]))) else N H3)
    (hd : ∀ i H' ws, i ≤ xs.length → (xs.length ≤ i ∨ ys.length ≤ i) → Same H1 H' → H' D = some (.lst ws) → R i H' ws → Qd H') :
    ∃ W : Nat → Nat → Hp → Prop, (∃ m, W 0 m (upd H1 D (.lst []))) ∧ ∀ i m H, W i m H →
      ((Itz K a b).stop i H ∧ Qd H) ∨ ((Itz K a b).go i H ∧ ∃ Nx : Hp → Prop, (∀ H', Nx H' → ∃ m', m' < m ∧ W (i + 1) m' H') ∧ ∀ x H', (Itz K a b).yld i H x H' → g x (wipe σ vs) H' fun σ2 H2 => wipe σ2 vs = wipe σ vs ∧ tt σ2 H2 fun b H3 =>
        if b = true then te σ2 H3 fun y H4 => ∃ acc, H4 D = some (.lst acc) ∧ acc.length < sizeLine ∧ Nx (upd H4 D (.lst (acc ++ [y]))) else Nx H3) := by
  refine ⟨fun i m H => m = xs.length - i ∧ i ≤ xs.length ∧ Same H1 H ∧ ∃ ws, H D = some (.lst ws) ∧ R i H ws, ⟨_, rfl, Nat.zero_le _, same_new nD, [], upd_same, r0 _⟩, ?_⟩
  rintro i m H ⟨rfl, hi, sm, ws, eD, r⟩
  have q1 := ha H sm
  have q2 := hb H sm
  by_cases c : i < xs.length ∧ i < ys.length
  · refine .inr ⟨⟨xs, ys, xs[i]'c.1, ys[i]'c.2, q1, q2, List.getElem?_eq_getElem c.1, List.getElem?_eq_getElem c.2⟩, (fun H => i + 1 ≤ xs.length ∧ Same H1 H ∧ ∃ ws, H D = some (.lst ws) ∧ R (i + 1) H ws), fun H' p' => ⟨xs.length - (i + 1), by omega, rfl, p'⟩, fun v H' hy => ?_⟩
    obtain ⟨T, x, y, rfl, nT, rfl, f1, f2⟩ := hy
    have sT := same_new (o := .tup [x, y]) nT
    have lw := len i H ws r
    have sz : ws.length < sizeLine := few_line (by omega)
    refine hs i x y T _ _ ws (f1 xs q1) (f2 ys q2) (sm.trans sT) upd_same (sT _ _ eD) sz (mono _ _ _ _ (Tps.same sT) r) (fun H'' s r2 => ⟨c.1, sm.trans (sT.trans s), ws, s _ _ (sT _ _ eD), r2⟩) (fun H'' y s r2 => ?_)
    exact ⟨ws, s _ _ (sT _ _ eD), sz, c.1, same_off nD (sm.trans (sT.trans s)), _, upd_same, mono _ _ _ _ (Tps.lst (s _ _ (sT _ _ eD))) r2⟩
  · exact .inl ⟨⟨xs, ys, q1, q2, by omega⟩, hd i H ws hi (by omega) sm eD r⟩

theorem between {cs : List Int} (asc : cs.Pairwise (· < ·)) {p : Int} (h1 : ∃ a ∈ cs, a ≤ p) (h2 : ∃ b ∈ cs, p < b) : ∃ i x y, cs[i]? = some x ∧ cs[i + 1]? = some y ∧ x ≤ p ∧ p < y ∧ (∀ a ∈ cs, a ≤ p → a ≤ x) ∧ ∀ b ∈ cs, p < b → y ≤ b := by
  induction cs with
  | nil =>
    obtain ⟨a, ha, _⟩ := h1
    cases ha
  | cons c cs ih =>
    have pc := List.pairwise_cons.mp asc
    obtain ⟨a, ha, ap⟩ := h1
    obtain ⟨b, hb, bp⟩ := h2
    cases cs with
    | nil =>
      have := List.mem_singleton.mp ha
      have := List.mem_singleton.mp hb
      omega
    | cons e r =>
      have pe := List.pairwise_cons.mp pc.2
      have ge : ∀ z ∈ e :: r, e ≤ z := fun z hz => by
        rcases List.mem_cons.mp hz with rfl | hz
        · exact Int.le_refl _
        · exact Int.le_of_lt (pe.1 z hz)
      have ce := pc.1 e List.mem_cons_self
      by_cases k : p < e
      · have cp : c ≤ p := by
          rcases List.mem_cons.mp ha with rfl | ha
          · exact ap
          · have := ge a ha
            omega
        refine ⟨0, c, e, rfl, rfl, cp, k, fun z hz zp => ?_, fun z hz zp => ?_⟩
        · rcases List.mem_cons.mp hz with rfl | hz
          · exact Int.le_refl _
          · have := ge z hz
            omega
        · rcases List.mem_cons.mp hz with rfl | hz
          · omega
          · exact ge z hz
      · have hb2 : b ∈ e :: r := by
          rcases List.mem_cons.mp hb with rfl | hb
          · omega
          · exact hb
        obtain ⟨i, x, y, e1, e2, x1, x2, f1, f2⟩ := ih pc.2 ⟨e, List.mem_cons_self, by omega⟩ ⟨b, hb2, bp⟩
        refine ⟨i + 1, x, y, e1, e2, x1, x2, fun z hz zp => ?_, fun z hz zp => ?_⟩
        · rcases List.mem_cons.mp hz with rfl | hz
          · have := f1 e List.mem_cons_self (by omega)
            omega
          · exact f1 z hz zp
        · rcases List.mem_cons.mp hz with rfl | hz
          · omega
          · exact f2 z hz zp

/-! ### pieces that complete -/
def conO : List Int → List (Int × Int)
  | [] => []
  | [_] => []
  | x :: y :: r => (x, y - 1) :: conO (y :: r)
theorem conO_len : ∀ cs : List Int, (conO cs).length = cs.length - 1
  | [] => rfl
  | [_] => rfl
  | x :: y :: r => by
    show (conO (y :: r)).length + 1 = r.length + 1
    rw [conO_len (y :: r)]
    rfl
theorem conO_get : ∀ {cs : List Int} {i : Nat} {x y : Int}, cs[i]? = some x → cs[i + 1]? = some y → (conO cs)[i]? = some (x, y - 1)
  | [], _, _, _, h, _ => by simp at h
  | [_], i, _, _, _, h => by simp at h
  | x :: y :: r, 0, _, _, h1, h2 => by
    cases h1
    cases h2
    rfl
  | x :: y :: r, i + 1, _, _, h1, h2 => conO_get (cs := y :: r) (i := i) h1 h2
theorem conO_mem : ∀ {cs : List Int}, cs.Pairwise (· < ·) → ∀ {q : Int × Int}, q ∈ conO cs → ∃ x y, q = (x, y - 1) ∧ x ∈ cs ∧ y ∈ cs ∧ x < y
  | [], _, _, h => nomatch h
  | [_], _, _, h => nomatch h
  | x :: y :: r, a, q, h => by
    have pa := List.pairwise_cons.mp a
    rcases List.mem_cons.mp h with h | h
    · exact ⟨x, y, h, List.mem_cons_self, List.mem_cons_of_mem _ List.mem_cons_self, pa.1 y List.mem_cons_self⟩
    · obtain ⟨u, v, e, h1, h2, h3⟩ := conO_mem pa.2 h
      exact ⟨u, v, e, List.mem_cons_of_mem _ h1, List.mem_cons_of_mem _ h2, h3⟩
structure Fin (ts A : List (Int × Int)) : Prop where
  com : ∀ t ∈ ts, ∀ p, t.1 ≤ p → p ≤ t.2 → ∃ q ∈ A, t.1 ≤ q.1 ∧ q.1 ≤ p ∧ p ≤ q.2 ∧ q.2 ≤ t.2
  pc : Pc A
  few : A.length ≤ 30
def sp_law_completions : Sp := fun vs H Q _ => ∃ (d c a b l : Addr) (n : Int) (us ws : List V) (ls : List Int) (ts ps : List (Int × Int)), vs = [.ref d, .ref a, .ref b, .ref l] ∧ Dk H d c n ∧ 0 ≤ n ∧ n < 900000 ∧ H a = some (.tup us) ∧ Ivs H us ts ∧ Row ls ts ∧ ts.length ≤ 10 ∧ H b = some (.tup ws) ∧ Ivs H ws ps ∧ Row ls ps ∧ ps.length ≤ 5 ∧ Off d c l ∧ H l = some (.lst (ls.map V.int)) ∧ 0 < ls.length ∧ ls.length ≤ 100 ∧ Ln ls ∧
  ∀ H' g a1 a2 a3 x1 x2 x3 A1 A2 A3, Kp d c H H' → Dk H' d c (n + 2) → H' g = some (.lst [.ref a1, .ref a2, .ref a3]) → H' a1 = some (.lst x1) → Ivs H' x1 A1 → Fin ts A1 → H' a2 = some (.lst x2) → Ivs H' x2 A2 → Fin ts A2 → H' a3 = some (.lst x3) → Ivs H' x3 A3 → Fin ts A3 → Q (.ref g) H'
theorem ok_law_completions (T : Tx K mg f_depth_changes f_find_blocks f_is_number f_is_position f_is_tuple_of f_is_interval f_has_position f_contains f_is_demand f_serves f_conflict f_is_independent f_demands_at_blocks f_is_open f_open_demands f_pieces_inside f_first_gap f_find_missing f_without_item f_require_generated f_can_spare f_prune_pieces f_law_deck f_law_draw f_law_line f_law_interval f_law_intervals f_law_conflict f_law_independent f_law_completions f_law_right f_law d_depth_changes d_find_blocks d_is_number d_is_position d_is_tuple_of d_is_interval d_has_position d_contains d_is_demand d_serves d_conflict d_is_independent d_demands_at_blocks d_is_open d_open_demands d_pieces_inside d_first_gap d_find_missing d_without_item d_require_generated d_can_spare d_prune_pieces d_law_deck d_law_draw d_law_line d_law_interval d_law_intervals d_law_conflict d_law_independent d_law_completions d_law_right d_law t_LAST_POSITION) : FnOk P w K mg base CX0 3 f_law_completions d_law_completions ["_law_deck_here", "_law_targets", "_law_pieces", "_law_line_here"] sp_law_completions := by
  refine T.F_law_completions.ok sc_law_completions (fun vs H Q E h => ?_) (fun cdv A outer s H vs Q E hr h => ?_)
  · obtain ⟨d, c, a, b, l, n, us, ws, ls, ts, ps, rfl, _⟩ := h
    rfl
  · obtain ⟨d, c, a, b, l, n, us, ws, ls, ts, ps, rfl, dk, n0, n1, ha, it, rt, lt, hb, ip, rp, lp, offl, hl, l0, l1', ln, q⟩ := h
    refine ⟨_, (pss_cons (ps_set (i := 4) sc_law_completions.nd rfl (Or.inl rfl) (pe_op op_cat (pe_lc (own := [("_law_low", 5), ("_law_high", 6)]) (g := (gTup K 2 (gCons (gName 5) (gCons (gName 6) gNil)))) (tt := tYes) (by rfl) sc_law_completions.nd (pi_tup (pv 1)) (blkOk_by (own := [("_law_low", 5), ("_law_high", 6)]) (N := N_law_completions) (sc := defScope s_law_completions) (by decide +kernel)) (fun _ _ _ _ _ => (pg_tup rfl (pgs_cons (pg_name (i := 5) sc_law_completions.nd rfl (Or.inl rfl)) (pgs_cons (pg_name (i := 6) sc_law_completions.nd rfl (Or.inl rfl)) pgs_nil)))) (fun _ _ _ _ _ => pts_nil) (fun _ _ _ _ _ => (pv 5))) (pe_lc (own := [("_law_low", 5), ("_law_high", 6)]) (g := (gTup K 2 (gCons (gName 5) (gCons (gName 6) gNil)))) (tt := tYes) (by rfl) sc_law_completions.nd (pi_tup (pv 1)) (blkOk_by (own := [("_law_low", 5), ("_law_high", 6)]) (N := N_law_completions) (sc := defScope s_law_completions) (by decide +kernel)) (fun _ _ _ _ _ => (pg_tup rfl (pgs_cons (pg_name (i := 5) sc_law_completions.nd rfl (Or.inl rfl)) (pgs_cons (pg_name (i := 6) sc_law_completions.nd rfl (Or.inl rfl)) pgs_nil)))) (fun _ _ _ _ _ => pts_nil) (fun _ _ _ _ _ => (pe_op op_add (pv 6) pe_int)))))
      (pss_cons (ps_set (i := 4) sc_law_completions.nd rfl (Or.inl rfl) (pe_callB (cr_sortedSet rfl) (by rfl) T.z_sorted (by decide +kernel) (pa_cons (pe_callTy (cr_setOfI rfl) (by rfl) T.z_set (by decide +kernel) (pa_cons (pe_op op_cat (pe_op op_cat (pv 4) (pe_lc (own := [("_law_low", 5), ("_law_high", 6)]) (g := (gTup K 2 (gCons (gName 5) (gCons (gName 6) gNil)))) (tt := tYes) (by rfl) sc_law_completions.nd (pi_tup (pv 2)) (blkOk_by (own := [("_law_low", 5), ("_law_high", 6)]) (N := N_law_completions) (sc := defScope s_law_completions) (by decide +kernel)) (fun _ _ _ _ _ => (pg_tup rfl (pgs_cons (pg_name (i := 5) sc_law_completions.nd rfl (Or.inl rfl)) (pgs_cons (pg_name (i := 6) sc_law_completions.nd rfl (Or.inl rfl)) pgs_nil)))) (fun _ _ _ _ _ => pts_nil) (fun _ _ _ _ _ => (pv 5)))) (pe_lc (own := [("_law_low", 5), ("_law_high", 6)]) (g := (gTup K 2 (gCons (gName 5) (gCons (gName 6) gNil)))) (tt := tYes) (by rfl) sc_law_completions.nd (pi_tup (pv 2)) (blkOk_by (own := [("_law_low", 5), ("_law_high", 6)]) (N := N_law_completions) (sc := defScope s_law_completions) (by decide +kernel)) (fun _ _ _ _ _ => (pg_tup rfl (pgs_cons (pg_name (i := 5) sc_law_completions.nd rfl (Or.inl rfl)) (pgs_cons (pg_name (i := 6) sc_law_completions.nd rfl (Or.inl rfl)) pgs_nil)))) (fun _ _ _ _ _ => pts_nil) (fun _ _ _ _ _ => (pe_op op_add (pv 6) pe_int)))) pa_nil)) pa_nil)))
      (pss_cons (ps_setLc (i := 7) (own := [("_law_low", 5), ("_law_after", 8)]) (g := (gTup K 2 (gCons (gName 5) (gCons (gName 8) gNil)))) (tt := tYes) (by rfl) sc_law_completions.nd rfl rfl (sw_true rfl rfl rfl (by decide +kernel)) (pi_zip (by rfl) T.z_zip (pa_cons (pv 4) (pa_cons (pe_slice sl_list (pv 4) (po_some pe_int) po_none) pa_nil))) (blkOk_by (own := [("_law_low", 5), ("_law_after", 8)]) (N := N_law_completions) (sc := defScope s_law_completions) (by decide +kernel)) (fun _ _ _ _ _ => (pg_tup rfl (pgs_cons (pg_name (i := 5) sc_law_completions.nd rfl (Or.inl rfl)) (pgs_cons (pg_name (i := 8) sc_law_completions.nd rfl (Or.inl rfl)) pgs_nil)))) (fun _ _ _ _ _ => pts_nil) (fun _ _ _ _ _ => (pe_tup (pa_cons (pv 5) (pa_cons (pe_op op_sub (pv 8) pe_int) pa_nil)))))
      (pss_one (ps_ret (pe_lst (pa_cons (pe_callTy call_list_of (by rfl) T.z_list (by decide +kernel) (pa_cons (pv 1) pa_nil)) (pa_cons (pv 7) (pa_cons (pe_op op_cat (pe_callTy call_list_of (by rfl) T.z_list (by decide +kernel) (pa_cons (pv 1) pa_nil)) (pe_lst (pa_cons (pe_call (ok_law_interval T) (hr.mono (by decide)) (by rfl) T.g_law_interval T.F_law_interval.kp T.b_law_interval .nil pass0 (pa_cons (pv 0) (pa_cons (pv 3) pa_nil))) pa_nil))) pa_nil))))))))), ?_⟩
    have lu := it.length
    have lw := ip.length
    refine ⟨.ref a, rfl, a, rfl, ⟨_, SqT.of ha⟩, fun D nD => ?_⟩
    refine lcT (K := K) (a := a) (xs := us) (fun j H' ws => ws = ((ts.take j).map (·.1)).map V.int) nD (fun H' s => SqT.of (s _ _ (ha))) (by omega) (fun _ _ _ _ t r => r) (fun j H' ws r => (by rw [r, List.length_map, List.length_map]; exact List.length_take_le _ _)) (fun _ => rfl) ?_ ?_
    · rintro j z H' N acc hj sj eA sz r no yes
      obtain ⟨t, x, y, rfl, exy, ht⟩ := it.get hj
      refine ⟨t, _, rfl, SqT.of (sj _ _ ht), rfl, .int x, [.int y], rfl, .int y, [], rfl, rfl, rfl, .int x, rfl, yes H' _ (Same.refl _) ?_⟩
      rw [r, List.take_add_one, exy, List.map_append, List.map_append]
      rfl
    intro H1 w1 s1 e1 r
    rw [lu, List.take_length] at r
    subst r
    refine ⟨.ref a, rfl, a, rfl, ⟨_, SqT.of (s1 _ _ ha)⟩, fun D2 nD2 => ?_⟩
    refine lcT (K := K) (a := a) (xs := us) (fun j H' ws => ws = ((ts.take j).map (fun q => q.2 + 1)).map V.int) nD2 (fun H' s => SqT.of (s _ _ ((s1 _ _ ha)))) (by omega) (fun _ _ _ _ t r => r) (fun j H' ws r => (by rw [r, List.length_map, List.length_map]; exact List.length_take_le _ _)) (fun _ => rfl) ?_ ?_
    · rintro j z H' N acc hj sj eA sz r no yes
      obtain ⟨t, x, y, rfl, exy, ht⟩ := it.get hj
      refine ⟨t, _, rfl, SqT.of (sj _ _ (s1 _ _ ht)), rfl, .int x, [.int y], rfl, .int y, [], rfl, rfl, rfl, .int y, rfl, _, _, rfl, rfl, yes H' _ (Same.refl _) ?_⟩
      rw [r, List.take_add_one, exy, List.map_append, List.map_append]
      rfl
    intro H2 w2 s2 e2 r
    rw [lu, List.take_length] at r
    subst r
    refine ⟨D, D2, _, _, rfl, rfl, s2 _ _ e1, e2, by rw [show sizeLine = 16777216 by decide, List.length_map, List.length_map, List.length_map, List.length_map]; omega, fun g ng => ?_⟩
    have s3 := same_new (o := .lst ((ts.map (·.1)).map V.int ++ (ts.map (fun q => q.2 + 1)).map V.int)) ng
    have e3 := upd_same (H := H2) (a := g) (o := .lst ((ts.map (·.1)).map V.int ++ (ts.map (fun q => q.2 + 1)).map V.int))
    generalize upd H2 g (.lst ((ts.map (·.1)).map V.int ++ (ts.map (fun q => q.2 + 1)).map V.int)) = H3 at *
    have s13 := s1.trans (s2.trans s3)
    refine ⟨.ref g, rfl, .ref b, rfl, b, rfl, ⟨_, SqT.of (s13 _ _ hb)⟩, fun D3 nD3 => ?_⟩
    refine lcT (K := K) (a := b) (xs := ws) (fun j H' ws => ws = ((ps.take j).map (·.1)).map V.int) nD3 (fun H' s => SqT.of (s _ _ ((s13 _ _ hb)))) (by omega) (fun _ _ _ _ t r => r) (fun j H' ws r => (by rw [r, List.length_map, List.length_map]; exact List.length_take_le _ _)) (fun _ => rfl) ?_ ?_
    · rintro j z H' N acc hj sj eA sz r no yes
      obtain ⟨t, x, y, rfl, exy, ht⟩ := ip.get hj
      refine ⟨t, _, rfl, SqT.of (sj _ _ (s13 _ _ ht)), rfl, .int x, [.int y], rfl, .int y, [], rfl, rfl, rfl, .int x, rfl, yes H' _ (Same.refl _) ?_⟩
      rw [r, List.take_add_one, exy, List.map_append, List.map_append]
      rfl
    intro H4 w4 s4 e4 r
    rw [lw, List.take_length] at r
    subst r
    have s14 := s13.trans s4
    refine ⟨g, D3, _, _, rfl, rfl, s4 _ _ e3, e4, by rw [show sizeLine = 16777216 by decide, List.length_append, List.length_map, List.length_map, List.length_map, List.length_map, List.length_map, List.length_map]; omega, fun g2 ng2 => ?_⟩
    have s5 := same_new (o := .lst ((ts.map (·.1)).map V.int ++ (ts.map (fun q => q.2 + 1)).map V.int ++ (ps.map (·.1)).map V.int)) ng2
    have e5 := upd_same (H := H4) (a := g2) (o := .lst ((ts.map (·.1)).map V.int ++ (ts.map (fun q => q.2 + 1)).map V.int ++ (ps.map (·.1)).map V.int))
    generalize upd H4 g2 (.lst ((ts.map (·.1)).map V.int ++ (ts.map (fun q => q.2 + 1)).map V.int ++ (ps.map (·.1)).map V.int)) = H5 at *
    have s15 := s14.trans s5
    refine ⟨.ref b, rfl, b, rfl, ⟨_, SqT.of (s15 _ _ hb)⟩, fun D4 nD4 => ?_⟩
    refine lcT (K := K) (a := b) (xs := ws) (fun j H' ws => ws = ((ps.take j).map (fun q => q.2 + 1)).map V.int) nD4 (fun H' s => SqT.of (s _ _ ((s15 _ _ hb)))) (by omega) (fun _ _ _ _ t r => r) (fun j H' ws r => (by rw [r, List.length_map, List.length_map]; exact List.length_take_le _ _)) (fun _ => rfl) ?_ ?_
    · rintro j z H' N acc hj sj eA sz r no yes
      obtain ⟨t, x, y, rfl, exy, ht⟩ := ip.get hj
      refine ⟨t, _, rfl, SqT.of (sj _ _ (s15 _ _ ht)), rfl, .int x, [.int y], rfl, .int y, [], rfl, rfl, rfl, .int y, rfl, _, _, rfl, rfl, yes H' _ (Same.refl _) ?_⟩
      rw [r, List.take_add_one, exy, List.map_append, List.map_append]
      rfl
    intro H6 w6 s6 e6 r
    rw [lw, List.take_length] at r
    subst r
    have s16 := s15.trans s6
    refine ⟨g2, D4, _, _, rfl, rfl, s6 _ _ e5, e6, by rw [show sizeLine = 16777216 by decide, List.length_append, List.length_append, List.length_map, List.length_map, List.length_map, List.length_map, List.length_map, List.length_map, List.length_map, List.length_map]; omega, fun g3 ng3 => ?_⟩
    have s7 := same_new (o := .lst ((ts.map (·.1)).map V.int ++ (ts.map (fun q => q.2 + 1)).map V.int ++ (ps.map (·.1)).map V.int ++ (ps.map (fun q => q.2 + 1)).map V.int)) ng3
    have e7 := upd_same (H := H6) (a := g3) (o := .lst ((ts.map (·.1)).map V.int ++ (ts.map (fun q => q.2 + 1)).map V.int ++ (ps.map (·.1)).map V.int ++ (ps.map (fun q => q.2 + 1)).map V.int))
    generalize upd H6 g3 (.lst ((ts.map (·.1)).map V.int ++ (ts.map (fun q => q.2 + 1)).map V.int ++ (ps.map (·.1)).map V.int ++ (ps.map (fun q => q.2 + 1)).map V.int)) = H7 at *
    rw [← List.map_append, ← List.map_append, ← List.map_append] at e7
    have s17 := s16.trans s7
    have lall : (ts.map (fun q : Int × Int => q.1) ++ ts.map (fun q : Int × Int => q.2 + 1) ++ ps.map (fun q : Int × Int => q.1) ++ ps.map (fun q : Int × Int => q.2 + 1)).length ≤ 30 := by
      rw [List.length_append, List.length_append, List.length_append, List.length_map, List.length_map, List.length_map, List.length_map]
      omega
    have mall1 : ∀ q ∈ ts, q.1 ∈ ts.map (fun q : Int × Int => q.1) ++ ts.map (fun q : Int × Int => q.2 + 1) ++ ps.map (fun q : Int × Int => q.1) ++ ps.map (fun q : Int × Int => q.2 + 1) := fun q hq => List.mem_append_left _ (List.mem_append_left _ (List.mem_append_left _ (List.mem_map.mpr ⟨q, hq, rfl⟩)))
    have mall2 : ∀ q ∈ ts, q.2 + 1 ∈ ts.map (fun q : Int × Int => q.1) ++ ts.map (fun q : Int × Int => q.2 + 1) ++ ps.map (fun q : Int × Int => q.1) ++ ps.map (fun q : Int × Int => q.2 + 1) := fun q hq => List.mem_append_left _ (List.mem_append_left _ (List.mem_append_right _ (List.mem_map.mpr ⟨q, hq, rfl⟩)))
    have bd : ∀ x ∈ ts.map (fun q : Int × Int => q.1) ++ ts.map (fun q : Int × Int => q.2 + 1) ++ ps.map (fun q : Int × Int => q.1) ++ ps.map (fun q : Int × Int => q.2 + 1), 0 ≤ x ∧ x ≤ 1000000000000 := fun x hx => by
      have k1 : ∀ q ∈ ts, (0 ≤ q.1 ∧ q.1 ≤ 999999999990) ∧ 0 ≤ q.2 ∧ q.2 ≤ 999999999990 := fun q hq => ⟨ln.ok _ (rt.ok q hq).1.1, ln.ok _ (rt.ok q hq).1.2⟩
      have k2 : ∀ q ∈ ps, (0 ≤ q.1 ∧ q.1 ≤ 999999999990) ∧ 0 ≤ q.2 ∧ q.2 ≤ 999999999990 := fun q hq => ⟨ln.ok _ (rp.ok q hq).1.1, ln.ok _ (rp.ok q hq).1.2⟩
      rcases List.mem_append.mp hx with hx | hx
      · rcases List.mem_append.mp hx with hx | hx
        · rcases List.mem_append.mp hx with hx | hx
          · obtain ⟨q, hq, rfl⟩ := List.mem_map.mp hx
            have := k1 q hq
            omega
          · obtain ⟨q, hq, rfl⟩ := List.mem_map.mp hx
            have := k1 q hq
            show 0 ≤ q.2 + 1 ∧ q.2 + 1 ≤ _
            omega
        · obtain ⟨q, hq, rfl⟩ := List.mem_map.mp hx
          have := k2 q hq
          omega
      · obtain ⟨q, hq, rfl⟩ := List.mem_map.mp hx
        have := k2 q hq
        show 0 ≤ q.2 + 1 ∧ q.2 + 1 ≤ _
        omega
    generalize ts.map (fun q : Int × Int => q.1) ++ ts.map (fun q : Int × Int => q.2 + 1) ++ ps.map (fun q : Int × Int => q.1) ++ ps.map (fun q : Int × Int => q.2 + 1) = all at *
    dsimp only [tNil]
    refine ⟨g3, all, rfl, SqL.of e7, by omega, fun H8 st k s8 nst est lk => ?_⟩
    refine ⟨st, _, k, rfl, est, by omega, fun cs pe asc mem len npe => ?_⟩
    have s9 := same_new (o := .lst (cs.map V.int)) npe
    have e9 := upd_same (H := H8) (a := pe) (o := .lst (cs.map V.int))
    generalize upd H8 pe (.lst (cs.map V.int)) = H9 at *
    have s19 := s17.trans (s8.trans s9)
    have in1 : ∀ q ∈ ts, q.1 ∈ cs := fun q hq => (mem _).mpr (decide_eq_true (mall1 q hq))
    have in2 : ∀ q ∈ ts, q.2 + 1 ∈ cs := fun q hq => (mem _).mpr (decide_eq_true (mall2 q hq))
    have bdc : ∀ x ∈ cs, 0 ≤ x ∧ x ≤ 1000000000000 := fun x hx => bd x (of_decide_eq_true ((mem x).mp hx))
    have lcs : cs.length ≤ 30 := by omega
    refine ⟨.ref pe, rfl, .ref pe, rfl, 1, rfl, pe, _, rfl, SqL.of e9, fun pz npz => ?_⟩
    rw [show cutV (cs.map V.int) (some 1) none = (cs.map V.int).drop 1 from cutFrom1 _]
    have sa := same_new (o := .lst ((cs.map V.int).drop 1)) npz
    have ez := upd_same (H := H9) (a := pz) (o := .lst ((cs.map V.int).drop 1))
    generalize upd H9 pz (.lst ((cs.map V.int).drop 1)) = Ha at *
    have ea := sa _ _ e9
    refine ⟨pe, pz, _, _, rfl, SqL.of ea, SqL.of ez, fun D5 nD5 => ?_⟩
    refine lcZL (K := K) (a := pe) (b := pz) (xs := cs.map V.int) (ys := (cs.map V.int).drop 1) (fun i H' ws => Ivs H' ws ((conO cs).take i)) nD5 (fun H' s => SqL.of (s _ _ ea)) (fun H' s => SqL.of (s _ _ ez)) (by rw [List.length_map]; omega) (fun _ _ _ _ t h => h.tps t) (fun i H' ws h => by rw [h.length]; exact List.length_take_le _ _) (fun _ => .nil) ?_ ?_
    · rintro i v1 v2 TT H' N acc h1 h2 sj eT eA sz r no yes
      rw [List.getElem?_map] at h1
      obtain ⟨x, ex, rfl⟩ := Option.map_eq_some_iff.mp h1
      rw [List.getElem?_drop, Nat.add_comm 1 i, List.getElem?_map] at h2
      obtain ⟨y, ey, rfl⟩ := Option.map_eq_some_iff.mp h2
      refine ⟨TT, _, rfl, SqT.of eT, rfl, .int x, [.int y], rfl, .int y, [], rfl, rfl, ?_⟩
      refine ⟨rfl, .int x, rfl, .int y, rfl, _, _, rfl, rfl, by show 2 ≤ sizeLine; decide, fun t nt => ?_⟩
      have sn := same_new (o := .tup [.int x, .int (y - 1)]) nt
      refine yes _ _ sn ?_
      rw [List.take_add_one, conO_get ex ey]
      exact (r.same sn).snoc upd_same
    rintro i Hb wb hi hdone sb eD5 r
    rw [List.length_map] at hi
    have li : (conO cs).length ≤ i := by
      rw [conO_len]
      rw [List.length_map, List.length_drop, List.length_map] at hdone
      omega
    rw [List.take_of_length_le li] at r
    have s1b := s19.trans (sa.trans sb)
    have finB : Fin ts (conO cs) := by
      refine ⟨fun t ht p h1 h2 => ?_, fun q hq => ?_, by rw [conO_len]; omega⟩
      · obtain ⟨k, x, y, e1, e2, x1, x2, f1, f2⟩ := between asc (p := p) ⟨_, in1 t ht, h1⟩ ⟨_, in2 t ht, by omega⟩
        have a1 := f1 _ (in1 t ht) h1
        have a2 := f2 _ (in2 t ht) (by omega)
        exact ⟨(x, y - 1), List.mem_of_getElem? (conO_get e1 e2), a1, x1, by show p ≤ y - 1; omega, by show y - 1 ≤ t.2; omega⟩
      · obtain ⟨x, y, rfl, hx, hy, xy⟩ := conO_mem asc hq
        have b1 := bdc x hx
        have b2 := bdc y hy
        refine ⟨⟨b1.1, by show x ≤ y - 1; omega⟩, ?_⟩
        show y - 1 < 10 ^ 13
        exact Int.lt_of_le_of_lt (show y - 1 ≤ 1000000000000 by omega) (by decide)
    have finT : Fin ts ts := ⟨fun t ht p h1 h2 => ⟨t, ht, Int.le_refl _, h1, h2, Int.le_refl _⟩, rt.pc ln, by omega⟩
    have dkb := dk.kept s1b
    have offD := (dk.kept (s19.trans sa)).off nD5
    refine ⟨.ref a, rfl, a, us, rfl, .inr (SqT.of (s1b _ _ ha)), fun l1 nl1 => ?_⟩
    have off1 := dkb.off nl1
    have sc := same_new (o := .lst us) nl1
    have el1 := upd_same (H := Hb) (a := l1) (o := .lst us)
    generalize upd Hb l1 (.lst us) = Hc at *
    refine ⟨.ref D5, rfl, .ref a, rfl, a, us, rfl, .inr (SqT.of (sc _ _ (s1b _ _ ha))), fun l2 nl2 => ?_⟩
    have off2 := (dkb.kept sc).off nl2
    have sd := same_new (o := .lst us) nl2
    have el2 := upd_same (H := Hc) (a := l2) (o := .lst us)
    generalize upd Hc l2 (.lst us) = Hd at *
    have s1d := s1b.trans (sc.trans sd)
    refine ⟨.ref d, rfl, .ref l, rfl, d, c, l, n, ls, rfl, dk.kept s1d, n0, by omega, offl, s1d _ _ hl, l0, l1', fun He lo hi' t kpe dke m1 m2 lh nt et => ?_⟩
    have el1e := kpe.keep off1 (sd _ _ el1)
    have el2e := kpe.keep off2 el2
    have eDe := kpe.keep offD (sd _ _ (sc _ _ eD5))
    have t1d := kpe.tps (dk.kept s1d)
    have itc := (it.same s1d).tps t1d
    have rb := (r.same (sc.trans sd)).tps t1d
    refine ⟨by show 1 ≤ sizeLine; decide, fun u nu => ?_⟩
    have se := same_new (o := .lst [.ref t]) nu
    have eu := upd_same (H := He) (a := u) (o := .lst [.ref t])
    generalize upd He u (.lst [.ref t]) = Hf at *
    refine ⟨l2, u, _, _, rfl, rfl, se _ _ el2e, eu, by rw [show sizeLine = 16777216 by decide]; show us.length + 1 ≤ _; omega, fun l3 nl3 => ?_⟩
    have sf := same_new (o := .lst (us ++ [.ref t])) nl3
    have el3 := upd_same (H := Hf) (a := l3) (o := .lst (us ++ [.ref t]))
    generalize upd Hf l3 (.lst (us ++ [.ref t])) = Hg at *
    refine ⟨by show 3 ≤ sizeLine; decide, fun g4 ng4 => ?_⟩
    have sg := same_new (o := .lst [.ref l1, .ref D5, .ref l3]) ng4
    have eg4 := upd_same (H := Hg) (a := g4) (o := .lst [.ref l1, .ref D5, .ref l3])
    generalize upd Hg g4 (.lst [.ref l1, .ref D5, .ref l3]) = Hh at *
    have seg := se.trans (sf.trans sg)
    have b1 := ln.ok _ m1
    have b2 := ln.ok _ m2
    refine q Hh g4 l1 D5 l3 us wb (us ++ [.ref t]) ts (conO cs) (ts ++ [(lo, hi')]) ((Kp.same s1d).trans (kpe.trans (Kp.same seg))) (dke.kept seg) eg4 (seg _ _ el1e) (itc.same seg) finT (seg _ _ eDe) (rb.same seg) finB (sg _ _ el3) ((itc.same seg).append (.cons (seg _ _ et) .nil)) ⟨fun t ht p h1 h2 => ?_, fun q hq => ?_, by rw [List.length_append]; show ts.length + 1 ≤ 30; omega⟩
    · obtain ⟨q, hq, w⟩ := finT.com t ht p h1 h2
      exact ⟨q, List.mem_append_left _ hq, w⟩
    · rcases List.mem_append.mp hq with h | h
      · exact finT.pc q h
      · rw [List.mem_singleton.mp h]
        refine ⟨⟨b1.1, lh⟩, ?_⟩
        exact Int.lt_of_le_of_lt (show hi' ≤ 1000000000000 by omega) (by decide)

theorem any_pair (x y : Int) : ∀ ps : List (Int × Int), ((ps.map pairD).any fun z => PyData.eqv z (.tuple [.int x, .int y])) = decide ((x, y) ∈ ps)
  | [] => rfl
  | q :: ps => by
    rw [List.map_cons, List.any_cons, any_pair x y ps]
    show (PyData.eqv (.tuple [.int q.1, .int q.2]) (.tuple [.int x, .int y]) || _) = _
    rw [eqv_pair, Bool.eq_iff_iff, Bool.or_eq_true, decide_eq_true_iff, decide_eq_true_iff, decide_eq_true_iff, List.mem_cons]
    exact ⟨fun h => h.imp (fun z => z.symm) id, fun h => h.imp (fun z => z.symm) id⟩

/-! ### what the law sees of added pieces -/
theorem ltP_nd3 {ps : List (Int × Int)} (h : ps.Pairwise ltP) : ps.Nodup := h.imp fun {a b} h e => by
  subst e
  rcases h with h | h <;> omega
def sp_law_right : Sp := fun vs H Q _ => ∃ (a b l e : Addr) (us ws xs zs : List V) (ts ps A : List (Int × Int)) (W : List Dem), vs = [.ref a, .ref b, .ref l, .ref e] ∧ H a = some (.tup us) ∧ Ivs H us ts ∧ Tg ts ∧ H b = some (.tup ws) ∧ Ivs H ws ps ∧ Pc ps ∧ ps.length ≤ 5 ∧ H l = some (.lst xs) ∧ Ivs H xs A ∧ Fin ts A ∧ H e = some (.lst zs) ∧ Dms H zs W ∧ W.length ≤ 900 ∧ Ind W ∧ (∀ d ∈ W, OpenD ts ps d) ∧
  ∀ H', Same H H' → Q (.bl true) H'
theorem ok_law_right (T : Tx K mg f_depth_changes f_find_blocks f_is_number f_is_position f_is_tuple_of f_is_interval f_has_position f_contains f_is_demand f_serves f_conflict f_is_independent f_demands_at_blocks f_is_open f_open_demands f_pieces_inside f_first_gap f_find_missing f_without_item f_require_generated f_can_spare f_prune_pieces f_law_deck f_law_draw f_law_line f_law_interval f_law_intervals f_law_conflict f_law_independent f_law_completions f_law_right f_law d_depth_changes d_find_blocks d_is_number d_is_position d_is_tuple_of d_is_interval d_has_position d_contains d_is_demand d_serves d_conflict d_is_independent d_demands_at_blocks d_is_open d_open_demands d_pieces_inside d_first_gap d_find_missing d_without_item d_require_generated d_can_spare d_prune_pieces d_law_deck d_law_draw d_law_line d_law_interval d_law_intervals d_law_conflict d_law_independent d_law_completions d_law_right d_law t_LAST_POSITION) : FnOk P w K mg base CX0 7 f_law_right d_law_right ["_law_targets", "_law_pieces", "_law_added", "_law_demands"] sp_law_right := by
  refine T.F_law_right.ok sc_law_right (fun vs H Q E h => ?_) (fun cdv A outer s H vs Q E hr h => ?_)
  · obtain ⟨a, b, l, e, us, ws, xs, zs, ts, ps, A, W, rfl, _⟩ := h
    rfl
  · obtain ⟨a, b, l, e, us, ws, xs, zs, ts, ps, A, W, rfl, ha, it, tg, hb, ip, pc, lp, hl, iA, fin, he, dm, few, ind, opn, q⟩ := h
    refine ⟨_, (pss_cons (ps_set (i := 4) sc_law_right.nd rfl (Or.inl rfl) (pe_callTy call_tuple_of (by rfl) T.z_tuple (by decide +kernel) (pa_cons (pe_callB (cr_sortedT rfl) (by rfl) T.z_sorted (by decide +kernel) (pa_cons (pe_callTy (cr_setOfT rfl hr.units) (by rfl) T.z_set (by decide +kernel) (pa_cons (pe_op op_cat (pe_callTy call_list_of (by rfl) T.z_list (by decide +kernel) (pa_cons (pv 1) pa_nil)) (pv 2)) pa_nil)) pa_nil)) pa_nil)))
      (pss_cons (ps_if (pt_cmpR op_notN (pe_call (ok_find_missing T) (hr.mono (by decide)) (by rfl) T.g_find_missing T.F_find_missing.kp T.b_find_missing .nil pass0 (pa_cons (pv 0) (pa_cons (pv 4) pa_nil))) pe_non (nomark _))
      (pss_one (ps_ret pe_bl))
      pss_nil)
      (pss_cons (ps_setLc (i := 5) (own := [("_law_piece", 6)]) (g := (gName 6)) (by rfl) sc_law_right.nd rfl rfl (sw_true rfl rfl rfl (by decide +kernel)) (pi_tup (pe_call (ok_prune_pieces T) (hr.mono (by decide)) (by rfl) T.g_prune_pieces T.F_prune_pieces.kp T.b_prune_pieces .nil pass0 (pa_cons (pv 0) (pa_cons (pv 4) pa_nil)))) (blkOk_by (own := [("_law_piece", 6)]) (N := N_law_right) (sc := defScope s_law_right) (by decide +kernel)) (fun _ _ _ _ _ => (pg_name (i := 6) sc_law_right.nd rfl (Or.inl rfl))) (fun _ _ _ _ _ => pts_one (pt_cmpR (show OpR _ (compareOp .NotIn) (rNotInT K) from (op_notInT (units65 hr))) (pv 6) (pv 1) (by rfl))) (fun _ _ _ _ _ => (pv 6)))
      (pss_cons (ps_for PassesOwn.never rfl (pi_tup (pv 4)) (pg_name (i := 6) sc_law_right.nd rfl (Or.inr rfl))
      (pss_one (ps_if (pt_cmpR op_gt (pe_callB call_len_seq (by rfl) T.z_len PySem.boot_len (pa_cons (pe_lc (own := [("_law_demand", 7)]) (g := (gName 7)) (by rfl) sc_law_right.nd (pi_list (pv 3)) (blkOk_by (own := [("_law_demand", 7)]) (N := N_law_right) (sc := defScope s_law_right) (by decide +kernel)) (fun _ _ _ _ _ => (pg_name (i := 7) sc_law_right.nd rfl (Or.inl rfl))) (fun _ _ _ _ _ => pts_one (pt_val (pe_call (ok_serves T) (hr.mono (by decide)) (by rfl) T.g_serves T.F_serves.kp T.b_serves .nil pass0 (pa_cons (pv 6) (pa_cons (pv 7) pa_nil))))) (fun _ _ _ _ _ => (pv 7))) pa_nil)) pe_int (nomark _))
      (pss_one (ps_ret pe_bl))
      pss_nil)))
      (pss_one (ps_ret (pe_cmpR op_le (pe_callB call_len_seq (by rfl) T.z_len PySem.boot_len (pa_cons (pv 3) pa_nil)) (pe_callB call_len_seq (by rfl) T.z_len PySem.boot_len (pa_cons (pv 5) pa_nil)) (nomark _)))))))), ?_⟩
    have lw := ip.length
    have lx := iA.length
    have lA := fin.few
    refine ⟨.ref b, rfl, b, ws, rfl, .inr (SqT.of hb), fun l2 nl2 => ?_⟩
    have s1 := same_new (o := .lst ws) nl2
    have el2 := upd_same (H := H) (a := l2) (o := .lst ws)
    generalize upd H l2 (.lst ws) = H1 at *
    refine ⟨.ref l, rfl, l2, l, _, _, rfl, rfl, el2, s1 _ _ hl, by rw [show sizeLine = 16777216 by decide]; omega, fun g ng => ?_⟩
    have s2 := same_new (o := .lst (ws ++ xs)) ng
    have eg := upd_same (H := H1) (a := g) (o := .lst (ws ++ xs))
    generalize upd H1 g (.lst (ws ++ xs)) = H2 at *
    have s12 := s1.trans s2
    have iv : Ivs H2 (ws ++ xs) (ps ++ A) := (ip.same s12).append (iA.same s12)
    have pcA : ∀ q ∈ ps ++ A, (0 ≤ q.1 ∧ q.1 ≤ q.2) ∧ q.2 < 10 ^ 13 := fun q hq => (List.mem_append.mp hq).elim (pc q) (fin.pc q)
    dsimp only [tNil]
    refine sorted_set_pairs (SqL.of eg) iv (by rw [List.length_append]; omega) (fun q hq => ?_) (fun H3 p3 us3 ps3 s3 np3 ep3 iv3 srt3 mem3 => ?_)
    · have := pcA q hq
      exact ⟨⟨this.1.1, by omega⟩, by omega, this.2⟩
    have s13 := s12.trans s3
    refine ⟨p3, us3, rfl, .inl ⟨SqL.of ep3, fun B nB => ?_⟩⟩
    have s4 := same_new (o := .tup us3) nB
    have eB := upd_same (H := H3) (a := B) (o := .tup us3)
    generalize upd H3 B (.tup us3) = H4 at *
    have s14 := s13.trans s4
    have ivB := iv3.same s4
    have pcB : Pc ps3 := fun q hq => pcA q ((mem3 q).mp hq)
    have lB : ps3.length ≤ 63 := by
      have := nodup_le (ltP_nd3 srt3) (m := ps ++ A) fun q hq => (mem3 q).mp hq
      rw [List.length_append] at this
      omega
    have gen : missO ps3 ts = none := missO_none.mpr fun t ht => gapO_eq (q := t) (show IsGap ps3 t.1 t.2 none from fun p h1 h2 => by
      obtain ⟨q, hq, w1, w2, w3, w4⟩ := fin.com t ht p h1 h2
      exact ⟨q, (mem3 q).mpr (List.mem_append_right _ hq), ⟨w1, w4⟩, w2, w3⟩)
    refine ⟨.ref a, rfl, .ref B, rfl, a, B, us, us3, ts, ps3, rfl, s14 _ _ ha, it.same s14, tg, eB, ivB, pcB, lB, fun H5 r5 s5 dv5 => ?_⟩
    rw [gen] at dv5
    have dv5 : r5 = .non := dv5
    subst dv5
    refine ⟨rfl, _, rfl, iteF ?_⟩
    have few63 := lB
    refine ⟨.ref a, rfl, .ref B, rfl, a, B, us, us3, ts, ps3, rfl, (s14.trans s5) _ _ ha, it.same (s14.trans s5), tg, s5 _ _ eB, ivB.same s5, pcB, lB, gen, fun H6 P pw s6 eP ivP => ?_⟩
    have s16 := (s14.trans s5).trans s6
    have prl := prO_len ts ps3 ps3
    have pgen := prO_miss (qs := ps3) gen
    generalize prO ts ps3 ps3 = pr at *
    have lpw := ivP.length
    refine ⟨P, rfl, ⟨_, SqT.of eP⟩, fun D nD => ?_⟩
    refine lcT (K := K) (a := P) (xs := pw) (fun j H' ws => Ivs H' ws ((pr.take j).filter fun z => !decide (z ∈ ps))) nD (fun H' s => SqT.of (s _ _ (eP))) (by omega) (fun _ _ _ _ t r => r.tps t) (fun j H' ws r => (by rw [r.length]; exact Nat.le_trans (List.length_filter_le _ _) (List.length_take_le _ _))) (fun _ => .nil) ?_ ?_
    · rintro j z H' N acc hj sj eA sz r no yes
      obtain ⟨t, x, y, rfl, exy, ht⟩ := ivP.get hj
      have sHj := s16.trans sj
      refine ⟨rfl, .ref t, rfl, .ref b, rfl, _, ps.map pairD, dp2 (sj _ _ ht), .tup (SqT.of (sHj _ _ hb)) (ip.same sHj).dp, rfl, shaped_pairs _, _, rfl, ?_⟩
      rw [any_pair]
      refine ite2 (fun c => ?_) (fun c => ?_)
      · refine ⟨.ref t, rfl, yes H' _ (Same.refl _) ?_⟩
        rw [take_filter exy, if_pos c]
        exact r.snoc (sj _ _ ht)
      · refine no H' (Same.refl _) ?_
        rw [take_filter exy, if_neg c, List.append_nil]
        exact r
    intro H7 mw s7 eD rM
    rw [lpw, List.take_length] at rM
    have s17 := s16.trans s7
    have com : Com ts ps (pr.filter fun z => !decide (z ∈ ps)) := fun t ht p h1 h2 => by
      have g := gapO_spec pr t
      rw [missO_none.mp pgen t ht] at g
      obtain ⟨q, hq, ⟨w1, w2⟩, w3, w4⟩ := g p h1 h2
      refine ⟨q, ?_, w1, w3, w4, w2⟩
      by_cases hm : q ∈ ps
      · exact List.mem_append_left _ hm
      · exact List.mem_append_right _ (List.mem_filter.mpr ⟨hq, by rw [decide_eq_false hm]; rfl⟩)
    have dual := weak_dual com ind opn
    have lM := rM.length
    generalize (pr.filter fun z => !decide (z ∈ ps)) = M at *
    have lz := dm.length
    have eBn := ((s5.trans s6).trans s7) _ _ eB
    have ivBn := ivB.same ((s5.trans s6).trans s7)
    have lB3 := ivB.length
    refine ⟨.ref B, rfl, B, rfl, ⟨_, SqT.of eBn⟩, ?_⟩
    refine for_tup (K := K) (a := B) (xs := us3) (D := ⟨_, _, fun _ _ => True, fun _ _ => True⟩) (fun j σ H' => Same H7 H' ∧ ∃ y6 y7, σ = [some (.ref a), some (.ref b), some (.ref l), some (.ref e), some (.ref B), some (.ref D), y6, y7]) ⟨Same.refl _, _, _, rfl⟩ (fun j σ H' _ h => SqT.of (h.1 _ _ eBn)) ?_ ?_
    · rintro j v σ H8 hj ⟨s8, y6, y7, rfl⟩
      obtain ⟨t, x, y, rfl, exy, ht⟩ := ivBn.get hj
      have s18 := s17.trans s8
      have he8 := s18 _ _ he
      refine ⟨.ref e, rfl, e, rfl, ⟨_, SqL.of he8⟩, fun D2 nD2 => ?_⟩
      refine lcL (K := K) (a := e) (xs := zs) (fun j H' ws => Dms H' ws ((W.take j).filter fun d => sv (x, y) d)) nD2 (fun H' s => SqL.of (s _ _ (he8))) (by omega) (fun _ _ _ _ t r => r.tps t) (fun j H' ws r => (by rw [r.length]; exact Nat.le_trans (List.length_filter_le _ _) (List.length_take_le _ _))) (fun _ => .nil) ?_ ?_
      · rintro j2 z H' N acc hj2 sj eA sz r no yes
        obtain ⟨p, lo, hi, ed, dz⟩ := ((dm.same s18).same sj).get hj2
        obtain ⟨u, t2, rfl, g1, g2⟩ := dz.ex
        refine ⟨rfl, .ref t, rfl, .ref u, rfl, t, u, t2, x, y, p, lo, hi, rfl, sj _ _ (s8 _ _ ht), g1, g2, _, rfl, ?_⟩
        have ev := sv_svI (x, y) (p, lo, hi)
        dsimp only at ev
        rw [ev]
        refine ite2 (fun c => ?_) (fun c => ?_)
        · refine ⟨.ref u, rfl, yes H' _ (Same.refl _) ?_⟩
          rw [take_filter ed, if_pos c]
          exact r.snoc dz
        · refine no H' (Same.refl _) ?_
          rw [take_filter ed, if_neg c, List.append_nil]
          exact r
      intro H9 fw s9 eD2 rf
      rw [lz, List.take_length] at rf
      have one : (W.filter fun d => sv (x, y) d).length ≤ 1 := by
        have := ind.cov_le (x, y)
        unfold cov at this
        rw [List.countP_eq_length_filter] at this
        exact this
      have lf : fw.length ≤ 1 := by
        rw [rf.length]
        exact one
      refine ⟨D2, fw, rfl, .inl (SqL.of eD2), _, _, rfl, rfl, _, rfl, ite2 (fun c => absurd (of_decide_eq_true c) (by omega)) (fun _ => ?_)⟩
      exact ⟨s8.trans s9, _, _, rfl⟩
    · rintro σ H8 ⟨s8, y6, y7, rfl⟩
      have s18 := s17.trans s8
      refine ⟨.ref e, rfl, e, zs, rfl, .inl (SqL.of (s18 _ _ he)), .ref D, rfl, D, mw, rfl, .inl (SqL.of (s8 _ _ eD)), _, _, rfl, rfl, ?_⟩
      have z := q H8 s18
      show Q (.bl (decide ((zs.length : Int) ≤ (mw.length : Int)))) H8
      rw [decide_eq_true (show (zs.length : Int) ≤ (mw.length : Int) by omega)]
      exact z

def rLenSet (w : World) : List V → Hp → VK → Prop := fun xs H Q => ∃ (a : Addr) (S : Int → Bool) (n : Nat), xs = [.ref a] ∧ H a = some (SetO w a S n) ∧ Q (.int n) H
theorem cr_lenSet {X : Cx} : CallR X (.builtin "len") (rLenSet X.w) := by
  intro ps s σ H xs us Q I r h
  obtain ⟨a, S, n, rfl, ha, q⟩ := h
  rw [Vals.ref1 r]
  obtain ⟨o, es, ep, t, ho, hex, hd, _, _, _, lim, fits, rfl, _⟩ := setO_get I ha
  refine call_len_set ho hex hd fits ?_ ⟨.int es.size, H, I.tok _, ⟨_, rfl⟩, q⟩
  unfold scanBound at lim
  omega

theorem ind_nd2 {W : List Dem} (v : ∀ d ∈ W, Vd d) (i : Ind W) : (W.map (·.2)).Nodup := by
  refine List.pairwise_map.mpr (i.imp_of_mem fun {d e} hd he k z => ?_)
  have z : d.2 = e.2 := z
  have h1 := v d hd
  have h2 := v e he
  unfold Vd at h1 h2
  have c : cf d e = true := cf_iff.mpr (by rw [← z] at h2 ⊢; exact ⟨⟨by omega, by omega⟩, by omega, by omega⟩)
  rw [c] at k
  cases k
theorem ind_nd1 {W : List Dem} (v : ∀ d ∈ W, Vd d) (i : Ind W) : (W.map (·.1)).Nodup := by
  refine List.pairwise_map.mpr (i.imp_of_mem fun {d e} hd he k z => ?_)
  have z : d.1 = e.1 := z
  have h1 := v d hd
  have h2 := v e he
  unfold Vd at h1 h2
  have c : cf d e = true := cf_iff.mpr (by omega)
  rw [c] at k
  cases k
theorem open_of {ts ps : List (Int × Int)} {d : Dem} (h : d ∈ (dab ts (blocksOf (ts ++ ps))).filter (opB ps)) : OpenD ts ps d := by
  obtain ⟨h1, h2⟩ := List.mem_filter.mp h
  obtain ⟨b, hb, h3⟩ := List.mem_flatMap.mp h1
  unfold dabT at h3
  obtain ⟨t, ht, rfl⟩ := List.mem_map.mp h3
  obtain ⟨ht1, ht2⟩ := List.mem_filter.mp ht
  have c : t.1 ≤ b.1 ∧ b.1 ≤ t.2 := by
    unfold atP at ht2
    have z := Bool.and_eq_true_iff.mp ht2
    exact ⟨of_decide_eq_true z.1, of_decide_eq_true z.2⟩
  exact ⟨ht1, c, opB_iff.mp h2⟩
def sp_law (K : PySem.W.Frag) : Sp := fun vs H Q _ => ∃ (a : Addr) (ns : List Int), vs = [.ref a] ∧ SqL K H a (ns.map V.int) ∧ ns.length ≤ 63 ∧ ∀ H', Q (.bl true) H'
theorem ok_law (T : Tx K mg f_depth_changes f_find_blocks f_is_number f_is_position f_is_tuple_of f_is_interval f_has_position f_contains f_is_demand f_serves f_conflict f_is_independent f_demands_at_blocks f_is_open f_open_demands f_pieces_inside f_first_gap f_find_missing f_without_item f_require_generated f_can_spare f_prune_pieces f_law_deck f_law_draw f_law_line f_law_interval f_law_intervals f_law_conflict f_law_independent f_law_completions f_law_right f_law d_depth_changes d_find_blocks d_is_number d_is_position d_is_tuple_of d_is_interval d_has_position d_contains d_is_demand d_serves d_conflict d_is_independent d_demands_at_blocks d_is_open d_open_demands d_pieces_inside d_first_gap d_find_missing d_without_item d_require_generated d_can_spare d_prune_pieces d_law_deck d_law_draw d_law_line d_law_interval d_law_intervals d_law_conflict d_law_independent d_law_completions d_law_right d_law t_LAST_POSITION) : FnOk P w K mg base CX0 8 f_law d_law ["_law_script"] (sp_law K) := by
  refine T.F_law.ok sc_law (fun vs H Q E h => ?_) (fun cdv A outer s H vs Q E hr h => ?_)
  · obtain ⟨a, ns, rfl, _⟩ := h
    rfl
  · obtain ⟨a, ns, rfl, hS, hlen, q⟩ := h
    refine ⟨_, (pss_cons (ps_set (i := 1) sc_law.nd rfl (Or.inl rfl) (pe_call (ok_law_deck T) (hr.mono (by decide)) (by rfl) T.g_law_deck T.F_law_deck.kp T.b_law_deck .nil pass0 (pa_cons (pv 0) pa_nil)))
      (pss_cons (ps_for PassesOwn.never rfl (pi_range1 (by rfl) T.z_range (pa_cons pe_int pa_nil)) (pg_name (i := 2) sc_law.nd rfl (Or.inl rfl))
      (pss_cons (ps_set (i := 3) sc_law.nd rfl (Or.inl rfl) (pe_call (ok_law_line T) (hr.mono (by decide)) (by rfl) T.g_law_line T.F_law_line.kp T.b_law_line .nil pass0 (pa_cons (pv 1) (pa_cons (pe_op op_add pe_int (pe_call (ok_law_draw T) (hr.mono (by decide)) (by rfl) T.g_law_draw T.F_law_draw.kp T.b_law_draw .nil pass0 (pa_cons (pv 1) (pa_cons pe_int pa_nil)))) pa_nil))))
      (pss_cons (ps_par (by rfl) sc_law.nd (i := 4) (j := 5) rfl rfl (by decide) rfl rfl (pa_cons (pe_call (ok_law_intervals T) (hr.mono (by decide)) (by rfl) T.g_law_intervals T.F_law_intervals.kp T.b_law_intervals .nil pass0 (pa_cons (pv 1) (pa_cons (pv 3) (pa_cons pe_int pa_nil)))) (pa_cons (pe_call (ok_law_intervals T) (hr.mono (by decide)) (by rfl) T.g_law_intervals T.F_law_intervals.kp T.b_law_intervals .nil pass0 (pa_cons (pv 1) (pa_cons (pv 3) (pa_cons pe_int pa_nil)))) pa_nil)) (by rfl))
      (pss_one (ps_for PassesOwn.never rfl (pi_list (pe_lst (pa_cons (pe_tup pa_nil) (pa_cons (pv 5) pa_nil)))) (pg_name (i := 6) sc_law.nd rfl (Or.inl rfl))
      (pss_cons (ps_set (i := 7) sc_law.nd rfl (Or.inl rfl) (pe_call (ok_law_independent T) (hr.mono (by decide)) (by rfl) T.g_law_independent T.F_law_independent.kp T.b_law_independent .nil pass0 (pa_cons (pv 1) (pa_cons (pe_call (ok_open_demands T) (hr.mono (by decide)) (by rfl) T.g_open_demands T.F_open_demands.kp T.b_open_demands .nil pass0 (pa_cons (pv 4) (pa_cons (pv 6) pa_nil))) pa_nil))))
      (pss_cons (ps_if (pt_cmpR op_isnot_bl (pe_call (ok_is_independent T) (hr.mono (by decide)) (by rfl) T.g_is_independent T.F_is_independent.kp T.b_is_independent .nil pass0 (pa_cons (pe_callTy call_tuple_of (by rfl) T.z_tuple (by decide +kernel) (pa_cons (pv 7) pa_nil)) pa_nil)) pe_bl (nomark _))
      (pss_one (ps_ret pe_bl))
      pss_nil)
      (pss_cons (ps_setLc (i := 8) (own := [("_law_position", 9), ("_law_target", 10)]) (g := (gTup K 2 (gCons (gName 9) (gCons (gName 10) gNil)))) (tt := tYes) (by rfl) sc_law.nd rfl rfl (sw_true rfl rfl rfl (by decide +kernel)) (pi_list (pv 7)) (blkOk_by (own := [("_law_position", 9), ("_law_target", 10)]) (N := N_law) (sc := defScope s_law) (by decide +kernel)) (fun _ _ _ _ _ => (pg_tup rfl (pgs_cons (pg_name (i := 9) sc_law.nd rfl (Or.inl rfl)) (pgs_cons (pg_name (i := 10) sc_law.nd rfl (Or.inl rfl)) pgs_nil)))) (fun _ _ _ _ _ => pts_nil) (fun _ _ _ _ _ => (pv 9)))
      (pss_cons (ps_setLc (i := 11) (own := [("_law_position", 9), ("_law_target", 10)]) (g := (gTup K 2 (gCons (gName 9) (gCons (gName 10) gNil)))) (tt := tYes) (by rfl) sc_law.nd rfl rfl (sw_true rfl rfl rfl (by decide +kernel)) (pi_list (pv 7)) (blkOk_by (own := [("_law_position", 9), ("_law_target", 10)]) (N := N_law) (sc := defScope s_law) (by decide +kernel)) (fun _ _ _ _ _ => (pg_tup rfl (pgs_cons (pg_name (i := 9) sc_law.nd rfl (Or.inl rfl)) (pgs_cons (pg_name (i := 10) sc_law.nd rfl (Or.inl rfl)) pgs_nil)))) (fun _ _ _ _ _ => pts_nil) (fun _ _ _ _ _ => (pv 10)))
      (pss_cons (ps_if (PW.pt (pw_or (pt_cmpR op_ne (pe_callB cr_lenSet (by rfl) T.z_len PySem.boot_len (pa_cons (pe_callTy (cr_setOfI3 rfl) (by rfl) T.z_set (by decide +kernel) (pa_cons (pv 8) pa_nil)) pa_nil)) (pe_callB call_len_seq (by rfl) T.z_len PySem.boot_len (pa_cons (pv 7) pa_nil)) (nomark _)) (pw_or1 (pt_cmpR op_ne (pe_callB cr_lenSetN (by rfl) T.z_len PySem.boot_len (pa_cons (pe_callTy (cr_setOfT rfl hr.units) (by rfl) T.z_set (by decide +kernel) (pa_cons (pv 11) pa_nil)) pa_nil)) (pe_callB call_len_seq (by rfl) T.z_len PySem.boot_len (pa_cons (pv 7) pa_nil)) (nomark _)))))
      (pss_one (ps_ret pe_bl))
      pss_nil)
      (pss_one (ps_for PassesOwn.never rfl (pi_list (pe_call (ok_law_completions T) (hr.mono (by decide)) (by rfl) T.g_law_completions T.F_law_completions.kp T.b_law_completions .nil pass0 (pa_cons (pv 1) (pa_cons (pv 4) (pa_cons (pv 6) (pa_cons (pv 3) pa_nil)))))) (pg_name (i := 12) sc_law.nd rfl (Or.inl rfl))
      (pss_one (ps_if (pt_not (pt_val (pe_call (ok_law_right T) (hr.mono (by decide)) (by rfl) T.g_law_right T.F_law_right.kp T.b_law_right .nil pass0 (pa_cons (pv 4) (pa_cons (pv 6) (pa_cons (pv 12) (pa_cons (pv 7) pa_nil)))))))
      (pss_one (ps_ret pe_bl))
      pss_nil))))))))))))))
      (pss_one (ps_ret pe_bl)))), ?_⟩
    refine ⟨.ref a, rfl, a, ns, rfl, hS, hlen, fun H1 d c s1 nd nc dk0 => ?_⟩
    refine ⟨8, rfl, by decide, by decide, for_range (n := 8) (D := ⟨_, _, fun _ _ => True, fun _ _ => True⟩) (fun i σ H' => (∃ n : Int, Dk H' d c n ∧ 0 ≤ n ∧ n ≤ 2000 * i) ∧ ∃ y2 y3 y4 y5 y6 y7 y8 y9 y10 y11 y12, σ = [some (.ref a), some (.ref d), y2, y3, y4, y5, y6, y7, y8, y9, y10, y11, y12])
      ⟨⟨0, dk0, by decide, by decide⟩, _, _, _, _, _, _, _, _, _, _, _, rfl⟩ ?_ (fun σ H' _ => q H')⟩
    rintro i σ H2 hi ⟨⟨n, dk2, n0, n1⟩, y2, y3, y4, y5, y6, y7, y8, y9, y10, y11, y12, rfl⟩
    clear s1 dk0 nd nc hS
    refine ⟨.ref d, rfl, .ref d, rfl, d, c, n, 9, rfl, dk2, n0, by omega, by decide, by decide, fun H3 r kp3 dk3 r0 r1 => ?_⟩
    refine ⟨_, _, rfl, rfl, d, c, n + 1, 1 + r, rfl, dk3, by omega, by omega, by omega, by omega, fun H4 l ls kp4 dk4 nl el ll ln => ?_⟩
    have offl := dk3.off nl
    refine ⟨.ref d, rfl, .ref l, rfl, d, c, l, _, 10, ls, rfl, dk4, by omega, by omega, offl, el, by omega, by omega, ln, by decide, by decide, fun H5 tt tus ts m5 kp5 dk5 m50 m51 ett tiv trow tl => ?_⟩
    have el5 := kp5.keep offl el
    refine ⟨.ref d, rfl, .ref l, rfl, d, c, l, _, 5, ls, rfl, dk5, by omega, by omega, offl, el5, by omega, by omega, ln, by decide, by decide, fun H6 pp pus ps m6 kp6 dk6 m60 m61 epp piv prow pl => ?_⟩
    have ett6 := (kp6.tps dk5) _ _ ett
    have tiv6 := tiv.tps (kp6.tps dk5)
    have el6 := kp6.keep offl el5
    have ptc := trow.pc ln
    have tg : Tg ts := fun t ht => (ptc t ht).1.2
    clear kp3 dk3 kp4 dk4 el el5 ett tiv kp5 dk5 kp6
    refine ⟨_, _, rfl, ?_⟩
    refine ⟨by show 0 ≤ sizeLine; decide, fun e0 ne0 => ?_⟩
    have s7 := same_new (o := .tup []) ne0
    have ee0 := upd_same (H := H6) (a := e0) (o := .tup [])
    generalize upd H6 e0 (.tup []) = H7 at *
    have dk7 := dk6.kept s7
    refine ⟨.ref pp, rfl, by show 2 ≤ sizeLine; decide, fun g ng => ?_⟩
    have offg := dk7.off ng
    have s8 := same_new (o := .lst [.ref e0, .ref pp]) ng
    have eg := upd_same (H := H7) (a := g) (o := .lst [.ref e0, .ref pp])
    generalize upd H7 g (.lst [.ref e0, .ref pp]) = H8 at *
    have s68 := s7.trans s8
    refine ⟨g, rfl, ⟨_, SqL.of eg⟩, ?_⟩
    have dk8 := dk7.kept s8
    refine for_list (K := K) (a := g) (xs := [.ref e0, .ref pp]) (D := ⟨_, _, fun _ _ => True, fun _ _ => True⟩) (fun j σ H' => (∃ m : Int, Dk H' d c m ∧ m6 ≤ m ∧ m ≤ m6 + 910 * j) ∧ Kp d c H8 H' ∧ ∃ y6 y7 y8 y9 y10 y11 y12, σ = [some (.ref a), some (.ref d), some (.int (0 + i)), some (.ref l), some (.ref tt), some (.ref pp), y6, y7, y8, y9, y10, y11, y12])
      ⟨⟨m6, dk8, Int.le_refl _, by omega⟩, Kp.same (Same.refl _), _, _, _, _, _, _, _, rfl⟩ (fun j σ H' _ h => SqL.of (h.2.1.keep offg eg)) ?_ ?_
    rotate_left
    · rintro σ H9 ⟨⟨m, dk9, m0, m1⟩, kp9, z6, z7, z8, z9, z10, z11, z12, rfl⟩
      exact ⟨⟨m, dk9, by omega, by (have : ([V.ref e0, .ref pp]).length = 2 := rfl; omega)⟩, _, _, _, _, _, _, _, _, _, _, _, rfl⟩
    rintro j x σ H9 hj ⟨⟨m, dk9, m0, m1⟩, kp9, z6, z7, z8, z9, z10, z11, z12, rfl⟩
    have t69 : Tps H6 H9 := (Tps.same s68).trans (kp9.tps dk8)
    have el9 := kp9.keep offl (s68 _ _ el6)
    obtain ⟨b, ws, S, rfl, hb, iS, rS, lS⟩ : ∃ b ws S, x = .ref b ∧ H9 b = some (.tup ws) ∧ Ivs H9 ws S ∧ Row ls S ∧ S.length ≤ 5 := by
      match j, hj with
      | 0, hj =>
        cases hj
        exact ⟨e0, [], [], rfl, kp9.tup dk8 (s8 _ _ ee0), .nil, ⟨List.Pairwise.nil, fun q hq => nomatch hq⟩, Nat.zero_le _⟩
      | 1, hj =>
        cases hj
        exact ⟨pp, pus, ps, rfl, t69 _ _ epp, piv.tps t69, prow, by omega⟩
      | j + 2, hj => simp at hj
    have j2 : j < 2 := (List.getElem?_eq_some_iff.mp hj).1
    have pcS := rS.pc ln
    have ett9 := t69 _ _ ett6
    have tiv9 := tiv6.tps t69
    have ltu := tiv9.length
    have lsu := iS.length
    clear hj t69
    have good : Good (ts ++ S) := fun q hq => (List.mem_append.mp hq).elim (fun h => (ptc q h).1) fun h => (pcS q h).1
    refine ⟨.ref d, rfl, .ref tt, rfl, .ref b, rfl, tt, b, tus, ws, ts, S, rfl, ett9, hb, tiv9, iS, good, by omega, fun Ha o zs sa eo dmo => ?_⟩
    have opn : ∀ x ∈ (dab ts (blocksOf (ts ++ S))).filter (opB S), OpenD ts S x := fun x hx => open_of hx
    have lD : ((dab ts (blocksOf (ts ++ S))).filter (opB S)).length ≤ 900 := by
      have h0 := List.length_filter_le (opB S) (dab ts (blocksOf (ts ++ S)))
      have h1 := dab_len (ts := ts) (bs := blocksOf (ts ++ S))
      have h2 := blocks_few good
      rw [List.length_append] at h2
      have h3 : (blocksOf (ts ++ S)).length * ts.length ≤ 60 * 10 := Nat.mul_le_mul (by omega) (by omega)
      omega
    generalize (dab ts (blocksOf (ts ++ S))).filter (opB S) = DD at *
    refine ⟨d, c, o, m, zs, DD, rfl, dk9.kept sa, by omega, by omega, eo, dmo, lD, fun Hb dl ww W m2 kpb dkb b0 b1 edl offd dmw subW ind lW => ?_⟩
    have t9b : Tps H9 Hb := (Tps.same sa).trans (kpb.tps (dk9.kept sa))
    have kp9b : Kp d c H9 Hb := (Kp.same sa).trans kpb
    have opW : ∀ x ∈ W, OpenD ts S x := fun x hx => opn x (subW x hx)
    have vdW : ∀ x ∈ W, Vd x := fun x hx => (opW x hx).2.1
    have nd2 := ind_nd2 vdW ind
    have nd1 := ind_nd1 vdW ind
    have lW10 : W.length ≤ 10 := by
      have a1 := nodup_le nd2 (m := ts) fun t ht => by
        obtain ⟨z, hz, rfl⟩ := List.mem_map.mp ht
        exact (opW z hz).1
      rw [List.length_map] at a1
      omega
    have iok : IndOk W := ⟨fun z hz => by
      have o1 := opW z hz
      have p1 := trow.ok _ o1.1
      have c1 := ln.ok _ p1.1.1
      have c2 := ln.ok _ p1.1.2
      have v1 := vdW z hz
      unfold Vd at v1
      omega, ind⟩
    clear opn dmo sa subW lW eo
    have lww := dmw.length
    refine ⟨.ref dl, rfl, dl, ww, rfl, .inl ⟨SqL.of edl, fun v nv => ?_⟩⟩
    have sc := same_new (o := .tup ww) nv
    have ev := upd_same (H := Hb) (a := v) (o := .tup ww)
    generalize upd Hb v (.tup ww) = Hc at *
    refine ⟨v, ww, W, rfl, ev, dmw.same sc, by omega, iok, fun Hd sd => ?_⟩
    refine ⟨true, true, rfl, rfl, _, rfl, iteF ?_⟩
    have sbd := sc.trans sd
    have edld := sbd _ _ edl
    have dmd := dmw.same sbd
    -- positions
    refine ⟨.ref dl, rfl, dl, rfl, ⟨_, SqL.of edld⟩, fun D2 nD2 => ?_⟩
    refine lcL (K := K) (a := dl) (xs := ww) (fun j H' ws => ws = ((W.take j).map (·.1)).map V.int) nD2 (fun H' s => SqL.of (s _ _ (edld))) (by omega) (fun _ _ _ _ t r => r) (fun j H' ws r => (by rw [r, List.length_map, List.length_map]; exact List.length_take_le _ _)) (fun _ => rfl) ?_ ?_
    · rintro j z H' N acc hj sj2 eA sz rr' no yes
      obtain ⟨p, lo, hi', ed, dz⟩ := (dmd.same sj2).get hj
      obtain ⟨uz, tz, rfl, h1, h2⟩ := dz.ex
      refine ⟨uz, _, rfl, SqT.of h1, rfl, .int p, [.ref tz], rfl, .ref tz, [], rfl, rfl, rfl, .int p, rfl, yes H' _ (Same.refl _) ?_⟩
      rw [rr', List.take_add_one, ed, List.map_append, List.map_append]
      rfl
    intro He ws2 se eD2 rr2
    rw [lww, List.take_length] at rr2
    subst rr2
    have sbe := sbd.trans se
    -- owners
    refine ⟨.ref dl, rfl, dl, rfl, ⟨_, SqL.of (se _ _ edld)⟩, fun D3 nD3 => ?_⟩
    refine lcL (K := K) (a := dl) (xs := ww) (fun j H' ws => Ivs H' ws ((W.take j).map (fun z : Dem => z.2))) nD3 (fun H' s => SqL.of (s _ _ ((se _ _ edld)))) (by omega) (fun _ _ _ _ t r => r.tps t) (fun j H' ws r => (by rw [r.length, List.length_map]; exact List.length_take_le _ _)) (fun _ => .nil) ?_ ?_
    · rintro j z H' N acc hj sj2 eA sz rr' no yes
      obtain ⟨p, lo, hi', ed, dz⟩ := ((dmd.same se).same sj2).get hj
      obtain ⟨uz, tz, rfl, h1, h2⟩ := dz.ex
      refine ⟨uz, _, rfl, SqT.of h1, rfl, .int p, [.ref tz], rfl, .ref tz, [], rfl, rfl, rfl, .ref tz, rfl, yes H' _ (Same.refl _) ?_⟩
      rw [List.take_add_one, ed, List.map_append]
      exact rr'.snoc h2
    intro Hf ws3 sf eD3 rr3
    rw [lww, List.take_length] at rr3
    have sbf := sbe.trans sf
    refine ⟨.ref D2, rfl, ?_⟩
    refine ⟨D2, W.map (·.1), rfl, SqL.of (sf _ _ eD2), by rw [List.length_map]; omega, fun Hn sa2 n2 Ls sn nsa esa lnd lln lmem => ?_⟩
    have e1 : n2 = W.length := by
      have a1 := nodup_le lnd fun z hz => (lmem z).mp hz
      have a2 := nodup_le nd1 fun z hz => (lmem z).mpr hz
      rw [List.length_map] at a1 a2
      omega
    have sbn := sbf.trans sn
    refine ⟨sa2, _, n2, rfl, esa, .ref dl, rfl, dl, ww, rfl, .inl (SqL.of (sbn _ _ edl)), rfl, _, rfl, iteNS (by rw [e1, lww]) ?_⟩
    obtain ⟨ks, rfl, e2, e3⟩ := rr3.keys
    have lks : ks.length = W.length := by
      have z := congrArg List.length e2
      rw [List.length_map, List.length_map, List.length_map] at z
      exact z
    refine ⟨.ref D3, rfl, ?_⟩
    refine ⟨D3, ks, rfl, SqL.of (sn _ _ eD3), fun p hp => ?_, by omega, fun sa3 Ls3 na3 g1 g2 => ?_⟩
    · obtain ⟨x', y', e, e1⟩ := e3 p hp
      rw [e]
      exact SqT.of (sn _ _ e1)
    have so := same_new (o := SetTO P w sa3 Ls3) na3
    refine ⟨sa3, Ls3, rfl, upd_same, fun p hp => ?_, fun nd3 => ?_⟩
    · obtain ⟨x', y', e, e1⟩ := e3 p (g1 p hp)
      rw [e]
      exact SqT.of (so _ _ (sn _ _ e1))
    have knd : (ks.map (·.2)).Nodup := by
      rw [e2]
      refine List.pairwise_map.mpr (nd2.imp fun {p q} ne e => ne ?_)
      have e : [p.1, p.2] = [q.1, q.2] := e
      injection e with e1 e
      injection e with e2 _
      exact Prod.ext e1 e2
    have l3 : Ls3.length = W.length := by
      have a1 := nodup_le nd3 (m := ks.map (·.2)) fun z hz => by
        obtain ⟨p, hp, e⟩ := List.mem_map.mp hz
        exact List.mem_map.mpr ⟨p, g1 p hp, e⟩
      have a2 := nodup_le knd (m := Ls3.map (·.2)) fun z hz => by
        obtain ⟨p, hp, e⟩ := List.mem_map.mp hz
        exact e ▸ g2 p hp
      rw [List.length_map, List.length_map] at a1 a2
      omega
    have sbo := sbn.trans so
    refine ⟨.ref dl, rfl, dl, ww, rfl, .inl (SqL.of (sbo _ _ edl)), rfl, _, rfl, iteNS (by rw [l3, lww]) ?_⟩
    have dko := dkb.kept sbo
    have t9o : Tps H9 _ := t9b.trans (Tps.same sbo)
    have elo := sbo _ _ (kp9b.keep offl el9)
    refine ⟨.ref d, rfl, .ref tt, rfl, .ref b, rfl, .ref l, rfl, d, c, tt, b, l, m2, tus, ws, ls, ts, S, rfl, dko, by omega, by omega, t9o _ _ ett9, tiv9.tps t9o, trow, by omega, t9o _ _ hb, iS.tps t9o, rS, lS, offl, elo, by omega, by omega, ln, fun Hp g4 a1 a2 a3 x1 x2 x3 A1 A2 A3 kpp dkp eg4 ea1 iA1 fA1 ea2 iA2 fA2 ea3 iA3 fA3 => ?_⟩
    have tp := t9o.trans (kpp.tps dko)
    have edlp := kpp.keep offd (sbo _ _ edl)
    have dmp := (dmw.same sbo).tps (kpp.tps dko)
    have kpall : Kp d c H8 Hp := kp9.trans (kp9b.trans ((Kp.same sbo).trans kpp))
    refine ⟨g4, rfl, ⟨_, SqL.of eg4⟩, ?_⟩
    refine for_list (K := K) (a := g4) (xs := [.ref a1, .ref a2, .ref a3]) (D := ⟨_, _, fun _ _ => True, fun _ _ => True⟩) (fun j σ H' => Same Hp H' ∧ ∃ y8 y9 y10 y11 y12, σ = [some (.ref a), some (.ref d), some (.int (0 + i)), some (.ref l), some (.ref tt), some (.ref pp), some (.ref b), some (.ref dl), y8, y9, y10, y11, y12])
      ⟨Same.refl _, _, _, _, _, _, rfl⟩ (fun j σ H' _ h => SqL.of (h.1 _ _ eg4)) ?_ ?_
    · rintro k x σ Hq hk ⟨sq, w8, w9, w10, w11, w12, rfl⟩
      obtain ⟨la, xs, A, rfl, ela, iA, fA⟩ : ∃ la xs A, x = .ref la ∧ Hp la = some (.lst xs) ∧ Ivs Hp xs A ∧ Fin ts A := by
        match k, hk with
        | 0, hk =>
          cases hk
          exact ⟨a1, x1, A1, rfl, ea1, iA1, fA1⟩
        | 1, hk =>
          cases hk
          exact ⟨a2, x2, A2, rfl, ea2, iA2, fA2⟩
        | 2, hk =>
          cases hk
          exact ⟨a3, x3, A3, rfl, ea3, iA3, fA3⟩
        | k + 3, hk => simp at hk
      have tq := tp.trans (Tps.same sq)
      refine ⟨.ref tt, rfl, .ref b, rfl, .ref la, rfl, .ref dl, rfl, tt, b, la, dl, tus, ws, xs, ww, ts, S, A, W, rfl, tq _ _ ett9, tiv9.tps tq, tg, tq _ _ hb, iS.tps tq, pcS, lS, sq _ _ ela, iA.same sq, fA, sq _ _ edlp, dmp.same sq, by omega, ind, opW, fun Hr sr => ?_⟩
      refine ⟨_, rfl, iteF ?_⟩
      exact ⟨sq.trans sr, _, _, _, _, _, rfl⟩
    · rintro σ Hq ⟨sq, w8, w9, w10, w11, w12, rfl⟩
      exact ⟨⟨_, dkp.kept sq, by omega, by omega⟩, kpall.trans (Kp.same sq), _, _, _, _, _, _, _, rfl⟩

end
theorem all_mk {l : PySem.W.OpenLaw} {w : World} {K : PySem.W.Frag} {h : Heap} {mg : Str → Option Value} {fa f1 f2 f3 f4 f5 f6 f7 f8 f9 f10 f11 f12 f13 f14 f15 f16 f17 f18 f19 f20 f21 f22 f23 f24 f25 f26 f27 f28 f29 f30 f31 f32 : Addr} (X : K.In h) (G : h.Ns mainGlobals mg) (hfa : mg "law" = some (.ref fa))
    {od1 an1 od2 an2 od3 an3 od4 an4 od5 an5 od6 an6 od7 an7 od8 an8 od9 an9 od10 an10 od11 an11 od12 an12 od13 an13 od14 an14 od15 an15 od16 an16 od17 an17 od18 an18 od19 an19 od20 an20 od21 an21 od22 an22 od23 an23 od24 an24 od25 an25 od26 an26 od27 an27 od28 an28 od29 an29 od30 an30 od31 an31 od32 an32 : Option Addr} {sl1 sl2 sl3 sl4 sl5 sl6 sl7 sl8 sl9 sl10 sl11 sl12 sl13 sl14 sl15 sl16 sl17 sl18 sl19 sl20 sl21 sl22 sl23 sl24 sl25 sl26 sl27 sl28 sl29 sl30 sl31 sl32 : Array (Option Value)} {oc1 kV1 dc1 pm1 cd1 ct1 oc2 kV2 dc2 pm2 cd2 ct2 oc3 kV3 dc3 pm3 cd3 ct3 oc4 kV4 dc4 pm4 cd4 ct4 oc5 kV5 dc5 pm5 cd5 ct5 oc6 kV6 dc6 pm6 cd6 ct6 oc7 kV7 dc7 pm7 cd7 ct7 oc8 kV8 dc8 pm8 cd8 ct8 oc9 kV9 dc9 pm9 cd9 ct9 oc10 kV10 dc10 pm10 cd10 ct10 oc11 kV11 dc11 pm11 cd11 ct11 oc12 kV12 dc12 pm12 cd12 ct12 oc13 kV13 dc13 pm13 cd13 ct13 oc14 kV14 dc14 pm14 cd14 ct14 oc15 kV15 dc15 pm15 cd15 ct15 oc16 kV16 dc16 pm16 cd16 ct16 oc17 kV17 dc17 pm17 cd17 ct17 oc18 kV18 dc18 pm18 cd18 ct18 oc19 kV19 dc19 pm19 cd19 ct19 oc20 kV20 dc20 pm20 cd20 ct20 oc21 kV21 dc21 pm21 cd21 ct21 oc22 kV22 dc22 pm22 cd22 ct22 oc23 kV23 dc23 pm23 cd23 ct23 oc24 kV24 dc24 pm24 cd24 ct24 oc25 kV25 dc25 pm25 cd25 ct25 oc26 kV26 dc26 pm26 cd26 ct26 oc27 kV27 dc27 pm27 cd27 ct27 oc28 kV28 dc28 pm28 cd28 ct28 oc29 kV29 dc29 pm29 cd29 ct29 oc30 kV30 dc30 pm30 cd30 ct30 oc31 kV31 dc31 pm31 cd31 ct31 oc32 kV32 dc32 pm32 cd32 ct32 : Value} {tk0 : Tok}
    (a1 : PySem.W.nsIn K mainGlobals "depth_changes" = some (some (.ref f1))) (l1 : K.lookup f1 = some ⟨oc1, od1, .func (PySem.W.fnOf "depth_changes" "depth_changes" (defArgs s_depth_changes) (defBody s_depth_changes) (defScope s_depth_changes) .none kV1 dc1 pm1 an1 cd1 ct1), sl1⟩) (c1 : PySem.W.codeIn K cd1 "depth_changes" = true) (k1 : PySem.W.keepIn K (.ref f1) = true)
    (a2 : PySem.W.nsIn K mainGlobals "find_blocks" = some (some (.ref f2))) (l2 : K.lookup f2 = some ⟨oc2, od2, .func (PySem.W.fnOf "find_blocks" "find_blocks" (defArgs s_find_blocks) (defBody s_find_blocks) (defScope s_find_blocks) .none kV2 dc2 pm2 an2 cd2 ct2), sl2⟩) (c2 : PySem.W.codeIn K cd2 "find_blocks" = true) (k2 : PySem.W.keepIn K (.ref f2) = true)
    (a3 : PySem.W.nsIn K mainGlobals "is_number" = some (some (.ref f3))) (l3 : K.lookup f3 = some ⟨oc3, od3, .func (PySem.W.fnOf "is_number" "is_number" (defArgs s_is_number) (defBody s_is_number) (defScope s_is_number) .none kV3 dc3 pm3 an3 cd3 ct3), sl3⟩) (c3 : PySem.W.codeIn K cd3 "is_number" = true) (k3 : PySem.W.keepIn K (.ref f3) = true)
    (a4 : PySem.W.nsIn K mainGlobals "is_position" = some (some (.ref f4))) (l4 : K.lookup f4 = some ⟨oc4, od4, .func (PySem.W.fnOf "is_position" "is_position" (defArgs s_is_position) (defBody s_is_position) (defScope s_is_position) .none kV4 dc4 pm4 an4 cd4 ct4), sl4⟩) (c4 : PySem.W.codeIn K cd4 "is_position" = true) (k4 : PySem.W.keepIn K (.ref f4) = true)
    (a5 : PySem.W.nsIn K mainGlobals "is_tuple_of" = some (some (.ref f5))) (l5 : K.lookup f5 = some ⟨oc5, od5, .func (PySem.W.fnOf "is_tuple_of" "is_tuple_of" (defArgs s_is_tuple_of) (defBody s_is_tuple_of) (defScope s_is_tuple_of) .none kV5 dc5 pm5 an5 cd5 ct5), sl5⟩) (c5 : PySem.W.codeIn K cd5 "is_tuple_of" = true) (k5 : PySem.W.keepIn K (.ref f5) = true)
    (a6 : PySem.W.nsIn K mainGlobals "is_interval" = some (some (.ref f6))) (l6 : K.lookup f6 = some ⟨oc6, od6, .func (PySem.W.fnOf "is_interval" "is_interval" (defArgs s_is_interval) (defBody s_is_interval) (defScope s_is_interval) .none kV6 dc6 pm6 an6 cd6 ct6), sl6⟩) (c6 : PySem.W.codeIn K cd6 "is_interval" = true) (k6 : PySem.W.keepIn K (.ref f6) = true)
    (a7 : PySem.W.nsIn K mainGlobals "has_position" = some (some (.ref f7))) (l7 : K.lookup f7 = some ⟨oc7, od7, .func (PySem.W.fnOf "has_position" "has_position" (defArgs s_has_position) (defBody s_has_position) (defScope s_has_position) .none kV7 dc7 pm7 an7 cd7 ct7), sl7⟩) (c7 : PySem.W.codeIn K cd7 "has_position" = true) (k7 : PySem.W.keepIn K (.ref f7) = true)
    (a8 : PySem.W.nsIn K mainGlobals "contains" = some (some (.ref f8))) (l8 : K.lookup f8 = some ⟨oc8, od8, .func (PySem.W.fnOf "contains" "contains" (defArgs s_contains) (defBody s_contains) (defScope s_contains) .none kV8 dc8 pm8 an8 cd8 ct8), sl8⟩) (c8 : PySem.W.codeIn K cd8 "contains" = true) (k8 : PySem.W.keepIn K (.ref f8) = true)
    (a9 : PySem.W.nsIn K mainGlobals "is_demand" = some (some (.ref f9))) (l9 : K.lookup f9 = some ⟨oc9, od9, .func (PySem.W.fnOf "is_demand" "is_demand" (defArgs s_is_demand) (defBody s_is_demand) (defScope s_is_demand) .none kV9 dc9 pm9 an9 cd9 ct9), sl9⟩) (c9 : PySem.W.codeIn K cd9 "is_demand" = true) (k9 : PySem.W.keepIn K (.ref f9) = true)
    (a10 : PySem.W.nsIn K mainGlobals "serves" = some (some (.ref f10))) (l10 : K.lookup f10 = some ⟨oc10, od10, .func (PySem.W.fnOf "serves" "serves" (defArgs s_serves) (defBody s_serves) (defScope s_serves) .none kV10 dc10 pm10 an10 cd10 ct10), sl10⟩) (c10 : PySem.W.codeIn K cd10 "serves" = true) (k10 : PySem.W.keepIn K (.ref f10) = true)
    (a11 : PySem.W.nsIn K mainGlobals "conflict" = some (some (.ref f11))) (l11 : K.lookup f11 = some ⟨oc11, od11, .func (PySem.W.fnOf "conflict" "conflict" (defArgs s_conflict) (defBody s_conflict) (defScope s_conflict) .none kV11 dc11 pm11 an11 cd11 ct11), sl11⟩) (c11 : PySem.W.codeIn K cd11 "conflict" = true) (k11 : PySem.W.keepIn K (.ref f11) = true)
    (a12 : PySem.W.nsIn K mainGlobals "is_independent" = some (some (.ref f12))) (l12 : K.lookup f12 = some ⟨oc12, od12, .func (PySem.W.fnOf "is_independent" "is_independent" (defArgs s_is_independent) (defBody s_is_independent) (defScope s_is_independent) .none kV12 dc12 pm12 an12 cd12 ct12), sl12⟩) (c12 : PySem.W.codeIn K cd12 "is_independent" = true) (k12 : PySem.W.keepIn K (.ref f12) = true)
    (a13 : PySem.W.nsIn K mainGlobals "demands_at_blocks" = some (some (.ref f13))) (l13 : K.lookup f13 = some ⟨oc13, od13, .func (PySem.W.fnOf "demands_at_blocks" "demands_at_blocks" (defArgs s_demands_at_blocks) (defBody s_demands_at_blocks) (defScope s_demands_at_blocks) .none kV13 dc13 pm13 an13 cd13 ct13), sl13⟩) (c13 : PySem.W.codeIn K cd13 "demands_at_blocks" = true) (k13 : PySem.W.keepIn K (.ref f13) = true)
    (a14 : PySem.W.nsIn K mainGlobals "is_open" = some (some (.ref f14))) (l14 : K.lookup f14 = some ⟨oc14, od14, .func (PySem.W.fnOf "is_open" "is_open" (defArgs s_is_open) (defBody s_is_open) (defScope s_is_open) .none kV14 dc14 pm14 an14 cd14 ct14), sl14⟩) (c14 : PySem.W.codeIn K cd14 "is_open" = true) (k14 : PySem.W.keepIn K (.ref f14) = true)
    (a15 : PySem.W.nsIn K mainGlobals "open_demands" = some (some (.ref f15))) (l15 : K.lookup f15 = some ⟨oc15, od15, .func (PySem.W.fnOf "open_demands" "open_demands" (defArgs s_open_demands) (defBody s_open_demands) (defScope s_open_demands) .none kV15 dc15 pm15 an15 cd15 ct15), sl15⟩) (c15 : PySem.W.codeIn K cd15 "open_demands" = true) (k15 : PySem.W.keepIn K (.ref f15) = true)
    (a16 : PySem.W.nsIn K mainGlobals "pieces_inside" = some (some (.ref f16))) (l16 : K.lookup f16 = some ⟨oc16, od16, .func (PySem.W.fnOf "pieces_inside" "pieces_inside" (defArgs s_pieces_inside) (defBody s_pieces_inside) (defScope s_pieces_inside) .none kV16 dc16 pm16 an16 cd16 ct16), sl16⟩) (c16 : PySem.W.codeIn K cd16 "pieces_inside" = true) (k16 : PySem.W.keepIn K (.ref f16) = true)
    (a17 : PySem.W.nsIn K mainGlobals "first_gap" = some (some (.ref f17))) (l17 : K.lookup f17 = some ⟨oc17, od17, .func (PySem.W.fnOf "first_gap" "first_gap" (defArgs s_first_gap) (defBody s_first_gap) (defScope s_first_gap) .none kV17 dc17 pm17 an17 cd17 ct17), sl17⟩) (c17 : PySem.W.codeIn K cd17 "first_gap" = true) (k17 : PySem.W.keepIn K (.ref f17) = true)
    (a18 : PySem.W.nsIn K mainGlobals "find_missing" = some (some (.ref f18))) (l18 : K.lookup f18 = some ⟨oc18, od18, .func (PySem.W.fnOf "find_missing" "find_missing" (defArgs s_find_missing) (defBody s_find_missing) (defScope s_find_missing) .none kV18 dc18 pm18 an18 cd18 ct18), sl18⟩) (c18 : PySem.W.codeIn K cd18 "find_missing" = true) (k18 : PySem.W.keepIn K (.ref f18) = true)
    (a19 : PySem.W.nsIn K mainGlobals "without_item" = some (some (.ref f19))) (l19 : K.lookup f19 = some ⟨oc19, od19, .func (PySem.W.fnOf "without_item" "without_item" (defArgs s_without_item) (defBody s_without_item) (defScope s_without_item) .none kV19 dc19 pm19 an19 cd19 ct19), sl19⟩) (c19 : PySem.W.codeIn K cd19 "without_item" = true) (k19 : PySem.W.keepIn K (.ref f19) = true)
    (a20 : PySem.W.nsIn K mainGlobals "require_generated" = some (some (.ref f20))) (l20 : K.lookup f20 = some ⟨oc20, od20, .func (PySem.W.fnOf "require_generated" "require_generated" (defArgs s_require_generated) (defBody s_require_generated) (defScope s_require_generated) .none kV20 dc20 pm20 an20 cd20 ct20), sl20⟩) (c20 : PySem.W.codeIn K cd20 "require_generated" = true) (k20 : PySem.W.keepIn K (.ref f20) = true)
    (a21 : PySem.W.nsIn K mainGlobals "can_spare" = some (some (.ref f21))) (l21 : K.lookup f21 = some ⟨oc21, od21, .func (PySem.W.fnOf "can_spare" "can_spare" (defArgs s_can_spare) (defBody s_can_spare) (defScope s_can_spare) .none kV21 dc21 pm21 an21 cd21 ct21), sl21⟩) (c21 : PySem.W.codeIn K cd21 "can_spare" = true) (k21 : PySem.W.keepIn K (.ref f21) = true)
    (a22 : PySem.W.nsIn K mainGlobals "prune_pieces" = some (some (.ref f22))) (l22 : K.lookup f22 = some ⟨oc22, od22, .func (PySem.W.fnOf "prune_pieces" "prune_pieces" (defArgs s_prune_pieces) (defBody s_prune_pieces) (defScope s_prune_pieces) .none kV22 dc22 pm22 an22 cd22 ct22), sl22⟩) (c22 : PySem.W.codeIn K cd22 "prune_pieces" = true) (k22 : PySem.W.keepIn K (.ref f22) = true)
    (a23 : PySem.W.nsIn K mainGlobals "_law_deck" = some (some (.ref f23))) (l23 : K.lookup f23 = some ⟨oc23, od23, .func (PySem.W.fnOf "_law_deck" "_law_deck" (defArgs s_law_deck) (defBody s_law_deck) (defScope s_law_deck) .none kV23 dc23 pm23 an23 cd23 ct23), sl23⟩) (c23 : PySem.W.codeIn K cd23 "_law_deck" = true) (k23 : PySem.W.keepIn K (.ref f23) = true)
    (a24 : PySem.W.nsIn K mainGlobals "_law_draw" = some (some (.ref f24))) (l24 : K.lookup f24 = some ⟨oc24, od24, .func (PySem.W.fnOf "_law_draw" "_law_draw" (defArgs s_law_draw) (defBody s_law_draw) (defScope s_law_draw) .none kV24 dc24 pm24 an24 cd24 ct24), sl24⟩) (c24 : PySem.W.codeIn K cd24 "_law_draw" = true) (k24 : PySem.W.keepIn K (.ref f24) = true)
    (a25 : PySem.W.nsIn K mainGlobals "_law_line" = some (some (.ref f25))) (l25 : K.lookup f25 = some ⟨oc25, od25, .func (PySem.W.fnOf "_law_line" "_law_line" (defArgs s_law_line) (defBody s_law_line) (defScope s_law_line) .none kV25 dc25 pm25 an25 cd25 ct25), sl25⟩) (c25 : PySem.W.codeIn K cd25 "_law_line" = true) (k25 : PySem.W.keepIn K (.ref f25) = true)
    (a26 : PySem.W.nsIn K mainGlobals "_law_interval" = some (some (.ref f26))) (l26 : K.lookup f26 = some ⟨oc26, od26, .func (PySem.W.fnOf "_law_interval" "_law_interval" (defArgs s_law_interval) (defBody s_law_interval) (defScope s_law_interval) .none kV26 dc26 pm26 an26 cd26 ct26), sl26⟩) (c26 : PySem.W.codeIn K cd26 "_law_interval" = true) (k26 : PySem.W.keepIn K (.ref f26) = true)
    (a27 : PySem.W.nsIn K mainGlobals "_law_intervals" = some (some (.ref f27))) (l27 : K.lookup f27 = some ⟨oc27, od27, .func (PySem.W.fnOf "_law_intervals" "_law_intervals" (defArgs s_law_intervals) (defBody s_law_intervals) (defScope s_law_intervals) .none kV27 dc27 pm27 an27 cd27 ct27), sl27⟩) (c27 : PySem.W.codeIn K cd27 "_law_intervals" = true) (k27 : PySem.W.keepIn K (.ref f27) = true)
    (a28 : PySem.W.nsIn K mainGlobals "_law_conflict" = some (some (.ref f28))) (l28 : K.lookup f28 = some ⟨oc28, od28, .func (PySem.W.fnOf "_law_conflict" "_law_conflict" (defArgs s_law_conflict) (defBody s_law_conflict) (defScope s_law_conflict) .none kV28 dc28 pm28 an28 cd28 ct28), sl28⟩) (c28 : PySem.W.codeIn K cd28 "_law_conflict" = true) (k28 : PySem.W.keepIn K (.ref f28) = true)
    (a29 : PySem.W.nsIn K mainGlobals "_law_independent" = some (some (.ref f29))) (l29 : K.lookup f29 = some ⟨oc29, od29, .func (PySem.W.fnOf "_law_independent" "_law_independent" (defArgs s_law_independent) (defBody s_law_independent) (defScope s_law_independent) .none kV29 dc29 pm29 an29 cd29 ct29), sl29⟩) (c29 : PySem.W.codeIn K cd29 "_law_independent" = true) (k29 : PySem.W.keepIn K (.ref f29) = true)
    (a30 : PySem.W.nsIn K mainGlobals "_law_completions" = some (some (.ref f30))) (l30 : K.lookup f30 = some ⟨oc30, od30, .func (PySem.W.fnOf "_law_completions" "_law_completions" (defArgs s_law_completions) (defBody s_law_completions) (defScope s_law_completions) .none kV30 dc30 pm30 an30 cd30 ct30), sl30⟩) (c30 : PySem.W.codeIn K cd30 "_law_completions" = true) (k30 : PySem.W.keepIn K (.ref f30) = true)
    (a31 : PySem.W.nsIn K mainGlobals "_law_right" = some (some (.ref f31))) (l31 : K.lookup f31 = some ⟨oc31, od31, .func (PySem.W.fnOf "_law_right" "_law_right" (defArgs s_law_right) (defBody s_law_right) (defScope s_law_right) .none kV31 dc31 pm31 an31 cd31 ct31), sl31⟩) (c31 : PySem.W.codeIn K cd31 "_law_right" = true) (k31 : PySem.W.keepIn K (.ref f31) = true)
    (a32 : PySem.W.nsIn K mainGlobals "law" = some (some (.ref f32))) (l32 : K.lookup f32 = some ⟨oc32, od32, .func (PySem.W.fnOf "law" "law" (defArgs s_law) (defBody s_law) (defScope s_law) .none kV32 dc32 pm32 an32 cd32 ct32), sl32⟩) (c32 : PySem.W.codeIn K cd32 "law" = true) (k32 : PySem.W.keepIn K (.ref f32) = true)
    (y0 : PySem.W.nsIn K mainGlobals "LAST_POSITION" = some (some (.int 1000000000000 tk0))) (z0 : PySem.W.nsIn K mainGlobals "abs" = some none) (z1 : PySem.W.nsIn K mainGlobals "all" = some none) (z2 : PySem.W.nsIn K mainGlobals "any" = some none) (z3 : PySem.W.nsIn K mainGlobals "bool" = some none) (z4 : PySem.W.nsIn K mainGlobals "enumerate" = some none) (z5 : PySem.W.nsIn K mainGlobals "int" = some none) (z6 : PySem.W.nsIn K mainGlobals "isinstance" = some none) (z7 : PySem.W.nsIn K mainGlobals "len" = some none) (z8 : PySem.W.nsIn K mainGlobals "list" = some none) (z9 : PySem.W.nsIn K mainGlobals "max" = some none) (z10 : PySem.W.nsIn K mainGlobals "min" = some none) (z11 : PySem.W.nsIn K mainGlobals "range" = some none) (z12 : PySem.W.nsIn K mainGlobals "set" = some none) (z13 : PySem.W.nsIn K mainGlobals "sorted" = some none) (z14 : PySem.W.nsIn K mainGlobals "tuple" = some none) (z15 : PySem.W.nsIn K mainGlobals "zip" = some none) :
    ∃ fd : FuncData, (∀ (s : Shared) (v : Value), BindsTo s fd ⟨[v], []⟩ [("_law_script", v)]) ∧ ∀ base : Heap, K.In base → base.Ns mainGlobals mg → FnOk l.prog w K mg base CX0 8 fa fd ["_law_script"] (sp_law K) := by
  have e := hfa.symm.trans (PySem.W.mg_of X G a32)
  cases e
  have F1 := fun_mk (st := s_depth_changes) l1 c1 k1
  have b1 := F1.binds (ps := ["intervals"]) fun _ _ _ _ _ _ us hl => match us, hl with | [_], _ => rfl
  have F2 := fun_mk (st := s_find_blocks) l2 c2 k2
  have b2 := F2.binds (ps := ["intervals"]) fun _ _ _ _ _ _ us hl => match us, hl with | [_], _ => rfl
  have F3 := fun_mk (st := s_is_number) l3 c3 k3
  have b3 := F3.binds (ps := ["value"]) fun _ _ _ _ _ _ us hl => match us, hl with | [_], _ => rfl
  have F4 := fun_mk (st := s_is_position) l4 c4 k4
  have b4 := F4.binds (ps := ["value"]) fun _ _ _ _ _ _ us hl => match us, hl with | [_], _ => rfl
  have F5 := fun_mk (st := s_is_tuple_of) l5 c5 k5
  have b5 := F5.binds (ps := ["value", "length"]) fun _ _ _ _ _ _ us hl => match us, hl with | [_, _], _ => rfl
  have F6 := fun_mk (st := s_is_interval) l6 c6 k6
  have b6 := F6.binds (ps := ["value"]) fun _ _ _ _ _ _ us hl => match us, hl with | [_], _ => rfl
  have F7 := fun_mk (st := s_has_position) l7 c7 k7
  have b7 := F7.binds (ps := ["interval", "position"]) fun _ _ _ _ _ _ us hl => match us, hl with | [_, _], _ => rfl
  have F8 := fun_mk (st := s_contains) l8 c8 k8
  have b8 := F8.binds (ps := ["outer", "inner"]) fun _ _ _ _ _ _ us hl => match us, hl with | [_, _], _ => rfl
  have F9 := fun_mk (st := s_is_demand) l9 c9 k9
  have b9 := F9.binds (ps := ["value"]) fun _ _ _ _ _ _ us hl => match us, hl with | [_], _ => rfl
  have F10 := fun_mk (st := s_serves) l10 c10 k10
  have b10 := F10.binds (ps := ["piece", "demand"]) fun _ _ _ _ _ _ us hl => match us, hl with | [_, _], _ => rfl
  have F11 := fun_mk (st := s_conflict) l11 c11 k11
  have b11 := F11.binds (ps := ["first", "second"]) fun _ _ _ _ _ _ us hl => match us, hl with | [_, _], _ => rfl
  have F12 := fun_mk (st := s_is_independent) l12 c12 k12
  have b12 := F12.binds (ps := ["value"]) fun _ _ _ _ _ _ us hl => match us, hl with | [_], _ => rfl
  have F13 := fun_mk (st := s_demands_at_blocks) l13 c13 k13
  have b13 := F13.binds (ps := ["targets", "blocks"]) fun _ _ _ _ _ _ us hl => match us, hl with | [_, _], _ => rfl
  have F14 := fun_mk (st := s_is_open) l14 c14 k14
  have b14 := F14.binds (ps := ["pieces", "demand"]) fun _ _ _ _ _ _ us hl => match us, hl with | [_, _], _ => rfl
  have F15 := fun_mk (st := s_open_demands) l15 c15 k15
  have b15 := F15.binds (ps := ["targets", "pieces"]) fun _ _ _ _ _ _ us hl => match us, hl with | [_, _], _ => rfl
  have F16 := fun_mk (st := s_pieces_inside) l16 c16 k16
  have b16 := F16.binds (ps := ["pieces", "target"]) fun _ _ _ _ _ _ us hl => match us, hl with | [_, _], _ => rfl
  have F17 := fun_mk (st := s_first_gap) l17 c17 k17
  have b17 := F17.binds (ps := ["pieces", "target"]) fun _ _ _ _ _ _ us hl => match us, hl with | [_, _], _ => rfl
  have F18 := fun_mk (st := s_find_missing) l18 c18 k18
  have b18 := F18.binds (ps := ["targets", "pieces"]) fun _ _ _ _ _ _ us hl => match us, hl with | [_, _], _ => rfl
  have F19 := fun_mk (st := s_without_item) l19 c19 k19
  have b19 := F19.binds (ps := ["items", "item"]) fun _ _ _ _ _ _ us hl => match us, hl with | [_, _], _ => rfl
  have F20 := fun_mk (st := s_require_generated) l20 c20 k20
  have b20 := F20.binds (ps := ["targets", "pieces"]) fun _ _ _ _ _ _ us hl => match us, hl with | [_, _], _ => rfl
  have F21 := fun_mk (st := s_can_spare) l21 c21 k21
  have b21 := F21.binds (ps := ["targets", "pieces", "piece"]) fun _ _ _ _ _ _ us hl => match us, hl with | [_, _, _], _ => rfl
  have F22 := fun_mk (st := s_prune_pieces) l22 c22 k22
  have b22 := F22.binds (ps := ["targets", "pieces"]) fun _ _ _ _ _ _ us hl => match us, hl with | [_, _], _ => rfl
  have F23 := fun_mk (st := s_law_deck) l23 c23 k23
  have b23 := F23.binds (ps := ["_law_script"]) fun _ _ _ _ _ _ us hl => match us, hl with | [_], _ => rfl
  have F24 := fun_mk (st := s_law_draw) l24 c24 k24
  have b24 := F24.binds (ps := ["_law_deck_here", "_law_bound"]) fun _ _ _ _ _ _ us hl => match us, hl with | [_, _], _ => rfl
  have F25 := fun_mk (st := s_law_line) l25 c25 k25
  have b25 := F25.binds (ps := ["_law_deck_here", "_law_count"]) fun _ _ _ _ _ _ us hl => match us, hl with | [_, _], _ => rfl
  have F26 := fun_mk (st := s_law_interval) l26 c26 k26
  have b26 := F26.binds (ps := ["_law_deck_here", "_law_line_here"]) fun _ _ _ _ _ _ us hl => match us, hl with | [_, _], _ => rfl
  have F27 := fun_mk (st := s_law_intervals) l27 c27 k27
  have b27 := F27.binds (ps := ["_law_deck_here", "_law_line_here", "_law_most"]) fun _ _ _ _ _ _ us hl => match us, hl with | [_, _, _], _ => rfl
  have F28 := fun_mk (st := s_law_conflict) l28 c28 k28
  have b28 := F28.binds (ps := ["_law_first", "_law_second"]) fun _ _ _ _ _ _ us hl => match us, hl with | [_, _], _ => rfl
  have F29 := fun_mk (st := s_law_independent) l29 c29 k29
  have b29 := F29.binds (ps := ["_law_deck_here", "_law_demands"]) fun _ _ _ _ _ _ us hl => match us, hl with | [_, _], _ => rfl
  have F30 := fun_mk (st := s_law_completions) l30 c30 k30
  have b30 := F30.binds (ps := ["_law_deck_here", "_law_targets", "_law_pieces", "_law_line_here"]) fun _ _ _ _ _ _ us hl => match us, hl with | [_, _, _, _], _ => rfl
  have F31 := fun_mk (st := s_law_right) l31 c31 k31
  have b31 := F31.binds (ps := ["_law_targets", "_law_pieces", "_law_added", "_law_demands"]) fun _ _ _ _ _ _ us hl => match us, hl with | [_, _, _, _], _ => rfl
  have F32 := fun_mk (st := s_law) l32 c32 k32
  have b32 := F32.binds (ps := ["_law_script"]) fun _ _ _ _ _ _ us hl => match us, hl with | [_], _ => rfl
  have T : Tx K mg _ _ _ _ _ _ _ _ _ _ _ _ _ _ _ _ _ _ _ _ _ _ _ _ _ _ _ _ _ _ _ _  _ _ _ _ _ _ _ _ _ _ _ _ _ _ _ _ _ _ _ _ _ _ _ _ _ _ _ _ _ _ _ _ tk0 := ⟨F1, b1, PySem.W.mg_of X G a1, F2, b2, PySem.W.mg_of X G a2, F3, b3, PySem.W.mg_of X G a3, F4, b4, PySem.W.mg_of X G a4, F5, b5, PySem.W.mg_of X G a5, F6, b6, PySem.W.mg_of X G a6, F7, b7, PySem.W.mg_of X G a7, F8, b8, PySem.W.mg_of X G a8, F9, b9, PySem.W.mg_of X G a9, F10, b10, PySem.W.mg_of X G a10, F11, b11, PySem.W.mg_of X G a11, F12, b12, PySem.W.mg_of X G a12, F13, b13, PySem.W.mg_of X G a13, F14, b14, PySem.W.mg_of X G a14, F15, b15, PySem.W.mg_of X G a15, F16, b16, PySem.W.mg_of X G a16, F17, b17, PySem.W.mg_of X G a17, F18, b18, PySem.W.mg_of X G a18, F19, b19, PySem.W.mg_of X G a19, F20, b20, PySem.W.mg_of X G a20, F21, b21, PySem.W.mg_of X G a21, F22, b22, PySem.W.mg_of X G a22, F23, b23, PySem.W.mg_of X G a23, F24, b24, PySem.W.mg_of X G a24, F25, b25, PySem.W.mg_of X G a25, F26, b26, PySem.W.mg_of X G a26, F27, b27, PySem.W.mg_of X G a27, F28, b28, PySem.W.mg_of X G a28, F29, b29, PySem.W.mg_of X G a29, F30, b30, PySem.W.mg_of X G a30, F31, b31, PySem.W.mg_of X G a31, F32, b32, PySem.W.mg_of X G a32, PySem.W.mg_of X G y0, PySem.W.mg_none_of X G z0, PySem.W.mg_none_of X G z1, PySem.W.mg_none_of X G z2, PySem.W.mg_none_of X G z3, PySem.W.mg_none_of X G z4, PySem.W.mg_none_of X G z5, PySem.W.mg_none_of X G z6, PySem.W.mg_none_of X G z7, PySem.W.mg_none_of X G z8, PySem.W.mg_none_of X G z9, PySem.W.mg_none_of X G z10, PySem.W.mg_none_of X G z11, PySem.W.mg_none_of X G z12, PySem.W.mg_none_of X G z13, PySem.W.mg_none_of X G z14, PySem.W.mg_none_of X G z15⟩
  exact ⟨_, fun s v => .of_eq rfl, fun base _ _ => ok_law T⟩
end L9
open PySem PySem.W PyProof.Rows
set_option maxHeartbeats 0 in
theorem PySem.Challenge.cw_fewspans_k22_whole_independent_demands_b_holds : PySem.Challenge.rw_fewspans_k22_whole_independent_demands_b.Holds := by
  w_on; o_law; k_head; (case hw => w_witness2)
  k_fill
  refine L2.walk_of (l := PySem.Challenge.rw_fewspans_k22_whole_independent_demands_b) (n := 63) (k := 8) (x := "_law_script") (CX := fun _ => L2.CX0) (sp := fun w => L9.sp_law _) rfl (by decide) rfl ⟨rfl, by decide, by decide⟩ (fun w h Y => PySem.W.kIn_of Y) ?F (fun _ _ a ns hl _ hS => ⟨a, ns, rfl, hS, hl, fun _ => rfl⟩) (fun _ _ _ _ _ h => h)
  case F =>
    intro w mg fa h KX G hmg
    refine' L9.all_mk KX G hmg ?a1 ?l1 ?c1 ?k1 ?a2 ?l2 ?c2 ?k2 ?a3 ?l3 ?c3 ?k3 ?a4 ?l4 ?c4 ?k4 ?a5 ?l5 ?c5 ?k5 ?a6 ?l6 ?c6 ?k6 ?a7 ?l7 ?c7 ?k7 ?a8 ?l8 ?c8 ?k8 ?a9 ?l9 ?c9 ?k9 ?a10 ?l10 ?c10 ?k10 ?a11 ?l11 ?c11 ?k11 ?a12 ?l12 ?c12 ?k12 ?a13 ?l13 ?c13 ?k13 ?a14 ?l14 ?c14 ?k14 ?a15 ?l15 ?c15 ?k15 ?a16 ?l16 ?c16 ?k16 ?a17 ?l17 ?c17 ?k17 ?a18 ?l18 ?c18 ?k18 ?a19 ?l19 ?c19 ?k19 ?a20 ?l20 ?c20 ?k20 ?a21 ?l21 ?c21 ?k21 ?a22 ?l22 ?c22 ?k22 ?a23 ?l23 ?c23 ?k23 ?a24 ?l24 ?c24 ?k24 ?a25 ?l25 ?c25 ?k25 ?a26 ?l26 ?c26 ?k26 ?a27 ?l27 ?c27 ?k27 ?a28 ?l28 ?c28 ?k28 ?a29 ?l29 ?c29 ?k29 ?a30 ?l30 ?c30 ?k30 ?a31 ?l31 ?c31 ?k31 ?a32 ?l32 ?c32 ?k32 ?y0 ?z0 ?z1 ?z2 ?z3 ?z4 ?z5 ?z6 ?z7 ?z8 ?z9 ?z10 ?z11 ?z12 ?z13 ?z14 ?z15
    (case a1 => k_is)
    (case l1 => k_is)
    (case c1 => k_is)
    (case k1 => k_is)
    (case a2 => k_is)
    (case l2 => k_is)
    (case c2 => k_is)
    (case k2 => k_is)
    (case a3 => k_is)
    (case l3 => k_is)
    (case c3 => k_is)
    (case k3 => k_is)
    (case a4 => k_is)
    (case l4 => k_is)
    (case c4 => k_is)
    (case k4 => k_is)
    (case a5 => k_is)
    (case l5 => k_is)
    (case c5 => k_is)
    (case k5 => k_is)
    (case a6 => k_is)
    (case l6 => k_is)
    (case c6 => k_is)
    (case k6 => k_is)
    (case a7 => k_is)
    (case l7 => k_is)
    (case c7 => k_is)
    (case k7 => k_is)
    (case a8 => k_is)
    (case l8 => k_is)
    (case c8 => k_is)
    (case k8 => k_is)
    (case a9 => k_is)
    (case l9 => k_is)
    (case c9 => k_is)
    (case k9 => k_is)
    (case a10 => k_is)
    (case l10 => k_is)
    (case c10 => k_is)
    (case k10 => k_is)
    (case a11 => k_is)
    (case l11 => k_is)
    (case c11 => k_is)
    (case k11 => k_is)
    (case a12 => k_is)
    (case l12 => k_is)
    (case c12 => k_is)
    (case k12 => k_is)
    (case a13 => k_is)
    (case l13 => k_is)
    (case c13 => k_is)
    (case k13 => k_is)
    (case a14 => k_is)
    (case l14 => k_is)
    (case c14 => k_is)
    (case k14 => k_is)
    (case a15 => k_is)
    (case l15 => k_is)
    (case c15 => k_is)
    (case k15 => k_is)
    (case a16 => k_is)
    (case l16 => k_is)
    (case c16 => k_is)
    (case k16 => k_is)
    (case a17 => k_is)
    (case l17 => k_is)
    (case c17 => k_is)
    (case k17 => k_is)
    (case a18 => k_is)
    (case l18 => k_is)
    (case c18 => k_is)
    (case k18 => k_is)
    (case a19 => k_is)
    (case l19 => k_is)
    (case c19 => k_is)
    (case k19 => k_is)
    (case a20 => k_is)
    (case l20 => k_is)
    (case c20 => k_is)
    (case k20 => k_is)
    (case a21 => k_is)
    (case l21 => k_is)
    (case c21 => k_is)
    (case k21 => k_is)
    (case a22 => k_is)
    (case l22 => k_is)
    (case c22 => k_is)
    (case k22 => k_is)
    (case a23 => k_is)
    (case l23 => k_is)
    (case c23 => k_is)
    (case k23 => k_is)
    (case a24 => k_is)
    (case l24 => k_is)
    (case c24 => k_is)
    (case k24 => k_is)
    (case a25 => k_is)
    (case l25 => k_is)
    (case c25 => k_is)
    (case k25 => k_is)
    (case a26 => k_is)
    (case l26 => k_is)
    (case c26 => k_is)
    (case k26 => k_is)
    (case a27 => k_is)
    (case l27 => k_is)
    (case c27 => k_is)
    (case k27 => k_is)
    (case a28 => k_is)
    (case l28 => k_is)
    (case c28 => k_is)
    (case k28 => k_is)
    (case a29 => k_is)
    (case l29 => k_is)
    (case c29 => k_is)
    (case k29 => k_is)
    (case a30 => k_is)
    (case l30 => k_is)
    (case c30 => k_is)
    (case k30 => k_is)
    (case a31 => k_is)
    (case l31 => k_is)
    (case c31 => k_is)
    (case k31 => k_is)
    (case a32 => k_is)
    (case l32 => k_is)
    (case c32 => k_is)
    (case k32 => k_is)
    (case y0 => k_is)
    (case z0 => k_is)
    (case z1 => k_is)
    (case z2 => k_is)
    (case z3 => k_is)
    (case z4 => k_is)
    (case z5 => k_is)
    (case z6 => k_is)
    (case z7 => k_is)
    (case z8 => k_is)
    (case z9 => k_is)
    (case z10 => k_is)
    (case z11 => k_is)
    (case z12 => k_is)
    (case z13 => k_is)
    (case z14 => k_is)
    (case z15 => k_is)
