import PyProof.Rows.All
import Wide.All
import OpenK.AllK
import Wide.FinOn
import PySem.Challenge.RW_fewspans_k25_solution_holds_judged
import HandS.ForMost
import HandS.Wide
import HandS.IsInst
import HandS.Conv
import HandS.TupLe
import HandS.Strs
import HandS.SetFor
import HandS.Style
import HandS.TupSets
import HandS.Keys
import HandS.Sort
import HandS.SortOrd
import HandS.SortRule
import HandS.SortKw
import HandS.SetBool
import HandS.TupAny
import HandS.Zip
import HandS.NoneIn
import HandS.Deep
import KE.GoesEnum
import KE.GoesMore
import HandS.Lambda
import HandS.CallLocal
import KE.DataCmp
import HandS.EndTab
import KE.KMinBuiltin
import HandS.TupMul
import PyProof.NeKinds
import HandS.Defaults
import HandS.MakeKwOnly
import HandS.OwnEq
import HandS.FStr
import KE.KCallOwn
set_option Elab.async false
set_option linter.all false
set_option maxRecDepth 100000
set_option maxHeartbeats 4000000
namespace L9
open PySem PySem.Spec PyProof.Rows L2
/-! ### set(xs), xs a list of ints: the library has it of tuples; the walk is a list's here -/
section
variable {P : Program} {w : World} {A : Around} {E : Value → Shared → Prop} {s : Shared}
abbrev noSet (w : World) : Obj := { cls := .type "set", dict := none, data := .set #[] 0 (.fresh 0 0 (!w.params.followText "set-order")) }
theorem setL_ints {l : Addr} {its : Array Value} (ns : List Int) {Q : Value → Shared → Prop} (quiet : A.handled = none) (isL : s.heap.IsList l its) (allI : IntsAre its.toList ns) (few : ns.length + 1 < scanBound)
    (fin : ∀ (h2 : Heap) (tk n : Nat), SetR w h2 s.heap.objs.size (fun j => decide (j ∈ ns)) n → n ≤ ns.length → (∀ b o, s.heap.get? b = some o → h2.get? b = some o) → Q (.ref s.heap.objs.size) { s with heap := h2, toks := tk }) :
    wpAny (model P w) A (call (.type "set") [.ref l]) Q E s := by
  have size : its.size = ns.length := by
    rw [← Array.length_toList]
    exact allI.length
  obtain ⟨cA, tA, mA⟩ := F.called_set.mro
  have f1 := F.called_set.made
  have f2 := F.called_set.sub
  refine wpAny_call (codeAny_of_tree (?_ : wpAny _ _ (callAny (.type "set") _) _ _ _))
  refine wpAny_pure (And.intro (Code.quiet_builtin _ (by decide +kernel)) (codeAny_builtin F.entry_type_call ?_))
  rw [Around.under_plain (weight_type_call_type "set" [Value.ref l] []) rfl]
  have f3 := F.called_set.notType
  have f4 := F.called_set.canCreate
  have f5 := F.typeCall_set_1 (Value.ref l)
  repeat any_goals first | assumption | wp_step
  refine codeAny_mono (code_set_led1 (.ref l) (E := E) (Q₁ := fun v s1 => v = .ref s.heap.objs.size ∧ s1 = { s with heap := s.heap.push (noSet w) }) (And.intro rfl rfl)) fun r s1 h1 => ?_
  match r, h1 with
  | .error e, h1 => exact h1
  | .ok (.ret v), h1 =>
    obtain ⟨rfl, rfl⟩ := h1
    have at0 : (s.heap.push (noSet w)).get? s.heap.objs.size = some (noSet w) := Heap.get?_push_size _ rfl
    have ty0 : Shared.TypeIs { s with heap := s.heap.push (noSet w) } (.ref s.heap.objs.size) "set" := Exists.intro _ (And.intro at0 rfl)
    have f6 := F.called_set.init.lookup
    have f7 := F.called_set.init.bind (Value.ref s.heap.objs.size)
    repeat any_goals first | assumption | wp_step
    let Z : Value → Shared → Prop := fun v s2 => v = .none ∧ ∃ h2 tk n, s2 = { s with heap := h2, toks := tk } ∧ SetR w h2 s.heap.objs.size (fun j => decide (j ∈ ns)) n ∧ n ≤ ns.length ∧ ∀ b o, s.heap.get? b = some o → h2.get? b = some o
    refine codeAny_mono (codeAny_call_builtin (R := wants Z E) F.called_set.init.plain F.entry_set_init (check_set_init_1 ty0 ?_)) fun r2 s2 h2 => ?_
    · obtain ⟨o, eo, ec, k, ed⟩ := isL
      obtain ⟨oc, od, oD, oS⟩ := o
      simp only at ec ed
      subst ec ed
      have lt : l < s.heap.objs.size := Heap.lt_size eo
      have eo1 : (s.heap.push (noSet w)).get? l = some { cls := .type "list", dict := od, data := .seq its k, slots := oS } := Heap.get?_push_of_some _ eo
      have g1 := F.sub_list_set
      have g2 := F.sub_list_frozenset
      have g3 : (Value.type "list" == Value.type "dict") = false := by decide
      have isL1 : (s.heap.push (noSet w)).IsList l its := Exists.intro _ (And.intro eo1 (And.intro rfl (Exists.intro k rfl)))
      unfold Builtin.«set.__init__» Builtin.Frozenset.updateFrom noKeywords
      generalize keep : pyIter = itr
      wp_walk
      subst keep
      refine wpAny_pyIter_list isL1 (wpAny_bind (wpAny_runValue ?_))
      have quiet3 : A.in1.in1.in1.handled = none := by simp [quiet]
      have sz : (s.heap.push (noSet w)).objs.size = s.heap.objs.size + 1 := Heap.size_push ..
      have lI : l ≠ (s.heap.push (noSet w)).objs.size := by
        rw [sz]
        exact Nat.ne_of_lt (Nat.lt_succ_of_lt lt)
      have out : s.heap.objs.size ∉ [(s.heap.push (noSet w)).objs.size, l] := by
        rw [sz]
        intro z
        rcases List.mem_cons.mp z with z | z
        · exact absurd z (Nat.ne_of_lt (Nat.lt_succ_self _))
        · exact absurd (List.mem_singleton.mp z) (Nat.ne_of_gt lt)
      have vals : ∀ (i : Nat) (v : Value), its[i]? = some v → ∃ j t, ns[i]? = some j ∧ v = .int j t := fun i v hv => by
        have lti : i < ns.length := by
          rw [← size]
          exact (Array.getElem?_eq_some_iff.mp hv).1
        obtain ⟨t, e⟩ := allI.int_at i v (by rw [Array.getElem?_toList]; exact hv)
        have en := List.getElem?_eq_getElem lti
        refine ⟨_, t, en, e.trans ?_⟩
        rw [List.getD_eq_getElem?_getD, en]
        rfl
      refine set_update_ints (Walks.list quiet3 _ l lI its).toS s.heap.objs.size out ns size few vals (its.size - 0) 0 _ rfl (Nat.zero_le _) (And.intro (Exists.intro _ (And.intro (Heap.get?_push_size _ rfl) (And.intro rfl rfl))) (isL1.push _)) ?start ?last
      case start =>
        exact ⟨0, Nat.le_refl _, setR_new_at (Heap.get?_push_of_some _ at0)⟩
      case last =>
        intro s3 n mv le R
        obtain ⟨h3, g3', d3, tk3, o3⟩ := s3
        have m1 : g3' = s.gens := mv.gens
        have m2 : d3 = s.drawn := mv.drawn
        have m3 : o3 = s.os := mv.os
        subst m1 m2 m3
        refine wpAny_pure (?_ : wpAny _ _ (ret Value.none) _ _ _)
        rw [size] at le
        refine wpAny_pure (And.intro rfl ⟨h3, tk3, n, rfl, R, le, fun b o e => ?_⟩)
        have lb := Heap.lt_size e
        refine mv.heap b o (fun z => ?_) (Heap.get?_push_of_some _ (Heap.get?_push_of_some _ e))
        rcases List.mem_cons.mp z with z | z
        · exact absurd z (Nat.ne_of_lt lb)
        · have z1 := List.mem_singleton.mp z
          rw [sz] at z1
          exact absurd z1 (Nat.ne_of_lt (Nat.lt_succ_of_lt lb))
    · match r2, h2 with
      | .error e, h2 => exact h2
      | .ok (.ret v), h2 =>
        obtain ⟨rfl, h', tk, n, rfl, R, le, kp⟩ := h2
        repeat any_goals first | assumption | wp_step
        exact fin h' tk n R le kp
      | .ok .next, h2 => exact h2
      | .ok .brk, h2 => exact h2
      | .ok .cont, h2 => exact h2
  | .ok .next, h1 => exact h1
  | .ok .brk, h1 => exact h1
  | .ok .cont, h1 => exact h1
end
section
variable {X : Cx}
def rSetOfI (K : PySem.W.Frag) (w : World) : List V → Hp → VK → Prop := fun xs H Q => ∃ (l : Addr) (ns : List Int), xs = [V.ref l] ∧ SqL K H l (ns.map V.int) ∧ ns.length < 60 ∧
  ∀ (H' : Hp) a n, Same H H' → H a = none → H' a = some (SetO w a (fun j => decide (j ∈ ns)) n) → n ≤ ns.length → Q (.ref a) H'
theorem cr_setOfI (calm : X.calm = true) : CallR X (.type "set") (rSetOfI X.K X.w) := by
  intro pins s σ H xs us Q I r h
  obtain ⟨l, ns, rfl, hl, few, q⟩ := h
  rw [Vals.ref1 r]
  obtain ⟨its, rv, pl, _⟩ := I.list hl
  refine setL_ints (P := X.prog) (w := X.w) ns (I.ok.hd calm) pl.isList (ints_of_vals rv) (by unfold scanBound; omega) fun h2 tk n R le kp => ?_
  exact ⟨.ref s.heap.objs.size, _, I.laid (t' := tk) kp (Nat.le_refl _) (setO_new R), rfl, q _ _ n (fun b x e => by rw [upd_ne (ne_of_none e (I.hok.fresh (Nat.le_refl _)))]; exact e) (I.hok.fresh (Nat.le_refl _)) upd_same le⟩
end

/-! ### set(t), t a tuple of tuples of ints: the library has it of lists; the walk is a tuple's here -/
section
variable {P : Program} {w : World} {A : Around} {E : Value → Shared → Prop} {s : Shared}
abbrev noSetT (w : World) : Obj := { cls := .type "set", dict := none, data := .set #[] 0 (.fresh 0 0 (!w.params.followText "set-order")) }
theorem setT_tups {l : Addr} {its : Array Value} (ks : List (Addr × List Int)) {Q : Value → Shared → Prop} (quiet : A.handled = none) (isT : s.heap.IsTuple l its) (refs : its.toList = ks.map fun p => Value.ref p.1)
    (tk : ∀ p ∈ ks, IsT P w s.heap p.2 p.1) (few : ks.length < 64) (un : A.units + 3 < cLine)
    (fin : ∀ (h2 : Heap) (tk : Nat) L es ep t, SetTR P w h2 s.heap.objs.size L es ep t → Got ks ks.length L → (∀ b o, s.heap.get? b = some o → h2.get? b = some o) → Q (.ref s.heap.objs.size) { s with heap := h2, toks := tk }) :
    wpAny (model P w) A (call (.type "set") [.ref l]) Q E s := by
  have size : its.size = ks.length := by
    rw [← Array.length_toList, refs, List.length_map]
  obtain ⟨cA, tA, mA⟩ := F.called_set.mro
  have f1 := F.called_set.made
  have f2 := F.called_set.sub
  refine wpAny_call (codeAny_of_tree (?_ : wpAny _ _ (callAny (.type "set") _) _ _ _))
  refine wpAny_pure (And.intro (Code.quiet_builtin _ (by decide +kernel)) (codeAny_builtin F.entry_type_call ?_))
  rw [Around.under_plain (weight_type_call_type "set" [Value.ref l] []) rfl]
  have f3 := F.called_set.notType
  have f4 := F.called_set.canCreate
  have f5 := F.typeCall_set_1 (Value.ref l)
  repeat any_goals first | assumption | wp_step
  refine codeAny_mono (code_set_led1 (.ref l) (E := E) (Q₁ := fun v s1 => v = .ref s.heap.objs.size ∧ s1 = { s with heap := s.heap.push (noSetT w) }) (And.intro rfl rfl)) fun r s1 h1 => ?_
  match r, h1 with
  | .error e, h1 => exact h1
  | .ok (.ret v), h1 =>
    obtain ⟨rfl, rfl⟩ := h1
    have at0 : (s.heap.push (noSetT w)).get? s.heap.objs.size = some (noSetT w) := Heap.get?_push_size _ rfl
    have ty0 : Shared.TypeIs { s with heap := s.heap.push (noSetT w) } (.ref s.heap.objs.size) "set" := Exists.intro _ (And.intro at0 rfl)
    have f6 := F.called_set.init.lookup
    have f7 := F.called_set.init.bind (Value.ref s.heap.objs.size)
    repeat any_goals first | assumption | wp_step
    let Z : Value → Shared → Prop := fun v s2 => v = .none ∧ ∃ h2 tk L es ep t, s2 = { s with heap := h2, toks := tk } ∧ SetTR P w h2 s.heap.objs.size L es ep t ∧ Got ks ks.length L ∧ ∀ b o, s.heap.get? b = some o → h2.get? b = some o
    refine codeAny_mono (codeAny_call_builtin (R := wants Z E) F.called_set.init.plain F.entry_set_init (check_set_init_1 ty0 ?_)) fun r2 s2 h2 => ?_
    · obtain ⟨o, eo, ec, k, ed⟩ := isT
      obtain ⟨oc, od, oD, oS⟩ := o
      simp only at ec ed
      subst ec ed
      have lt : l < s.heap.objs.size := Heap.lt_size eo
      have eo1 : (s.heap.push (noSetT w)).get? l = some { cls := .type "tuple", dict := od, data := .seq its k, slots := oS } := Heap.get?_push_of_some _ eo
      have g1 := F.sub_tuple_set
      have g2 := F.sub_tuple_frozenset
      have g3 : (Value.type "tuple" == Value.type "dict") = false := by decide
      have isT1 : (s.heap.push (noSetT w)).IsTuple l its := Exists.intro _ (And.intro eo1 (And.intro rfl (Exists.intro k rfl)))
      unfold Builtin.«set.__init__» Builtin.Frozenset.updateFrom noKeywords
      generalize keep : pyIter = itr
      wp_walk
      subst keep
      refine wpAny_pyIter_tuple isT1 (wpAny_bind (wpAny_runValue ?_))
      have quiet3 : A.in1.in1.in1.handled = none := by simp [quiet]
      have sz : (s.heap.push (noSetT w)).objs.size = s.heap.objs.size + 1 := Heap.size_push ..
      have lI : l ≠ (s.heap.push (noSetT w)).objs.size := by
        rw [sz]
        exact Nat.ne_of_lt (Nat.lt_succ_of_lt lt)
      have out : s.heap.objs.size ∉ [(s.heap.push (noSetT w)).objs.size, l] := by
        rw [sz]
        intro z
        rcases List.mem_cons.mp z with z | z
        · exact absurd z (Nat.ne_of_lt (Nat.lt_succ_self _))
        · exact absurd (List.mem_singleton.mp z) (Nat.ne_of_gt lt)
      have vals : ∀ (i : Nat) (v : Value), its[i]? = some v → ∃ p, ks[i]? = some p ∧ v = .ref p.1 := fun i v hv => by
        have z : its.toList[i]? = some v := by
          rw [Array.getElem?_toList]
          exact hv
        rw [refs, List.getElem?_map] at z
        obtain ⟨p, e1, e2⟩ := Option.map_eq_some_iff.mp z
        exact Exists.intro p (And.intro e1 e2.symm)
      have beyond : ∀ b, s.heap.objs.size ≤ b → s.heap.get? b = none := fun b hb => by
        cases z : s.heap.get? b with
        | none => rfl
        | some o => exact (Nat.lt_irrefl _ (Nat.lt_of_lt_of_le (Heap.lt_size z) hb)).elim
      refine set_update_tups (Walks.tuple quiet3 _ l lI its).toS s.heap.objs.size out ks size few vals s.heap tk (beyond _ (Nat.le_refl _)) (fun b hb => beyond b ?_) un (its.size - 0) 0 _ rfl (Nat.zero_le _) (And.intro (Exists.intro _ (And.intro (Heap.get?_push_size _ rfl) (And.intro rfl rfl))) (isT1.push _)) (fun b o e => Heap.get?_push_of_some _ (Heap.get?_push_of_some _ e)) ?start ?last
      · rw [List.mem_singleton.mp hb, sz]
        exact Nat.le_succ _
      case start =>
        exact ⟨[], #[], 0, _, setTR_fresh (Heap.get?_push_of_some _ at0), Got.zero ks⟩
      case last =>
        intro s3 L es ep t mv R got kp
        obtain ⟨h3, g3', d3, tk3, o3⟩ := s3
        have m1 : g3' = s.gens := mv.gens
        have m2 : d3 = s.drawn := mv.drawn
        have m3 : o3 = s.os := mv.os
        subst m1 m2 m3
        refine wpAny_pure (?_ : wpAny _ _ (ret Value.none) _ _ _)
        rw [size] at got
        exact wpAny_pure (And.intro rfl ⟨h3, tk3, L, es, ep, t, rfl, R, got, kp⟩)
    · match r2, h2 with
      | .error e, h2 => exact h2
      | .ok (.ret v), h2 =>
        obtain ⟨rfl, h', tk, L, es, ep, t, rfl, R, got, kp⟩ := h2
        repeat any_goals first | assumption | wp_step
        exact fin h' tk L es ep t R got kp
      | .ok .next, h2 => exact h2
      | .ok .brk, h2 => exact h2
      | .ok .cont, h2 => exact h2
  | .ok .next, h1 => exact h1
  | .ok .brk, h1 => exact h1
  | .ok .cont, h1 => exact h1
end
section
variable {X : Cx}
def rSetOfTT (K : PySem.W.Frag) (P : Program) (w : World) : List V → Hp → VK → Prop := fun xs H Q => ∃ (l : Addr) (ks : List (Addr × List Int)), xs = [V.ref l] ∧ SqT K H l (ks.map fun p => V.ref p.1) ∧ (∀ p ∈ ks, SqT K H p.1 (p.2.map V.int)) ∧ ks.length < 64 ∧
  ∀ a L, H a = none → (∀ p ∈ L, p ∈ ks) → (∀ p ∈ ks, p.2 ∈ L.map (·.2)) → Q (.ref a) (upd H a (SetTO P w a L))
theorem cr_setOfTT (calm : X.calm = true) (units : X.A.units + 64 < cLine) : CallR X (.type "set") (rSetOfTT X.K X.prog X.w) := by
  intro pins s σ H xs us Q I r h
  obtain ⟨l, ks, rfl, hl, hk, few, q⟩ := h
  rw [Vals.ref1 r]
  obtain ⟨its, rv, pl, _⟩ := I.tuple hl
  have nn : H s.heap.objs.size = none := I.hok.fresh (Nat.le_refl _)
  refine setT_tups (P := X.prog) (w := X.w) (its := its.toArray) ks (I.ok.hd calm) pl (by simpa using refs_of_vals rv) (fun p hp => I.isT (hk p hp)) few (by omega) fun h2 tk L es ep t R got kp => ?_
  exact ⟨.ref s.heap.objs.size, _, I.laid (t' := tk) kp (Nat.le_refl _) (setTO_new R.t0), rfl, q _ L nn (fun p hp => List.mem_of_mem_take (got.sub p hp)) (fun p hp => got.all p (by rw [List.take_length]; exact hp))⟩
end

/-! ### defs that are run where no text-making of the machine is under way (repr, str of nested data ask for it) -/
abbrev Quiet (A : Around) : Prop := A.guards = some []
structure FnG (P : Program) (w : World) (K : PySem.W.Frag) (mg : Str → Option Value) (base : Heap) (k : Nat) (f : Addr) (fd : FuncData) (ps : List Str) (sp : Sp) : Prop where
  size : ∀ {vs H Q}, sp vs H Q E0 → vs.length = ps.length
  go : ∀ {A outer s H us vs Q}, Room k A → Quiet A → Env0 P w K mg base A outer s H → BindsTo s fd ⟨us, []⟩ (ps.zip us) → Vals vs us → sp vs H Q E0 →
    codeAny (model P w) A (.call (.ref f) ⟨us, []⟩) (CR CX0 outer P w H s Q E0) s
section
variable {P : Program} {w : World} {K : PySem.W.Frag} {mg : Str → Option Value} {base : Heap}
theorem FnG.of {x qual : Str} {st : Stmt} {f : Addr} {fd : FuncData} {N ps : List Str} {k : Nat} {sp : Sp} (F : Fun K x qual st f fd) (S : FnScope N ps (defScope st))
    (size : ∀ {vs H Q}, sp vs H Q E0 → vs.length = ps.length)
    (body : ∀ cdv A outer s H vs Q, Room k (A.deeper (envOfC qual (defScope st) s.heap.objs.size f cdv)) → Quiet (A.deeper (envOfC qual (defScope st) s.heap.objs.size f cdv)) → sp vs H Q E0 →
      ∃ t, PSs (cxOf CX0 P w K mg base N qual (defScope st) f cdv A outer s H E0).nox (defBody st) t ∧ t { nx := fun _ H' => Q .non H', rt := Q } (start N vs) H) :
    FnG P w K mg base (k + 1) f fd ps sp := by
  obtain ⟨oc, od, kV, doc, pm, an, cdv, ct, osl, rfl, look, code⟩ := F.ex
  constructor
  · exact size
  intro A outer s H us vs Q room quiet e0 bind rel want
  have inH : K.In s.heap := e0.mod.kin.keeps fun b o q => (e0.bs b o q).1
  have lim := e0.mod.nolimit.keeps (fun b o q => (e0.bs b o q).1)
  have kinds : ∀ y ∈ ps.zip us, (defScope st).names.lookup y.1 = some .local ∨ ((defScope st).names.lookup y.1 = some .cell ∧ ((cellsFrom (s.heap.objs.size + 1) (defScope st).names []).lookup y.1).isSome = true) := by
    rintro ⟨n, v⟩ hy
    have hn := (List.of_mem_zip hy).1
    cases S.par n hn with
    | inl q => exact Or.inl q
    | inr q => exact Or.inr ⟨q, PySem.W.cellsFrom_some _ _ _ (Or.inl q)⟩
  apply codeAny_call_function room.depth (inH _ _ look) rfl S.co S.gen rfl (PySem.W.codeRec_of inH code)
  apply bind
  apply wpAny_newFunctionEnv_cells S.kind kinds
  intro env he s1 x
  subst he
  refine And.intro (lim.keeps x.toInCall.keep) (codeAny_func ?_)
  obtain ⟨t, ht, hq⟩ := body cdv A outer s H vs Q (room.deeper _) quiet want
  have I := inv_start (CX := CX0) (E := E0) S room.hd e0 (size want) rel x
  apply wpAny_mono (ht.nox.run [] s1 (start N vs) H _ I hq)
  · intro fl s' hs
    cases fl with
    | ret u =>
      obtain ⟨v, σ', H', J, rv, q⟩ := hs
      exact Exists.intro v ⟨H', J.os, J.bare, J.base, J.hok, rv, q⟩
    | next =>
      obtain ⟨σ', H', J, q⟩ := hs
      exact Exists.intro V.non ⟨H', J.os, J.bare, J.base, J.hok, rfl, q⟩
    | brk => exact hs.elim fun _ h => h.elim fun _ h => h.2.elim
    | cont => exact hs.elim fun _ h => h.elim fun _ h => h.2.elim
  · intro e s' hs
    exact hs
end
section
variable {X : Cx} {k : Nat} {f : Addr} {fd : FuncData} {ps : List Str} {sp : Sp} {x : Str} {p pos : Pos} {e : Expr} {es : List Expr} {t : TA}
theorem pe_callG (F : FnG X.prog X.w X.K X.mg X.base k f fd ps sp) (room : Room k X.A) (quiet : Quiet X.A) (hg : Gl X x) (hm : X.mg x = some (.ref f)) (keep : PySem.W.keepIn X.K (.ref f) = true) (bind : Binds X.K fd ps [])
    (args : PA X (e :: es) t) (hdb : (x == ("__debug__" : Str)) = false := by decide) (star : starEach (e :: es) X.env = (false, eval e X.env) :: starEach es X.env := by rfl) (plain : (backTo pos (starEach es X.env)).any (·.1) = false := by rfl) :
    PE X (.Call (.Name x p) (e :: es) [] pos) (tCall sp [] E0 t) := by
  constructor
  intro pins s σ H Q I h
  apply wpAny_Call_Name_kw
  apply ld_glob I hg hm _ hdb
  apply PySem.W.callWith_K (h₀ := X.base) I.ok.mod.kin keep _ star plain
  apply thn (args.run pos pins s σ H _ I h)
  rintro us s1 ⟨vs, H1, I1, rel, q⟩
  refine And.intro I1.kIn ?_
  have q' : sp vs H1 Q E0 := by
    have z := q
    rw [List.append_nil] at z
    exact z
  have same : us.length = ps.length := rel.length.symm.trans (F.size q')
  have b := bind s1 us I1.kIn (by rw [List.append_nil]; exact same)
  rw [List.append_nil] at b
  apply wpAny_call
  apply codeAny_mono (F.go room quiet I1.env0 b rel q')
  intro r s' hr
  match r, hr with
  | .error _, hr => exact hr.elim
  | .ok (.ret u), hr => exact I1.after hr
  | .ok .next, hr => exact False.elim hr
  | .ok .brk, hr => exact False.elim hr
  | .ok .cont, hr => exact False.elim hr
end
/-! ### repr of data at any depth -/
structure Sm (n dp : Nat) (d : PyData) : Prop where
  shows : d.showable = true
  short : d.leavesShort 40 = true
  small : d.weight ≤ n
  flat : d.depth ≤ dp
theorem Sm.mono {n m dp dq : Nat} {d : PyData} (h : Sm n dp d) (h1 : n ≤ m) (h2 : dp ≤ dq) : Sm m dq d := ⟨h.shows, h.short, Nat.le_trans h.small h1, Nat.le_trans h.flat h2⟩
theorem Sm.none : Sm 0 0 .none := ⟨rfl, rfl, Nat.le_refl _, Nat.le_refl _⟩
theorem Sm.bool (b : Bool) : Sm 0 0 (.bool b) := ⟨rfl, rfl, Nat.le_refl _, Nat.le_refl _⟩
theorem log2_small {i : Int} (h : i.natAbs < 10 ^ 30) : i.natAbs.log2 < 100 := PySem.Flt.log2_lt_of (by decide) (Nat.lt_trans h (by decide))
theorem Sm.int {i : Int} (h : i.natAbs < 10 ^ 30) : Sm 100 0 (.int i) := by
  have l := log2_small h
  refine ⟨decide_eq_true (Nat.lt_trans l (by decide)), decide_eq_true ?_, ?_, Nat.le_refl _⟩
  · have q := int_text_length_le10 (a := i) (k := 30) (by decide) h
    show (Str.ofString (toString i)).length ≤ 40
    rw [PySem.ofString_length]
    exact Nat.le_trans q (by decide)
  · show (if i == 0 then 0 else i.natAbs.log2 + 1) ≤ 100
    split <;> omega
theorem smAll {n dp : Nat} : ∀ {ds : List PyData}, (∀ d ∈ ds, Sm n dp d) → PyData.showableAll ds = true ∧ PyData.leavesShortAll 40 ds = true ∧ PyData.weightAll ds ≤ ds.length * (n + 1) ∧ PyData.depthAll ds ≤ dp
  | [], _ => ⟨rfl, rfl, Nat.zero_le _, Nat.zero_le _⟩
  | d :: ds, h => by
    obtain ⟨a, b, c, e⟩ := smAll (ds := ds) fun x hx => h x (List.mem_cons_of_mem _ hx)
    have z := h d List.mem_cons_self
    refine ⟨?_, ?_, ?_, ?_⟩
    · show (d.showable && PyData.showableAll ds) = true
      rw [z.shows, a]
      rfl
    · show (d.leavesShort 40 && PyData.leavesShortAll 40 ds) = true
      rw [z.short, b]
      rfl
    · show d.weight + 1 + PyData.weightAll ds ≤ (ds.length + 1) * (n + 1)
      have := z.small
      rw [Nat.add_mul]
      omega
    · show max d.depth (PyData.depthAll ds) ≤ dp
      exact Nat.max_le.mpr ⟨z.flat, e⟩
theorem Sm.tup {n dp : Nat} {ds : List PyData} (h : ∀ d ∈ ds, Sm n dp d) : Sm (ds.length * (n + 1)) (dp + 1) (.tuple ds) :=
  let ⟨a, b, c, e⟩ := smAll h
  ⟨a, b, c, Nat.succ_le_succ e⟩
theorem Sm.lst {n dp : Nat} {ds : List PyData} (h : ∀ d ∈ ds, Sm n dp d) : Sm (ds.length * (n + 1)) (dp + 1) (.list ds) :=
  let ⟨a, b, c, e⟩ := smAll h
  ⟨a, b, c, Nat.succ_le_succ e⟩
theorem Sm.fits {n dp : Nat} {d : PyData} (h : Sm n dp d) (hn : n ≤ 300000) : d.shown.length ≤ sizeLine := by
  have q := PyData.shown_le 40 (by decide) d h.short
  have := h.small
  have e : sizeLine = 16777216 := by decide
  rw [e]
  omega
/-- data with dicts in it; its lists stand in the heap by themselves -/
def keyD : Key → PyData
  | .inl i => .int i
  | .inr x => .str x
mutual
inductive Dv (K : PySem.W.Frag) (H : Hp) : V → PyData → Prop
  | non : Dv K H .non .none
  | bl (b : Bool) : Dv K H (.bl b) (.bool b)
  | int (i : Int) : Dv K H (.int i) (.int i)
  | str (x : Str) : Dv K H (.str x) (.str x)
  | lst {a : Addr} {xs : List V} {ds : List PyData} : H a = some (.lst xs) → DvAll K H xs ds → Dv K H (.ref a) (.list ds)
  | tup {a : Addr} {xs : List V} {ds : List PyData} : H a = some (.tup xs) → DvAll K H xs ds → Dv K H (.ref a) (.tuple ds)
  | dic {a : Addr} {kvs : List (Key × V)} {ds : List PyData} : H a = some (.dK kvs) → DvAll K H (kvs.map (·.2)) ds → Dv K H (.ref a) (.dict ((kvs.map fun p => keyD p.1).zip ds))
inductive DvAll (K : PySem.W.Frag) (H : Hp) : List V → List PyData → Prop
  | nil : DvAll K H [] []
  | cons {v : V} {vs : List V} {d : PyData} {ds : List PyData} : Dv K H v d → DvAll K H vs ds → DvAll K H (v :: vs) (d :: ds)
end
theorem DvAll.length {K : PySem.W.Frag} {H : Hp} : ∀ {vs : List V} {ds : List PyData}, DvAll K H vs ds → vs.length = ds.length
  | _, _, .nil => rfl
  | _, _, .cons _ h => by rw [List.length_cons, List.length_cons, h.length]
theorem keys_read {P : Program} {w : World} {h : Heap} : ∀ {es : List DictEntry} {vs : List (Key × Value)}, Pairs (mixKind P w) es vs → ReadsAll h (es.map (·.key)) (vs.map fun p => keyD p.1) []
  | _, _, .nil => .nil
  | _, _, .cons (e := e) (kv := kv) hk _ r => by
    have one : Reads h e.key (keyD kv.1) [] := by
      rcases keyIs_shape hk with ⟨i, t, e1, e2⟩ | ⟨x, t, e1, e2⟩
      · rw [e1, e2]
        exact .int i t
      · rw [e1, e2]
        exact .str x t
    exact ReadsAll.cons one (keys_read r)
theorem vals_read {P : Program} {w : World} : ∀ {es : List DictEntry} {vs : List (Key × Value)}, Pairs (mixKind P w) es vs → es.map (·.val) = vs.map (·.2)
  | _, _, .nil => rfl
  | _, _, .cons _ hv r => by rw [List.map_cons, List.map_cons, hv, vals_read r]
theorem kv_vals : ∀ {kvs : List (Key × V)} {vs : List (Key × Value)}, KV kvs vs → Vals (kvs.map (·.2)) (vs.map (·.2)) ∧ (vs.map fun p => keyD p.1) = kvs.map fun p => keyD p.1
  | _, _, .nil => ⟨.nil, rfl⟩
  | _, _, .cons h r => by
    obtain ⟨a, b⟩ := kv_vals r
    refine ⟨.cons h.2 a, ?_⟩
    rw [List.map_cons, List.map_cons, b, h.1]
section
variable {X : Cx} {pins : List (Addr × Obj)} {σ : L2.St} {H : Hp} {s : Shared}
theorem Dv.reads (I : Inv X pins σ H s) (mods : ∃ mm, X.base.Ns sysModules mm) {v : V} {d : PyData} (h : Dv X.K H v d) : ∀ u : Value, RelV v u → ∃ as, Reads s.heap u d as ∧ sysModules ∉ as := by
  have free : H sysModules = none := by
    obtain ⟨mm, o, es, ep, e, _⟩ := mods
    exact (I.bs _ o e).2
  refine Dv.rec (K := X.K) (H := H) (motive_1 := fun v d _ => ∀ u : Value, RelV v u → ∃ as, Reads s.heap u d as ∧ sysModules ∉ as) (motive_2 := fun vs ds _ => ∀ us : List Value, Vals vs us → ∃ as, ReadsAll s.heap us ds as ∧ sysModules ∉ as) ?_ ?_ ?_ ?_ ?_ ?_ ?_ ?_ ?_ h
  · intro u r
    cases r
    exact ⟨_, .none, fun z => nomatch z⟩
  · intro b u r
    cases r
    exact ⟨_, .bool b, fun z => nomatch z⟩
  · intro i u r
    obtain ⟨t, rfl⟩ := r
    exact ⟨_, .int i t, fun z => nomatch z⟩
  · intro x u r
    obtain ⟨t, rfl⟩ := r
    exact ⟨_, .str x t, fun z => nomatch z⟩
  · intro a xs ds e _ ih u r
    cases r
    obtain ⟨_, its, n, rv, q⟩ := I.hok a _ e
    obtain ⟨as, ra, na⟩ := ih _ rv
    refine ⟨a :: as, .list q rfl rfl (by simpa using ra), fun z => ?_⟩
    rcases List.mem_cons.mp z with z | z
    · rw [← z, free] at e
      cases e
    · exact na z
  · intro a xs ds e _ ih u r
    cases r
    obtain ⟨_, its, rv, o, ho, hc, n, hd⟩ := I.hok a _ e
    obtain ⟨as, ra, na⟩ := ih _ rv
    exact ⟨as, .tuple ho hc hd (by simpa using ra), na⟩
  · intro a kvs ds e hall ih u r
    cases r
    obtain ⟨_, hne, vs, kv, o, es, ep, ho, ex, hd, _, prs, _⟩ := I.hok a _ e
    obtain ⟨rv, ek⟩ := kv_vals kv
    obtain ⟨as, ra, na⟩ := ih _ rv
    have len : (kvs.map fun p => keyD p.1).length = ds.length := by
      have z := hall.length
      rw [List.length_map] at z
      rw [List.length_map, z]
    refine ⟨_, .dict ho ex.1 hd (as := []) (bs := as) ?_ ?_, fun z => ?_⟩
    · rw [List.map_fst_zip (by omega), ← ek]
      exact keys_read prs
    · rw [List.map_snd_zip (by omega), vals_read prs]
      exact ra
    · rcases List.mem_cons.mp z with z | z
      · rw [← z] at hne
        exact absurd hne (by decide)
      · exact na z
  · intro us r
    cases r
    exact ⟨_, .nil, fun z => nomatch z⟩
  · intro v vs d ds _ _ ih1 ih2 us r
    cases r with
    | cons r1 r2 =>
      obtain ⟨as, ra, na⟩ := ih1 _ r1
      obtain ⟨bs, rb, nb⟩ := ih2 _ r2
      refine ⟨_, .cons ra rb, fun z => ?_⟩
      rcases List.mem_append.mp z with z | z
      · exact na z
      · exact nb z
theorem call_reprV (mods : ∃ mm, X.base.Ns sysModules mm) (quiet : Quiet X.A) (units : X.A.units + 64 < cLine) : CallR X (.builtin "repr")
    (fun xs H Q => ∃ v d n dp, xs = [v] ∧ Dv X.K H v d ∧ Sm n dp d ∧ n ≤ 300000 ∧ dp ≤ 60 ∧ Q (.str d.shown) H) := by
  intro pins s σ H xs us Q I r h
  obtain ⟨v, d, n, dp, rfl, hd, sm, hn, hdp, q⟩ := h
  obtain ⟨u, rfl, ru⟩ := vals1 r
  have fits := sm.fits hn
  have flat := sm.flat
  obtain ⟨as, rd, off⟩ := Dv.reads I mods hd _ ru
  cases hd with
  | non =>
    cases ru
    exact PySem.P.repr_of_none ⟨.str _, H, I.tok _, ⟨_, rfl⟩, q⟩
  | bl b =>
    cases ru
    exact PySem.P.repr_of_bool ⟨.str _, H, I.tok _, ⟨_, rfl⟩, q⟩
  | int i =>
    obtain ⟨t, rfl⟩ := ru
    exact PySem.P.repr_of_int (of_decide_eq_true sm.shows) ⟨.str _, H, I.tok _, ⟨_, rfl⟩, q⟩
  | str x =>
    obtain ⟨t, rfl⟩ := ru
    exact PySem.P.repr_of_str ⟨.str _, H, I.tok _, ⟨_, rfl⟩, q⟩ fits
  | _ =>
    cases ru
    exact repr_of_reads' rd sm.shows (fun _ => off) quiet (by omega) (fun _ _ e => e) (fun h' t tk more => ⟨.str _, H, I.kept more, ⟨_, rfl⟩, q⟩) fits
end
theorem Dp.noDict {K : PySem.W.Frag} {H : Hp} {v : V} {d : PyData} (h : Dp K H v d) : d.hasDict = false := by
  refine Dp.rec (K := K) (H := H) (motive_1 := fun v d _ => d.hasDict = false) (motive_2 := fun vs ds _ => PyData.hasDictAll ds = false) ?_ ?_ ?_ ?_ ?_ ?_ ?_ ?_ h
  all_goals intros
  all_goals simp_all [PyData.hasDict, PyData.hasDictAll]
section
variable {X : Cx}
theorem call_reprD (quiet : Quiet X.A) (units : X.A.units + 64 < cLine) : CallR X (.builtin "repr")
    (fun xs H Q => ∃ v d n dp, xs = [v] ∧ Dp X.K H v d ∧ Sm n dp d ∧ n ≤ 300000 ∧ dp ≤ 60 ∧ Q (.str d.shown) H) := by
  intro pins s σ H xs us Q I r h
  obtain ⟨v, d, n, dp, rfl, hd, sm, hn, hdp, q⟩ := h
  obtain ⟨u, rfl, ru⟩ := vals1 r
  have fits := sm.fits hn
  have flat := sm.flat
  obtain ⟨as, rd⟩ := Dp.reads I d v u hd ru
  cases hd with
  | non =>
    cases ru
    exact PySem.P.repr_of_none ⟨.str _, H, I.tok _, ⟨_, rfl⟩, q⟩
  | bl b =>
    cases ru
    exact PySem.P.repr_of_bool ⟨.str _, H, I.tok _, ⟨_, rfl⟩, q⟩
  | int i =>
    obtain ⟨t, rfl⟩ := ru
    exact PySem.P.repr_of_int (of_decide_eq_true sm.shows) ⟨.str _, H, I.tok _, ⟨_, rfl⟩, q⟩
  | str x =>
    obtain ⟨t, rfl⟩ := ru
    exact PySem.P.repr_of_str ⟨.str _, H, I.tok _, ⟨_, rfl⟩, q⟩ fits
  | lst h1 h2 =>
    cases ru
    exact repr_of_reads' rd sm.shows (PyData.noDict_hsm (Dp.noDict (Dp.lst h1 h2))) quiet (by omega) (fun _ _ e => e) (fun h' t tk more => ⟨.str _, H, I.kept more, ⟨_, rfl⟩, q⟩) fits
  | tup h1 h2 =>
    cases ru
    exact repr_of_reads' rd sm.shows (PyData.noDict_hsm (Dp.noDict (Dp.tup h1 h2))) quiet (by omega) (fun _ _ e => e) (fun h' t tk more => ⟨.str _, H, I.kept more, ⟨_, rfl⟩, q⟩) fits
end
/-! ### the end of a law row whose def is of the quiet kind -/
theorem quiet_law {P : Program} {w : World} {K : PySem.W.Frag} {mg mb : Str → Option Value} {k : Nat} {fa a : Addr} {fd : FuncData} {x : Str} {sp : Sp} {s₁ : Shared} {vs : List Value} {ns : List Int}
    (inK : K.In s₁.heap) (glob : s₁.heap.Ns mainGlobals mg) (blt : s₁.heap.Ns builtinsNs mb) (bltIs : ∀ y : Str, y ≠ "__name__" → mb y = bootBuiltins y) (lim : s₁.heap.NoLimit) (gens : s₁.gens = #[]) (mods : ∃ mm, s₁.heap.Ns sysModules mm)
    (here : s₁.heap.get? a = some { cls := .type "list", data := .seq vs.toArray }) (whole : IntsAre vs ns) (few : ns.length ≤ sizeLine) (room : Room k callerA)
    (F : ∀ base : Heap, K.In base → base.Ns mainGlobals mg → (∃ mm, base.Ns sysModules mm) → FnG P w K mg base k fa fd [x] sp) (bind : ∀ (s : Shared) (u : Value), BindsTo s fd ⟨[u], []⟩ [(x, u)])
    (want : ∀ H : Hp, Only H → SqL K H a (ns.map V.int) → sp [.ref a] H (fun v _ => v = .bl true) E0) :
    codeAny (model P w) callerA (.call (.ref fa) ⟨[.ref a], []⟩) (fun r s' => r = .ok (.ret (.bool true)) ∧ OldK s₁.heap s'.heap ∧ s'.os = s₁.os ∧ AllBare s'.gens) s₁ := by
  have rel := vals_ints whole
  -- H: the script alone, or nothing
  have main : ∀ H : Hp, Only H → SqL K H a (ns.map V.int) → HOk P w H s₁.heap → (∀ b u, H b = some u → b = a ∧ K.lookup b = none) →
      codeAny (model P w) callerA (.call (.ref fa) ⟨[.ref a], []⟩) (fun r s' => r = .ok (.ret (.bool true)) ∧ OldK s₁.heap s'.heap ∧ s'.os = s₁.os ∧ AllBare s'.gens) s₁ := by
    intro H only sq ok apart
    have untold : ∀ {b o}, s₁.heap.get? b = some o → (b = a → False) → H b = none := by
      intro b o e ne
      cases q : H b with
      | none => rfl
      | some u => exact (ne (apart b u q).1).elim
    have ns1 : ∀ {b m}, s₁.heap.Ns b m → (hidT s₁.heap H).Ns b m := by
      rintro b m ⟨o, es, ep, e, d, r⟩
      refine ⟨o, es, ep, hidT_get e (untold e fun z => ?_), d, r⟩
      subst z
      rw [here] at e
      cases e
      cases d
    have kIn : K.In (hidT s₁.heap H) := by
      intro b o e
      apply hidT_get (inK b o e)
      cases q : H b with
      | none => rfl
      | some u =>
        have z := (apart b u q).2
        rw [e] at z
        cases z
    have lim1 : (hidT s₁.heap H).NoLimit := by
      obtain ⟨mc, h1, h2⟩ := lim
      exact ⟨mc, ns1 h1, h2⟩
    have e0 : Env0 P w K mg (hidT s₁.heap H) callerA [] s₁ H := {
      frames := rfl, mod := ⟨kIn, ns1 glob, ⟨mb, ns1 blt, bltIs⟩, lim1⟩, bs := fun _ _ e => of_hidT e, bsz := Nat.le_of_eq (hidT_size _ _), funs := True.intro, frf := (fun _ hb => nomatch hb), hok := ok, bare := .of_eq gens }
    apply codeAny_mono ((F _ kIn (ns1 glob) (mods.elim fun mm h => ⟨mm, ns1 h⟩)).go (us := [.ref a]) (vs := [.ref a]) room rfl e0 (bind s₁ _) (.cons rfl .nil) (want H only sq))
    intro r s' hr
    match r, hr with
    | .error _, hr => exact hr.elim
    | .ok .next, hr => exact False.elim hr
    | .ok .brk, hr => exact False.elim hr
    | .ok .cont, hr => exact False.elim hr
    | .ok (.ret u), hr =>
      obtain ⟨v, H', os, bare, un, ok', rv, q⟩ := hr
      cases (show v = V.bl true from q)
      cases (show u = Value.bool true from rv)
      refine ⟨rfl, OldK.of_keep ?_, os, bare⟩
      intro b o e
      cases only b with
      | inl n => exact un.keep b o e n (fun z => nomatch z) (fun z => nomatch z)
      | inr n =>
        obtain ⟨ob, xs, z⟩ := n
        have e1 := (ok b _ z).1
        have e2 := (ok' b _ (un.frzs b ob _ z)).1
        rw [e] at e1
        cases e1
        exact e2
  have small : (ns.map V.int).length ≤ sizeLine := by rw [List.length_map]; exact few
  cases known : K.lookup a with
  | some o =>
    have e := inK a o known
    rw [here] at e
    cases e
    have sz : vs.length ≤ sizeLine := by rw [← rel.length]; exact small
    exact main (fun _ => none) (fun _ => .inl rfl) (.inr ⟨_, vs.toArray, _, known, rfl, rfl, rfl, by simpa using sz, by simpa using rel⟩) (fun _ _ z => nomatch z) (fun _ _ z => nomatch z)
  | none =>
    have at1 : ∀ {b u}, (if b = a then some (HO.frz { cls := .type "list", data := .seq vs.toArray } (.lst (ns.map V.int))) else none) = some u → b = a := by
      intro b u z
      by_cases hb : b = a
      · exact hb
      · rw [if_neg hb] at z
        cases z
    refine main (fun b => if b = a then some (.frz { cls := .type "list", data := .seq vs.toArray } (.lst (ns.map V.int))) else none) (fun b => ?_) (.inl (.inr ⟨{ cls := .type "list", data := .seq vs.toArray }, if_pos rfl⟩)) (fun b u z => ?_) (fun b u z => ?_)
    · by_cases hb : b = a
      · exact .inr ⟨_, _, if_pos hb⟩
      · exact .inl (if_neg hb)
    · have hb := at1 z
      subst hb
      have z2 := (if_pos rfl).symm.trans z
      cases z2
      exact ⟨here, small, vs, _, rel, here⟩
    · have hb := at1 z
      subst hb
      exact ⟨rfl, known⟩
theorem quiet_walk {l : PySem.W.OpenLaw} {n k : Nat} {q : Program} {loose : List Str} {XP : (Str → Option Value) → Heap → Prop} {YP : World → Heap → Prop} {d : DefRec} {K : Params → PySem.W.Frag} {sp : World → Sp} {x : Str}
    (noImport : importsNone q = true) (most : l.most = some n) (n2 : n ≤ sizeLine) (defaults : d.params.defaults = []) (room : Room k callerA) (hY : ∀ (w : World) (h : Heap), YP w h → (K w.params).In h)
    (F : ∀ (w : World) (mg : Str → Option Value) (fa : Addr) (h : Heap), (K w.params).In h → h.Ns mainGlobals mg → mg d.name = some (.ref fa) →
      ∃ fd : FuncData, (∀ (s : Shared) (u : Value), BindsTo s fd ⟨[u], []⟩ [(x, u)]) ∧ ∀ base : Heap, (K w.params).In base → base.Ns mainGlobals mg → (∃ mm, base.Ns sysModules mm) → FnG l.prog w (K w.params) mg base k fa fd [x] (sp w))
    (want : ∀ (w : World) (H : Hp) (a : Addr) (ns : List Int), ns.length ≤ n → Only H → SqL (K w.params) H a (ns.map V.int) → sp w [.ref a] H (fun v _ => v = .bl true) E0) :
    PySem.W.WalkO q loose XP YP l.row.toRowW d [] (fun f vs => PySem.call f vs) := by
  apply Att.attach_call most defaults
  intro w s₀ s₁ mg mb fa o pm cd doc a vs ns G Y ho hd hcd hmg hobj hints hlen hg
  obtain ⟨fd, hb, hF⟩ := F w mg fa _ (hY w _ Y) G.T.g hmg
  exact quiet_law (hY w _ Y) G.T.g G.T.b G.T.builtins G.T.nolimit hg ((G.T.seer noImport).mods.elim fun mm h => ⟨mm, h.1⟩) hobj hints (Nat.le_trans hlen n2) room hF hb fun H o1 s1 => want w H a ns hlen o1 s1

/-! ### a op1 b op2 c op3 .. : chains of any length -/
section
variable {X : Cx}
structure PCh (X : Cx) (ops : List CmpOp) (es : List Expr) (t : V → TE) : Prop where
  run : ∀ (pos : Pos) (pins : List (Addr × Obj)) (s : Shared) (σ : L2.St) (H : Hp) (Q : VK) (x : V) (v : Value), Inv X pins σ H s → RelV x v → t x σ H Q → wpAny (model X.prog X.w) X.A (compareChain pos v ops (evalEach es X.env)) (EP X pins σ Q) X.xe s
structure PChT (X : Cx) (ops : List CmpOp) (es : List Expr) (t : V → TE) : Prop where
  run : ∀ (pos : Pos) (pins : List (Addr × Obj)) (s : Shared) (σ : L2.St) (H : Hp) (Q : Bool → Hp → Prop) (x : V) (v : Value), Inv X pins σ H s → RelV x v → (t x σ H fun y H' => ∃ k, y = .bl k ∧ Q k H') → wpAny (model X.prog X.w) X.A (testChain pos v ops (evalEach es X.env)) (TP X pins σ Q) X.xe s
def tLast (r : R2) (tb : TE) : V → TE := fun x σ H Q => tb σ H fun y H2 => r x y H2 Q
def tLink (r : R2) (tb : TE) (rest : V → TE) : V → TE := fun x σ H Q => tb σ H fun y H2 => r x y H2 fun z H3 => ∃ k, z = .bl k ∧ (if k = true then rest y σ H3 Q else Q (.bl false) H3)
def tCh (ta : TE) (rest : V → TE) : TE := fun σ H Q => ta σ H fun x H1 => rest x σ H1 Q
theorem pch_last {op : CmpOp} {r : R2} {b : Expr} {tb : TE} (ho : OpR X (compareOp op) r) (hb : PE X b tb) : PCh X [op] [b] (tLast r tb) :=
  ⟨fun pos pins s σ H Q x v I rx h => chain_last (thn (hb.run pins s σ H _ I h) fun u s2 ⟨y, H2, I2, r2, q2⟩ => ho pins s2 σ H2 x y v u Q I2 rx r2 q2)⟩
theorem pch_link {op op' : CmpOp} {ops : List CmpOp} {r : R2} {b b' : Expr} {bs : List Expr} {tb : TE} {rest : V → TE} (ho : OpR X (compareOp op) r) (hb : PE X b tb) (hr : PCh X (op' :: ops) (b' :: bs) rest) : PCh X (op :: op' :: ops) (b :: b' :: bs) (tLink r tb rest) := by
  refine ⟨fun pos pins s σ H Q x v I rx h => ?_⟩
  refine chain_link (thn (hb.run pins s σ H _ I h) fun u s2 ⟨y, H2, I2, r2, q2⟩ => thn (ho pins s2 σ H2 x y v u _ I2 rx r2 q2) fun d s3 ⟨z, H3, I3, r3, k, e, q3⟩ => ?_)
  subst e
  cases r3
  refine wpAny_truthy_bool ?_
  cases k with
  | false => exact ite_ff ⟨.bl false, H3, I3, rfl, q3⟩
  | true => exact ite_tt (hr.run pos pins s3 σ H3 Q y u I3 r2 q3)
theorem pe_chN {op op' : CmpOp} {ops : List CmpOp} {a b b' : Expr} {bs : List Expr} {pos : Pos} {ta : TE} {rest : V → TE} (ha : PE X a ta) (hr : PCh X (op :: op' :: ops) (b :: b' :: bs) rest)
    (hm : lastMarks (op :: op' :: ops) (b :: b' :: bs) = false := by with_unfolding_all rfl) : PE X (.Compare a (op :: op' :: ops) (b :: b' :: bs) pos) (tCh ta rest) :=
  ⟨fun pins s σ H Q I h => Compare_chain (thn (ha.run pins s σ H _ I h) fun v s1 ⟨x, H1, I1, r1, q1⟩ => hr.run pos pins s1 σ H1 Q x v I1 r1 q1) hm⟩
theorem pchT_last {op : CmpOp} {r : R2} {b : Expr} {tb : TE} (ho : OpR X (compareOp op) r) (hb : PE X b tb) : PChT X [op] [b] (tLast r tb) := by
  refine ⟨fun pos pins s σ H Q x v I rx h => ?_⟩
  refine test_last (thn (hb.run pins s σ H _ I h) fun u s2 ⟨y, H2, I2, r2, q2⟩ => thn (ho pins s2 σ H2 x y v u _ I2 rx r2 q2) fun d s3 ⟨z, H3, I3, r3, k, e, q3⟩ => ?_)
  subst e
  cases r3
  exact wpAny_truthy_bool ⟨H3, I3, q3⟩
theorem pchT_link {op op' : CmpOp} {ops : List CmpOp} {r : R2} {b b' : Expr} {bs : List Expr} {tb : TE} {rest : V → TE} (ho : OpR X (compareOp op) r) (hb : PE X b tb) (hr : PChT X (op' :: ops) (b' :: bs) rest) : PChT X (op :: op' :: ops) (b :: b' :: bs) (tLink r tb rest) := by
  refine ⟨fun pos pins s σ H Q x v I rx h => ?_⟩
  refine test_link (thn (hb.run pins s σ H _ I h) fun u s2 ⟨y, H2, I2, r2, q2⟩ => thn (ho pins s2 σ H2 x y v u _ I2 rx r2 q2) fun d s3 ⟨z, H3, I3, r3, k, e, q3⟩ => ?_)
  subst e
  cases r3
  refine wpAny_truthy_bool ?_
  cases k with
  | false =>
    obtain ⟨k', e', q'⟩ := q3
    cases e'
    exact ite_ff ⟨H3, I3, q'⟩
  | true => exact ite_tt (hr.run pos pins s3 σ H3 Q y u I3 r2 q3)
theorem pt_chN {op op' : CmpOp} {ops : List CmpOp} {a b b' : Expr} {bs : List Expr} {pos : Pos} {ta : TE} {rest : V → TE} (ha : PE X a ta) (hr : PChT X (op :: op' :: ops) (b :: b' :: bs) rest)
    (hm : lastMarks (op :: op' :: ops) (b :: b' :: bs) = false := by with_unfolding_all rfl) : PT X (.Compare a (op :: op' :: ops) (b :: b' :: bs) pos) (tTest (tCh ta rest)) :=
  ⟨fun pins s σ H Q I h => isTrue_chain (thn (ha.run pins s σ H _ I h) fun v s1 ⟨x, H1, I1, r1, q1⟩ => hr.run pos pins s1 σ H1 Q x v I1 r1 q1) hm⟩
end

theorem pi_listK {X : Cx} {K : PySem.W.Frag} {tg l : Expr} {tl : TE} (hK : X.K = K) (hl : PE X l tl) : PI X tg l (iList K tl) := hK ▸ pi_list hl
theorem pi_tupK {X : Cx} {K : PySem.W.Frag} {tg l : Expr} {tl : TE} (hK : X.K = K) (hl : PE X l tl) : PI X tg l (iTup K tl) := hK ▸ pi_tup hl

/-! ### enumerate of a tuple -/
section
open Sem (wp)
set_option maxHeartbeats 4000000 in
theorem enum_of_tuple (t : Addr) (items : Array Value) : Meets (Builtin.«enumerate.__new__» ⟨[.type "enumerate", .ref t], []⟩) (fun _ R s => s.heap.IsTuple t items ∧
    R (.ok (.ret (.ref (s.heap.push { cls := .type "tuple_iterator", data := .fields #[.ref t, .int 0 0] }).objs.size)))
      { s with heap := (s.heap.push { cls := .type "tuple_iterator", data := .fields #[.ref t, .int 0 0] }).push { cls := .type "enumerate", data := .fields #[.none, .bool false, .ref s.heap.objs.size, rawInt 0, .none, .none] } }) := by
  refine .of_wp fun prog w A R s h => ?_
  obtain ⟨hp, g, d, tk, os⟩ := s
  obtain ⟨isT, h⟩ := h
  have sub := sub_enumerate
  have start : ∀ {A' : Around} {E : Value → Shared → Prop} {Q : Value → Shared → Prop}, Q (.ref hp.objs.size) ⟨hp.push { cls := .type "tuple_iterator", data := .fields #[.ref t, .int 0 0] }, g, d, tk, os⟩ → wpAny (model prog w) A' (pyIter (.ref t)) Q E ⟨hp, g, d, tk, os⟩ := by
    intro A' E Q q
    exact (begins_tuple t items).iter prog w A' E ⟨hp, g, d, tk, os⟩ Q isT q
  wp_walk using start
  refine wpAny_stack_any fun st => wpAny_pure ?_
  split
  · rename_i cc _ _ _ _ _
    cases (cc == Value.type "enumerate") <;> (wp_walk using start; exact Exists.intro _ ⟨rfl, h⟩)
  · wp_walk using start
    exact Exists.intro _ ⟨rfl, h⟩
end
theorem call_enumT {prog : Program} {w : World} {A : Around} {E : Value → Shared → Prop} {s : Shared} {t : Addr} {items : Array Value} {Q : Value → Shared → Prop} (isT : s.heap.IsTuple t items)
    (h : ∀ h', IsEnum h' (s.heap.objs.size + 1) s.heap.objs.size 0 .none → h'.IsTupleIter s.heap.objs.size t 0 → (∀ b o, s.heap.get? b = some o → h'.get? b = some o) → Q (.ref (s.heap.objs.size + 1)) { s with heap := h' }) :
    wpAny (model prog w) A (call (.type "enumerate") [.ref t]) Q E s := by
  refine callType_new F.called_enumerate (by decide) (F.typeCall_enumerate_1 _) (F.newCall_enumerate_1 _) (fun obj => F.args_object_init_2 obj _) F.entry_enumerate_new (enum_of_tuple t items) (And.intro isT ?_)
  have size : (s.heap.push { cls := .type "tuple_iterator", data := .fields #[.ref t, .int 0 0] }).objs.size = s.heap.objs.size + 1 := Heap.size_push ..
  show _ ∧ _
  rw [size]
  have made := Heap.get?_push_size (s.heap.push { cls := .type "tuple_iterator", data := .fields #[.ref t, .int 0 0] }) (o := { cls := .type "enumerate", data := .fields #[.none, .bool false, .ref s.heap.objs.size, rawInt 0, .none, .none] }) rfl
  rw [size] at made
  refine ⟨⟨_, made, rfl⟩, h _ made ⟨_, Heap.get?_push_of_some _ (Heap.get?_push_size _ rfl), rfl, rfl⟩ ?_⟩
  intro b o e
  exact Heap.get?_push_of_some _ (Heap.get?_push_of_some _ e)
/-- the tuple at a, each item in a new pair with its place -/
def IteT (K : PySem.W.Frag) (a : Addr) (N : Nat) : It where
  go := fun i H => ∃ (xs : List V) (x : V), SqT K H a xs ∧ xs[i]? = some x ∧ xs.length = N
  yld := fun i H v H' => ∃ t x, v = .ref t ∧ H t = none ∧ H' = upd H t (.tup [.int (i : Nat), x]) ∧ ∀ xs, SqT K H a xs → xs[i]? = some x
  stop := fun i H => ∃ xs : List V, SqT K H a xs ∧ xs.length = N ∧ N ≤ i
theorem turn_enumT {P : Program} {w : World} {K : PySem.W.Frag} {elts : List Expr} {kk : Nat} {tpos : Pos} (a e it : Addr) (N : Nat) :
    Turn P w K (.Tuple elts kk tpos) (IteT K a N) [e, it] e (fun i h => (∃ old, IsEnum h e it ((i : Nat) : Int) old) ∧ h.IsTupleIter it a i ∧ e ≠ it ∧ i ≤ N) := by
  have two : ∀ {b : Addr}, b ∈ [e, it] → b = e ∨ b = it := fun hb => by simpa using hb
  constructor
  · simp
  · rintro i h ⟨⟨old, he⟩, ⟨o, ho, hc, hd⟩, _, _⟩ b hb
    rcases two hb with rfl | rfl
    · exact ⟨_, he, fun v q => nomatch q⟩
    · refine ⟨o, ho, fun v q => ?_⟩
      rw [hd] at q
      cases q
  · rintro i h h' ⟨⟨old, he⟩, hi, hne, hN⟩ k
    exact ⟨⟨old, k e (by simp) _ he⟩, hi.at fun o q => k it (by simp) o q, hne, hN⟩
  · intro X hP hw hK hc i pins s σ H E I hf st hg
    subst hP hw hK
    obtain ⟨⟨old, he⟩, hit, hne, hN⟩ := st
    obtain ⟨xs, x, hq, hx, hxN⟩ := hg
    have inside := (List.getElem?_eq_some_iff.mp hx).1
    obtain ⟨its, rv, p, _⟩ := I.tuple hq
    obtain ⟨u, hu, ru⟩ := rv.get hx
    have isT : s.heap.IsTuple a its.toArray := p
    have apart : a ≠ it := by
      rintro rfl
      obtain ⟨o1, q1, c1, _⟩ := hit
      obtain ⟨o2, q2, c2, _⟩ := isT
      rw [q1] at q2
      cases q2
      rw [c1] at c2
      exact absurd (Value.type.inj c2) (by decide)
    have hea : e ≠ a := by
      rintro rfl
      obtain ⟨o2, q2, c2, _⟩ := isT
      rw [he] at q2
      cases q2
      exact absurd (Value.type.inj c2) (by decide)
    have lte : e < s.heap.objs.size := Heap.lt_size he
    have lti : it < s.heap.objs.size := hit.elim fun _ q => Heap.lt_size q.1
    have less : i < its.toArray.size := by
      have z := (List.getElem?_eq_some_iff.mp hu).1
      rw [List.size_toArray]
      exact z
    apply wpAny_pyNext_enum_itemD (Draws.tuple (A := X.A.in1) (I.ok.hd hc) it a apart its.toArray) he ⟨hit, isT⟩ less hne (by simp [hne, hea])
    intro y h' tk hy ho st' hT hsz hk
    have ey : y = u := by
      have z : its[i]? = some y := by simpa using hy
      rw [hu] at z
      exact (Option.some.inj z).symm
    subst ey
    refine ⟨_, rfl, wpAny_letOwnedTupleGo_enum (s := { s with heap := h', toks := tk + 1 }) ho fun h2 he2 sb => ?_⟩
    have kept : ∀ b o, b ∉ [e, it] → s.heap.get? b = some o → h2.get? b = some o := by
      intro b o nb q
      have n1 : b ≠ e := fun z => nb (by simp [z])
      have n2 : b ≠ it := fun z => nb (by simp [z])
      exact (sb.2 b n1).trans (hk b o n1 n2 q)
    have hT2 : h2.get? s.heap.objs.size = some { cls := .type "tuple", data := .seq #[.int i tk, y] } := (sb.2 _ (Nat.ne_of_gt lte)).trans hT
    have I1 : Inv X pins σ (upd H s.heap.objs.size (.tup [.int (i : Nat), x])) { s with heap := h2, toks := tk + 1 } := by
      refine I.turnedNew (ch := [e, it]) kept hf (Nat.le_refl _) ⟨by show 2 ≤ sizeLine; decide, [.int i tk, y], .cons ⟨_, rfl⟩ (.cons ru .nil), ?_⟩
      exact ⟨_, hT2, rfl, _, rfl⟩
    refine ⟨.ref s.heap.objs.size, _, I1, rfl, ⟨_, x, rfl, I.hok.fresh (Nat.le_refl _), rfl, fun ys hys => ?_⟩, ⟨⟨y, ?_⟩, ?_, hne, by omega⟩, fun b hb => ?_⟩
    · rw [I.tuple_inj hys hq]
      exact hx
    · have cast : ((i + 1 : Nat) : Int) = (i : Int) + 1 := by omega
      rw [cast]
      exact he2
    · exact st'.1.at fun o q => (sb.2 it hne.symm).trans q
    · have lt : b < s.heap.objs.size := by
        rcases two hb with rfl | rfl
        · exact lte
        · exact lti
      rw [upd_ne (Nat.ne_of_lt lt)]
      exact (hf b hb).1
  · intro X hP hw hK hc i pins s σ H E I hf st hg
    subst hP hw hK
    obtain ⟨⟨old, he⟩, hit, hne, hN⟩ := st
    obtain ⟨xs, hq, hxN, hx⟩ := hg
    obtain ⟨its, rv, p, _⟩ := I.tuple hq
    have isT : s.heap.IsTuple a its.toArray := p
    have apart : a ≠ it := by
      rintro rfl
      obtain ⟨o1, q1, c1, _⟩ := hit
      obtain ⟨o2, q2, c2, _⟩ := isT
      rw [q1] at q2
      cases q2
      rw [c1] at c2
      exact absurd (Value.type.inj c2) (by decide)
    obtain ⟨f0, f1, f2, f3, f4, f5⟩ := hf it (by simp)
    have len := rv.length
    have at1 : i = its.toArray.size := by
      rw [List.size_toArray]
      omega
    subst at1
    apply wpAny_pyNext_enum_endD (Draws.tuple (A := X.A.in1) (I.ok.hd hc) it a apart its.toArray) he ⟨hit, isT⟩
    intro h' eb
    exact And.intro rfl (I.turned (t' := s.toks) (fun b o hb q => eb b o hb q) f0 f1 f3 f4 f5)
  · rintro A i s Q E ⟨⟨_, he⟩, _⟩ h
    exact wpAny_pyIter_enum he h
def iEnumT (K : PySem.W.Frag) (ta : TA) : TI := fun σ H R => ta σ H fun vs H1 => ∃ a xs, vs = [.ref a] ∧ SqT K H1 a xs ∧ R (IteT K a xs.length) H1
theorem pi_enumT {X : Cx} {e : Expr} {ta : TA} {p pos tpos : Pos} {elts : List Expr} {kk : Nat} (hg : Gl X "enumerate") (hm : X.mg "enumerate" = none) (args : PA X [e] ta) (star : starEach [e] X.env = [(false, eval e X.env)] := by rfl) :
    PI X (.Tuple elts kk tpos) (.Call (.Name "enumerate" p) [e] [] pos) (iEnumT X.K ta) := by
  constructor
  intro pins s σ H R I h
  refine Call_ (ld_blt I hg hm boot_enumerate ?_)
  refine PyProof.Rows.callWith_type1 (thn (args.run pos pins s σ H _ I h) ?_) star rfl
  rintro us s1 ⟨vs, H1, I1, rel, a, xs, rfl, sq, q⟩
  obtain ⟨u, rfl, ru⟩ := vals1 rel
  cases ru
  obtain ⟨its, rv, isT, _⟩ := I1.tuple sq
  refine call_enumT (items := its.toArray) isT fun h' he hit hk => wpAny_pyIter_enum he ?_
  have fresh : ∀ b ∈ [s1.heap.objs.size + 1, s1.heap.objs.size], s1.heap.objs.size ≤ b := by
    intro b hb
    have z : b = s1.heap.objs.size + 1 ∨ b = s1.heap.objs.size := by simpa using hb
    rcases z with rfl | rfl
    · exact Nat.le_add_right _ _
    · exact Nat.le_refl _
  exact ⟨_, _, _, _, H1, rfl, I1.kept hk, turn_enumT a (s1.heap.objs.size + 1) s1.heap.objs.size xs.length, ⟨⟨.none, he⟩, hit, Nat.succ_ne_self _, Nat.zero_le _⟩, fun b hb => I1.fpOk (fresh b hb) (I1.hok.fresh (fresh b hb)), q⟩

/-! ### t[::-1] of a tuple; xs == [], xs != [] of a list that may hold anything -/
section
open HT
variable {prog : Program} {w : World} {A : Around} {E : Value → Shared → Prop} {s : Shared}
theorem adjust_rev (n : Nat) : Builtin.Slice.sliceAdjust none none (-1) (n : Int) = ((n : Int) - 1, -1) := by
  unfold Builtin.Slice.sliceAdjust
  have h1 : (-1 : Int) < 0 := by decide
  simp only [h1, if_true]
theorem places_rev (n : Nat) : Builtin.Slice.slicePlaces ((n : Int) - 1) (-1) (-1) = n := by
  unfold Builtin.Slice.slicePlaces
  have h1 : ¬ ((-1 : Int) > 0) := by decide
  simp only [h1, if_false]
  have h2 : (-(-1) : Int) = 1 := by decide
  rw [h2, Int.ediv_one]
  split <;> omega
theorem sliceApplied_rev {sl : Addr} {vl vu vs : Value} {n : Nat} {Q : Int × Int × Nat → Shared → Prop} (hs : s.heap.IsSliceOf sl vl vu vs) (pl : IsPart vl none) (pu : IsPart vu none) (pt : IsPart vs (some (-1)))
    (h : Q ((n : Int) - 1, -1, n) s) : wpAny (model prog w) A (Builtin.Slice.sliceApplied (.ref sl) (pure (n : Int))) Q E s := by
  obtain ⟨os, hos, hcs, hds⟩ := id hs
  unfold Builtin.Slice.sliceApplied Builtin.Slice.sliceFields
  refine wpAny_bind (wpAny_bind (wpAny_field hos hds (x := vl) rfl (wpAny_bind (wpAny_field hos hds (x := vu) rfl (wpAny_bind (wpAny_field hos hds (x := vs) rfl (wpAny_pure ?_)))))))
  refine wpAny_bind (slicePart_ pt ?_)
  show wpAny _ _ (if ((-1 : Int) == 0) = true then _ else _) _ _ s
  rw [if_neg (by decide)]
  refine wpAny_bind (slicePart_ pl (wpAny_bind (slicePart_ pu (wpAny_bind (wpAny_pure ?_)))))
  show wpAny _ _ (match Builtin.Slice.sliceAdjust none none (-1) (n : Int) with | (lo, hi) => pure (lo, (-1 : Int), Builtin.Slice.slicePlaces lo hi (-1))) _ _ s
  rw [adjust_rev]
  show wpAny _ _ (pure ((n : Int) - 1, (-1 : Int), Builtin.Slice.slicePlaces ((n : Int) - 1) (-1) (-1))) _ _ s
  rw [places_rev]
  exact wpAny_pure h
theorem pick_rev (xs : Array Value) : ((List.range xs.size).filterMap fun (k : Nat) => xs[((xs.size : Int) - 1 + (k : Int) * (-1)).toNat]?) = xs.toList.reverse := by
  have e : ∀ m : Nat, m ≤ xs.size → ((List.range m).filterMap fun (k : Nat) => xs[((xs.size : Int) - 1 + (k : Int) * (-1)).toNat]?) = xs.toList.reverse.take m := by
    intro m
    induction m with
    | zero => intro _; rfl
    | succ m ih =>
      intro hm
      rw [List.range_succ, List.filterMap_append, ih (by omega), List.take_add_one]
      congr 1
      have e1 : ((xs.size : Int) - 1 + (m : Int) * (-1)).toNat = xs.size - 1 - m := by omega
      have e2 : xs.toList.reverse[m]? = xs[xs.size - 1 - m]? := by
        rw [List.getElem?_reverse (by rw [Array.length_toList]; omega), Array.length_toList, Array.getElem?_toList]
      rw [e2]
      have lt : xs.size - 1 - m < xs.size := by omega
      simp only [List.filterMap_cons, List.filterMap_nil, e1]
      rw [Array.getElem?_eq_getElem lt]
      rfl
  rw [e _ (Nat.le_refl _), List.take_of_length_le (by rw [List.length_reverse, Array.length_toList]; exact Nat.le_refl _)]
theorem getItem_tuple_rev {t sl : Addr} {items : Array Value} {vl vu vs : Value} {Q : Value → Shared → Prop} (ht : IsTup s.heap t items) (hs : s.heap.IsSliceOf sl vl vu vs) (pl : IsPart vl none) (pu : IsPart vu none) (pt : IsPart vs (some (-1)))
    (h : Q (.ref s.heap.objs.size) { s with heap := s.heap.push { cls := .type "tuple", data := .seq items.toList.reverse.toArray } })
    (hsz : items.size ≤ sizeLine) : wpAny (model prog w) A (getItem (.ref t) (.ref sl)) Q E s := by
  have htake : sizeOk (.seq items.toList.reverse.toArray) := by
    show items.toList.reverse.toArray.size ≤ sizeLine
    rw [List.size_toArray, List.length_reverse, Array.length_toList]
    omega
  obtain ⟨os, hos, hcs, hds⟩ := id hs
  have hTs : s.TypeIs (.ref sl) "slice" := ⟨os, hos, hcs⟩
  unfold getItem
  try with_reducible refine wpAny_holding ?_
  first | refine wpAny_bind (wpAny_pure ?_) | skip
  refine wpAny_bind (wpAny_sequenceKey ht.typeIs (by decide) ?_)
  refine wpAny_bind (wpAny_callSpecial?_slot (name := Str.ofString "__getitem__") ht.typeIs PyProof.Rows.slot_tuple_getitem
    (wpAny_call_entry PyProof.Rows.slot_tuple_getitem ht.typeIs entry_tuple_getitem ?_ (args_tuple_getitem _ _)))
  show wpAny _ _ (Builtin.Tuple.tupleItemsOf (.ref t) >>= _) _ _ s
  refine wpAny_bind (tupleItemsOf_ ht ?_)
  refine wpAny_bind (wpAny_typeOf hTs ?_)
  rw [if_pos (by decide)]
  refine wpAny_bind (sliceApplied_rev hs pl pu pt ?_)
  have hno : ¬ ((((items.size : Int) - 1) == 0 && (-1 : Int) == 1 && items.size == items.size) = true) := by
    intro q
    rw [Bool.and_eq_true, Bool.and_eq_true] at q
    exact absurd q.1.2 (by decide)
  show wpAny _ _ (if (((items.size : Int) - 1) == 0 && (-1 : Int) == 1 && items.size == items.size) = true then _ else _) _ _ s
  rw [if_neg hno, pick_rev]
  first
    | exact wpAny_bind (m := Builtin.Tuple.tupleExact _) (wpAny_newObj_type (wpAny_pure ⟨_, rfl, wpAny_pure h⟩) htake)
    | exact wpAny_bind (m := Builtin.Tuple.tupleExact _) (wpAny_newObj_type (wpAny_bind (wpAny_pure (wpAny_pure ⟨_, rfl, wpAny_pure h⟩))) htake)
    | exact wpAny_bind (wpAny_bind (m := Builtin.Tuple.tupleExact _) (wpAny_newObj_type (wpAny_pure (wpAny_pure ⟨_, rfl, wpAny_pure h⟩)) htake))
    | exact wpAny_bind (wpAny_bind (m := Builtin.Tuple.tupleExact _) (wpAny_newObj_type (wpAny_pure ⟨_, rfl, wpAny_pure h⟩) htake))
end
section
variable {X : Cx}
def tRevT (K : PySem.W.Frag) (te : TE) : TE := fun σ H Q => te σ H fun x H1 => ∃ a xs, x = .ref a ∧ SqT K H1 a xs ∧ ∀ p, H1 p = none → Q (.ref p) (upd H1 p (.tup xs.reverse))
theorem pe_revT {e : Expr} {te : TE} {k : Nat} {p1 p2 p3 pos : Pos} (he : PE X e te) : PE X (.Subscript e (.Slice none none (some (.UnaryOp .USub (.Constant (.int 1) k p1) p2)) p3) pos) (tRevT X.K te) := by
  refine ⟨fun pins s σ H Q I h => ?_⟩
  refine Subscript_ (thn (he.run pins s σ H _ I h) fun v s1 ⟨x, H1, I1, r1, q1⟩ => ?_)
  obtain ⟨a, xs, ex, hx, q⟩ := q1
  subst ex
  cases r1
  have hst : PO X (some (.UnaryOp .USub (.Constant (.int 1) k p1) p2)) (tPart (tUn (rU fun i => .int (-i)) (tC (.int 1)))) := po_some (pe_un un_neg pe_int)
  refine wpAny_Slice (thn (po_none.run pins s1 σ H1 (fun o H2 => o = none ∧ H2 = H1) I1 ⟨rfl, rfl⟩) fun vl s2 ⟨l, H2, I2, pl, el, e2⟩ => ?_)
  subst el e2
  refine thn (po_none.run pins s2 σ H2 (fun o H3 => o = none ∧ H3 = H2) I2 ⟨rfl, rfl⟩) fun vu s3 ⟨u, H3, I3, pu, eu, e3⟩ => ?_
  subst eu e3
  refine thn (hst.run pins s3 σ H3 (fun o H4 => o = some (-1) ∧ H4 = H3) I3 ⟨1, rfl, -1, rfl, rfl, rfl⟩) fun vs s4 ⟨o, H4, I4, ps, eo, e4⟩ => ?_
  subst eo e4
  have I5 : Inv X pins σ H4 { s4 with heap := s4.heap.push { cls := .type "slice", data := .fields #[vl, vu, vs] } } := I4.kept (t' := s4.toks) fun b ob q => Heap.get?_push_of_some _ q
  obtain ⟨its, r, ht, hz⟩ := I5.tuple hx
  have hlen := r.length
  show wpAny (model X.prog X.w) X.A (subscriptTail e (.Slice none none (some (.UnaryOp .USub (.Constant (.int 1) k p1) p2)) p3) (.ref a) (.ref s4.heap.objs.size)) (EP X pins σ Q) X.xe { s4 with heap := s4.heap.push { cls := .type "slice", data := .fields #[vl, vu, vs] } }
  refine tail_any (ops := [.ref a, .ref s4.heap.objs.size]) ht.typeIs (PyProof.Rows.slot_tuple_getitem.lookup) ?_ (by with_unfolding_all rfl)
  refine getItem_tuple_rev ht (Heap.IsSliceOf.new _ vl vu vs) pl pu ps ?_ (by rw [List.size_toArray]; omega)
  refine ⟨.ref _, _, I5.laid (t' := s4.toks) (o := .tup xs.reverse) (fun b ob q => Heap.get?_push_of_some _ q) (Nat.le_refl _) ?_, rfl, q _ (I5.hok.fresh (Nat.le_refl _))⟩
  exact ⟨by rw [List.length_reverse]; exact hz, _, r.reverse, IsTup.new _ _⟩
def rEqL (K : PySem.W.Frag) : R2 := fun x y H Q => ∃ (a b : Addr) (xs : List V), x = .ref a ∧ y = .ref b ∧ SqL K H a xs ∧ SqL K H b [] ∧ Q (.bl xs.isEmpty) H
def rNeL (K : PySem.W.Frag) : R2 := fun x y H Q => ∃ (a b : Addr) (xs : List V), x = .ref a ∧ y = .ref b ∧ SqL K H a xs ∧ SqL K H b [] ∧ Q (.bl (!xs.isEmpty)) H
theorem op_eqL (units : X.A.units < cLine) : OpR X (compareOp .Eq) (rEqL X.K) := by
  intro pins s σ H x y v u Q I rx ry h
  obtain ⟨a, b, xs, rfl, rfl, ha, hb, q⟩ := h
  cases rx
  cases ry
  obtain ⟨its, r1, p1, _⟩ := I.list ha
  obtain ⟨its2, r2, p2, _⟩ := I.list hb
  cases r2
  cases r1 with
  | nil =>
    exact SeqAt.eq_listAt (e := fun _ => true) p1.isList p2.isList rfl units (fun j h1 h2 => absurd h2 (Nat.not_lt_zero j)) ⟨.bl true, H, I, rfl, q⟩
  | cons r t =>
    exact SeqAt.eq_list_lengthsAt p1.isList p2.isList (by simp) units ⟨.bl false, H, I, rfl, q⟩
theorem op_neL (units : X.A.units < cLine) : OpR X (compareOp .NotEq) (rNeL X.K) := by
  intro pins s σ H x y v u Q I rx ry h
  obtain ⟨a, b, xs, rfl, rfl, ha, hb, q⟩ := h
  cases rx
  cases ry
  obtain ⟨its, r1, p1, _⟩ := I.list ha
  obtain ⟨its2, r2, p2, _⟩ := I.list hb
  cases r2
  cases r1 with
  | nil =>
    exact SeqAt.RcNeAt.lists (e := fun _ => true) p1.isList p2.isList rfl units (fun j h1 h2 => absurd h2 (Nat.not_lt_zero j)) X.prog X.w X.xe (EP X pins σ Q) ⟨.bl false, H, I, rfl, q⟩
  | cons r t =>
    exact SeqAt.RcNeAt.lists_lengths p1.isList p2.isList (by simp) units X.prog X.w X.xe (EP X pins σ Q) ⟨.bl true, H, I, rfl, q⟩
end

/-! ### x in t, x not in t, for a tuple of data -/
theorem units65 {k : Nat} {A : Around} (r : Room k A) : A.units + 65 < cLine := by
  have := r.un
  omega
section
variable {X : Cx}
def rInT (K : PySem.W.Frag) : R2 := fun x y H Q => ∃ d ds, Dp K H x d ∧ Dp K H y (.tuple ds) ∧ SeqAt.shaped d = true ∧ SeqAt.shaped (.tuple ds) = true ∧ Q (.bl (ds.any fun z => PyData.eqv z d)) H
def rNotInT (K : PySem.W.Frag) : R2 := fun x y H Q => ∃ d ds, Dp K H x d ∧ Dp K H y (.tuple ds) ∧ SeqAt.shaped d = true ∧ SeqAt.shaped (.tuple ds) = true ∧ Q (.bl (!ds.any fun z => PyData.eqv z d)) H
theorem op_inT (units : X.A.units + 65 < cLine) : OpR X (compareOp .In) (rInT X.K) := by
  intro pins s σ H x y v u Q I rx ry ⟨d, ds, dx, dy, sx, sy, q⟩
  obtain ⟨_, r1⟩ := Dp.reads I d x v dx rx
  obtain ⟨_, r2⟩ := Dp.reads I (.tuple ds) y u dy ry
  have l2 : PyData.canLayAll0 ds = true := SeqAt.canLay_of_shaped sy
  exact SeqAt.in_tuple_reads r2 r1 l2 (SeqAt.canLay_of_shaped sx) (room_in_shaped sx units) (Exists.intro (V.bl _) ⟨H, I, rfl, q⟩)
theorem op_notInT (units : X.A.units + 65 < cLine) : OpR X (compareOp .NotIn) (rNotInT X.K) := by
  intro pins s σ H x y v u Q I rx ry ⟨d, ds, dx, dy, sx, sy, q⟩
  obtain ⟨_, r1⟩ := Dp.reads I d x v dx rx
  obtain ⟨_, r2⟩ := Dp.reads I (.tuple ds) y u dy ry
  have l2 : PyData.canLayAll0 ds = true := SeqAt.canLay_of_shaped sy
  exact SeqAt.notIn_tuple_reads r2 r1 l2 (SeqAt.canLay_of_shaped sx) (room_in_shaped sx units) (Exists.intro (V.bl _) ⟨H, I, rfl, q⟩)
end
theorem for_zipU {K : PySem.W.Frag} {a b : Addr} {xs ys : List V} {g : TG} {tb : TS} {D : Ends} {σ : L2.St} {H : Hp} (Pv : Nat → L2.St → Hp → Prop) (h0 : Pv 0 σ H) (hq : ∀ i σ H, Pv i σ H → SqT K H a xs ∧ SqT K H b ys)
    (hs : ∀ (i : Nat) (x y : V) (T : Addr) (σ : L2.St) (H : Hp), xs[i]? = some x → ys[i]? = some y → Pv i σ H → H T = none → g (.ref T) σ (upd H T (.tup [x, y])) fun σ2 H2 => tb { D with nx := Pv (i + 1), ct := Pv (i + 1), bk := D.nx } σ2 H2) (hd : ∀ i σ H, i ≤ xs.length → Pv i σ H → D.nx σ H) :
    ∃ W : Nat → Nat → L2.St → Hp → Prop, (∃ m, W 0 m σ H) ∧ ∀ i m σ H, W i m σ H →
      ((RZ.ItzT K a b).stop i H ∧ D.nx σ H) ∨ ((RZ.ItzT K a b).go i H ∧ ∃ N : L2.St → Hp → Prop, (∀ σ' H', N σ' H' → ∃ m', m' < m ∧ W (i + 1) m' σ' H') ∧ ∀ v H', (RZ.ItzT K a b).yld i H v H' → g v σ H' fun σ2 H2 => tb { D with nx := N, ct := N, bk := D.nx } σ2 H2) := by
  refine ⟨fun i m σ H => m = xs.length - i ∧ i ≤ xs.length ∧ Pv i σ H, ⟨_, rfl, Nat.zero_le _, h0⟩, ?_⟩
  rintro i m σ H ⟨rfl, hi, p⟩
  obtain ⟨q1, q2⟩ := hq i σ H p
  by_cases c : i < xs.length ∧ i < ys.length
  · refine .inr ⟨⟨xs, ys, xs[i]'c.1, ys[i]'c.2, q1, q2, List.getElem?_eq_getElem c.1, List.getElem?_eq_getElem c.2⟩, Pv (i + 1), fun σ' H' p' => ⟨xs.length - (i + 1), by omega, rfl, by omega, p'⟩, fun v H' hy => ?_⟩
    obtain ⟨T, x, y, rfl, nT, rfl, f1, f2⟩ := hy
    exact hs i x y T σ H (f1 xs q1) (f2 ys q2) p nT
  · exact .inl ⟨⟨xs, ys, q1, q2, by omega⟩, hd i σ H hi p⟩

/-- a statement that is never come to -/
theorem ps_never {X : Cx} {st : Stmt} : PS X st (fun _ _ _ => False) := ⟨fun _ _ _ _ _ _ h => h.elim⟩

/-! ### a walk over a tuple, whatever its body is (comprehensions with two for) -/
theorem walkT {K : PySem.W.Frag} {a : Addr} {xs : List V} {B : V → Hp → (Hp → Prop) → Prop} {H0 : Hp} {Qd : Hp → Prop} (Pv : Nat → Hp → Prop) (h0 : Pv 0 H0) (hl : ∀ i H, i ≤ xs.length → Pv i H → SqT K H a xs)
    (hs : ∀ i x H, xs[i]? = some x → Pv i H → B x H (Pv (i + 1))) (hd : ∀ H, Pv xs.length H → Qd H) :
    ∃ W : Nat → Nat → Hp → Prop, (∃ m, W 0 m H0) ∧ ∀ i m H, W i m H →
      ((Itt K a).stop i H ∧ Qd H) ∨ ((Itt K a).go i H ∧ ∃ Nx : Hp → Prop, (∀ H', Nx H' → ∃ m', m' < m ∧ W (i + 1) m' H') ∧ ∀ x H', (Itt K a).yld i H x H' → B x H' Nx) := by
  refine ⟨fun i m H => m = xs.length - i ∧ i ≤ xs.length ∧ Pv i H, ⟨xs.length, by simp, Nat.zero_le _, h0⟩, ?_⟩
  rintro i m H ⟨rfl, hi, p⟩
  have q := hl i H hi p
  by_cases hlt : i < xs.length
  · refine .inr ⟨⟨xs, xs[i], q, by simp [hlt]⟩, Pv (i + 1), fun H' p' => ⟨xs.length - (i + 1), by omega, rfl, hlt, p'⟩, fun x H' y => ?_⟩
    obtain ⟨e, y⟩ := y
    subst e
    exact hs i x _ (y xs q) p
  · have e : i = xs.length := by omega
    subst e
    exact .inl ⟨⟨xs, q, by omega⟩, hd H p⟩

/-! ### max(xs, key=f), f a built-in that makes an int of an item and changes nothing -/
section
variable {prog : Program} {w : World} {A : Around} {E : Value → Shared → Prop} {s : Shared} {l : Addr} {kid : String} {vs : List Value} {Q : Value → Shared → Prop}
/-- all objects stay -/
abbrev Stay (h h' : Heap) : Prop := ∀ b o, h.get? b = some o → h'.get? b = some o
theorem isL_stay {h h' : Heap} {a : Addr} {xs : Array Value} (k : Stay h h') (x : h.IsList a xs) : h'.IsList a xs := let ⟨o, e, r⟩ := x; ⟨o, k _ _ e, r⟩
theorem isT_stay {h h' : Heap} {a : Addr} {xs : Array Value} (k : Stay h h') (x : IsTup h a xs) : IsTup h' a xs := let ⟨o, e, r⟩ := x; ⟨o, k _ _ e, r⟩
def KeyAt (prog : Program) (w : World) (A : Around) (s : Shared) (f : Value) (vs : List Value) (kf : Nat → Int) : Prop :=
  ∀ (i : Nat) (v : Value), vs[i]? = some v → ∀ (h : Heap) (tk : Nat), Stay s.heap h →
    wpAny (model prog w) A (call f [v]) (fun x s' => ∃ h' tk' t, s' = { s with heap := h', toks := tk' } ∧ x = .int (kf i) t ∧ Stay h h') (fun _ _ => False) { s with heap := h, toks := tk }
/-- the first of the greatest keys -/
def Topmost (kf : Nat → Int) (n i : Nat) : Prop := ∀ j, j < n → kf j ≤ kf i ∧ (j < i → kf j < kf i)
theorem maxKey_loop {I S : Addr} {R : Result → Shared → Prop} (kf : Nat → Int) (hh : A.handled = none) (isL : s.heap.IsList l vs.toArray) (lI : l ≠ I) (SI : S ≠ I) (nI : s.heap.get? I = none) (nS : s.heap.get? S = none) (key : KeyAt prog w A.in1 s (.builtin kid) vs kf)
    (fin : ∀ i v h' tk', vs[i]? = some v → Topmost kf vs.length i → Stay s.heap h' → R (.ok (.ret v)) { s with heap := h', toks := tk' }) :
    ∀ (r j i : Nat) (h : Heap) (tk : Nat) (vb : Value) (tb : Tok) (c : Nat), vs.length - (j + 1) = r → j + 1 ≤ vs.length → Stay s.heap h →
      h.get? S = some (seqObj "list" #[vb, .int (kf i) tb] c) → h.IsListIter I l (j + 1) → vs[i]? = some vb → i ≤ j → Topmost kf (j + 1) i →
      codeAny (model prog w) A (.builtin "max.loop" ⟨[.ref I, .builtin kid, .ref S], []⟩) R { s with heap := h, toks := tk } := by
  have nm : (toString "max" ++ toString ".loop" : String) = "max.loop" := by decide
  have wk := Walks.list (prog := prog) (w := w) (A := A.in1) hh I l lI vs.toArray
  have sz : vs.toArray.size = vs.length := List.size_toArray ..
  have off : ∀ {h h' : Heap} {x : Addr}, s.heap.get? x = none → Stay s.heap h → (∀ b o, b ≠ x → h.get? b = some o → h'.get? b = some o) → Stay s.heap h' := fun nx st k b o e => k b o (fun z => by rw [z, nx] at e; cases e) (st b o e)
  intro r
  induction r with
  | zero =>
    intro j i h tk vb tb c er jl st gS it ev ij top
    have last : j + 1 = vs.length := by omega
    refine codeAny_builtin (b := _) PySem.F.entry_max_loop ?_
    rw [Around.under_plainId (PySem.F.plain_max_loop) _]
    show wpAny _ A.in1 (seqItems? (Value.ref S) >>= _) _ _ _
    refine wpAny_bind (wpAny_seqItems (gS) rfl ?_)
    show wpAny _ A.in1 (tryCatch (pyNext (Value.ref I)) _ >>= _) _ _ _
    refine wpAny_bind (wpAny_tryCatch (wk.done _ _ _ ⟨by rw [sz, ← last]; exact it, isL_stay st isL⟩ fun h1 tk1 k1 => ?_))
    have st1 := off nI st (fun b o nb e => k1 b o (fun z => nb (List.mem_singleton.mp z)) e)
    have gS1 := k1 S _ (fun z => SI (List.mem_singleton.mp z)) gS
    have u1 := Heap.SameBut.update h1 S (Obj.mapSeq (fun _ => (#[] : Array Value)))
    show wpAny _ A.in1 (updateSeq S (fun _ => #[]) >>= fun _ => _) _ _ _
    refine wpAny_bind (wpAny_updateSeq gS1 rfl (wpAny_bind (wpAny_letGo (wpAny_pure ?_))))
    exact fin i vb _ _ ev (by rw [← last]; exact top) (off nS st1 fun b o nb e => (u1.2 b nb).trans e)
  | succ r ih =>
    intro j i h tk vb tb c er jl st gS it ev ij top
    have more : j + 1 < vs.length := by omega
    refine codeAny_builtin (b := _) PySem.F.entry_max_loop ?_
    rw [Around.under_plainId (PySem.F.plain_max_loop) _]
    show wpAny _ A.in1 (seqItems? (Value.ref S) >>= _) _ _ _
    refine wpAny_bind (wpAny_seqItems (gS) rfl ?_)
    show wpAny _ A.in1 (tryCatch (pyNext (Value.ref I)) _ >>= _) _ _ _
    refine wpAny_bind (wpAny_tryCatch (wk.item (j + 1) _ _ _ (by rw [sz]; exact more) ⟨it, isL_stay st isL⟩ fun v h1 tk1 pv it1 k1 => ?_))
    have ev1 : vs[j + 1]? = some v := by simpa using pv
    obtain ⟨oI, gI, cI, dI⟩ := it1.1
    have st1 := off nI st (fun b o nb e => k1 b o (fun z => nb (List.mem_singleton.mp z)) e)
    have gS1 := k1 S _ (fun z => SI (List.mem_singleton.mp z)) gS
    show wpAny _ A.in1 (tryCatch (holding [v] (call (Value.builtin kid) [v])) _ >>= _) _ _ _
    refine wpAny_bind (wpAny_tryCatch (wpAny_holding (wpAny_mono (key (j + 1) v ev1 h1 tk1 st1) (fun x s2 hx => ?_) (fun _ _ no => no.elim))))
    obtain ⟨h2, tk2, t2, rfl, rfl, k2⟩ := hx
    have st2 : Stay s.heap h2 := fun b o e => k2 b o (st1 b o e)
    have gS2 := k2 _ _ gS1
    have gI2 := k2 _ _ gI
    show wpAny _ A.in1 (tryCatch (holding [v, Value.int (kf (j + 1)) t2] (richCompare .Gt (.int (kf (j + 1)) t2) (.int (kf i) tb) >>= _)) _ >>= _) _ _ _
    refine wpAny_bind (wpAny_tryCatch (wpAny_holding (wpAny_bind (CmpOf.ints_gt (prog := prog) (w := w) (A := A.in1) (P := fun n u => ∃ t, u = .int (kf n) t) kf (fun n u z => z) (j + 1) i _ _ _ _ _ ⟨t2, rfl⟩ ⟨tb, rfl⟩ ?_))))
    refine wpAny_bind (wpAny_holding (wpAny_truthy_bool (wpAny_bind (wpAny_letGo (wpAny_pure ?_)))))
    by_cases up : kf (j + 1) > kf i
    · have u1 := Heap.SameBut.update h2 S (Obj.mapSeq (fun _ => #[v, .int (kf (j + 1)) t2]))
      obtain ⟨c2, gS3⟩ : ∃ c2, (h2.update S (Obj.mapSeq fun _ => #[v, .int (kf (j + 1)) t2])).get? S = some (seqObj "list" #[v, .int (kf (j + 1)) t2] c2) := ⟨_, get?_update_seq gS2 fun _ => _⟩
      simp only [up, decide_true, if_true]
      refine wpAny_bind (wpAny_updateSeq gS2 rfl (wpAny_bind (wpAny_letGo ?_)))
      rw [nm]
      refine wpAny_pure ⟨plainId_quiet (PySem.F.plain_max_loop) _, ih (j + 1) (j + 1) _ _ v t2 c2 (by omega) more (off nS st2 fun b o nb e => (u1.2 b nb).trans e) gS3 ⟨oI, (u1.2 I SI.symm).trans gI2, cI, dI⟩ ev1 (Nat.le_refl _) fun n hn => ?_⟩
      by_cases e : n = j + 1
      · subst e
        exact ⟨Int.le_refl _, fun z => absurd z (Nat.lt_irrefl _)⟩
      · have := (top n (by omega)).1
        exact ⟨by omega, fun _ => by omega⟩
    · simp only [up, decide_false, Bool.false_eq_true, if_false]
      refine wpAny_bind (wpAny_letGo ?_)
      rw [nm]
      refine wpAny_pure ⟨plainId_quiet (PySem.F.plain_max_loop) _, ih (j + 1) i _ _ vb tb c (by omega) more st2 gS2 ⟨oI, gI2, cI, dI⟩ ev (by omega) fun n hn => ?_⟩
      by_cases e : n = j + 1
      · subst e
        exact ⟨by omega, fun z => absurd z (by omega)⟩
      · exact top n (by omega)
theorem maxKey (kf : Nat → Int) (hh : A.handled = none) (isL : s.heap.IsList l vs.toArray) (some1 : 0 < vs.length) (key : KeyAt prog w A.in1 s (.builtin kid) vs kf)
    (fin : ∀ i v h' tk', vs[i]? = some v → Topmost kf vs.length i → Stay s.heap h' → Q v { s with heap := h', toks := tk' }) :
    wpAny (model prog w) A (call (.builtin "max") [.ref l] [(Str.ofString "key", .builtin kid)]) Q E s := by
  have nm : (toString "max" ++ toString ".loop" : String) = "max.loop" := by decide
  have isL0 := isL
  obtain ⟨ol, gl, _⟩ := isL0
  have ll : l < s.heap.objs.size := Heap.lt_size gl
  refine kmb_tree PySem.F.kind_max PySem.F.plain_max PySem.F.entry_max (kmb_max_key _ _) ?_
  show wpAny _ A.in1 (Builtin.Builtins.bindParams "max" ["key", "default"] 0 ⟨[], [(Str.ofString "key", Value.builtin kid)]⟩ >>= _) _ _ s
  refine wpAny_bind (wpAny_of_eq (show Builtin.Builtins.bindParams "max" ["key", "default"] 0 ⟨[], [(Str.ofString "key", Value.builtin kid)]⟩ = pure [some (.builtin kid), none] from rfl) ?_)
  refine wpAny_bind (wpAny_pure (wpAny_bind (wpAny_pyIter_list isL (wpAny_bind (wpAny_newList ?_ (Nat.zero_le _))))))
  rw [nm]
  have it0 := Heap.get?_push_size s.heap (o := { cls := .type "list_iterator", data := .fields #[.ref l, .int 0 0] }) rfl
  have z1 : (s.heap.push { cls := .type "list_iterator", data := .fields #[.ref l, .int 0 0] }).objs.size = s.heap.objs.size + 1 := Heap.size_push ..
  have k1 : Stay s.heap (s.heap.push { cls := .type "list_iterator", data := .fields #[.ref l, .int 0 0] }) := fun b o e => Heap.get?_push_of_some _ e
  generalize s.heap.push { cls := .type "list_iterator", data := .fields #[.ref l, .int 0 0] } = g1 at *
  have gS := Heap.get?_push_size g1 (o := seqObj "list" #[] 0) rfl
  have k2 : Stay g1 (g1.push (seqObj "list" #[] 0)) := fun b o e => Heap.get?_push_of_some _ e
  have gI := k2 _ _ it0
  generalize g1.push (seqObj "list" #[] 0) = g2 at *
  rw [z1] at gS ⊢
  have st2 : Stay s.heap g2 := fun b o e => k2 b o (k1 b o e)
  have nI : s.heap.get? s.heap.objs.size = none := Heap.get?_none_of_le (Nat.le_refl _)
  have nS : s.heap.get? (s.heap.objs.size + 1) = none := Heap.get?_none_of_le (Nat.le_succ _)
  have SI : s.heap.objs.size + 1 ≠ s.heap.objs.size := Nat.succ_ne_self _
  have lI : l ≠ s.heap.objs.size := Nat.ne_of_lt ll
  have wk := Walks.list (prog := prog) (w := w) (A := A.in1) hh s.heap.objs.size l lI vs.toArray
  have sz : vs.toArray.size = vs.length := List.size_toArray ..
  have off : ∀ {h h' : Heap} {x : Addr}, s.heap.get? x = none → Stay s.heap h → (∀ b o, b ≠ x → h.get? b = some o → h'.get? b = some o) → Stay s.heap h' := fun nx st k b o e => k b o (fun z => by rw [z, nx] at e; cases e) (st b o e)
  refine wpAny_pure ⟨plainId_quiet (PySem.F.plain_max_loop) _, codeAny_builtin (b := _) PySem.F.entry_max_loop ?_⟩
  rw [Around.under_plainId (PySem.F.plain_max_loop) _]
  show wpAny _ A.in1 (seqItems? (Value.ref _) >>= _) _ _ _
  refine wpAny_bind (wpAny_seqItems (gS) rfl ?_)
  show wpAny _ A.in1 (tryCatch (pyNext (Value.ref s.heap.objs.size)) _ >>= _) _ _ _
  refine wpAny_bind (wpAny_tryCatch (wk.item 0 _ _ _ (by rw [sz]; exact some1) ⟨⟨_, gI, rfl, rfl⟩, isL_stay st2 isL⟩ fun v h1 tk1 pv it1 kk => ?_))
  have ev1 : vs[0]? = some v := by simpa using pv
  obtain ⟨oI, gI1, cI, dI⟩ := it1.1
  have st1 := off nI st2 (fun b o nb e => kk b o (fun z => nb (List.mem_singleton.mp z)) e)
  have gS1 := kk _ _ (fun z => SI (List.mem_singleton.mp z)) gS
  show wpAny _ A.in1 (tryCatch (holding [v] (call (Value.builtin kid) [v])) _ >>= _) _ _ _
  refine wpAny_bind (wpAny_tryCatch (wpAny_holding (wpAny_mono (key 0 v ev1 h1 tk1 st1) (fun x s2 hx => ?_) (fun _ _ no => no.elim))))
  obtain ⟨h2, tk2, t2, rfl, rfl, k3⟩ := hx
  have gS2 := k3 _ _ gS1
  have u1 := Heap.SameBut.update h2 (s.heap.objs.size + 1) (Obj.mapSeq (fun _ => #[v, .int (kf 0) t2]))
  obtain ⟨c2, gS3⟩ : ∃ c2, (h2.update (s.heap.objs.size + 1) (Obj.mapSeq fun _ => #[v, .int (kf 0) t2])).get? (s.heap.objs.size + 1) = some (seqObj "list" #[v, .int (kf 0) t2] c2) := ⟨_, get?_update_seq gS2 fun _ => _⟩
  show wpAny _ A.in1 (updateSeq (s.heap.objs.size + 1) (fun _ => #[v, .int (kf 0) t2]) >>= _) _ _ _
  refine wpAny_bind (wpAny_updateSeq gS2 rfl ?_)
  rw [nm]
  refine wpAny_pure ⟨plainId_quiet (PySem.F.plain_max_loop) _, maxKey_loop kf hh isL lI SI nI nS key fin _ 0 0 _ _ v t2 c2 rfl some1 (off nS (fun b o e => k3 b o (st1 b o e)) fun b o nb e => (u1.2 b nb).trans e) gS3 ⟨oI, (u1.2 _ SI.symm).trans (k3 _ _ gI1), cI, dI⟩ ev1 (Nat.le_refl _) fun n hn => ?_⟩
  have e : n = 0 := by omega
  subst e
  exact ⟨Int.le_refl _, fun z => absurd z (Nat.lt_irrefl _)⟩
end
/-- max([x, y], key=len), x and y tuples -/
def rMaxLen (K : PySem.W.Frag) : List V → Hp → VK → Prop := fun vs H Q => ∃ (a b c : Addr) (xs ys : List V), vs = [.ref a] ∧ SqL K H a [.ref b, .ref c] ∧ SqT K H b xs ∧ SqT K H c ys ∧ Q (.ref (if xs.length < ys.length then c else b)) H
theorem pe_maxLen {X : Cx} {e : Expr} {p q kp pos : Pos} {t : TA} (hc : X.calm = true) (hg : Gl X "max") (hm : X.mg "max" = none) (hg2 : Gl X "len") (hm2 : X.mg "len" = none) (ha : PA X [e] t)
    (he : backTo pos (starEach [e] X.env) = (false, eval e X.env) :: backTo pos (starEach [] X.env) := by rfl) (hpl : (backTo pos (starEach [e] X.env)).any (·.1) = false := by rfl) :
    PE X (.Call (.Name "max" p) [e] [⟨some "key", .Name "len" q, kp⟩] pos) (tCB (rMaxLen X.K) t) := by
  refine ⟨fun pins s σ H Q I h => ?_⟩
  refine wpAny_Call_Name_kw (ld_blt (u := .builtin "max") I hg hm (by decide +kernel) ?_)
  refine PyProof.Rows.callWith_kw (thn (ha.run pos pins s σ H _ I h) fun us s1 ⟨vs, H1, I1, r1, q1⟩ => ?_) he hpl (by rfl) (by rfl)
  show wpAny _ _ (evalAll [(do let v ← eval (.Name "len" q) X.env; standAt pos; pure v)]) _ _ s1
  refine wpAny_evalAll_cons (wpAny_bind (ld_blt (u := .builtin "len") I1 hg2 hm2 (by decide +kernel) (wpAny_bind (wpAny_standAt (wpAny_pure (wpAny_evalAll_nil ?_))))))
  obtain ⟨a, b, c, xs, ys, rfl, hl, hb, hc2, qq⟩ := q1
  rw [Vals.ref1 r1]
  obtain ⟨its, rv, isL, _⟩ := I1.list hl
  obtain ⟨u, u', rfl, ru, ru'⟩ := vals2 rv
  obtain rfl : u = Value.ref b := ru
  obtain rfl : u' = Value.ref c := ru'
  obtain ⟨i1, v1, t1, z1⟩ := I1.tuple hb
  obtain ⟨i2, v2, t2, z2⟩ := I1.tuple hc2
  have l1 := v1.length
  have l2 := v2.length
  have fit : ∀ {n : Nat}, n ≤ sizeLine → ((n : Nat) : Int) < 2 ^ 63 := fun {n} z => by
    rw [show sizeLine = 16777216 by decide] at z
    omega
  refine maxKey (vs := [Value.ref b, Value.ref c]) (fun i => if i = 0 then (i1.length : Int) else i2.length) (I1.ok.hd hc) isL.isList (Nat.zero_lt_succ _) (fun i v hv h' tk st => ?_) (fun i v h' tk' hv top st => ?_)
  · match i, hv with
    | 0, hv =>
      cases hv
      refine PyProof.Rows.len_tuple (isT_stay st t1) (fit (by rw [List.size_toArray, ← l1]; exact z1)) ⟨_, _, _, rfl, by rw [List.size_toArray]; rfl, fun _ _ e => e⟩
    | 1, hv =>
      cases hv
      refine PyProof.Rows.len_tuple (isT_stay st t2) (fit (by rw [List.size_toArray, ← l2]; exact z2)) ⟨_, _, _, rfl, by rw [List.size_toArray]; rfl, fun _ _ e => e⟩
  · match i, hv with
    | 0, hv =>
      cases hv
      have := (top 1 (Nat.lt_succ_self 1)).1
      replace this : (i2.length : Int) ≤ i1.length := this
      rw [if_neg (by omega)] at qq
      exact ⟨V.ref _, H1, I1.kept st, rfl, qq⟩
    | 1, hv =>
      cases hv
      have := (top 0 (Nat.zero_lt_succ _)).2 (by decide)
      replace this : (i1.length : Int) < i2.length := this
      rw [if_pos (by omega)] at qq
      exact ⟨V.ref _, H1, I1.kept st, rfl, qq⟩

/-! ### a min-max theorem: demands are rectangles, intervals are points -/
abbrev Dem := Int × Int × Int
def sv (z : Int × Int) (d : Dem) : Bool := decide (d.2.1 ≤ z.1 ∧ z.1 ≤ d.1 ∧ d.1 ≤ z.2 ∧ z.2 ≤ d.2.2)
def cf (d e : Dem) : Bool := decide ((e.2.1 ≤ d.1 ∧ d.1 ≤ e.2.2) ∧ d.2.1 ≤ e.1 ∧ e.1 ≤ d.2.2)
def Vd (d : Dem) : Prop := d.2.1 ≤ d.1 ∧ d.1 ≤ d.2.2
theorem sv_iff' {z : Int × Int} {d : Dem} : sv z d = true ↔ d.2.1 ≤ z.1 ∧ z.1 ≤ d.1 ∧ d.1 ≤ z.2 ∧ z.2 ≤ d.2.2 := decide_eq_true_iff
theorem cf_iff {d e : Dem} : cf d e = true ↔ (e.2.1 ≤ d.1 ∧ d.1 ≤ e.2.2) ∧ d.2.1 ≤ e.1 ∧ e.1 ≤ d.2.2 := decide_eq_true_iff
theorem cf_comm (d e : Dem) : cf d e = cf e d := by
  rw [Bool.eq_iff_iff, cf_iff, cf_iff]
  exact ⟨fun h => ⟨h.2, h.1⟩, fun h => ⟨h.2, h.1⟩⟩
theorem cf_of_sv {z : Int × Int} {d e : Dem} (h1 : sv z d = true) (h2 : sv z e = true) : cf d e = true := by
  rw [sv_iff'] at h1 h2
  rw [cf_iff]
  omega
theorem cf_self {d : Dem} (h : Vd d) : cf d d = true := by
  rw [cf_iff]
  exact ⟨h, h⟩
/-- how many of the demands the point serves -/
def cov (L : List Dem) (z : Int × Int) : Nat := L.countP (sv z)
theorem cov_nil (z : Int × Int) : cov [] z = 0 := rfl
theorem cov_cons (d : Dem) (L : List Dem) (z : Int × Int) : cov (d :: L) z = cov L z + (if sv z d = true then 1 else 0) := List.countP_cons
theorem cov_app (L M : List Dem) (z : Int × Int) : cov (L ++ M) z = cov L z + cov M z := List.countP_append
theorem cov_perm {L M : List Dem} (h : L.Perm M) (z : Int × Int) : cov L z = cov M z := h.countP_eq _
/-- no two of them conflict -/
def Ind (L : List Dem) : Prop := L.Pairwise fun d e => cf d e = false
theorem Ind.cov_le {L : List Dem} (h : Ind L) (z : Int × Int) : cov L z ≤ 1 := by
  induction L with
  | nil => exact Nat.zero_le _
  | cons d L ih =>
    have p := List.pairwise_cons.mp h
    rw [cov_cons]
    split
    · next s =>
      have e : cov L z = 0 := List.countP_eq_zero.mpr fun e he c => by
        have := p.1 e he
        rw [cf_of_sv s c] at this
        cases this
      omega
    · have := ih p.2
      omega
structure Fam (F : List Dem) : Prop where
  ok : ∀ d ∈ F, 0 ≤ d.2.1 ∧ Vd d
  ex : ∀ d ∈ F, ∀ e ∈ F, d.1 < e.1 → d.2.1 < e.2.1 → d.2.2 < e.2.2 → cf d e = true → (d.1, e.2) ∈ F ∧ (e.1, d.2) ∈ F
  cross : ∀ d ∈ F, ∀ e ∈ F, cf d e = true → d.2 = e.2 ∨ (d.2.1 < e.2.1 ∧ d.2.2 < e.2.2) ∨ (e.2.1 < d.2.1 ∧ e.2.2 < d.2.2)
theorem sv_exch {z : Int × Int} {d e : Dem} (h1 : d.1 < e.1) (h2 : d.2.1 < e.2.1) (h3 : d.2.2 < e.2.2) (c : cf d e = true) :
    (if sv z (d.1, e.2) = true then 1 else 0) + (if sv z (e.1, d.2) = true then 1 else 0) ≤ (if sv z d = true then 1 else 0) + (if sv z e = true then 1 else 0) := by
  have c := cf_iff.mp c
  simp only [sv_iff']
  split <;> split <;> split <;> split <;> omega
def pot (L : List Dem) : Int := (L.map fun d => d.1 * (d.2.1 + d.2.2)).sum
theorem pot_cons (d : Dem) (L : List Dem) : pot (d :: L) = d.1 * (d.2.1 + d.2.2) + pot L := by
  unfold pot
  rw [List.map_cons, List.sum_cons]
theorem pot_nonneg {L : List Dem} (h : ∀ d ∈ L, 0 ≤ d.2.1 ∧ Vd d) : 0 ≤ pot L := by
  induction L with
  | nil => exact Int.le_refl _
  | cons d L ih =>
    rw [pot_cons]
    have := ih fun e he => h e (List.mem_cons_of_mem _ he)
    have q := h d List.mem_cons_self
    unfold Vd at q
    have : 0 ≤ d.1 * (d.2.1 + d.2.2) := Int.mul_nonneg (by omega) (by omega)
    omega
theorem pot_perm {L M : List Dem} (h : L.Perm M) : pot L = pot M := by
  induction h with
  | nil => rfl
  | cons x _ ih => rw [pot_cons, pot_cons, ih]
  | swap x y l =>
    rw [pot_cons, pot_cons, pot_cons, pot_cons]
    omega
  | trans _ _ i1 i2 => rw [i1, i2]
def Corner (d e : Dem) : Prop := cf d e = true ∧ d.1 < e.1 ∧ d.2.1 < e.2.1 ∧ d.2.2 < e.2.2
theorem pull2 {L : List Dem} {d e : Dem} (hd : d ∈ L) (he : e ∈ L) (ne : d ≠ e) : ∃ R, L.Perm (d :: e :: R) := by
  have p1 := List.perm_cons_erase hd
  have he' : e ∈ L.erase d := (List.mem_erase_of_ne (Ne.symm ne)).mpr he
  exact ⟨(L.erase d).erase e, p1.trans ((List.perm_cons_erase he').cons d)⟩
theorem uncross {F : List Dem} (fam : Fam F) : ∀ (n : Nat) (L : List Dem), (∀ d ∈ L, d ∈ F) → (pot L).toNat < n → ∃ M : List Dem, (∀ d ∈ M, d ∈ F) ∧ M.length = L.length ∧ (∀ z, cov M z ≤ cov L z) ∧ ∀ d ∈ M, ∀ e ∈ M, ¬ Corner d e := by
  intro n
  induction n with
  | zero => exact fun _ _ h => absurd h (Nat.not_lt_zero _)
  | succ n ih =>
    intro L hL hn
    by_cases c : ∀ d ∈ L, ∀ e ∈ L, ¬ Corner d e
    · exact ⟨L, hL, rfl, fun _ => Nat.le_refl _, c⟩
    · have ⟨d, hd, e, he, k⟩ : ∃ d ∈ L, ∃ e ∈ L, Corner d e := by
        refine Classical.byContradiction fun z => c fun d hd e he k => z ⟨d, hd, e, he, k⟩
      obtain ⟨k1, k2, k3, k4⟩ := k
      have ne : d ≠ e := fun z => by
        subst z
        exact absurd k2 (Int.lt_irrefl _)
      obtain ⟨R, pm⟩ := pull2 hd he ne
      have x := fam.ex d (hL d hd) e (hL e he) k2 k3 k4 k1
      have hR : ∀ f ∈ R, f ∈ F := fun f hf => hL f (pm.mem_iff.mpr (List.mem_cons_of_mem _ (List.mem_cons_of_mem _ hf)))
      have hN : ∀ f ∈ (d.1, e.2) :: (e.1, d.2) :: R, f ∈ F := fun f hf => by
        rcases List.mem_cons.mp hf with rfl | hf
        · exact x.1
        rcases List.mem_cons.mp hf with rfl | hf
        · exact x.2
        · exact hR f hf
      have less : pot ((d.1, e.2) :: (e.1, d.2) :: R) < pot L := by
        rw [pot_perm pm, pot_cons, pot_cons, pot_cons, pot_cons]
        show d.1 * (e.2.1 + e.2.2) + (e.1 * (d.2.1 + d.2.2) + pot R) < d.1 * (d.2.1 + d.2.2) + (e.1 * (e.2.1 + e.2.2) + pot R)
        have : 0 < (e.1 - d.1) * ((e.2.1 + e.2.2) - (d.2.1 + d.2.2)) := Int.mul_pos (by omega) (by omega)
        rw [Int.sub_mul, Int.mul_sub, Int.mul_sub] at this
        omega
      have nn := pot_nonneg fun f hf => fam.ok f (hN f hf)
      obtain ⟨M, m1, m2, m3, m4⟩ := ih _ hN (by omega)
      refine ⟨M, m1, by rw [m2, pm.length_eq]; rfl, fun z => Nat.le_trans (m3 z) ?_, m4⟩
      rw [cov_perm pm, cov_cons, cov_cons, cov_cons, cov_cons]
      have := sv_exch (z := z) k2 k3 k4 k1
      omega
/-- e lies across d -/
def Und (e d : Dem) : Prop := d.2.1 ≤ e.2.1 ∧ e.1 ≤ d.1 ∧ d.2.2 ≤ e.2.2
theorem und_of {F : List Dem} (fam : Fam F) {d e : Dem} (hd : d ∈ F) (he : e ∈ F) (c : cf d e = true) (n1 : ¬ Corner d e) (n2 : ¬ Corner e d) : Und d e ∨ Und e d := by
  unfold Und
  rcases fam.cross d hd e he c with h | h | h
  · rw [h]
    omega
  · have : ¬ d.1 < e.1 := fun z => n1 ⟨c, z, h.1, h.2⟩
    omega
  · have : ¬ e.1 < d.1 := fun z => n2 ⟨by rw [cf_comm]; exact c, z, h.1, h.2⟩
    omega
def leD (d e : Dem) : Bool := decide (d.1 - d.2.1 < e.1 - e.2.1 ∨ (d.1 - d.2.1 = e.1 - e.2.1 ∧ e.2.2 ≤ d.2.2))
theorem leD_total (a b : Dem) : (leD a b || leD b a) = true := by
  unfold leD
  rw [Bool.or_eq_true, decide_eq_true_eq, decide_eq_true_eq]
  omega
theorem leD_trans (a b c : Dem) : leD a b = true → leD b c = true → leD a c = true := by
  unfold leD
  rw [decide_eq_true_eq, decide_eq_true_eq, decide_eq_true_eq]
  omega
theorem und_le {F : List Dem} (fam : Fam F) {f e : Dem} (hf : f ∈ F) (he : e ∈ F) (c : cf f e = true) (n1 : ¬ Corner f e) (n2 : ¬ Corner e f) (le : leD f e = true) : Und f e := by
  have le := of_decide_eq_true le
  rcases und_of fam hf he c n1 n2 with h | h
  · exact h
  · unfold Und at *
    omega
def gre : Nat → List Dem → List Dem
  | 0, _ => []
  | _, [] => []
  | n + 1, d :: R => d :: gre n (R.filter fun e => !cf d e)
def lef : Nat → List Dem → List Dem
  | 0, L => L
  | _, [] => []
  | n + 1, d :: R => (R.filter fun e => cf d e) ++ lef n (R.filter fun e => !cf d e)
theorem gre_lef : ∀ (n : Nat) (L : List Dem), L.Perm (gre n L ++ lef n L)
  | 0, L => List.Perm.refl _
  | n + 1, [] => List.Perm.refl _
  | n + 1, d :: R => by
    have ih := gre_lef n (R.filter fun e => !cf d e)
    show (d :: R).Perm (d :: (gre n (R.filter fun e => !cf d e) ++ ((R.filter fun e => cf d e) ++ lef n (R.filter fun e => !cf d e))))
    refine List.Perm.cons d ?_
    have p1 := (List.filter_append_perm (fun e => cf d e) R).symm
    refine p1.trans ?_
    refine ((List.Perm.refl (R.filter fun e => cf d e)).append ih).trans ?_
    rw [← List.append_assoc, ← List.append_assoc]
    exact List.perm_append_comm.append_right _
theorem gre_sub (n : Nat) (L : List Dem) : ∀ d ∈ gre n L, d ∈ L := fun d hd => (gre_lef n L).mem_iff.mpr (List.mem_append_left _ hd)
theorem lef_sub (n : Nat) (L : List Dem) : ∀ d ∈ lef n L, d ∈ L := fun d hd => (gre_lef n L).mem_iff.mpr (List.mem_append_right _ hd)
theorem gre_ind : ∀ (n : Nat) (L : List Dem), Ind (gre n L)
  | 0, _ => List.Pairwise.nil
  | n + 1, [] => List.Pairwise.nil
  | n + 1, d :: R => by
    refine List.pairwise_cons.mpr ⟨fun e he => ?_, gre_ind n _⟩
    have := (List.mem_filter.mp (gre_sub n _ e he)).2
    rw [Bool.not_eq_true'] at this
    exact this
theorem gre_in : ∀ (n : Nat) (A B : List Dem) (e : Dem), A.length < n → e ∈ gre n (A ++ e :: B) ∨ ∃ f ∈ A, cf f e = true
  | 0, _, _, _, h => absurd h (Nat.not_lt_zero _)
  | n + 1, [], B, e, _ => .inl List.mem_cons_self
  | n + 1, d :: A, B, e, h => by
    by_cases c : cf d e = true
    · exact .inr ⟨d, List.mem_cons_self, c⟩
    · have eq : (A ++ e :: B).filter (fun x => !cf d x) = A.filter (fun x => !cf d x) ++ e :: B.filter (fun x => !cf d x) := by
        rw [List.filter_append, List.filter_cons_of_pos (by rw [Bool.not_eq_true] at c; rw [c]; rfl)]
      have l : (A.filter fun x => !cf d x).length < n := Nat.lt_of_le_of_lt (List.length_filter_le _ _) (Nat.lt_of_succ_lt_succ h)
      rcases gre_in n (A.filter fun x => !cf d x) (B.filter fun x => !cf d x) e l with g | ⟨f, hf, k⟩
      · refine .inl (List.mem_cons_of_mem _ ?_)
        show e ∈ gre n ((A ++ e :: B).filter fun x => !cf d x)
        rw [eq]
        exact g
      · exact .inr ⟨f, List.mem_cons_of_mem _ (List.mem_filter.mp hf).1, k⟩
theorem cov_lt {z w : Int × Int} {f : Dem} : ∀ {L : List Dem}, f ∈ L → (∀ c ∈ L, sv z c = true → sv w c = true) → sv z f = false → sv w f = true → cov L z < cov L w
  | [], hf, _, _, _ => nomatch hf
  | d :: L, hf, h, n, y => by
    rw [cov_cons, cov_cons]
    have le : cov L z ≤ cov L w := List.countP_mono_left fun c hc => h c (List.mem_cons_of_mem _ hc)
    have h1 := h d List.mem_cons_self
    rcases List.mem_cons.mp hf with rfl | hf
    · rw [n, y]
      simp
      omega
    · have ih := cov_lt hf (fun c hc => h c (List.mem_cons_of_mem _ hc)) n y
      split
      · next s => rw [if_pos (h1 s)]; omega
      · split <;> omega
theorem first_of {p : Dem → Bool} : ∀ {L : List Dem}, (∃ d ∈ L, p d = true) → ∃ A e B, L = A ++ e :: B ∧ p e = true ∧ ∀ f ∈ A, p f = false
  | [], h => by
    obtain ⟨d, hd, _⟩ := h
    cases hd
  | d :: L, h => by
    by_cases c : p d = true
    · exact ⟨[], d, L, rfl, c, fun f hf => nomatch hf⟩
    · obtain ⟨x, hx, px⟩ := h
      rcases List.mem_cons.mp hx with rfl | hx
      · exact absurd px c
      · obtain ⟨A, e, B, r1, r2, r3⟩ := first_of ⟨x, hx, px⟩
        refine ⟨d :: A, e, B, by rw [r1]; rfl, r2, fun f hf => ?_⟩
        rcases List.mem_cons.mp hf with rfl | hf
        · exact Bool.not_eq_true _ ▸ c
        · exact r3 f hf
theorem lef_cov {F : List Dem} (fam : Fam F) {L : List Dem} (hL : ∀ d ∈ L, d ∈ F) (nc : ∀ d ∈ L, ∀ e ∈ L, ¬ Corner d e) (srt : L.Pairwise fun d e => leD d e = true) {m : Nat} (hm : ∀ z, cov L z ≤ m + 1) (z : Int × Int) : cov (lef L.length L) z ≤ m := by
  have sum := cov_perm (gre_lef L.length L) z
  rw [cov_app] at sum
  have top := hm z
  by_cases g : ∃ d ∈ gre L.length L, sv z d = true
  · have : 0 < cov (gre L.length L) z := List.countP_pos_iff.mpr g
    omega
  · by_cases s : ∃ d ∈ L, sv z d = true
    · obtain ⟨A, e, B, rfl, se, nA⟩ := first_of s
      have la : A.length < (A ++ e :: B).length := by
        rw [List.length_append, List.length_cons]
        omega
      rcases gre_in _ A B e la with q | ⟨f, hf, k⟩
      · exact absurd ⟨e, q, se⟩ g
      · have mf : f ∈ A ++ e :: B := List.mem_append_left _ hf
        have me : e ∈ A ++ e :: B := List.mem_append_right _ List.mem_cons_self
        have pw := List.pairwise_append.mp srt
        have u1 := und_le fam (hL f mf) (hL e me) k (nc f mf e me) (nc e me f mf) (pw.2.2 f hf e List.mem_cons_self)
        have w : cov (A ++ e :: B) z < cov (A ++ e :: B) (f.1, z.2) := by
          have vf := (fam.ok f (hL f mf)).2
          have ve := sv_iff'.mp se
          refine cov_lt mf (fun c hc sc => ?_) (nA f hf) ?_
          · have u2 : Und e c := by
              rcases List.mem_append.mp hc with h | h
              · rw [nA c h] at sc
                cases sc
              · rcases List.mem_cons.mp h with rfl | h
                · exact ⟨Int.le_refl _, Int.le_refl _, Int.le_refl _⟩
                · exact und_le fam (hL e me) (hL c hc) (cf_of_sv se sc) (nc e me c hc) (nc c hc e me) ((List.pairwise_cons.mp pw.2.1).1 c h)
            have sc := sv_iff'.mp sc
            rw [sv_iff']
            unfold Und Vd at *
            show c.2.1 ≤ f.1 ∧ f.1 ≤ c.1 ∧ c.1 ≤ z.2 ∧ z.2 ≤ c.2.2
            omega
          · rw [sv_iff']
            unfold Und Vd at *
            show f.2.1 ≤ f.1 ∧ f.1 ≤ f.1 ∧ f.1 ≤ z.2 ∧ z.2 ≤ f.2.2
            omega
        have := hm (f.1, z.2)
        omega
    · have : cov L z = 0 := List.countP_eq_zero.mpr fun d hd c => s ⟨d, hd, c⟩
      omega
theorem len_le {F : List Dem} (fam : Fam F) {k : Nat} (hk : ∀ I, Ind I → (∀ d ∈ I, d ∈ F) → I.length ≤ k) : ∀ (m : Nat) (L : List Dem), (∀ d ∈ L, d ∈ F) → (∀ d ∈ L, ∀ e ∈ L, ¬ Corner d e) → (∀ z, cov L z ≤ m) → L.length ≤ m * k
  | 0, L, hL, _, hm => by
    cases L with
    | nil => exact Nat.zero_le _
    | cons d L =>
      have v := (fam.ok d (hL d List.mem_cons_self)).2
      have := hm (d.1, d.1)
      rw [cov_cons, if_pos (sv_iff'.mpr (by unfold Vd at v; exact ⟨v.1, Int.le_refl _, Int.le_refl _, v.2⟩))] at this
      omega
  | m + 1, L, hL, nc, hm => by
    have pm := List.mergeSort_perm L leD
    have srt := List.pairwise_mergeSort leD_trans leD_total L
    generalize L.mergeSort leD = S at *
    have hS : ∀ d ∈ S, d ∈ L := fun d hd => pm.mem_iff.mp hd
    have hl := lef_cov fam (fun d hd => hL d (hS d hd)) (fun d hd e he => nc d (hS d hd) e (hS e he)) srt (m := m) (fun z => by rw [cov_perm pm]; exact hm z)
    have sub := lef_sub S.length S
    have ih := len_le fam hk m (lef S.length S) (fun d hd => hL d (hS d (sub d hd))) (fun d hd e he => nc d (hS d (sub d hd)) e (hS e (sub e he))) hl
    have g := hk _ (gre_ind S.length S) fun d hd => hL d (hS d (gre_sub _ _ d hd))
    have e := (gre_lef S.length S).length_eq
    have e2 := pm.length_eq
    rw [List.length_append] at e
    rw [Nat.add_mul]
    omega
theorem sum_lt {α : Type} {f : α → Nat} : ∀ {Z : List α} {w : α}, w ∈ Z → (∀ x ∈ Z, f x ≤ 1) → f w = 0 → (Z.map f).sum + 1 ≤ Z.length
  | [], _, h, _, _ => nomatch h
  | x :: Z, w, h, h1, h0 => by
    have le : ∀ Y : List α, (∀ x ∈ Y, f x ≤ 1) → (Y.map f).sum ≤ Y.length := by
      intro Y
      induction Y with
      | nil => exact fun _ => Nat.le_refl _
      | cons y Y ih =>
        intro hy
        have := ih fun x hx => hy x (List.mem_cons_of_mem _ hx)
        have := hy y List.mem_cons_self
        rw [List.map_cons, List.sum_cons, List.length_cons]
        omega
    have r := le Z fun x hx => h1 x (List.mem_cons_of_mem _ hx)
    have hx := h1 x List.mem_cons_self
    rw [List.map_cons, List.sum_cons, List.length_cons]
    rcases List.mem_cons.mp h with rfl | h
    · omega
    · have := sum_lt h (fun x hx => h1 x (List.mem_cons_of_mem _ hx)) h0
      omega
theorem cov_flat {α : Type} (I : α → List Dem) (z : Int × Int) : ∀ Z : List α, cov (Z.flatMap I) z = (Z.map fun w => cov (I w) z).sum
  | [] => rfl
  | x :: Z => by
    rw [List.flatMap_cons, cov_app, cov_flat I z Z, List.map_cons, List.sum_cons]
theorem len_flat {α β : Type} (I : α → List β) {k : Nat} : ∀ Z : List α, (∀ w ∈ Z, (I w).length = k) → (Z.flatMap I).length = Z.length * k
  | [], _ => by simp
  | x :: Z, h => by
    rw [List.flatMap_cons, List.length_append, len_flat I Z fun w hw => h w (List.mem_cons_of_mem _ hw), h x List.mem_cons_self, List.length_cons, Nat.add_mul]
    omega
theorem top_of (F : List Dem) : ∃ M : Nat, ∀ d ∈ F, d.2.2 ≤ M := by
  induction F with
  | nil => exact ⟨0, fun d hd => nomatch hd⟩
  | cons d F ih =>
    obtain ⟨M, h⟩ := ih
    refine ⟨M + d.2.2.toNat, fun e he => ?_⟩
    rcases List.mem_cons.mp he with rfl | he
    · omega
    · have := h e he
      omega
def box (M : Nat) : List (Int × Int) := (List.range (M + 1)).flatMap fun (x : Nat) => (List.range (M + 1)).map fun (y : Nat) => ((x : Int), (y : Int))
theorem mem_box {M : Nat} {z : Int × Int} (h : 0 ≤ z.1 ∧ z.1 ≤ M) (h2 : 0 ≤ z.2 ∧ z.2 ≤ M) : z ∈ box M := by
  unfold box
  refine List.mem_flatMap.mpr ⟨z.1.toNat, List.mem_range.mpr (by omega), List.mem_map.mpr ⟨z.2.toNat, List.mem_range.mpr (by omega), ?_⟩⟩
  exact Prod.ext (by show ((z.1.toNat : Nat) : Int) = z.1; omega) (by show ((z.2.toNat : Nat) : Int) = z.2; omega)
/-- a point that every largest selection has to pay for -/
theorem hits {F : List Dem} (fam : Fam F) {k : Nat} (hk : ∀ I, Ind I → (∀ d ∈ I, d ∈ F) → I.length ≤ k + 1) : ∃ z, ∀ I, Ind I → (∀ d ∈ I, d ∈ F) → I.length = k + 1 → ∃ d ∈ I, sv z d = true := by
  refine Classical.byContradiction fun no => ?_
  have miss : ∀ z, ∃ I, Ind I ∧ (∀ d ∈ I, d ∈ F) ∧ I.length = k + 1 ∧ ∀ d ∈ I, sv z d = false := fun z => by
    refine Classical.byContradiction fun h => no ⟨z, fun I i1 i2 i3 => Classical.byContradiction fun n => h ⟨I, i1, i2, i3, fun d hd => ?_⟩⟩
    rw [← Bool.not_eq_true]
    exact fun s => n ⟨d, hd, s⟩
  obtain ⟨I, hI⟩ := Classical.axiomOfChoice miss
  obtain ⟨M, hM⟩ := top_of F
  have hsub : ∀ d ∈ (box M).flatMap I, d ∈ F := fun d hd => by
    obtain ⟨w, _, h⟩ := List.mem_flatMap.mp hd
    exact (hI w).2.1 d h
  have hlen := len_flat I (k := k + 1) (box M) fun w _ => (hI w).2.2.1
  have pos : 0 < (box M).length := List.length_pos_of_mem (mem_box (M := M) (z := (0, 0)) ⟨by decide, by show (0 : Int) ≤ M; omega⟩ ⟨by decide, by show (0 : Int) ≤ M; omega⟩)
  have hc : ∀ z, cov ((box M).flatMap I) z ≤ (box M).length - 1 := fun z => by
    by_cases b : (0 ≤ z.1 ∧ z.1 ≤ M) ∧ 0 ≤ z.2 ∧ z.2 ≤ M
    · have s := sum_lt (f := fun w => cov (I w) z) (mem_box b.1 b.2) (fun x _ => (hI x).1.cov_le z) (List.countP_eq_zero.mpr fun d hd c => by
        rw [(hI z).2.2.2 d hd] at c
        cases c)
      rw [cov_flat]
      omega
    · have : cov ((box M).flatMap I) z = 0 := List.countP_eq_zero.mpr fun d hd c => b (by
        have c := sv_iff'.mp c
        have o := fam.ok d (hsub d hd)
        have t := hM d (hsub d hd)
        unfold Vd at o
        omega)
      omega
  obtain ⟨N, n1, n2, n3, n4⟩ := uncross fam _ _ hsub (Nat.lt_succ_self _)
  have := len_le fam hk ((box M).length - 1) N n1 n4 fun z => Nat.le_trans (n3 z) (hc z)
  rw [n2, hlen] at this
  obtain ⟨b, eb⟩ : ∃ b, (box M).length = b + 1 := ⟨(box M).length - 1, by omega⟩
  rw [eb, Nat.add_sub_cancel, Nat.add_mul, Nat.one_mul] at this
  omega
theorem Fam.rest {F : List Dem} (fam : Fam F) (z : Int × Int) : Fam (F.filter fun d => !sv z d) := by
  have hs : ∀ d, d ∈ F.filter (fun d => !sv z d) → d ∈ F ∧ sv z d = false := fun d hd => by
    have := List.mem_filter.mp hd
    exact ⟨this.1, by rw [← Bool.not_eq_true']; exact this.2⟩
  refine ⟨fun d hd => fam.ok d (hs d hd).1, fun d hd e he h1 h2 h3 c => ?_, fun d hd e he c => fam.cross d (hs d hd).1 e (hs e he).1 c⟩
  have x := fam.ex d (hs d hd).1 e (hs e he).1 h1 h2 h3 c
  have y := sv_exch (z := z) h1 h2 h3 c
  rw [(hs d hd).2, (hs e he).2] at y
  simp at y
  exact ⟨List.mem_filter.mpr ⟨x.1, by rw [y.1]; rfl⟩, List.mem_filter.mpr ⟨x.2, by rw [y.2]; rfl⟩⟩
/-- as many points as the largest selection has serve all -/
theorem min_max : ∀ (k : Nat) {F : List Dem}, Fam F → (∀ I, Ind I → (∀ d ∈ I, d ∈ F) → I.length ≤ k) → ∃ S : List (Int × Int), S.length ≤ k ∧ ∀ d ∈ F, ∃ z ∈ S, sv z d = true
  | 0, F, fam, hk => ⟨[], Nat.le_refl _, fun d hd => by
    have := hk [d] (List.pairwise_singleton _ _) fun e he => by
      rw [List.mem_singleton.mp he]
      exact hd
    exact absurd this (by simp)⟩
  | k + 1, F, fam, hk => by
    obtain ⟨z, hz⟩ := hits fam hk
    obtain ⟨S, s1, s2⟩ := min_max k (fam.rest z) fun I i1 i2 => by
      have sub : ∀ d ∈ I, d ∈ F ∧ sv z d = false := fun d hd => by
        have := List.mem_filter.mp (i2 d hd)
        exact ⟨this.1, by rw [← Bool.not_eq_true']; exact this.2⟩
      have le := hk I i1 fun d hd => (sub d hd).1
      by_cases e : I.length = k + 1
      · obtain ⟨d, hd, s⟩ := hz I i1 (fun d hd => (sub d hd).1) e
        rw [(sub d hd).2] at s
        cases s
      · omega
    refine ⟨z :: S, by rw [List.length_cons]; omega, fun d hd => ?_⟩
    by_cases s : sv z d = true
    · exact ⟨z, List.mem_cons_self, s⟩
    · obtain ⟨w, hw, q⟩ := s2 d (List.mem_filter.mpr ⟨hd, by rw [Bool.not_eq_true] at s; rw [s]; rfl⟩)
      exact ⟨w, List.mem_cons_of_mem _ hw, q⟩

/-! ### a lambda of one parameter p with one captured name c, made in a def and called by a built-in -/
structure Lam1 (sc scope : Scope) (cap par : Str) : Prop where
  kind : scope.kind = .function
  co : scope.isCoroutine = false
  gen : scope.isGenerator = false
  parL : scope.names.lookup par = some .local
  cells : ∀ y ∈ scope.names, y.2 ≠ .cell
  locs : ∀ y, scope.names.lookup y = some .local → y = par
  free : ∀ y ∈ scope.names, y.2 = .free → sc.names.lookup y.1 = some .cell ∨ sc.names.lookup y.1 = some .free
  ne : cap ≠ par
def lam1B (sc scope : Scope) (cap par : Str) : Bool :=
  decide (scope.kind = .function) && !scope.isCoroutine && !scope.isGenerator && decide (scope.names.lookup par = some .local) && (scope.names.all fun y => !decide (y.2 = .cell)) && (scope.names.all fun y => !decide (y.2 = .local) || decide (y.1 = par))
    && (scope.names.all fun y => !decide (y.2 = .free) || decide (sc.names.lookup y.1 = some .cell) || decide (sc.names.lookup y.1 = some .free)) && !decide (cap = par)
theorem lam1_by {sc scope : Scope} {cap par : Str} (h : lam1B sc scope cap par = true) : Lam1 sc scope cap par := by
  unfold lam1B at h
  simp only [Bool.and_eq_true, Bool.or_eq_true, Bool.not_eq_true', decide_eq_true_eq, decide_eq_false_iff_not, List.all_eq_true] at h
  obtain ⟨⟨⟨⟨⟨⟨⟨h1, h2⟩, h3⟩, h4⟩, h5⟩, h6⟩, h7⟩, h8⟩ := h
  refine ⟨h1, h2, h3, h4, h5, fun y e => ?_, fun y hy e => ?_, h8⟩
  · rcases h6 _ (PySem.mem_of_lookup e) with z | z
    · exact absurd rfl z
    · exact z
  · rcases h7 y hy with (z | z) | z
    · exact absurd e z
    · exact .inl z
    · exact .inr z
theorem Lam1.has {X : Cx} {scope : Scope} {cap par : Str} (L : Lam1 X.env.scope scope cap par) (ok : X.Ok) : ∀ y ∈ scope.names, y.2 = .free → ∃ c, X.env.cells.lookup y.1 = some c := fun y hy e => by
  rcases L.free y hy e with k | k
  · exact ok.has _ (.inl k)
  · exact ok.has _ (.inr k)
/-- the context of the lambda's body -/
def lamCx1 (X : Cx) (A : Around) (s : Shared) (H : Hp) (scope : Scope) (cap par : Str) (f c' : Addr) : Cx where
  prog := X.prog
  w := X.w
  K := X.K
  mg := X.mg
  base := X.base
  A := A.deeper (LamX.lamEnv X scope s.heap.objs.size f c')
  N := [cap, par]
  s_0 := s
  H_0 := H
  env := LamX.lamEnv X scope s.heap.objs.size f c'
  outer := X.stack
  stack := LamX.lamEnv X scope s.heap.objs.size f c' :: X.stack
  ex := []
  fn := fun _ => false
  calm := true
  pn := []
  xe := fun _ _ => False
section
variable {X : Cx} {pins : List (Addr × Obj)} {σ : L2.St} {HZ : Hp} {s1 : Shared}
theorem lam_start1 {A : Around} {scope : Scope} {cap par : Str} {f c' : Addr} {h₁ : Heap} {tk i : Nat} {cv pv : V} {u : Value} (I : Inv X pins σ HZ s1) (L : Lam1 X.env.scope scope cap par) (hi : X.N[i]? = some cap) (hσ : σ[i]? = some (some cv))
    (hA : A.frames = some X.stack) (hd : A.handled = none) (hns : h₁.Ns s1.heap.objs.size fun y => ([(par, u)] : List (Str × Value)).reverse.lookup y) (rv : RelV pv u) (keep1 : ∀ b o, s1.heap.get? b = some o → h₁.get? b = some o) :
    Inv (lamCx1 X A s1 HZ scope cap par f c') [] [some cv, some pv] HZ { s1 with heap := h₁, toks := tk } := by
  have e0 := I.env0
  have caps := L.has I.ok
  have ofClo : ∀ {y c}, (cloFrom X.env.cells scope.names []).lookup y = some c → X.env.cells.lookup y = some c := fun {y c} e => by
    rcases cloFrom_mem (PySem.mem_of_lookup e) with zz | ⟨q1, q2⟩
    · cases zz
    · obtain ⟨cc, hc⟩ := caps _ q1 rfl
      have hc : X.env.cells.lookup y = some cc := hc
      have e2 : c = cc := by
        rw [q2, hc] <;> rfl
      rw [e2]
      exact hc
  have hasC : ∀ {y}, scope.names.lookup y = some .free → ∃ c, (cloFrom X.env.cells scope.names []).lookup y = some c := fun {y} hl => by
    have hy : (y, NameKind.free) ∈ scope.names := PySem.mem_of_lookup hl
    exact mem_lookup (cloFrom_has (cells := X.env.cells) (acc := []) hy)
  have cellK : ∀ {c : Addr} {v : Option Value}, s1.heap.IsCell c v → h₁.IsCell c v := fun {c v} ⟨o, ho, hd⟩ => ⟨o, keep1 _ _ ho, hd⟩
  have noEx : ∀ b : Addr, b ∉ (lamCx1 X A s1 HZ scope cap par f c').ex := fun b z => absurd (show b ∈ ([] : List Addr) from z) (by simp)
  refine ⟨⟨e0.mod, L.kind, rfl, rfl, Nat.le_refl _, fun y z c e1 e2 => I.ok.inj y z c (ofClo e1) (ofClo e2), fun y hy => ?_, fun y c z _ => ?_, fun _ => hd, Around.frames_deeper hA, .inr ⟨rfl, rfl⟩, fun b z => absurd z (noEx b), e0.bs, e0.bsz, fun b _ _ => noEx b,
      fun b z => absurd z (noEx b), e0.funs, e0.frf⟩,
    rfl, e0.bare, Un.kept keep1, ⟨_, hns, fun j y v e1 e2 e3 => ?_⟩, fun y c e => ?_, e0.hok.fresh (Nat.le_refl _), fun y c e => ?_, fun q hq => absurd (show q ∈ ([] : List (Addr × Obj)) ++ [] from hq) (by simp), e0.hok.kept keep1, rfl⟩
  · have hy : scope.names.lookup y = some .cell ∨ scope.names.lookup y = some .free := hy
    rcases hy with hy | hy
    · exact absurd rfl (L.cells _ (PySem.mem_of_lookup hy))
    · exact hasC hy
  · have z : false = true := z
    cases z
  · have e3 : Vis scope y := e3
    match j, e1, e2 with
    | 0, e1, e2 =>
      cases e1
      cases e2
      rcases e3 with k | k | k
      · exact absurd (L.locs _ k) L.ne
      · exact absurd rfl (L.cells _ (PySem.mem_of_lookup k))
      · obtain ⟨m, hn, hl⟩ := I.loc
        have hvis : Vis X.env.scope cap := (L.free _ (PySem.mem_of_lookup k) rfl).elim (fun k => .inr (.inl k)) (fun k => .inr (.inr k))
        obtain ⟨w', r, q⟩ := hl i cap cv hi hσ hvis
        obtain ⟨c2, h2⟩ := hasC k
        refine ⟨w', r, .inr ⟨.inr k, c2, h2, ?_⟩⟩
        have c1 := ofClo h2
        rcases q with ⟨k', _⟩ | ⟨_, c3, e', z⟩
        · have k' : X.env.scope.names.lookup cap = some .local := k'
          rcases L.free _ (PySem.mem_of_lookup k) rfl with k2 | k2 <;> rw [show X.env.scope.names.lookup cap = _ from k2] at k' <;> cases k'
        · rw [c1] at e'
          cases e'
          exact cellK z
    | 1, e1, e2 =>
      cases e1
      cases e2
      refine ⟨u, rv, .inl ⟨L.parL, ?_⟩⟩
      simp [List.lookup]
    | n + 2, e1, e2 => cases e1
  · obtain ⟨w', z⟩ := I.cell y c (ofClo e)
    exact ⟨w', cellK z⟩
  · exact I.freeC y c (ofClo e)
/-- the lambda called with u -/
theorem lam_call1 {A : Around} {scope : Scope} {cap par : Str} {f c' : Addr} {pm ctv : Value} {params : Arguments} {body : Expr} {k i : Nat} {cv pv : V} {u : Value} {tb : TE} {Q : VK} (I : Inv X pins σ HZ s1) (L : Lam1 X.env.scope scope cap par) (hi : X.N[i]? = some cap) (hσ : σ[i]? = some (some cv))
    (hA : A.frames = some X.stack) (hr : Room (k + 1) A)
    (hf : s1.heap.get? f = some (PySem.W.kla_obj "<lambda>" (X.env.qual ++ "<lambda>") params body scope (cloFrom X.env.cells scope.names []) pm c' ctv)) (hc : HZ c' = some (LamX.CodeO c' (X.env.qual ++ "<lambda>")))
    (hbind : bindArgs (PySem.W.kla_fn "<lambda>" (X.env.qual ++ "<lambda>") params body scope (cloFrom X.env.cells scope.names []) pm (.ref c') ctv) ⟨[u], []⟩ = pure [(par, u)])
    (hbody : Room k (A.deeper (LamX.lamEnv X scope s1.heap.objs.size f c')) → PE (lamCx1 X A s1 HZ scope cap par f c') body tb) (rv : RelV pv u) (ht : tb [some cv, some pv] HZ Q) :
    wpAny (model X.prog X.w) A (call (.ref f) [u]) (fun x s' => ∃ v H', Inv X pins σ H' s' ∧ RelV v x ∧ Q v H' ∧ Un (frs X.stack) [] HZ H' s1.heap s'.heap) (fun _ _ => False) s1 := by
  obtain ⟨⟨oc, vs, t, hoc, hdc, hvc⟩, _, _⟩ := I.hok c' _ hc
  have rc : codeAny (model X.prog X.w) A (.call (.ref f) ⟨[u], []⟩) (CR CX0 X.stack X.prog X.w HZ s1 Q E0) s1 := by
    refine PySem.W.kla_callFunE hr.depth hf rfl L.co L.gen rfl ⟨c', oc, vs, t, rfl, hoc, hdc, hvc⟩ ?_
    rw [hbind]
    refine wpAny_pure (wpAny_newFunctionEnv L.cells (fun y hy => by rw [List.mem_singleton.mp hy]; exact L.parL) (fun h₁ hns hsb => ⟨I.nolimit.fresh _ hsb, ?_⟩) L.kind)
    show codeAny _ _ (.expr body (LamX.lamEnv X scope s1.heap.objs.size f c')) _ _
    have keep1 : ∀ b o, s1.heap.get? b = some o → h₁.get? b = some o := fun b o e => hsb.extBut b o (Nat.ne_of_lt (Heap.lt_size e)) (Heap.get?_push_of_some _ e)
    have J := lam_start1 (A := A) (f := f) (c' := c') (tk := s1.toks + ([(par, u)] : List (Str × Value)).length) I L hi hσ hA hr.hd hns rv keep1
    refine PySem.W.kla_codeExpr (wpAny_mono ((hbody (hr.deeper _)).run [] _ _ HZ Q J ht) (fun v s' hq => ?_) fun e s' hq => hq.elim)
    obtain ⟨w', H', J', rv', q⟩ := hq
    exact ⟨w', H', J'.os, J'.bare, J'.base, J'.hok, rv', q⟩
  refine wpAny_call (codeAny_mono rc fun r s' hq => ?_)
  cases r with
  | error e => exact (show False from hq).elim
  | ok fl =>
    cases fl with
    | ret x =>
      obtain ⟨v, H', os, bare, un, hok, r, q⟩ := hq
      exact ⟨v, H', I.call' os un hok bare (fun b z => absurd z (by simp)), r, q, un⟩
    | next => exact False.elim hq
    | brk => exact False.elim hq
    | cont => exact False.elim hq
end

/-! ### min(xs, key=f), f a function of the program's own -/
/-- the first of the least keys -/
def Lowest (kf : Nat → Int) (n i : Nat) : Prop := ∀ j, j < n → kf i ≤ kf j ∧ (j < i → kf i < kf j)
structure RawA (X : Cx) (pins : List (Addr × Obj)) (b : Addr) : Prop where
  sz : X.s_0.heap.objs.size ≤ b
  loc : b ≠ X.env.locals
  cell : ∀ x c, X.env.cells.lookup x = some c → c ≠ b
  pin : ∀ p ∈ X.pn ++ pins, p.1 ≠ b
  fr : b ∉ frs X.stack
theorem RawA.of {X : Cx} {pins : List (Addr × Obj)} {σ : L2.St} {H : Hp} {s : Shared} (I : Inv X pins σ H s) {b : Addr} (h : s.heap.objs.size ≤ b) : RawA X pins b where
  sz := Nat.le_trans I.sz h
  loc := (Nat.ne_of_lt (Nat.lt_of_lt_of_le I.lt h)).symm
  cell := fun x c e => by
    obtain ⟨v, o, ho, _⟩ := I.cell x c e
    exact Nat.ne_of_lt (Nat.lt_of_lt_of_le (Heap.lt_size ho) h)
  pin := fun p hp => Nat.ne_of_lt (Nat.lt_of_lt_of_le (Heap.lt_size (I.pin p hp).1) h)
  fr := fun z => by
    rcases List.mem_cons.mp (I.stkSub _ z) with e | e
    · have h1 := I.lt
      rw [← e] at h1
      exact Nat.lt_irrefl _ (Nat.lt_of_lt_of_le h1 h)
    · exact I.nofs h e
structure InLp (X : Cx) (pins : List (Addr × Obj)) (σ : L2.St) (Φ : Hp → Prop) (I S f : Addr) (fo : Obj) (s : Shared) : Prop where
  ex : ∃ H, Inv X pins σ H s ∧ Φ H ∧ H I = none ∧ H S = none ∧ H f = none
  fn : s.heap.get? f = some fo
section
variable {X : Cx} {pins : List (Addr × Obj)} {σ : L2.St} {Φ : Hp → Prop} {l I S f : Addr} {fo : Obj} {as : List Addr} {R : Result → Shared → Prop}
theorem InLp.turn {s : Shared} (L : InLp X pins σ Φ I S f fo s) {it : Addr} {h' : Heap} {t' : Nat} (hit : it = I ∨ it = S) (r : RawA X pins it) (ne : it ≠ f) (k : ∀ b o, b ≠ it → s.heap.get? b = some o → h'.get? b = some o) : InLp X pins σ Φ I S f fo { s with heap := h', toks := t' } := by
  obtain ⟨H, inv, φ, n1, n2, n3⟩ := L.ex
  refine ⟨⟨H, inv.turned (it := it) k ?_ r.loc (.inr r.sz) r.cell r.pin, φ, n1, n2, n3⟩, k _ _ ne.symm L.fn⟩
  rcases hit with rfl | rfl
  · exact n1
  · exact n2
def KeyI (X : Cx) (pins : List (Addr × Obj)) (σ : L2.St) (Φ : Hp → Prop) (f : Addr) (fo : Obj) (as : List Addr) (kf : Nat → Int) : Prop :=
  ∀ (i : Nat) (a : Addr), as[i]? = some a → ∀ (s : Shared) (H : Hp), Inv X pins σ H s → Φ H → H f = none → s.heap.get? f = some fo →
    wpAny (model X.prog X.w) X.A.in1 (call (.ref f) [.ref a]) (fun x s' => (∃ t, x = .int (kf i) t) ∧ ∃ H', Inv X pins σ H' s' ∧ Φ H' ∧ Un (frs X.stack) [] H H' s.heap s'.heap) (fun _ _ => False) s
theorem minL_loop (kf : Nat → Int) (hh : X.A.handled = none) (isL : ∀ s H, Inv X pins σ H s → Φ H → s.heap.IsList l (as.map Value.ref).toArray) (lI : l ≠ I) (SI : S ≠ I) (If : I ≠ f) (Sf : S ≠ f) (rI : RawA X pins I) (rS : RawA X pins S) (nf : f ∉ frs X.stack) (key : KeyI X pins σ Φ f fo as kf)
    (fin : ∀ i a s, as[i]? = some a → Lowest kf as.length i → InLp X pins σ Φ I S f fo s → R (.ok (.ret (.ref a))) s) :
    ∀ (r j i : Nat) (s : Shared) (ab : Addr) (tb : Tok) (c : Nat), as.length - (j + 1) = r → j + 1 ≤ as.length → InLp X pins σ Φ I S f fo s →
      s.heap.get? S = some (seqObj "list" #[.ref ab, .int (kf i) tb] c) → s.heap.IsListIter I l (j + 1) → as[i]? = some ab → i ≤ j → Lowest kf (j + 1) i →
      codeAny (model X.prog X.w) X.A (.builtin "min.loop" ⟨[.ref I, .ref f, .ref S], []⟩) R s := by
  have nm : (toString "min" ++ toString ".loop" : String) = "min.loop" := by decide
  have wk := Walks.list (prog := X.prog) (w := X.w) (A := X.A.in1) hh I l lI (as.map Value.ref).toArray
  have sz : (as.map Value.ref).toArray.size = as.length := by simp
  intro r
  induction r with
  | zero =>
    intro j i s ab tb c er jl L gS it ev ij top
    have last : j + 1 = as.length := by omega
    refine codeAny_builtin PySem.F.entry_min_loop ?_
    rw [Around.under_plainId PySem.F.plain_min_loop _]
    show wpAny _ X.A.in1 (seqItems? (Value.ref S) >>= _) _ _ _
    refine wpAny_bind (wpAny_seqItems gS rfl ?_)
    show wpAny _ X.A.in1 (tryCatch (pyNext (Value.ref I)) _ >>= _) _ _ _
    refine wpAny_bind (wpAny_tryCatch (wk.done _ _ _ ⟨by rw [sz, ← last]; exact it, by
      obtain ⟨H, inv, φ, _⟩ := L.ex
      exact isL _ _ inv φ⟩ fun h1 tk1 k1 => ?_))
    have k1' : ∀ b o, b ≠ I → s.heap.get? b = some o → h1.get? b = some o := fun b o nb e => k1 b o (fun z => nb (List.mem_singleton.mp z)) e
    have L1 := L.turn (t' := tk1) (.inl rfl) rI If k1'
    have gS1 := k1' S _ SI gS
    have u1 := Heap.SameBut.update h1 S (Obj.mapSeq (fun _ => (#[] : Array Value)))
    show wpAny _ X.A.in1 (updateSeq S (fun _ => #[]) >>= fun _ => _) _ _ _
    refine wpAny_bind (wpAny_updateSeq gS1 rfl (wpAny_bind (wpAny_letGo (wpAny_pure ?_))))
    exact fin i ab _ ev (by rw [← last]; exact top) (L1.turn (.inr rfl) rS Sf fun b o nb e => (u1.2 b nb).trans e)
  | succ r ih =>
    intro j i s ab tb c er jl L gS it ev ij top
    have more : j + 1 < as.length := by omega
    refine codeAny_builtin PySem.F.entry_min_loop ?_
    rw [Around.under_plainId PySem.F.plain_min_loop _]
    show wpAny _ X.A.in1 (seqItems? (Value.ref S) >>= _) _ _ _
    refine wpAny_bind (wpAny_seqItems gS rfl ?_)
    show wpAny _ X.A.in1 (tryCatch (pyNext (Value.ref I)) _ >>= _) _ _ _
    refine wpAny_bind (wpAny_tryCatch (wk.item (j + 1) _ _ _ (by rw [sz]; exact more) ⟨it, by
      obtain ⟨H, inv, φ, _⟩ := L.ex
      exact isL _ _ inv φ⟩ fun v h1 tk1 pv it1 k1 => ?_))
    obtain ⟨a1, ev1, rfl⟩ : ∃ a1, as[j + 1]? = some a1 ∧ v = Value.ref a1 := by
      have z : (as.map Value.ref)[j + 1]? = some v := by simpa using pv
      rw [List.getElem?_map] at z
      obtain ⟨a1, e1, e2⟩ := Option.map_eq_some_iff.mp z
      exact ⟨a1, e1, e2.symm⟩
    have k1' : ∀ b o, b ≠ I → s.heap.get? b = some o → h1.get? b = some o := fun b o nb e => k1 b o (fun z => nb (List.mem_singleton.mp z)) e
    have L1 := L.turn (t' := tk1) (.inl rfl) rI If k1'
    have gS1 := k1' S _ SI gS
    obtain ⟨oI, gI, cI, dI⟩ := it1.1
    obtain ⟨H1, inv1, φ1, nI1, nS1, nf1⟩ := L1.ex
    show wpAny _ X.A.in1 (tryCatch (holding [.ref a1] (call (Value.ref f) [.ref a1])) _ >>= _) _ _ _
    refine wpAny_bind (wpAny_tryCatch (wpAny_holding (wpAny_mono (key (j + 1) a1 ev1 _ H1 inv1 φ1 nf1 L1.fn) (fun x s2 hx => ?_) (fun _ _ no => no.elim))))
    obtain ⟨⟨t2, rfl⟩, H2, inv2, φ2, un⟩ := hx
    have gS2 : s2.heap.get? S = _ := un.keep S _ gS1 nS1 rS.fr (by simp)
    have gI2 : s2.heap.get? I = _ := un.keep I _ gI nI1 rI.fr (by simp)
    have gf2 : s2.heap.get? f = _ := un.keep f _ L1.fn nf1 nf (by simp)
    have L2' : InLp X pins σ Φ I S f fo s2 := ⟨⟨H2, inv2, φ2, un.free I _ gI nI1 (by simp), un.free S _ gS1 nS1 (by simp), un.free f _ L1.fn nf1 (by simp)⟩, gf2⟩
    show wpAny _ X.A.in1 (tryCatch (holding [.ref a1, Value.int (kf (j + 1)) t2] (richCompare .Lt (.int (kf (j + 1)) t2) (.int (kf i) tb) >>= _)) _ >>= _) _ _ _
    refine wpAny_bind (wpAny_tryCatch (wpAny_holding (wpAny_bind (CmpOf.ints_lt (prog := X.prog) (w := X.w) (A := X.A.in1) (P := fun n u => ∃ t, u = .int (kf n) t) kf (fun n u z => z) (j + 1) i _ _ _ _ _ ⟨t2, rfl⟩ ⟨tb, rfl⟩ ?_))))
    refine wpAny_bind (wpAny_holding (wpAny_truthy_bool (wpAny_bind (wpAny_letGo (wpAny_pure ?_)))))
    by_cases up : kf (j + 1) < kf i
    · have u1 := Heap.SameBut.update s2.heap S (Obj.mapSeq (fun _ => #[.ref a1, .int (kf (j + 1)) t2]))
      obtain ⟨c2, gS3⟩ : ∃ c2, (s2.heap.update S (Obj.mapSeq fun _ => #[.ref a1, .int (kf (j + 1)) t2])).get? S = some (seqObj "list" #[.ref a1, .int (kf (j + 1)) t2] c2) := ⟨_, get?_update_seq gS2 fun _ => _⟩
      simp only [up, decide_true, if_true]
      refine wpAny_bind (wpAny_updateSeq gS2 rfl (wpAny_bind (wpAny_letGo ?_)))
      rw [nm]
      refine wpAny_pure ⟨plainId_quiet PySem.F.plain_min_loop _, ih (j + 1) (j + 1) _ a1 t2 c2 (by omega) more (L2'.turn (.inr rfl) rS Sf fun b o nb e => (u1.2 b nb).trans e) gS3 ⟨oI, (u1.2 I SI.symm).trans gI2, cI, dI⟩ ev1 (Nat.le_refl _) fun n hn => ?_⟩
      by_cases e : n = j + 1
      · subst e
        exact ⟨Int.le_refl _, fun z => absurd z (Nat.lt_irrefl _)⟩
      · have := (top n (by omega)).1
        exact ⟨by omega, fun _ => by omega⟩
    · simp only [up, decide_false, Bool.false_eq_true, if_false]
      refine wpAny_bind (wpAny_letGo ?_)
      rw [nm]
      refine wpAny_pure ⟨plainId_quiet PySem.F.plain_min_loop _, ih (j + 1) i _ ab tb c (by omega) more (L2'.turn (.inr rfl) rS Sf fun b o nb e => e) gS2 ⟨oI, gI2, cI, dI⟩ ev (by omega) fun n hn => ?_⟩
      by_cases e : n = j + 1
      · subst e
        exact ⟨by omega, fun z => absurd z (by omega)⟩
      · exact top n (by omega)
theorem minL {s : Shared} {Q : Value → Shared → Prop} {E : Value → Shared → Prop} {H : Hp} (kf : Nat → Int) (inv : Inv X pins σ H s) (φ : Φ H) (hh : X.A.handled = none) (isL : ∀ s H, Inv X pins σ H s → Φ H → s.heap.IsList l (as.map Value.ref).toArray) (some1 : 0 < as.length) (hf : s.heap.get? f = some fo) (hn : H f = none) (nf : f ∉ frs X.stack) (key : KeyI X pins σ Φ f fo as kf)
    (fin : ∀ i a s H, as[i]? = some a → Lowest kf as.length i → Inv X pins σ H s → Φ H → Q (.ref a) s) :
    wpAny (model X.prog X.w) X.A (call (.builtin "min") [.ref l] [(Str.ofString "key", .ref f)]) Q E s := by
  have nm : (toString "min" ++ toString ".loop" : String) = "min.loop" := by decide
  have isL0 := isL s H inv φ
  have isL1 := isL0
  obtain ⟨ol, gl, _⟩ := isL1
  have ll : l < s.heap.objs.size := Heap.lt_size gl
  have lf : f < s.heap.objs.size := Heap.lt_size hf
  refine kmb_tree PySem.F.kind_min PySem.F.plain_min PySem.F.entry_min (kmb_min_key _ _) ?_
  show wpAny _ X.A.in1 (Builtin.Builtins.bindParams "min" ["key", "default"] 0 ⟨[], [(Str.ofString "key", Value.ref f)]⟩ >>= _) _ _ s
  refine wpAny_bind (wpAny_of_eq (show Builtin.Builtins.bindParams "min" ["key", "default"] 0 ⟨[], [(Str.ofString "key", Value.ref f)]⟩ = pure [some (.ref f), none] from rfl) ?_)
  refine wpAny_bind (wpAny_pure (wpAny_bind (wpAny_pyIter_list isL0 (wpAny_bind (wpAny_newList ?_ (Nat.zero_le _))))))
  rw [nm]
  have it0 := Heap.get?_push_size s.heap (o := { cls := .type "list_iterator", data := .fields #[.ref l, .int 0 0] }) rfl
  have z1 : (s.heap.push { cls := .type "list_iterator", data := .fields #[.ref l, .int 0 0] }).objs.size = s.heap.objs.size + 1 := Heap.size_push ..
  have k1 : Stay s.heap (s.heap.push { cls := .type "list_iterator", data := .fields #[.ref l, .int 0 0] }) := fun b o e => Heap.get?_push_of_some _ e
  generalize s.heap.push { cls := .type "list_iterator", data := .fields #[.ref l, .int 0 0] } = g1 at *
  have gS := Heap.get?_push_size g1 (o := seqObj "list" #[] 0) rfl
  have k2 : Stay g1 (g1.push (seqObj "list" #[] 0)) := fun b o e => Heap.get?_push_of_some _ e
  have gI := k2 _ _ it0
  generalize g1.push (seqObj "list" #[] 0) = g2 at *
  rw [z1] at gS ⊢
  have st2 : Stay s.heap g2 := fun b o e => k2 b o (k1 b o e)
  have SI : s.heap.objs.size + 1 ≠ s.heap.objs.size := Nat.succ_ne_self _
  have lI : l ≠ s.heap.objs.size := Nat.ne_of_lt ll
  have If : s.heap.objs.size ≠ f := (Nat.ne_of_lt lf).symm
  have Sf : s.heap.objs.size + 1 ≠ f := (Nat.ne_of_lt (Nat.lt_succ_of_lt lf)).symm
  have rI : RawA X pins s.heap.objs.size := RawA.of inv (Nat.le_refl _)
  have rS : RawA X pins (s.heap.objs.size + 1) := RawA.of inv (Nat.le_succ _)
  have L0 : InLp X pins σ Φ s.heap.objs.size (s.heap.objs.size + 1) f fo { s with heap := g2 } := ⟨⟨H, inv.kept st2, φ, inv.hok.fresh (Nat.le_refl _), inv.hok.fresh (Nat.le_succ _), hn⟩, st2 _ _ hf⟩
  have wk := Walks.list (prog := X.prog) (w := X.w) (A := X.A.in1) hh s.heap.objs.size l lI (as.map Value.ref).toArray
  have sz : (as.map Value.ref).toArray.size = as.length := by simp
  refine wpAny_pure ⟨plainId_quiet PySem.F.plain_min_loop _, codeAny_builtin PySem.F.entry_min_loop ?_⟩
  rw [Around.under_plainId PySem.F.plain_min_loop _]
  show wpAny _ X.A.in1 (seqItems? (Value.ref _) >>= _) _ _ _
  refine wpAny_bind (wpAny_seqItems gS rfl ?_)
  show wpAny _ X.A.in1 (tryCatch (pyNext (Value.ref s.heap.objs.size)) _ >>= _) _ _ _
  refine wpAny_bind (wpAny_tryCatch (wk.item 0 _ _ _ (by rw [sz]; exact some1) ⟨⟨_, gI, rfl, rfl⟩, isL_stay st2 isL0⟩ fun v h1 tk1 pv it1 kk => ?_))
  obtain ⟨a1, ev1, rfl⟩ : ∃ a1, as[0]? = some a1 ∧ v = Value.ref a1 := by
    have z : (as.map Value.ref)[0]? = some v := by simpa using pv
    rw [List.getElem?_map] at z
    obtain ⟨a1, e1, e2⟩ := Option.map_eq_some_iff.mp z
    exact ⟨a1, e1, e2.symm⟩
  have kk' : ∀ b o, b ≠ s.heap.objs.size → g2.get? b = some o → h1.get? b = some o := fun b o nb e => kk b o (fun z => nb (List.mem_singleton.mp z)) e
  have L1 := L0.turn (t' := tk1) (.inl rfl) rI If kk'
  have gS1 := kk' _ _ SI gS
  obtain ⟨oI, gI1, cI, dI⟩ := it1.1
  obtain ⟨H1, inv1, φ1, nI1, nS1, nf1⟩ := L1.ex
  show wpAny _ X.A.in1 (tryCatch (holding [.ref a1] (call (Value.ref f) [.ref a1])) _ >>= _) _ _ _
  refine wpAny_bind (wpAny_tryCatch (wpAny_holding (wpAny_mono (key 0 a1 ev1 _ H1 inv1 φ1 nf1 L1.fn) (fun x s2 hx => ?_) (fun _ _ no => no.elim))))
  obtain ⟨⟨t2, rfl⟩, H2, inv2, φ2, un⟩ := hx
  have gS2 := un.keep _ _ gS1 nS1 rS.fr (by simp)
  have gI2 := un.keep _ _ gI1 nI1 rI.fr (by simp)
  have gf2 := un.keep f _ L1.fn nf1 nf (by simp)
  have L2' : InLp X pins σ Φ s.heap.objs.size (s.heap.objs.size + 1) f fo s2 := ⟨⟨H2, inv2, φ2, un.free _ _ gI1 nI1 (by simp), un.free _ _ gS1 nS1 (by simp), un.free f _ L1.fn nf1 (by simp)⟩, gf2⟩
  have u1 := Heap.SameBut.update s2.heap (s.heap.objs.size + 1) (Obj.mapSeq (fun _ => #[.ref a1, .int (kf 0) t2]))
  obtain ⟨c2, gS3⟩ : ∃ c2, (s2.heap.update (s.heap.objs.size + 1) (Obj.mapSeq fun _ => #[.ref a1, .int (kf 0) t2])).get? (s.heap.objs.size + 1) = some (seqObj "list" #[.ref a1, .int (kf 0) t2] c2) := ⟨_, get?_update_seq gS2 fun _ => _⟩
  show wpAny _ X.A.in1 (updateSeq (s.heap.objs.size + 1) (fun _ => #[.ref a1, .int (kf 0) t2]) >>= _) _ _ _
  refine wpAny_bind (wpAny_updateSeq gS2 rfl ?_)
  rw [nm]
  refine wpAny_pure ⟨plainId_quiet PySem.F.plain_min_loop _, minL_loop kf hh isL lI SI If Sf rI rS nf key (fun i a s' e low L => ?_) _ 0 0 _ a1 t2 c2 rfl some1 (L2'.turn (.inr rfl) rS Sf fun b o nb e => (u1.2 b nb).trans e) gS3 ⟨oI, (u1.2 _ SI.symm).trans gI2, cI, dI⟩ ev1 (Nat.le_refl _) fun n hn => ?_⟩
  · obtain ⟨H', inv', φ', _⟩ := L.ex
    exact fin i a s' H' e low inv' φ'
  · have e : n = 0 := by omega
    subst e
    exact ⟨Int.le_refl _, fun z => absurd z (Nat.lt_irrefl _)⟩
end

/-- all but what stands at P stays -/
abbrev ButAt (P : Addr) (H H' : Hp) : Prop := ∀ b o, b ≠ P → H b = some o → H' b = some o
/-- the lambda is made: nothing but its maker's table changes -/
theorem lam_make3 {X : Cx} {pins : List (Addr × Obj)} {σ : L2.St} {H : Hp} {s : Shared} {c P : Addr} {params : Arguments} {body : Expr} {scope : Scope} {pos : Pos} {E : Value → Shared → Prop} {Q : Value → Shared → Prop} (I : Inv X pins σ H s) (TB : LamX.TabB X.base X.mg c P) (hcode : X.env.code = .ref c)
    (tab : LamX.TabS H P (X.env.qual ++ "<lambda>")) (hdef : defaultsOf params X.env = ([], [])) (caps : ∀ y ∈ scope.names, y.2 = .free → ∃ c, X.env.cells.lookup y.1 = some c)
    (fin : ∀ (f c' : Addr) (pm ctv : Value) (H1 : Hp) (s' : Shared), Inv X pins σ H1 s' → ButAt P H H1 → LamX.TabS H1 P (X.env.qual ++ "<lambda>") →
      s'.heap.get? f = some (PySem.W.kla_obj "<lambda>" (X.env.qual ++ "<lambda>") params body scope (cloFrom X.env.cells scope.names []) pm c' ctv) → H1 f = none → f ∉ frs X.stack → H1 c' = some (LamX.CodeO c' (X.env.qual ++ "<lambda>")) → Q (.ref f) s') :
    wpAny (model X.prog X.w) X.A (eval (.Lambda params body scope pos) X.env) Q E s := by
  obtain ⟨ps, hP, tri, known⟩ := tab
  have raw : s.heap.get? P = some { cls := .none, data := .fields ps } := I.hok P _ hP
  have glob := I.mod.glob.keeps I.bk
  have code := TB.code.keeps I.bk
  have bm := TB.bm.keeps I.bk
  apply PySem.W.kla_eval hdef
  cases found : codeAmong pos ps.toList with
  | some cv =>
    obtain ⟨c', rfl, co⟩ := known pos cv found
    apply PySem.W.kla_makeFunctionHit (closure_ok caps) I.ok.glob glob hcode code raw tri found bm
    intro ctv h' tk keep size
    exact fin _ c' _ ctv H _ (I.kept fun b o e => Heap.get?_push_of_some _ (keep b o e)) (fun _ _ _ e => e) ⟨ps, hP, tri, known⟩ (Heap.get?_push_size _ rfl) (I.hok.fresh size) (RawA.of I size).fr co
  | none =>
    apply PySem.W.kla_makeFunction (closure_ok caps) I.ok.glob glob hcode code raw tri found TB.gP bm
    intro c' ctv h' tk ext old lt rec grown
    obtain ⟨_, oc, vs, t, e2, hoc, hd, hv⟩ := rec
    cases e2
    have size : s.heap.objs.size ≤ h'.objs.size := Nat.le_trans old (Nat.le_of_lt lt)
    have nC : H c' = none := I.hok.fresh old
    have PC : P ≠ c' := ne_of_none hP nC
    have J := LamX.inv_table (t' := tk) (more := #[rawInt pos.line, rawInt pos.col, .ref c']) (h' := h'.push (PySem.W.kla_obj "<lambda>" (X.env.qual ++ "<lambda>") params body scope (cloFrom X.env.cells scope.names []) ((X.mg "__name__").getD .none) c' ctv)) I hP
      (fun b o nb e => Heap.get?_push_of_some _ (ext b o nb e)) (Heap.get?_push_of_some _ grown) old ⟨oc, vs, t, Heap.get?_push_of_some _ hoc, hd, hv⟩
    have but : ButAt P H (upd (upd H P (.tbl (ps ++ #[rawInt pos.line, rawInt pos.col, .ref c']))) c' (LamX.CodeO c' (X.env.qual ++ "<lambda>"))) := fun b o nb e => by
      rw [upd_ne (ne_of_none e nC), upd_ne nb]
      exact e
    have asList : (ps ++ #[rawInt pos.line, rawInt pos.col, .ref c']).toList = ps.toList ++ [rawInt pos.line, rawInt pos.col, .ref c'] := by simp
    refine fin h'.objs.size c' _ ctv _ _ J but ⟨_, (upd_ne PC).trans upd_same, ?_, fun pos' cv hc => ?_⟩ (Heap.get?_push_size _ rfl) ?_ (RawA.of I size).fr upd_same
    · rw [asList]
      exact PySem.TriplesOk_snoc _ _ _ _ tri
    · rw [asList] at hc
      rcases LamX.among_app _ tri hc with z | z
      · obtain ⟨c0, q1, q2⟩ := known pos' cv z
        refine ⟨c0, q1, but _ _ (fun w => ?_) q2⟩
        rw [w, hP] at q2
        exact LamX.codeO_ne ps (Option.some.inj q2).symm
      · exact ⟨c', z, upd_same⟩
    · rw [upd_ne (Nat.ne_of_gt lt), upd_ne (Nat.ne_of_gt (Nat.lt_of_lt_of_le (Heap.lt_size raw) size))]
      exact I.hok.fresh size
/-- min(xs, key=lambda par: body), xs a list of objects; body makes ints and changes nothing that stands -/
def tMinLam (P : Addr) (q : Str) (i : Nat) (ta : TA) (tb : TE) : TE := fun σ H Q => ta σ H fun vs H1 => ∃ (a : Addr) (as : List Addr) (kf : Nat → Int) (cv : V), vs = [.ref a] ∧ H1 a = some (.lst (as.map V.ref)) ∧ 0 < as.length ∧ LamX.TabS H1 P q ∧ σ[i]? = some (some cv) ∧
  ∀ H2, ButAt P H1 H2 → LamX.TabS H2 P q → (∀ (j : Nat) (b : Addr) (H' : Hp), as[j]? = some b → Same H2 H' → tb [some cv, some (.ref b)] H' fun v H'' => v = .int (kf j) ∧ Same H' H'') ∧
    ∀ (j : Nat) (b : Addr) (H' : Hp), as[j]? = some b → Lowest kf as.length j → Same H2 H' → Q (.ref b) H'
theorem vals_refs : ∀ {as : List Addr} {us : List Value}, Vals (as.map V.ref) us → us = as.map Value.ref
  | [], _, .nil => rfl
  | a :: as, _, .cons r t => by
    cases r
    rw [vals_refs t] <;> rfl
theorem pe_minLam {X : Cx} {c P : Addr} {k : Nat} {e : Expr} {params : Arguments} {body : Expr} {scope : Scope} {cap par : Str} {p kp lpos pos : Pos} {ta : TA} {tb : TE} (i : Nat) (hc : X.calm = true) (hg : Gl X "min") (hm : X.mg "min" = none) (hr : Room (k + 2) X.A) (TB : LamX.TabB X.base X.mg c P) (hcode : X.env.code = .ref c)
    (L : Lam1 X.env.scope scope cap par) (hi : X.N[i]? = some cap) (hdef : defaultsOf params X.env = ([], []))
    (hbind : ∀ (q : Str) (cl : List (Str × Addr)) (pm cv ctv u : Value), bindArgs (PySem.W.kla_fn "<lambda>" q params body scope cl pm cv ctv) ⟨[u], []⟩ = pure [(par, u)]) (ha : PA X [e] ta)
    (hbody : ∀ (A : Around) (s : Shared) (H : Hp) (f c' : Addr), Room k (A.deeper (LamX.lamEnv X scope s.heap.objs.size f c')) → PE (lamCx1 X A s H scope cap par f c') body tb)
    (he : backTo pos (starEach [e] X.env) = (false, eval e X.env) :: backTo pos (starEach [] X.env) := by rfl) (hpl : (backTo pos (starEach [e] X.env)).any (·.1) = false := by rfl) :
    PE X (.Call (.Name "min" p) [e] [⟨some "key", .Lambda params body scope lpos, kp⟩] pos) (tMinLam P (X.env.qual ++ "<lambda>") i ta tb) := by
  refine ⟨fun pins s σ H Q I h => ?_⟩
  refine wpAny_Call_Name_kw (ld_blt (u := .builtin "min") I hg hm (by decide +kernel) ?_)
  refine PyProof.Rows.callWith_kw (thn (ha.run pos pins s σ H _ I h) fun us s1 ⟨vs, H1, I1, r1, q1⟩ => ?_) he hpl (by rfl) (by rfl)
  show wpAny _ _ (evalAll [(do let v ← eval (.Lambda params body scope lpos) X.env; standAt pos; pure v)]) _ _ s1
  obtain ⟨a, as, kf, cv, rfl, hl, pos1, tab, hσ, hq⟩ := q1
  rw [Vals.ref1 r1]
  refine wpAny_evalAll_cons (wpAny_bind (lam_make3 I1 TB hcode tab hdef (L.has I1.ok) fun f c' pm ctv H2 s2 I2 eN T2 hf hfn hfr hco => ?_))
  refine wpAny_bind (wpAny_standAt (wpAny_pure (wpAny_evalAll_nil ?_)))
  obtain ⟨k1, k2⟩ := hq H2 eN T2
  have hl2 : H2 a = some (.lst (as.map V.ref)) := eN _ _ (fun z => by
    obtain ⟨ps, h4, _⟩ := tab
    rw [z, h4] at hl
    cases hl) hl
  refine minL (Φ := fun H' => Same H2 H') (as := as) (f := f) (H := H2) kf I2 (Same.refl _) (I2.ok.hd hc) (fun s H inv φ => ?_) pos1 hf hfn hfr (fun j b eb s H inv φ hn hg => ?_) fun j b s H eb low inv φ => ⟨.ref b, H, inv, rfl, k2 j b H eb low φ⟩
  · obtain ⟨its, rv, isL, _⟩ := inv.list (SqL.of (φ _ _ hl2))
    rw [vals_refs rv] at isL
    exact isL.isList
  · refine wpAny_mono (lam_call1 (A := X.A.in1) (pv := .ref b) (u := .ref b) inv L hi hσ inv.ok.frames hr.in1 hg (φ _ _ hco) (hbind _ _ _ _ _ _) (fun hr' => hbody _ _ _ _ _ hr') rfl (k1 j b H eb φ)) (fun x s' hx => ?_) fun _ _ no => no
    obtain ⟨v, H', inv', rv, ⟨rfl, sm⟩, un⟩ := hx
    exact ⟨rv, H', inv', φ.trans sm, un⟩

/-! ### the end of a law row of the quiet kind whose program makes a lambda: its maker's table of code objects stands empty at the start -/
abbrev emptyTab : Obj := { cls := .none, data := .fields #[] }
/-- H tells the script and the table, nothing else -/
structure Start (P : Program) (w : World) (K : PySem.W.Frag) (h : Heap) (a T : Addr) (H : Hp) : Prop where
  tab : H T = some (.tbl #[])
  ok : HOk P w H h
  only : ∀ b u, H b = some u → (b = T ∧ u = .tbl #[]) ∨ (b = a ∧ K.lookup b = none ∧ ∃ o xs, u = .frz o (.lst xs))
theorem Start.untold {P : Program} {w : World} {K : PySem.W.Frag} {h : Heap} {a T : Addr} {H : Hp} (S : Start P w K h a T H) {b : Addr} (h1 : b ≠ T) (h2 : b ≠ a) : H b = none := by
  cases q : H b with
  | none => rfl
  | some u =>
    rcases S.only b u q with z | z
    · exact absurd z.1 h1
    · exact absurd z.1 h2
theorem quiet_lawT {P : Program} {w : World} {K : PySem.W.Frag} {mg mb : Str → Option Value} {k : Nat} {fa a c T : Addr} {fd : FuncData} {x : Str} {sp : Sp} {s₁ : Shared} {vs : List Value} {ns : List Int}
    (inK : K.In s₁.heap) (glob : s₁.heap.Ns mainGlobals mg) (blt : s₁.heap.Ns builtinsNs mb) (bltIs : ∀ y : Str, y ≠ "__name__" → mb y = bootBuiltins y) (lim : s₁.heap.NoLimit) (gens : s₁.gens = #[]) (mods : ∃ mm, s₁.heap.Ns sysModules mm)
    (tab : s₁.heap.get? T = some emptyTab) (noT : K.lookup T = none) (code : PySem.W.CodeHd s₁.heap c T)
    (bmain : ∃ (bm : Addr) (ob : Obj), mg "__builtins__" = some (.ref bm) ∧ bm ≠ builtinsNs ∧ s₁.heap.get? bm = some ob ∧ ob.cls = .type "module" ∧ ob.dict = some builtinsNs ∧ ob.data = .plain)
    (here : s₁.heap.get? a = some { cls := .type "list", data := .seq vs.toArray }) (whole : IntsAre vs ns) (few : ns.length ≤ sizeLine) (room : Room k callerA)
    (F : ∀ base : Heap, K.In base → base.Ns mainGlobals mg → (∃ mm, base.Ns sysModules mm) → LamX.TabB base mg c T → FnG P w K mg base k fa fd [x] sp) (bind : ∀ (s : Shared) (u : Value), BindsTo s fd ⟨[u], []⟩ [(x, u)])
    (want : ∀ H : Hp, H T = some (.tbl #[]) → SqL K H a (ns.map V.int) → sp [.ref a] H (fun v _ => v = .bl true) E0) :
    codeAny (model P w) callerA (.call (.ref fa) ⟨[.ref a], []⟩) (fun r s' => r = .ok (.ret (.bool true)) ∧ OldK s₁.heap s'.heap ∧ s'.os = s₁.os ∧ AllBare s'.gens) s₁ := by
  have rel := vals_ints whole
  have aT : a ≠ T := fun z => by
    have q := tab
    rw [← z, here] at q
    injection q with q
    exact nomatch congrArg Obj.data q
  have main : ∀ H : Hp, Start P w K s₁.heap a T H → SqL K H a (ns.map V.int) →
      codeAny (model P w) callerA (.call (.ref fa) ⟨[.ref a], []⟩) (fun r s' => r = .ok (.ret (.bool true)) ∧ OldK s₁.heap s'.heap ∧ s'.os = s₁.os ∧ AllBare s'.gens) s₁ := by
    intro H S sq
    -- what is neither a list nor a table's empty fields is not told
    have plainO : ∀ {b o}, s₁.heap.get? b = some o → (∀ ys n, o.data ≠ .seq ys n) → o.data ≠ .fields #[] → (hidT s₁.heap H).get? b = some o := fun {b o} e h1 h2 => hidT_get e (S.untold (fun z => by
        rw [z, tab] at e
        cases e
        exact h2 rfl) fun z => by
        rw [z, here] at e
        cases e
        exact h1 _ _ rfl)
    have ns1 : ∀ {b m}, s₁.heap.Ns b m → (hidT s₁.heap H).Ns b m := by
      rintro b m ⟨o, es, ep, e, d, r⟩
      refine ⟨o, es, ep, plainO e (fun ys n z => ?_) (fun z => ?_), d, r⟩
      · rw [d] at z
        cases z
      · rw [d] at z
        cases z
    have kIn : K.In (hidT s₁.heap H) := by
      intro b o e
      refine hidT_get (inK b o e) ?_
      cases q : H b with
      | none => rfl
      | some u =>
        rcases S.only b u q with z | z
        · rw [z.1, noT] at e
          cases e
        · rw [z.2.1] at e
          cases e
    have lim1 : (hidT s₁.heap H).NoLimit := by
      obtain ⟨mc, h1, h2⟩ := lim
      exact ⟨mc, ns1 h1, h2⟩
    have code1 : PySem.W.CodeHd (hidT s₁.heap H) c T := by
      obtain ⟨o, us, file, tf, flags, tg, inF, text, tt, e1, r1, r2, r3, rr⟩ := code
      refine ⟨o, us, file, tf, flags, tg, inF, text, tt, plainO e1 (fun ys n z => ?_) (fun z => ?_), r1, r2, r3, rr⟩
      · rw [r2] at z
        cases z
      · rw [r2] at z
        cases z
        cases r3
    have table : LamX.TabB (hidT s₁.heap H) mg c T := by
      refine ⟨code1, ?_, fun z => ?_⟩
      · obtain ⟨bm, ob, b1, b2, b3, b4, b5, b6⟩ := bmain
        refine ⟨bm, ob, b1, b2, fun z => ?_, fun z => ?_, plainO b3 (fun ys n z => ?_) (fun z => ?_), b4, b5, b6⟩
        · obtain ⟨o, es, ep, e, d, _⟩ := glob
          rw [z, e] at b3
          cases b3
          rw [d] at b6
          cases b6
        · rw [z, tab] at b3
          cases b3
          cases b6
        · rw [b6] at z
          cases z
        · rw [b6] at z
          cases z
      · obtain ⟨o, es, ep, e, d, _⟩ := glob
        rw [z, tab] at e
        cases e
        cases d
    have e0 : Env0 P w K mg (hidT s₁.heap H) callerA [] s₁ H := {
      frames := rfl, mod := ⟨kIn, ns1 glob, ⟨mb, ns1 blt, bltIs⟩, lim1⟩, bs := fun _ _ e => of_hidT e, bsz := Nat.le_of_eq (hidT_size _ _), funs := True.intro, frf := (fun _ hb => nomatch hb), hok := S.ok, bare := .of_eq gens }
    apply codeAny_mono ((F _ kIn (ns1 glob) (mods.elim fun mm h => ⟨mm, ns1 h⟩) table).go (us := [.ref a]) (vs := [.ref a]) room rfl e0 (bind s₁ _) (.cons rfl .nil) (want H S.tab sq))
    intro r s' hr
    match r, hr with
    | .error _, hr => exact hr.elim
    | .ok .next, hr => exact False.elim hr
    | .ok .brk, hr => exact False.elim hr
    | .ok .cont, hr => exact False.elim hr
    | .ok (.ret u), hr =>
      obtain ⟨v, H', os, bare, un, ok', rv, q⟩ := hr
      cases (show v = V.bl true from q)
      cases (show u = Value.bool true from rv)
      obtain ⟨more, grown⟩ := un.tbls T #[] S.tab
      have gT := ok' T _ grown
      have rest : ∀ b o, b ≠ T → s₁.heap.get? b = some o → s'.heap.get? b = some o := by
        intro b o nb e
        cases q : H b with
        | none => exact un.keep b o e q (fun z => nomatch z) (fun z => nomatch z)
        | some u =>
          rcases S.only b u q with z | ⟨_, _, ob, xs, rfl⟩
          · exact absurd z.1 nb
          · have e1 := (S.ok b _ q).1
            have e2 := (ok' b _ (un.frzs b ob _ q)).1
            rw [e] at e1
            cases e1
            exact e2
      refine ⟨rfl, ⟨fun b o e => ?_, fun b o e => ?_⟩, os, bare⟩
      · by_cases hb : b = T
        · subst hb
          rw [tab] at e
          cases e
          exact .inr (.inl ⟨(code.tab tab).isCodeTable, rfl, #[], more, rfl, gT⟩)
        · exact .inl (rest b o hb e)
      · by_cases hb : b = T
        · subst hb
          exact ⟨_, gT⟩
        · exact ⟨o, rest b o hb e⟩
  have small : (ns.map V.int).length ≤ sizeLine := by rw [List.length_map]; exact few
  cases known : K.lookup a with
  | some o =>
    have e := inK a o known
    rw [here] at e
    cases e
    have sz : vs.length ≤ sizeLine := by rw [← rel.length]; exact small
    have H0 : ∀ {b u}, (if b = T then some (HO.tbl #[]) else none) = some u → b = T ∧ u = .tbl #[] := by
      intro b u z
      by_cases hb : b = T
      · rw [if_pos hb] at z
        cases z
        exact ⟨hb, rfl⟩
      · rw [if_neg hb] at z
        cases z
    refine main (fun b => if b = T then some (.tbl #[]) else none) ⟨if_pos rfl, fun b u z => ?_, fun b u z => .inl (H0 z)⟩ (.inr ⟨_, vs.toArray, _, known, rfl, rfl, rfl, by simpa using sz, by simpa using rel⟩)
    obtain ⟨rfl, rfl⟩ := H0 z
    exact tab
  | none =>
    have H1 : ∀ {b u}, (if b = T then some (HO.tbl #[]) else if b = a then some (HO.frz { cls := .type "list", data := .seq vs.toArray } (.lst (ns.map V.int))) else none) = some u → (b = T ∧ u = .tbl #[]) ∨ (b = a ∧ u = HO.frz { cls := .type "list", data := .seq vs.toArray } (.lst (ns.map V.int))) := by
      intro b u z
      by_cases hb : b = T
      · rw [if_pos hb] at z
        cases z
        exact .inl ⟨hb, rfl⟩
      · rw [if_neg hb] at z
        by_cases hc : b = a
        · rw [if_pos hc] at z
          cases z
          exact .inr ⟨hc, rfl⟩
        · rw [if_neg hc] at z
          cases z
    refine main (fun b => if b = T then some (.tbl #[]) else if b = a then some (.frz { cls := .type "list", data := .seq vs.toArray } (.lst (ns.map V.int))) else none) ⟨if_pos rfl, fun b u z => ?_, fun b u z => ?_⟩ (.inl (.inr ⟨{ cls := .type "list", data := .seq vs.toArray }, (if_neg aT).trans (if_pos rfl)⟩))
    · rcases H1 z with ⟨rfl, rfl⟩ | ⟨rfl, rfl⟩
      · exact tab
      · exact ⟨here, small, vs, _, rel, here⟩
    · rcases H1 z with z | ⟨rfl, rfl⟩
      · exact .inl z
      · exact .inr ⟨rfl, known, _, _, rfl⟩
theorem quiet_walkT {l : PySem.W.OpenLaw} {n k : Nat} {q : Program} {loose : List Str} {XP : (Str → Option Value) → Heap → Prop} {YP : World → Heap → Prop} {d : DefRec} {K : Params → PySem.W.Frag} {x : Str}
    (noImport : importsNone q = true) (most : l.most = some n) (n2 : n ≤ sizeLine) (defaults : d.params.defaults = []) (room : Room k callerA) (hY : ∀ (w : World) (h : Heap), YP w h → (K w.params).In h)
    (F : ∀ (w : World) (mg : Str → Option Value) (fa : Addr) (h : Heap), (K w.params).In h → h.Ns mainGlobals mg → mg d.name = some (.ref fa) → (∀ (d' : DefRec) (y : Str) (c P : Addr), (recsOf q).find? (fun e => e.name == y) = some d' → PySem.W.tabIn (K w.params) y = some (c, P) → PySem.W.CodeHd h c P ∧ h.get? P = some emptyTab) →
      ∃ (fd : FuncData) (c T : Addr) (sp : Sp), PySem.W.CodeHd h c T ∧ h.get? T = some emptyTab ∧ (K w.params).lookup T = none ∧ (∀ (s : Shared) (u : Value), BindsTo s fd ⟨[u], []⟩ [(x, u)]) ∧
        (∀ (H : Hp) (a : Addr) (ns : List Int), ns.length ≤ n → H T = some (.tbl #[]) → SqL (K w.params) H a (ns.map V.int) → sp [.ref a] H (fun v _ => v = .bl true) E0) ∧
        ∀ base : Heap, (K w.params).In base → base.Ns mainGlobals mg → (∃ mm, base.Ns sysModules mm) → LamX.TabB base mg c T → FnG l.prog w (K w.params) mg base k fa fd [x] sp) :
    PySem.W.WalkO q loose XP YP l.row.toRowW d [] (fun f vs => PySem.call f vs) := by
  apply Att.attach_call most defaults
  intro w s₀ s₁ mg mb fa o pm cd doc a vs ns G Y ho hd hcd hmg hobj hints hlen hg
  obtain ⟨fd, c, T, sp, code, tab, noT, hb, want, hF⟩ := F w mg fa _ (hY w _ Y) G.T.g hmg fun d' y c P h1 h2 => PySem.W.tab_of G.T (hY w _ Y) h1 h2
  exact quiet_lawT (hY w _ Y) G.T.g G.T.b G.T.builtins G.T.nolimit hg ((G.T.seer noImport).mods.elim fun mm h => ⟨mm, h.1⟩) tab noT code G.T.bmain hobj hints (Nat.le_trans hlen n2) room hF hb fun H o1 s1 => want H a ns hlen o1 s1
theorem tabIn_of {K : PySem.W.Frag} {y : Str} {f cc T : Addr} {o1 p1 : Value} {o2 p2 : Option Addr} {fd : FuncData} {vs : Array Value} {o3 p3 : Array (Option Value)} (a : PySem.W.nsIn K mainGlobals y = some (some (.ref f))) (l : K.lookup f = some ⟨o1, o2, .func fd, o3⟩) (e : fd.code = .ref cc)
    (c : K.lookup cc = some ⟨p1, p2, .fields vs, p3⟩) (v : (vs[11]? : Option Value) = some (.ref T)) : PySem.W.tabIn K y = some (cc, T) := by
  unfold PySem.W.tabIn
  rw [a]
  simp only [l, e, c, v]
theorem endT {l : PySem.W.OpenLaw} {w : World} {K : PySem.W.Frag} {mg : Str → Option Value} {h : Heap} {q : Program} {k n : Nat} {fa : Addr} {x y : Str} {sp : Sp} {f cc T : Addr} {o1 p1 : Value} {o2 p2 : Option Addr} {fdm : FuncData} {vs : Array Value} {o3 p3 : Array (Option Value)}
    (tabOf : ∀ (d' : DefRec) (y : Str) (c P : Addr), (recsOf q).find? (fun e => e.name == y) = some d' → PySem.W.tabIn K y = some (c, P) → PySem.W.CodeHd h c P ∧ h.get? P = some emptyTab)
    (a : PySem.W.nsIn K mainGlobals y = some (some (.ref f))) (lk : K.lookup f = some ⟨o1, o2, .func fdm, o3⟩) (e : fdm.code = .ref cc) (c : K.lookup cc = some ⟨p1, p2, .fields vs, p3⟩) (v : (vs[11]? : Option Value) = some (.ref T))
    (there : ((recsOf q).find? fun e => e.name == y).isSome = true) (noT : (K.lookup T).isNone = true)
    (all : ∃ fd : FuncData, (∀ (s : Shared) (v : Value), BindsTo s fd ⟨[v], []⟩ [(x, v)]) ∧ ∀ base : Heap, K.In base → base.Ns mainGlobals mg → (∃ mm, base.Ns sysModules mm) → LamX.TabB base mg cc T → FnG l.prog w K mg base k fa fd [x] sp)
    (want : ∀ (H : Hp) (a : Addr) (ns : List Int), ns.length ≤ n → H T = some (.tbl #[]) → SqL K H a (ns.map V.int) → sp [.ref a] H (fun v _ => v = .bl true) E0) :
    ∃ (fd : FuncData) (c T : Addr) (sp : Sp), PySem.W.CodeHd h c T ∧ h.get? T = some emptyTab ∧ K.lookup T = none ∧ (∀ (s : Shared) (u : Value), BindsTo s fd ⟨[u], []⟩ [(x, u)]) ∧
        (∀ (H : Hp) (a : Addr) (ns : List Int), ns.length ≤ n → H T = some (.tbl #[]) → SqL K H a (ns.map V.int) → sp [.ref a] H (fun v _ => v = .bl true) E0) ∧
        ∀ base : Heap, K.In base → base.Ns mainGlobals mg → (∃ mm, base.Ns sysModules mm) → LamX.TabB base mg c T → FnG l.prog w K mg base k fa fd [x] sp := by
  obtain ⟨fd, b, F⟩ := all
  obtain ⟨d', hd⟩ := Option.isSome_iff_exists.mp there
  obtain ⟨code, tab⟩ := tabOf d' y cc T hd (tabIn_of a lk e c v)
  exact ⟨fd, cc, T, sp, code, tab, Option.isNone_iff_eq_none.mp noT, b, want, F⟩

/-! ### the def that makes a lambda: its code object, the table at P -/
abbrev TabH (base : Heap) (mg : Str → Option Value) (fd : FuncData) (P : Addr) : Prop := ∃ c, LamX.TabB base mg c P ∧ fd.code = .ref c
theorem okC {P : Program} {w : World} {K : PySem.W.Frag} {mg : Str → Option Value} {base : Heap} {x qual : Str} {st : Stmt} {f : Addr} {fd : FuncData} {N ps : List Str} {k : Nat} {sp : Sp} (F : Fun K x qual st f fd) (S : FnScope N ps (defScope st)) (len : ∀ vs H Q E, sp vs H Q E → vs.length = ps.length)
    (body : ∀ (cdv : Value), fd.code = cdv → ∀ (A : Around) (outer : List Env) (s : Shared) (H : Hp) (vs : List V) (Q : VK) (E : XK), Room k (A.deeper (envOfC qual (defScope st) s.heap.objs.size f cdv)) → sp vs H Q E →
      ∃ t, PSs (cxOf CX0 P w K mg base N qual (defScope st) f cdv A outer s H E).nox (defBody st) t ∧ t { nx := fun _ H' => Q .non H', rt := Q } (start N vs) H) : FnOk P w K mg base CX0 (k + 1) f fd ps sp := by
  obtain ⟨oc, od, kV, doc, pm, an, cdv, ct, osl, e, look, code⟩ := F.ex
  subst e
  refine fn_of look code S len fun A outer s H vs Q E room want => ?_
  obtain ⟨t, ht, hq⟩ := body cdv rfl A outer s H vs Q E room want
  exact ⟨t, ht.nox, hq⟩

def topS (i : Nat) : Stmt := PySem.Challenge.pw_fewspans_k25_solution_holds_judged.main.body.getD i (.Pass ⟨0, 0, 0, 0⟩)
abbrev s_depth_changes : Stmt := topS 1
abbrev N_depth_changes : List Str := ["intervals", "changes", "low", "high"]
theorem sc_depth_changes : FnScope N_depth_changes ["intervals"] (defScope s_depth_changes) := ⟨rfl, rfl, rfl, by decide +kernel, rfl, by decide +kernel, by decide +kernel⟩
abbrev s_find_blocks : Stmt := topS 2
abbrev N_find_blocks : List Str := ["intervals", "changes", "borders", "blocks", "depth", "low", "after"]
theorem sc_find_blocks : FnScope N_find_blocks ["intervals"] (defScope s_find_blocks) := ⟨rfl, rfl, rfl, by decide +kernel, rfl, by decide +kernel, by decide +kernel⟩
abbrev s_is_number : Stmt := topS 6
abbrev N_is_number : List Str := ["value"]
theorem sc_is_number : FnScope N_is_number ["value"] (defScope s_is_number) := ⟨rfl, rfl, rfl, by decide +kernel, rfl, by decide +kernel, by decide +kernel⟩
abbrev s_is_position : Stmt := topS 7
abbrev N_is_position : List Str := ["value"]
theorem sc_is_position : FnScope N_is_position ["value"] (defScope s_is_position) := ⟨rfl, rfl, rfl, by decide +kernel, rfl, by decide +kernel, by decide +kernel⟩
abbrev s_is_tuple_of : Stmt := topS 8
abbrev N_is_tuple_of : List Str := ["value", "length"]
theorem sc_is_tuple_of : FnScope N_is_tuple_of ["value", "length"] (defScope s_is_tuple_of) := ⟨rfl, rfl, rfl, by decide +kernel, rfl, by decide +kernel, by decide +kernel⟩
abbrev s_is_interval : Stmt := topS 9
abbrev N_is_interval : List Str := ["value", "low", "high"]
theorem sc_is_interval : FnScope N_is_interval ["value"] (defScope s_is_interval) := ⟨rfl, rfl, rfl, by decide +kernel, rfl, by decide +kernel, by decide +kernel⟩
abbrev s_is_ascending : Stmt := topS 10
abbrev N_is_ascending : List Str := ["value", "is_item", "item", "before"]
theorem sc_is_ascending : FnScope N_is_ascending ["value", "is_item"] (defScope s_is_ascending) := ⟨rfl, rfl, rfl, by decide +kernel, rfl, by decide +kernel, by decide +kernel⟩
abbrev s_has_position : Stmt := topS 11
abbrev N_has_position : List Str := ["interval", "position"]
theorem sc_has_position : FnScope N_has_position ["interval", "position"] (defScope s_has_position) := ⟨rfl, rfl, rfl, by decide +kernel, rfl, by decide +kernel, by decide +kernel⟩
abbrev s_contains : Stmt := topS 12
abbrev N_contains : List Str := ["outer", "inner"]
theorem sc_contains : FnScope N_contains ["outer", "inner"] (defScope s_contains) := ⟨rfl, rfl, rfl, by decide +kernel, rfl, by decide +kernel, by decide +kernel⟩
abbrev s_is_demand : Stmt := topS 14
abbrev N_is_demand : List Str := ["value", "position", "target"]
theorem sc_is_demand : FnScope N_is_demand ["value"] (defScope s_is_demand) := ⟨rfl, rfl, rfl, by decide +kernel, rfl, by decide +kernel, by decide +kernel⟩
abbrev s_serves : Stmt := topS 15
abbrev N_serves : List Str := ["piece", "demand", "position", "target"]
theorem sc_serves : FnScope N_serves ["piece", "demand"] (defScope s_serves) := ⟨rfl, rfl, rfl, by decide +kernel, rfl, by decide +kernel, by decide +kernel⟩
abbrev s_conflict : Stmt := topS 16
abbrev N_conflict : List Str := ["first", "second"]
theorem sc_conflict : FnScope N_conflict ["first", "second"] (defScope s_conflict) := ⟨rfl, rfl, rfl, by decide +kernel, rfl, by decide +kernel, by decide +kernel⟩
abbrev s_is_independent : Stmt := topS 17
abbrev N_is_independent : List Str := ["value", "item", "index", "first", "second"]
theorem sc_is_independent : FnScope N_is_independent ["value"] (defScope s_is_independent) := ⟨rfl, rfl, rfl, by decide +kernel, rfl, by decide +kernel, by decide +kernel⟩
abbrev s_demands_at_blocks : Stmt := topS 18
abbrev N_demands_at_blocks : List Str := ["targets", "blocks", "low", "high", "target"]
theorem sc_demands_at_blocks : FnScope N_demands_at_blocks ["targets", "blocks"] (defScope s_demands_at_blocks) := ⟨rfl, rfl, rfl, by decide +kernel, rfl, by decide +kernel, by decide +kernel⟩
abbrev s_is_open : Stmt := topS 19
abbrev N_is_open : List Str := ["pieces", "demand", "piece"]
theorem sc_is_open : FnScope N_is_open ["pieces", "demand"] (defScope s_is_open) := ⟨rfl, rfl, rfl, by decide +kernel, rfl, by decide +kernel, by decide +kernel⟩
abbrev s_open_demands : Stmt := topS 20
abbrev N_open_demands : List Str := ["targets", "pieces", "demands", "demand"]
theorem sc_open_demands : FnScope N_open_demands ["targets", "pieces"] (defScope s_open_demands) := ⟨rfl, rfl, rfl, by decide +kernel, rfl, by decide +kernel, by decide +kernel⟩
abbrev s_shadow_target : Stmt := topS 21
abbrev N_shadow_target : List Str := ["targets", "demand", "position", "whole", "target"]
theorem sc_shadow_target : FnScope N_shadow_target ["targets", "demand"] (defScope s_shadow_target) := ⟨rfl, rfl, rfl, by decide +kernel, rfl, by decide +kernel, by decide +kernel⟩
abbrev s_pieces_inside : Stmt := topS 26
abbrev N_pieces_inside : List Str := ["pieces", "target", "piece"]
theorem sc_pieces_inside : FnScope N_pieces_inside ["pieces", "target"] (defScope s_pieces_inside) := ⟨rfl, rfl, rfl, by decide +kernel, rfl, by decide +kernel, by decide +kernel⟩
abbrev s_first_gap : Stmt := topS 27
abbrev N_first_gap : List Str := ["pieces", "target", "position", "last", "low", "high"]
theorem sc_first_gap : FnScope N_first_gap ["pieces", "target"] (defScope s_first_gap) := ⟨rfl, rfl, rfl, by decide +kernel, rfl, by decide +kernel, by decide +kernel⟩
abbrev s_find_missing : Stmt := topS 28
abbrev N_find_missing : List Str := ["targets", "pieces", "target", "gap"]
theorem sc_find_missing : FnScope N_find_missing ["targets", "pieces"] (defScope s_find_missing) := ⟨rfl, rfl, rfl, by decide +kernel, rfl, by decide +kernel, by decide +kernel⟩
abbrev s_require_few_blocks : Stmt := topS 30
abbrev N_require_few_blocks : List Str := ["intervals"]
theorem sc_require_few_blocks : FnScope N_require_few_blocks ["intervals"] (defScope s_require_few_blocks) := ⟨rfl, rfl, rfl, by decide +kernel, rfl, by decide +kernel, by decide +kernel⟩
abbrev s_decisive_demands : Stmt := topS 31
abbrev N_decisive_demands : List Str := ["targets", "pieces", "demand"]
theorem sc_decisive_demands : FnScope N_decisive_demands ["targets", "pieces"] (defScope s_decisive_demands) := ⟨rfl, rfl, rfl, by decide +kernel, rfl, by decide +kernel, by decide +kernel⟩
abbrev s_largest_independent : Stmt := topS 32
abbrev N_largest_independent : List Str := ["demands", "first", "rest", "chosen", "demand", "position", "target"]
theorem sc_largest_independent : FnScope N_largest_independent ["demands"] (defScope s_largest_independent) := ⟨rfl, rfl, rfl, by decide +kernel, rfl, by decide +kernel, by decide +kernel⟩
abbrev s_unserved_demands : Stmt := topS 33
abbrev N_unserved_demands : List Str := ["demands", "piece", "demand"]
theorem sc_unserved_demands : FnScope N_unserved_demands ["demands", "piece"] (defScope s_unserved_demands) := ⟨rfl, rfl, rfl, by decide +kernel, rfl, by decide +kernel, by decide +kernel⟩
abbrev s_helpful_piece : Stmt := topS 34
abbrev N_helpful_piece : List Str := ["demands", "blocks", "pieces", "low", "end", "start", "high"]
theorem sc_helpful_piece : FnScope N_helpful_piece ["demands", "blocks"] (defScope s_helpful_piece) := ⟨rfl, rfl, rfl, by decide +kernel, rfl, by decide +kernel, by decide +kernel⟩
abbrev s_smallest_solution : Stmt := topS 35
abbrev N_smallest_solution : List Str := ["targets", "pieces", "blocks", "demands", "witnesses", "added", "piece"]
theorem sc_smallest_solution : FnScope N_smallest_solution ["targets", "pieces"] (defScope s_smallest_solution) := ⟨rfl, rfl, rfl, by decide +kernel, rfl, by decide +kernel, by decide +kernel⟩
abbrev s_solve : Stmt := topS 36
abbrev N_solve : List Str := ["targets", "pieces"]
theorem sc_solve : FnScope N_solve ["targets", "pieces"] (defScope s_solve) := ⟨rfl, rfl, rfl, by decide +kernel, rfl, by decide +kernel, by decide +kernel⟩
abbrev s_are_witnesses : Stmt := topS 37
abbrev N_are_witnesses : List Str := ["targets", "pieces", "value", "demand"]
theorem sc_are_witnesses : FnScope N_are_witnesses ["targets", "pieces", "value"] (defScope s_are_witnesses) := ⟨rfl, rfl, rfl, by decide +kernel, rfl, by decide +kernel, by decide +kernel⟩
abbrev s_solution_holds : Stmt := topS 38
abbrev N_solution_holds : List Str := ["targets", "pieces", "value", "added", "witnesses"]
theorem sc_solution_holds : FnScope N_solution_holds ["targets", "pieces", "value"] (defScope s_solution_holds) := ⟨rfl, rfl, rfl, by decide +kernel, rfl, by decide +kernel, by decide +kernel⟩
abbrev s_law_draws : Stmt := topS 40
abbrev N_law_draws : List Str := ["_law_script", "_law_cells", "_law_cell"]
theorem sc_law_draws : FnScope N_law_draws ["_law_script"] (defScope s_law_draws) := ⟨rfl, rfl, rfl, by decide +kernel, rfl, by decide +kernel, by decide +kernel⟩
abbrev s_law_next : Stmt := topS 41
abbrev N_law_next : List Str := ["_law_state", "_law_many", "_law_cells", "_law_count", "_law_rests", "_law_index", "_law_digit", "_law_mixed"]
theorem sc_law_next : FnScope N_law_next ["_law_state", "_law_many"] (defScope s_law_next) := ⟨rfl, rfl, rfl, by decide +kernel, rfl, by decide +kernel, by decide +kernel⟩
abbrev s_law_one : Stmt := topS 42
abbrev N_law_one : List Str := ["_law_state", "_law_items"]
theorem sc_law_one : FnScope N_law_one ["_law_state", "_law_items"] (defScope s_law_one) := ⟨rfl, rfl, rfl, by decide +kernel, rfl, by decide +kernel, by decide +kernel⟩
abbrev s_law_spans : Stmt := topS 43
abbrev N_law_spans : List Str := ["_law_state", "_law_width", "_law_many", "_law_found", "_law_k", "_law_low"]
theorem sc_law_spans : FnScope N_law_spans ["_law_state", "_law_width", "_law_many"] (defScope s_law_spans) := ⟨rfl, rfl, rfl, by decide +kernel, rfl, by decide +kernel, by decide +kernel⟩
abbrev s_law_targets : Stmt := topS 44
abbrev N_law_targets : List Str := ["_law_state", "_law_width", "_law_most", "_law_kind", "_law_size", "_law_found", "_law_low", "_law_high"]
theorem sc_law_targets : FnScope N_law_targets ["_law_state", "_law_width", "_law_most"] (defScope s_law_targets) := ⟨rfl, rfl, rfl, by decide +kernel, rfl, by decide +kernel, by decide +kernel⟩
abbrev s_law_covers : Stmt := topS 45
abbrev N_law_covers : List Str := ["_law_pieces", "_law_target", "_law_free", "_law_low", "_law_high"]
theorem sc_law_covers : FnScope N_law_covers ["_law_pieces", "_law_target"] (defScope s_law_covers) := ⟨rfl, rfl, rfl, by decide +kernel, rfl, by decide +kernel, by decide +kernel⟩
abbrev s_law_is_interval : Stmt := topS 46
abbrev N_law_is_interval : List Str := ["_law_value", "_law_one_here"]
theorem sc_law_is_interval : FnScope N_law_is_interval ["_law_value"] (defScope s_law_is_interval) := ⟨rfl, rfl, rfl, by decide +kernel, rfl, by decide +kernel, by decide +kernel⟩
abbrev s_law_is_demand : Stmt := topS 47
abbrev N_law_is_demand : List Str := ["_law_value", "_law_number"]
theorem sc_law_is_demand : FnScope N_law_is_demand ["_law_value"] (defScope s_law_is_demand) := ⟨rfl, rfl, rfl, by decide +kernel, rfl, by decide +kernel, by decide +kernel⟩
abbrev s_law_rising : Stmt := topS 48
abbrev N_law_rising : List Str := ["_law_values", "_law_k"]
theorem sc_law_rising : FnScope N_law_rising ["_law_values"] (defScope s_law_rising) := ⟨rfl, rfl, rfl, by decide +kernel, rfl, by decide +kernel, by decide +kernel⟩
abbrev s_law_served : Stmt := topS 49
abbrev N_law_served : List Str := ["_law_piece", "_law_demand", "_law_place", "_law_target"]
theorem sc_law_served : FnScope N_law_served ["_law_piece", "_law_demand"] (defScope s_law_served) := ⟨rfl, rfl, rfl, by decide +kernel, rfl, by decide +kernel, by decide +kernel⟩
abbrev s_law_clash : Stmt := topS 50
abbrev N_law_clash : List Str := ["_law_one_here", "_law_other", "_law_low", "_law_high"]
theorem sc_law_clash : FnScope N_law_clash ["_law_one_here", "_law_other"] (defScope s_law_clash) := ⟨rfl, rfl, rfl, by decide +kernel, rfl, by decide +kernel, by decide +kernel⟩
abbrev s_law_are_witnesses : Stmt := topS 51
abbrev N_law_are_witnesses : List Str := ["_law_targets_here", "_law_pieces", "_law_value", "_law_one_here", "_law_k", "_law_demand", "_law_other"]
theorem sc_law_are_witnesses : FnScope N_law_are_witnesses ["_law_targets_here", "_law_pieces", "_law_value"] (defScope s_law_are_witnesses) := ⟨rfl, rfl, rfl, by decide +kernel, rfl, by decide +kernel, by decide +kernel⟩
abbrev s_law_solved : Stmt := topS 52
abbrev N_law_solved : List Str := ["_law_targets_here", "_law_pieces", "_law_value", "_law_added", "_law_one_here", "_law_target"]
theorem sc_law_solved : FnScope N_law_solved ["_law_targets_here", "_law_pieces", "_law_value"] (defScope s_law_solved) := ⟨rfl, rfl, rfl, by decide +kernel, rfl, by decide +kernel, by decide +kernel⟩
abbrev s_law_bent : Stmt := topS 53
abbrev N_law_bent : List Str := ["_law_state", "_law_value", "_law_index", "_law_some"]
theorem sc_law_bent : FnScope N_law_bent ["_law_state", "_law_value"] (defScope s_law_bent) := ⟨rfl, rfl, rfl, by decide +kernel, rfl, by decide +kernel, by decide +kernel⟩
abbrev s_law : Stmt := topS 54
abbrev N_law : List Str := ["_law_script", "_law_state", "_law_turn", "_law_width", "_law_targets_here", "_law_pieces", "_law_own", "_law_more", "_law_values", "_law_k", "_law_bent_here", "_law_value", "_law_kept", "_law_found"]
theorem sc_law : FnScope N_law ["_law_script"] (defScope s_law) := ⟨rfl, rfl, rfl, by decide +kernel, rfl, by decide +kernel, by decide +kernel⟩
/-! ### the deck of three: the cells, how many draws, the rests of large cells -/
structure Dk3 (H : Hp) (d : Addr) (c : Addr × Addr) (n : Int) : Prop where
  ex : ∃ (xs ys : List Int), H d = some (.lst [.ref c.2, .int n, .ref c.1]) ∧ H c.2 = some (.lst (xs.map V.int)) ∧ H c.1 = some (.lst (ys.map V.int)) ∧ c.2 ≠ c.1 ∧ 0 < xs.length ∧ xs.length ≤ 64 ∧ ys.length = xs.length ∧ ∀ y ∈ ys, 0 ≤ y
theorem ints_ne {H : Hp} {d c e : Addr} {n : Int} {ys : List Int} (h1 : H d = some (.lst [.ref e, .int n, .ref c])) (h3 : H c = some (.lst (ys.map V.int))) : c ≠ d := by
  intro z
  subst z
  have q := h3.symm.trans h1
  match ys, q with
  | [], q => cases q
  | y :: r, q => cases q
def Kp3 (d : Addr) (c : Addr × Addr) (H H' : Hp) : Prop := ∀ b o, b ≠ d → b ≠ c.1 → H b = some o → H' b = some o
theorem Kp3.trans {d : Addr} {c : Addr × Addr} {H H1 H2 : Hp} (h1 : Kp3 d c H H1) (h2 : Kp3 d c H1 H2) : Kp3 d c H H2 := fun b o n1 n2 e => h2 b o n1 n2 (h1 b o n1 n2 e)
theorem Kp3.same {d : Addr} {c : Addr × Addr} {H H1 : Hp} (h : Same H H1) : Kp3 d c H H1 := fun b o _ _ e => h b o e
theorem Dk3.two {H : Hp} {d : Addr} {c : Addr × Addr} {n : Int} (h : Dk3 H d c n) : (∃ us, H d = some (.lst us)) ∧ (∃ us, H c.1 = some (.lst us)) ∧ ∃ us, H c.2 = some (.lst us) := by
  obtain ⟨xs, ys, h1, h2, h3, _⟩ := h.ex
  exact ⟨⟨_, h1⟩, ⟨_, h3⟩, _, h2⟩
theorem Kp3.none {d : Addr} {c : Addr × Addr} {H H' : Hp} (k : Kp3 d c H H') {n m : Int} (h : Dk3 H d c n) (h' : Dk3 H' d c m) {t : Addr} (e : H' t = none) : H t = none := by
  obtain ⟨⟨u1, e1⟩, ⟨u2, e2⟩, _⟩ := h'.two
  by_cases c1 : t = d
  · rw [c1, e1] at e
    cases e
  · by_cases c2 : t = c.1
    · rw [c2, e2] at e
      cases e
    · cases q : H t with
      | none => rfl
      | some o =>
        rw [k t o c1 c2 q] at e
        cases e
theorem Dk3.kept {H H' : Hp} {d : Addr} {c : Addr × Addr} {n : Int} (h : Dk3 H d c n) (s : Same H H') : Dk3 H' d c n :=
  let ⟨xs, ys, h1, h2, h3, r⟩ := h.ex
  ⟨xs, ys, s _ _ h1, s _ _ h2, s _ _ h3, r⟩
theorem Dk3.eq {H : Hp} {d : Addr} {c : Addr × Addr} {n m : Int} (h : Dk3 H d c n) (e : n = m) : Dk3 H d c m := e ▸ h
theorem same_new {H : Hp} {p : Addr} {o : HO} (h : H p = none) : Same H (upd H p o) := fun b x e => by
  rw [upd_ne (ne_of_none e h)]
  exact e
theorem cutTo (xs : List V) (j : Nat) : cutV xs none (some (j : Int)) = xs.take j := by
  unfold cutV
  rw [HT.sIx_none, show HT.sIx xs.length xs.length (some (j : Int)) = min j xs.length from HT.sIx_nat xs.length xs.length j]
  rw [Nat.sub_zero, List.drop_zero]
  rcases Nat.le_total j xs.length with h | h
  · rw [Nat.min_eq_left h]
  · rw [Nat.min_eq_right h, List.take_length, List.take_of_length_le h]
/-- p is no part of the deck -/
abbrev Off3 (d : Addr) (c : Addr × Addr) (p : Addr) : Prop := p ≠ d ∧ p ≠ c.1 ∧ p ≠ c.2
theorem Kp3.keep {d : Addr} {c : Addr × Addr} {H H' : Hp} (k : Kp3 d c H H') {a : Addr} {o : HO} (n1 : Off3 d c a) (h : H a = some o) : H' a = some o := k a o n1.1 n1.2.1 h
theorem Kp3.tup {d : Addr} {c : Addr × Addr} {n : Int} {H H' : Hp} (k : Kp3 d c H H') (dk : Dk3 H d c n) {a : Addr} {xs : List V} (h : H a = some (.tup xs)) : H' a = some (.tup xs) := by
  obtain ⟨⟨u1, e1⟩, ⟨u2, e2⟩, _⟩ := dk.two
  exact k a _ (ne_of h e1 (fun z => by cases z)) (ne_of h e2 (fun z => by cases z)) h
theorem Dk3.off {H : Hp} {d : Addr} {c : Addr × Addr} {n : Int} (h : Dk3 H d c n) {p : Addr} (e : H p = none) : Off3 d c p := by
  obtain ⟨⟨u1, e1⟩, ⟨u2, e2⟩, u3, e3⟩ := h.two
  exact ⟨(ne_of_none e1 e).symm, (ne_of_none e2 e).symm, (ne_of_none e3 e).symm⟩
theorem Dk3.upd {H : Hp} {d : Addr} {c : Addr × Addr} {n : Int} (h : Dk3 H d c n) {p : Addr} {o : HO} (off : Off3 d c p) : Dk3 (upd H p o) d c n := by
  obtain ⟨xs, ys, h1, h2, h3, r⟩ := h.ex
  exact ⟨xs, ys, by rw [upd_ne off.1.symm]; exact h1, by rw [upd_ne off.2.2.symm]; exact h2, by rw [upd_ne off.2.1.symm]; exact h3, r⟩
def mxI (i j : Int) : Int := if j > i then j else i
def mnI (i j : Int) : Int := if j < i then j else i
def sp3_law_draws (K : PySem.W.Frag) : Sp := fun vs H Q _ => ∃ (a : Addr) (ns : List Int), vs = [.ref a] ∧ SqL K H a (ns.map V.int) ∧ ns.length ≤ 63 ∧
  ∀ H' d c, Same H H' → H d = none → Dk3 H' d c 0 → Q (.ref d) H'
def sp3_law_next : Sp := fun vs H Q _ => ∃ (d : Addr) (c : Addr × Addr) (n lim : Int), vs = [.ref d, .int lim] ∧ Dk3 H d c n ∧ 0 ≤ n ∧ n < 1000000 ∧ 0 < lim ∧ lim < 2 ^ 63 ∧
  ∀ H' r, Kp3 d c H H' → Dk3 H' d c (n + 1) → 0 ≤ r → r < lim → Q (.int r) H'
section
structure Tx (K : PySem.W.Frag) (mg : Str → Option Value) (f_depth_changes f_find_blocks f_is_number f_is_position f_is_tuple_of f_is_interval f_is_ascending f_has_position f_contains f_is_demand f_serves f_conflict f_is_independent f_demands_at_blocks f_is_open f_open_demands f_shadow_target f_pieces_inside f_first_gap f_find_missing f_require_few_blocks f_decisive_demands f_largest_independent f_unserved_demands f_helpful_piece f_smallest_solution f_solve f_are_witnesses f_solution_holds f_law_draws f_law_next f_law_one f_law_spans f_law_targets f_law_covers f_law_is_interval f_law_is_demand f_law_rising f_law_served f_law_clash f_law_are_witnesses f_law_solved f_law_bent f_law : Addr) (d_depth_changes d_find_blocks d_is_number d_is_position d_is_tuple_of d_is_interval d_is_ascending d_has_position d_contains d_is_demand d_serves d_conflict d_is_independent d_demands_at_blocks d_is_open d_open_demands d_shadow_target d_pieces_inside d_first_gap d_find_missing d_require_few_blocks d_decisive_demands d_largest_independent d_unserved_demands d_helpful_piece d_smallest_solution d_solve d_are_witnesses d_solution_holds d_law_draws d_law_next d_law_one d_law_spans d_law_targets d_law_covers d_law_is_interval d_law_is_demand d_law_rising d_law_served d_law_clash d_law_are_witnesses d_law_solved d_law_bent d_law : FuncData) (t_LAST_POSITION t_MAX_BLOCKS : Tok) : Prop where
  F_depth_changes : Fun K "depth_changes" "depth_changes" s_depth_changes f_depth_changes d_depth_changes
  b_depth_changes : Binds K d_depth_changes ["intervals"] []
  g_depth_changes : mg "depth_changes" = some (.ref f_depth_changes)
  F_find_blocks : Fun K "find_blocks" "find_blocks" s_find_blocks f_find_blocks d_find_blocks
  b_find_blocks : Binds K d_find_blocks ["intervals"] []
  g_find_blocks : mg "find_blocks" = some (.ref f_find_blocks)
  F_is_number : Fun K "is_number" "is_number" s_is_number f_is_number d_is_number
  b_is_number : Binds K d_is_number ["value"] []
  g_is_number : mg "is_number" = some (.ref f_is_number)
  F_is_position : Fun K "is_position" "is_position" s_is_position f_is_position d_is_position
  b_is_position : Binds K d_is_position ["value"] []
  g_is_position : mg "is_position" = some (.ref f_is_position)
  F_is_tuple_of : Fun K "is_tuple_of" "is_tuple_of" s_is_tuple_of f_is_tuple_of d_is_tuple_of
  b_is_tuple_of : Binds K d_is_tuple_of ["value", "length"] []
  g_is_tuple_of : mg "is_tuple_of" = some (.ref f_is_tuple_of)
  F_is_interval : Fun K "is_interval" "is_interval" s_is_interval f_is_interval d_is_interval
  b_is_interval : Binds K d_is_interval ["value"] []
  g_is_interval : mg "is_interval" = some (.ref f_is_interval)
  F_is_ascending : Fun K "is_ascending" "is_ascending" s_is_ascending f_is_ascending d_is_ascending
  b_is_ascending : Binds K d_is_ascending ["value", "is_item"] []
  g_is_ascending : mg "is_ascending" = some (.ref f_is_ascending)
  F_has_position : Fun K "has_position" "has_position" s_has_position f_has_position d_has_position
  b_has_position : Binds K d_has_position ["interval", "position"] []
  g_has_position : mg "has_position" = some (.ref f_has_position)
  F_contains : Fun K "contains" "contains" s_contains f_contains d_contains
  b_contains : Binds K d_contains ["outer", "inner"] []
  g_contains : mg "contains" = some (.ref f_contains)
  F_is_demand : Fun K "is_demand" "is_demand" s_is_demand f_is_demand d_is_demand
  b_is_demand : Binds K d_is_demand ["value"] []
  g_is_demand : mg "is_demand" = some (.ref f_is_demand)
  F_serves : Fun K "serves" "serves" s_serves f_serves d_serves
  b_serves : Binds K d_serves ["piece", "demand"] []
  g_serves : mg "serves" = some (.ref f_serves)
  F_conflict : Fun K "conflict" "conflict" s_conflict f_conflict d_conflict
  b_conflict : Binds K d_conflict ["first", "second"] []
  g_conflict : mg "conflict" = some (.ref f_conflict)
  F_is_independent : Fun K "is_independent" "is_independent" s_is_independent f_is_independent d_is_independent
  b_is_independent : Binds K d_is_independent ["value"] []
  g_is_independent : mg "is_independent" = some (.ref f_is_independent)
  F_demands_at_blocks : Fun K "demands_at_blocks" "demands_at_blocks" s_demands_at_blocks f_demands_at_blocks d_demands_at_blocks
  b_demands_at_blocks : Binds K d_demands_at_blocks ["targets", "blocks"] []
  g_demands_at_blocks : mg "demands_at_blocks" = some (.ref f_demands_at_blocks)
  F_is_open : Fun K "is_open" "is_open" s_is_open f_is_open d_is_open
  b_is_open : Binds K d_is_open ["pieces", "demand"] []
  g_is_open : mg "is_open" = some (.ref f_is_open)
  F_open_demands : Fun K "open_demands" "open_demands" s_open_demands f_open_demands d_open_demands
  b_open_demands : Binds K d_open_demands ["targets", "pieces"] []
  g_open_demands : mg "open_demands" = some (.ref f_open_demands)
  F_shadow_target : Fun K "shadow_target" "shadow_target" s_shadow_target f_shadow_target d_shadow_target
  b_shadow_target : Binds K d_shadow_target ["targets", "demand"] []
  g_shadow_target : mg "shadow_target" = some (.ref f_shadow_target)
  F_pieces_inside : Fun K "pieces_inside" "pieces_inside" s_pieces_inside f_pieces_inside d_pieces_inside
  b_pieces_inside : Binds K d_pieces_inside ["pieces", "target"] []
  g_pieces_inside : mg "pieces_inside" = some (.ref f_pieces_inside)
  F_first_gap : Fun K "first_gap" "first_gap" s_first_gap f_first_gap d_first_gap
  b_first_gap : Binds K d_first_gap ["pieces", "target"] []
  g_first_gap : mg "first_gap" = some (.ref f_first_gap)
  F_find_missing : Fun K "find_missing" "find_missing" s_find_missing f_find_missing d_find_missing
  b_find_missing : Binds K d_find_missing ["targets", "pieces"] []
  g_find_missing : mg "find_missing" = some (.ref f_find_missing)
  F_require_few_blocks : Fun K "require_few_blocks" "require_few_blocks" s_require_few_blocks f_require_few_blocks d_require_few_blocks
  b_require_few_blocks : Binds K d_require_few_blocks ["intervals"] []
  g_require_few_blocks : mg "require_few_blocks" = some (.ref f_require_few_blocks)
  F_decisive_demands : Fun K "decisive_demands" "decisive_demands" s_decisive_demands f_decisive_demands d_decisive_demands
  b_decisive_demands : Binds K d_decisive_demands ["targets", "pieces"] []
  g_decisive_demands : mg "decisive_demands" = some (.ref f_decisive_demands)
  F_largest_independent : Fun K "largest_independent" "largest_independent" s_largest_independent f_largest_independent d_largest_independent
  b_largest_independent : Binds K d_largest_independent ["demands"] []
  g_largest_independent : mg "largest_independent" = some (.ref f_largest_independent)
  F_unserved_demands : Fun K "unserved_demands" "unserved_demands" s_unserved_demands f_unserved_demands d_unserved_demands
  b_unserved_demands : Binds K d_unserved_demands ["demands", "piece"] []
  g_unserved_demands : mg "unserved_demands" = some (.ref f_unserved_demands)
  F_helpful_piece : Fun K "helpful_piece" "helpful_piece" s_helpful_piece f_helpful_piece d_helpful_piece
  b_helpful_piece : Binds K d_helpful_piece ["demands", "blocks"] []
  g_helpful_piece : mg "helpful_piece" = some (.ref f_helpful_piece)
  F_smallest_solution : Fun K "smallest_solution" "smallest_solution" s_smallest_solution f_smallest_solution d_smallest_solution
  b_smallest_solution : Binds K d_smallest_solution ["targets", "pieces"] []
  g_smallest_solution : mg "smallest_solution" = some (.ref f_smallest_solution)
  F_solve : Fun K "solve" "solve" s_solve f_solve d_solve
  b_solve : Binds K d_solve ["targets", "pieces"] []
  g_solve : mg "solve" = some (.ref f_solve)
  F_are_witnesses : Fun K "are_witnesses" "are_witnesses" s_are_witnesses f_are_witnesses d_are_witnesses
  b_are_witnesses : Binds K d_are_witnesses ["targets", "pieces", "value"] []
  g_are_witnesses : mg "are_witnesses" = some (.ref f_are_witnesses)
  F_solution_holds : Fun K "solution_holds" "solution_holds" s_solution_holds f_solution_holds d_solution_holds
  b_solution_holds : Binds K d_solution_holds ["targets", "pieces", "value"] []
  g_solution_holds : mg "solution_holds" = some (.ref f_solution_holds)
  F_law_draws : Fun K "_law_draws" "_law_draws" s_law_draws f_law_draws d_law_draws
  b_law_draws : Binds K d_law_draws ["_law_script"] []
  g_law_draws : mg "_law_draws" = some (.ref f_law_draws)
  F_law_next : Fun K "_law_next" "_law_next" s_law_next f_law_next d_law_next
  b_law_next : Binds K d_law_next ["_law_state", "_law_many"] []
  g_law_next : mg "_law_next" = some (.ref f_law_next)
  F_law_one : Fun K "_law_one" "_law_one" s_law_one f_law_one d_law_one
  b_law_one : Binds K d_law_one ["_law_state", "_law_items"] []
  g_law_one : mg "_law_one" = some (.ref f_law_one)
  F_law_spans : Fun K "_law_spans" "_law_spans" s_law_spans f_law_spans d_law_spans
  b_law_spans : Binds K d_law_spans ["_law_state", "_law_width", "_law_many"] []
  g_law_spans : mg "_law_spans" = some (.ref f_law_spans)
  F_law_targets : Fun K "_law_targets" "_law_targets" s_law_targets f_law_targets d_law_targets
  b_law_targets : Binds K d_law_targets ["_law_state", "_law_width", "_law_most"] []
  g_law_targets : mg "_law_targets" = some (.ref f_law_targets)
  F_law_covers : Fun K "_law_covers" "_law_covers" s_law_covers f_law_covers d_law_covers
  b_law_covers : Binds K d_law_covers ["_law_pieces", "_law_target"] []
  g_law_covers : mg "_law_covers" = some (.ref f_law_covers)
  F_law_is_interval : Fun K "_law_is_interval" "_law_is_interval" s_law_is_interval f_law_is_interval d_law_is_interval
  b_law_is_interval : Binds K d_law_is_interval ["_law_value"] []
  g_law_is_interval : mg "_law_is_interval" = some (.ref f_law_is_interval)
  F_law_is_demand : Fun K "_law_is_demand" "_law_is_demand" s_law_is_demand f_law_is_demand d_law_is_demand
  b_law_is_demand : Binds K d_law_is_demand ["_law_value"] []
  g_law_is_demand : mg "_law_is_demand" = some (.ref f_law_is_demand)
  F_law_rising : Fun K "_law_rising" "_law_rising" s_law_rising f_law_rising d_law_rising
  b_law_rising : Binds K d_law_rising ["_law_values"] []
  g_law_rising : mg "_law_rising" = some (.ref f_law_rising)
  F_law_served : Fun K "_law_served" "_law_served" s_law_served f_law_served d_law_served
  b_law_served : Binds K d_law_served ["_law_piece", "_law_demand"] []
  g_law_served : mg "_law_served" = some (.ref f_law_served)
  F_law_clash : Fun K "_law_clash" "_law_clash" s_law_clash f_law_clash d_law_clash
  b_law_clash : Binds K d_law_clash ["_law_one_here", "_law_other"] []
  g_law_clash : mg "_law_clash" = some (.ref f_law_clash)
  F_law_are_witnesses : Fun K "_law_are_witnesses" "_law_are_witnesses" s_law_are_witnesses f_law_are_witnesses d_law_are_witnesses
  b_law_are_witnesses : Binds K d_law_are_witnesses ["_law_targets_here", "_law_pieces", "_law_value"] []
  g_law_are_witnesses : mg "_law_are_witnesses" = some (.ref f_law_are_witnesses)
  F_law_solved : Fun K "_law_solved" "_law_solved" s_law_solved f_law_solved d_law_solved
  b_law_solved : Binds K d_law_solved ["_law_targets_here", "_law_pieces", "_law_value"] []
  g_law_solved : mg "_law_solved" = some (.ref f_law_solved)
  F_law_bent : Fun K "_law_bent" "_law_bent" s_law_bent f_law_bent d_law_bent
  b_law_bent : Binds K d_law_bent ["_law_state", "_law_value"] []
  g_law_bent : mg "_law_bent" = some (.ref f_law_bent)
  F_law : Fun K "law" "law" s_law f_law d_law
  b_law : Binds K d_law ["_law_script"] []
  g_law : mg "law" = some (.ref f_law)
  c_LAST_POSITION : mg "LAST_POSITION" = some (.int 1000000000000 t_LAST_POSITION)
  c_MAX_BLOCKS : mg "MAX_BLOCKS" = some (.int 8 t_MAX_BLOCKS)
  z_abs : mg "abs" = none
  z_all : mg "all" = none
  z_any : mg "any" = none
  z_bool : mg "bool" = none
  z_enumerate : mg "enumerate" = none
  z_int : mg "int" = none
  z_isinstance : mg "isinstance" = none
  z_len : mg "len" = none
  z_list : mg "list" = none
  z_max : mg "max" = none
  z_min : mg "min" = none
  z_piece : mg "piece" = none
  z_range : mg "range" = none
  z_repr : mg "repr" = none
  z_set : mg "set" = none
  z_sorted : mg "sorted" = none
  z_tuple : mg "tuple" = none
  z_zip : mg "zip" = none
variable {P : Program} {w : World} {K : PySem.W.Frag} {mg : Str → Option Value} {base : Heap} {f_depth_changes f_find_blocks f_is_number f_is_position f_is_tuple_of f_is_interval f_is_ascending f_has_position f_contains f_is_demand f_serves f_conflict f_is_independent f_demands_at_blocks f_is_open f_open_demands f_shadow_target f_pieces_inside f_first_gap f_find_missing f_require_few_blocks f_decisive_demands f_largest_independent f_unserved_demands f_helpful_piece f_smallest_solution f_solve f_are_witnesses f_solution_holds f_law_draws f_law_next f_law_one f_law_spans f_law_targets f_law_covers f_law_is_interval f_law_is_demand f_law_rising f_law_served f_law_clash f_law_are_witnesses f_law_solved f_law_bent f_law : Addr} {d_depth_changes d_find_blocks d_is_number d_is_position d_is_tuple_of d_is_interval d_is_ascending d_has_position d_contains d_is_demand d_serves d_conflict d_is_independent d_demands_at_blocks d_is_open d_open_demands d_shadow_target d_pieces_inside d_first_gap d_find_missing d_require_few_blocks d_decisive_demands d_largest_independent d_unserved_demands d_helpful_piece d_smallest_solution d_solve d_are_witnesses d_solution_holds d_law_draws d_law_next d_law_one d_law_spans d_law_targets d_law_covers d_law_is_interval d_law_is_demand d_law_rising d_law_served d_law_clash d_law_are_witnesses d_law_solved d_law_bent d_law : FuncData} {t_LAST_POSITION t_MAX_BLOCKS : Tok} {pT : Addr}
abbrev TxA (K : PySem.W.Frag) (mg : Str → Option Value) (f_depth_changes f_find_blocks f_is_number f_is_position f_is_tuple_of f_is_interval f_is_ascending f_has_position f_contains f_is_demand f_serves f_conflict f_is_independent f_demands_at_blocks f_is_open f_open_demands f_shadow_target f_pieces_inside f_first_gap f_find_missing f_require_few_blocks f_decisive_demands f_largest_independent f_unserved_demands f_helpful_piece f_smallest_solution f_solve f_are_witnesses f_solution_holds f_law_draws f_law_next f_law_one f_law_spans f_law_targets f_law_covers f_law_is_interval f_law_is_demand f_law_rising f_law_served f_law_clash f_law_are_witnesses f_law_solved f_law_bent f_law : Addr) (d_depth_changes d_find_blocks d_is_number d_is_position d_is_tuple_of d_is_interval d_is_ascending d_has_position d_contains d_is_demand d_serves d_conflict d_is_independent d_demands_at_blocks d_is_open d_open_demands d_shadow_target d_pieces_inside d_first_gap d_find_missing d_require_few_blocks d_decisive_demands d_largest_independent d_unserved_demands d_helpful_piece d_smallest_solution d_solve d_are_witnesses d_solution_holds d_law_draws d_law_next d_law_one d_law_spans d_law_targets d_law_covers d_law_is_interval d_law_is_demand d_law_rising d_law_served d_law_clash d_law_are_witnesses d_law_solved d_law_bent d_law : FuncData) (t_LAST_POSITION t_MAX_BLOCKS : Tok) := Tx K mg f_depth_changes f_find_blocks f_is_number f_is_position f_is_tuple_of f_is_interval f_is_ascending f_has_position f_contains f_is_demand f_serves f_conflict f_is_independent f_demands_at_blocks f_is_open f_open_demands f_shadow_target f_pieces_inside f_first_gap f_find_missing f_require_few_blocks f_decisive_demands f_largest_independent f_unserved_demands f_helpful_piece f_smallest_solution f_solve f_are_witnesses f_solution_holds f_law_draws f_law_next f_law_one f_law_spans f_law_targets f_law_covers f_law_is_interval f_law_is_demand f_law_rising f_law_served f_law_clash f_law_are_witnesses f_law_solved f_law_bent f_law d_depth_changes d_find_blocks d_is_number d_is_position d_is_tuple_of d_is_interval d_is_ascending d_has_position d_contains d_is_demand d_serves d_conflict d_is_independent d_demands_at_blocks d_is_open d_open_demands d_shadow_target d_pieces_inside d_first_gap d_find_missing d_require_few_blocks d_decisive_demands d_largest_independent d_unserved_demands d_helpful_piece d_smallest_solution d_solve d_are_witnesses d_solution_holds d_law_draws d_law_next d_law_one d_law_spans d_law_targets d_law_covers d_law_is_interval d_law_is_demand d_law_rising d_law_served d_law_clash d_law_are_witnesses d_law_solved d_law_bent d_law t_LAST_POSITION t_MAX_BLOCKS
theorem ok3_law_draws (T : Tx K mg f_depth_changes f_find_blocks f_is_number f_is_position f_is_tuple_of f_is_interval f_is_ascending f_has_position f_contains f_is_demand f_serves f_conflict f_is_independent f_demands_at_blocks f_is_open f_open_demands f_shadow_target f_pieces_inside f_first_gap f_find_missing f_require_few_blocks f_decisive_demands f_largest_independent f_unserved_demands f_helpful_piece f_smallest_solution f_solve f_are_witnesses f_solution_holds f_law_draws f_law_next f_law_one f_law_spans f_law_targets f_law_covers f_law_is_interval f_law_is_demand f_law_rising f_law_served f_law_clash f_law_are_witnesses f_law_solved f_law_bent f_law d_depth_changes d_find_blocks d_is_number d_is_position d_is_tuple_of d_is_interval d_is_ascending d_has_position d_contains d_is_demand d_serves d_conflict d_is_independent d_demands_at_blocks d_is_open d_open_demands d_shadow_target d_pieces_inside d_first_gap d_find_missing d_require_few_blocks d_decisive_demands d_largest_independent d_unserved_demands d_helpful_piece d_smallest_solution d_solve d_are_witnesses d_solution_holds d_law_draws d_law_next d_law_one d_law_spans d_law_targets d_law_covers d_law_is_interval d_law_is_demand d_law_rising d_law_served d_law_clash d_law_are_witnesses d_law_solved d_law_bent d_law t_LAST_POSITION t_MAX_BLOCKS) : FnOk P w K mg base CX0 1 f_law_draws d_law_draws ["_law_script"] (sp3_law_draws K) := by
  refine T.F_law_draws.ok sc_law_draws (fun vs H Q E h => ?_) (fun cdv A outer s H vs Q E hr h => ?_)
  · obtain ⟨a, ns0, rfl, _⟩ := h
    rfl
  · obtain ⟨a, ns0, rfl, hS, hlen, q⟩ := h
    refine ⟨_, (pss_cons (ps_set (i := 1) sc_law_draws.nd rfl (Or.inl rfl) (pe_op op_cat (pe_lc (own := [("_law_cell", 2)]) (g := (gName 2)) (tt := tYes) (by rfl) sc_law_draws.nd (pi_list (pe_slice sl_list (pv 0) po_none (po_some pe_int))) (blkOk_by (own := [("_law_cell", 2)]) (N := N_law_draws) (sc := defScope s_law_draws) (by decide +kernel)) (fun _ _ _ _ _ => (pg_name (i := 2) sc_law_draws.nd rfl (Or.inl rfl))) (fun _ _ _ _ _ => pts_nil) (fun _ _ _ _ _ => (pe_callB call_abs (by rfl) T.z_abs (by decide +kernel) (pa_cons (pv 2) pa_nil)))) (pe_op op_rep (pe_lst (pa_cons pe_int pa_nil)) (pe_callTy call_int1 (by rfl) T.z_int (by decide +kernel) (pa_cons (pe_cmpR op_eq (pe_callB call_len_seq (by rfl) T.z_len PySem.boot_len (pa_cons (pv 0) pa_nil)) pe_int (nomark _)) pa_nil)))))
      (pss_one (ps_ret (pe_lst (pa_cons (pv 1) (pa_cons pe_int (pa_cons (pe_lc (own := [("_law_cell", 2)]) (g := (gName 2)) (tt := tYes) (by rfl) sc_law_draws.nd (pi_list (pv 1)) (blkOk_by (own := [("_law_cell", 2)]) (N := N_law_draws) (sc := defScope s_law_draws) (by decide +kernel)) (fun _ _ _ _ _ => (pg_name (i := 2) sc_law_draws.nd rfl (Or.inl rfl))) (fun _ _ _ _ _ => pts_nil) (fun _ _ _ _ _ => (pe_op op_mul (pv 2) (pe_callTy call_int1 (by rfl) T.z_int (by decide +kernel) (pa_cons (pe_cmpR op_ge (pv 2) (pe_op op_pow pe_int pe_int) (nomark _)) pa_nil))))) pa_nil))))))), ?_⟩
    refine ⟨.ref a, rfl, 63, rfl, a, ns0.map V.int, rfl, hS, fun p np => ?_⟩
    rw [show cutV (ns0.map V.int) none (some 63) = (ns0.take 63).map V.int by rw [List.map_take]; exact cutTo _ 63]
    have tk : ns0.take 63 = ns0 := List.take_of_length_le hlen
    rw [tk]
    have s1 := same_new (o := .lst (ns0.map V.int)) np
    have e1 := upd_same (H := H) (a := p) (o := .lst (ns0.map V.int))
    generalize upd H p (.lst (ns0.map V.int)) = H1 at *
    have hS1 := s1.seq hS
    refine ⟨p, rfl, ⟨_, SqL.of e1⟩, fun D nD => ?_⟩
    refine lc_list (K := K) (a := p) (xs := ns0.map V.int) (fun i H' => Same H1 H' ∧ H' D = some (.lst (((ns0.take i).map fun (x : Int) => if x < 0 then -x else x).map V.int))) ⟨same_new nD, upd_same⟩ (fun i H' _ h => SqL.of (h.1 _ _ e1)) ?_ ?_
    · rintro i x H' hi ⟨sm, eD⟩
      rw [List.getElem?_map] at hi
      obtain ⟨n, en, rfl⟩ := Option.map_eq_some_iff.mp hi
      refine ⟨rfl, .int n, rfl, n, rfl, _, eD, ?_, ?_, ?_⟩
      · have : (List.take i ns0).length ≤ ns0.length := List.length_take_le' i ns0
        simp only [List.length_map]
        exact small1000 (by omega)
      · intro b o e
        rw [upd_ne (ne_of_none e nD)]
        exact sm b o e
      · rw [upd_same, List.take_add_one, en]
        simp
    rintro H2 ⟨s2, eD⟩
    rw [List.length_map, List.take_length] at eD
    have s12 := s1.trans s2
    refine ⟨by show 1 ≤ sizeLine; decide, fun z nz => ?_⟩
    have s3 := same_new (o := .lst [.int 0]) nz
    have ez := upd_same (H := H2) (a := z) (o := .lst [.int 0])
    generalize upd H2 z (.lst [.int 0]) = H3 at *
    have s13 := s12.trans s3
    refine ⟨.ref a, rfl, a, _, rfl, .inl (s13.seq hS), rfl, .inr ⟨_, rfl, ?_⟩⟩
    obtain ⟨k, ek⟩ : ∃ k : Int, k = (if decide (V.int ((ns0.map V.int).length : Int) = V.int 0) = true then 1 else 0) := ⟨_, rfl⟩
    have ek2 : (k = 1 ∧ ns0.length = 0) ∨ (k = 0 ∧ 0 < ns0.length) := by
      rw [List.length_map] at ek
      by_cases c : ns0.length = 0
      · rw [if_pos (decide_eq_true (by rw [c]; rfl))] at ek
        exact .inl ⟨ek, c⟩
      · rw [if_neg (fun z => c (by have := of_decide_eq_true z; injection this with this; omega))] at ek
        exact .inr ⟨ek, by omega⟩
    rw [← ek]
    refine ⟨z, k, _, rfl, rfl, ez, by omega, by omega, by rw [show sizeLine = 16777216 by decide]; show 1 * _ ≤ _; omega, fun zz nzz => ?_⟩
    have s4 := same_new (o := .lst (List.replicate k.toNat [V.int 0]).flatten) nzz
    have ezz := upd_same (H := H3) (a := zz) (o := .lst (List.replicate k.toNat [V.int 0]).flatten)
    generalize upd H3 zz (.lst (List.replicate k.toNat [V.int 0]).flatten) = H4 at *
    obtain ⟨cs, ecs⟩ : ∃ cs : List Int, cs = ((ns0.map fun (x : Int) => if x < 0 then -x else x) ++ List.replicate k.toNat 0) := ⟨_, rfl⟩
    have elst : (ns0.map fun (x : Int) => if x < 0 then -x else x).map V.int ++ (List.replicate k.toNat [V.int 0]).flatten = cs.map V.int := by
      rw [ecs, List.map_append, List.map_replicate]
      rcases ek2 with ⟨e, _⟩ | ⟨e, _⟩ <;> rw [e] <;> rfl
    have lcs : 0 < cs.length ∧ cs.length ≤ 64 := by
      rw [ecs, List.length_append, List.length_map, List.length_replicate]
      omega
    have pcs : ∀ x ∈ cs, 0 ≤ x := fun x hx => by
      rw [ecs] at hx
      rcases List.mem_append.mp hx with hx | hx
      · obtain ⟨y, _, rfl⟩ := List.mem_map.mp hx
        split <;> omega
      · rw [(List.mem_replicate.mp hx).2]
        exact Int.le_refl _
    have s34 := s3.trans s4
    refine ⟨D, zz, _, _, rfl, rfl, s34 _ _ eD, ezz, ?_, fun e ne => ?_⟩
    · have := congrArg List.length elst
      rw [List.length_append, List.length_map (f := V.int)] at this
      rw [show sizeLine = 16777216 by decide]
      simp only [List.length_map] at *
      omega
    rw [elst]
    have s5 := same_new (o := .lst (cs.map V.int)) ne
    have ee := upd_same (H := H4) (a := e) (o := .lst (cs.map V.int))
    generalize upd H4 e (.lst (cs.map V.int)) = H5 at *
    have s05 := s12.trans (s34.trans s5)
    refine ⟨.ref e, rfl, .ref e, rfl, e, rfl, ⟨_, SqL.of ee⟩, fun c nc => ?_⟩
    refine lc_list (K := K) (a := e) (xs := cs.map V.int) (fun i H' => Same H5 H' ∧ ∃ ys : List Int, H' c = some (.lst (ys.map V.int)) ∧ ys.length = i ∧ ∀ y ∈ ys, 0 ≤ y) ⟨same_new nc, [], upd_same, rfl, fun y hy => nomatch hy⟩ (fun i H' _ h => SqL.of (h.1 _ _ ee)) ?_ ?_
    · rintro i x H' hi ⟨sm, ys, eC, ly, py⟩
      have il := (List.getElem?_eq_some_iff.mp hi).1
      rw [List.getElem?_map] at hi
      obtain ⟨n, en, rfl⟩ := Option.map_eq_some_iff.mp hi
      have pn := pcs n (List.mem_of_getElem? en)
      rw [List.length_map] at il
      refine ⟨rfl, .int n, rfl, .int n, rfl, 10, 18, rfl, rfl, ⟨by decide, by decide, by decide⟩, _, _, rfl, rfl, .inr ⟨_, rfl, ?_⟩⟩
      obtain ⟨k2, ek3, h0, h1⟩ : ∃ k2 : Int, (if decide ((10 : Int) ^ (18 : Int).toNat ≤ n) = true then 1 else 0) = k2 ∧ 0 ≤ k2 ∧ k2 ≤ 1 := ⟨_, rfl, by split <;> decide, by split <;> decide⟩
      rw [ek3]
      refine ⟨_, _, rfl, rfl, .inr ⟨by omega, by omega⟩, ys.map V.int, eC, by rw [List.length_map]; exact small1000 (by omega), (fun b u e => by rw [upd_ne (ne_of_none e nc)]; exact sm b u e), ys ++ [n * k2], ?_, by rw [List.length_append, ly]; rfl, fun y hy => ?_⟩
      · rw [upd_same, List.map_append]
        rfl
      · rcases List.mem_append.mp hy with hy | hy
        · exact py y hy
        · rw [List.mem_singleton.mp hy]
          exact Int.mul_nonneg pn h0
    rintro H6 ⟨s6, ys, eC, ly, py⟩
    rw [List.length_map] at ly
    refine ⟨by show 3 ≤ sizeLine; decide, fun d nd => ?_⟩
    have s7 := same_new (o := .lst [.ref e, .int 0, .ref c]) nd
    have s07 := s05.trans (s6.trans s7)
    refine q _ d (c, e) s07 ((s05.trans s6).free nd) ⟨cs, ys, upd_same, s7 _ _ (s6 _ _ ee), s7 _ _ eC, ne_of_none ee nc, lcs.1, lcs.2, ly, py⟩
theorem ok3_law_next (T : Tx K mg f_depth_changes f_find_blocks f_is_number f_is_position f_is_tuple_of f_is_interval f_is_ascending f_has_position f_contains f_is_demand f_serves f_conflict f_is_independent f_demands_at_blocks f_is_open f_open_demands f_shadow_target f_pieces_inside f_first_gap f_find_missing f_require_few_blocks f_decisive_demands f_largest_independent f_unserved_demands f_helpful_piece f_smallest_solution f_solve f_are_witnesses f_solution_holds f_law_draws f_law_next f_law_one f_law_spans f_law_targets f_law_covers f_law_is_interval f_law_is_demand f_law_rising f_law_served f_law_clash f_law_are_witnesses f_law_solved f_law_bent f_law d_depth_changes d_find_blocks d_is_number d_is_position d_is_tuple_of d_is_interval d_is_ascending d_has_position d_contains d_is_demand d_serves d_conflict d_is_independent d_demands_at_blocks d_is_open d_open_demands d_shadow_target d_pieces_inside d_first_gap d_find_missing d_require_few_blocks d_decisive_demands d_largest_independent d_unserved_demands d_helpful_piece d_smallest_solution d_solve d_are_witnesses d_solution_holds d_law_draws d_law_next d_law_one d_law_spans d_law_targets d_law_covers d_law_is_interval d_law_is_demand d_law_rising d_law_served d_law_clash d_law_are_witnesses d_law_solved d_law_bent d_law t_LAST_POSITION t_MAX_BLOCKS) : FnOk P w K mg base CX0 1 f_law_next d_law_next ["_law_state", "_law_many"] sp3_law_next := by
  refine T.F_law_next.ok sc_law_next (fun vs H Q E h => ?_) (fun cdv A outer s H vs Q E hr h => ?_)
  · obtain ⟨d, c, n, lim, rfl, _⟩ := h
    rfl
  · obtain ⟨d, c, n, lim, rfl, dk, n0, n1, l0, l1, q⟩ := h
    refine ⟨_, (pss_cons (ps_asg (pv 0) (pg_unl rfl (pgs_cons (pg_name (i := 2) sc_law_next.nd rfl (Or.inl rfl)) (pgs_cons (pg_name (i := 3) sc_law_next.nd rfl (Or.inl rfl)) (pgs_cons (pg_name (i := 4) sc_law_next.nd rfl (Or.inl rfl)) pgs_nil)))))
      (pss_cons (ps_set (i := 5) sc_law_next.nd rfl (Or.inl rfl) (pe_op op_mod (pv 3) (pe_callB call_len_seq (by rfl) T.z_len PySem.boot_len (pa_cons (pv 2) pa_nil))))
      (pss_cons (ps_asg (pe_op op_add (pv 3) pe_int) (pg_sub (pv 0) pe_int set_list))
      (pss_cons (ps_if (pt_cmpR op_gt (pe_ix ix_list (pv 4) (pv 5) (fun _ _ => rfl)) pe_int (nomark _))
      (pss_cons (ps_set (i := 6) sc_law_next.nd rfl (Or.inl rfl) (pe_op op_mod (pe_ix ix_list (pv 4) (pv 5) (fun _ _ => rfl)) (pv 1)))
      (pss_cons (ps_asg (pe_op op_fdivW (pe_ix ix_list (pv 4) (pv 5) (fun _ _ => rfl)) (pv 1)) (pg_sub (pv 4) (pv 5) set_list))
      (pss_one (ps_ret (pv 6)))))
      pss_nil)
      (pss_cons (ps_set (i := 7) sc_law_next.nd rfl (Or.inl rfl) (pe_op op_mod (pe_op op_pow (pe_op op_add (pe_op op_add (pe_op op_mod (pe_ix ix_list (pv 2) (pv 5) (fun _ _ => rfl)) pe_int) (pe_op op_mulW pe_int (pv 3))) pe_int) pe_int) pe_int))
      (pss_cons (ps_set (i := 7) sc_law_next.nd rfl (Or.inl rfl) (pe_op op_mod (pe_op op_pow (pe_op op_add (pe_op op_add (pv 7) (pe_op op_mulW (pe_op op_mulW pe_int (pv 3)) (pv 3))) pe_int) pe_int) pe_int))
      (pss_one (ps_ret (pe_op op_mod (pe_op op_fdivW (pe_op op_mod (pe_op op_mulW (pv 7) pe_int) pe_int) pe_int) (pv 1)))))))))), ?_⟩
    obtain ⟨xs, ys, h1, h2, h3, ec, x0, x64, ly, py⟩ := dk.ex
    have nd1 : c.1 ≠ d := ints_ne h1 h3
    have nd2 : c.2 ≠ d := fun z => by
      have q := (z ▸ h2).symm.trans h1
      match xs, q with
      | [], q => cases q
      | y :: r, q => cases q
    have n64 : n.natAbs < 2 ^ 64 := by omega
    have l64 : lim.natAbs < 2 ^ 64 := by omega
    refine ⟨.ref d, rfl, d, _, rfl, SqL.of h1, rfl, .ref c.2, _, rfl, .int n, _, rfl, .ref c.1, [], rfl, rfl, ?_⟩
    refine ⟨.int n, rfl, .ref c.2, rfl, c.2, _, rfl, .inl (SqL.of h2), _, _, rfl, rfl, by rw [List.length_map]; omega, ?_⟩
    rw [List.length_map]
    obtain ⟨j, ej, jl⟩ : ∃ j : Nat, n % (xs.length : Int) = j ∧ j < xs.length := ⟨(n % (xs.length : Int)).toNat, (Int.toNat_of_nonneg (Int.emod_nonneg _ (by omega))).symm, by
      have := Int.emod_lt_of_pos n (show (0 : Int) < xs.length by omega)
      have := Int.emod_nonneg n (show (xs.length : Int) ≠ 0 by omega)
      omega⟩
    show gName 5 (V.int (n % (xs.length : Int))) _ _ _
    rw [ej]
    have gx : (xs.map V.int)[j]? = some (.int xs[j]) := by rw [List.getElem?_map, List.getElem?_eq_getElem jl]; rfl
    have jl2 : j < ys.length := by omega
    have gy : (ys.map V.int)[j]? = some (.int ys[j]) := by rw [List.getElem?_map, List.getElem?_eq_getElem jl2]; rfl
    have yp := py _ (List.getElem_mem jl2)
    generalize ys[j] = y at *
    generalize xs[j] = x at *
    refine ⟨.int n, rfl, _, _, rfl, rfl, .ref d, rfl, d, _, 1, 1, rfl, rfl, h1, rfl, ?_⟩
    generalize eH : upd H d (.lst ([V.ref c.2, V.int n, V.ref c.1].set 1 (.int (n + 1)))) = H1
    have d1 : H1 d = some (.lst [.ref c.2, .int (n + 1), .ref c.1]) := by
      rw [← eH, upd_same]
      rfl
    have kp1 : Kp3 d c H H1 := fun b o nb _ e => by
      rw [← eH, upd_ne nb]
      exact e
    have a2 : H1 c.2 = some (.lst (xs.map V.int)) := by rw [← eH, upd_ne nd2]; exact h2
    have a3 : H1 c.1 = some (.lst (ys.map V.int)) := by rw [← eH, upd_ne nd1]; exact h3
    have dk1 : Dk3 H1 d c (n + 1) := ⟨xs, ys, d1, a2, a3, ec, x0, x64, ly, py⟩
    refine ⟨.ref c.1, rfl, .int j, rfl, c.1, _, _, .int y, rfl, rfl, SqL.of a3, atI_nat gy, _, _, rfl, rfl, _, rfl, ite2 (fun e => ?_) (fun e => ?_)⟩
    · refine ⟨.ref c.1, rfl, .int j, rfl, c.1, _, _, .int y, rfl, rfl, SqL.of a3, atI_nat gy, .int lim, rfl, _, _, rfl, rfl, l0, ?_⟩
      refine ⟨.ref c.1, rfl, .int j, rfl, c.1, _, _, .int y, rfl, rfl, SqL.of a3, atI_nat gy, .int lim, rfl, _, _, rfl, rfl, wide_div l0 l64 (by decide) (by decide), .ref c.1, rfl, .int j, rfl, c.1, _, _, j, rfl, rfl, a3, ?_, ?_⟩
      · unfold ixN
        rw [if_pos (by omega), if_pos (by rw [List.length_map]; omega)]
        rfl
      refine ⟨_, rfl, ?_⟩
      refine q _ _ (fun b o nb nc e => ?_) ⟨xs, ys.set j (y / lim), ?_, ?_, ?_, ec, x0, x64, by rw [List.length_set]; exact ly, fun z hz => ?_⟩ (Int.emod_nonneg _ (by omega)) (Int.emod_lt_of_pos _ l0)
      · rw [upd_ne nc]
        exact kp1 b o nb nc e
      · rw [upd_ne nd1.symm]
        exact d1
      · rw [upd_ne ec]
        exact a2
      · rw [upd_same, List.map_set]
      · rcases List.mem_or_eq_of_mem_set hz with hm | he
        · exact py z hm
        · rw [he]
          exact Int.ediv_nonneg yp (by omega)
    · refine ⟨.ref c.2, rfl, .int j, rfl, c.2, _, _, .int x, rfl, rfl, SqL.of a2, atI_nat gx, _, _, rfl, rfl, (by show (0 : Int) < 2147483629; decide), .int n, rfl, _, _, rfl, rfl, wide_mul (a := 17) (b := 64) (by decide) n64 (by decide) (by decide) (by decide), _, _, rfl, rfl, _, _, rfl, rfl, _, _, rfl, rfl, ⟨by decide, by decide, ?_⟩, _, _, rfl, rfl, (by show (0 : Int) < 2147483587; decide), ?_⟩
      · have a0 := Int.emod_nonneg x (show (2147483629 : Int) ≠ 0 by decide)
        have a1 := Int.emod_lt_of_pos x (show (0 : Int) < 2147483629 by decide)
        omega
      generalize (x % 2147483629 + 40009 * n + 6287) ^ (3 : Int).toNat = big
      have b0 := Int.emod_nonneg big (show (2147483587 : Int) ≠ 0 by decide)
      have b1 := Int.emod_lt_of_pos big (show (0 : Int) < 2147483587 by decide)
      have nn : (5003 * n * n).natAbs ≤ 5003 * 1000000 * 1000000 := by
        rw [Int.natAbs_mul, Int.natAbs_mul]
        exact Nat.mul_le_mul (Nat.mul_le_mul (by decide) (by omega)) (by omega)
      have nn0 : 0 ≤ 5003 * n * n := Int.mul_nonneg (Int.mul_nonneg (by decide) n0) n0
      refine ⟨_, rfl, .int n, rfl, _, _, rfl, rfl, wide_mul (a := 17) (b := 64) (by decide) n64 (by decide) (by decide) (by decide), .int n, rfl, _, _, rfl, rfl, wide_mul (a := 100) (b := 64) ?_ n64 (by decide) (by decide) (by decide), _, _, rfl, rfl, _, _, rfl, rfl, _, _, rfl, rfl, ⟨by decide, by decide, ?_⟩, _, _, rfl, rfl, (by show (0 : Int) < 2147483563; decide), ?_⟩
      · have : (5003 * n).natAbs ≤ 5003 * 1000000 := by
          rw [Int.natAbs_mul]
          exact Nat.mul_le_mul (by decide) (by omega)
        omega
      · omega
      generalize (big % 2147483587 + 5003 * n * n + 29) ^ (3 : Int).toNat = big2
      have c0 := Int.emod_nonneg big2 (show (2147483563 : Int) ≠ 0 by decide)
      have c1 := Int.emod_lt_of_pos big2 (show (0 : Int) < 2147483563 by decide)
      refine ⟨_, rfl, _, _, rfl, rfl, wide_mul (a := 40) (b := 18) (by show (big2 % 2147483563).natAbs < _; omega) (by decide) (by decide) (by decide) (by decide), _, _, rfl, rfl, (by show (0 : Int) < 2305843009213693951; decide), _, _, rfl, rfl, wide_div (b := 5) (by decide) (by decide) (by decide) (by decide), .int lim, rfl, _, _, rfl, rfl, l0, ?_⟩
      exact q _ _ kp1 dk1 (Int.emod_nonneg _ (by omega)) (Int.emod_lt_of_pos _ l0)
/-! ### the deck, and the table of code objects of the def that makes a lambda: c.1 the rests, c.2.1 the cells, c.2.2 the table -/
def qLam : Str := (envOfC (Str.ofString "helpful_piece") (defScope s_helpful_piece) 0 0 .none).qual ++ "<lambda>"
abbrev in3 (c : Addr × Addr × Addr) : Addr × Addr := (c.1, c.2.1)
structure Dk (H : Hp) (d : Addr) (c : Addr × Addr × Addr) (n : Int) : Prop where
  deck : Dk3 H d (in3 c) n
  tab : LamX.TabS H c.2.2 qLam
def Kp (d : Addr) (c : Addr × Addr × Addr) (H H' : Hp) : Prop := ∀ b o, b ≠ d → (b ≠ c.1 ∧ b ≠ c.2.2) → H b = some o → H' b = some o
theorem Kp.trans {d : Addr} {c : Addr × Addr × Addr} {H H1 H2 : Hp} (h1 : Kp d c H H1) (h2 : Kp d c H1 H2) : Kp d c H H2 := fun b o n1 n2 e => h2 b o n1 n2 (h1 b o n1 n2 e)
theorem Kp.same {d : Addr} {c : Addr × Addr × Addr} {H H1 : Hp} (h : Same H H1) : Kp d c H H1 := fun b o _ _ e => h b o e
theorem Dk.two {H : Hp} {d : Addr} {c : Addr × Addr × Addr} {n : Int} (h : Dk H d c n) : (∃ us, H d = some (.lst us)) ∧ (∃ us, H c.1 = some (.lst us)) ∧ (∃ us, H c.2.1 = some (.lst us)) ∧ ∃ ps, H c.2.2 = some (.tbl ps) := by
  obtain ⟨h1, h2, h3⟩ := h.deck.two
  obtain ⟨ps, h4, _⟩ := h.tab
  exact ⟨h1, h2, h3, ps, h4⟩
theorem Kp.none {d : Addr} {c : Addr × Addr × Addr} {H H' : Hp} (k : Kp d c H H') {n m : Int} (h : Dk H d c n) (h' : Dk H' d c m) {t : Addr} (e : H' t = none) : H t = none := by
  obtain ⟨⟨u1, e1⟩, ⟨u2, e2⟩, _, ps, e4⟩ := h'.two
  by_cases c1 : t = d
  · rw [c1, e1] at e
    cases e
  · by_cases c2 : t = c.1
    · rw [c2, e2] at e
      cases e
    · by_cases c4 : t = c.2.2
      · rw [c4, e4] at e
        cases e
      · cases q : H t with
        | none => rfl
        | some o =>
          rw [k t o c1 ⟨c2, c4⟩ q] at e
          cases e
theorem Dk.kept {H H' : Hp} {d : Addr} {c : Addr × Addr × Addr} {n : Int} (h : Dk H d c n) (s : Same H H') : Dk H' d c n := ⟨h.deck.kept s, h.tab.ext s⟩
theorem Dk.eq {H : Hp} {d : Addr} {c : Addr × Addr × Addr} {n m : Int} (h : Dk H d c n) (e : n = m) : Dk H d c m := e ▸ h
theorem Dk.but {H H' : Hp} {d : Addr} {c : Addr × Addr × Addr} {n : Int} (h : Dk H d c n) (k : ButAt c.2.2 H H') (t : LamX.TabS H' c.2.2 qLam) : Dk H' d c n := by
  obtain ⟨xs, ys, h1, h2, h3, r⟩ := h.deck.ex
  obtain ⟨ps, h4, _⟩ := h.tab
  have nt : ∀ {a : Addr} {ls : List V}, H a = some (.lst ls) → a ≠ c.2.2 := fun {a ls} e z => by
    rw [z, h4] at e
    cases e
  exact ⟨⟨xs, ys, k _ _ (nt h1) h1, k _ _ (nt h2) h2, k _ _ (nt h3) h3, r⟩, t⟩
/-- p is no part of the deck -/
abbrev Off (d : Addr) (c : Addr × Addr × Addr) (p : Addr) : Prop := p ≠ d ∧ (p ≠ c.1 ∧ p ≠ c.2.2) ∧ p ≠ c.2.1
theorem Kp.keep {d : Addr} {c : Addr × Addr × Addr} {H H' : Hp} (k : Kp d c H H') {a : Addr} {o : HO} (n1 : Off d c a) (h : H a = some o) : H' a = some o := k a o n1.1 n1.2.1 h
theorem Kp.tup {d : Addr} {c : Addr × Addr × Addr} {n : Int} {H H' : Hp} (k : Kp d c H H') (dk : Dk H d c n) {a : Addr} {xs : List V} (h : H a = some (.tup xs)) : H' a = some (.tup xs) := by
  obtain ⟨⟨u1, e1⟩, ⟨u2, e2⟩, _, ps, e4⟩ := dk.two
  exact k a _ (ne_of h e1 (fun z => by cases z)) ⟨ne_of h e2 (fun z => by cases z), ne_of h e4 (fun z => by cases z)⟩ h
theorem Dk.off {H : Hp} {d : Addr} {c : Addr × Addr × Addr} {n : Int} (h : Dk H d c n) {p : Addr} (e : H p = none) : Off d c p := by
  obtain ⟨⟨u1, e1⟩, ⟨u2, e2⟩, ⟨u3, e3⟩, ps, e4⟩ := h.two
  exact ⟨(ne_of_none e1 e).symm, ⟨(ne_of_none e2 e).symm, (ne_of_none e4 e).symm⟩, (ne_of_none e3 e).symm⟩
/-- p holds no code object -/
abbrev NoCode (H : Hp) (p : Addr) : Prop := ∀ q, H p ≠ some (LamX.CodeO p q)
theorem noCode_none {H : Hp} {p : Addr} (h : H p = none) : NoCode H p := fun q e => by
  rw [h] at e
  cases e
theorem noCode_lst {H : Hp} {p : Addr} {xs : List V} (h : H p = some (.lst xs)) : NoCode H p := fun q e => by
  rw [h] at e
  unfold LamX.CodeO at e
  cases e
theorem Dk.upd {H : Hp} {d : Addr} {c : Addr × Addr × Addr} {n : Int} (h : Dk H d c n) {p : Addr} {o : HO} (off : Off d c p) (nc : NoCode H p := by first | exact noCode_none (by assumption) | exact noCode_lst (by assumption)) : Dk (upd H p o) d c n := by
  refine ⟨h.deck.upd ⟨off.1, off.2.1.1, off.2.2⟩, ?_⟩
  obtain ⟨ps, h1, h2, h3⟩ := h.tab
  refine ⟨ps, by rw [upd_ne off.2.1.2.symm]; exact h1, h2, fun pos cv hc => ?_⟩
  obtain ⟨c', e1, e2⟩ := h3 pos cv hc
  refine ⟨c', e1, ?_⟩
  rw [upd_ne (fun z => ?_)]
  · exact e2
  · subst z
    exact nc _ e2
theorem TabS.kp3 {H H' : Hp} {d : Addr} {c : Addr × Addr} {n : Int} {P : Addr} {q : Str} (t : LamX.TabS H P q) (dk : Dk3 H d c n) (k : Kp3 d c H H') : LamX.TabS H' P q := by
  obtain ⟨⟨u1, e1⟩, ⟨u2, e2⟩, _⟩ := dk.two
  obtain ⟨ps, h1, h2, h3⟩ := t
  refine ⟨ps, k _ _ (ne_of h1 e1 (fun z => by cases z)) (ne_of h1 e2 (fun z => by cases z)) h1, h2, fun pos cv hc => ?_⟩
  obtain ⟨c', z1, z2⟩ := h3 pos cv hc
  exact ⟨c', z1, k _ _ (fun z => noCode_lst (z ▸ e1) _ z2) (fun z => noCode_lst (z ▸ e2) _ z2) z2⟩
def sp_law_draws (K : PySem.W.Frag) (pT : Addr) : Sp := fun vs H Q _ => ∃ (a : Addr) (ns : List Int), vs = [.ref a] ∧ SqL K H a (ns.map V.int) ∧ ns.length ≤ 63 ∧ LamX.TabS H pT qLam ∧
  ∀ H' d c, Same H H' → H d = none → c.2.2 = pT → Dk H' d c 0 → Q (.ref d) H'
def sp_law_next : Sp := fun vs H Q _ => ∃ (d : Addr) (c : Addr × Addr × Addr) (n lim : Int), vs = [.ref d, .int lim] ∧ Dk H d c n ∧ 0 ≤ n ∧ n < 1000000 ∧ 0 < lim ∧ lim < 2 ^ 63 ∧
  ∀ H' r, Kp d c H H' → Dk H' d c (n + 1) → 0 ≤ r → r < lim → Q (.int r) H'
theorem ok_law_draws (T : Tx K mg f_depth_changes f_find_blocks f_is_number f_is_position f_is_tuple_of f_is_interval f_is_ascending f_has_position f_contains f_is_demand f_serves f_conflict f_is_independent f_demands_at_blocks f_is_open f_open_demands f_shadow_target f_pieces_inside f_first_gap f_find_missing f_require_few_blocks f_decisive_demands f_largest_independent f_unserved_demands f_helpful_piece f_smallest_solution f_solve f_are_witnesses f_solution_holds f_law_draws f_law_next f_law_one f_law_spans f_law_targets f_law_covers f_law_is_interval f_law_is_demand f_law_rising f_law_served f_law_clash f_law_are_witnesses f_law_solved f_law_bent f_law d_depth_changes d_find_blocks d_is_number d_is_position d_is_tuple_of d_is_interval d_is_ascending d_has_position d_contains d_is_demand d_serves d_conflict d_is_independent d_demands_at_blocks d_is_open d_open_demands d_shadow_target d_pieces_inside d_first_gap d_find_missing d_require_few_blocks d_decisive_demands d_largest_independent d_unserved_demands d_helpful_piece d_smallest_solution d_solve d_are_witnesses d_solution_holds d_law_draws d_law_next d_law_one d_law_spans d_law_targets d_law_covers d_law_is_interval d_law_is_demand d_law_rising d_law_served d_law_clash d_law_are_witnesses d_law_solved d_law_bent d_law t_LAST_POSITION t_MAX_BLOCKS) : FnOk P w K mg base CX0 1 f_law_draws d_law_draws ["_law_script"] (sp_law_draws K pT) :=
  (ok3_law_draws T).imp fun vs H Q E h => by
    obtain ⟨a, ns, e, h1, h2, tab, q⟩ := h
    exact ⟨a, ns, e, h1, h2, fun H' d c s nd dk => q H' d (c.1, c.2, pT) s nd rfl ⟨dk, tab.ext s⟩⟩
theorem ok_law_next (T : Tx K mg f_depth_changes f_find_blocks f_is_number f_is_position f_is_tuple_of f_is_interval f_is_ascending f_has_position f_contains f_is_demand f_serves f_conflict f_is_independent f_demands_at_blocks f_is_open f_open_demands f_shadow_target f_pieces_inside f_first_gap f_find_missing f_require_few_blocks f_decisive_demands f_largest_independent f_unserved_demands f_helpful_piece f_smallest_solution f_solve f_are_witnesses f_solution_holds f_law_draws f_law_next f_law_one f_law_spans f_law_targets f_law_covers f_law_is_interval f_law_is_demand f_law_rising f_law_served f_law_clash f_law_are_witnesses f_law_solved f_law_bent f_law d_depth_changes d_find_blocks d_is_number d_is_position d_is_tuple_of d_is_interval d_is_ascending d_has_position d_contains d_is_demand d_serves d_conflict d_is_independent d_demands_at_blocks d_is_open d_open_demands d_shadow_target d_pieces_inside d_first_gap d_find_missing d_require_few_blocks d_decisive_demands d_largest_independent d_unserved_demands d_helpful_piece d_smallest_solution d_solve d_are_witnesses d_solution_holds d_law_draws d_law_next d_law_one d_law_spans d_law_targets d_law_covers d_law_is_interval d_law_is_demand d_law_rising d_law_served d_law_clash d_law_are_witnesses d_law_solved d_law_bent d_law t_LAST_POSITION t_MAX_BLOCKS) : FnOk P w K mg base CX0 1 f_law_next d_law_next ["_law_state", "_law_many"] sp_law_next :=
  (ok3_law_next T).imp fun vs H Q E h => by
    obtain ⟨d, c, n, lim, e, dk, h1, h2, h3, h4, q⟩ := h
    exact ⟨d, in3 c, n, lim, e, dk.deck, h1, h2, h3, h4, fun H' r kp dk' r0 r1 => q H' r (fun b o n1 n2 e => kp b o n1 n2.1 e) ⟨dk', TabS.kp3 dk.tab dk.deck kp⟩ r0 r1⟩

/-! ### what stays when the heap grows, or the deck is drawn from -/
theorem rd_same {H H' : Hp} (s : Same H H') {a : Addr} {u : HO} (h : Rd H a u) : Rd H' a u := by
  rcases h with h | ⟨o, h⟩
  · exact .inl (s _ _ h)
  · exact .inr ⟨o, s _ _ h⟩
theorem sqT_same {K : PySem.W.Frag} {H H' : Hp} (s : Same H H') {a : Addr} {xs : List V} (h : SqT K H a xs) : SqT K H' a xs := by
  rcases h with h | h
  · exact .inl (rd_same s h)
  · exact .inr h
theorem dp_same {K : PySem.W.Frag} {H H' : Hp} (s : Same H H') {v : V} {d : PyData} (h : Dp K H v d) : Dp K H' v d := by
  refine Dp.rec (K := K) (H := H) (motive_1 := fun v d _ => Dp K H' v d) (motive_2 := fun vs ds _ => DpAll K H' vs ds) .non (fun b => .bl b) (fun i => .int i) (fun x => .str x) (fun hs _ q => .lst (s.seq hs) q) (fun hs _ q => .tup (sqT_same s hs) q) .nil (fun _ _ a b => .cons a b) h
theorem dp2 {K : PySem.W.Frag} {H : Hp} {t : Addr} {x y : Int} (h : H t = some (.tup [.int x, .int y])) : Dp K H (.ref t) (.tuple [.int x, .int y]) := .tup (SqT.of h) (.cons (.int x) (.cons (.int y) .nil))
theorem sm2 {x y : Int} (h1 : x.natAbs < 10 ^ 30) (h2 : y.natAbs < 10 ^ 30) : Sm 202 1 (.tuple [.int x, .int y]) := by
  have h := Sm.tup (n := 100) (dp := 0) (ds := [.int x, .int y]) (fun d hd => by
    rcases List.mem_cons.mp hd with rfl | hd
    · exact Sm.int h1
    · rcases List.mem_cons.mp hd with rfl | hd
      · exact Sm.int h2
      · cases hd)
  exact h
/-- an interval, or None -/
def optD : Option (Int × Int) → PyData
  | none => .none
  | some (x, y) => .tuple [.int x, .int y]
def OV (H : Hp) (v : V) : Option (Int × Int) → Prop
  | none => v = .non
  | some (x, y) => ∃ t, v = .ref t ∧ H t = some (.tup [.int x, .int y])
theorem OV.same {H H' : Hp} (s : Same H H') {v : V} {o : Option (Int × Int)} (h : OV H v o) : OV H' v o := by
  match o, h with
  | none, h => exact h
  | some (x, y), h =>
    obtain ⟨t, e, z⟩ := h
    exact ⟨t, e, s _ _ z⟩
theorem OV.kp {d : Addr} {c : Addr × Addr × Addr} {n : Int} {H H' : Hp} (k : Kp d c H H') (dk : Dk H d c n) {v : V} {o : Option (Int × Int)} (h : OV H v o) : OV H' v o := by
  match o, h with
  | none, h => exact h
  | some (x, y), h =>
    obtain ⟨t, e, z⟩ := h
    exact ⟨t, e, k.tup dk z⟩
theorem OV.dp {K : PySem.W.Frag} {H : Hp} {v : V} {o : Option (Int × Int)} (h : OV H v o) : Dp K H v (optD o) := by
  match o, h with
  | none, h =>
    cases h
    exact .non
  | some (x, y), h =>
    obtain ⟨t, e, z⟩ := h
    subst e
    exact dp2 z

/-! ### rows of intervals -/
inductive Ivs (H : Hp) : List V → List (Int × Int) → Prop
  | nil : Ivs H [] []
  | cons {a : Addr} {x y : Int} {vs : List V} {ps : List (Int × Int)} : H a = some (.tup [.int x, .int y]) → Ivs H vs ps → Ivs H (.ref a :: vs) ((x, y) :: ps)
theorem Ivs.length {H : Hp} {vs : List V} {ps : List (Int × Int)} (h : Ivs H vs ps) : vs.length = ps.length := by
  induction h with
  | nil => rfl
  | cons _ _ ih => rw [List.length_cons, List.length_cons, ih]
theorem Ivs.same {H H' : Hp} (s : Same H H') {vs : List V} {ps : List (Int × Int)} (h : Ivs H vs ps) : Ivs H' vs ps := by
  induction h with
  | nil => exact .nil
  | cons e _ ih => exact .cons (s _ _ e) ih
theorem Ivs.kp {d : Addr} {c : Addr × Addr × Addr} {n : Int} {H H' : Hp} (k : Kp d c H H') (dk : Dk H d c n) {vs : List V} {ps : List (Int × Int)} (h : Ivs H vs ps) : Ivs H' vs ps := by
  induction h with
  | nil => exact .nil
  | cons e _ ih => exact .cons (k.tup dk e) ih
theorem Ivs.get {H : Hp} {vs : List V} {ps : List (Int × Int)} (h : Ivs H vs ps) : ∀ {i : Nat} {v : V}, vs[i]? = some v → ∃ a x y, v = .ref a ∧ ps[i]? = some (x, y) ∧ H a = some (.tup [.int x, .int y]) := by
  induction h with
  | nil =>
    intro i v e
    simp at e
  | cons e _ ih =>
    intro i v q
    cases i with
    | zero =>
      cases q
      exact ⟨_, _, _, rfl, rfl, e⟩
    | succ i => exact ih q
theorem Ivs.snoc {H : Hp} {vs : List V} {ps : List (Int × Int)} {a : Addr} {x y : Int} (h : Ivs H vs ps) (e : H a = some (.tup [.int x, .int y])) : Ivs H (vs ++ [.ref a]) (ps ++ [(x, y)]) := by
  induction h with
  | nil => exact .cons e .nil
  | cons z _ ih => exact .cons z ih
def pairD (p : Int × Int) : PyData := .tuple [.int p.1, .int p.2]
theorem Ivs.dp {K : PySem.W.Frag} {H : Hp} {vs : List V} {ps : List (Int × Int)} (h : Ivs H vs ps) : DpAll K H vs (ps.map pairD) := by
  induction h with
  | nil => exact .nil
  | cons e _ ih => exact .cons (dp2 e) ih

/-! ### comprehensions that change nothing but make new objects -/
/-- the tuples stay -/
def Tps (H H' : Hp) : Prop := ∀ b xs, H b = some (.tup xs) → H' b = some (.tup xs)
theorem Tps.refl (H : Hp) : Tps H H := fun _ _ e => e
theorem Tps.trans {H H1 H2 : Hp} (h : Tps H H1) (h2 : Tps H1 H2) : Tps H H2 := fun b xs e => h2 b xs (h b xs e)
theorem Tps.same {H H1 : Hp} (h : Same H H1) : Tps H H1 := fun b xs e => h b _ e
theorem Kp.tps {d : Addr} {c : Addr × Addr × Addr} {n : Int} {H H' : Hp} (k : Kp d c H H') (dk : Dk H d c n) : Tps H H' := fun _ _ e => k.tup dk e
theorem Tps.lst {H : Hp} {D : Addr} {ws vs : List V} (e : H D = some (.lst ws)) : Tps H (upd H D (.lst vs)) := fun b xs h => by
  rw [upd_ne (ne_of h e (fun z => by cases z))]
  exact h
theorem same_off {H0 H : Hp} {D : Addr} {o : HO} (n : H0 D = none) (s : Same H0 H) : Same H0 (upd H D o) := fun b u e => by
  rw [upd_ne (ne_of_none e n)]
  exact s b u e
theorem few_line {n : Nat} (h : n < 1000) : n < sizeLine := by
  rw [show sizeLine = 16777216 by decide]
  omega
theorem lcL {K : PySem.W.Frag} {a : Addr} {xs : List V} {g : TG} {tt : TT} {te : TE} {vs : List Nat} {σ : L2.St} {H1 : Hp} {D : Addr} {Qd : Hp → Prop} (R : Nat → Hp → List V → Prop) (nD : H1 D = none) (hl : ∀ H', Same H1 H' → SqL K H' a xs) (few : xs.length < 1000)
    (mono : ∀ i H' H'' ws, Tps H' H'' → R i H' ws → R i H'' ws) (len : ∀ i H' ws, R i H' ws → ws.length ≤ i) (r0 : ∀ H', R 0 H' [])
    (hs : ∀ i x H' (N : Hp → Prop) acc, xs[i]? = some x → Same H1 H' → H' D = some (.lst acc) → acc.length < sizeLine → R i H' acc → (∀ H'', Same H' H'' → R (i + 1) H'' acc → N H'') → (∀ H'' y, Same H' H'' → R (i + 1) H'' (acc ++ [y]) → ∃ acc', H'' D = some (.lst acc') ∧ acc'.length < sizeLine ∧ N (upd H'' D (.lst (acc' ++ [y])))) →
      g x (wipe σ vs) H' fun σ2 H2 => wipe σ2 vs = wipe σ vs ∧ tt σ2 H2 fun b H3 => if b = true then te σ2 H3 fun y H4 => ∃ acc, H4 D = some (.lst acc) ∧ acc.length < sizeLine ∧ N (upd H4 D (.lst (acc ++ [y]))) else N H3)
    (hd : ∀ H' ws, Same H1 H' → H' D = some (.lst ws) → R xs.length H' ws → Qd H') :
    ∃ W : Nat → Nat → Hp → Prop, (∃ m, W 0 m (upd H1 D (.lst []))) ∧ ∀ i m H, W i m H →
      ((Itl K a).stop i H ∧ Qd H) ∨ ((Itl K a).go i H ∧ ∃ Nx : Hp → Prop, (∀ H', Nx H' → ∃ m', m' < m ∧ W (i + 1) m' H') ∧ ∀ x H', (Itl K a).yld i H x H' → g x (wipe σ vs) H' fun σ2 H2 => wipe σ2 vs = wipe σ vs ∧ tt σ2 H2 fun b H3 =>
        if b = true then te σ2 H3 fun y H4 => ∃ acc, H4 D = some (.lst acc) ∧ acc.length < sizeLine ∧ Nx (upd H4 D (.lst (acc ++ [y]))) else Nx H3) := by
  refine lc_list (K := K) (a := a) (xs := xs) (fun i H' => Same H1 H' ∧ ∃ ws, H' D = some (.lst ws) ∧ R i H' ws) ⟨same_new nD, [], upd_same, r0 _⟩ (fun i H' _ h => hl H' h.1) ?_ ?_
  · rintro i x H' hi ⟨sm, ws, eD, r⟩
    have lt := (List.getElem?_eq_some_iff.mp hi).1
    have lw := len i H' ws r
    have sz : ws.length < sizeLine := few_line (by omega)
    refine hs i x H' _ ws hi sm eD sz r (fun H'' s r2 => ⟨sm.trans s, ws, s _ _ eD, r2⟩) (fun H'' y s r2 => ?_)
    exact ⟨ws, s _ _ eD, sz, same_off nD (sm.trans s), _, upd_same, mono _ _ _ _ (Tps.lst (s _ _ eD)) r2⟩
  · rintro H' ⟨sm, ws, eD, r⟩
    exact hd H' ws sm eD r
theorem lcT {K : PySem.W.Frag} {a : Addr} {xs : List V} {g : TG} {tt : TT} {te : TE} {vs : List Nat} {σ : L2.St} {H1 : Hp} {D : Addr} {Qd : Hp → Prop} (R : Nat → Hp → List V → Prop) (nD : H1 D = none) (hl : ∀ H', Same H1 H' → SqT K H' a xs) (few : xs.length < 1000)
    (mono : ∀ i H' H'' ws, Tps H' H'' → R i H' ws → R i H'' ws) (len : ∀ i H' ws, R i H' ws → ws.length ≤ i) (r0 : ∀ H', R 0 H' [])
    (hs : ∀ i x H' (N : Hp → Prop) acc, xs[i]? = some x → Same H1 H' → H' D = some (.lst acc) → acc.length < sizeLine → R i H' acc → (∀ H'', Same H' H'' → R (i + 1) H'' acc → N H'') → (∀ H'' y, Same H' H'' → R (i + 1) H'' (acc ++ [y]) → ∃ acc', H'' D = some (.lst acc') ∧ acc'.length < sizeLine ∧ N (upd H'' D (.lst (acc' ++ [y])))) →
      g x (wipe σ vs) H' fun σ2 H2 => wipe σ2 vs = wipe σ vs ∧ tt σ2 H2 fun b H3 => if b = true then te σ2 H3 fun y H4 => ∃ acc, H4 D = some (.lst acc) ∧ acc.length < sizeLine ∧ N (upd H4 D (.lst (acc ++ [y]))) else N H3)
    (hd : ∀ H' ws, Same H1 H' → H' D = some (.lst ws) → R xs.length H' ws → Qd H') :
    ∃ W : Nat → Nat → Hp → Prop, (∃ m, W 0 m (upd H1 D (.lst []))) ∧ ∀ i m H, W i m H →
      ((Itt K a).stop i H ∧ Qd H) ∨ ((Itt K a).go i H ∧ ∃ Nx : Hp → Prop, (∀ H', Nx H' → ∃ m', m' < m ∧ W (i + 1) m' H') ∧ ∀ x H', (Itt K a).yld i H x H' → g x (wipe σ vs) H' fun σ2 H2 => wipe σ2 vs = wipe σ vs ∧ tt σ2 H2 fun b H3 =>
        if b = true then te σ2 H3 fun y H4 => ∃ acc, H4 D = some (.lst acc) ∧ acc.length < sizeLine ∧ Nx (upd H4 D (.lst (acc ++ [y]))) else Nx H3) := by
  refine lc_tup (K := K) (a := a) (xs := xs) (fun i H' => Same H1 H' ∧ ∃ ws, H' D = some (.lst ws) ∧ R i H' ws) ⟨same_new nD, [], upd_same, r0 _⟩ (fun i H' _ h => hl H' h.1) ?_ ?_
  · rintro i x H' hi ⟨sm, ws, eD, r⟩
    have lt := (List.getElem?_eq_some_iff.mp hi).1
    have lw := len i H' ws r
    have sz : ws.length < sizeLine := few_line (by omega)
    refine hs i x H' _ ws hi sm eD sz r (fun H'' s r2 => ⟨sm.trans s, ws, s _ _ eD, r2⟩) (fun H'' y s r2 => ?_)
    exact ⟨ws, s _ _ eD, sz, same_off nD (sm.trans s), _, upd_same, mono _ _ _ _ (Tps.lst (s _ _ eD)) r2⟩
  · rintro H' ⟨sm, ws, eD, r⟩
    exact hd H' ws sm eD r
theorem map_filter_len {α : Type} {ns : List α} {p : α → Bool} {f : α → V} (i : Nat) : (((ns.take i).filter p).map f).length ≤ i := by
  rw [List.length_map]
  exact Nat.le_trans (List.length_filter_le _ _) (List.length_take_le _ _)
theorem take_filter {α : Type} {ns : List α} {i : Nat} {n : α} {p : α → Bool} (h : ns[i]? = some n) : (ns.take (i + 1)).filter p = (ns.take i).filter p ++ (if p n = true then [n] else []) := by
  rw [List.take_add_one, h, List.filter_append]
  congr 1
  show List.filter p [n] = _
  rw [List.filter_cons]
  split <;> rfl
theorem nodup_le {α : Type} [DecidableEq α] : ∀ {l m : List α}, l.Nodup → (∀ x ∈ l, x ∈ m) → l.length ≤ m.length
  | [], _, _, _ => Nat.zero_le _
  | a :: l, m, h, hs => by
    have hm := hs a List.mem_cons_self
    have h' := List.nodup_cons.mp h
    have ih := nodup_le (l := l) (m := m.erase a) h'.2 (fun x hx => (List.mem_erase_of_ne (fun e => h'.1 (by rw [← e]; exact hx))).mpr (hs x (List.mem_cons_of_mem _ hx)))
    rw [List.length_erase_of_mem hm] at ih
    have := List.length_pos_of_mem hm
    rw [List.length_cons]
    omega

/-! ### demands, and rows of them -/
structure Dm (H : Hp) (v : V) (p lo hi : Int) : Prop where
  ex : ∃ u t, v = .ref u ∧ H u = some (.tup [.int p, .ref t]) ∧ H t = some (.tup [.int lo, .int hi])
  low : lo ≤ p
  high : p ≤ hi
theorem Dm.tps {H H' : Hp} (s : Tps H H') {v : V} {p lo hi : Int} (h : Dm H v p lo hi) : Dm H' v p lo hi := by
  obtain ⟨u, t, rfl, e1, e2⟩ := h.ex
  exact ⟨⟨u, t, rfl, s _ _ e1, s _ _ e2⟩, h.low, h.high⟩
theorem Dm.same {H H' : Hp} (s : Same H H') {v : V} {p lo hi : Int} (h : Dm H v p lo hi) : Dm H' v p lo hi := h.tps (Tps.same s)
inductive Dms (H : Hp) : List V → List (Int × Int × Int) → Prop
  | nil : Dms H [] []
  | cons {v : V} {p lo hi : Int} {vs : List V} {ds : List (Int × Int × Int)} : Dm H v p lo hi → Dms H vs ds → Dms H (v :: vs) ((p, lo, hi) :: ds)
theorem Dms.length {H : Hp} {vs : List V} {ds : List (Int × Int × Int)} (h : Dms H vs ds) : vs.length = ds.length := by
  induction h with
  | nil => rfl
  | cons _ _ ih => rw [List.length_cons, List.length_cons, ih]
theorem Dms.tps {H H' : Hp} (s : Tps H H') {vs : List V} {ds : List (Int × Int × Int)} (h : Dms H vs ds) : Dms H' vs ds := by
  induction h with
  | nil => exact .nil
  | cons e _ ih => exact .cons (e.tps s) ih
theorem Dms.same {H H' : Hp} (s : Same H H') {vs : List V} {ds : List (Int × Int × Int)} (h : Dms H vs ds) : Dms H' vs ds := h.tps (Tps.same s)
theorem Dms.get {H : Hp} {vs : List V} {ds : List (Int × Int × Int)} (h : Dms H vs ds) : ∀ {i : Nat} {v : V}, vs[i]? = some v → ∃ p lo hi, ds[i]? = some (p, lo, hi) ∧ Dm H v p lo hi := by
  induction h with
  | nil =>
    intro i v e
    simp at e
  | cons e _ ih =>
    intro i v q
    cases i with
    | zero =>
      cases q
      exact ⟨_, _, _, rfl, e⟩
    | succ i => exact ih q
theorem Dms.append {H : Hp} {vs us : List V} {ds es : List (Int × Int × Int)} (h : Dms H vs ds) (h2 : Dms H us es) : Dms H (vs ++ us) (ds ++ es) := by
  induction h with
  | nil => exact h2
  | cons e _ ih => exact .cons e ih
theorem Dms.snoc {H : Hp} {vs : List V} {ds : List (Int × Int × Int)} {v : V} {p lo hi : Int} (h : Dms H vs ds) (e : Dm H v p lo hi) : Dms H (vs ++ [v]) (ds ++ [(p, lo, hi)]) := h.append (.cons e .nil)
theorem Dms.take {H : Hp} {vs : List V} {ds : List (Int × Int × Int)} (h : Dms H vs ds) : ∀ n : Nat, Dms H (vs.take n) (ds.take n) := by
  induction h with
  | nil =>
    intro n
    rw [List.take_nil, List.take_nil]
    exact .nil
  | cons e _ ih =>
    intro n
    cases n with
    | zero => exact .nil
    | succ n => exact .cons e (ih n)
theorem Dms.reverse {H : Hp} {vs : List V} {ds : List (Int × Int × Int)} (h : Dms H vs ds) : Dms H vs.reverse ds.reverse := by
  induction h with
  | nil => exact .nil
  | cons e _ ih =>
    rw [List.reverse_cons, List.reverse_cons]
    exact ih.snoc e
theorem Dms.isEmpty {H : Hp} {vs : List V} {ds : List (Int × Int × Int)} (h : Dms H vs ds) : vs.isEmpty = ds.isEmpty := by
  cases h <;> rfl
theorem Dms.ok {H : Hp} {vs : List V} {ds : List (Int × Int × Int)} (h : Dms H vs ds) : ∀ q ∈ ds, q.2.1 ≤ q.1 ∧ q.1 ≤ q.2.2 := by
  induction h with
  | nil =>
    intro q hq
    cases hq
  | cons e _ ih =>
    intro q hq
    rcases List.mem_cons.mp hq with rfl | hq
    · exact ⟨e.low, e.high⟩
    · exact ih q hq
/-! ### comprehensions over a range that draw -/
theorem lcK {d : Addr} {c : Addr × Addr × Addr} {n0 per : Int} {lo : Int} {n : Nat} {g : TG} {tt : TT} {te : TE} {vs : List Nat} {σ : L2.St} {H1 : Hp} {D : Addr} {Qd : Hp → Prop} (R : Nat → Hp → List V → Prop) (nD : H1 D = none) (dk : Dk H1 d c n0) (few : n < 1000)
    (mono : ∀ i H' H'' ws, Tps H' H'' → R i H' ws → R i H'' ws) (len : ∀ i H' ws, R i H' ws → ws.length ≤ i) (r0 : ∀ H', R 0 H' [])
    (hs : ∀ i H' (N : Hp → Prop) acc, i < n → Kp d c H1 H' → Dk H' d c (n0 + per * i) → H' D = some (.lst acc) → R i H' acc → (∀ H'' y, Kp d c H' H'' → Dk H'' d c (n0 + per * i + per) → R (i + 1) H'' (acc ++ [y]) → ∃ acc', H'' D = some (.lst acc') ∧ acc'.length < sizeLine ∧ N (upd H'' D (.lst (acc' ++ [y])))) →
      g (.int (lo + i)) (wipe σ vs) H' fun σ2 H2 => wipe σ2 vs = wipe σ vs ∧ tt σ2 H2 fun b H3 => if b = true then te σ2 H3 fun y H4 => ∃ acc, H4 D = some (.lst acc) ∧ acc.length < sizeLine ∧ N (upd H4 D (.lst (acc ++ [y]))) else N H3)
    (hd : ∀ H' ws, Kp d c H1 H' → Dk H' d c (n0 + per * n) → H' D = some (.lst ws) → R n H' ws → Qd H') :
    ∃ W : Nat → Nat → Hp → Prop, (∃ m, W 0 m (upd H1 D (.lst []))) ∧ ∀ i m H, W i m H →
      ((Itr lo n).stop i H ∧ Qd H) ∨ ((Itr lo n).go i H ∧ ∃ Nx : Hp → Prop, (∀ H', Nx H' → ∃ m', m' < m ∧ W (i + 1) m' H') ∧ ∀ x H', (Itr lo n).yld i H x H' → g x (wipe σ vs) H' fun σ2 H2 => wipe σ2 vs = wipe σ vs ∧ tt σ2 H2 fun b H3 =>
        if b = true then te σ2 H3 fun y H4 => ∃ acc, H4 D = some (.lst acc) ∧ acc.length < sizeLine ∧ Nx (upd H4 D (.lst (acc ++ [y]))) else Nx H3) := by
  have off := dk.off nD
  refine lc_range (lo := lo) (n := n) (fun i H' => Kp d c H1 H' ∧ Dk H' d c (n0 + per * i) ∧ ∃ ws, H' D = some (.lst ws) ∧ R i H' ws) ⟨Kp.same (same_new nD), (dk.upd off).eq (by simp), [], upd_same, r0 _⟩ ?_ ?_
  · rintro i H' hi ⟨kp, dk', ws, eD, r⟩
    have lw := len i H' ws r
    have sz : ws.length < sizeLine := few_line (by omega)
    refine hs i H' _ ws hi kp dk' eD r (fun H'' y kp2 dk2 r2 => ?_)
    have eD2 := kp2.keep off eD
    refine ⟨ws, eD2, sz, fun b o n1 n2 e => ?_, (dk2.upd off).eq ?_, _, upd_same, mono _ _ _ _ (Tps.lst eD2) r2⟩
    · rw [upd_ne (ne_of_none e nD)]
      exact kp2 b o n1 n2 (kp b o n1 n2 e)
    · rw [Int.natCast_succ, Int.mul_add, Int.mul_one]
      omega
  · rintro H' ⟨kp, dk', ws, eD, r⟩
    exact hd H' ws kp dk' eD r

theorem Ivs.tps {H H' : Hp} (s : Tps H H') {vs : List V} {ps : List (Int × Int)} (h : Ivs H vs ps) : Ivs H' vs ps := by
  induction h with
  | nil => exact .nil
  | cons e _ ih => exact .cons (s _ _ e) ih
theorem Ivs.append {H : Hp} {vs us : List V} {ps qs : List (Int × Int)} (h : Ivs H vs ps) (h2 : Ivs H us qs) : Ivs H (vs ++ us) (ps ++ qs) := by
  induction h with
  | nil => exact h2
  | cons e _ ih => exact .cons e ih
theorem Ivs.isEmpty {H : Hp} {vs : List V} {ps : List (Int × Int)} (h : Ivs H vs ps) : vs.isEmpty = ps.isEmpty := by
  cases h <;> rfl

/-! ### the program: contains, has_position, serves -/
def inI (x y u v : Int) : Bool := decide (x ≤ u) && decide (v ≤ y)
def atP (x y p : Int) : Bool := decide (x ≤ p) && decide (p ≤ y)
def sp_contains : Sp := fun vs H Q _ => ∃ (a b : Addr) (x y u v : Int), vs = [.ref a, .ref b] ∧ H a = some (.tup [.int x, .int y]) ∧ H b = some (.tup [.int u, .int v]) ∧ Q (.bl (inI x y u v)) H
theorem ok_contains (T : Tx K mg f_depth_changes f_find_blocks f_is_number f_is_position f_is_tuple_of f_is_interval f_is_ascending f_has_position f_contains f_is_demand f_serves f_conflict f_is_independent f_demands_at_blocks f_is_open f_open_demands f_shadow_target f_pieces_inside f_first_gap f_find_missing f_require_few_blocks f_decisive_demands f_largest_independent f_unserved_demands f_helpful_piece f_smallest_solution f_solve f_are_witnesses f_solution_holds f_law_draws f_law_next f_law_one f_law_spans f_law_targets f_law_covers f_law_is_interval f_law_is_demand f_law_rising f_law_served f_law_clash f_law_are_witnesses f_law_solved f_law_bent f_law d_depth_changes d_find_blocks d_is_number d_is_position d_is_tuple_of d_is_interval d_is_ascending d_has_position d_contains d_is_demand d_serves d_conflict d_is_independent d_demands_at_blocks d_is_open d_open_demands d_shadow_target d_pieces_inside d_first_gap d_find_missing d_require_few_blocks d_decisive_demands d_largest_independent d_unserved_demands d_helpful_piece d_smallest_solution d_solve d_are_witnesses d_solution_holds d_law_draws d_law_next d_law_one d_law_spans d_law_targets d_law_covers d_law_is_interval d_law_is_demand d_law_rising d_law_served d_law_clash d_law_are_witnesses d_law_solved d_law_bent d_law t_LAST_POSITION t_MAX_BLOCKS) : FnOk P w K mg base CX0 1 f_contains d_contains ["outer", "inner"] sp_contains := by
  refine T.F_contains.ok sc_contains (fun vs H Q E h => ?_) (fun cdv A outer s H vs Q E hr h => ?_)
  · obtain ⟨a, b, x, y, u, v, rfl, _⟩ := h
    rfl
  · obtain ⟨a, b, x, y, u, v, rfl, ha, hb, q⟩ := h
    refine ⟨_, (pss_one (ps_ret (pe_and (pe_cmpR op_le (pe_ix ix_tup (pv 0) pe_int (fun _ _ => rfl)) (pe_ix ix_tup (pv 1) pe_int (fun _ _ => rfl)) (nomark _)) (pe_one (pe_cmpR op_le (pe_ix ix_tup (pv 1) pe_int (fun _ _ => rfl)) (pe_ix ix_tup (pv 0) pe_int (fun _ _ => rfl)) (nomark _)))))), ?_⟩
    unfold inI at q
    refine ⟨.ref a, rfl, a, _, 0, .int x, rfl, rfl, SqT.of ha, rfl, .ref b, rfl, b, _, 0, .int u, rfl, rfl, SqT.of hb, rfl, _, _, rfl, rfl, _, rfl, ite2 (fun e => ?_) (fun e => ?_)⟩
    · refine ⟨.ref b, rfl, b, _, 1, .int v, rfl, rfl, SqT.of hb, rfl, .ref a, rfl, a, _, 1, .int y, rfl, rfl, SqT.of ha, rfl, _, _, rfl, rfl, ?_⟩
      rw [e] at q
      exact q
    · rw [Bool.not_eq_true] at e
      rw [e] at q
      exact q
def sp_has_position : Sp := fun vs H Q _ => ∃ (a : Addr) (x y p : Int), vs = [.ref a, .int p] ∧ H a = some (.tup [.int x, .int y]) ∧ Q (.bl (atP x y p)) H
theorem ok_has_position (T : Tx K mg f_depth_changes f_find_blocks f_is_number f_is_position f_is_tuple_of f_is_interval f_is_ascending f_has_position f_contains f_is_demand f_serves f_conflict f_is_independent f_demands_at_blocks f_is_open f_open_demands f_shadow_target f_pieces_inside f_first_gap f_find_missing f_require_few_blocks f_decisive_demands f_largest_independent f_unserved_demands f_helpful_piece f_smallest_solution f_solve f_are_witnesses f_solution_holds f_law_draws f_law_next f_law_one f_law_spans f_law_targets f_law_covers f_law_is_interval f_law_is_demand f_law_rising f_law_served f_law_clash f_law_are_witnesses f_law_solved f_law_bent f_law d_depth_changes d_find_blocks d_is_number d_is_position d_is_tuple_of d_is_interval d_is_ascending d_has_position d_contains d_is_demand d_serves d_conflict d_is_independent d_demands_at_blocks d_is_open d_open_demands d_shadow_target d_pieces_inside d_first_gap d_find_missing d_require_few_blocks d_decisive_demands d_largest_independent d_unserved_demands d_helpful_piece d_smallest_solution d_solve d_are_witnesses d_solution_holds d_law_draws d_law_next d_law_one d_law_spans d_law_targets d_law_covers d_law_is_interval d_law_is_demand d_law_rising d_law_served d_law_clash d_law_are_witnesses d_law_solved d_law_bent d_law t_LAST_POSITION t_MAX_BLOCKS) : FnOk P w K mg base CX0 1 f_has_position d_has_position ["interval", "position"] sp_has_position := by
  refine T.F_has_position.ok sc_has_position (fun vs H Q E h => ?_) (fun cdv A outer s H vs Q E hr h => ?_)
  · obtain ⟨a, x, y, p, rfl, _⟩ := h
    rfl
  · obtain ⟨a, x, y, p, rfl, ha, q⟩ := h
    refine ⟨_, (pss_one (ps_ret (pe_chain op_le op_le (pe_ix ix_tup (pv 0) pe_int (fun _ _ => rfl)) (pv 1) (pe_ix ix_tup (pv 0) pe_int (fun _ _ => rfl))))), ?_⟩
    unfold atP at q
    refine ⟨.ref a, rfl, a, _, 0, .int x, rfl, rfl, SqT.of ha, rfl, .int p, rfl, _, _, rfl, rfl, _, rfl, ite2 (fun e => ?_) (fun e => ?_)⟩
    · refine ⟨.ref a, rfl, a, _, 1, .int y, rfl, rfl, SqT.of ha, rfl, _, _, rfl, rfl, ?_⟩
      rw [e] at q
      exact q
    · rw [Bool.not_eq_true] at e
      rw [e] at q
      exact q
def svI (x y p lo hi : Int) : Bool := inI lo hi x y && atP x y p
def sp_serves : Sp := fun vs H Q _ => ∃ (a u t : Addr) (x y p lo hi : Int), vs = [.ref a, .ref u] ∧ H a = some (.tup [.int x, .int y]) ∧ H u = some (.tup [.int p, .ref t]) ∧ H t = some (.tup [.int lo, .int hi]) ∧ Q (.bl (svI x y p lo hi)) H
theorem ok_serves (T : Tx K mg f_depth_changes f_find_blocks f_is_number f_is_position f_is_tuple_of f_is_interval f_is_ascending f_has_position f_contains f_is_demand f_serves f_conflict f_is_independent f_demands_at_blocks f_is_open f_open_demands f_shadow_target f_pieces_inside f_first_gap f_find_missing f_require_few_blocks f_decisive_demands f_largest_independent f_unserved_demands f_helpful_piece f_smallest_solution f_solve f_are_witnesses f_solution_holds f_law_draws f_law_next f_law_one f_law_spans f_law_targets f_law_covers f_law_is_interval f_law_is_demand f_law_rising f_law_served f_law_clash f_law_are_witnesses f_law_solved f_law_bent f_law d_depth_changes d_find_blocks d_is_number d_is_position d_is_tuple_of d_is_interval d_is_ascending d_has_position d_contains d_is_demand d_serves d_conflict d_is_independent d_demands_at_blocks d_is_open d_open_demands d_shadow_target d_pieces_inside d_first_gap d_find_missing d_require_few_blocks d_decisive_demands d_largest_independent d_unserved_demands d_helpful_piece d_smallest_solution d_solve d_are_witnesses d_solution_holds d_law_draws d_law_next d_law_one d_law_spans d_law_targets d_law_covers d_law_is_interval d_law_is_demand d_law_rising d_law_served d_law_clash d_law_are_witnesses d_law_solved d_law_bent d_law t_LAST_POSITION t_MAX_BLOCKS) : FnOk P w K mg base CX0 2 f_serves d_serves ["piece", "demand"] sp_serves := by
  refine T.F_serves.ok sc_serves (fun vs H Q E h => ?_) (fun cdv A outer s H vs Q E hr h => ?_)
  · obtain ⟨a, u, t, x, y, p, lo, hi, rfl, _⟩ := h
    rfl
  · obtain ⟨a, u, t, x, y, p, lo, hi, rfl, ha, hu, ht, q⟩ := h
    refine ⟨_, (pss_cons (ps_asg (pv 1) (pg_tup rfl (pgs_cons (pg_name (i := 2) sc_serves.nd rfl (Or.inl rfl)) (pgs_cons (pg_name (i := 3) sc_serves.nd rfl (Or.inl rfl)) pgs_nil))))
      (pss_one (ps_ret (pe_and (pe_call (ok_contains T) (hr.mono (by decide)) (by rfl) T.g_contains T.F_contains.kp T.b_contains .nil pass0 (pa_cons (pv 3) (pa_cons (pv 0) pa_nil))) (pe_one (pe_call (ok_has_position T) (hr.mono (by decide)) (by rfl) T.g_has_position T.F_has_position.kp T.b_has_position .nil pass0 (pa_cons (pv 0) (pa_cons (pv 2) pa_nil)))))))), ?_⟩
    unfold svI at q
    refine ⟨.ref u, rfl, u, _, rfl, SqT.of hu, rfl, .int p, [.ref t], rfl, .ref t, [], rfl, rfl, ?_⟩
    refine ⟨.ref t, rfl, .ref a, rfl, t, a, lo, hi, x, y, rfl, ht, ha, _, rfl, ite2 (fun e => ?_) (fun e => ?_)⟩
    · refine ⟨.ref a, rfl, .int p, rfl, a, x, y, p, rfl, ha, ?_⟩
      rw [e] at q
      exact q
    · rw [Bool.not_eq_true] at e
      rw [e] at q
      exact q

def strI (f s : Int) (p : Int × Int) : Int × Int := (p.1 * f + s, p.2 * f + f - 1 + s)

/-! ### blocks, position by position -/
def depI (row : List (Int × Int)) (p : Int) : Int := (row.map fun q => if q.1 ≤ p ∧ p ≤ q.2 then (1 : Int) else 0).sum
def delI (row : List (Int × Int)) (p : Int) : Int := (row.map fun q => (if q.1 = p then (1 : Int) else 0) - (if q.2 + 1 = p then 1 else 0)).sum
def Bd (row : List (Int × Int)) (p : Int) : Prop := ∃ q ∈ row, q.1 = p ∨ q.2 + 1 = p
def Good (row : List (Int × Int)) : Prop := ∀ q ∈ row, 0 ≤ q.1 ∧ q.1 ≤ q.2
instance (row : List (Int × Int)) (p : Int) : Decidable (Bd row p) := by
  unfold Bd
  infer_instance
theorem Good.tail {q : Int × Int} {row : List (Int × Int)} (g : Good (q :: row)) : Good row := fun x hx => g x (List.mem_cons_of_mem _ hx)
theorem dep_step : ∀ {row : List (Int × Int)}, Good row → ∀ p : Int, depI row p = depI row (p - 1) + delI row p
  | [], _, _ => rfl
  | q :: row, g, p => by
    have ih := dep_step g.tail p
    have z := g q List.mem_cons_self
    unfold depI delI at *
    simp only [List.map_cons, List.sum_cons]
    rw [ih]
    split <;> split <;> split <;> split <;> omega
theorem del_zero : ∀ {row : List (Int × Int)} {p : Int}, ¬ Bd row p → delI row p = 0
  | [], _, _ => rfl
  | q :: row, p, h => by
    have ih := del_zero (row := row) (p := p) fun ⟨x, hx, e⟩ => h ⟨x, List.mem_cons_of_mem _ hx, e⟩
    have n1 : ¬ q.1 = p := fun e => h ⟨q, List.mem_cons_self, .inl e⟩
    have n2 : ¬ q.2 + 1 = p := fun e => h ⟨q, List.mem_cons_self, .inr e⟩
    unfold delI at *
    simp only [List.map_cons, List.sum_cons]
    rw [ih, if_neg n1, if_neg n2]
    rfl
theorem dep_nonneg : ∀ (row : List (Int × Int)) (p : Int), 0 ≤ depI row p
  | [], _ => Int.le_refl _
  | q :: row, p => by
    have ih := dep_nonneg row p
    unfold depI at *
    simp only [List.map_cons, List.sum_cons]
    split <;> omega
theorem dep_pos : ∀ {row : List (Int × Int)} {p : Int}, 0 < depI row p ↔ ∃ q ∈ row, q.1 ≤ p ∧ p ≤ q.2
  | [], p => by
    constructor
    · intro h
      exact absurd h (by show ¬ (0 : Int) < 0; decide)
    · rintro ⟨q, h, _⟩
      cases h
  | q :: row, p => by
    have ih := dep_pos (row := row) (p := p)
    have nn := dep_nonneg row p
    have e : depI (q :: row) p = (if q.1 ≤ p ∧ p ≤ q.2 then (1 : Int) else 0) + depI row p := by
      unfold depI
      rw [List.map_cons, List.sum_cons]
    rw [e]
    by_cases h : q.1 ≤ p ∧ p ≤ q.2
    · rw [if_pos h]
      constructor
      · intro _
        exact ⟨q, List.mem_cons_self, h⟩
      · intro _
        omega
    · rw [if_neg h]
      constructor
      · intro z
        obtain ⟨x, hx, w⟩ := ih.mp (by omega)
        exact ⟨x, List.mem_cons_of_mem _ hx, w⟩
      · rintro ⟨x, hx, w⟩
        rcases List.mem_cons.mp hx with rfl | hx
        · exact absurd w h
        · have := ih.mpr ⟨x, hx, w⟩
          omega
theorem dep_zero {row : List (Int × Int)} {p : Int} (h : ∀ q ∈ row, p < q.1 ∨ q.2 < p) : depI row p = 0 := by
  have nn := dep_nonneg row p
  by_cases z : 0 < depI row p
  · obtain ⟨q, hq, w⟩ := dep_pos.mp z
    have := h q hq
    omega
  · omega
theorem dep_const {row : List (Int × Int)} (g : Good row) {a : Int} : ∀ k : Nat, (∀ j : Int, a < j → j ≤ a + k → ¬ Bd row j) → depI row (a + k) = depI row a
  | 0, _ => by
    rw [show a + ((0 : Nat) : Int) = a by omega]
  | k + 1, h => by
    have ih := dep_const g k fun j h1 h2 => h j h1 (by omega)
    rw [dep_step g, del_zero (h _ (by omega) (Int.le_refl _)), show a + ((k + 1 : Nat) : Int) - 1 = a + (k : Int) by omega, ih]
    omega
def extl (l : List (Int × Int)) (p : Int) : List (Int × Int) := l.dropLast ++ (l.getLast?.map fun q => (q.1, p)).toList
theorem extl_snoc (l : List (Int × Int)) (q : Int × Int) (p : Int) : extl (l ++ [q]) p = l ++ [(q.1, p)] := by
  unfold extl
  rw [List.dropLast_concat, List.getLast?_concat]
  rfl
theorem extl_nil (p : Int) : extl [] p = [] := rfl
theorem extl_extl (l : List (Int × Int)) (p r : Int) : extl (extl l p) r = extl l r := by
  rcases List.eq_nil_or_concat l with rfl | ⟨m, q, rfl⟩
  · rfl
  · rw [List.concat_eq_append, extl_snoc, extl_snoc, extl_snoc]
theorem extl_ne {l : List (Int × Int)} (h : l ≠ []) (p : Int) : extl l p ≠ [] := by
  rcases List.eq_nil_or_concat l with rfl | ⟨m, q, rfl⟩
  · exact absurd rfl h
  · rw [List.concat_eq_append, extl_snoc]
    exact List.append_ne_nil_of_right_ne_nil _ (List.cons_ne_nil _ _)
theorem extl_map (f : Int × Int → Int × Int) {l : List (Int × Int)} {p r : Int} (h : ∀ q : Int × Int, f (q.1, p) = ((f q).1, r)) : extl (l.map f) r = (extl l p).map f := by
  rcases List.eq_nil_or_concat l with rfl | ⟨m, q, rfl⟩
  · rfl
  · rw [List.concat_eq_append, extl_snoc, List.map_append, List.map_singleton, extl_snoc, List.map_append, List.map_singleton, h]
/-- the blocks of the positions below n -/
def Cb (row : List (Int × Int)) : Nat → List (Int × Int)
  | 0 => []
  | n + 1 => if 0 < depI row n then (if Bd row n then Cb row n ++ [((n : Int), (n : Int))] else extl (Cb row n) n) else Cb row n
theorem Cb_succ (row : List (Int × Int)) (n : Nat) : Cb row (n + 1) = if 0 < depI row n then (if Bd row n then Cb row n ++ [((n : Int), (n : Int))] else extl (Cb row n) n) else Cb row n := rfl
theorem Cb_seg {row : List (Int × Int)} (g : Good row) {a : Nat} : ∀ k : Nat, (∀ j : Int, (a : Int) < j → j ≤ a + k → ¬ Bd row j) →
    Cb row (a + k + 1) = if 0 < depI row a then (if Bd row a then Cb row a ++ [((a : Int), (a : Int) + k)] else extl (Cb row a) (a + k)) else Cb row a
  | 0, _ => by
    rw [Nat.add_zero, Cb_succ, show (a : Int) + ((0 : Nat) : Int) = a by omega]
  | k + 1, h => by
    have ih := Cb_seg g k fun j h1 h2 => h j h1 (by omega)
    have dc := dep_const g (k + 1) h
    have cast : (((a + (k + 1)) : Nat) : Int) = (a : Int) + ((k + 1 : Nat) : Int) := by omega
    rw [Cb_succ, cast, dc]
    by_cases hd : 0 < depI row a
    · rw [if_pos hd, if_neg (h _ (by omega) (Int.le_refl _)), show a + (k + 1) = a + k + 1 by omega, ih, if_pos hd]
      by_cases hb : Bd row a
      · rw [if_pos hb, if_pos hb, if_pos hd, extl_snoc]
      · rw [if_neg hb, if_neg hb, if_pos hd, extl_extl]
    · rw [if_neg hd, if_neg hd, show a + (k + 1) = a + k + 1 by omega, ih, if_neg hd]
theorem Cb_top {row : List (Int × Int)} {N : Nat} (h : ∀ q ∈ row, q.2 + 1 ≤ N) : ∀ k : Nat, Cb row (N + k) = Cb row N
  | 0 => rfl
  | k + 1 => by
    have z : depI row ((N + k : Nat) : Int) = 0 := dep_zero fun q hq => by
      have := h q hq
      omega
    rw [show N + (k + 1) = (N + k) + 1 by omega, Cb_succ, z, if_neg (by omega)]
    exact Cb_top h k
theorem Cb_low {row : List (Int × Int)} : ∀ {N : Nat}, (∀ q ∈ row, (N : Int) ≤ q.1) → Cb row N = []
  | 0, _ => rfl
  | N + 1, h => by
    have z : depI row (N : Int) = 0 := dep_zero fun q hq => by
      have := h q hq
      omega
    rw [Cb_succ, z, if_neg (by omega)]
    exact Cb_low fun q hq => by
      have := h q hq
      omega
def topN : List (Int × Int) → Nat
  | [] => 0
  | q :: r => max (q.2 + 1).toNat (topN r)
theorem topN_le : ∀ {row : List (Int × Int)} {q : Int × Int}, q ∈ row → q.2 + 1 ≤ topN row
  | r :: row, q, h => by
    rcases List.mem_cons.mp h with rfl | h
    · show q.2 + 1 ≤ ((max (q.2 + 1).toNat (topN row) : Nat) : Int)
      omega
    · have := topN_le h
      show q.2 + 1 ≤ ((max (r.2 + 1).toNat (topN row) : Nat) : Int)
      omega
def blocksOf (row : List (Int × Int)) : List (Int × Int) := Cb row (topN row)
theorem Cb_all {row : List (Int × Int)} {N : Nat} (h : ∀ q ∈ row, q.2 + 1 ≤ N) : Cb row N = blocksOf row := by
  unfold blocksOf
  rcases Nat.le_total N (topN row) with z | z
  · obtain ⟨k, e⟩ := Nat.le.dest z
    rw [← e, Cb_top h k]
  · obtain ⟨k, e⟩ := Nat.le.dest z
    rw [← e, Cb_top (fun q hq => topN_le hq) k]
theorem Cb_ne {row : List (Int × Int)} (g : Good row) : ∀ n : Nat, 0 < depI row n → Cb row (n + 1) ≠ []
  | 0, h => by
    obtain ⟨q, hq, w⟩ := dep_pos.mp h
    have z := g q hq
    have hb : Bd row ((0 : Nat) : Int) := ⟨q, hq, .inl (by omega)⟩
    rw [Cb_succ, if_pos h, if_pos hb]
    exact List.append_ne_nil_of_right_ne_nil _ (List.cons_ne_nil _ _)
  | n + 1, h => by
    rw [Cb_succ, if_pos h]
    by_cases hb : Bd row ((n + 1 : Nat) : Int)
    · rw [if_pos hb]
      exact List.append_ne_nil_of_right_ne_nil _ (List.cons_ne_nil _ _)
    · rw [if_neg hb]
      have e := dep_step g ((n + 1 : Nat) : Int)
      rw [del_zero hb, show ((n + 1 : Nat) : Int) - 1 = (n : Int) by omega] at e
      exact extl_ne (Cb_ne g n (by omega)) _
/-- the blocks of stretched intervals -/
theorem bd_str {row : List (Int × Int)} {f s : Int} {j : Int} : Bd (row.map (strI f s)) j ↔ ∃ b, Bd row b ∧ j = b * f + s := by
  constructor
  · rintro ⟨q, hq, h⟩
    obtain ⟨r, hr, rfl⟩ := List.mem_map.mp hq
    rcases h with h | h
    · exact ⟨r.1, ⟨r, hr, .inl rfl⟩, h.symm⟩
    · refine ⟨r.2 + 1, ⟨r, hr, .inr rfl⟩, ?_⟩
      rw [← h, Int.add_mul]
      show r.2 * f + f - 1 + s + 1 = r.2 * f + 1 * f + s
      omega
  · rintro ⟨b, ⟨r, hr, h⟩, rfl⟩
    refine ⟨strI f s r, List.mem_map.mpr ⟨r, hr, rfl⟩, ?_⟩
    rcases h with h | h
    · exact .inl (by rw [← h]; rfl)
    · refine .inr ?_
      rw [← h, Int.add_mul]
      show r.2 * f + f - 1 + s + 1 = r.2 * f + 1 * f + s
      omega
theorem mul_le_iff {a b f : Int} (hf : 0 < f) : a * f ≤ b * f ↔ a ≤ b := ⟨fun h => Int.le_of_mul_le_mul_right h hf, fun h => Int.mul_le_mul_of_nonneg_right h (by omega)⟩
theorem dep_str {f s : Int} (hf : 0 < f) : ∀ {row : List (Int × Int)} {N : Int}, depI (row.map (strI f s)) (N * f + s) = depI row N
  | [], _ => rfl
  | q :: row, N => by
    have ih := dep_str (s := s) hf (row := row) (N := N)
    have e1 := mul_le_iff (a := q.1) (b := N) hf
    have e2 := mul_le_iff (a := N) (b := q.2) hf
    have e3 : N * f ≤ q.2 * f + f - 1 ↔ N ≤ q.2 := by
      constructor
      · intro h
        by_cases z : N ≤ q.2
        · exact z
        · have w := (mul_le_iff (a := q.2 + 1) (b := N) hf).mpr (by omega)
          rw [Int.add_mul] at w
          omega
      · intro h
        have := e2.mpr h
        omega
    have c : (q.1 * f + s ≤ N * f + s ∧ N * f + s ≤ q.2 * f + f - 1 + s) ↔ (q.1 ≤ N ∧ N ≤ q.2) := by
      rw [← e1, ← e3]
      constructor
      · rintro ⟨h1, h2⟩
        exact ⟨by omega, by omega⟩
      · rintro ⟨h1, h2⟩
        exact ⟨by omega, by omega⟩
    unfold depI at *
    simp only [List.map_cons, List.sum_cons]
    rw [ih]
    congr 1
    show (if q.1 * f + s ≤ N * f + s ∧ N * f + s ≤ q.2 * f + f - 1 + s then (1 : Int) else 0) = _
    by_cases z : q.1 ≤ N ∧ N ≤ q.2
    · rw [if_pos z, if_pos (c.mpr z)]
    · rw [if_neg z, if_neg (fun w => z (c.mp w))]
theorem good_str {row : List (Int × Int)} (g : Good row) {f s : Int} (hf : 0 < f) (hs : 0 ≤ s) : Good (row.map (strI f s)) := by
  intro q hq
  obtain ⟨r, hr, rfl⟩ := List.mem_map.mp hq
  have z := g r hr
  have m1 := (mul_le_iff (a := 0) (b := r.1) hf).mpr z.1
  have m2 := (mul_le_iff (a := r.1) (b := r.2) hf).mpr z.2
  constructor
  · show 0 ≤ r.1 * f + s
    omega
  · show r.1 * f + s ≤ r.2 * f + f - 1 + s
    omega
theorem Cb_str {row : List (Int × Int)} (g : Good row) {f s : Int} (hf : 0 < f) (hs : 0 ≤ s) : ∀ N : Nat, Cb (row.map (strI f s)) ((N : Int) * f + s).toNat = (Cb row N).map (strI f s)
  | 0 => by
    have e : ((0 : Nat) : Int) * f + s = s := by
      rw [show ((0 : Nat) : Int) = 0 from rfl, Int.zero_mul]
      omega
    rw [e, Cb_low]
    · rfl
    · intro q hq
      obtain ⟨r, hr, rfl⟩ := List.mem_map.mp hq
      have z := g r hr
      have m1 := (mul_le_iff (a := 0) (b := r.1) hf).mpr z.1
      show ((s.toNat : Nat) : Int) ≤ r.1 * f + s
      omega
  | N + 1 => by
    have ih := Cb_str g hf hs N
    have nn := (mul_le_iff (a := 0) (b := N) hf).mpr (by omega)
    have cast : (((N : Int) * f + s).toNat : Int) = (N : Int) * f + s := by omega
    have e : (((N + 1 : Nat) : Int) * f + s).toNat = ((N : Int) * f + s).toNat + (f - 1).toNat + 1 := by
      have : ((N + 1 : Nat) : Int) * f = (N : Int) * f + f := by
        rw [show ((N + 1 : Nat) : Int) = (N : Int) + 1 by omega, Int.add_mul, Int.one_mul]
      omega
    have seg := Cb_seg (good_str g hf hs) (a := ((N : Int) * f + s).toNat) (f - 1).toNat (fun j h1 h2 hb => by
      obtain ⟨b, _, ej⟩ := bd_str.mp hb
      rw [cast] at h1 h2
      have l1 : (N : Int) < b := by
        by_cases z : b ≤ N
        · have := (mul_le_iff (a := b) (b := N) hf).mpr z
          omega
        · omega
      have := (mul_le_iff (a := (N : Int) + 1) (b := b) hf).mpr (by omega)
      rw [Int.add_mul] at this
      omega)
    have eb : Bd (row.map (strI f s)) ((N : Int) * f + s) ↔ Bd row N := by
      constructor
      · intro h
        obtain ⟨b, hb, ej⟩ := bd_str.mp h
        have : b = N := by
          rcases Int.lt_trichotomy b N with z | z | z
          · have := (mul_le_iff (a := b + 1) (b := N) hf).mpr (by omega)
            rw [Int.add_mul] at this
            omega
          · exact z
          · have := (mul_le_iff (a := (N : Int) + 1) (b := b) hf).mpr (by omega)
            rw [Int.add_mul] at this
            omega
        rw [← this]
        exact hb
      · intro h
        exact bd_str.mpr ⟨N, h, rfl⟩
    rw [e, seg, cast, dep_str hf, ih, Cb_succ]
    by_cases hd : 0 < depI row N
    · rw [if_pos hd, if_pos hd]
      have last : (N : Int) * f + s + ((f - 1).toNat : Int) = (N : Int) * f + f - 1 + s := by omega
      by_cases hb : Bd row N
      · rw [if_pos hb, if_pos (eb.mpr hb), List.map_append, List.map_singleton, last]
        rfl
      · rw [if_neg hb, if_neg (fun z => hb (eb.mp z)), last]
        exact extl_map (strI f s) fun q => rfl
    · rw [if_neg hd, if_neg hd]
theorem blocks_str {row : List (Int × Int)} (g : Good row) {f s : Int} (hf : 0 < f) (hs : 0 ≤ s) : blocksOf (row.map (strI f s)) = (blocksOf row).map (strI f s) := by
  rw [← Cb_all (row := row.map (strI f s)) (N := ((topN row : Int) * f + s).toNat)]
  · exact Cb_str g hf hs _
  · intro q hq
    obtain ⟨r, hr, rfl⟩ := List.mem_map.mp hq
    have z := topN_le hr
    have m := (mul_le_iff (a := r.2 + 1) (b := topN row) hf).mpr z
    have nn := (mul_le_iff (a := 0) (b := topN row) hf).mpr (by omega)
    rw [Int.add_mul] at m
    show r.2 * f + f - 1 + s + 1 ≤ ((((topN row : Int) * f + s).toNat : Nat) : Int)
    omega

/-! ### what the blocks are: ascending, apart, covering, begun at the borders that are covered -/
theorem extl_fst (l : List (Int × Int)) (p : Int) : (extl l p).map (·.1) = l.map (·.1) := by
  rcases List.eq_nil_or_concat l with rfl | ⟨m, q, rfl⟩
  · rfl
  · rw [List.concat_eq_append, extl_snoc, List.map_append, List.map_append]
    rfl
def stB (row : List (Int × Int)) (p : Nat) : Bool := decide (0 < depI row p) && decide (Bd row p)
structure Bl (row : List (Int × Int)) (N : Nat) (l : List (Int × Int)) : Prop where
  asc : l.Pairwise (fun a b => a.2 < b.1)
  ok : ∀ q ∈ l, 0 ≤ q.1 ∧ q.1 ≤ q.2 ∧ q.2 < N
  cov : ∀ p : Nat, p < N → (0 < depI row p ↔ ∃ q ∈ l, q.1 ≤ p ∧ (p : Int) ≤ q.2)
  fst : l.map (·.1) = ((List.range N).filter (stB row)).map (fun n : Nat => (n : Int))
theorem Cb_bl {row : List (Int × Int)} (g : Good row) : ∀ N : Nat, Bl row N (Cb row N)
  | 0 => ⟨.nil, (fun q hq => nomatch hq), (fun p hp => absurd hp (Nat.not_lt_zero p)), rfl⟩
  | n + 1 => by
    have ih := Cb_bl g n
    have fr : ((List.range (n + 1)).filter (stB row)).map (fun n : Nat => (n : Int)) = ((List.range n).filter (stB row)).map (fun n : Nat => (n : Int)) ++ (if stB row n then [(n : Int)] else []) := by
      rw [List.range_succ, List.filter_append, List.map_append]
      congr 1
      cases h : stB row n <;> simp [List.filter_cons, h]
    rw [Cb_succ]
    by_cases hd : 0 < depI row n
    · rw [if_pos hd]
      by_cases hb : Bd row n
      · rw [if_pos hb]
        refine ⟨?_, fun q hq => ?_, fun p hp => ?_, ?_⟩
        · refine List.pairwise_append.mpr ⟨ih.asc, List.pairwise_singleton _ _, fun a ha b hb2 => ?_⟩
          rw [List.mem_singleton.mp hb2]
          exact (ih.ok a ha).2.2
        · rcases List.mem_append.mp hq with hq | hq
          · have := ih.ok q hq
            exact ⟨this.1, this.2.1, by omega⟩
          · rw [List.mem_singleton.mp hq]
            refine ⟨?_, ?_, ?_⟩
            · show (0 : Int) ≤ (n : Int)
              omega
            · show (n : Int) ≤ (n : Int)
              omega
            · show (n : Int) < ((n + 1 : Nat) : Int)
              omega
        · rcases Nat.lt_or_ge p n with h | h
          · rw [ih.cov p h]
            constructor
            · rintro ⟨q, hq, w⟩
              exact ⟨q, List.mem_append_left _ hq, w⟩
            · rintro ⟨q, hq, w⟩
              rcases List.mem_append.mp hq with hq | hq
              · exact ⟨q, hq, w⟩
              · rw [List.mem_singleton.mp hq] at w
                have w1 : (n : Int) ≤ (p : Int) := w.1
                omega
          · have e : p = n := by omega
            subst e
            exact ⟨fun _ => ⟨((p : Int), (p : Int)), List.mem_append_right _ (List.mem_singleton.mpr rfl), Int.le_refl _, Int.le_refl _⟩, fun _ => hd⟩
        · rw [List.map_append, ih.fst, fr]
          have : stB row n = true := Bool.and_eq_true_iff.mpr ⟨decide_eq_true hd, decide_eq_true hb⟩
          rw [this]
          rfl
      · rw [if_neg hb]
        have sf : stB row n = false := by
          unfold stB
          rw [decide_eq_false hb, Bool.and_false]
        -- the last block ends just before n
        have e := dep_step g (n : Int)
        rw [del_zero hb] at e
        have n0 : 0 < n := by
          rcases Nat.eq_zero_or_pos n with z | z
          · subst z
            obtain ⟨q, hq, w⟩ := dep_pos.mp hd
            have := g q hq
            exact absurd ⟨q, hq, .inl (by omega)⟩ hb
          · exact z
        obtain ⟨k, rfl⟩ : ∃ k, n = k + 1 := ⟨n - 1, by omega⟩
        have dk : 0 < depI row k := by
          rw [show ((k + 1 : Nat) : Int) - 1 = (k : Int) by omega] at e
          omega
        obtain ⟨q, hq, w1, w2⟩ := (ih.cov k (by omega)).mp dk
        have oq := ih.ok q hq
        generalize Cb row (k + 1) = l at *
        rcases List.eq_nil_or_concat l with rfl | ⟨m, z, rfl⟩
        · cases hq
        · rw [List.concat_eq_append] at *
          rw [extl_snoc]
          have pa := List.pairwise_append.mp ih.asc
          have oz := ih.ok z (List.mem_append_right _ (List.mem_singleton.mpr rfl))
          have qz : q = z := by
            rcases List.mem_append.mp hq with h | h
            · have := pa.2.2 q h z (List.mem_singleton.mpr rfl)
              omega
            · exact List.mem_singleton.mp h
          subst qz
          have q2 : q.2 = (k : Int) := by omega
          refine ⟨?_, fun r hr => ?_, fun p hp => ?_, ?_⟩
          · refine List.pairwise_append.mpr ⟨pa.1, List.pairwise_singleton _ _, fun a ha b hb2 => ?_⟩
            rw [List.mem_singleton.mp hb2]
            exact pa.2.2 a ha q (List.mem_singleton.mpr rfl)
          · rcases List.mem_append.mp hr with hr | hr
            · have := ih.ok r (List.mem_append_left _ hr)
              exact ⟨this.1, this.2.1, by omega⟩
            · rw [List.mem_singleton.mp hr]
              refine ⟨oq.1, ?_, ?_⟩
              · show q.1 ≤ ((k + 1 : Nat) : Int)
                omega
              · show ((k + 1 : Nat) : Int) < ((k + 1 + 1 : Nat) : Int)
                omega
          · rcases Nat.lt_or_ge p (k + 1) with h | h
            · rw [ih.cov p h]
              constructor
              · rintro ⟨r, hr, w⟩
                rcases List.mem_append.mp hr with hr | hr
                · exact ⟨r, List.mem_append_left _ hr, w⟩
                · rw [List.mem_singleton.mp hr] at w
                  refine ⟨_, List.mem_append_right _ (List.mem_singleton.mpr rfl), w.1, ?_⟩
                  show (p : Int) ≤ ((k + 1 : Nat) : Int)
                  omega
              · rintro ⟨r, hr, w⟩
                rcases List.mem_append.mp hr with hr | hr
                · exact ⟨r, List.mem_append_left _ hr, w⟩
                · rw [List.mem_singleton.mp hr] at w
                  exact ⟨q, List.mem_append_right _ (List.mem_singleton.mpr rfl), w.1, by omega⟩
            · have e : p = k + 1 := by omega
              subst e
              refine ⟨fun _ => ⟨_, List.mem_append_right _ (List.mem_singleton.mpr rfl), ?_, ?_⟩, fun _ => hd⟩
              · show q.1 ≤ ((k + 1 : Nat) : Int)
                omega
              · exact Int.le_refl _
          · rw [fr, sf, ← ih.fst, List.map_append, List.map_append]
            simp
    · rw [if_neg hd]
      have sf : stB row n = false := by
        unfold stB
        rw [decide_eq_false hd, Bool.false_and]
      refine ⟨ih.asc, fun q hq => ?_, fun p hp => ?_, ?_⟩
      · have := ih.ok q hq
        exact ⟨this.1, this.2.1, by omega⟩
      · rcases Nat.lt_or_ge p n with h | h
        · exact ih.cov p h
        · have e : p = n := by omega
          subst e
          refine ⟨fun z => absurd z hd, ?_⟩
          rintro ⟨q, hq, w⟩
          have := (ih.ok q hq).2.2
          omega
      · rw [fr, sf, ih.fst]
        simp
theorem blocks_bl {row : List (Int × Int)} (g : Good row) : Bl row (topN row) (blocksOf row) := Cb_bl g _
def lowsOf (row : List (Int × Int)) : List Int := (blocksOf row).map (·.1)
def ixI (row : List (Int × Int)) (pos : Int) : Int := (((lowsOf row).filter fun c => decide (c ≤ pos)).length : Int) - 1
theorem cnt_at {pos : Int} : ∀ {l : List (Int × Int)} {j : Nat} {q : Int × Int}, l.Pairwise (fun a b => a.2 < b.1) → (∀ q ∈ l, q.1 ≤ q.2) → l[j]? = some q → q.1 ≤ pos → pos ≤ q.2 → ((l.map (·.1)).filter fun c => decide (c ≤ pos)).length = j + 1
  | [], _, _, _, _, e, _, _ => by simp at e
  | x :: r, 0, q, asc, ok, e, h1, h2 => by
    cases e
    have p := List.pairwise_cons.mp asc
    rw [List.map_cons, List.filter_cons, if_pos (decide_eq_true h1), List.length_cons]
    have nil : (r.map (·.1)).filter (fun c => decide (c ≤ pos)) = [] := by
      apply List.filter_eq_nil_iff.mpr
      intro c hc
      obtain ⟨y, hy, rfl⟩ := List.mem_map.mp hc
      have := p.1 y hy
      rw [decide_eq_true_eq]
      omega
    rw [nil]
    rfl
  | x :: r, j + 1, q, asc, ok, e, h1, h2 => by
    have p := List.pairwise_cons.mp asc
    have e' : r[j]? = some q := e
    have := p.1 q (List.mem_of_getElem? e')
    have := ok x List.mem_cons_self
    rw [List.map_cons, List.filter_cons, if_pos (decide_eq_true (by omega)), List.length_cons, cnt_at p.2 (fun z hz => ok z (List.mem_cons_of_mem _ hz)) e' h1 h2]
theorem ix_at {row : List (Int × Int)} (g : Good row) {pos : Int} {j : Nat} {q : Int × Int} (e : (blocksOf row)[j]? = some q) (h1 : q.1 ≤ pos) (h2 : pos ≤ q.2) : ixI row pos = j ∧ 0 < depI row pos := by
  have B := blocks_bl g
  have mq := List.mem_of_getElem? e
  have oq := B.ok q mq
  refine ⟨?_, ?_⟩
  · unfold ixI lowsOf
    rw [cnt_at B.asc (fun z hz => (B.ok z hz).2.1) e h1 h2]
    omega
  · obtain ⟨p, rfl⟩ : ∃ p : Nat, pos = p := ⟨pos.toNat, by omega⟩
    exact (B.cov p (by omega)).mpr ⟨q, mq, h1, h2⟩
theorem dep_in {row : List (Int × Int)} (g : Good row) {pos : Int} (h : 0 < depI row pos) : ∃ q ∈ blocksOf row, q.1 ≤ pos ∧ pos ≤ q.2 := by
  obtain ⟨r, hr, w⟩ := dep_pos.mp h
  have := g r hr
  have := topN_le hr
  obtain ⟨p, rfl⟩ : ∃ p : Nat, pos = p := ⟨pos.toNat, by omega⟩
  exact ((blocks_bl g).cov p (by omega)).mp h
theorem Bl.idx {row : List (Int × Int)} {N : Nat} {l : List (Int × Int)} (B : Bl row N l) {i j : Nat} {a b : Int × Int} (ij : i < j) (ea : l[i]? = some a) (eb : l[j]? = some b) : a.2 < b.1 := by
  obtain ⟨hi, rfl⟩ := List.getElem?_eq_some_iff.mp ea
  obtain ⟨hj, rfl⟩ := List.getElem?_eq_some_iff.mp eb
  exact List.pairwise_iff_getElem.mp B.asc i j hi hj ij
theorem low_at {row : List (Int × Int)} (g : Good row) {q : Int × Int} (hq : q ∈ row) : ∃ (j : Nat) (b : Int × Int), (blocksOf row)[j]? = some b ∧ b.1 = q.1 := by
  have B := blocks_bl g
  have gq := g q hq
  have tq := topN_le hq
  have d : 0 < depI row q.1 := dep_pos.mpr ⟨q, hq, Int.le_refl _, gq.2⟩
  have bd : Bd row q.1 := ⟨q, hq, .inl rfl⟩
  have m : q.1 ∈ (blocksOf row).map (·.1) := by
    rw [B.fst]
    refine List.mem_map.mpr ⟨q.1.toNat, List.mem_filter.mpr ⟨List.mem_range.mpr (by omega), ?_⟩, by omega⟩
    have c : ((q.1.toNat : Nat) : Int) = q.1 := by omega
    unfold stB
    rw [c]
    exact Bool.and_eq_true_iff.mpr ⟨decide_eq_true d, decide_eq_true bd⟩
  obtain ⟨b, hb, e⟩ := List.mem_map.mp m
  obtain ⟨j, ej⟩ := List.getElem?_of_mem hb
  exact ⟨j, b, ej, e⟩
/-- no border lies within a block -/
theorem Bl.inner {row : List (Int × Int)} {N : Nat} {l : List (Int × Int)} (B : Bl row N l) {q : Int × Int} (hq : q ∈ l) {p : Int} (h1 : q.1 < p) (h2 : p ≤ q.2) : ¬ Bd row p := by
  intro bd
  have oq := B.ok q hq
  have c : ((p.toNat : Nat) : Int) = p := by omega
  have d : 0 < depI row p := by
    have z := (B.cov p.toNat (by omega)).mpr ⟨q, hq, by omega, by omega⟩
    rw [c] at z
    exact z
  have m : p ∈ l.map (·.1) := by
    rw [B.fst]
    refine List.mem_map.mpr ⟨p.toNat, List.mem_filter.mpr ⟨List.mem_range.mpr (by omega), ?_⟩, by omega⟩
    unfold stB
    rw [c]
    exact Bool.and_eq_true_iff.mpr ⟨decide_eq_true d, decide_eq_true bd⟩
  obtain ⟨r, hr, e⟩ := List.mem_map.mp m
  obtain ⟨i, ei⟩ := List.getElem?_of_mem hq
  obtain ⟨j, ej⟩ := List.getElem?_of_mem hr
  rcases Nat.lt_trichotomy i j with z | z | z
  · have := B.idx z ei ej
    omega
  · subst z
    rw [ei] at ej
    cases ej
    omega
  · have := B.idx z ej ei
    have := B.ok r hr
    omega
theorem high_at {row : List (Int × Int)} (g : Good row) {q : Int × Int} (hq : q ∈ row) : ∃ (j : Nat) (b : Int × Int), (blocksOf row)[j]? = some b ∧ b.2 = q.2 ∧ b.1 ≤ q.2 := by
  have B := blocks_bl g
  have gq := g q hq
  obtain ⟨b, hb, w1, w2⟩ := dep_in g (dep_pos.mpr ⟨q, hq, gq.2, Int.le_refl _⟩)
  obtain ⟨j, ej⟩ := List.getElem?_of_mem hb
  refine ⟨j, b, ej, ?_, w1⟩
  rcases Int.lt_or_le q.2 b.2 with z | z
  · exact absurd ⟨q, hq, .inr rfl⟩ (B.inner hb (p := q.2 + 1) (by omega) (by omega))
  · omega
theorem nodup_sub {α : Type} [DecidableEq α] : ∀ {l m : List α}, l.Nodup → (∀ x ∈ l, x ∈ m) → l.length ≤ m.length
  | [], _, _, _ => Nat.zero_le _
  | a :: l, m, h, hs => by
    have hm := hs a List.mem_cons_self
    have h' := List.nodup_cons.mp h
    have ih := nodup_sub (l := l) (m := m.erase a) h'.2 (fun x hx => (List.mem_erase_of_ne (fun e => h'.1 (by rw [← e]; exact hx))).mpr (hs x (List.mem_cons_of_mem _ hx)))
    rw [List.length_erase_of_mem hm] at ih
    have := List.length_pos_of_mem hm
    rw [List.length_cons]
    omega
theorem blocks_few {row : List (Int × Int)} (g : Good row) : (blocksOf row).length ≤ 2 * row.length := by
  have B := blocks_bl g
  have nd : ((blocksOf row).map (·.1)).Nodup := by
    rw [B.fst]
    refine List.Pairwise.map _ (fun a b h e => h (Int.ofNat.inj e)) ((List.nodup_range).filter _)
  have z := nodup_sub (m := row.map (·.1) ++ row.map (fun q => q.2 + 1)) nd (fun c hc => by
    rw [B.fst] at hc
    obtain ⟨n, hn, rfl⟩ := List.mem_map.mp hc
    obtain ⟨q, hq, w⟩ := of_decide_eq_true (Bool.and_eq_true_iff.mp (List.mem_filter.mp hn).2).2
    rcases w with w | w
    · exact List.mem_append_left _ (List.mem_map.mpr ⟨q, hq, w⟩)
    · exact List.mem_append_right _ (List.mem_map.mpr ⟨q, hq, w⟩))
  rw [List.length_map, List.length_append, List.length_map, List.length_map] at z
  omega


/-! ### the program's find_blocks -/
structure Dd (row : List (Int × Int)) (kvs : List (Key × V)) : Prop where
  val : ∀ k : Int, valV kvs (Sum.inl k) = if Bd row k then some (.int (delI row k)) else none
  nd : (kvs.map (·.1)).Nodup
  keys : ∃ ks : List Int, kvs.map (·.1) = ks.map Sum.inl
  len : kvs.length ≤ 2 * row.length
theorem keys_put (kvs : List (Key × V)) (k : Key) (v : V) : ((putK kvs k v).map (·.1) = kvs.map (·.1) ∧ k ∈ kvs.map (·.1)) ∨ ((putK kvs k v).map (·.1) = kvs.map (·.1) ++ [k] ∧ k ∉ kvs.map (·.1)) := by
  cases e : valV kvs k with
  | none =>
    refine .inr ⟨?_, valV_not e⟩
    rw [putK_new v e, List.map_append]
    rfl
  | some u =>
    refine .inl ⟨?_, valV_in e⟩
    have h : (kvs.any fun kv => decide (kv.1 = k)) = true := by
      rw [valV_any, e]
      rfl
    unfold putK
    rw [if_pos h, List.map_map]
    apply List.map_congr_left
    intro p _
    show (if p.1 = k then (p.1, v) else p).1 = p.1
    split <;> rfl
theorem put_parts {kvs : List (Key × V)} {k : Int} {v : V} (nd : (kvs.map (·.1)).Nodup) (keys : ∃ ks : List Int, kvs.map (·.1) = ks.map Sum.inl) :
    ((putK kvs (Sum.inl k) v).map (·.1)).Nodup ∧ (∃ ks : List Int, (putK kvs (Sum.inl k) v).map (·.1) = ks.map Sum.inl) ∧ (putK kvs (Sum.inl k) v).length ≤ kvs.length + 1 := by
  obtain ⟨ks, ek⟩ := keys
  rcases keys_put kvs (Sum.inl k) v with ⟨e, _⟩ | ⟨e, hn⟩
  · refine ⟨by rw [e]; exact nd, ⟨ks, by rw [e, ek]⟩, ?_⟩
    have l := congrArg List.length e
    rw [List.length_map, List.length_map] at l
    omega
  · refine ⟨?_, ⟨ks ++ [k], by rw [e, ek, List.map_append]; rfl⟩, ?_⟩
    · rw [e]
      exact List.nodup_append.mpr ⟨nd, by simp, fun a ha b hb z => hn (by rw [List.mem_singleton.mp hb] at z; rw [← z]; exact ha)⟩
    · have l := congrArg List.length e
      rw [List.length_map, List.length_append, List.length_map] at l
      simp at l
      omega
theorem bd_snoc {row : List (Int × Int)} {q : Int × Int} {k : Int} : Bd (row ++ [q]) k ↔ Bd row k ∨ q.1 = k ∨ q.2 + 1 = k := by
  constructor
  · rintro ⟨x, hx, h⟩
    rcases List.mem_append.mp hx with hx | hx
    · exact .inl ⟨x, hx, h⟩
    · rw [List.mem_singleton.mp hx] at h
      exact .inr h
  · rintro (⟨x, hx, h⟩ | h)
    · exact ⟨x, List.mem_append_left _ hx, h⟩
    · exact ⟨q, List.mem_append_right _ (List.mem_singleton.mpr rfl), h⟩
theorem del_snoc (row : List (Int × Int)) (q : Int × Int) (k : Int) : delI (row ++ [q]) k = delI row k + ((if q.1 = k then (1 : Int) else 0) - (if q.2 + 1 = k then 1 else 0)) := by
  unfold delI
  rw [List.map_append, List.sum_append, List.map_singleton, List.sum_singleton]
theorem Dd.get {row : List (Int × Int)} {kvs : List (Key × V)} (h : Dd row kvs) (k : Int) : (valV kvs (Sum.inl k)).getD (.int 0) = .int (delI row k) := by
  rw [h.val]
  by_cases b : Bd row k
  · rw [if_pos b]
    rfl
  · rw [if_neg b, del_zero b]
    rfl
theorem Dd.step {row : List (Int × Int)} {kvs : List (Key × V)} (h : Dd row kvs) {x y : Int} (xy : x ≤ y) :
    Dd (row ++ [(x, y)]) (putK (putK kvs (Sum.inl x) (.int (delI row x + 1))) (Sum.inl (y + 1)) (.int (delI row (y + 1) - 1))) := by
  obtain ⟨n1, k1, l1⟩ := put_parts (k := x) (v := .int (delI row x + 1)) h.nd h.keys
  obtain ⟨n2, k2, l2⟩ := put_parts (k := y + 1) (v := .int (delI row (y + 1) - 1)) n1 k1
  refine ⟨fun k => ?_, n2, k2, ?_⟩
  · rw [valV_put, valV_put, h.val]
    by_cases e1 : k = y + 1
    · have b : Bd (row ++ [(x, y)]) k := bd_snoc.mpr (.inr (.inr e1.symm))
      rw [if_pos (by rw [e1]), if_pos b, del_snoc, e1, if_neg (show ¬ x = y + 1 by omega), if_pos rfl]
      congr 2
    · rw [if_neg (fun z => e1 (Sum.inl.inj z))]
      by_cases e2 : k = x
      · have b : Bd (row ++ [(x, y)]) k := bd_snoc.mpr (.inr (.inl e2.symm))
        rw [if_pos (by rw [e2]), if_pos b, del_snoc, e2, if_pos rfl, if_neg (show ¬ y + 1 = x by omega)]
        congr 2
      · rw [if_neg (fun z => e2 (Sum.inl.inj z))]
        have same : delI (row ++ [(x, y)]) k = delI row k := by
          rw [del_snoc, if_neg (fun z => e2 z.symm), if_neg (fun z => e1 z.symm)]
          omega
        by_cases b : Bd row k
        · rw [if_pos b, if_pos (bd_snoc.mpr (.inl b)), same]
        · rw [if_neg b, if_neg (fun z => (bd_snoc.mp z).elim b (fun w => w.elim (fun w => e2 w.symm) (fun w => e1 w.symm)))]
  · rw [List.length_append, List.length_singleton]
    have := h.len
    omega
def sp_depth_changes : Sp := fun vs H Q _ => ∃ (a : Addr) (us : List V) (row : List (Int × Int)), vs = [.ref a] ∧ H a = some (.tup us) ∧ Ivs H us row ∧ (∀ q ∈ row, q.1 ≤ q.2) ∧ row.length ≤ 100 ∧
  ∀ H' p kvs, Same H H' → H p = none → H' p = some (.dK kvs) → Dd row kvs → Q (.ref p) H'
theorem ok_depth_changes (T : Tx K mg f_depth_changes f_find_blocks f_is_number f_is_position f_is_tuple_of f_is_interval f_is_ascending f_has_position f_contains f_is_demand f_serves f_conflict f_is_independent f_demands_at_blocks f_is_open f_open_demands f_shadow_target f_pieces_inside f_first_gap f_find_missing f_require_few_blocks f_decisive_demands f_largest_independent f_unserved_demands f_helpful_piece f_smallest_solution f_solve f_are_witnesses f_solution_holds f_law_draws f_law_next f_law_one f_law_spans f_law_targets f_law_covers f_law_is_interval f_law_is_demand f_law_rising f_law_served f_law_clash f_law_are_witnesses f_law_solved f_law_bent f_law d_depth_changes d_find_blocks d_is_number d_is_position d_is_tuple_of d_is_interval d_is_ascending d_has_position d_contains d_is_demand d_serves d_conflict d_is_independent d_demands_at_blocks d_is_open d_open_demands d_shadow_target d_pieces_inside d_first_gap d_find_missing d_require_few_blocks d_decisive_demands d_largest_independent d_unserved_demands d_helpful_piece d_smallest_solution d_solve d_are_witnesses d_solution_holds d_law_draws d_law_next d_law_one d_law_spans d_law_targets d_law_covers d_law_is_interval d_law_is_demand d_law_rising d_law_served d_law_clash d_law_are_witnesses d_law_solved d_law_bent d_law t_LAST_POSITION t_MAX_BLOCKS) : FnOk P w K mg base CX0 1 f_depth_changes d_depth_changes ["intervals"] sp_depth_changes := by
  refine T.F_depth_changes.ok sc_depth_changes (fun vs H Q E h => ?_) (fun cdv A outer s H vs Q E hr h => ?_)
  · obtain ⟨a, us, row, rfl, _⟩ := h
    rfl
  · obtain ⟨a, us, row, rfl, ha, iv, xy, few, q⟩ := h
    refine ⟨_, (pss_cons (ps_set (i := 1) sc_depth_changes.nd rfl (Or.inl rfl) pe_dnewK)
      (pss_cons (ps_for PassesOwn.never rfl (pi_tup (pv 0)) (pg_tup rfl (pgs_cons (pg_name (i := 2) sc_depth_changes.nd rfl (Or.inl rfl)) (pgs_cons (pg_name (i := 3) sc_depth_changes.nd rfl (Or.inl rfl)) pgs_nil)))
      (pss_cons (ps_dput (hu_of hr) (pv 1) (pv 2) (pe_op op_add (pe_dget2 (hu_of hr) (pv 1) (pv 2) pe_int ⟨rfl, rfl, rfl, rfl⟩) pe_int) rfl)
      (pss_one (ps_dput (hu_of hr) (pv 1) (pe_op op_add (pv 3) pe_int) (pe_op op_sub (pe_dget2 (hu_of hr) (pv 1) (pe_op op_add (pv 3) pe_int) pe_int ⟨rfl, rfl, rfl, rfl⟩) pe_int) rfl))))
      (pss_one (ps_ret (pv 1))))), ?_⟩
    refine fun p np => ?_
    refine ⟨.ref a, rfl, a, rfl, ⟨_, SqT.of (same_new np _ _ ha)⟩, for_tup (K := K) (a := a) (xs := us) (fun i σ H' => Same H H' ∧ (∃ kvs, H' p = some (.dK kvs) ∧ Dd (row.take i) kvs) ∧ ∃ y2 y3, σ = [some (.ref a), some (.ref p), y2, y3])
      ⟨same_new np, ⟨[], upd_same, ⟨fun k => rfl, List.nodup_nil, ⟨[], rfl⟩, Nat.zero_le _⟩⟩, _, _, rfl⟩ (fun i σ H' _ h => SqT.of (h.1 _ _ ha)) ?_ ?_⟩
    · rintro i v σ H1 hi ⟨sm, ⟨kvs, ep, dd⟩, y2, y3, rfl⟩
      obtain ⟨b, x, y, rfl, er, eb⟩ := iv.get hi
      have le := xy _ (List.mem_of_getElem? er)
      have lt := List.length_take_le' i row
      have len := dd.len
      refine ⟨b, _, rfl, SqT.of (sm _ _ eb), rfl, .int x, [.int y], rfl, .int y, [], rfl, rfl, ?_⟩
      refine ⟨.ref p, rfl, p, rfl, .inl ⟨kvs, .inl ep⟩, .int x, rfl, _, DGet.k (k := Sum.inl x) ep, _, _, dd.get x, rfl, .ref p, rfl, .int x, rfl, p, _, rfl, DPut.k (k := Sum.inl x) ep (small1000 (by omega)), ?_⟩
      have e1 := upd_same (H := H1) (a := p) (o := .dK (putK kvs (Sum.inl x) (.int (delI (row.take i) x + 1))))
      have g1 : (valV (putK kvs (Sum.inl x) (.int (delI (row.take i) x + 1))) (Sum.inl (y + 1))).getD (.int 0) = .int (delI (row.take i) (y + 1)) := by
        rw [valV_put, if_neg (fun z => by
          have z' := Sum.inl.inj z
          have le' : x ≤ y := le
          omega)]
        exact dd.get (y + 1)
      obtain ⟨_, _, l1⟩ := put_parts (k := x) (v := .int (delI (row.take i) x + 1)) dd.nd dd.keys
      refine ⟨.ref p, rfl, p, rfl, .inl ⟨_, .inl e1⟩, .int y, rfl, _, _, rfl, rfl, _, DGet.k (k := Sum.inl (y + 1)) e1, _, _, g1, rfl, .ref p, rfl, .int y, rfl, _, _, rfl, rfl, p, _, rfl, DPut.k (k := Sum.inl (y + 1)) e1 (small1000 (by omega)), ?_⟩
      refine ⟨fun b' o eb' => ?_, ⟨_, upd_same, ?_⟩, _, _, rfl⟩
      · have nb := ne_of_none eb' np
        rw [upd_ne nb, upd_ne nb]
        exact sm _ _ eb'
      · rw [List.take_add_one, er]
        exact dd.step le
    · rintro σ H1 ⟨sm, ⟨kvs, ep, dd⟩, y2, y3, rfl⟩
      rw [iv.length, List.take_length] at dd
      exact ⟨.ref p, rfl, q _ p kvs sm np ep dd⟩

structure Bs (row : List (Int × Int)) (bs : List Int) : Prop where
  mem : ∀ k, k ∈ bs ↔ Bd row k
  srt : bs.Pairwise (· < ·)
theorem Bs.lt {row : List (Int × Int)} {bs : List Int} (h : Bs row bs) {i j : Nat} {a b : Int} (ij : i < j) (ea : bs[i]? = some a) (eb : bs[j]? = some b) : a < b := by
  obtain ⟨hi, rfl⟩ := List.getElem?_eq_some_iff.mp ea
  obtain ⟨hj, rfl⟩ := List.getElem?_eq_some_iff.mp eb
  exact List.pairwise_iff_getElem.mp h.srt i j hi hj ij
theorem Bs.gap {row : List (Int × Int)} {bs : List Int} (h : Bs row bs) {i : Nat} {a b : Int} (ea : bs[i]? = some a) (eb : bs[i + 1]? = some b) : ∀ j : Int, a < j → j < b → ¬ Bd row j := by
  intro j h1 h2 hb
  obtain ⟨m, hm⟩ := List.getElem?_of_mem ((h.mem j).mpr hb)
  rcases Nat.lt_trichotomy m i with z | z | z
  · have := h.lt z hm ea
    omega
  · subst z
    rw [ea] at hm
    cases hm
    omega
  · rcases Nat.lt_or_ge (i + 1) m with z2 | z2
    · have := h.lt z2 eb hm
      omega
    · have z3 : m = i + 1 := by omega
      subst z3
      rw [eb] at hm
      cases hm
      omega
theorem Bs.first {row : List (Int × Int)} {bs : List Int} (h : Bs row bs) {a : Int} (ea : bs[0]? = some a) {k : Int} (hb : Bd row k) : a ≤ k := by
  obtain ⟨m, hm⟩ := List.getElem?_of_mem ((h.mem k).mpr hb)
  rcases Nat.lt_or_ge 0 m with z | z
  · have := h.lt z ea hm
    omega
  · have z2 : m = 0 := by omega
    subst z2
    rw [ea] at hm
    cases hm
    exact Int.le_refl _
theorem Bs.last {row : List (Int × Int)} {bs : List Int} (h : Bs row bs) {i : Nat} {a : Int} (ea : bs[i]? = some a) (hi : i + 1 = bs.length) {k : Int} (hb : Bd row k) : k ≤ a := by
  obtain ⟨m, hm⟩ := List.getElem?_of_mem ((h.mem k).mpr hb)
  have hl := (List.getElem?_eq_some_iff.mp hm).1
  rcases Nat.lt_or_ge m i with z | z
  · have := h.lt z hm ea
    omega
  · have z2 : m = i := by omega
    subst z2
    rw [ea] at hm
    cases hm
    exact Int.le_refl _
theorem Dd.bs {row : List (Int × Int)} {kvs : List (Key × V)} (dd : Dd row kvs) {ks bs : List Int} (ek : kvs.map (·.1) = ks.map Sum.inl) (perm : bs.Perm ks) (srt : bs.Pairwise (· ≤ ·)) : Bs row bs := by
  have ndk : ks.Nodup := by
    have z := dd.nd
    rw [ek] at z
    exact List.Pairwise.of_map Sum.inl (fun a b h e => h (by rw [e])) z
  have ndb : bs.Nodup := perm.nodup_iff.mpr ndk
  refine ⟨fun k => ?_, ?_⟩
  · rw [perm.mem_iff]
    constructor
    · intro hk
      have hm : (Sum.inl k : Key) ∈ kvs.map (·.1) := by
        rw [ek]
        exact List.mem_map.mpr ⟨k, hk, rfl⟩
      by_cases b : Bd row k
      · exact b
      · have v := dd.val k
        rw [if_neg b] at v
        exact absurd hm (valV_not v)
    · intro b
      have v := dd.val k
      rw [if_pos b] at v
      have hm := valV_in v
      rw [ek] at hm
      obtain ⟨j, hj, e⟩ := List.mem_map.mp hm
      rw [← Sum.inl.inj e]
      exact hj
  · refine (srt.and ndb).imp fun {a b} h => ?_
    have h1 := h.1
    have h2 := h.2
    omega
theorem Cb_next {row : List (Int × Int)} (g : Good row) {bs : List Int} (h : Bs row bs) {i : Nat} {a b : Int} (ea : bs[i]? = some a) (eb : bs[i + 1]? = some b) (a0 : 0 ≤ a) :
    Cb row b.toNat = (if 0 < depI row a then Cb row a.toNat ++ [(a, b - 1)] else Cb row a.toNat) ∧ depI row (b - 1) = depI row a := by
  have ab := h.lt (Nat.lt_succ_self i) ea eb
  have gap := h.gap ea eb
  have hb : Bd row a := (h.mem a).mp (List.mem_of_getElem? ea)
  have ca : ((a.toNat : Nat) : Int) = a := by omega
  have seg := Cb_seg g (a := a.toNat) (b - a - 1).toNat (fun j h1 h2 => gap j (by omega) (by omega))
  have e : a.toNat + (b - a - 1).toNat + 1 = b.toNat := by omega
  rw [e, ca, if_pos hb, show a + ((b - a - 1).toNat : Int) = b - 1 by omega] at seg
  refine ⟨seg, ?_⟩
  have dc := dep_const g (a := a) (b - a - 1).toNat (fun j h1 h2 => gap j h1 (by omega))
  rw [show a + ((b - a - 1).toNat : Int) = b - 1 by omega] at dc
  exact dc
def atB (row : List (Int × Int)) (bs : List Int) (i : Nat) : List (Int × Int) := match bs[i]? with
  | some b => Cb row b.toNat
  | none => []
def depB (row : List (Int × Int)) (bs : List Int) (i : Nat) : Int := match bs[i]? with
  | some b => depI row (b - 1)
  | none => 0
theorem atB_some {row : List (Int × Int)} {bs : List Int} {i : Nat} {b : Int} (e : bs[i]? = some b) : atB row bs i = Cb row b.toNat := by
  unfold atB
  rw [e]
theorem depB_some {row : List (Int × Int)} {bs : List Int} {i : Nat} {b : Int} (e : bs[i]? = some b) : depB row bs i = depI row (b - 1) := by
  unfold depB
  rw [e]
theorem atB_start {row : List (Int × Int)} (g : Good row) {bs : List Int} (h : Bs row bs) : atB row bs 0 = [] ∧ depB row bs 0 = 0 := by
  cases e : bs[0]? with
  | none =>
    unfold atB depB
    rw [e]
    exact ⟨rfl, rfl⟩
  | some b =>
    rw [atB_some e, depB_some e]
    have low : ∀ q ∈ row, b ≤ q.1 := fun q hq => h.first e ⟨q, hq, .inl rfl⟩
    have b0 : 0 ≤ b := by
      obtain ⟨q, hq, w⟩ := (h.mem b).mp (List.mem_of_getElem? e)
      have := g q hq
      omega
    refine ⟨Cb_low fun q hq => ?_, dep_zero fun q hq => .inl ?_⟩
    · have := low q hq
      omega
    · have := low q hq
      omega
theorem atB_end {row : List (Int × Int)} (g : Good row) {bs : List Int} (h : Bs row bs) {i : Nat} (hi : i = bs.length - 1) : atB row bs i = blocksOf row := by
  cases e : bs[i]? with
  | none =>
    have le := List.getElem?_eq_none_iff.mp e
    have nil : bs = [] := by
      cases bs with
      | nil => rfl
      | cons x r =>
        rw [List.length_cons] at hi le
        omega
    have rn : row = [] := by
      cases row with
      | nil => rfl
      | cons q r =>
        have z := (h.mem q.1).mpr ⟨q, List.mem_cons_self, .inl rfl⟩
        rw [nil] at z
        cases z
    unfold atB
    rw [e, rn]
    rfl
  | some b =>
    have lt := (List.getElem?_eq_some_iff.mp e).1
    rw [atB_some e]
    apply Cb_all
    intro q hq
    have := h.last e (by omega) ⟨q, hq, .inr rfl⟩
    omega
/-- few enough keys -/
def FewK (row : List (Int × Int)) : Prop := row.length ≤ 31 ∨ (row.length ≤ 60 ∧ ∃ L : List Int, L.length < 64 ∧ ∀ q ∈ row, q.1 ∈ L ∧ q.2 + 1 ∈ L)
theorem FewK.le {row : List (Int × Int)} (h : FewK row) : row.length ≤ 60 := by
  rcases h with h | h
  · omega
  · exact h.1
theorem FewK.ks {row : List (Int × Int)} (h : FewK row) {kvs : List (Key × V)} (dd : Dd row kvs) {ks : List Int} (ek : kvs.map (·.1) = ks.map Sum.inl) : ks.length < 64 := by
  rcases h with h | ⟨_, L, hl, h⟩
  · have dl := dd.len
    have z := congrArg List.length ek
    rw [List.length_map, List.length_map] at z
    omega
  · have ndk : ks.Nodup := by
      have z := dd.nd
      rw [ek] at z
      exact List.Pairwise.of_map Sum.inl (fun a b h e => h (by rw [e])) z
    refine Nat.lt_of_le_of_lt (nodup_le ndk fun k hk => ?_) hl
    have hm : (Sum.inl k : Key) ∈ kvs.map (·.1) := by
      rw [ek]
      exact List.mem_map.mpr ⟨k, hk, rfl⟩
    by_cases b : Bd row k
    · obtain ⟨q, hq, e⟩ := b
      rcases e with e | e
      · rw [← e]
        exact (h q hq).1
      · rw [← e]
        exact (h q hq).2
    · have v := dd.val k
      rw [if_neg b] at v
      exact absurd hm (valV_not v)
def sp_find_blocks : Sp := fun vs H Q _ => ∃ (a : Addr) (us : List V) (row : List (Int × Int)), vs = [.ref a] ∧ H a = some (.tup us) ∧ Ivs H us row ∧ Good row ∧ FewK row ∧
  ∀ H' p ws, Same H H' → H' p = some (.tup ws) → Ivs H' ws (blocksOf row) → Q (.ref p) H'
theorem cutFrom1 (xs : List V) : cutV xs (some 1) none = xs.drop 1 := by
  unfold cutV
  rw [show HT.sIx xs.length 0 (some 1) = min 1 xs.length from HT.sIx_nat xs.length 0 1, HT.sIx_none]
  cases xs with
  | nil => rfl
  | cons x r =>
    rw [List.length_cons, show min 1 (r.length + 1) = 1 by omega]
    show List.take (r.length + 1 - 1) r = r
    rw [Nat.add_sub_cancel]
    exact List.take_length
theorem ok_find_blocks (T : Tx K mg f_depth_changes f_find_blocks f_is_number f_is_position f_is_tuple_of f_is_interval f_is_ascending f_has_position f_contains f_is_demand f_serves f_conflict f_is_independent f_demands_at_blocks f_is_open f_open_demands f_shadow_target f_pieces_inside f_first_gap f_find_missing f_require_few_blocks f_decisive_demands f_largest_independent f_unserved_demands f_helpful_piece f_smallest_solution f_solve f_are_witnesses f_solution_holds f_law_draws f_law_next f_law_one f_law_spans f_law_targets f_law_covers f_law_is_interval f_law_is_demand f_law_rising f_law_served f_law_clash f_law_are_witnesses f_law_solved f_law_bent f_law d_depth_changes d_find_blocks d_is_number d_is_position d_is_tuple_of d_is_interval d_is_ascending d_has_position d_contains d_is_demand d_serves d_conflict d_is_independent d_demands_at_blocks d_is_open d_open_demands d_shadow_target d_pieces_inside d_first_gap d_find_missing d_require_few_blocks d_decisive_demands d_largest_independent d_unserved_demands d_helpful_piece d_smallest_solution d_solve d_are_witnesses d_solution_holds d_law_draws d_law_next d_law_one d_law_spans d_law_targets d_law_covers d_law_is_interval d_law_is_demand d_law_rising d_law_served d_law_clash d_law_are_witnesses d_law_solved d_law_bent d_law t_LAST_POSITION t_MAX_BLOCKS) : FnOk P w K mg base CX0 2 f_find_blocks d_find_blocks ["intervals"] sp_find_blocks := by
  refine T.F_find_blocks.ok sc_find_blocks (fun vs H Q E h => ?_) (fun cdv A outer s H vs Q E hr h => ?_)
  · obtain ⟨a, us, row, rfl, _⟩ := h
    rfl
  · obtain ⟨a, us, row, rfl, ha, iv, good, few, q⟩ := h
    refine ⟨_, (pss_cons (ps_set (i := 1) sc_find_blocks.nd rfl (Or.inl rfl) (pe_call (ok_depth_changes T) (hr.mono (by decide)) (by rfl) T.g_depth_changes T.F_depth_changes.kp T.b_depth_changes .nil pass0 (pa_cons (pv 0) pa_nil)))
      (pss_cons (ps_set (i := 2) sc_find_blocks.nd rfl (Or.inl rfl) (pe_callB (call_sortedDI rfl) (by rfl) T.z_sorted (by decide +kernel) (pa_cons (pv 1) pa_nil)))
      (pss_cons (ps_set (i := 3) sc_find_blocks.nd rfl (Or.inl rfl) (pe_lst pa_nil))
      (pss_cons (ps_set (i := 4) sc_find_blocks.nd rfl (Or.inl rfl) pe_int)
      (pss_cons (ps_for PassesOwn.never rfl (pi_zip (by rfl) T.z_zip (pa_cons (pv 2) (pa_cons (pe_slice sl_list (pv 2) (po_some pe_int) po_none) pa_nil))) (pg_tup rfl (pgs_cons (pg_name (i := 5) sc_find_blocks.nd rfl (Or.inl rfl)) (pgs_cons (pg_name (i := 6) sc_find_blocks.nd rfl (Or.inl rfl)) pgs_nil)))
      (pss_cons (ps_aug (i := 4) sc_find_blocks.nd rfl (Or.inl rfl) (pe_dget (hu_of hr) (pv 1) (pv 5) (fun _ _ => rfl)) ip_add)
      (pss_one (ps_if (pt_cmpR op_gt (pv 4) pe_int (nomark _))
      (pss_one (ps_expr (pe_bm PySem.F.plainAttrs_list PySem.F.slot_list_append PySem.F.type_list_append mt_append (pv 3) (pa_cons (pe_tup (pa_cons (pv 5) (pa_cons (pe_op op_sub (pv 6) pe_int) pa_nil))) pa_nil))))
      pss_nil))))
      (pss_one (ps_ret (pe_callTy call_tuple_of (by rfl) T.z_tuple (by decide +kernel) (pa_cons (pv 3) pa_nil))))))))), ?_⟩
    refine ⟨.ref a, rfl, a, us, row, rfl, ha, iv, fun x hx => (good x hx).2, Nat.le_trans few.le (by decide), fun H1 pc kvs s1 npc ec dd => ?_⟩
    obtain ⟨ks, ek⟩ := dd.keys
    have lk : kvs.length = ks.length := by
      have z := congrArg List.length ek
      rw [List.length_map, List.length_map] at z
      exact z
    have dl := dd.len
    have few60 := few.le
    refine ⟨.ref pc, rfl, pc, kvs, ks, rfl, .inl ec, ek, few.ks dd ek, fun bs pb perm srt npb => ?_⟩
    have hB := dd.bs ek perm srt
    have lb : bs.length = ks.length := perm.length_eq
    have s2 := same_new (o := .lst (bs.map V.int)) npb
    have eb := upd_same (H := H1) (a := pb) (o := .lst (bs.map V.int))
    generalize upd H1 pb (.lst (bs.map V.int)) = H2 at *
    refine ⟨by show 0 ≤ sizeLine; decide, fun pl npl => ?_⟩
    have nbl : pb ≠ pl := ne_of_none eb npl
    have ncl : pc ≠ pl := ne_of_none (s2 _ _ ec) npl
    have npl0 : H pl = none := (s1.trans s2).free npl
    have s3 := same_new (o := .lst []) npl
    have el := upd_same (H := H2) (a := pl) (o := .lst [])
    generalize upd H2 pl (.lst []) = H3 at *
    refine ⟨.ref pb, rfl, .ref pb, rfl, 1, rfl, pb, _, rfl, SqL.of (s3 _ _ eb), fun pz npz => ?_⟩
    rw [cutFrom1]
    have nlz : pl ≠ pz := ne_of_none el npz
    have s4 := same_new (o := .lst ((bs.map V.int).drop 1)) npz
    have ez := upd_same (H := H3) (a := pz) (o := .lst ((bs.map V.int).drop 1))
    generalize upd H3 pz (.lst ((bs.map V.int).drop 1)) = H4 at *
    replace eb := s4 _ _ (s3 _ _ eb)
    replace ec := s4 _ _ (s3 _ _ (s2 _ _ ec))
    replace el := s4 _ _ el
    have sm4 : Same H H4 := s1.trans (s2.trans (s3.trans s4))
    obtain ⟨st1, st2⟩ := atB_start good hB
    refine ⟨pb, pz, bs.map V.int, (bs.map V.int).drop 1, rfl, SqL.of eb, SqL.of ez, ?_⟩
    refine ⟨fun i m σ H' => i + m = bs.length - 1 ∧ Same H H' ∧ H' pb = some (.lst (bs.map V.int)) ∧ H' pz = some (.lst ((bs.map V.int).drop 1)) ∧ H' pc = some (.dK kvs) ∧ (∃ ws, H' pl = some (.lst ws) ∧ ws.length ≤ i ∧ Ivs H' ws (atB row bs i)) ∧
        ∃ y5 y6, σ = [some (.ref a), some (.ref pc), some (.ref pb), some (.ref pl), some (.int (depB row bs i)), y5, y6],
      ⟨bs.length - 1, by omega, sm4, eb, ez, ec, ⟨[], el, Nat.zero_le _, by rw [st1]; exact .nil⟩, none, none, by rw [st2]; rfl⟩, fun i m σ H5 hW => ?_⟩
    obtain ⟨em, sm, fb, fz, fc, ⟨ws, fl, wl, ivw⟩, y5, y6, rfl⟩ := hW
    by_cases hi : i < bs.length - 1
    · obtain ⟨x, ex⟩ : ∃ x, bs[i]? = some x := ⟨bs[i], List.getElem?_eq_getElem (by omega)⟩
      obtain ⟨y, ey⟩ : ∃ y, bs[i + 1]? = some y := ⟨bs[i + 1], List.getElem?_eq_getElem (by omega)⟩
      have g1 : (bs.map V.int)[i]? = some (.int x) := by
        rw [List.getElem?_map, ex]
        rfl
      have g2 : ((bs.map V.int).drop 1)[i]? = some (.int y) := by
        rw [List.getElem?_drop, Nat.add_comm 1 i, List.getElem?_map, ey]
        rfl
      have hbx : Bd row x := (hB.mem x).mp (List.mem_of_getElem? ex)
      have x0 : 0 ≤ x := by
        obtain ⟨r, hr1, w1⟩ := hbx
        have := good r hr1
        omega
      obtain ⟨cn, dn⟩ := Cb_next good hB ex ey x0
      have hval : valV kvs (Sum.inl x) = some (.int (delI row x)) := by
        rw [dd.val, if_pos hbx]
      refine .inr ⟨⟨_, _, _, _, SqL.of fb, SqL.of fz, g1, g2⟩, fun σ' H' => Same H H' ∧ H' pb = some (.lst (bs.map V.int)) ∧ H' pz = some (.lst ((bs.map V.int).drop 1)) ∧ H' pc = some (.dK kvs) ∧ (∃ ws, H' pl = some (.lst ws) ∧ ws.length ≤ i + 1 ∧ Ivs H' ws (atB row bs (i + 1))) ∧
          ∃ y5 y6, σ' = [some (.ref a), some (.ref pc), some (.ref pb), some (.ref pl), some (.int (depB row bs (i + 1))), y5, y6], fun σ' H' hN => ?_, fun z H' hy => ?_⟩
      · obtain ⟨n1, n2, n3, n4, n5, n6⟩ := hN
        exact ⟨m - 1, by omega, by omega, n1, n2, n3, n4, n5, n6⟩
      · obtain ⟨tt, x1, x2, rfl, nT, rfl, f1, f2⟩ := hy
        have ex1 : x1 = .int x := Option.some.inj ((f1 _ (SqL.of fb)).symm.trans g1)
        have ex2 : x2 = .int y := Option.some.inj ((f2 _ (SqL.of fz)).symm.trans g2)
        subst ex1 ex2
        have sT := same_new (o := .tup [.int x, .int y]) nT
        have eT := upd_same (H := H5) (a := tt) (o := .tup [.int x, .int y])
        generalize upd H5 tt (.tup [.int x, .int y]) = H6 at *
        refine ⟨tt, _, rfl, SqT.of eT, rfl, .int x, [.int y], rfl, .int y, [], rfl, rfl, ?_⟩
        have dg := DGet.k (k := Sum.inl x) (sT _ _ fc)
        rw [hval] at dg
        refine ⟨_, rfl, .ref pc, rfl, .int x, rfl, pc, _, rfl, dg, _, _, rfl, rfl, ?_⟩
        have ed : depB row bs i + delI row x = depI row x := by
          rw [depB_some ex]
          exact (dep_step good x).symm
        have ed2 : depB row bs (i + 1) = depI row x := by
          rw [depB_some ey]
          exact dn
        have ea2 : atB row bs (i + 1) = if 0 < depI row x then atB row bs i ++ [(x, y - 1)] else atB row bs i := by
          rw [atB_some ey, atB_some ex]
          exact cn
        refine ⟨_, rfl, _, _, rfl, rfl, _, rfl, ite2 (fun e => ?_) (fun e => ?_)⟩
        · have e1 : 0 < depB row bs i + delI row x := of_decide_eq_true e
          rw [ed] at e1
          refine ⟨.ref pl, rfl, .inl ⟨rfl, _, SqL.of (sT _ _ fl)⟩, .int x, rfl, .int y, rfl, _, _, rfl, rfl, by show 2 ≤ sizeLine; decide, fun t nt => ?_⟩
          have st := same_new (o := .tup [.int x, .int (y - 1)]) nt
          have et := upd_same (H := H6) (a := t) (o := .tup [.int x, .int (y - 1)])
          generalize upd H6 t (.tup [.int x, .int (y - 1)]) = H7 at *
          have fl7 := st _ _ (sT _ _ fl)
          refine ⟨pl, ws, _, rfl, rfl, fl7, small1000 (by omega), ?_⟩
          have up : ∀ {b' : Addr} {o' : HO}, b' ≠ pl → H5 b' = some o' → (upd H7 pl (.lst (ws ++ [.ref t]))) b' = some o' := fun nb e' => by
            rw [upd_ne nb]
            exact st _ _ (sT _ _ e')
          have upI : ∀ {vs : List V} {qs : List (Int × Int)}, Ivs H5 vs qs → Ivs (upd H7 pl (.lst (ws ++ [.ref t]))) vs qs := by
            intro vs qs hv
            induction hv with
            | nil => exact .nil
            | cons e' _ ih => exact .cons (up (ne_of e' fl (fun z => by cases z)) e') ih
          refine ⟨fun b' o' e' => up (ne_of_none e' npl0) (sm _ _ e'), up nbl fb, up nlz.symm fz, up ncl fc, ⟨_, upd_same, ?_, ?_⟩, some (.int x), some (.int y), ?_⟩
          · rw [List.length_append, List.length_singleton]
            omega
          · rw [ea2, if_pos e1]
            refine (upI ivw).snoc ?_
            rw [upd_ne (ne_of et fl7 (fun z => by cases z))]
            exact et
          · rw [ed2, ← ed]
            rfl
        · have e1 : ¬ 0 < depI row x := fun z => e (by
            rw [← ed] at z
            exact decide_eq_true z)
          refine ⟨sm.trans sT, sT _ _ fb, sT _ _ fz, sT _ _ fc, ⟨ws, sT _ _ fl, by omega, ?_⟩, some (.int x), some (.int y), ?_⟩
          · rw [ea2, if_neg e1]
            exact ivw.same sT
          · rw [ed2, ← ed]
            rfl
    · refine .inl ⟨⟨_, _, SqL.of fb, SqL.of fz, .inr ?_⟩, ?_⟩
      · rw [List.length_drop, List.length_map]
        omega
      · have ei : i = bs.length - 1 := by omega
        rw [atB_end good hB ei] at ivw
        refine ⟨.ref pl, rfl, pl, ws, rfl, .inl ⟨SqL.of fl, fun p np => ?_⟩⟩
        exact q _ p ws (sm.trans (same_new np)) upd_same (ivw.same (same_new np))

/-! ### tuples joined and cut, whichever object comes out -/
theorem catA_any {K : PySem.W.Frag} {H : Hp} {a b : Addr} {xs ys : List V} {Q : VK} (h1 : H a = some (.tup xs)) (h2 : H b = some (.tup ys)) (sz : xs.length + ys.length ≤ sizeLine) (k : ∀ H' p, Same H H' → H' p = some (.tup (xs ++ ys)) → Q (.ref p) H') : rCatA K (.ref a) (.ref b) H Q := by
  refine ⟨a, b, xs, ys, rfl, rfl, SqT.of h1, SqT.of h2, sz, fun e => k H b (Same.refl _) ?_, fun _ e => k H a (Same.refl _) ?_, fun _ _ p np => k _ p (same_new np) upd_same⟩
  · rw [e]
    exact h2
  · rw [e, List.append_nil]
    exact h1
theorem slA_any {K : PySem.W.Frag} {H : Hp} {a : Addr} {xs : List V} {lo hi : Option Int} {Q : VK} (h1 : H a = some (.tup xs)) (k : ∀ H' p, Same H H' → H' p = some (.tup (cutV xs lo hi)) → Q (.ref p) H') : rSlA K (.ref a) lo hi H Q := by
  refine ⟨a, xs, rfl, SqT.of h1, fun e => k H a (Same.refl _) ?_, fun _ p np => k _ p (same_new np) upd_same⟩
  have e2 : cutV xs lo hi = xs := by
    unfold cutV
    rw [e.1, e.2]
    simp
  rw [e2]
  exact h1
theorem Ivs.take {H : Hp} {vs : List V} {ps : List (Int × Int)} (h : Ivs H vs ps) : ∀ n : Nat, Ivs H (vs.take n) (ps.take n) := by
  induction h with
  | nil =>
    intro n
    rw [List.take_nil, List.take_nil]
    exact .nil
  | cons e _ ih =>
    intro n
    cases n with
    | zero => exact .nil
    | succ n => exact .cons e (ih n)

/-! ### demands at the beginnings of blocks; open demands -/
def dabT (ts : List (Int × Int)) (x : Int) : List (Int × Int × Int) := (ts.filter fun t => atP t.1 t.2 x).map fun t => (x, t.1, t.2)
def dab (ts bs : List (Int × Int)) : List (Int × Int × Int) := bs.flatMap fun b => dabT ts b.1
theorem dab_snoc {ts bs : List (Int × Int)} {b : Int × Int} : dab ts (bs ++ [b]) = dab ts bs ++ dabT ts b.1 := by
  unfold dab
  rw [List.flatMap_append]
  simp
theorem dab_len {ts : List (Int × Int)} : ∀ {bs : List (Int × Int)}, (dab ts bs).length ≤ bs.length * ts.length
  | [] => Nat.zero_le _
  | b :: bs => by
    have ih := dab_len (ts := ts) (bs := bs)
    unfold dab at ih ⊢
    rw [List.flatMap_cons, List.length_append, List.length_cons, Nat.add_mul]
    have : (dabT ts b.1).length ≤ ts.length := by
      unfold dabT
      rw [List.length_map]
      exact List.length_filter_le _ _
    omega
def sp_demands_at_blocks : Sp := fun vs H Q _ => ∃ (a b : Addr) (us ws : List V) (ts bs : List (Int × Int)), vs = [.ref a, .ref b] ∧ H a = some (.tup us) ∧ H b = some (.tup ws) ∧ Ivs H us ts ∧ Ivs H ws bs ∧ ts.length ≤ 30 ∧ bs.length ≤ 200 ∧
  ∀ H' p zs, Same H H' → H' p = some (.lst zs) → Dms H' zs (dab ts bs) → Q (.ref p) H'
theorem ok_demands_at_blocks (T : Tx K mg f_depth_changes f_find_blocks f_is_number f_is_position f_is_tuple_of f_is_interval f_is_ascending f_has_position f_contains f_is_demand f_serves f_conflict f_is_independent f_demands_at_blocks f_is_open f_open_demands f_shadow_target f_pieces_inside f_first_gap f_find_missing f_require_few_blocks f_decisive_demands f_largest_independent f_unserved_demands f_helpful_piece f_smallest_solution f_solve f_are_witnesses f_solution_holds f_law_draws f_law_next f_law_one f_law_spans f_law_targets f_law_covers f_law_is_interval f_law_is_demand f_law_rising f_law_served f_law_clash f_law_are_witnesses f_law_solved f_law_bent f_law d_depth_changes d_find_blocks d_is_number d_is_position d_is_tuple_of d_is_interval d_is_ascending d_has_position d_contains d_is_demand d_serves d_conflict d_is_independent d_demands_at_blocks d_is_open d_open_demands d_shadow_target d_pieces_inside d_first_gap d_find_missing d_require_few_blocks d_decisive_demands d_largest_independent d_unserved_demands d_helpful_piece d_smallest_solution d_solve d_are_witnesses d_solution_holds d_law_draws d_law_next d_law_one d_law_spans d_law_targets d_law_covers d_law_is_interval d_law_is_demand d_law_rising d_law_served d_law_clash d_law_are_witnesses d_law_solved d_law_bent d_law t_LAST_POSITION t_MAX_BLOCKS) : FnOk P w K mg base CX0 2 f_demands_at_blocks d_demands_at_blocks ["targets", "blocks"] sp_demands_at_blocks := by
  refine T.F_demands_at_blocks.ok sc_demands_at_blocks (fun vs H Q E h => ?_) (fun cdv A outer s H vs Q E hr h => ?_)
  · obtain ⟨a, b, us, ws, ts, bs, rfl, _⟩ := h
    rfl
  · obtain ⟨a, b, us, ws, ts, bs, rfl, ha, hb, ivt, ivb, lt, lb, q⟩ := h
    have lu := ivt.length
    have lw := ivb.length
    refine ⟨_, (pss_one (ps_ret (pe_lc2 (own := [("low", 2), ("high", 3), ("target", 4)]) (vs1 := [4]) (g := (gTup K 2 (gCons (gName 2) (gCons (gName 3) gNil)))) (g1 := (gName 4)) (tt := tYes) (by rfl) sc_demands_at_blocks.nd (pi_tup (pv 1)) (blkOk_by (own := [("low", 2), ("high", 3), ("target", 4)]) (N := N_demands_at_blocks) (sc := defScope s_demands_at_blocks) (by decide +kernel)) (by decide) (fun _ _ _ _ _ => (pg_tup rfl (pgs_cons (pg_name (i := 2) sc_demands_at_blocks.nd rfl (Or.inl rfl)) (pgs_cons (pg_name (i := 3) sc_demands_at_blocks.nd rfl (Or.inl rfl)) pgs_nil)))) (fun _ _ _ _ _ => pts_nil) (fun _ _ _ _ _ => (pi_tupK (K := K) rfl (pv 0))) (fun _ _ _ _ _ => (pg_name (i := 4) sc_demands_at_blocks.nd rfl (Or.inl rfl))) (fun _ _ _ _ _ => pts_one (pt_val (pe_call (ok_has_position T) (hr.mono (by decide)) (by rfl) T.g_has_position T.F_has_position.kp T.b_has_position .nil pass0 (pa_cons (pv 4) (pa_cons (pv 2) pa_nil))))) (fun _ _ _ _ _ => (pe_tup (pa_cons (pv 2) (pa_cons (pv 4) pa_nil))))))), ?_⟩
    refine ⟨.ref b, rfl, b, rfl, ⟨_, SqT.of hb⟩, fun D nD => ?_⟩
    refine walkT (K := K) (a := b) (xs := ws) (fun i H' => Same H H' ∧ ∃ zs, H' D = some (.lst zs) ∧ Dms H' zs (dab ts (bs.take i))) ⟨same_new nD, [], upd_same, .nil⟩ (fun i H' _ h => SqT.of (h.1 _ _ hb)) ?_ ?_
    · rintro i v H1 hi ⟨s1, zs, eD, dm⟩
      obtain ⟨bb, x, y, rfl, ep, hbb⟩ := ivb.get hi
      have hil := (List.getElem?_eq_some_iff.mp ep).1
      refine ⟨bb, _, rfl, SqT.of (s1 _ _ hbb), rfl, .int x, [.int y], rfl, .int y, [], rfl, rfl, rfl, ?_⟩
      refine ⟨.ref a, rfl, a, rfl, ⟨_, SqT.of (s1 _ _ ha)⟩, ?_⟩
      refine walkT (K := K) (a := a) (xs := us) (fun j H' => Same H H' ∧ ∃ zs, H' D = some (.lst zs) ∧ Dms H' zs (dab ts (bs.take i) ++ dabT (ts.take j) x)) ⟨s1, zs, eD, by show Dms H1 zs (_ ++ []); rw [List.append_nil]; exact dm⟩ (fun j H' _ h => SqT.of (h.1 _ _ ha)) ?_ ?_
      · rintro j v H2 hj ⟨s2, zs2, eD2, dm2⟩
        obtain ⟨tt, lo, hi2, rfl, et, htt⟩ := ivt.get hj
        have hjl := (List.getElem?_eq_some_iff.mp et).1
        have sz : zs2.length < sizeLine := by
          have h1 := dm2.length
          have h2 := dab_len (ts := ts) (bs := bs.take i)
          have h3 : (dabT (ts.take j) x).length ≤ 30 := by
            unfold dabT
            rw [List.length_map]
            exact Nat.le_trans (List.length_filter_le _ _) (Nat.le_trans (List.length_take_le' _ _) lt)
          have h4 : (bs.take i).length ≤ 200 := Nat.le_trans (List.length_take_le' _ _) lb
          have h5 : (bs.take i).length * ts.length ≤ 200 * 30 := Nat.mul_le_mul h4 lt
          rw [List.length_append] at h1
          rw [show sizeLine = 16777216 by decide]
          omega
        refine ⟨rfl, .ref tt, rfl, .int x, rfl, tt, lo, hi2, x, rfl, s2 _ _ htt, _, rfl, ite2 (fun c => ?_) (fun c => ?_)⟩
        · refine ⟨.int x, rfl, .ref tt, rfl, by show 2 ≤ sizeLine; decide, fun t nt => ?_⟩
          have s3 := same_new (o := .tup [.int x, .ref tt]) nt
          have et3 := upd_same (H := H2) (a := t) (o := .tup [.int x, .ref tt])
          have eD3 := s3 _ _ eD2
          have dm3 := dm2.same s3
          have s23 := s2.trans s3
          generalize upd H2 t (.tup [.int x, .ref tt]) = H3 at *
          refine ⟨zs2, eD3, sz, same_off nD s23, _, upd_same, ?_⟩
          have cc : lo ≤ x ∧ x ≤ hi2 := by
            have z := Bool.and_eq_true_iff.mp c
            exact ⟨of_decide_eq_true z.1, of_decide_eq_true z.2⟩
          have e : dabT (ts.take (j + 1)) x = dabT (ts.take j) x ++ [(x, lo, hi2)] := by
            unfold dabT
            rw [take_filter et, if_pos c, List.map_append]
            rfl
          rw [e, ← List.append_assoc]
          exact (dm3.snoc ⟨⟨t, tt, rfl, et3, s23 _ _ htt⟩, cc.1, cc.2⟩).tps (Tps.lst eD3)
        · refine ⟨s2, zs2, eD2, ?_⟩
          have e : dabT (ts.take (j + 1)) x = dabT (ts.take j) x := by
            unfold dabT
            rw [take_filter et, if_neg c, List.append_nil]
          rw [e]
          exact dm2
      · rintro H2 ⟨s2, zs2, eD2, dm2⟩
        refine ⟨s2, zs2, eD2, ?_⟩
        rw [lu, List.take_length] at dm2
        rw [List.take_add_one, ep]
        show Dms H2 zs2 (dab ts (bs.take i ++ [(x, y)]))
        rw [dab_snoc]
        exact dm2
    · rintro H1 ⟨s1, zs, eD, dm⟩
      rw [lw, List.take_length] at dm
      exact q H1 D zs s1 eD dm
def opB (ps : List (Int × Int)) (d : Int × Int × Int) : Bool := !((ps.map fun q => svI q.1 q.2 d.1 d.2.1 d.2.2).any id)
def sp_is_open : Sp := fun vs H Q _ => ∃ (a : Addr) (v : V) (us : List V) (ps : List (Int × Int)) (p lo hi : Int), vs = [.ref a, v] ∧ H a = some (.tup us) ∧ Ivs H us ps ∧ ps.length < 1000 ∧ Dm H v p lo hi ∧
  ∀ H', Same H H' → Q (.bl (opB ps (p, lo, hi))) H'
theorem ok_is_open (T : Tx K mg f_depth_changes f_find_blocks f_is_number f_is_position f_is_tuple_of f_is_interval f_is_ascending f_has_position f_contains f_is_demand f_serves f_conflict f_is_independent f_demands_at_blocks f_is_open f_open_demands f_shadow_target f_pieces_inside f_first_gap f_find_missing f_require_few_blocks f_decisive_demands f_largest_independent f_unserved_demands f_helpful_piece f_smallest_solution f_solve f_are_witnesses f_solution_holds f_law_draws f_law_next f_law_one f_law_spans f_law_targets f_law_covers f_law_is_interval f_law_is_demand f_law_rising f_law_served f_law_clash f_law_are_witnesses f_law_solved f_law_bent f_law d_depth_changes d_find_blocks d_is_number d_is_position d_is_tuple_of d_is_interval d_is_ascending d_has_position d_contains d_is_demand d_serves d_conflict d_is_independent d_demands_at_blocks d_is_open d_open_demands d_shadow_target d_pieces_inside d_first_gap d_find_missing d_require_few_blocks d_decisive_demands d_largest_independent d_unserved_demands d_helpful_piece d_smallest_solution d_solve d_are_witnesses d_solution_holds d_law_draws d_law_next d_law_one d_law_spans d_law_targets d_law_covers d_law_is_interval d_law_is_demand d_law_rising d_law_served d_law_clash d_law_are_witnesses d_law_solved d_law_bent d_law t_LAST_POSITION t_MAX_BLOCKS) : FnOk P w K mg base CX0 3 f_is_open d_is_open ["pieces", "demand"] sp_is_open := by
  refine T.F_is_open.ok sc_is_open (fun vs H Q E h => ?_) (fun cdv A outer s H vs Q E hr h => ?_)
  · obtain ⟨a, v, us, ps, p, lo, hi, rfl, _⟩ := h
    rfl
  · obtain ⟨a, v, us, ps, p, lo, hi, rfl, ha, iv, few, dm, q⟩ := h
    have lu := iv.length
    obtain ⟨u, t, rfl, e1, e2⟩ := dm.ex
    refine ⟨_, (pss_one (ps_ret (pe_not (pe_callB (cr_any rfl) (by rfl) T.z_any (by decide +kernel) (pa_cons (pe_lc (own := [("piece", 2)]) (g := (gName 2)) (tt := tYes) (by rfl) sc_is_open.nd (pi_tup (pv 0)) (blkOk_by (own := [("piece", 2)]) (N := N_is_open) (sc := defScope s_is_open) (by decide +kernel)) (fun _ _ _ _ _ => (pg_name (i := 2) sc_is_open.nd rfl (Or.inl rfl))) (fun _ _ _ _ _ => pts_nil) (fun _ _ _ _ _ => (pe_call (ok_serves T) (hr.mono (by decide)) (by rfl) T.g_serves T.F_serves.kp T.b_serves .nil pass0 (pa_cons (pv 2) (pa_cons (pv 1) pa_nil))))) pa_nil))))), ?_⟩
    refine ⟨.ref a, rfl, a, rfl, ⟨_, SqT.of ha⟩, fun D nD => ?_⟩
    refine lcT (K := K) (a := a) (xs := us) (fun i H' ws => ws = ((ps.take i).map fun q : Int × Int => svI q.1 q.2 p lo hi).map V.bl) nD (fun H' s => SqT.of (s _ _ ha)) (by omega) (fun _ _ _ _ _ r => r) (fun i H' ws r => by rw [r, List.length_map, List.length_map]; exact List.length_take_le _ _) (fun _ => rfl) ?_ ?_
    · rintro i z H' N acc hi2 sm eD sz r no yes
      obtain ⟨bb, x, y, rfl, ep, hb⟩ := iv.get hi2
      refine ⟨rfl, .ref bb, rfl, .ref u, rfl, bb, u, t, x, y, p, lo, hi, rfl, sm _ _ hb, sm _ _ e1, sm _ _ e2, yes H' _ (Same.refl _) ?_⟩
      rw [r, List.take_add_one, ep, List.map_append, List.map_append]
      rfl
    · intro H1 ws s1 eD r
      rw [lu, List.take_length] at r
      subst r
      exact ⟨D, _, rfl, SqL.of eD, _, rfl, q H1 s1⟩
def sp_open_demands : Sp := fun vs H Q _ => ∃ (a b : Addr) (us ws : List V) (ts ps : List (Int × Int)), vs = [.ref a, .ref b] ∧ H a = some (.tup us) ∧ H b = some (.tup ws) ∧ Ivs H us ts ∧ Ivs H ws ps ∧ Good (ts ++ ps) ∧ ts.length ≤ 30 ∧ FewK (ts ++ ps) ∧
  ∀ H' p zs, Same H H' → H' p = some (.tup zs) → Dms H' zs ((dab ts (blocksOf (ts ++ ps))).filter (opB ps)) → Q (.ref p) H'
theorem ok_open_demands (T : Tx K mg f_depth_changes f_find_blocks f_is_number f_is_position f_is_tuple_of f_is_interval f_is_ascending f_has_position f_contains f_is_demand f_serves f_conflict f_is_independent f_demands_at_blocks f_is_open f_open_demands f_shadow_target f_pieces_inside f_first_gap f_find_missing f_require_few_blocks f_decisive_demands f_largest_independent f_unserved_demands f_helpful_piece f_smallest_solution f_solve f_are_witnesses f_solution_holds f_law_draws f_law_next f_law_one f_law_spans f_law_targets f_law_covers f_law_is_interval f_law_is_demand f_law_rising f_law_served f_law_clash f_law_are_witnesses f_law_solved f_law_bent f_law d_depth_changes d_find_blocks d_is_number d_is_position d_is_tuple_of d_is_interval d_is_ascending d_has_position d_contains d_is_demand d_serves d_conflict d_is_independent d_demands_at_blocks d_is_open d_open_demands d_shadow_target d_pieces_inside d_first_gap d_find_missing d_require_few_blocks d_decisive_demands d_largest_independent d_unserved_demands d_helpful_piece d_smallest_solution d_solve d_are_witnesses d_solution_holds d_law_draws d_law_next d_law_one d_law_spans d_law_targets d_law_covers d_law_is_interval d_law_is_demand d_law_rising d_law_served d_law_clash d_law_are_witnesses d_law_solved d_law_bent d_law t_LAST_POSITION t_MAX_BLOCKS) : FnOk P w K mg base CX0 4 f_open_demands d_open_demands ["targets", "pieces"] sp_open_demands := by
  refine T.F_open_demands.ok sc_open_demands (fun vs H Q E h => ?_) (fun cdv A outer s H vs Q E hr h => ?_)
  · obtain ⟨a, b, us, ws, ts, ps, rfl, _⟩ := h
    rfl
  · obtain ⟨a, b, us, ws, ts, ps, rfl, ha, hb, ivt, ivp, g, lt, fk, q⟩ := h
    have lu := ivt.length
    have lw := ivp.length
    have ll : (ts ++ ps).length ≤ 60 := fk.le
    have ll2 : ts.length + ps.length ≤ 60 := by rw [← List.length_append]; exact ll
    refine ⟨_, (pss_cons (ps_set (i := 2) sc_open_demands.nd rfl (Or.inl rfl) (pe_call (ok_demands_at_blocks T) (hr.mono (by decide)) (by rfl) T.g_demands_at_blocks T.F_demands_at_blocks.kp T.b_demands_at_blocks .nil pass0 (pa_cons (pv 0) (pa_cons (pe_call (ok_find_blocks T) (hr.mono (by decide)) (by rfl) T.g_find_blocks T.F_find_blocks.kp T.b_find_blocks .nil pass0 (pa_cons (pe_op op_catA (pv 0) (pv 1)) pa_nil)) pa_nil))))
      (pss_one (ps_ret (pe_callTy call_tuple_of (by rfl) T.z_tuple (by decide +kernel) (pa_cons (pe_lc (own := [("demand", 3)]) (g := (gName 3)) (by rfl) sc_open_demands.nd (pi_list (pv 2)) (blkOk_by (own := [("demand", 3)]) (N := N_open_demands) (sc := defScope s_open_demands) (by decide +kernel)) (fun _ _ _ _ _ => (pg_name (i := 3) sc_open_demands.nd rfl (Or.inl rfl))) (fun _ _ _ _ _ => pts_one (pt_val (pe_call (ok_is_open T) (hr.mono (by decide)) (by rfl) T.g_is_open T.F_is_open.kp T.b_is_open .nil pass0 (pa_cons (pv 1) (pa_cons (pv 3) pa_nil))))) (fun _ _ _ _ _ => (pv 3))) pa_nil))))), ?_⟩
    refine ⟨.ref a, rfl, .ref a, rfl, .ref b, rfl, catA_any ha hb (by rw [show sizeLine = 16777216 by decide]; omega) (fun H1 c s1 ec => ?_)⟩
    refine ⟨c, us ++ ws, ts ++ ps, rfl, ec, (ivt.same s1).append (ivp.same s1), g, fk, fun H2 bl bws s2 ebl ivb => ?_⟩
    have s12 := s1.trans s2
    have few := blocks_few g
    refine ⟨a, bl, us, bws, ts, _, rfl, s12 _ _ ha, ebl, ivt.same s12, ivb, by omega, by omega, fun H3 D zs s3 eD dm => ?_⟩
    have s13 := s12.trans s3
    obtain ⟨ds, eds⟩ : ∃ ds, ds = dab ts (blocksOf (ts ++ ps)) := ⟨_, rfl⟩
    rw [← eds] at dm q
    have lds : ds.length ≤ 6000 := by
      have h1 := dab_len (ts := ts) (bs := blocksOf (ts ++ ps))
      have h2 : (blocksOf (ts ++ ps)).length * ts.length ≤ 200 * 30 := Nat.mul_le_mul (by omega) (by omega)
      rw [eds]
      omega
    have lz := dm.length
    refine ⟨.ref D, rfl, D, rfl, ⟨_, SqL.of eD⟩, fun D2 nD2 => ?_⟩
    refine lc_list (K := K) (a := D) (xs := zs) (fun i H' => Same H3 H' ∧ ∃ ys, H' D2 = some (.lst ys) ∧ Dms H' ys ((ds.take i).filter (opB ps))) ⟨same_new nD2, [], upd_same, .nil⟩ (fun i H' _ h => SqL.of (h.1 _ _ eD)) ?_ ?_
    · rintro i v H4 hi ⟨s4, ys, eD2, dmy⟩
      obtain ⟨p, lo, hi2, ed, dmv⟩ := dm.get hi
      have hb4 := s4 _ _ (s13 _ _ hb)
      have dv4 := dmv.same s4
      refine ⟨rfl, .ref b, rfl, v, rfl, b, v, ws, ps, p, lo, hi2, rfl, hb4, ivp.same (s13.trans s4), by omega, dv4, fun H5 s5 => ?_⟩
      have ly : ys.length < sizeLine := by
        have h1 := dmy.length
        have h2 := List.length_filter_le (opB ps) (ds.take i)
        have h3 := List.length_take_le' i ds
        rw [show sizeLine = 16777216 by decide]
        omega
      refine ⟨_, rfl, ite2 (fun c => ?_) (fun c => ?_)⟩
      · refine ⟨v, rfl, ys, s5 _ _ eD2, ly, same_off nD2 (s4.trans s5), _, upd_same, ?_⟩
        rw [take_filter ed, if_pos c]
        exact ((dmy.same s5).snoc (dv4.same s5)).tps (Tps.lst (s5 _ _ eD2))
      · refine ⟨s4.trans s5, ys, s5 _ _ eD2, ?_⟩
        rw [take_filter ed, if_neg c, List.append_nil]
        exact dmy.same s5
    · rintro H4 ⟨s4, ys, eD2, dmy⟩
      rw [lz, List.take_length] at dmy
      refine ⟨D2, ys, rfl, .inl ⟨SqL.of eD2, fun l nl => ?_⟩⟩
      have s5 := same_new (o := .tup ys) nl
      exact q _ l ys (s13.trans (s4.trans s5)) upd_same (dmy.same s5)

abbrev lgN : Nat := 192
theorem cutFrom (xs : List V) (j : Nat) : cutV xs (some (j : Int)) none = xs.drop j := by
  unfold cutV
  rw [show HT.sIx xs.length 0 (some (j : Int)) = min j xs.length from HT.sIx_nat xs.length 0 j, HT.sIx_none]
  rcases Nat.le_total j xs.length with h | h
  · rw [Nat.min_eq_left h]
    exact List.take_of_length_le (by rw [List.length_drop]; exact Nat.le_refl _)
  · rw [Nat.min_eq_right h, List.drop_of_length_le (Nat.le_refl _), List.drop_of_length_le h]
    exact List.take_nil

/-! ### {e for x in xs}, e an int -/
section
variable {X : Cx}
/-- D: the new set; it holds S, n of them -/
def tScI (w : World) (wi : TI) (g : TG) (tt : TT) (te : TE) (us : List Nat) : TE := fun σ H Q => wi σ H fun J Ha => ∀ D, Ha D = none → ∃ W : Nat → Nat → Hp → Prop, (∃ k, W 0 k (upd Ha D (SetO w D (fun _ => false) 0))) ∧ ∀ j k Hb, W j k Hb →
  (J.stop j Hb ∧ Q (.ref D) Hb) ∨ (J.go j Hb ∧ ∃ Nx : Hp → Prop, (∀ Hc, Nx Hc → ∃ k', k' < k ∧ W (j + 1) k' Hc) ∧ ∀ x Hc, J.yld j Hb x Hc → g x (wipe σ us) Hc fun τ Hd => wipe τ us = wipe σ us ∧ tt τ Hd fun b He =>
    if b = true then te τ He fun y Hf => ∃ (c : Int) (S : Int → Bool) (n : Nat), y = .int c ∧ Hf D = some (SetO w D S n) ∧ n + 1 < scanBound ∧ Nx (upd Hf D (SetO w D (fun i => S i || decide (i = c)) (if S c = true then n else n + 1))) else Nx He)
theorem addI_ok {ps : List (Addr × Obj)} {τ : L2.St} {H : Hp} {s : Shared} {E : Value → Shared → Prop} {D : Addr} {S : Int → Bool} {n : Nat} {y : Int} {t : Tok} {Z : Value → Shared → Prop} (J : Inv X ps τ H s) (eD : H D = some (SetO X.w D S n)) (few : n + 1 < scanBound)
    (nx : ∀ s', Inv X ps τ (upd H D (SetO X.w D (fun i => S i || decide (i = y)) (if S y = true then n else n + 1))) s' → Z .none s') : wpAny (model X.prog X.w) X.A (call (.builtin "set.add") [.ref D, .int y t]) Z E s := by
  refine setR_add (setO_get J eD) few fun h' sb new => nx _ ?_
  obtain ⟨o, r1, r2, r3, eo, r4⟩ := id new
  exact J.write (e := D) (t' := s.toks + 1) (by rw [eD]; trivial) (.inl rfl) (fun b u hb hu => (sb.2 b hb).trans hu) ⟨o, eo⟩ (setO_new new)
theorem scI_core {ps : List (Addr × Obj)} {s : Shared} {σ : L2.St} {H : Hp} {Q : VK} {elt tg iter : Expr} {ifs : List Expr} {sc : Scope} {own : List (PySem.Str × Nat)} {pos pos' : Pos} {wi : TI} {g : TG} {tt : TT} {te : TE} {Qf : Value → Shared → Prop}
    (calm : X.calm = true) (nd : X.N.Nodup) (I : Inv X ps σ H s) (hi : PI X tg iter wi) (ok : BlkOk X.N X.env.scope sc own)
    (hg : ∀ (s : Shared) (H : Hp) (C : Addr) (cl : List (Str × Addr)) (fp : List Addr), PG (X.blk s H sc (compEnvC sc cl C X.env) fp) tg g)
    (ht : ∀ (s : Shared) (H : Hp) (C : Addr) (cl : List (Str × Addr)) (fp : List Addr), PTs (X.blk s H sc (compEnvC sc cl C X.env) fp) ifs tt)
    (he : ∀ (s : Shared) (H : Hp) (C : Addr) (cl : List (Str × Addr)) (fp : List Addr), PE (X.blk s H sc (compEnvC sc cl C X.env) fp) elt te) (hs : ∀ x, foldedSetIterable iter X.env x = pure x)
    (h : tScI X.w wi g tt te (own.map (·.2)) σ H Q)
    (back : ∀ D C s' m H', Inv X ps σ H' s' → Q (.ref D) H' → s'.heap.Ns C m → FpOk X ps H' C → compPost (model X.prog X.w) X.A X.xe none Qf (.ref D) C (.ok .next) s') :
    wpAny (model X.prog X.w) X.A (comprehension (.SetComp elt [⟨tg, iter, ifs, 0⟩] sc pos) sc X.env pos' (newSet (.type "set")) false (eval iter X.env) none) Qf X.xe s := by
  have frees : ∀ y ∈ sc.names, y.2 = .free → ∃ c, X.env.cells.lookup y.1 = some c := fun y hy e => (ok.free y hy e).elim (fun k => I.ok.has _ (.inl k)) (fun k => I.ok.has _ (.inr k))
  refine wpAny_comprehension_free (use := none) rfl hs (closure_ok frees) ok.kind (fun y hy e => by rw [ok.uniq y hy, e]) ?_
  refine thn (hi.run ps s σ H _ I h) fun xv sa ha => thn ha fun itv sb hb => ?_
  obtain ⟨it, fp, tn, J, Hb, rfl, Ib, T, stb, fb, q⟩ := hb
  refine PpSet.newSet_ok (newEnv_comp ?_)
  have Dn : Hb sb.heap.objs.size = none := Ib.hok.fresh (Nat.le_refl _)
  obtain ⟨W, ⟨k0, w0⟩, turn⟩ := q _ Dn
  have old : ∀ b ∈ fp, b < sb.heap.objs.size := fun b hb => let ⟨_, e, _⟩ := T.obj _ _ stb b hb; Heap.lt_size e
  obtain ⟨Hc, eHc⟩ : ∃ Hc, upd Hb sb.heap.objs.size (SetO X.w sb.heap.objs.size (fun _ => false) 0) = Hc := ⟨_, rfl⟩
  obtain ⟨sc3, es3⟩ : ∃ s3 : Shared, ({ sb with heap := sb.heap.push { cls := .type "set", dict := none, data := .set #[] 0 (.fresh 0 0 (!X.w.params.followText "set-order")) } } : Shared) = s3 := ⟨_, rfl⟩
  have Ic : Inv X ps σ Hc sc3 := by
    rw [← es3, ← eHc]
    exact Ib.laid (t' := sb.toks) (fun b o e => Heap.get?_push_of_some _ e) (Nat.le_refl _) (setO_new (setR_fresh X.w))
  have grown : ∀ b o, sb.heap.get? b = some o → sc3.heap.get? b = some o := fun b o e => by
    rw [← es3]
    exact Heap.get?_push_of_some _ e
  have fc : ∀ b ∈ fp, FpOk X ps Hc b ∧ b < sc3.heap.objs.size := fun b hb => by
    refine ⟨⟨?_, (fb b hb).2⟩, ?_⟩
    · rw [← eHc, upd_ne (Nat.ne_of_lt (old b hb))]
      exact (fb b hb).1
    · obtain ⟨_, e, _⟩ := T.obj _ _ stb b hb
      exact Heap.lt_size (grown _ _ e)
  have stc : tn 0 sc3.heap := T.keep _ _ _ stb fun b _ o e => grown b o e
  have Id := block_start Ic ok nd fc
  rw [eHc] at w0
  generalize eD : sb.heap.objs.size = D at *
  rw [es3]
  generalize eC : sc3.heap.objs.size = C at *
  have pg := hg sc3 Hc C (cellsFrom (C + 1) sc.names (cloFrom X.env.cells sc.names [])) fp
  have pt := ht sc3 Hc C (cellsFrom (C + 1) sc.names (cloFrom X.env.cells sc.names [])) fp
  have pe := he sc3 Hc C (cellsFrom (C + 1) sc.names (cloFrom X.env.cells sc.names [])) fp
  have cL : (compEnvC sc (cellsFrom (C + 1) sc.names (cloFrom X.env.cells sc.names [])) C X.env).locals = C := rfl
  show codeAny _ _ (.compStart (.SetComp elt [⟨tg, iter, ifs, 0⟩] sc pos) 0 (.ref it) (.ref D) (compEnvC sc (cellsFrom (C + 1) sc.names (cloFrom X.env.cells sc.names [])) C X.env)) (compPost (model X.prog X.w) X.A X.xe none Qf (.ref D) C) { sc3 with heap := pushCells (sc3.heap.push { cls := .type "dict", data := .dict #[] }) sc.names }
  generalize compEnvC sc (cellsFrom (C + 1) sc.names (cloFrom X.env.cells sc.names [])) C X.env = ce at *
  have ste : tn 0 ({ sc3 with heap := pushCells (sc3.heap.push { cls := .type "dict", data := .dict #[] }) sc.names } : Shared).heap := T.keep _ _ _ stc fun b _ o e => pushCells_keeps _ _ _ _ (Heap.get?_push_of_some _ e)
  generalize ({ sc3 with heap := pushCells (sc3.heap.push { cls := .type "dict", data := .dict #[] }) sc.names } : Shared) = se at *
  have Id : Inv (X.blk sc3 Hc sc ce fp) [] (wipe σ (own.map (·.2))) Hc se := Id
  have stat : ∀ {τ : L2.St} {H' : Hp} {s' : Shared}, Inv (X.blk sc3 Hc sc ce fp) [] τ H' s' → (∀ b ∈ fp, H' b = none) → ∀ b ∈ fp, FpOk (X.blk sc3 Hc sc ce fp) [] H' b := fun {τ H' s'} J hn b hb =>
    ⟨hn b hb, (J.ok.exf b hb).1, J.ok.exfs b hb, .inl hb, (J.ok.exf b hb).2, fun p hp => absurd (show p ∈ ([] : List (Addr × Obj)) ++ [] from hp) (by simp)⟩
  have loop : codeAny (model X.prog X.w) X.A (.compLoop (.SetComp elt [⟨tg, iter, ifs, 0⟩] sc pos) 0 (.ref it) (.ref D) ce) (compPost (model X.prog X.w) X.A X.xe none Qf (.ref D) C) se := by
    refine PpSet.compLoopS_any (fun k s' => ∃ j H', Inv (X.blk sc3 Hc sc ce fp) [] (wipe σ (own.map (·.2))) H' s' ∧ tn j s'.heap ∧ (∀ b ∈ fp, H' b = none) ∧ W j k H') ?_ k0 ⟨0, Hc, Id, ste, fun b hb => (fc b hb).1.1, w0⟩
    rintro k s5 ⟨j, H5, I5, st5, n5, w5⟩
    rcases turn j k H5 w5 with ⟨stop, qq⟩ | ⟨go, Nx, less, step⟩
    · refine thnF (T.done (X.blk sc3 Hc sc ce fp) rfl rfl rfl calm j [] s5 _ H5 (fun _ _ => False) I5 (stat I5 n5) st5 stop) fun r s6 ⟨er, I6⟩ => ?_
      subst er
      have I7 : Inv X ps σ H5 s6 := Ic.call' (ch := fp) I6.os I6.base I6.hok I6.bare fun b hb => ⟨(fc b hb).1.2.2.2.1, (fc b hb).1.2.1, (fc b hb).1.2.2.2.2.1, (fc b hb).1.2.2.2.2.2⟩
      have nC : H5 C = none := by
        have z : H5 ce.locals = none := I6.free
        rwa [cL] at z
      obtain ⟨m, hn, _⟩ := I6.loc
      have hn : s6.heap.Ns ce.locals m := hn
      rw [cL] at hn
      exact back D C s6 m H5 I7 qq hn (Ic.fpOk (Nat.le_of_eq eC) nC)
    · refine thnF (T.item (X.blk sc3 Hc sc ce fp) rfl rfl rfl calm j [] s5 _ H5 (fun _ _ => False) I5 (stat I5 n5) st5 go) fun r s6 ⟨u, er, h6⟩ => ?_
      subst er
      refine thnF h6 fun _ s7 ⟨x, H7, I7, r7, y7, st7, n7⟩ => ?_
      have P7 := I7.pinned (stat I7 n7) (T.obj _ _ st7)
      refine thnF (pg.run _ s7 _ H7 x u _ P7 r7 (step x H7 y7)) fun _ s8 ⟨τ, H8, I8, hw, q8⟩ => thnF (pt.run _ s8 τ H8 _ I8 q8) fun b s9 ⟨H9, I9, q9⟩ => ?_
      have next : ∀ {s' : Shared} {H' : Hp}, Inv (X.blk sc3 Hc sc ce fp) ([] ++ pinsAt fp s7.heap) τ H' s' → Nx H' → ∃ m, m < k ∧ ∃ j H', Inv (X.blk sc3 Hc sc ce fp) [] (wipe σ (own.map (·.2))) H' s' ∧ tn j s'.heap ∧ (∀ b ∈ fp, H' b = none) ∧ W j m H' := fun {s' H'} J nx => by
        obtain ⟨m', lt, w'⟩ := less H' nx
        have kept : ∀ b ∈ fp, ∀ o, s7.heap.get? b = some o → s'.heap.get? b = some o ∧ H' b = none := fun b hb o e =>
          let z := J.pin (b, o) (List.mem_append_right _ (List.mem_append_right _ (mem_pinsAt hb e)))
          ⟨z.1, z.2.1⟩
        refine ⟨m', lt, j + 1, H', (J.unpinned (pins := [])).weak (by rw [← hw, wipe_length]) (fun i v e => (wipe_some (by rw [hw]; exact e)).1), T.keep _ _ _ st7 fun b hb o e => (kept b hb o e).1, fun b hb => ?_, w'⟩
        obtain ⟨o, e, _⟩ := T.obj _ _ st7 b hb
        exact (kept b hb o e).2
      cases b with
      | false =>
        simp only [Bool.false_eq_true, if_false] at q9 ⊢
        exact next I9 q9
      | true =>
        simp only [if_true] at q9 ⊢
        refine thnF (pe.run _ s9 τ H9 _ I9 q9) fun z s10 ⟨yv, H10, I10, r10, c, S, n, ey, eS, few, nx⟩ => ?_
        subst ey
        obtain ⟨t, rfl⟩ := (show ∃ t, z = Value.int c t from r10)
        exact addI_ok (X := X.blk sc3 Hc sc ce fp) I10 eS few fun s11 I11 => next I11 nx
  exact PpSet.codeAny_compStart_set loop (T.self X.A 0 _ _ _ ste loop)
theorem pe_scI {elt tg iter : Expr} {ifs : List Expr} {sc : Scope} {own : List (PySem.Str × Nat)} {pos : Pos} {wi : TI} {g : TG} {tt : TT} {te : TE} (calm : X.calm = true) (nd : X.N.Nodup) (hi : PI X tg iter wi) (ok : BlkOk X.N X.env.scope sc own)
    (hg : ∀ (s : Shared) (H : Hp) (C : Addr) (cl : List (Str × Addr)) (fp : List Addr), PG (X.blk s H sc (compEnvC sc cl C X.env) fp) tg g)
    (ht : ∀ (s : Shared) (H : Hp) (C : Addr) (cl : List (Str × Addr)) (fp : List Addr), PTs (X.blk s H sc (compEnvC sc cl C X.env) fp) ifs tt)
    (he : ∀ (s : Shared) (H : Hp) (C : Addr) (cl : List (Str × Addr)) (fp : List Addr), PE (X.blk s H sc (compEnvC sc cl C X.env) fp) elt te) (hs : ∀ x, foldedSetIterable iter X.env x = pure x := by intro _; rfl) :
    PE X (.SetComp elt [⟨tg, iter, ifs, 0⟩] sc pos) (tScI X.w wi g tt te (own.map (·.2))) := by
  refine ⟨fun ps s σ H Q I h => ?_⟩
  rw [PpSet.eval_SetComp]
  refine scI_core calm nd I hi ok hg ht he hs h fun D C s' m H' J q hn f => ⟨m, hn, fun h'' sb => ?_⟩
  obtain ⟨f0, f1, f2, f3, f4, f5⟩ := f
  exact ⟨.ref D, H', J.turned (t' := s'.toks) (fun b o hb e => (sb.2 b hb).trans e) f0 f1 f3 f4 f5, rfl, q⟩
end
/-! ### len(s), s a set of ints -/
def rLenSet (w : World) : List V → Hp → VK → Prop := fun xs H Q => ∃ (a : Addr) (S : Int → Bool) (n : Nat), xs = [.ref a] ∧ H a = some (SetO w a S n) ∧ Q (.int n) H
theorem cr_lenSet {X : Cx} : CallR X (.builtin "len") (rLenSet X.w) := by
  intro ps s σ H xs us Q I r h
  obtain ⟨a, S, n, rfl, ha, q⟩ := h
  rw [Vals.ref1 r]
  obtain ⟨o, es, ep, t, ho, hex, hd, _, _, _, lim, fits, rfl, _⟩ := setO_get I ha
  refine call_len_set ho hex hd fits ?_ ⟨.int es.size, H, I.tok _, ⟨_, rfl⟩, q⟩
  unfold scanBound at lim
  omega
def kinds (l : List Int) : List Int := l.foldl (fun acc x => if x ∈ acc then acc else acc ++ [x]) []
theorem kinds_snoc (l : List Int) (a : Int) : kinds (l ++ [a]) = if a ∈ kinds l then kinds l else kinds l ++ [a] := by
  unfold kinds
  rw [List.foldl_append]
  rfl
theorem mem_kinds {l : List Int} : ∀ {x : Int}, x ∈ l → x ∈ kinds l := by
  have h : ∀ n, ∀ l : List Int, l.length = n → ∀ x ∈ l, x ∈ kinds l := by
    intro n
    induction n with
    | zero =>
      intro l e x hx
      rw [List.length_eq_zero_iff.mp e] at hx
      cases hx
    | succ n ih =>
      intro l e x hx
      rcases List.eq_nil_or_concat l with rfl | ⟨m, a, rfl⟩
      · cases hx
      · rw [List.concat_eq_append] at *
        rw [kinds_snoc]
        rw [List.length_append, List.length_singleton] at e
        rcases List.mem_append.mp hx with h | h
        · have := ih m (by omega) x h
          split
          · exact this
          · exact List.mem_append_left _ this
        · rw [List.mem_singleton.mp h]
          split
          · assumption
          · exact List.mem_append_right _ (List.mem_singleton.mpr rfl)
  exact fun {x} hx => h _ l rfl x hx
theorem kinds_len (l : List Int) : (kinds l).length ≤ l.length := by
  have h : ∀ n, ∀ l : List Int, l.length = n → (kinds l).length ≤ n := by
    intro n
    induction n with
    | zero =>
      intro l e
      rw [List.length_eq_zero_iff.mp e]
      exact Nat.le_refl _
    | succ n ih =>
      intro l e
      rcases List.eq_nil_or_concat l with rfl | ⟨m, a, rfl⟩
      · exact Nat.zero_le _
      · rw [List.concat_eq_append] at *
        rw [kinds_snoc]
        rw [List.length_append, List.length_singleton] at e
        have := ih m (by omega)
        split
        · omega
        · rw [List.length_append, List.length_singleton]
          omega
  exact h _ l rfl
/-- over a list: the set of the made ints, and how many they are -/
theorem scL {w : World} {K : PySem.W.Frag} {a : Addr} {xs : List V} {g : TG} {tt : TT} {te : TE} {us : List Nat} {σ : L2.St} {Ha : Hp} {D : Addr} {Qd : Hp → Prop} (ns : List Int) (nD : Ha D = none) (hl : ∀ H', Same Ha H' → SqL K H' a xs) (ln : xs.length = ns.length) (few : ns.length < 1000)
    (hs : ∀ (i : Nat) (x : V) (y : Int) (H' : Hp) (N : Hp → Prop) (S : Int → Bool) (n : Nat), xs[i]? = some x → ns[i]? = some y → Same Ha H' → H' D = some (SetO w D S n) → n + 1 < scanBound → N (upd H' D (SetO w D (fun i => S i || decide (i = y)) (if S y = true then n else n + 1))) → g x (wipe σ us) H' fun τ Hd => wipe τ us = wipe σ us ∧ tt τ Hd fun b He =>
      if b = true then te τ He fun v Hf => ∃ (c : Int) (S : Int → Bool) (n : Nat), v = .int c ∧ Hf D = some (SetO w D S n) ∧ n + 1 < scanBound ∧ N (upd Hf D (SetO w D (fun i => S i || decide (i = c)) (if S c = true then n else n + 1))) else N He)
    (hd : ∀ H' (S : Int → Bool), Same Ha H' → H' D = some (SetO w D S (kinds ns).length) → Qd H') :
    ∃ W : Nat → Nat → Hp → Prop, (∃ k, W 0 k (upd Ha D (SetO w D (fun _ => false) 0))) ∧ ∀ j k Hb, W j k Hb →
      ((Itl K a).stop j Hb ∧ Qd Hb) ∨ ((Itl K a).go j Hb ∧ ∃ Nx : Hp → Prop, (∀ Hc, Nx Hc → ∃ k', k' < k ∧ W (j + 1) k' Hc) ∧ ∀ x Hc, (Itl K a).yld j Hb x Hc → g x (wipe σ us) Hc fun τ Hd => wipe τ us = wipe σ us ∧ tt τ Hd fun b He =>
        if b = true then te τ He fun y Hf => ∃ (c : Int) (S : Int → Bool) (n : Nat), y = .int c ∧ Hf D = some (SetO w D S n) ∧ n + 1 < scanBound ∧ Nx (upd Hf D (SetO w D (fun i => S i || decide (i = c)) (if S c = true then n else n + 1))) else Nx He) := by
  refine ⟨fun j k H => k = xs.length - j ∧ j ≤ xs.length ∧ Same Ha H ∧ ∃ S, H D = some (SetO w D S (kinds (ns.take j)).length) ∧ ∀ i, S i = true ↔ i ∈ kinds (ns.take j), ⟨xs.length, by simp, Nat.zero_le _, same_new nD, _, upd_same, fun i => by simp [kinds]⟩, ?_⟩
  rintro j k Hb ⟨rfl, hj, sm, S, eD, hS⟩
  have q := hl Hb sm
  by_cases lt : j < xs.length
  · refine .inr ⟨⟨xs, xs[j], q, by simp [lt]⟩, fun H => j + 1 ≤ xs.length ∧ Same Ha H ∧ ∃ S, H D = some (SetO w D S (kinds (ns.take (j + 1))).length) ∧ ∀ i, S i = true ↔ i ∈ kinds (ns.take (j + 1)), fun H' p => ⟨xs.length - (j + 1), by omega, rfl, p⟩, fun x Hc yl => ?_⟩
    obtain ⟨e, yl⟩ := yl
    subst e
    have ey : ns[j]? = some (ns[j]'(by omega)) := List.getElem?_eq_getElem _
    generalize ns[j]'(by omega) = y at ey
    have ek : kinds (ns.take (j + 1)) = if y ∈ kinds (ns.take j) then kinds (ns.take j) else kinds (ns.take j) ++ [y] := by
      rw [List.take_add_one, ey]
      exact kinds_snoc _ _
    have kl := kinds_len (ns.take j)
    have tl := List.length_take_le' j ns
    refine hs j x y Hc _ S _ (yl xs q) ey sm eD (by unfold scanBound; omega) ⟨lt, same_off nD sm, fun i => S i || decide (i = y), upd_same.trans ?_, fun i => ?_⟩
    · have : (if S y = true then (kinds (ns.take j)).length else (kinds (ns.take j)).length + 1) = (kinds (ns.take (j + 1))).length := by
        rw [ek]
        by_cases c : y ∈ kinds (ns.take j)
        · rw [if_pos c, if_pos ((hS y).mpr c)]
        · rw [if_neg c, if_neg (fun z => c ((hS y).mp z)), List.length_append]
          rfl
      rw [this]
    · rw [ek, Bool.or_eq_true, hS i, decide_eq_true_eq]
      by_cases c : y ∈ kinds (ns.take j)
      · rw [if_pos c]
        exact ⟨fun h => h.elim id fun e => e ▸ c, .inl⟩
      · rw [if_neg c, List.mem_append, List.mem_singleton]
  · have e : j = xs.length := by omega
    subst e
    rw [ln, List.take_length] at eD
    exact .inl ⟨⟨xs, q, by omega⟩, hd Hb S sm eD⟩

/-! ### a largest selection: what the program's search returns -/
def lg : Nat → List Dem → List Dem
  | 0, _ => []
  | _ + 1, [] => []
  | n + 1, d :: R =>
    if (kinds (R.map (·.1))).length ≤ (d :: lg n (R.filter fun e => !cf d e)).length then d :: lg n (R.filter fun e => !cf d e)
    else if (d :: lg n (R.filter fun e => !cf d e)).length < (lg n R).length then lg n R else d :: lg n (R.filter fun e => !cf d e)
theorem lg_cons (n : Nat) (d : Dem) (R : List Dem) : lg (n + 1) (d :: R) = if (kinds (R.map (·.1))).length ≤ (d :: lg n (R.filter fun e => !cf d e)).length then d :: lg n (R.filter fun e => !cf d e)
    else if (d :: lg n (R.filter fun e => !cf d e)).length < (lg n R).length then lg n R else d :: lg n (R.filter fun e => !cf d e) := rfl
theorem lg_same : ∀ (n m : Nat) (L : List Dem), L.length ≤ n → L.length ≤ m → lg n L = lg m L
  | 0, 0, _, _, _ => rfl
  | 0, m + 1, L, h, _ => by
    rw [List.length_eq_zero_iff.mp (Nat.le_zero.mp h)]
    rfl
  | n + 1, 0, L, _, h => by
    rw [List.length_eq_zero_iff.mp (Nat.le_zero.mp h)]
    rfl
  | n + 1, m + 1, [], _, _ => rfl
  | n + 1, m + 1, d :: R, h1, h2 => by
    have f := List.length_filter_le (fun e => !cf d e) R
    rw [List.length_cons] at h1 h2
    rw [lg_cons, lg_cons, lg_same n m R (by omega) (by omega), lg_same n m (R.filter fun e => !cf d e) (by omega) (by omega)]
theorem lg_sub : ∀ (n : Nat) (L : List Dem), (lg n L).Sublist L
  | 0, _ => List.nil_sublist _
  | _ + 1, [] => List.Sublist.refl _
  | n + 1, d :: R => by
    have h1 : (d :: lg n (R.filter fun e => !cf d e)).Sublist (d :: R) := ((lg_sub n _).trans List.filter_sublist).cons_cons d
    rw [lg_cons]
    split
    · exact h1
    · split
      · exact (lg_sub n R).cons d
      · exact h1
theorem lg_ind : ∀ (n : Nat) (L : List Dem), Ind (lg n L)
  | 0, _ => List.Pairwise.nil
  | _ + 1, [] => List.Pairwise.nil
  | n + 1, d :: R => by
    have h1 : Ind (d :: lg n (R.filter fun e => !cf d e)) := by
      refine List.pairwise_cons.mpr ⟨fun e he => ?_, lg_ind n _⟩
      have := (List.mem_filter.mp ((lg_sub n _).mem he)).2
      rwa [Bool.not_eq_true'] at this
    rw [lg_cons]
    split
    · exact h1
    · split
      · exact lg_ind n R
      · exact h1
theorem lg_max : ∀ (n : Nat) (L : List Dem), (∀ d ∈ L, Vd d) → L.length ≤ n → ∀ I, Ind I → (∀ d ∈ I, d ∈ L) → I.length ≤ (lg n L).length
  | n, [], _, _, I, _, hI => by
    cases I with
    | nil => exact Nat.zero_le _
    | cons d I => exact absurd (hI d List.mem_cons_self) (fun z => nomatch z)
  | 0, d :: R, _, h, _, _, _ => absurd h (by simp)
  | n + 1, d :: R, hv, hn, I, ii, hI => by
    have f := List.length_filter_le (fun e => !cf d e) R
    rw [List.length_cons] at hn
    have vd := hv d List.mem_cons_self
    have vR : ∀ e ∈ R, Vd e := fun e he => hv e (List.mem_cons_of_mem _ he)
    rw [lg_cons]
    by_cases hd : d ∈ I
    · have pm := List.perm_cons_erase hd
      have ij : Ind (d :: I.erase d) := (pm.pairwise_iff (fun {a b} h => by rw [cf_comm]; exact h)).mp ii
      have pj := List.pairwise_cons.mp ij
      have le := lg_max n (R.filter fun e => !cf d e) (fun e he => vR e (List.mem_filter.mp he).1) (by omega) (I.erase d) pj.2 fun e he => by
        have no := pj.1 e he
        have me := hI e (List.mem_of_mem_erase he)
        rcases List.mem_cons.mp me with rfl | me
        · rw [cf_self vd] at no
          cases no
        · exact List.mem_filter.mpr ⟨me, by rw [no]; rfl⟩
      have l1 := pm.length_eq
      rw [List.length_cons] at l1
      split
      · rw [List.length_cons]
        omega
      · next c =>
        rw [List.length_cons] at *
        split <;> (try rw [List.length_cons]) <;> omega
    · have sub : ∀ e ∈ I, e ∈ R := fun e he => by
        rcases List.mem_cons.mp (hI e he) with rfl | h
        · exact absurd he hd
        · exact h
      split
      · next c =>
        refine Nat.le_trans ?_ c
        have nd : (I.map (·.1)).Nodup := by
          rw [List.Nodup, List.pairwise_map]
          refine List.Pairwise.imp_of_mem (fun {a b} ha hb no e => ?_) ii
          have va := vR a (sub a ha)
          have vb := vR b (sub b hb)
          unfold Vd at va vb
          have : cf a b = true := cf_iff.mpr (by omega)
          rw [this] at no
          cases no
        have := nodup_le nd (m := kinds (R.map (·.1))) fun x hx => by
          obtain ⟨e, he, rfl⟩ := List.mem_map.mp hx
          exact mem_kinds (List.mem_map.mpr ⟨e, sub e he, rfl⟩)
        rwa [List.length_map] at this
      · have le := lg_max n R vR (by omega) I ii sub
        split <;> omega

def sp_conflict : Sp := fun vs H Q _ => ∃ (v1 v2 : V) (p1 lo1 hi1 p2 lo2 hi2 : Int), vs = [v1, v2] ∧ Dm H v1 p1 lo1 hi1 ∧ Dm H v2 p2 lo2 hi2 ∧ Q (.bl (cf (p1, lo1, hi1) (p2, lo2, hi2))) H
theorem cf_at {p1 lo1 hi1 p2 lo2 hi2 : Int} : cf (p1, lo1, hi1) (p2, lo2, hi2) = (atP lo2 hi2 p1 && atP lo1 hi1 p2) := by
  rw [Bool.eq_iff_iff, cf_iff, Bool.and_eq_true]
  unfold atP
  rw [Bool.and_eq_true, Bool.and_eq_true, decide_eq_true_eq, decide_eq_true_eq, decide_eq_true_eq, decide_eq_true_eq]
theorem ok_conflict (T : Tx K mg f_depth_changes f_find_blocks f_is_number f_is_position f_is_tuple_of f_is_interval f_is_ascending f_has_position f_contains f_is_demand f_serves f_conflict f_is_independent f_demands_at_blocks f_is_open f_open_demands f_shadow_target f_pieces_inside f_first_gap f_find_missing f_require_few_blocks f_decisive_demands f_largest_independent f_unserved_demands f_helpful_piece f_smallest_solution f_solve f_are_witnesses f_solution_holds f_law_draws f_law_next f_law_one f_law_spans f_law_targets f_law_covers f_law_is_interval f_law_is_demand f_law_rising f_law_served f_law_clash f_law_are_witnesses f_law_solved f_law_bent f_law d_depth_changes d_find_blocks d_is_number d_is_position d_is_tuple_of d_is_interval d_is_ascending d_has_position d_contains d_is_demand d_serves d_conflict d_is_independent d_demands_at_blocks d_is_open d_open_demands d_shadow_target d_pieces_inside d_first_gap d_find_missing d_require_few_blocks d_decisive_demands d_largest_independent d_unserved_demands d_helpful_piece d_smallest_solution d_solve d_are_witnesses d_solution_holds d_law_draws d_law_next d_law_one d_law_spans d_law_targets d_law_covers d_law_is_interval d_law_is_demand d_law_rising d_law_served d_law_clash d_law_are_witnesses d_law_solved d_law_bent d_law t_LAST_POSITION t_MAX_BLOCKS) : FnOk P w K mg base CX0 2 f_conflict d_conflict ["first", "second"] sp_conflict := by
  refine T.F_conflict.ok sc_conflict (fun vs H Q E h => ?_) (fun cdv A outer s H vs Q E hr h => ?_)
  · obtain ⟨v1, v2, p1, lo1, hi1, p2, lo2, hi2, rfl, _⟩ := h
    rfl
  · obtain ⟨v1, v2, p1, lo1, hi1, p2, lo2, hi2, rfl, d1, d2, q⟩ := h
    refine ⟨_, (pss_one (ps_ret (pe_and (pe_call (ok_has_position T) (hr.mono (by decide)) (by rfl) T.g_has_position T.F_has_position.kp T.b_has_position .nil pass0 (pa_cons (pe_ix ix_tup (pv 1) pe_int (fun _ _ => rfl)) (pa_cons (pe_ix ix_tup (pv 0) pe_int (fun _ _ => rfl)) pa_nil))) (pe_one (pe_call (ok_has_position T) (hr.mono (by decide)) (by rfl) T.g_has_position T.F_has_position.kp T.b_has_position .nil pass0 (pa_cons (pe_ix ix_tup (pv 0) pe_int (fun _ _ => rfl)) (pa_cons (pe_ix ix_tup (pv 1) pe_int (fun _ _ => rfl)) pa_nil))))))), ?_⟩
    obtain ⟨u1, t1, rfl, e11, e12⟩ := d1.ex
    obtain ⟨u2, t2, rfl, e21, e22⟩ := d2.ex
    rw [cf_at] at q
    refine ⟨.ref u2, rfl, u2, _, 1, .ref t2, rfl, rfl, SqT.of e21, rfl, .ref u1, rfl, u1, _, 0, .int p1, rfl, rfl, SqT.of e11, rfl, t2, lo2, hi2, p1, rfl, e22, _, rfl, ite2 (fun c => ?_) (fun c => ?_)⟩
    · refine ⟨.ref u1, rfl, u1, _, 1, .ref t1, rfl, rfl, SqT.of e11, rfl, .ref u2, rfl, u2, _, 0, .int p2, rfl, rfl, SqT.of e21, rfl, t1, lo1, hi1, p2, rfl, e12, ?_⟩
      rw [c] at q
      exact q
    · rw [Bool.not_eq_true] at c
      rw [c] at q
      exact q
def sp_lg (n : Nat) : Sp := fun vs H Q _ => ∃ (D : Addr) (zs : List V) (ds : List Dem), vs = [.ref D] ∧ H D = some (.lst zs) ∧ Dms H zs ds ∧ ds.length ≤ n ∧ ds.length < 1000 ∧
  ∀ H' p ws, Same H H' → H' p = some (.tup ws) → Dms H' ws (lg ds.length ds) → Q (.ref p) H'
def sp_lgP : Nat → Sp
  | 0 => fun _ _ _ _ => False
  | n + 1 => sp_lg n
theorem Dms.sub {H : Hp} {vs : List V} {ds : List Dem} (h : Dms H vs ds) : ∀ {v : V} {d : Dem} {us : List V} {es : List Dem}, vs = v :: us → ds = d :: es → Dm H v d.1 d.2.1 d.2.2 ∧ Dms H us es := by
  intro v d us es e1 e2
  cases h with
  | nil => cases e1
  | cons x y =>
    cases e1
    cases e2
    exact ⟨x, y⟩
theorem lg_step (T : Tx K mg f_depth_changes f_find_blocks f_is_number f_is_position f_is_tuple_of f_is_interval f_is_ascending f_has_position f_contains f_is_demand f_serves f_conflict f_is_independent f_demands_at_blocks f_is_open f_open_demands f_shadow_target f_pieces_inside f_first_gap f_find_missing f_require_few_blocks f_decisive_demands f_largest_independent f_unserved_demands f_helpful_piece f_smallest_solution f_solve f_are_witnesses f_solution_holds f_law_draws f_law_next f_law_one f_law_spans f_law_targets f_law_covers f_law_is_interval f_law_is_demand f_law_rising f_law_served f_law_clash f_law_are_witnesses f_law_solved f_law_bent f_law d_depth_changes d_find_blocks d_is_number d_is_position d_is_tuple_of d_is_interval d_is_ascending d_has_position d_contains d_is_demand d_serves d_conflict d_is_independent d_demands_at_blocks d_is_open d_open_demands d_shadow_target d_pieces_inside d_first_gap d_find_missing d_require_few_blocks d_decisive_demands d_largest_independent d_unserved_demands d_helpful_piece d_smallest_solution d_solve d_are_witnesses d_solution_holds d_law_draws d_law_next d_law_one d_law_spans d_law_targets d_law_covers d_law_is_interval d_law_is_demand d_law_rising d_law_served d_law_clash d_law_are_witnesses d_law_solved d_law_bent d_law t_LAST_POSITION t_MAX_BLOCKS) (n : Nat) (ih : FnOk P w K mg base CX0 (n + 3) f_largest_independent d_largest_independent ["demands"] (sp_lgP n)) : FnOk P w K mg base CX0 (n + 4) f_largest_independent d_largest_independent ["demands"] (sp_lg n) := by
  refine T.F_largest_independent.ok sc_largest_independent (fun vs H Q E h => ?_) (fun cdv A outer s H vs Q E hr h => ?_)
  · obtain ⟨D, zs, ds, rfl, _⟩ := h
    rfl
  · obtain ⟨D, zs, ds, rfl, hD, dm, ln, few, q⟩ := h
    refine ⟨_, (pss_cons (ps_if (pt_not (pt_truth (pv 0) (by intro _; rfl)))
      (pss_one (ps_ret (pe_tup pa_nil)))
      pss_nil)
      (pss_cons (ps_asg (pe_tup (pa_cons (pe_ix ix_list (pv 0) pe_int (fun _ _ => rfl)) (pa_cons (pe_slice sl_list (pv 0) (po_some pe_int) po_none) pa_nil))) (pg_tup rfl (pgs_cons (pg_name (i := 1) sc_largest_independent.nd rfl (Or.inr rfl)) (pgs_cons (pg_name (i := 2) sc_largest_independent.nd rfl (Or.inl rfl)) pgs_nil))))
      (pss_cons (ps_set (i := 3) sc_largest_independent.nd rfl (Or.inl rfl) (pe_op op_catA (pe_tup (pa_cons (pv 1) pa_nil)) (pe_call ih (hr.mono (by omega)) (by rfl) T.g_largest_independent T.F_largest_independent.kp T.b_largest_independent .nil pass0 (pa_cons (pe_lc (own := [("demand", 4)]) (g := (gName 4)) (by rfl) sc_largest_independent.nd (pi_list (pv 2)) (blkOk_by (own := [("demand", 4)]) (N := N_largest_independent) (sc := defScope s_largest_independent) (by decide +kernel)) (fun _ _ _ _ _ => (pg_name (i := 4) sc_largest_independent.nd rfl (Or.inl rfl))) (fun _ _ _ _ _ => pts_one (pt_not (pt_val (pe_call (ok_conflict T) (hr.mono (by omega)) (by rfl) T.g_conflict T.F_conflict.kp T.b_conflict .nil pass0 (pa_cons (pv 1) (pa_cons (pv 4) pa_nil)))))) (fun _ _ _ _ _ => (pv 4))) pa_nil))))
      (pss_cons (ps_if (pt_cmpR op_ge (pe_callB call_len_seq (by rfl) T.z_len PySem.boot_len (pa_cons (pv 3) pa_nil)) (pe_callB cr_lenSet (by rfl) T.z_len PySem.boot_len (pa_cons (pe_scI (own := [("position", 5), ("target", 6)]) (g := (gTup K 2 (gCons (gName 5) (gCons (gName 6) gNil)))) (tt := tYes) (by rfl) sc_largest_independent.nd (pi_list (pv 2)) (blkOk_by (own := [("position", 5), ("target", 6)]) (N := N_largest_independent) (sc := defScope s_largest_independent) (by decide +kernel)) (fun _ _ _ _ _ => (pg_tup rfl (pgs_cons (pg_name (i := 5) sc_largest_independent.nd rfl (Or.inl rfl)) (pgs_cons (pg_name (i := 6) sc_largest_independent.nd rfl (Or.inl rfl)) pgs_nil)))) (fun _ _ _ _ _ => pts_nil) (fun _ _ _ _ _ => (pv 5))) pa_nil)) (nomark _))
      (pss_one (ps_ret (pv 3)))
      pss_nil)
      (pss_one (ps_ret (pe_maxLen rfl (by rfl) T.z_max (by rfl) T.z_len (pa_cons (pe_lst (pa_cons (pv 3) (pa_cons (pe_call ih (hr.mono (by omega)) (by rfl) T.g_largest_independent T.F_largest_independent.kp T.b_largest_independent .nil pass0 (pa_cons (pv 2) pa_nil)) pa_nil))) pa_nil)))))))), ?_⟩
    have lz := dm.length
    refine ⟨.ref D, rfl, !zs.isEmpty, .inl ⟨_, SqL.of hD, rfl⟩, ?_⟩
    match zs, ds, dm with
    | [], [], _ =>
      refine iteT ⟨by show 0 ≤ sizeLine; decide, fun p np => ?_⟩
      exact q _ p [] (same_new np) upd_same .nil
    | v :: zs, d :: ds, dm =>
    obtain ⟨dv, dr⟩ := dm.sub rfl rfl
    refine iteF ?_
    rw [List.length_cons] at ln few
    obtain ⟨m, rfl⟩ : ∃ m, n = m + 1 := ⟨n - 1, by omega⟩
    have lz2 := dr.length
    refine ⟨.ref D, rfl, D, _, 0, v, rfl, rfl, SqL.of hD, (show atI (v :: zs) ((0 : Nat) : Int) = some v from atI_nat rfl), .ref D, rfl, 1, rfl, D, _, rfl, SqL.of hD, fun R nR => ?_⟩
    rw [show cutV (v :: zs) (some 1) none = zs from cutFrom (v :: zs) 1]
    have s1 := same_new (o := .lst zs) nR
    have eR := upd_same (H := H) (a := R) (o := .lst zs)
    generalize upd H R (.lst zs) = H1 at *
    refine ⟨by show 2 ≤ sizeLine; decide, fun tp ntp => ?_⟩
    have s2 := same_new (o := .tup [v, .ref R]) ntp
    have etp := upd_same (H := H1) (a := tp) (o := .tup [v, .ref R])
    generalize upd H1 tp (.tup [v, .ref R]) = H2 at *
    refine ⟨tp, _, rfl, SqT.of etp, rfl, v, [.ref R], rfl, .ref R, [], rfl, rfl, ?_⟩
    have s12 := s1.trans s2
    have eR2 := s2 _ _ eR
    have dv2 := dv.same s12
    have dr2 := dr.same s12
    -- (first,)
    refine ⟨v, rfl, by show 1 ≤ sizeLine; decide, fun u nu => ?_⟩
    have s3 := same_new (o := .tup [v]) nu
    have eu := upd_same (H := H2) (a := u) (o := .tup [v])
    generalize upd H2 u (.tup [v]) = H3 at *
    have eR3 := s3 _ _ eR2
    have dv3 := dv2.same s3
    have dr3 := dr2.same s3
    refine ⟨.ref R, rfl, R, rfl, ⟨_, SqL.of eR3⟩, fun D2 nD2 => ?_⟩
    refine lcL (K := K) (a := R) (xs := zs) (fun j H' ws => Dms H' ws ((ds.take j).filter fun e => !cf d e)) nD2 (fun H' s => SqL.of (s _ _ (eR3))) (by omega) (fun _ _ _ _ t r => r.tps t) (fun j H' ws r => (by rw [r.length]; exact Nat.le_trans (List.length_filter_le _ _) (List.length_take_le _ _))) (fun _ => .nil) ?_ ?_
    · rintro j z H' N acc hj sj eA sz r no yes
      obtain ⟨p, lo, hi, ed, dz⟩ := dr3.get hj
      refine ⟨rfl, v, rfl, z, rfl, v, z, d.1, d.2.1, d.2.2, p, lo, hi, rfl, dv3.same sj, dz.same sj, _, rfl, ite2 (fun c => ?_) (fun c => ?_)⟩
      · refine ⟨z, rfl, yes H' _ (Same.refl _) ?_⟩
        rw [take_filter ed, if_pos c]
        exact r.snoc (dz.same sj)
      · refine no H' (Same.refl _) ?_
        rw [take_filter ed, if_neg c, List.append_nil]
        exact r
    intro H4 ws s4 eD2 r
    rw [lz2, List.take_length] at r
    have fl := List.length_filter_le (fun e => !cf d e) ds
    refine ⟨D2, ws, _, rfl, eD2, r, Nat.le_trans fl (by omega), Nat.lt_of_le_of_lt fl (by omega), fun H5 cp cws s5 ecp dmc => ?_⟩
    rw [lg_same _ ds.length _ (Nat.le_refl _) fl] at dmc
    have s35 := s4.trans s5
    have llg := (lg_sub ds.length (ds.filter fun e => !cf d e)).length_le
    have lcw := dmc.length
    refine catA_any (s35 _ _ eu) ecp (by rw [show sizeLine = 16777216 by decide]; show 1 + _ ≤ _; omega) (fun H6 ch s6 ech => ?_)
    have s36 := s35.trans s6
    have dch : Dms H6 ([v] ++ cws) (d :: lg ds.length (ds.filter fun e => !cf d e)) := .cons (dv3.same s36) (dmc.same s6)
    have eR6 := s36 _ _ eR3
    have dr6 := dr3.same s36
    have s06 := s12.trans (s3.trans s36)
    have lch := dch.length
    generalize [v] ++ cws = vch at *
    have eq := lg_cons ds.length d ds
    generalize hch : d :: lg ds.length (ds.filter fun e => !cf d e) = och at *
    refine ⟨.ref ch, rfl, ch, vch, rfl, .inr (SqT.of ech), ?_⟩
    refine ⟨.ref R, rfl, R, rfl, ⟨_, SqL.of eR6⟩, fun D3 nD3 => ?_⟩
    refine scL (K := K) (a := R) (xs := zs) (ds.map (·.1)) nD3 (fun H' s => SqL.of (s _ _ eR6)) (by rw [List.length_map]; exact lz2) (by rw [List.length_map]; omega) ?_ ?_
    · rintro i z y H' N S k hz hy sj eS lim nx
      obtain ⟨p, lo, hi, ed, dz⟩ := dr6.get hz
      rw [List.getElem?_map, ed] at hy
      cases hy
      obtain ⟨uz, tz, rfl, h1, h2⟩ := (dz.same sj).ex
      exact ⟨uz, _, rfl, SqT.of h1, rfl, .int p, [.ref tz], rfl, .ref tz, [], rfl, rfl, rfl, .int p, rfl, p, S, k, rfl, eS, lim, nx⟩
    intro H7 S s7 eD3
    dsimp only [tNil]
    refine ⟨D3, S, _, rfl, eD3, ?_⟩
    have s07 := s06.trans s7
    refine ⟨_, _, rfl, rfl, _, rfl, ite2 (fun c => ?_) (fun c => ?_)⟩
    · have c := of_decide_eq_true c
      have c2 : (kinds (ds.map (·.1))).length ≤ och.length := by
        rw [← lch]
        exact Int.ofNat_le.mp c
      refine ⟨.ref ch, rfl, ?_⟩
      refine q H7 ch vch s07 (s7 _ _ ech) ?_
      show Dms H7 vch (lg (ds.length + 1) (d :: ds))
      rw [eq, if_pos c2]
      exact dch.same s7
    · have c := of_decide_eq_false (Bool.not_eq_true _ ▸ c)
      have c2 : ¬ (kinds (ds.map (·.1))).length ≤ och.length := fun z => c (by
        rw [← lch] at z
        exact Int.ofNat_le.mpr z)
      refine ⟨.ref ch, rfl, .ref R, rfl, R, zs, ds, rfl, s7 _ _ eR6, dr6.same s7, by omega, by omega, fun H8 o wo s8 eo dmo => ?_⟩
      have lo2 := dmo.length
      refine ⟨by show 2 ≤ sizeLine; decide, fun ml nml => ?_⟩
      have s9 := same_new (o := .lst [.ref ch, .ref o]) nml
      have eml := upd_same (H := H8) (a := ml) (o := .lst [.ref ch, .ref o])
      generalize upd H8 ml (.lst [.ref ch, .ref o]) = H9 at *
      dsimp only [tNil]
      have s79 := s8.trans s9
      refine ⟨ml, ch, o, vch, wo, rfl, SqL.of eml, SqT.of (s79 _ _ (s7 _ _ ech)), SqT.of (s9 _ _ eo), ?_⟩
      have fin : Dms H9 (if vch.length < wo.length then wo else vch) (lg (ds.length + 1) (d :: ds)) := by
        rw [eq, if_neg c2, lch, lo2]
        split
        · exact dmo.same s9
        · exact dch.same (s7.trans s79)
      refine q H9 _ _ (s07.trans s79) ?_ fin
      split
      · exact s9 _ _ eo
      · exact s79 _ _ (s7 _ _ ech)
theorem lg_all (T : Tx K mg f_depth_changes f_find_blocks f_is_number f_is_position f_is_tuple_of f_is_interval f_is_ascending f_has_position f_contains f_is_demand f_serves f_conflict f_is_independent f_demands_at_blocks f_is_open f_open_demands f_shadow_target f_pieces_inside f_first_gap f_find_missing f_require_few_blocks f_decisive_demands f_largest_independent f_unserved_demands f_helpful_piece f_smallest_solution f_solve f_are_witnesses f_solution_holds f_law_draws f_law_next f_law_one f_law_spans f_law_targets f_law_covers f_law_is_interval f_law_is_demand f_law_rising f_law_served f_law_clash f_law_are_witnesses f_law_solved f_law_bent f_law d_depth_changes d_find_blocks d_is_number d_is_position d_is_tuple_of d_is_interval d_is_ascending d_has_position d_contains d_is_demand d_serves d_conflict d_is_independent d_demands_at_blocks d_is_open d_open_demands d_shadow_target d_pieces_inside d_first_gap d_find_missing d_require_few_blocks d_decisive_demands d_largest_independent d_unserved_demands d_helpful_piece d_smallest_solution d_solve d_are_witnesses d_solution_holds d_law_draws d_law_next d_law_one d_law_spans d_law_targets d_law_covers d_law_is_interval d_law_is_demand d_law_rising d_law_served d_law_clash d_law_are_witnesses d_law_solved d_law_bent d_law t_LAST_POSITION t_MAX_BLOCKS) : ∀ n : Nat, FnOk P w K mg base CX0 (n + 4) f_largest_independent d_largest_independent ["demands"] (sp_lg n)
  | 0 => lg_step T 0 ⟨fun _ _ _ _ h => h.elim, fun _ _ _ _ _ _ _ _ _ _ _ _ _ h => h.elim⟩
  | n + 1 => lg_step T (n + 1) (lg_all T n)
theorem ok_largest_independent (T : Tx K mg f_depth_changes f_find_blocks f_is_number f_is_position f_is_tuple_of f_is_interval f_is_ascending f_has_position f_contains f_is_demand f_serves f_conflict f_is_independent f_demands_at_blocks f_is_open f_open_demands f_shadow_target f_pieces_inside f_first_gap f_find_missing f_require_few_blocks f_decisive_demands f_largest_independent f_unserved_demands f_helpful_piece f_smallest_solution f_solve f_are_witnesses f_solution_holds f_law_draws f_law_next f_law_one f_law_spans f_law_targets f_law_covers f_law_is_interval f_law_is_demand f_law_rising f_law_served f_law_clash f_law_are_witnesses f_law_solved f_law_bent f_law d_depth_changes d_find_blocks d_is_number d_is_position d_is_tuple_of d_is_interval d_is_ascending d_has_position d_contains d_is_demand d_serves d_conflict d_is_independent d_demands_at_blocks d_is_open d_open_demands d_shadow_target d_pieces_inside d_first_gap d_find_missing d_require_few_blocks d_decisive_demands d_largest_independent d_unserved_demands d_helpful_piece d_smallest_solution d_solve d_are_witnesses d_solution_holds d_law_draws d_law_next d_law_one d_law_spans d_law_targets d_law_covers d_law_is_interval d_law_is_demand d_law_rising d_law_served d_law_clash d_law_are_witnesses d_law_solved d_law_bent d_law t_LAST_POSITION t_MAX_BLOCKS) : FnOk P w K mg base CX0 (lgN + 4) f_largest_independent d_largest_independent ["demands"] (sp_lg lgN) := lg_all T lgN

theorem find_step {f : Int × Int → Bool} {ps : List (Int × Int)} {i : Nat} {q : Int × Int} (e : ps[i]? = some q) : (ps.drop i).find? f = if f q = true then some q else (ps.drop (i + 1)).find? f := by
  obtain ⟨hi, rfl⟩ := List.getElem?_eq_some_iff.mp e
  rw [List.drop_eq_getElem_cons hi, List.find?_cons]
  cases f ps[i] <;> rfl
theorem eqv_pair (x y u v : Int) : PyData.eqv (.tuple [.int x, .int y]) (.tuple [.int u, .int v]) = decide ((x, y) = (u, v)) := by
  show ((x == u) && ((y == v) && true)) = decide ((x, y) = (u, v))
  rw [Bool.and_true, Bool.eq_iff_iff, Bool.and_eq_true, beq_iff_eq, beq_iff_eq, decide_eq_true_eq, Prod.mk.injEq]
def shB (p lo hi : Int) (q : Int × Int) : Bool := !decide (q = (lo, hi)) && (inI lo hi q.1 q.2 && atP q.1 q.2 p)
def sp_shadow_target : Sp := fun vs H Q _ => ∃ (a : Addr) (us : List V) (ps : List (Int × Int)) (v : V) (p lo hi : Int), vs = [.ref a, v] ∧ H a = some (.tup us) ∧ Ivs H us ps ∧ Dm H v p lo hi ∧ ∀ r, OV H r (ps.find? (shB p lo hi)) → Q r H
theorem ok_shadow_target (T : Tx K mg f_depth_changes f_find_blocks f_is_number f_is_position f_is_tuple_of f_is_interval f_is_ascending f_has_position f_contains f_is_demand f_serves f_conflict f_is_independent f_demands_at_blocks f_is_open f_open_demands f_shadow_target f_pieces_inside f_first_gap f_find_missing f_require_few_blocks f_decisive_demands f_largest_independent f_unserved_demands f_helpful_piece f_smallest_solution f_solve f_are_witnesses f_solution_holds f_law_draws f_law_next f_law_one f_law_spans f_law_targets f_law_covers f_law_is_interval f_law_is_demand f_law_rising f_law_served f_law_clash f_law_are_witnesses f_law_solved f_law_bent f_law d_depth_changes d_find_blocks d_is_number d_is_position d_is_tuple_of d_is_interval d_is_ascending d_has_position d_contains d_is_demand d_serves d_conflict d_is_independent d_demands_at_blocks d_is_open d_open_demands d_shadow_target d_pieces_inside d_first_gap d_find_missing d_require_few_blocks d_decisive_demands d_largest_independent d_unserved_demands d_helpful_piece d_smallest_solution d_solve d_are_witnesses d_solution_holds d_law_draws d_law_next d_law_one d_law_spans d_law_targets d_law_covers d_law_is_interval d_law_is_demand d_law_rising d_law_served d_law_clash d_law_are_witnesses d_law_solved d_law_bent d_law t_LAST_POSITION t_MAX_BLOCKS) : FnOk P w K mg base CX0 2 f_shadow_target d_shadow_target ["targets", "demand"] sp_shadow_target := by
  refine T.F_shadow_target.ok sc_shadow_target (fun vs H Q E h => ?_) (fun cdv A outer s H vs Q E hr h => ?_)
  · obtain ⟨a, us, ps, v, p, lo, hi, rfl, _⟩ := h
    rfl
  · obtain ⟨a, us, ps, v, p, lo, hi, rfl, ha, iv, dm, q⟩ := h
    obtain ⟨u, t, rfl, e1, e2⟩ := dm.ex
    refine ⟨_, (pss_cons (ps_asg (pv 1) (pg_tup rfl (pgs_cons (pg_name (i := 2) sc_shadow_target.nd rfl (Or.inl rfl)) (pgs_cons (pg_name (i := 3) sc_shadow_target.nd rfl (Or.inl rfl)) pgs_nil))))
      (pss_cons (ps_for PassesOwn.never rfl (pi_tup (pv 0)) (pg_name (i := 4) sc_shadow_target.nd rfl (Or.inl rfl))
      (pss_one (ps_if (PW.pt (pw_and (pt_cmpR (op_neD hr.units) (pv 4) (pv 3) (nomark _)) (pw_and (pt_val (pe_call (ok_contains T) (hr.mono (by decide)) (by rfl) T.g_contains T.F_contains.kp T.b_contains .nil pass0 (pa_cons (pv 3) (pa_cons (pv 4) pa_nil)))) (pw_and1 (pt_val (pe_call (ok_has_position T) (hr.mono (by decide)) (by rfl) T.g_has_position T.F_has_position.kp T.b_has_position .nil pass0 (pa_cons (pv 4) (pa_cons (pv 2) pa_nil))))))))
      (pss_one (ps_ret (pv 4)))
      pss_nil)))
      (pss_one (ps_ret pe_non)))), ?_⟩
    refine ⟨.ref u, rfl, u, _, rfl, SqT.of e1, rfl, .int p, [.ref t], rfl, .ref t, [], rfl, rfl, ?_⟩
    refine ⟨.ref a, rfl, a, rfl, ⟨_, SqT.of ha⟩, for_tup (K := K) (a := a) (xs := us) (fun i σ H' => H' = H ∧ ps.find? (shB p lo hi) = (ps.drop i).find? (shB p lo hi) ∧ ∃ y, σ = [some (.ref a), some (.ref u), some (.int p), some (.ref t), y]) ⟨rfl, rfl, _, rfl⟩ (fun i σ H' _ h => by rw [h.1]; exact SqT.of ha) ?_ ?_⟩
    · rintro i x σ H' hi2 ⟨rfl, ef, y, rfl⟩
      obtain ⟨b, x, z, rfl, ep, hb⟩ := iv.get hi2
      rw [find_step ep] at ef
      have no : ¬ shB p lo hi (x, z) = true → ps.find? (shB p lo hi) = (ps.drop (i + 1)).find? (shB p lo hi) := fun e => by
        rw [if_neg e] at ef
        exact ef
      refine ⟨.ref b, rfl, .ref t, rfl, _, _, dp2 hb, dp2 e2, rfl, rfl, _, rfl, ?_⟩
      rw [eqv_pair]
      refine ite2 (fun c1 => ?_) (fun c1 => ?_)
      · refine ⟨.ref t, rfl, .ref b, rfl, t, b, lo, hi, x, z, rfl, e2, hb, _, rfl, ite2 (fun c2 => ?_) (fun c2 => ?_)⟩
        · refine ⟨.ref b, rfl, .int p, rfl, b, x, z, p, rfl, hb, _, rfl, ite2 (fun c3 => ?_) (fun c3 => ?_)⟩
          · refine ⟨.ref b, rfl, q _ ?_⟩
            have e : shB p lo hi (x, z) = true := by
              unfold shB
              rw [c1, c2, c3]
              rfl
            rw [ef, if_pos e]
            exact ⟨b, rfl, hb⟩
          · refine ⟨rfl, no fun e => c3 ?_, _, rfl⟩
            unfold shB at e
            exact (Bool.and_eq_true_iff.mp (Bool.and_eq_true_iff.mp e).2).2
        · refine iteF ⟨rfl, no fun e => c2 ?_, _, rfl⟩
          unfold shB at e
          exact (Bool.and_eq_true_iff.mp (Bool.and_eq_true_iff.mp e).2).1
      · refine iteF ⟨rfl, no fun e => c1 ?_, _, rfl⟩
        unfold shB at e
        exact (Bool.and_eq_true_iff.mp e).1
    · rintro σ H' ⟨rfl, ef, y, rfl⟩
      refine q _ ?_
      rw [ef, iv.length, List.drop_length]
      rfl

/-! ### the demands that decide -/
def decO (ts ps : List (Int × Int)) : List Dem := ((dab ts (blocksOf (ts ++ ps))).filter (opB ps)).filter fun d => (ts.find? (shB d.1 d.2.1 d.2.2)).isNone
def needO (ts ps : List (Int × Int)) : Nat := (lg (decO ts ps).length (decO ts ps)).length
theorem OV.isN {H : Hp} {r : V} {o : Option (Int × Int)} (h : OV H r o) : decide (r = .non) = o.isNone := by
  match o, h with
  | none, h =>
    cases h
    rfl
  | some (x, y), h =>
    obtain ⟨t, e, _⟩ := h
    rw [e]
    exact decide_eq_false (fun z => by cases z)
theorem decO_len {ts ps : List (Int × Int)} : (decO ts ps).length ≤ (blocksOf (ts ++ ps)).length * ts.length := by
  unfold decO
  exact Nat.le_trans (List.length_filter_le _ _) (Nat.le_trans (List.length_filter_le _ _) dab_len)
def sp_decisive : Sp := fun vs H Q _ => ∃ (a b : Addr) (us ws : List V) (ts ps : List (Int × Int)), vs = [.ref a, .ref b] ∧ H a = some (.tup us) ∧ H b = some (.tup ws) ∧ Ivs H us ts ∧ Ivs H ws ps ∧ Good (ts ++ ps) ∧ ts.length ≤ 30 ∧ FewK (ts ++ ps) ∧ (blocksOf (ts ++ ps)).length ≤ 8 ∧
  ∀ H' p zs, Same H H' → H p = none → H' p = some (.lst zs) → Dms H' zs (decO ts ps) → Q (.ref p) H'
theorem ok_decisive_demands (T : Tx K mg f_depth_changes f_find_blocks f_is_number f_is_position f_is_tuple_of f_is_interval f_is_ascending f_has_position f_contains f_is_demand f_serves f_conflict f_is_independent f_demands_at_blocks f_is_open f_open_demands f_shadow_target f_pieces_inside f_first_gap f_find_missing f_require_few_blocks f_decisive_demands f_largest_independent f_unserved_demands f_helpful_piece f_smallest_solution f_solve f_are_witnesses f_solution_holds f_law_draws f_law_next f_law_one f_law_spans f_law_targets f_law_covers f_law_is_interval f_law_is_demand f_law_rising f_law_served f_law_clash f_law_are_witnesses f_law_solved f_law_bent f_law d_depth_changes d_find_blocks d_is_number d_is_position d_is_tuple_of d_is_interval d_is_ascending d_has_position d_contains d_is_demand d_serves d_conflict d_is_independent d_demands_at_blocks d_is_open d_open_demands d_shadow_target d_pieces_inside d_first_gap d_find_missing d_require_few_blocks d_decisive_demands d_largest_independent d_unserved_demands d_helpful_piece d_smallest_solution d_solve d_are_witnesses d_solution_holds d_law_draws d_law_next d_law_one d_law_spans d_law_targets d_law_covers d_law_is_interval d_law_is_demand d_law_rising d_law_served d_law_clash d_law_are_witnesses d_law_solved d_law_bent d_law t_LAST_POSITION t_MAX_BLOCKS) : FnOk P w K mg base CX0 5 f_decisive_demands d_decisive_demands ["targets", "pieces"] sp_decisive := by
  refine T.F_decisive_demands.ok sc_decisive_demands (fun vs H Q E h => ?_) (fun cdv A outer s H vs Q E hr h => ?_)
  · obtain ⟨a, b, us, ws, ts, ps, rfl, _⟩ := h
    rfl
  · obtain ⟨a, b, us, ws, ts, ps, rfl, ha, hb, ivt, ivp, g, lt, fk, few, q⟩ := h
    refine ⟨_, (pss_one (ps_ret (pe_lc (own := [("demand", 2)]) (g := (gName 2)) (by rfl) sc_decisive_demands.nd (pi_tup (pe_call (ok_open_demands T) (hr.mono (by decide)) (by rfl) T.g_open_demands T.F_open_demands.kp T.b_open_demands .nil pass0 (pa_cons (pv 0) (pa_cons (pv 1) pa_nil)))) (blkOk_by (own := [("demand", 2)]) (N := N_decisive_demands) (sc := defScope s_decisive_demands) (by decide +kernel)) (fun _ _ _ _ _ => (pg_name (i := 2) sc_decisive_demands.nd rfl (Or.inl rfl))) (fun _ _ _ _ _ => pts_one (pt_cmpR op_isN (pe_call (ok_shadow_target T) (hr.mono (by decide)) (by rfl) T.g_shadow_target T.F_shadow_target.kp T.b_shadow_target .nil pass0 (pa_cons (pv 0) (pa_cons (pv 2) pa_nil))) pe_non (nomark _))) (fun _ _ _ _ _ => (pv 2))))), ?_⟩
    have lu := ivt.length
    refine ⟨.ref a, rfl, .ref b, rfl, a, b, us, ws, ts, ps, rfl, ha, hb, ivt, ivp, g, lt, fk, fun H1 D zs s1 eD dm => ?_⟩
    have lo : ((dab ts (blocksOf (ts ++ ps))).filter (opB ps)).length < 1000 := by
      have h1 := dab_len (ts := ts) (bs := blocksOf (ts ++ ps))
      have h2 := List.length_filter_le (opB ps) (dab ts (blocksOf (ts ++ ps)))
      have h3 : (blocksOf (ts ++ ps)).length * ts.length ≤ 8 * 30 := Nat.mul_le_mul few (by omega)
      omega
    unfold decO at q
    generalize (dab ts (blocksOf (ts ++ ps))).filter (opB ps) = ds at *
    have lz := dm.length
    refine ⟨D, rfl, ⟨_, SqT.of eD⟩, fun D2 nD2 => ?_⟩
    refine lcT (K := K) (a := D) (xs := zs) (fun j H' ws => Dms H' ws ((ds.take j).filter fun d => (ts.find? (shB d.1 d.2.1 d.2.2)).isNone)) nD2 (fun H' s => SqT.of (s _ _ (eD))) (by omega) (fun _ _ _ _ t r => r.tps t) (fun j H' ws r => (by rw [r.length]; exact Nat.le_trans (List.length_filter_le _ _) (List.length_take_le _ _))) (fun _ => .nil) ?_ ?_
    · rintro j z H' N acc hj sj eA sz r no yes
      obtain ⟨p, lo, hi, ed, dz⟩ := dm.get hj
      have s1j := s1.trans sj
      refine ⟨rfl, .ref a, rfl, z, rfl, a, us, ts, z, p, lo, hi, rfl, s1j _ _ ha, ivt.same s1j, dz.same sj, fun rv ov => ?_⟩
      refine ⟨rfl, ?_⟩
      rw [ov.isN]
      refine ⟨_, rfl, ?_⟩
      refine ite2 (fun c => ?_) (fun c => ?_)
      · refine ⟨z, rfl, yes H' _ (Same.refl _) ?_⟩
        rw [take_filter ed, if_pos c]
        exact r.snoc (dz.same sj)
      · refine no H' (Same.refl _) ?_
        rw [take_filter ed, if_neg c, List.append_nil]
        exact r
    intro H2 ws2 s2 eD2 r
    rw [lz, List.take_length] at r
    exact q H2 D2 ws2 (s1.trans s2) (s1.free nD2) eD2 r
def sp_few : Sp := fun vs H Q _ => ∃ (a : Addr) (us : List V) (row : List (Int × Int)), vs = [.ref a] ∧ H a = some (.tup us) ∧ Ivs H us row ∧ Good row ∧ FewK row ∧ (blocksOf row).length ≤ 8 ∧ ∀ H', Same H H' → Q .non H'
theorem ok_require_few_blocks (T : Tx K mg f_depth_changes f_find_blocks f_is_number f_is_position f_is_tuple_of f_is_interval f_is_ascending f_has_position f_contains f_is_demand f_serves f_conflict f_is_independent f_demands_at_blocks f_is_open f_open_demands f_shadow_target f_pieces_inside f_first_gap f_find_missing f_require_few_blocks f_decisive_demands f_largest_independent f_unserved_demands f_helpful_piece f_smallest_solution f_solve f_are_witnesses f_solution_holds f_law_draws f_law_next f_law_one f_law_spans f_law_targets f_law_covers f_law_is_interval f_law_is_demand f_law_rising f_law_served f_law_clash f_law_are_witnesses f_law_solved f_law_bent f_law d_depth_changes d_find_blocks d_is_number d_is_position d_is_tuple_of d_is_interval d_is_ascending d_has_position d_contains d_is_demand d_serves d_conflict d_is_independent d_demands_at_blocks d_is_open d_open_demands d_shadow_target d_pieces_inside d_first_gap d_find_missing d_require_few_blocks d_decisive_demands d_largest_independent d_unserved_demands d_helpful_piece d_smallest_solution d_solve d_are_witnesses d_solution_holds d_law_draws d_law_next d_law_one d_law_spans d_law_targets d_law_covers d_law_is_interval d_law_is_demand d_law_rising d_law_served d_law_clash d_law_are_witnesses d_law_solved d_law_bent d_law t_LAST_POSITION t_MAX_BLOCKS) : FnOk P w K mg base CX0 3 f_require_few_blocks d_require_few_blocks ["intervals"] sp_few := by
  refine T.F_require_few_blocks.ok sc_require_few_blocks (fun vs H Q E h => ?_) (fun cdv A outer s H vs Q E hr h => ?_)
  · obtain ⟨a, us, row, rfl, _⟩ := h
    rfl
  · obtain ⟨a, us, row, rfl, ha, iv, g, lr, few, q⟩ := h
    refine ⟨_, (pss_one (ps_if (pt_cmpR op_gt (pe_callB call_len_seq (by rfl) T.z_len PySem.boot_len (pa_cons (pe_call (ok_find_blocks T) (hr.mono (by decide)) (by rfl) T.g_find_blocks T.F_find_blocks.kp T.b_find_blocks .nil pass0 (pa_cons (pv 0) pa_nil)) pa_nil)) (pe_glob (v := .int 8) (by rfl) T.c_MAX_BLOCKS ⟨_, rfl⟩) (nomark _))
      (pss_one ps_never)
      pss_nil)), ?_⟩
    refine ⟨.ref a, rfl, a, us, row, rfl, ha, iv, g, lr, fun H1 b ws s1 eb ivb => ?_⟩
    refine ⟨b, ws, rfl, .inr (SqT.of eb), _, _, rfl, rfl, _, rfl, ite2 (fun c => ?_) (fun _ => ?_)⟩
    · have c := of_decide_eq_true c
      rw [ivb.length] at c
      exact absurd c (by omega)
    · exact q H1 s1
def sp_count : Sp := fun vs H Q _ => ∃ (a b : Addr) (us ws : List V) (ts ps : List (Int × Int)), vs = [.ref a, .ref b] ∧ H a = some (.tup us) ∧ H b = some (.tup ws) ∧ Ivs H us ts ∧ Ivs H ws ps ∧ Good (ts ++ ps) ∧ ts.length ≤ 30 ∧ FewK (ts ++ ps) ∧ (blocksOf (ts ++ ps)).length ≤ 8 ∧ 8 * ts.length ≤ lgN ∧
  ∀ H', Same H H' → Q (.int (needO ts ps)) H'
theorem mem_dab {ts bs : List (Int × Int)} {d : (Int × Int × Int)} : d ∈ dab ts bs ↔ ∃ t ∈ ts, ∃ x ∈ bs.map (·.1), atP t.1 t.2 x = true ∧ d = (x, t.1, t.2) := by
  unfold dab dabT
  rw [List.mem_flatMap]
  constructor
  · rintro ⟨b, hb, h⟩
    obtain ⟨t, ht, e⟩ := List.mem_map.mp h
    have z := List.mem_filter.mp ht
    exact ⟨t, z.1, b.1, List.mem_map.mpr ⟨b, hb, rfl⟩, z.2, e.symm⟩
  · rintro ⟨t, ht, x, hx, c, e⟩
    obtain ⟨b, hb, rfl⟩ := List.mem_map.mp hx
    exact ⟨b, hb, List.mem_map.mpr ⟨t, List.mem_filter.mpr ⟨ht, c⟩, e.symm⟩⟩

/-! ### what the targets need: the program's number is right -/
def Com (ts ps S : List (Int × Int)) : Prop := ∀ t ∈ ts, ∀ p, t.1 ≤ p → p ≤ t.2 → ∃ q ∈ ps ++ S, t.1 ≤ q.1 ∧ q.1 ≤ p ∧ p ≤ q.2 ∧ q.2 ≤ t.2
def OpenD (ts ps : List (Int × Int)) (d : Dem) : Prop := d.2 ∈ ts ∧ Vd d ∧ ∀ q ∈ ps, sv q d = false
theorem sv_svI (q : Int × Int) (d : Dem) : svI q.1 q.2 d.1 d.2.1 d.2.2 = sv q d := by
  rw [Bool.eq_iff_iff, sv_iff']
  unfold svI inI atP
  simp only [Bool.and_eq_true, decide_eq_true_eq]
  omega
theorem opB_iff {ps : List (Int × Int)} {d : Dem} : opB ps d = true ↔ ∀ q ∈ ps, sv q d = false := by
  unfold opB
  rw [Bool.not_eq_true', List.any_eq_false]
  constructor
  · intro h q hq
    have := h _ (List.mem_map.mpr ⟨q, hq, rfl⟩)
    rw [← sv_svI, ← Bool.not_eq_true]
    exact this
  · intro h b hb
    obtain ⟨q, hq, rfl⟩ := List.mem_map.mp hb
    have := h q hq
    rw [← sv_svI] at this
    rw [Bool.not_eq_true]
    exact this
def Shd (d : Dem) (t : Int × Int) : Prop := t ≠ d.2 ∧ d.2.1 ≤ t.1 ∧ t.2 ≤ d.2.2 ∧ t.1 ≤ d.1 ∧ d.1 ≤ t.2
theorem mem_dec {ts ps : List (Int × Int)} {d : Dem} : d ∈ decO ts ps ↔ OpenD ts ps d ∧ d.1 ∈ lowsOf (ts ++ ps) ∧ ∀ t ∈ ts, ¬ Shd d t := by
  unfold decO
  rw [List.mem_filter, List.mem_filter, opB_iff, mem_dab, Option.isNone_iff_eq_none, List.find?_eq_none]
  have sh : (∀ t ∈ ts, ¬ shB d.1 d.2.1 d.2.2 t = true) ↔ ∀ t ∈ ts, ¬ Shd d t := by
    have : ∀ t : Int × Int, shB d.1 d.2.1 d.2.2 t = true ↔ Shd d t := fun t => by
      unfold shB inI atP Shd
      simp only [Bool.and_eq_true, decide_eq_true_eq, Bool.not_eq_true', decide_eq_false_iff_not]
      constructor
      · rintro ⟨a, ⟨b, c⟩, e, f⟩
        exact ⟨a, b, c, e, f⟩
      · rintro ⟨a, b, c, e, f⟩
        exact ⟨a, ⟨b, c⟩, e, f⟩
    exact ⟨fun h t ht s => h t ht ((this t).mpr s), fun h t ht s => h t ht ((this t).mp s)⟩
  rw [sh]
  constructor
  · rintro ⟨⟨⟨t, ht, x, hx, at1, rfl⟩, op⟩, n⟩
    have z := Bool.and_eq_true_iff.mp at1
    exact ⟨⟨ht, ⟨of_decide_eq_true z.1, of_decide_eq_true z.2⟩, op⟩, hx, n⟩
  · rintro ⟨⟨ht, v, op⟩, hx, n⟩
    exact ⟨⟨⟨d.2, ht, d.1, hx, Bool.and_eq_true_iff.mpr ⟨decide_eq_true v.1, decide_eq_true v.2⟩, rfl⟩, op⟩, n⟩
theorem dec_fam {ts ps : List (Int × Int)} (g : Good (ts ++ ps)) : Fam (decO ts ps) := by
  refine ⟨fun d hd => ?_, fun d hd e he h1 h2 h3 c => ?_, fun d hd e he c => ?_⟩
  · have m := mem_dec.mp hd
    exact ⟨(g _ (List.mem_append_left _ m.1.1)).1, m.1.2.1⟩
  · have md := mem_dec.mp hd
    have me := mem_dec.mp he
    have c := cf_iff.mp c
    have vd := md.1.2.1
    have ve := me.1.2.1
    unfold Vd at vd ve
    have ex : ∀ q ∈ ps, sv q (d.1, e.2) = false ∧ sv q (e.1, d.2) = false := fun q hq => by
      have x := sv_exch (z := q) h1 h2 h3 (cf_iff.mpr c)
      rw [md.1.2.2 q hq, me.1.2.2 q hq] at x
      simp at x
      exact x
    constructor
    · refine mem_dec.mpr ⟨⟨me.1.1, ⟨c.1.1, c.1.2⟩, fun q hq => (ex q hq).1⟩, md.2.1, fun t ht s => ?_⟩
      obtain ⟨s1, s2, s3, s4, s5⟩ := s
      have s1 : t ≠ e.2 := s1
      have s2 : e.2.1 ≤ t.1 := s2
      have s3 : t.2 ≤ e.2.2 := s3
      have s4 : t.1 ≤ d.1 := s4
      have s5 : d.1 ≤ t.2 := s5
      by_cases k : e.1 ≤ t.2
      · exact me.2.2 t ht ⟨s1, s2, s3, by omega, k⟩
      · exact md.2.2 t ht ⟨fun z => by rw [z] at s2; omega, by omega, by omega, s4, s5⟩
    · refine mem_dec.mpr ⟨⟨md.1.1, ⟨c.2.1, c.2.2⟩, fun q hq => (ex q hq).2⟩, me.2.1, fun t ht s => ?_⟩
      obtain ⟨s1, s2, s3, s4, s5⟩ := s
      have s1 : t ≠ d.2 := s1
      have s2 : d.2.1 ≤ t.1 := s2
      have s3 : t.2 ≤ d.2.2 := s3
      have s4 : t.1 ≤ e.1 := s4
      have s5 : e.1 ≤ t.2 := s5
      by_cases k : t.1 ≤ d.1
      · exact md.2.2 t ht ⟨s1, s2, s3, k, by omega⟩
      · exact me.2.2 t ht ⟨fun z => by rw [z] at s3; omega, by omega, by omega, s4, s5⟩
  · have md := mem_dec.mp hd
    have me := mem_dec.mp he
    have c := cf_iff.mp c
    by_cases q : d.2 = e.2
    · exact .inl q
    · have n1 := md.2.2 e.2 me.1.1
      have n2 := me.2.2 d.2 md.1.1
      unfold Shd at n1 n2
      have q' : ¬ e.2 = d.2 := fun z => q z.symm
      have n1 : ¬ (d.2.1 ≤ e.2.1 ∧ e.2.2 ≤ d.2.2) := fun z => n1 ⟨q', z.1, z.2, c.1.1, c.1.2⟩
      have n2 : ¬ (e.2.1 ≤ d.2.1 ∧ d.2.2 ≤ e.2.2) := fun z => n2 ⟨q, z.1, z.2, c.2.1, c.2.2⟩
      have w := (mem_dec.mp hd).1.2.1
      omega
theorem sum_served {S : List (Int × Int)} : ∀ {D : List Dem}, (∀ d ∈ D, ∃ z ∈ S, sv z d = true) → D.length ≤ (S.map fun z => cov D z).sum := by
  intro D
  induction D with
  | nil => exact fun _ => Nat.zero_le _
  | cons d D ih =>
    intro h
    have r := ih fun e he => h e (List.mem_cons_of_mem _ he)
    obtain ⟨z, hz, s⟩ := h d List.mem_cons_self
    have step : ∀ T : List (Int × Int), (T.map fun z => cov (d :: D) z).sum = (T.map fun z => cov D z).sum + T.countP (fun z => sv z d) := by
      intro T
      induction T with
      | nil => rfl
      | cons w T it =>
        rw [List.map_cons, List.map_cons, List.sum_cons, List.sum_cons, it, cov_cons, List.countP_cons]
        omega
    rw [step, List.length_cons]
    have : 0 < S.countP (fun z => sv z d) := List.countP_pos_iff.mpr ⟨z, hz, s⟩
    omega
theorem sum_one {α : Type} {f : α → Nat} : ∀ {S : List α}, (∀ x ∈ S, f x ≤ 1) → (S.map f).sum ≤ S.length
  | [], _ => Nat.le_refl _
  | x :: S, h => by
    have r := sum_one (S := S) fun y hy => h y (List.mem_cons_of_mem _ hy)
    have := h x List.mem_cons_self
    rw [List.map_cons, List.sum_cons, List.length_cons]
    omega
/-- no fewer pieces than independent open demands -/
theorem weak_dual {ts ps S : List (Int × Int)} {D : List Dem} (c : Com ts ps S) (i : Ind D) (o : ∀ d ∈ D, OpenD ts ps d) : D.length ≤ S.length := by
  refine Nat.le_trans (sum_served (S := S) fun d hd => ?_) (sum_one fun z _ => i.cov_le z)
  obtain ⟨h1, h2, h3⟩ := o d hd
  obtain ⟨q, hq, k1, k2, k3, k4⟩ := c d.2 h1 d.1 h2.1 h2.2
  have s : sv q d = true := sv_iff'.mpr ⟨k1, k2, k3, k4⟩
  rcases List.mem_append.mp hq with hq | hq
  · rw [h3 q hq] at s
    cases s
  · exact ⟨q, hq, s⟩
theorem block_const {row : List (Int × Int)} (g : Good row) {b q : Int × Int} (hb : b ∈ blocksOf row) (hq : q ∈ row) {x : Int} (h1 : b.1 ≤ x) (h2 : x ≤ b.2) : (q.1 ≤ x ∧ x ≤ q.2) ↔ (q.1 ≤ b.1 ∧ b.2 ≤ q.2) := by
  have B := blocks_bl g
  have gq := g q hq
  constructor
  · rintro ⟨k1, k2⟩
    constructor
    · by_cases z : q.1 ≤ b.1
      · exact z
      · exact absurd ⟨q, hq, .inl rfl⟩ (B.inner hb (p := q.1) (by omega) (by omega))
    · by_cases z : b.2 ≤ q.2
      · exact z
      · exact absurd ⟨q, hq, .inr rfl⟩ (B.inner hb (p := q.2 + 1) (by omega) (by omega))
  · omega
theorem need_ok {ts ps : List (Int × Int)} (g : Good (ts ++ ps)) : (∃ D, Ind D ∧ (∀ d ∈ D, OpenD ts ps d) ∧ D.length = needO ts ps) ∧
    ∃ S, S.length ≤ needO ts ps ∧ Com ts ps S ∧ ∀ z ∈ S, ∃ t ∈ ts, t.1 ≤ z.1 ∧ z.1 ≤ z.2 ∧ z.2 ≤ t.2 := by
  have fam := dec_fam g
  have sub := lg_sub (decO ts ps).length (decO ts ps)
  refine ⟨⟨_, lg_ind _ _, fun d hd => (mem_dec.mp (sub.mem hd)).1, rfl⟩, ?_⟩
  obtain ⟨S, s1, s2⟩ := min_max (needO ts ps) fam fun I i1 i2 => lg_max _ _ (fun d hd => (fam.ok d hd).2) (Nat.le_refl _) I i1 i2
  have inn : ∀ d ∈ decO ts ps, d.2 ∈ ts ++ ps := fun d hd => List.mem_append_left _ (mem_dec.mp hd).1.1
  -- stretched to whole blocks
  have wide : ∀ z : Int × Int, (∃ d ∈ decO ts ps, sv z d = true) → ∃ w : Int × Int, (∀ d ∈ decO ts ps, sv z d = true → sv w d = true) ∧ ∃ b ∈ blocksOf (ts ++ ps), w.2 = b.2 := by
    rintro z ⟨d, hd, s⟩
    have s := sv_iff'.mp s
    have p1 : 0 < depI (ts ++ ps) z.1 := dep_pos.mpr ⟨d.2, inn d hd, s.1, by omega⟩
    have p2 : 0 < depI (ts ++ ps) z.2 := dep_pos.mpr ⟨d.2, inn d hd, by omega, s.2.2.2⟩
    obtain ⟨b, hb, b1, b2⟩ := dep_in g p1
    obtain ⟨c, hc, c1, c2⟩ := dep_in g p2
    refine ⟨(b.1, c.2), fun e he se => ?_, c, hc, rfl⟩
    have se := sv_iff'.mp se
    have k1 := (block_const g hb (inn e he) b1 b2).mp ⟨se.1, by omega⟩
    have k2 := (block_const g hc (inn e he) c1 c2).mp ⟨by omega, se.2.2.2⟩
    refine sv_iff'.mpr ⟨k1.1, ?_, ?_, k2.2⟩
    · show b.1 ≤ e.1
      omega
    · show e.1 ≤ c.2
      omega
  have ch : ∀ z : Int × Int, ∃ w : Int × Int, (∃ d ∈ decO ts ps, sv z d = true) → (∀ d ∈ decO ts ps, sv z d = true → sv w d = true) ∧ ∃ b ∈ blocksOf (ts ++ ps), w.2 = b.2 := fun z => by
    by_cases h : ∃ d ∈ decO ts ps, sv z d = true
    · obtain ⟨w, hw⟩ := wide z h
      exact ⟨w, fun _ => hw⟩
    · exact ⟨z, fun k => absurd k h⟩
  obtain ⟨f, hf⟩ := Classical.axiomOfChoice ch
  let use : Int × Int → Bool := fun z => (decO ts ps).any fun d => sv z d
  have useI : ∀ z, use z = true ↔ ∃ d ∈ decO ts ps, sv z d = true := fun z => List.any_eq_true
  refine ⟨(S.filter use).map f, ?_, fun t ht p h1 h2 => ?_, fun w hw => ?_⟩
  · rw [List.length_map]
    exact Nat.le_trans (List.length_filter_le _ _) s1
  · by_cases pc : ∃ q ∈ ps, t.1 ≤ q.1 ∧ q.1 ≤ p ∧ p ≤ q.2 ∧ q.2 ≤ t.2
    · obtain ⟨q, hq, k⟩ := pc
      exact ⟨q, List.mem_append_left _ hq, k⟩
    · have mt : t ∈ ts ++ ps := List.mem_append_left _ ht
      obtain ⟨b, hb, b1, b2⟩ := dep_in g (dep_pos.mpr ⟨t, mt, h1, h2⟩)
      have kt := (block_const g hb mt b1 b2).mp ⟨h1, h2⟩
      have bb : b.1 ≤ b.2 := by omega
      -- a shortest target inside t that contains the block
      have short : ∀ (n : Nat) (u : Int × Int), u ∈ ts → t.1 ≤ u.1 → u.2 ≤ t.2 → u.1 ≤ b.1 → b.1 ≤ u.2 → (u.2 - u.1).toNat ≤ n → ∃ v ∈ ts, t.1 ≤ v.1 ∧ v.2 ≤ t.2 ∧ v.1 ≤ b.1 ∧ b.1 ≤ v.2 ∧ ∀ x ∈ ts, ¬ Shd (b.1, v) x := by
        intro n
        induction n with
        | zero =>
          intro u hu a1 a2 a3 a4 a5
          refine ⟨u, hu, a1, a2, a3, a4, fun x hx s => ?_⟩
          obtain ⟨z1, z2, z3, z4, z5⟩ := s
          have z2 : u.1 ≤ x.1 := z2
          have z3 : x.2 ≤ u.2 := z3
          have z4 : x.1 ≤ b.1 := z4
          have z5 : b.1 ≤ x.2 := z5
          exact z1 (Prod.ext (by show x.1 = u.1; omega) (by show x.2 = u.2; omega))
        | succ n ih =>
          intro u hu a1 a2 a3 a4 a5
          by_cases k : ∀ x ∈ ts, ¬ Shd (b.1, u) x
          · exact ⟨u, hu, a1, a2, a3, a4, k⟩
          · have ⟨x, hx, s⟩ : ∃ x ∈ ts, Shd (b.1, u) x := Classical.byContradiction fun z => k fun x hx s => z ⟨x, hx, s⟩
            obtain ⟨z1, z2, z3, z4, z5⟩ := s
            have z2 : u.1 ≤ x.1 := z2
            have z3 : x.2 ≤ u.2 := z3
            have z4 : x.1 ≤ b.1 := z4
            have z5 : b.1 ≤ x.2 := z5
            have ne : ¬ (x.1 = u.1 ∧ x.2 = u.2) := fun e => z1 (Prod.ext e.1 e.2)
            exact ih x hx (by omega) (by omega) z4 z5 (by omega)
      obtain ⟨v, hv, v1, v2, v3, v4, v5⟩ := short _ t ht (Int.le_refl _) (Int.le_refl _) kt.1 (by omega) (Nat.le_refl _)
      have md : (b.1, v) ∈ decO ts ps := by
        refine mem_dec.mpr ⟨⟨hv, ⟨v3, v4⟩, fun q hq => ?_⟩, List.mem_map.mpr ⟨b, hb, rfl⟩, v5⟩
        rw [← Bool.not_eq_true]
        intro s
        have s := sv_iff'.mp s
        have s1 : v.1 ≤ q.1 := s.1
        have s2 : q.1 ≤ b.1 := s.2.1
        have s3 : b.1 ≤ q.2 := s.2.2.1
        have s4 : q.2 ≤ v.2 := s.2.2.2
        have kq := (block_const g hb (List.mem_append_right _ hq) (Int.le_refl _) bb).mp ⟨s2, s3⟩
        exact pc ⟨q, hq, by omega, by omega, by omega, by omega⟩
      obtain ⟨z, hz, sz⟩ := s2 _ md
      obtain ⟨fw, c, hc, ec⟩ := hf z ⟨_, md, sz⟩
      have sw := sv_iff'.mp (fw _ md sz)
      have w1 : v.1 ≤ (f z).1 := sw.1
      have w2 : (f z).1 ≤ b.1 := sw.2.1
      have w3 : b.1 ≤ (f z).2 := sw.2.2.1
      have w4 : (f z).2 ≤ v.2 := sw.2.2.2
      refine ⟨f z, List.mem_append_right _ (List.mem_map.mpr ⟨z, List.mem_filter.mpr ⟨hz, (useI z).mpr ⟨_, md, sz⟩⟩, rfl⟩), by omega, by omega, ?_, by omega⟩
      obtain ⟨i, ei⟩ := List.getElem?_of_mem hb
      obtain ⟨j, ej⟩ := List.getElem?_of_mem hc
      have B := blocks_bl g
      have cc : c.1 ≤ c.2 := by
        have := B.ok c hc
        omega
      rcases Nat.lt_trichotomy i j with l | l | l
      · have := B.idx l ei ej
        omega
      · subst l
        rw [ei] at ej
        cases ej
        omega
      · have := B.idx l ej ei
        omega
  · obtain ⟨z, hz, rfl⟩ := List.mem_map.mp hw
    obtain ⟨d, hd, s⟩ := (useI z).mp (List.mem_filter.mp hz).2
    have sw := sv_iff'.mp ((hf z ⟨d, hd, s⟩).1 d hd s)
    exact ⟨d.2, (mem_dec.mp hd).1.1, sw.1, by omega, sw.2.2.2⟩

/-! ### sorted(set(pairs)) -/
def ltP (a b : Int × Int) : Prop := a.1 < b.1 ∨ (a.1 = b.1 ∧ a.2 < b.2)
def prL (q : Int × Int) : List Int := [q.1, q.2]
theorem prL_inj {a b : Int × Int} (h : prL a = prL b) : a = b := by
  unfold prL at h
  cases a
  cases b
  simp at h
  rw [h.1, h.2]
theorem mem_prL {q : Int × Int} {ps : List (Int × Int)} : prL q ∈ ps.map prL ↔ q ∈ ps := by
  rw [List.mem_map]
  exact ⟨fun ⟨a, ha, e⟩ => prL_inj e ▸ ha, fun h => ⟨q, h, rfl⟩⟩
theorem Ivs.keys {H : Hp} {us : List V} {ps : List (Int × Int)} (h : Ivs H us ps) : ∃ ks : List (Addr × List Int), us = ks.map (fun p => V.ref p.1) ∧ ks.map (·.2) = ps.map prL ∧ ∀ p ∈ ks, ∃ x y : Int, p.2 = [x, y] ∧ H p.1 = some (.tup [.int x, .int y]) := by
  induction h with
  | nil => exact ⟨[], rfl, rfl, fun p hp => nomatch hp⟩
  | cons e _ ih =>
    obtain ⟨ks, e1, e2, e3⟩ := ih
    refine ⟨(_, [_, _]) :: ks, by rw [List.map_cons, e1], by rw [List.map_cons, List.map_cons, e2]; rfl, fun p hp => ?_⟩
    rcases List.mem_cons.mp hp with rfl | hp
    · exact ⟨_, _, rfl, e⟩
    · exact e3 p hp
theorem Ivs.ofKeys {H : Hp} : ∀ {L : List (Addr × List Int)}, (∀ p ∈ L, ∃ x y : Int, p.2 = [x, y] ∧ H p.1 = some (.tup [.int x, .int y])) → ∃ ps, Ivs H (L.map fun p => V.ref p.1) ps ∧ L.map (·.2) = ps.map prL
  | [], _ => ⟨[], .nil, rfl⟩
  | p :: L, h => by
    obtain ⟨x, y, e, e1⟩ := h p List.mem_cons_self
    obtain ⟨ps, i, e2⟩ := Ivs.ofKeys (L := L) fun q hq => h q (List.mem_cons_of_mem _ hq)
    exact ⟨(x, y) :: ps, .cons e1 i, by rw [List.map_cons, List.map_cons, e2, e]; rfl⟩
theorem Ivs.tpsMem {H : Hp} {us : List V} {ps : List (Int × Int)} (h : Ivs H us ps) {q : Int × Int} (hq : q ∈ ps) : ∃ a, V.ref a ∈ us ∧ H a = some (.tup [.int q.1, .int q.2]) := by
  induction h with
  | nil => cases hq
  | cons e _ ih =>
    rcases List.mem_cons.mp hq with rfl | hq
    · exact ⟨_, List.mem_cons_self, e⟩
    · obtain ⟨a, h1, h2⟩ := ih hq
      exact ⟨a, List.mem_cons_of_mem _ h1, h2⟩
theorem sorted_keys {K : PySem.W.Frag} {P : Program} {w : World} {H : Hp} {ps : List (Int × Int)} {Q : VK} {ks L : List (Addr × List Int)} {a : Addr} (e2 : ks.map (·.2) = ps.map prL) (e3 : ∀ p ∈ ks, ∃ x y : Int, p.2 = [x, y] ∧ H p.1 = some (.tup [.int x, .int y])) (na : H a = none) (h1 : ∀ p ∈ L, p ∈ ks) (h2 : ∀ p ∈ ks, p.2 ∈ L.map (·.2)) (bd : ∀ q ∈ ps, (0 ≤ q.1 ∧ q.1 < 10 ^ 13) ∧ 0 ≤ q.2 ∧ q.2 < 10 ^ 13)
    (fin : ∀ H' p us' ps', Same H H' → H p = none → H' p = some (.lst us') → Ivs H' us' ps' → ps'.Pairwise ltP → (∀ q, q ∈ ps' ↔ q ∈ ps) → Q (.ref p) H') :
    rSortedT K P w [.ref a] (upd H a (SetTO P w a L)) Q := by
  have s1 : Same H (upd H a (SetTO P w a L)) := same_new na
  refine ⟨a, L, 2, 10 ^ 13, rfl, upd_same, fun p hp => ?_, by decide, fun p hp => ?_, fun L' p pm nd fw pw np => ?_⟩
  · obtain ⟨x, y, e, e1⟩ := e3 p (h1 p hp)
    rw [e]
    exact SqT.of (s1 _ _ e1)
  · have m : p.2 ∈ ks.map (·.2) := List.mem_map.mpr ⟨p, h1 p hp, rfl⟩
    rw [e2] at m
    obtain ⟨q, hq, e⟩ := List.mem_map.mp m
    have b := bd q hq
    rw [← e]
    refine ⟨rfl, fun m hm => ?_⟩
    unfold prL at hm
    rcases List.mem_cons.mp hm with rfl | hm
    · exact b.1
    · rw [List.mem_singleton.mp hm]
      exact b.2
  · have s2 : Same (upd H a (SetTO P w a L)) (upd (upd H a (SetTO P w a L)) p (.lst (L'.map fun q => V.ref q.1))) := same_new np
    obtain ⟨ps', i, e4⟩ := Ivs.ofKeys (H := H) (L := L') fun q hq => e3 q (h1 q (pm.mem_iff.mp hq))
    have mem : ∀ q, q ∈ ps' ↔ q ∈ ps := fun q => by
      rw [← mem_prL, ← e4, ← mem_prL (ps := ps), ← e2, (pm.map (·.2)).mem_iff]
      constructor
      · intro h
        obtain ⟨p, hp, e⟩ := List.mem_map.mp h
        exact List.mem_map.mpr ⟨p, h1 p hp, e⟩
      · intro h
        obtain ⟨p, hp, e⟩ := List.mem_map.mp h
        rw [← e]
        exact h2 p hp
    refine fin _ p _ ps' (s1.trans s2) (s1.free np) upd_same (i.same (s1.trans s2)) ?_ mem
    have pw2 : (L'.map (·.2)).Pairwise (fun q r => TS.code (10 ^ 13) q ≤ TS.code (10 ^ 13) r) := List.pairwise_map.mpr pw
    have both := pw2.and nd
    rw [e4] at both
    refine (List.pairwise_map.mp both).imp_of_mem fun {x y} hx hy h => ?_
    have bx := bd x ((mem x).mp hx)
    have bY := bd y ((mem y).mp hy)
    have tb : ∀ {z : Int × Int}, ((0 ≤ z.1 ∧ z.1 < 10 ^ 13) ∧ 0 ≤ z.2 ∧ z.2 < 10 ^ 13) → TS.Bd (10 ^ 13) [z.1, z.2] := fun b m hm => by
      rcases List.mem_cons.mp hm with rfl | hm
      · exact b.1
      · rw [List.mem_singleton.mp hm]
        exact b.2
    rcases code_lex (tb bx) (tb bY) h.1 with c | ⟨c1, c2⟩
    · exact .inl c
    · refine .inr ⟨c1, ?_⟩
      rcases Int.lt_or_eq_of_le c2 with z | z
      · exact z
      · exact absurd (show prL x = prL y by unfold prL; rw [c1, z]) h.2
theorem sorted_set_pairs {K : PySem.W.Frag} {P : Program} {w : World} {H : Hp} {l : Addr} {us : List V} {ps : List (Int × Int)} {Q : VK} (hl : SqL K H l us) (iv : Ivs H us ps) (few : ps.length < 64) (bd : ∀ q ∈ ps, (0 ≤ q.1 ∧ q.1 < 10 ^ 13) ∧ 0 ≤ q.2 ∧ q.2 < 10 ^ 13)
    (fin : ∀ H' p us' ps', Same H H' → H p = none → H' p = some (.lst us') → Ivs H' us' ps' → ps'.Pairwise ltP → (∀ q, q ∈ ps' ↔ q ∈ ps) → Q (.ref p) H') :
    rSetOfT K P w [.ref l] H (fun x H1 => rSortedT K P w [x] H1 Q) := by
  obtain ⟨ks, rfl, e2, e3⟩ := iv.keys
  have lk : ks.length = ps.length := by
    have z := congrArg List.length e2
    rw [List.length_map, List.length_map] at z
    exact z
  refine ⟨l, ks, rfl, hl, fun p hp => ?_, by omega, fun a L na h1 h2 => ?_⟩
  · obtain ⟨x, y, e, e1⟩ := e3 p hp
    rw [e]
    exact SqT.of e1
  exact sorted_keys e2 e3 na h1 h2 bd fin

def leP (a b : Int × Int) : Prop := a.1 < b.1 ∨ (a.1 = b.1 ∧ a.2 ≤ b.2)
theorem leP_of_lt {ps : List (Int × Int)} (h : ps.Pairwise ltP) : ps.Pairwise leP := h.imp fun {a b} h => by
  rcases h with h | h
  · exact .inl h
  · exact .inr ⟨h.1, by omega⟩
theorem leP_uniq {ps qs : List (Int × Int)} (h1 : ps.Pairwise leP) (h2 : qs.Pairwise leP) (pm : ps.Perm qs) : ps = qs := by
  refine pm.eq_of_pairwise (le := leP) (fun a b _ _ x y => ?_) h1 h2
  have : a.1 = b.1 ∧ a.2 = b.2 := by
    unfold leP at x y
    omega
  exact Prod.ext this.1 this.2

theorem sorted_set_pairsT {K : PySem.W.Frag} {P : Program} {w : World} {H : Hp} {l : Addr} {us : List V} {ps : List (Int × Int)} {Q : VK} (hl : H l = some (.tup us)) (iv : Ivs H us ps) (few : ps.length < 64) (bd : ∀ q ∈ ps, (0 ≤ q.1 ∧ q.1 < 10 ^ 13) ∧ 0 ≤ q.2 ∧ q.2 < 10 ^ 13)
    (fin : ∀ H' p us' ps', Same H H' → H p = none → H' p = some (.lst us') → Ivs H' us' ps' → ps'.Pairwise ltP → (∀ q, q ∈ ps' ↔ q ∈ ps) → Q (.ref p) H') :
    rSetOfTT K P w [.ref l] H (fun x H1 => rSortedT K P w [x] H1 Q) := by
  obtain ⟨ks, rfl, e2, e3⟩ := iv.keys
  -- the same keys, in a list that nobody holds: what follows is as there
  have lk : ks.length = ps.length := by
    have z := congrArg List.length e2
    rw [List.length_map, List.length_map] at z
    exact z
  refine ⟨l, ks, rfl, SqT.of hl, fun p hp => ?_, by omega, fun a L na h1 h2 => ?_⟩
  · obtain ⟨x, y, e, e1⟩ := e3 p hp
    rw [e]
    exact SqT.of e1
  exact sorted_keys e2 e3 na h1 h2 bd fin

/-! ### sorted(t), t a tuple of pairs of ints -/
section
variable {prog : Program} {w : World} {A : Around} {E : Value → Shared → Prop} {s : Shared}
/-- the items of a tuple, gathered in a new list -/
theorem collectT {Q : List Value → Shared → Prop} {t : Addr} {o : Obj} {xs : Array Value} {n : Nat} (ho : s.heap.get? t = some o) (hc : o.cls = .type "tuple") (hd : o.data = .seq xs n) (sz : xs.size ≤ sizeLine)
    (fin : ∀ g, s.heap.objs.size ≤ g.objs.size → (∀ b u, s.heap.get? b = some u → g.get? b = some u) → Q xs.toList { s with heap := g }) : wpAny (model prog w) A (collect (.ref t)) Q E s := by
  obtain ⟨g0, eg0⟩ : ∃ g0, s.heap.push { cls := .type "list", data := .seq ([] : List Value).toArray } = g0 := ⟨_, rfl⟩
  have n0 : g0.get? s.heap.objs.size = some { cls := .type "list", data := .seq #[] 0 } := by
    rw [← eg0]
    exact Heap.get?_push_size _ rfl
  have z0 : g0.objs.size = s.heap.objs.size + 1 := by
    rw [← eg0]
    exact Heap.size_push ..
  have k0 : ∀ b u, s.heap.get? b = some u → g0.get? b = some u := fun b u e => by
    rw [← eg0]
    exact Heap.get?_push_of_some _ e
  have n1 := Heap.get?_update_self (Obj.mapSeq (· ++ xs)) n0 rfl
  have last : ∀ s' : Shared, s' = { s with heap := g0.update s.heap.objs.size (Obj.mapSeq (· ++ xs)) } → wpAny (model prog w) A (match Value.ref s.heap.objs.size with
      | Value.ref a => do
        match (← load a).data with
          | Data.seq ys _ => pure ys.toList
          | _ => unsupported "internal:collect"
      | _ => unsupported "internal:collect") Q E s' := fun s' es => by
    rw [es]
    refine wpAny_bind (m := load s.heap.objs.size) (wpAny_load n1 (wpAny_pure ?_))
    show Q ((#[] : Array Value) ++ xs).toList _
    rw [show ((#[] : Array Value) ++ xs).toList = xs.toList by simp]
    refine fin _ (by rw [Heap.size_update, z0]; omega) fun b u e => ?_
    exact (Heap.get?_update_other _ _ (Nat.ne_of_gt (Heap.lt_size e))).trans (k0 b u e)
  unfold collect
  refine wpAny_bind (wpAny_runValue (codeAny_builtin (b := _) F.entry_proto_collect ?_))
  rw [Around.under_plainId (F.plain_proto_collect) _]
  show wpAny _ A.in1 (newList [] >>= fun l => again (.builtin "list.__iadd__" ⟨[l, .ref t], []⟩)) _ _ s
  refine wpAny_bind (wpAny_newObj_type (wpAny_pure ⟨plainId_quiet (F.plain_list_iadd) _, codeAny_builtin (b := _) F.entry_list_iadd ?_⟩))
  rw [Around.under_plainId (F.plain_list_iadd) _, eg0]
  show wpAny _ A.in1 (Builtin.List.listExtendWith (Value.ref s.heap.objs.size) (.ref t) (.ref s.heap.objs.size)) _ _ _
  refine wpAny_mono (wpAny_extend_seq (hsz := sz) (A := A) (R := fun r s' => r = .ok (.ret (.ref s.heap.objs.size)) ∧ s' = { s with heap := g0.update s.heap.objs.size (Obj.mapSeq (· ++ xs)) }) (s := { s with heap := g0 }) _ t _ 0 (.inr rfl) n0 (k0 _ _ ho) hc hd ⟨rfl, rfl⟩) (fun f s' h => ?_) (fun e s' h => absurd h.1 (by simp))
  cases f with
  | done f =>
    obtain ⟨e, h2⟩ := h
    cases e
    exact last s' h2
  | again c => exact ⟨h.1, codeAny_mono h.2 fun r s2 hr => by obtain ⟨rfl, h2⟩ := hr; exact last s2 h2⟩
theorem sortedTup {l : Addr} {vs : List Value} {k : Value → Int × Int} {Q : Value → Shared → Prop} (isT : IsTup s.heap l vs.toArray) (sz : vs.length ≤ sizeLine) (prs : ∀ v ∈ vs, Srt.IsPair s.heap v (k v).1 (k v).2)
    (fin : ∀ (h' : Heap) (d : Addr) (out : List Value), SrtO.Srtd (fun v u => SrtO.lexB (k v) (k u)) out → out.Perm vs → (∀ b o, s.heap.get? b = some o → h'.get? b = some o) → s.heap.objs.size ≤ d → (∃ n, h'.get? d = some (seqObj "list" out.toArray n)) → Q (.ref d) { s with heap := h' }) :
    wpAny (model prog w) A (call (.builtin "sorted") [.ref l]) Q E s := by
  refine Calls.call_function_entry kind_sorted (plain_sorted) entry_sorted (args_sorted1 _) ?_
  unfold Builtin.«sorted»
  refine wpAny_bind (m := checkCount "sorted" 1 1 _) (wpAny_pure (wpAny_bind ?_))
  obtain ⟨o, ho, hc, n, hd⟩ := isT
  refine collectT ho hc hd (by rw [List.size_toArray]; exact sz) (fun h1 big k1 => ?_)
  rw [List.toList_toArray]
  refine wpAny_bind (wpAny_newList ?_ sz)
  have own : (h1.push (seqObj "list" vs.toArray 0)).get? h1.objs.size = some (seqObj "list" vs.toArray 0) := Heap.get?_push_size _ rfl
  have keep : ∀ b o, s.heap.get? b = some o → b ≠ h1.objs.size ∧ b < (h1.push (seqObj "list" vs.toArray 0)).objs.size ∧ (h1.push (seqObj "list" vs.toArray 0)).get? b = some o := fun b o e => by
    have lt : b < h1.objs.size := Heap.lt_size (k1 b o e)
    exact ⟨Nat.ne_of_lt lt, by rw [Heap.size_push]; exact Nat.lt_succ_of_lt lt, Heap.get?_push_of_some _ (k1 b o e)⟩
  show wpAny _ _ _ _ _ { s with heap := h1.push (seqObj "list" vs.toArray 0) }
  refine wpAny_bind (wpAny_holding (wpAny_call_entry slot_list_sort ⟨_, own, rfl⟩ entry_list_sort (SrtO.list_sort_ord (SrtO.swo_lex k) own sz (fun h2 => ?_) fun out hs hb => ⟨_, rfl, ?_⟩) (args_list_sort _)))
  · refine SrtO.pairs_sortableO (s := { s with heap := h1.push (seqObj "list" vs.toArray 0) }) (by omega) (fun v hm => (prs v hm).keeps fun b o e _ => (keep b o e).2.2) fun o' e' => ?_
    have z : some o' = some (seqObj "list" vs.toArray 0) := e'.symm.trans own
    cases z
    exact fun c => absurd (Value.type.inj c) (by decide)
  · refine wpAny_pure ⟨_, rfl, fin _ _ out hs hb.perm (fun b o e => ?_) big (sortedHeap_at own)⟩
    have z := keep b o e
    rw [sortedHeap_old z.1 z.2.1]
    exact z.2.2
end
def rSortTP (K : PySem.W.Frag) : List V → Hp → VK → Prop := fun vs H Q => ∃ (a : Addr) (us : List V) (ps : List (Int × Int)), vs = [V.ref a] ∧ SqT K H a us ∧ Ivs H us ps ∧
  ∀ H' p us' ps', Same H H' → H p = none → H' p = some (.lst us') → Ivs H' us' ps' → ps'.Pairwise leP → ps'.Perm ps → Q (.ref p) H'
theorem Ivs.mem1 {H : Hp} {vs : List V} {ps : List (Int × Int)} (h : Ivs H vs ps) {v : V} (hv : v ∈ vs) : ∃ a q, q ∈ ps ∧ v = .ref a ∧ H a = some (.tup [.int q.1, .int q.2]) := by
  obtain ⟨i, ei⟩ := List.getElem?_of_mem hv
  obtain ⟨a, x, y, e, ep, ea⟩ := h.get ei
  exact ⟨a, (x, y), List.mem_of_getElem? ep, e, ea⟩
noncomputable def pairAt (H : Hp) (v : V) : Int × Int := Classical.epsilon fun q => ∃ a, v = .ref a ∧ H a = some (.tup [.int q.1, .int q.2])
theorem pairAt_eq {H : Hp} {a : Addr} {x y : Int} (h : H a = some (.tup [.int x, .int y])) : pairAt H (.ref a) = (x, y) := by
  have e : ∃ q : Int × Int, ∃ b, V.ref a = .ref b ∧ H b = some (.tup [.int q.1, .int q.2]) := ⟨(x, y), a, rfl, h⟩
  obtain ⟨b, e1, e2⟩ := Classical.epsilon_spec e
  cases e1
  have e2 : H a = some (.tup [.int (pairAt H (.ref a)).1, .int (pairAt H (.ref a)).2]) := e2
  rw [h] at e2
  have z := Option.some.inj e2
  injection z with z
  injection z with z1 z2
  injection z2 with z2 _
  injection z1 with z1
  injection z2 with z2
  exact Prod.ext z1.symm z2.symm
theorem Ivs.pairAt {H : Hp} {vs : List V} {ps : List (Int × Int)} (h : Ivs H vs ps) : vs.map (pairAt H) = ps := by
  induction h with
  | nil => rfl
  | cons e _ ih => rw [List.map_cons, ih, pairAt_eq e]
theorem Ivs.perm1 {H : Hp} {xs ys : List V} (pm : ys.Perm xs) : ∀ {ps : List (Int × Int)}, Ivs H xs ps → ∃ ps', Ivs H ys ps' ∧ ps'.Perm ps := by
  induction pm with
  | nil =>
    intro ps h
    exact ⟨ps, h, .refl _⟩
  | cons x _ ih =>
    intro ps h
    cases h with
    | cons e h =>
      obtain ⟨ps', h', p'⟩ := ih h
      exact ⟨_ :: ps', .cons e h', p'.cons _⟩
  | swap x y l =>
    intro ps h
    cases h with
    | cons e h =>
      cases h with
      | cons e2 h => exact ⟨_, .cons e2 (.cons e h), .swap _ _ _⟩
  | trans _ _ ih1 ih2 =>
    intro ps h
    obtain ⟨p2, h2, q2⟩ := ih2 h
    obtain ⟨p1, h1, q1⟩ := ih1 h2
    exact ⟨p1, h1, q1.trans q2⟩
theorem cr_sortTP {X : Cx} : CallR X (.builtin "sorted") (rSortTP X.K) := by
  intro pins s σ H vs us0 Q I r h
  obtain ⟨a, us, ps, rfl, hs, iv, q⟩ := h
  obtain ⟨its, rv, isT, sz⟩ := I.tuple hs
  obtain ⟨u, rfl, ru⟩ := vals1 r
  obtain rfl : u = Value.ref a := ru
  obtain ⟨e1, e2⟩ := refs_back rv fun x m => by
    obtain ⟨t, q, _, e, _⟩ := iv.mem1 m
    exact ⟨t, e⟩
  refine sortedTup (k := fun u => pairAt H (backV u)) isT (by rw [← rv.length]; exact sz) (fun v hv => ?_) fun h' d out h1 pmo kp hd hn => ?_
  · obtain ⟨t, rfl⟩ := e2 v hv
    have hm : V.ref t ∈ us := by rw [e1]; exact List.mem_map.mpr ⟨_, hv, rfl⟩
    obtain ⟨t', pq, _, e, ht⟩ := iv.mem1 hm
    cases e
    obtain ⟨_, its2, r2, o, ho, hc, n, hd⟩ := I.hok _ _ ht
    obtain ⟨u1, u2, rfl, ri, rj⟩ := vals2 r2
    obtain ⟨t1, rfl⟩ := ri
    obtain ⟨t2, rfl⟩ := rj
    show Srt.IsPair _ _ (pairAt H (.ref t)).1 (pairAt H (.ref t)).2
    rw [pairAt_eq ht]
    exact ⟨t, o, t1, t2, n, rfl, ho, hc, hd⟩
  · have h3 : ∀ u ∈ out, ∃ a, u = Value.ref a := fun u hu => e2 u (pmo.mem_iff.mp hu)
    obtain ⟨n, hn⟩ := hn
    have pm : (out.map backV).Perm us := by
      rw [e1]
      exact pmo.map backV
    obtain ⟨qs, ivq, pmq⟩ := Ivs.perm1 pm iv
    have fr : H d = none := I.hok.fresh hd
    have s1 : Same H (upd H d (.lst (out.map backV))) := same_new fr
    have asc : qs.Pairwise leP := by
      rw [← ivq.pairAt]
      refine List.pairwise_map.mpr (List.pairwise_map.mpr (List.Pairwise.imp (fun {x y} z => ?_) h1))
      have z := SrtO.lexB_no.mp z
      unfold leP
      omega
    refine ⟨.ref d, upd H d (.lst (out.map backV)), I.laid (t' := s.toks) kp hd ⟨?_, out, n, vals_back h3, hn⟩, rfl, q _ d _ qs s1 fr upd_same (ivq.same s1) asc pmq⟩
    rw [pm.length_eq]
    exact sz

/-! ### comprehensions over a range that change nothing but make new objects -/
theorem lcR {lo : Int} {n : Nat} {g : TG} {tt : TT} {te : TE} {vs : List Nat} {σ : L2.St} {H1 : Hp} {D : Addr} {Qd : Hp → Prop} (R : Nat → Hp → List V → Prop) (nD : H1 D = none) (few : n < 1000)
    (mono : ∀ i H' H'' ws, Tps H' H'' → R i H' ws → R i H'' ws) (len : ∀ i H' ws, R i H' ws → ws.length ≤ i) (r0 : ∀ H', R 0 H' [])
    (hs : ∀ i H' (N : Hp → Prop) acc, i < n → Same H1 H' → H' D = some (.lst acc) → acc.length < sizeLine → R i H' acc → (∀ H'', Same H' H'' → R (i + 1) H'' acc → N H'') → (∀ H'' y, Same H' H'' → R (i + 1) H'' (acc ++ [y]) → ∃ acc', H'' D = some (.lst acc') ∧ acc'.length < sizeLine ∧ N (upd H'' D (.lst (acc' ++ [y])))) →
      g (.int (lo + i)) (wipe σ vs) H' fun σ2 H2 => wipe σ2 vs = wipe σ vs ∧ tt σ2 H2 fun b H3 => if b = true then te σ2 H3 fun y H4 => ∃ acc, H4 D = some (.lst acc) ∧ acc.length < sizeLine ∧ N (upd H4 D (.lst (acc ++ [y]))) else N H3)
    (hd : ∀ H' ws, Same H1 H' → H' D = some (.lst ws) → R n H' ws → Qd H') :
    ∃ W : Nat → Nat → Hp → Prop, (∃ m, W 0 m (upd H1 D (.lst []))) ∧ ∀ i m H, W i m H →
      ((Itr lo n).stop i H ∧ Qd H) ∨ ((Itr lo n).go i H ∧ ∃ Nx : Hp → Prop, (∀ H', Nx H' → ∃ m', m' < m ∧ W (i + 1) m' H') ∧ ∀ x H', (Itr lo n).yld i H x H' → g x (wipe σ vs) H' fun σ2 H2 => wipe σ2 vs = wipe σ vs ∧ tt σ2 H2 fun b H3 =>
        if b = true then te σ2 H3 fun y H4 => ∃ acc, H4 D = some (.lst acc) ∧ acc.length < sizeLine ∧ Nx (upd H4 D (.lst (acc ++ [y]))) else Nx H3) := by
  refine lc_range (lo := lo) (n := n) (fun i H' => Same H1 H' ∧ ∃ ws, H' D = some (.lst ws) ∧ R i H' ws) ⟨same_new nD, [], upd_same, r0 _⟩ ?_ ?_
  · rintro i H' hi ⟨sm, ws, eD, r⟩
    have lw := len i H' ws r
    have sz : ws.length < sizeLine := few_line (by omega)
    refine hs i H' _ ws hi sm eD sz r (fun H'' s r2 => ⟨sm.trans s, ws, s _ _ eD, r2⟩) (fun H'' y s r2 => ?_)
    exact ⟨ws, s _ _ eD, sz, same_off nD (sm.trans s), _, upd_same, mono _ _ _ _ (Tps.lst (s _ _ eD)) r2⟩
  · rintro H' ⟨sm, ws, eD, r⟩
    exact hd H' ws sm eD r

/-! ### more of tuples: t == (), and one pair > another -/
section
variable {X : Cx}
def rEqE (K : PySem.W.Frag) : R2 := fun x y H Q => ∃ (a b : Addr) (xs : List V), x = .ref a ∧ y = .ref b ∧ SqT K H a xs ∧ SqT K H b [] ∧ Q (.bl xs.isEmpty) H
theorem op_eqE (units : X.A.units < cLine) : OpR X (compareOp .Eq) (rEqE X.K) := by
  intro pins s σ H x y v u Q I rx ry h
  obtain ⟨a, b, xs, rfl, rfl, ha, hb, q⟩ := h
  cases rx
  cases ry
  obtain ⟨its, r1, p1, _⟩ := I.tuple ha
  obtain ⟨its2, r2, p2, _⟩ := I.tuple hb
  cases r2
  apply SeqAt.eq_tupleAt (e := fun _ => true) (show s.heap.IsTuple a its.toArray from p1) (show s.heap.IsTuple b ([] : List Value).toArray from p2) units
  · intro j h1 h2
    exact absurd h2 (Nat.not_lt_zero j)
  · refine ⟨.bl xs.isEmpty, H, I, ?_, q⟩
    cases r1 with
    | nil => rfl
    | cons r t => rfl
def gtP (p q : Int × Int) : Bool := decide (q.1 < p.1 ∨ (p.1 = q.1 ∧ q.2 < p.2))
def rGtP (K : PySem.W.Frag) : R2 := fun x y H Q => ∃ (a b : Addr) (p q : Int × Int), x = .ref a ∧ y = .ref b ∧ SqT K H a [.int p.1, .int p.2] ∧ SqT K H b [.int q.1, .int q.2] ∧ Q (.bl (gtP p q)) H
theorem op_gtP (units : X.A.units < cLine) : OpR X (compareOp .Gt) (rGtP X.K) := by
  intro pins s σ H x y v u Q I rx ry h
  obtain ⟨a, b, p, q, rfl, rfl, ha, hb, k⟩ := h
  cases rx
  cases ry
  obtain ⟨us, r1, p1, _⟩ := I.tuple ha
  obtain ⟨ws, r2, p2, _⟩ := I.tuple hb
  obtain ⟨x1, x2, rfl, ⟨t1, rfl⟩, ⟨t2, rfl⟩⟩ := vals2 r1
  obtain ⟨y1, y2, rfl, ⟨u1, rfl⟩, ⟨u2, rfl⟩⟩ := vals2 r2
  have R := Ob.RcOp.tuples_gt (A := X.A) (s := s) (l := a) (b := b) (e := fun j => if j = 0 then p.1 == q.1 else p.2 == q.2) (r := fun j => if j = 0 then decide (q.1 < p.1) else decide (q.2 < p.2)) p1 p2 units
    (fun j j1 j2 => by
      match j, j1, j2 with
      | 0, _, _ => exact SeqAt.EqAt.int_int _ _ _ _
      | 1, _, _ => exact SeqAt.EqAt.int_int _ _ _ _)
    (fun j j1 j2 _ => by
      match j, j1, j2 with
      | 0, _, _ => exact Ob.RcOp.gt_int _ _ _ _
      | 1, _, _ => exact Ob.RcOp.gt_int _ _ _ _)
  have e : Ob.lexAt (fun j => if j = 0 then p.1 == q.1 else p.2 == q.2) (fun j => if j = 0 then decide (q.1 < p.1) else decide (q.2 < p.2)) (decide ((#[Value.int p.1 t1, Value.int p.2 t2]).size > (#[Value.int q.1 u1, Value.int q.2 u2]).size)) 0 (min (#[Value.int p.1 t1, Value.int p.2 t2]).size (#[Value.int q.1 u1, Value.int q.2 u2]).size) = gtP p q := by
    show (if (p.1 == q.1) = true then (if (p.2 == q.2) = true then false else decide (q.2 < p.2)) else decide (q.1 < p.1)) = _
    unfold gtP
    by_cases c : p.1 = q.1
    · rw [if_pos (beq_iff_eq.mpr c)]
      by_cases c2 : p.2 = q.2
      · rw [if_pos (beq_iff_eq.mpr c2)]
        exact (decide_eq_false (by omega)).symm
      · rw [if_neg (fun h => c2 (beq_iff_eq.mp h))]
        exact decide_eq_decide.mpr (by omega)
    · rw [if_neg (fun h => c (beq_iff_eq.mp h))]
      exact decide_eq_decide.mpr (by omega)
  rw [e] at R
  exact R X.prog X.w X.xe (EP X pins σ Q) ⟨.bl _, H, I, rfl, k⟩
end

/-! ### drawn intervals of the positions below a width -/
structure Rw (w : Int) (ps : List (Int × Int)) : Prop where
  asc : ps.Pairwise ltP
  ok : ∀ q ∈ ps, 0 ≤ q.1 ∧ q.1 ≤ q.2 ∧ q.2 < w
theorem Rw.bd {w : Int} {ps : List (Int × Int)} (h : ∀ q ∈ ps, 0 ≤ q.1 ∧ q.1 ≤ q.2 ∧ q.2 < w) (hw : w ≤ 100) : ∀ q ∈ ps, (0 ≤ q.1 ∧ q.1 < 10 ^ 13) ∧ 0 ≤ q.2 ∧ q.2 < 10 ^ 13 := fun q hq => by
  have := h q hq
  omega
theorem Rw.len {ps qs : List (Int × Int)} (asc : ps.Pairwise ltP) (mem : ∀ q, q ∈ ps ↔ q ∈ qs) : ps.length ≤ qs.length := by
  have ndp : ps.Nodup := asc.imp fun {a b} h e => by
    subst e
    rcases h with h | h <;> omega
  exact nodup_le ndp fun x hx => (mem x).mp hx
def sp_law_spans : Sp := fun vs H Q _ => ∃ (d : Addr) (c : Addr × Addr × Addr) (n width many : Int), vs = [.ref d, .int width, .int many] ∧ Dk H d c n ∧ 0 ≤ n ∧ n < 900000 ∧ 1 ≤ width ∧ width ≤ 100 ∧ 0 ≤ many ∧ many ≤ 30 ∧
  ∀ H' t us ps m, Kp d c H H' → Dk H' d c m → n ≤ m → m ≤ n + 3 * many → H' t = some (.tup us) → Ivs H' us ps → Rw width ps → (ps.length : Int) ≤ many → Q (.ref t) H'
theorem pick2 {r a b : Int} (h0 : 0 ≤ r) (h1 : r < 2) : ∃ L : Int, atI [V.int a, .int b] r = some (.int L) ∧ (L = a ∨ L = b) := by
  have : r = 0 ∨ r = 1 := by omega
  rcases this with rfl | rfl
  · exact ⟨a, rfl, .inl rfl⟩
  · exact ⟨b, rfl, .inr rfl⟩
theorem ok_law_spans (T : Tx K mg f_depth_changes f_find_blocks f_is_number f_is_position f_is_tuple_of f_is_interval f_is_ascending f_has_position f_contains f_is_demand f_serves f_conflict f_is_independent f_demands_at_blocks f_is_open f_open_demands f_shadow_target f_pieces_inside f_first_gap f_find_missing f_require_few_blocks f_decisive_demands f_largest_independent f_unserved_demands f_helpful_piece f_smallest_solution f_solve f_are_witnesses f_solution_holds f_law_draws f_law_next f_law_one f_law_spans f_law_targets f_law_covers f_law_is_interval f_law_is_demand f_law_rising f_law_served f_law_clash f_law_are_witnesses f_law_solved f_law_bent f_law d_depth_changes d_find_blocks d_is_number d_is_position d_is_tuple_of d_is_interval d_is_ascending d_has_position d_contains d_is_demand d_serves d_conflict d_is_independent d_demands_at_blocks d_is_open d_open_demands d_shadow_target d_pieces_inside d_first_gap d_find_missing d_require_few_blocks d_decisive_demands d_largest_independent d_unserved_demands d_helpful_piece d_smallest_solution d_solve d_are_witnesses d_solution_holds d_law_draws d_law_next d_law_one d_law_spans d_law_targets d_law_covers d_law_is_interval d_law_is_demand d_law_rising d_law_served d_law_clash d_law_are_witnesses d_law_solved d_law_bent d_law t_LAST_POSITION t_MAX_BLOCKS) : FnOk P w K mg base CX0 2 f_law_spans d_law_spans ["_law_state", "_law_width", "_law_many"] sp_law_spans := by
  refine T.F_law_spans.ok sc_law_spans (fun vs H Q E h => ?_) (fun cdv A outer s H vs Q E hr h => ?_)
  · obtain ⟨d, c, n, width, many, rfl, _⟩ := h
    rfl
  · obtain ⟨d, c, n, width, many, rfl, dk, n0, n1, w0, w1, m0, m1, q⟩ := h
    refine ⟨_, (pss_cons (ps_set (i := 3) sc_law_spans.nd rfl (Or.inl rfl) (pe_lst pa_nil))
      (pss_cons (ps_for PassesOwn.never rfl (pi_range1 (by rfl) T.z_range (pa_cons (pv 2) pa_nil)) (pg_name (i := 4) sc_law_spans.nd rfl (Or.inl rfl))
      (pss_cons (ps_set (i := 5) sc_law_spans.nd rfl (Or.inl rfl) (pe_call (ok_law_next T) (hr.mono (by decide)) (by rfl) T.g_law_next T.F_law_next.kp T.b_law_next .nil pass0 (pa_cons (pv 0) (pa_cons (pv 1) pa_nil))))
      (pss_one (ps_expr (pe_bm PySem.F.plainAttrs_list PySem.F.slot_list_append PySem.F.type_list_append mt_append (pv 3) (pa_cons (pe_tup (pa_cons (pv 5) (pa_cons (pe_callB (call_min2 rfl) (by rfl) T.z_min (by decide +kernel) (pa_cons (pe_op op_sub (pv 1) pe_int) (pa_cons (pe_op op_add (pv 5) (pe_call (ok_law_next T) (hr.mono (by decide)) (by rfl) T.g_law_next T.F_law_next.kp T.b_law_next .nil pass0 (pa_cons (pv 0) (pa_cons (pe_ix ix_list (pe_lst (pa_cons pe_int (pa_cons (pv 1) pa_nil))) (pe_call (ok_law_next T) (hr.mono (by decide)) (by rfl) T.g_law_next T.F_law_next.kp T.b_law_next .nil pass0 (pa_cons (pv 0) (pa_cons pe_int pa_nil))) (fun _ _ => rfl)) pa_nil)))) pa_nil))) pa_nil))) pa_nil))))))
      (pss_one (ps_ret (pe_callTy call_tuple_of (by rfl) T.z_tuple (by decide +kernel) (pa_cons (pe_callB (cr_sortedT rfl) (by rfl) T.z_sorted (by decide +kernel) (pa_cons (pe_callTy (cr_setOfT rfl hr.units) (by rfl) T.z_set (by decide +kernel) (pa_cons (pv 3) pa_nil)) pa_nil)) pa_nil)))))), ?_⟩
    refine ⟨by show 0 ≤ sizeLine; decide, fun l nl => ?_⟩
    have offl := dk.off nl
    refine ⟨.int many, rfl, many, rfl, by omega, by omega, for_range (n := many.toNat) (fun i σ H' => (Kp d c H H' ∧ Dk H' d c (n + 3 * i)) ∧ (∃ us ps, H' l = some (.lst us) ∧ Ivs H' us ps ∧ ps.length = i ∧ ∀ q ∈ ps, 0 ≤ q.1 ∧ q.1 ≤ q.2 ∧ q.2 < width) ∧ ∃ y4 y5, σ = [some (.ref d), some (.int width), some (.int many), some (.ref l), y4, y5])
      ⟨⟨Kp.same (same_new nl), (dk.upd offl).eq (by simp)⟩, ⟨[], [], upd_same, .nil, rfl, fun q hq => nomatch hq⟩, _, _, rfl⟩ ?_ ?_⟩
    · rintro i σ H1 hi ⟨⟨kp1, dk1⟩, ⟨us, ps, el, iv, pl, pin⟩, y4, y5, rfl⟩
      refine ⟨.ref d, rfl, .int width, rfl, d, c, _, width, rfl, dk1, by omega, by omega, by omega, by omega, fun H2 low kp2 dk2 a0 a1 => ?_⟩
      have el2 := kp2.keep offl el
      refine ⟨.ref l, rfl, .inl ⟨rfl, _, SqL.of el2⟩, .int low, rfl, .int width, rfl, _, _, rfl, rfl, .int low, rfl, .ref d, rfl, .int width, rfl, by show 2 ≤ sizeLine; decide, fun p2 np2 => ?_⟩
      have off2 := dk2.off np2
      refine ⟨.ref d, rfl, d, c, _, 2, rfl, dk2.kept (same_new np2), by omega, by omega, by decide, by decide, fun H3 r2 kp3 dk3 b0 b1 => ?_⟩
      obtain ⟨L, eL, hL⟩ := pick2 (a := 2) (b := width) b0 b1
      refine ⟨p2, _, r2, _, rfl, rfl, SqL.of (kp3.keep off2 upd_same), eL, d, c, _, L, rfl, dk3, by omega, by omega, by omega, by omega, fun H4 r3 kp4 dk4 c0 c1 => ?_⟩
      refine ⟨_, _, rfl, rfl, _, _, rfl, by show 2 ≤ sizeLine; decide, fun t nt => ?_⟩
      have kp24 : Kp d c H2 H4 := (Kp.same (same_new np2)).trans (kp3.trans kp4)
      have el4 := kp24.keep offl el2
      have iv4 := iv.tps ((kp2.trans kp24).tps dk1)
      obtain ⟨hi2, ehi, h1, h2⟩ : ∃ hi2 : Int, (if low + r3 < width - 1 then low + r3 else width - 1) = hi2 ∧ low ≤ hi2 ∧ hi2 < width := ⟨_, rfl, by split <;> omega, by split <;> omega⟩
      rw [ehi]
      have s5 := same_new (o := .tup [.int low, .int hi2]) nt
      have et := upd_same (H := H4) (a := t) (o := .tup [.int low, .int hi2])
      generalize upd H4 t (.tup [.int low, .int hi2]) = H5 at *
      refine ⟨l, _, _, rfl, rfl, s5 _ _ el4, by rw [iv.length]; exact small1000 (by omega), ⟨?_, ?_⟩, ⟨us ++ [.ref t], ps ++ [(low, hi2)], upd_same, ?_, by rw [List.length_append, pl]; rfl, fun q hq => ?_⟩, _, _, rfl⟩
      · intro b o n1 n2 e
        rw [upd_ne (ne_of_none e nl)]
        exact s5 _ _ (kp24 b o n1 n2 (kp2 b o n1 n2 (kp1 b o n1 n2 e)))
      · have elN := s5 _ _ el4
        exact ((dk4.kept s5).upd offl).eq (by omega)
      · exact ((iv4.same s5).snoc et).tps (Tps.lst (s5 _ _ el4))
      · rcases List.mem_append.mp hq with hq | hq
        · exact pin q hq
        · rw [List.mem_singleton.mp hq]
          exact ⟨a0, h1, h2⟩
    · rintro σ H1 ⟨⟨kp1, dk1⟩, ⟨us, ps, el, iv, pl, pin⟩, y4, y5, rfl⟩
      refine ⟨.ref l, rfl, ?_⟩
      dsimp only [tNil]
      refine sorted_set_pairs (SqL.of el) iv (by omega) (Rw.bd pin w1) (fun H2 p us' ps' s2 np ep iv' asc mem => ?_)
      refine ⟨p, us', rfl, .inl ⟨SqL.of ep, fun t nt => ?_⟩⟩
      have s3 := same_new (o := .tup us') nt
      have nd := Rw.len asc mem
      exact q _ t us' ps' _ (kp1.trans (Kp.same (s2.trans s3))) (dk1.kept (s2.trans s3)) (by omega) (by omega) upd_same (iv'.same s3) ⟨asc, fun q hq => pin q ((mem q).mp hq)⟩ (by omega)
def sp_law_targets : Sp := fun vs H Q _ => ∃ (d : Addr) (c : Addr × Addr × Addr) (n width most : Int), vs = [.ref d, .int width, .int most] ∧ Dk H d c n ∧ 0 ≤ n ∧ n < 800000 ∧ 1 ≤ width ∧ width ≤ 30 ∧ 0 ≤ most ∧ most ≤ 30 ∧
  ∀ H' t us ps m, Kp d c H H' → Dk H' d c m → n ≤ m → m ≤ n + 3 + 3 * most → H' t = some (.tup us) → Ivs H' us ps → Rw width ps → (ps.length : Int) ≤ most → Q (.ref t) H'
theorem Rw.take {w : Int} {ps : List (Int × Int)} (h : Rw w ps) (n : Nat) : Rw w (ps.take n) := ⟨h.asc.sublist (List.take_sublist _ _), fun q hq => h.ok q (List.mem_of_mem_take hq)⟩
theorem ok_law_targets (T : Tx K mg f_depth_changes f_find_blocks f_is_number f_is_position f_is_tuple_of f_is_interval f_is_ascending f_has_position f_contains f_is_demand f_serves f_conflict f_is_independent f_demands_at_blocks f_is_open f_open_demands f_shadow_target f_pieces_inside f_first_gap f_find_missing f_require_few_blocks f_decisive_demands f_largest_independent f_unserved_demands f_helpful_piece f_smallest_solution f_solve f_are_witnesses f_solution_holds f_law_draws f_law_next f_law_one f_law_spans f_law_targets f_law_covers f_law_is_interval f_law_is_demand f_law_rising f_law_served f_law_clash f_law_are_witnesses f_law_solved f_law_bent f_law d_depth_changes d_find_blocks d_is_number d_is_position d_is_tuple_of d_is_interval d_is_ascending d_has_position d_contains d_is_demand d_serves d_conflict d_is_independent d_demands_at_blocks d_is_open d_open_demands d_shadow_target d_pieces_inside d_first_gap d_find_missing d_require_few_blocks d_decisive_demands d_largest_independent d_unserved_demands d_helpful_piece d_smallest_solution d_solve d_are_witnesses d_solution_holds d_law_draws d_law_next d_law_one d_law_spans d_law_targets d_law_covers d_law_is_interval d_law_is_demand d_law_rising d_law_served d_law_clash d_law_are_witnesses d_law_solved d_law_bent d_law t_LAST_POSITION t_MAX_BLOCKS) : FnOk P w K mg base CX0 3 f_law_targets d_law_targets ["_law_state", "_law_width", "_law_most"] sp_law_targets := by
  refine T.F_law_targets.ok sc_law_targets (fun vs H Q E h => ?_) (fun cdv A outer s H vs Q E hr h => ?_)
  · obtain ⟨d, c, n, width, most, rfl, _⟩ := h
    rfl
  · obtain ⟨d, c, n, width, most, rfl, dk, n0, n1, w0, w1, m0, m1, q⟩ := h
    refine ⟨_, (pss_cons (ps_set (i := 3) sc_law_targets.nd rfl (Or.inl rfl) (pe_call (ok_law_next T) (hr.mono (by decide)) (by rfl) T.g_law_next T.F_law_next.kp T.b_law_next .nil pass0 (pa_cons (pv 0) (pa_cons pe_int pa_nil))))
      (pss_cons (ps_set (i := 4) sc_law_targets.nd rfl (Or.inr rfl) (pe_op op_add pe_int (pe_call (ok_law_next T) (hr.mono (by decide)) (by rfl) T.g_law_next T.F_law_next.kp T.b_law_next .nil pass0 (pa_cons (pv 0) (pa_cons (pv 1) pa_nil)))))
      (pss_cons (ps_set (i := 5) sc_law_targets.nd rfl (Or.inl rfl) (pe_call (ok_law_spans T) (hr.mono (by decide)) (by rfl) T.g_law_spans T.F_law_spans.kp T.b_law_spans .nil pass0 (pa_cons (pv 0) (pa_cons (pv 1) (pa_cons (pe_call (ok_law_next T) (hr.mono (by decide)) (by rfl) T.g_law_next T.F_law_next.kp T.b_law_next .nil pass0 (pa_cons (pv 0) (pa_cons (pe_op op_add (pv 2) pe_int) pa_nil))) pa_nil)))))
      (pss_cons (ps_if (pt_cmpR op_eq (pv 3) pe_int (nomark _))
      (pss_one (ps_set (i := 5) sc_law_targets.nd rfl (Or.inl rfl) (pe_callTy call_tuple_of (by rfl) T.z_tuple (by decide +kernel) (pa_cons (pe_lc (own := [("_law_low", 6)]) (g := (gName 6)) (tt := tYes) (by rfl) sc_law_targets.nd (pi_range1 (by rfl) T.z_range (pa_cons (pe_op op_add (pe_op op_sub (pv 1) (pv 4)) pe_int) pa_nil)) (blkOk_by (own := [("_law_low", 6)]) (N := N_law_targets) (sc := defScope s_law_targets) (by decide +kernel)) (fun _ _ _ _ _ => (pg_name (i := 6) sc_law_targets.nd rfl (Or.inl rfl))) (fun _ _ _ _ _ => pts_nil) (fun _ _ _ _ _ => (pe_tup (pa_cons (pv 6) (pa_cons (pe_op op_sub (pe_op op_add (pv 6) (pv 4)) pe_int) pa_nil))))) pa_nil))))
      pss_nil)
      (pss_cons (ps_if (pt_cmpR op_eq (pv 3) pe_int (nomark _))
      (pss_one (ps_set (i := 5) sc_law_targets.nd rfl (Or.inl rfl) (pe_callTy call_tuple_of (by rfl) T.z_tuple (by decide +kernel) (pa_cons (pe_lc (own := [("_law_low", 6), ("_law_high", 7)]) (g := (gTup K 2 (gCons (gName 6) (gCons (gName 7) gNil)))) (by rfl) sc_law_targets.nd (pi_tup (pv 5)) (blkOk_by (own := [("_law_low", 6), ("_law_high", 7)]) (N := N_law_targets) (sc := defScope s_law_targets) (by decide +kernel)) (fun _ _ _ _ _ => (pg_tup rfl (pgs_cons (pg_name (i := 6) sc_law_targets.nd rfl (Or.inl rfl)) (pgs_cons (pg_name (i := 7) sc_law_targets.nd rfl (Or.inl rfl)) pgs_nil)))) (fun _ _ _ _ _ => pts_one (pt_chain op_lt op_le (pv 6) (pv 4) (pe_op op_add (pv 7) pe_int))) (fun _ _ _ _ _ => (pe_tup (pa_cons (pv 6) (pa_cons (pv 7) pa_nil))))) pa_nil))))
      pss_nil)
      (pss_cons (ps_if (pt_cmpR op_eq (pv 3) pe_int (nomark _))
      (pss_one (ps_set (i := 5) sc_law_targets.nd rfl (Or.inl rfl) (pe_callTy call_tuple_of (by rfl) T.z_tuple (by decide +kernel) (pa_cons (pe_callB (cr_sortedT rfl) (by rfl) T.z_sorted (by decide +kernel) (pa_cons (pe_callTy (cr_setOfT rfl hr.units) (by rfl) T.z_set (by decide +kernel) (pa_cons (pe_lc (own := [("_law_low", 6), ("_law_high", 7)]) (g := (gTup K 2 (gCons (gName 6) (gCons (gName 7) gNil)))) (by rfl) sc_law_targets.nd (pi_tup (pv 5)) (blkOk_by (own := [("_law_low", 6), ("_law_high", 7)]) (N := N_law_targets) (sc := defScope s_law_targets) (by decide +kernel)) (fun _ _ _ _ _ => (pg_tup rfl (pgs_cons (pg_name (i := 6) sc_law_targets.nd rfl (Or.inl rfl)) (pgs_cons (pg_name (i := 7) sc_law_targets.nd rfl (Or.inl rfl)) pgs_nil)))) (fun _ _ _ _ _ => pts_one (pt_cmpR op_lt (pv 6) (pv 4) (nomark _))) (fun _ _ _ _ _ => (pe_tup (pa_cons (pv 6) (pa_cons (pe_callB (call_max2 rfl) (by rfl) T.z_max (by decide +kernel) (pa_cons (pv 7) (pa_cons (pe_op op_sub (pv 4) pe_int) pa_nil))) pa_nil))))) pa_nil)) pa_nil)) pa_nil))))
      pss_nil)
      (pss_one (ps_ret (pe_slice sl_tupA (pv 5) po_none (po_some (pv 2))))))))))), ?_⟩
    refine ⟨.ref d, rfl, d, c, n, 5, rfl, dk, n0, by omega, by decide, by decide, fun H1 kind kp1 dk1 k0 k1 => ?_⟩
    refine ⟨.ref d, rfl, .int width, rfl, d, c, _, width, rfl, dk1, by omega, by omega, by omega, by omega, fun H2 r kp2 dk2 r0 r1 => ?_⟩
    refine ⟨_, _, rfl, rfl, ?_⟩
    refine ⟨.ref d, rfl, .int width, rfl, .ref d, rfl, .int most, rfl, _, _, rfl, rfl, d, c, _, most + 1, rfl, dk2, by omega, by omega, by omega, by omega, fun H3 mm kp3 dk3 mm0 mm1 => ?_⟩
    refine ⟨d, c, _, width, mm, rfl, dk3, by omega, by omega, w0, by omega, mm0, by omega, fun H4 f us ps m kp4 dk4 g0 g1 ef iv rw pl => ?_⟩
    have kp : Kp d c H H4 := kp1.trans (kp2.trans (kp3.trans kp4))
    have lu := iv.length
    have fin : ∀ {Hx : Hp} {fx : Addr} {ux : List V} {px : List (Int × Int)}, Same H4 Hx → Hx fx = some (.tup ux) → Ivs Hx ux px → Rw width px → rSlA K (.ref fx) none (some most) Hx Q := fun {Hx fx ux px} sx ex ivx rx => by
      refine slA_any ex (fun H' p s' ep => ?_)
      obtain ⟨k, rfl⟩ : ∃ k : Nat, most = k := ⟨most.toNat, by omega⟩
      rw [cutTo] at ep
      exact q _ p _ (px.take k) _ (kp.trans (Kp.same (sx.trans s'))) (dk4.kept (sx.trans s')) (by omega) (by omega) ep ((ivx.same s').take k) (rx.take k) (by have := List.length_take_le k px; omega)
    refine ⟨.int kind, rfl, rfl, _, rfl, ite2 (fun c0 => ?_) (fun c0 => ?_)⟩
    · have e0 : kind = 0 := by
        have := of_decide_eq_true c0
        injection this
      subst e0
      refine ⟨.int width, rfl, _, rfl, _, _, rfl, rfl, _, _, rfl, rfl, _, rfl, by omega, by omega, fun D nD => ?_⟩
      refine lcR (lo := 0) (n := (width - (1 + r) + 1).toNat) (fun j H' ws => ∃ rs, Ivs H' ws rs ∧ rs.length = j ∧ rs.Pairwise ltP ∧ ∀ q ∈ rs, (0 ≤ q.1 ∧ q.1 ≤ q.2 ∧ q.2 < width) ∧ q.1 < j) nD (by omega) (fun _ _ _ _ t ⟨rs, h1, h2⟩ => ⟨rs, h1.tps t, h2⟩) (fun j H' ws ⟨rs, h1, h2, _⟩ => by rw [h1.length, h2]; exact Nat.le_refl _) (fun _ => ⟨[], .nil, rfl, .nil, fun q hq => nomatch hq⟩) ?_ ?_
      · rintro j H' N acc hj sj eA sz ⟨rs, i1, i2, i3, i4⟩ no yes
        refine ⟨rfl, .int (0 + (j : Nat)), rfl, .int (0 + (j : Nat)), rfl, _, rfl, _, _, rfl, rfl, _, _, rfl, rfl, by show 2 ≤ sizeLine; decide, fun t nt => ?_⟩
        refine yes _ _ (same_new nt) ⟨rs ++ [(0 + (j : Int), 0 + (j : Int) + (1 + r) - 1)], ((i1.same (same_new nt)).snoc upd_same), by rw [List.length_append, i2]; rfl, List.pairwise_append.mpr ⟨i3, List.pairwise_singleton _ _, fun a ha b hb => ?_⟩, fun q hq => ?_⟩
        · rw [List.mem_singleton.mp hb]
          have := (i4 a ha).2
          exact .inl (by show a.1 < 0 + (j : Int); omega)
        · rcases List.mem_append.mp hq with hq | hq
          · have := i4 q hq
            exact ⟨this.1, by omega⟩
          · rw [List.mem_singleton.mp hq]
            refine ⟨⟨?_, ?_, ?_⟩, ?_⟩
            · show 0 ≤ 0 + (j : Int)
              omega
            · show 0 + (j : Int) ≤ 0 + (j : Int) + (1 + r) - 1
              omega
            · show 0 + (j : Int) + (1 + r) - 1 < width
              omega
            · show 0 + (j : Int) < ((j + 1 : Nat) : Int)
              omega
      · rintro H5 ws s5 eD ⟨rs, i1, i2, i3, i4⟩
        refine ⟨D, ws, rfl, .inl ⟨SqL.of eD, fun t nt => ?_⟩⟩
        have s6 := same_new (o := .tup ws) nt
        refine ⟨.int 0, rfl, rfl, _, rfl, iteF ⟨.int 0, rfl, rfl, _, rfl, iteF ⟨.ref t, rfl, .int most, rfl, most, rfl, fin (s5.trans s6) upd_same (i1.same s6) ⟨i3, fun q hq => (i4 q hq).1⟩⟩⟩⟩
    · have e0 : kind ≠ 0 := fun e => c0 (decide_eq_true (by rw [e]))
      refine ⟨.int kind, rfl, rfl, _, rfl, ite2 (fun c1 => ?_) (fun c1 => ?_)⟩
      · have e1 : kind = 1 := by
          have := of_decide_eq_true c1
          injection this
        subst e1
        refine ⟨.ref f, rfl, f, rfl, ⟨_, SqT.of ef⟩, fun D nD => ?_⟩
        refine lcT (K := K) (a := f) (xs := us) (fun j H' ws => ∃ rs : List (Int × Int), Ivs H' ws rs ∧ rs.length ≤ j ∧ rs.Sublist (ps.take j)) nD (fun H' s => SqT.of (s _ _ (ef))) (by omega) (fun _ _ _ _ t r => (let ⟨rs, h1, h2⟩ := r; ⟨rs, h1.tps t, h2⟩)) (fun j H' ws r => (by obtain ⟨rs, h1, h2, _⟩ := r; rw [h1.length]; exact h2)) (fun _ => ⟨[], .nil, Nat.le_refl _, List.nil_sublist _⟩) ?_ ?_
        · rintro j z H' N acc hj sj eA sz ⟨rs, i1, i2, i3⟩ no yes
          obtain ⟨b, x, y, rfl, exy, hb⟩ := iv.get hj
          have up : ps.take (j + 1) = ps.take j ++ [(x, y)] := by
            rw [List.take_add_one, exy]
            rfl
          have skip : N H' := no H' (Same.refl _) ⟨rs, i1, by omega, by rw [up]; exact i3.trans (List.sublist_append_left _ _)⟩
          refine ⟨b, _, rfl, SqT.of (sj _ _ hb), rfl, .int x, [.int y], rfl, .int y, [], rfl, rfl, rfl, .int x, rfl, _, rfl, _, _, rfl, rfl, _, rfl, ite2 (fun c2 => ?_) (fun c2 => ?_)⟩
          · refine ⟨.int y, rfl, _, _, rfl, rfl, _, _, rfl, rfl, _, rfl, ite2 (fun c3 => ?_) (fun c3 => skip)⟩
            refine ⟨.int x, rfl, .int y, rfl, by show 2 ≤ sizeLine; decide, fun t nt => ?_⟩
            refine yes _ _ (same_new nt) ⟨rs ++ [(x, y)], (i1.same (same_new nt)).snoc upd_same, by rw [List.length_append]; show _ + 1 ≤ _; omega, by rw [up]; exact i3.append (List.Sublist.refl _)⟩
          · exact ⟨_, rfl, iteF skip⟩
        · rintro H5 ws s5 eD ⟨rs, i1, i2, i3⟩
          rw [lu, List.take_length] at i3
          refine ⟨D, ws, rfl, .inl ⟨SqL.of eD, fun t nt => ?_⟩⟩
          have s6 := same_new (o := .tup ws) nt
          refine ⟨.int 1, rfl, rfl, _, rfl, iteF ⟨.ref t, rfl, .int most, rfl, most, rfl, fin (s5.trans s6) upd_same (i1.same s6) ⟨rw.asc.sublist i3, fun q hq => rw.ok q (i3.mem hq)⟩⟩⟩
      · have e1 : kind ≠ 1 := fun e => c1 (decide_eq_true (by rw [e]))
        refine ⟨.int kind, rfl, rfl, _, rfl, ite2 (fun c2 => ?_) (fun c2 => ?_)⟩
        · refine ⟨.ref f, rfl, f, rfl, ⟨_, SqT.of ef⟩, fun D nD => ?_⟩
          refine lcT (K := K) (a := f) (xs := us) (fun j H' ws => ∃ rs : List (Int × Int), Ivs H' ws rs ∧ rs.length ≤ j ∧ ∀ q ∈ rs, 0 ≤ q.1 ∧ q.1 ≤ q.2 ∧ q.2 < width) nD (fun H' s => SqT.of (s _ _ (ef))) (by omega) (fun _ _ _ _ t r => (let ⟨rs, h1, h2⟩ := r; ⟨rs, h1.tps t, h2⟩)) (fun j H' ws r => (by obtain ⟨rs, h1, h2, _⟩ := r; rw [h1.length]; exact h2)) (fun _ => ⟨[], .nil, Nat.le_refl _, fun q hq => nomatch hq⟩) ?_ ?_
          · rintro j z H' N acc hj sj eA sz ⟨rs, i1, i2, i3⟩ no yes
            obtain ⟨b, x, y, rfl, exy, hb⟩ := iv.get hj
            have ok := rw.ok _ (List.mem_of_getElem? exy)
            refine ⟨b, _, rfl, SqT.of (sj _ _ hb), rfl, .int x, [.int y], rfl, .int y, [], rfl, rfl, rfl, .int x, rfl, _, rfl, _, _, rfl, rfl, _, rfl, ite2 (fun c3 => ?_) (fun c3 => no H' (Same.refl _) ⟨rs, i1, by omega, i3⟩)⟩
            have c3 := of_decide_eq_true c3
            refine ⟨.int x, rfl, .int y, rfl, _, rfl, _, _, rfl, rfl, _, _, rfl, by show 2 ≤ sizeLine; decide, fun t nt => ?_⟩
            obtain ⟨h, eh, h1, h2⟩ : ∃ h : Int, (if 1 + r - 1 > y then 1 + r - 1 else y) = h ∧ x ≤ h ∧ h < width := ⟨_, rfl, by split <;> omega, by split <;> omega⟩
            rw [eh] at *
            refine yes _ _ (same_new nt) ⟨rs ++ [(x, h)], (i1.same (same_new nt)).snoc upd_same, by rw [List.length_append]; show _ + 1 ≤ _; omega, fun q hq => ?_⟩
            rcases List.mem_append.mp hq with hq | hq
            · exact i3 q hq
            · rw [List.mem_singleton.mp hq]
              exact ⟨ok.1, h1, h2⟩
          · rintro H5 ws s5 eD ⟨rs, i1, i2, i3⟩
            dsimp only [tNil]
            refine sorted_set_pairs (SqL.of eD) i1 (by omega) (Rw.bd i3 (by omega)) (fun H6 p us' ps' s6 np ep iv' asc mem => ?_)
            refine ⟨p, us', rfl, .inl ⟨SqL.of ep, fun t nt => ?_⟩⟩
            have s7 := same_new (o := .tup us') nt
            refine ⟨.ref t, rfl, .int most, rfl, most, rfl, fin (s5.trans (s6.trans s7)) upd_same (iv'.same s7) ⟨asc, fun q hq => i3 q ((mem q).mp hq)⟩⟩
        · exact ⟨.ref f, rfl, .int most, rfl, most, rfl, fin (Same.refl _) ef iv rw⟩

/-! ### every position replaced by many -/
theorem com_str {ts ps S : List (Int × Int)} {f s : Int} (hf : 0 < f) (c : Com ts ps S) : Com (ts.map (strI f s)) (ps.map (strI f s)) (S.map (strI f s)) := by
  intro t ht p h1 h2
  obtain ⟨u, hu, rfl⟩ := List.mem_map.mp ht
  have h1 : u.1 * f + s ≤ p := h1
  have h2 : p ≤ u.2 * f + f - 1 + s := h2
  obtain ⟨k, ek⟩ : ∃ k, k = (p - s) / f := ⟨_, rfl⟩
  have e1 : k * f ≤ p - s := by
    rw [ek]
    exact Int.ediv_mul_le _ (by omega)
  have e2 : p - s < k * f + f := by
    have := Int.lt_ediv_add_one_mul_self (p - s) hf
    rw [← ek, Int.add_mul, Int.one_mul] at this
    exact this
  have k1 : u.1 ≤ k := by
    have : u.1 * f < (k + 1) * f := by
      rw [Int.add_mul, Int.one_mul]
      omega
    have := Int.lt_of_mul_lt_mul_right this (Int.le_of_lt hf)
    omega
  have k2 : k ≤ u.2 := by
    have : k * f < (u.2 + 1) * f := by
      rw [Int.add_mul, Int.one_mul]
      omega
    have := Int.lt_of_mul_lt_mul_right this (Int.le_of_lt hf)
    omega
  obtain ⟨q, hq, q1, q2, q3, q4⟩ := c u hu k k1 k2
  refine ⟨strI f s q, by rw [← List.map_append]; exact List.mem_map.mpr ⟨q, hq, rfl⟩, ?_, ?_, ?_, ?_⟩
  · have := (mul_le_iff hf).mpr q1
    show u.1 * f + s ≤ q.1 * f + s
    omega
  · have := (mul_le_iff hf).mpr q2
    show q.1 * f + s ≤ p
    omega
  · have := (mul_le_iff hf).mpr q3
    show p ≤ q.2 * f + f - 1 + s
    omega
  · have := (mul_le_iff hf).mpr q4
    show q.2 * f + f - 1 + s ≤ u.2 * f + f - 1 + s
    omega
def strD (f s : Int) (d : Dem) : Dem := (d.1 * f + s, strI f s d.2)
theorem sv_str {f s : Int} (hf : 0 < f) {q : Int × Int} {d : Dem} (h : sv (strI f s q) (strD f s d) = true) : sv q d = true := by
  have h := sv_iff'.mp h
  have h1 : d.2.1 * f + s ≤ q.1 * f + s := h.1
  have h2 : q.1 * f + s ≤ d.1 * f + s := h.2.1
  have h3 : d.1 * f + s ≤ q.2 * f + f - 1 + s := h.2.2.1
  have h4 : q.2 * f + f - 1 + s ≤ d.2.2 * f + f - 1 + s := h.2.2.2
  have a3 : d.1 * f < (q.2 + 1) * f := by
    rw [Int.add_mul, Int.one_mul]
    omega
  have a3 := Int.lt_of_mul_lt_mul_right a3 (Int.le_of_lt hf)
  exact sv_iff'.mpr ⟨(mul_le_iff hf).mp (by omega), (mul_le_iff hf).mp (by omega), by omega, (mul_le_iff hf).mp (by omega)⟩
theorem cf_str {f s : Int} (hf : 0 < f) {d e : Dem} (h : cf (strD f s d) (strD f s e) = true) : cf d e = true := by
  have h := cf_iff.mp h
  have h1 : e.2.1 * f + s ≤ d.1 * f + s := h.1.1
  have h2 : d.1 * f + s ≤ e.2.2 * f + f - 1 + s := h.1.2
  have h3 : d.2.1 * f + s ≤ e.1 * f + s := h.2.1
  have h4 : e.1 * f + s ≤ d.2.2 * f + f - 1 + s := h.2.2
  have a2 : d.1 * f < (e.2.2 + 1) * f := by
    rw [Int.add_mul, Int.one_mul]
    omega
  have a4 : e.1 * f < (d.2.2 + 1) * f := by
    rw [Int.add_mul, Int.one_mul]
    omega
  have a2 := Int.lt_of_mul_lt_mul_right a2 (Int.le_of_lt hf)
  have a4 := Int.lt_of_mul_lt_mul_right a4 (Int.le_of_lt hf)
  exact cf_iff.mpr ⟨⟨(mul_le_iff hf).mp (by omega), by omega⟩, (mul_le_iff hf).mp (by omega), by omega⟩
theorem need_str {ts ps : List (Int × Int)} (g : Good (ts ++ ps)) {f s : Int} (hf : 0 < f) (hs : 0 ≤ s) : needO (ts.map (strI f s)) (ps.map (strI f s)) = needO ts ps := by
  obtain ⟨⟨D, d1, d2, d3⟩, S, s1, s2, _⟩ := need_ok g
  have g' : Good (ts.map (strI f s) ++ ps.map (strI f s)) := by
    rw [← List.map_append]
    exact good_str g hf hs
  obtain ⟨⟨D', e1, e2, e3⟩, S', t1, t2, _⟩ := need_ok g'
  have a := weak_dual (com_str hf s2) e1 e2
  have b := weak_dual t2 (D := D.map (strD f s)) (List.pairwise_map.mpr (d1.imp fun {x y} h => by
    rw [← Bool.not_eq_true] at h ⊢
    exact fun z => h (cf_str hf z))) fun d hd => by
      obtain ⟨e, he, rfl⟩ := List.mem_map.mp hd
      have o := d2 e he
      refine ⟨List.mem_map.mpr ⟨e.2, o.1, rfl⟩, ⟨?_, ?_⟩, fun q hq => ?_⟩
      · have := (mul_le_iff hf).mpr o.2.1.1
        show e.2.1 * f + s ≤ e.1 * f + s
        omega
      · have := (mul_le_iff hf).mpr o.2.1.2
        show e.1 * f + s ≤ e.2.2 * f + f - 1 + s
        omega
      · obtain ⟨r, hr, rfl⟩ := List.mem_map.mp hq
        rw [← Bool.not_eq_true]
        exact fun z => by
          have := o.2.2 r hr
          rw [sv_str hf z] at this
          cases this
  rw [List.length_map] at a b
  omega
theorem blocks_in {row : List (Int × Int)} {w : Int} (h : ∀ q ∈ row, 0 ≤ q.1 ∧ q.1 ≤ q.2 ∧ q.2 < w) : (blocksOf row).length ≤ w.toNat := by
  have len : ∀ n : Nat, (Cb row n).length ≤ n := by
    intro n
    induction n with
    | zero => exact Nat.le_refl _
    | succ n ih =>
      have el : ∀ (l : List (Int × Int)) (p : Int), (extl l p).length = l.length := fun l p => by
        rcases List.eq_nil_or_concat l with rfl | ⟨m, r, rfl⟩
        · rfl
        · rw [List.concat_eq_append, extl_snoc, List.length_append, List.length_append]
          rfl
      rw [Cb_succ]
      split
      · split
        · rw [List.length_append, List.length_singleton]
          omega
        · rw [el]
          omega
      · omega
  rw [← Cb_all (N := w.toNat) fun q hq => by
    have := h q hq
    omega]
  exact len _
def sp_law_scaled : Sp := fun vs H Q _ => ∃ (a : Addr) (us : List V) (ps : List (Int × Int)) (far bas : Int), vs = [.ref a, .int far, .int bas] ∧ H a = some (.tup us) ∧ Ivs H us ps ∧ ps.length < 1000 ∧ (∀ q ∈ ps, 0 ≤ q.1 ∧ q.1 ≤ q.2 ∧ q.2 < 100) ∧ 0 < far ∧ far ≤ 100000000000 ∧ 0 ≤ bas ∧ bas ≤ 1000 ∧
  ∀ H' p ws, Same H H' → H' p = some (.tup ws) → Ivs H' ws (ps.map (strI far bas)) → Q (.ref p) H'
/-! ### the least number, by trying all -/
def Cvd (ps : List (Int × Int)) (t : Int × Int) : Prop := ∀ p, t.1 ≤ p → p ≤ t.2 → ∃ q ∈ ps, t.1 ≤ q.1 ∧ q.1 ≤ p ∧ p ≤ q.2 ∧ q.2 ≤ t.2
def frS (x y f : Int) (q : Int × Int) : Int := if (x ≤ q.1 ∧ q.1 ≤ f) ∧ q.2 ≤ y then (if q.2 + 1 > f then q.2 + 1 else f) else f
def fr (x y : Int) (l : List (Int × Int)) (f : Int) : Int := l.foldl (frS x y) f
theorem frS_le (x y f : Int) (q : Int × Int) : f ≤ frS x y f q := by
  unfold frS
  split
  · split <;> omega
  · omega
theorem fr_le (x y : Int) : ∀ (l : List (Int × Int)) (f : Int), f ≤ fr x y l f
  | [], f => Int.le_refl _
  | q :: l, f => Int.le_trans (frS_le x y f q) (fr_le x y l _)
theorem fr_cov (x y : Int) : ∀ (l : List (Int × Int)) (f p : Int), f ≤ p → p < fr x y l f → ∃ q ∈ l, x ≤ q.1 ∧ q.1 ≤ p ∧ p ≤ q.2 ∧ q.2 ≤ y
  | [], f, p, h1, h2 => absurd h2 (by show ¬ p < f; omega)
  | q :: l, f, p, h1, h2 => by
    by_cases c : frS x y f q ≤ p
    · obtain ⟨r, hr, k⟩ := fr_cov x y l _ p c h2
      exact ⟨r, List.mem_cons_of_mem _ hr, k⟩
    · unfold frS at c
      split at c
      · split at c
        · exact ⟨q, List.mem_cons_self, by omega⟩
        · omega
      · omega
theorem fr_stop (x y : Int) : ∀ (l : List (Int × Int)) (f : Int), (∀ r ∈ l, f < r.1) → fr x y l f = f
  | [], f, _ => rfl
  | q :: l, f, h => by
    have e : frS x y f q = f := by
      unfold frS
      rw [if_neg]
      have := h q List.mem_cons_self
      omega
    show fr x y l (frS x y f q) = f
    rw [e]
    exact fr_stop x y l f fun r hr => h r (List.mem_cons_of_mem _ hr)
theorem fr_out (x y : Int) : ∀ (l : List (Int × Int)) (f : Int), l.Pairwise leP → ∀ q ∈ l, x ≤ q.1 → q.2 ≤ y → ¬ (q.1 ≤ fr x y l f ∧ fr x y l f ≤ q.2)
  | [], _, _, _, h, _, _ => nomatch h
  | r :: l, f, asc, q, hq, a, b => by
    have p := List.pairwise_cons.mp asc
    show ¬ (q.1 ≤ fr x y l (frS x y f r) ∧ fr x y l (frS x y f r) ≤ q.2)
    rcases List.mem_cons.mp hq with rfl | hq
    · by_cases c : q.1 ≤ f
      · have := fr_le x y l (frS x y f q)
        have e : q.2 + 1 ≤ frS x y f q := by
          unfold frS
          rw [if_pos ⟨⟨a, c⟩, b⟩]
          split <;> omega
        omega
      · have e : frS x y f q = f := by
          unfold frS
          rw [if_neg]
          omega
        rw [e, fr_stop x y l f fun r hr => by
          have := p.1 r hr
          unfold leP at this
          omega]
        omega
    · exact fr_out x y l _ p.2 q hq a b
theorem fr_ok {x y : Int} {l ps : List (Int × Int)} (asc : l.Pairwise leP) (pm : l.Perm ps) : y < fr x y l x ↔ Cvd ps (x, y) := by
  constructor
  · intro h p h1 h2
    obtain ⟨q, hq, k⟩ := fr_cov x y l x p h1 (by have h2 : p ≤ y := h2; omega)
    exact ⟨q, pm.mem_iff.mp hq, k⟩
  · intro h
    by_cases c : y < fr x y l x
    · exact c
    · obtain ⟨q, hq, k1, k2, k3, k4⟩ := h (fr x y l x) (fr_le x y l x) (by show fr x y l x ≤ y; omega)
      exact absurd ⟨k2, k3⟩ (fr_out x y l x asc q (pm.mem_iff.mpr hq) k1 k4)
def sp_law_covers : Sp := fun vs H Q _ => ∃ (a t : Addr) (us : List V) (ps : List (Int × Int)) (x y : Int), vs = [.ref a, .ref t] ∧ H a = some (.tup us) ∧ Ivs H us ps ∧ H t = some (.tup [.int x, .int y]) ∧
  ∀ H' b, Same H H' → (b = true ↔ Cvd ps (x, y)) → Q (.bl b) H'
theorem ok_law_covers (T : Tx K mg f_depth_changes f_find_blocks f_is_number f_is_position f_is_tuple_of f_is_interval f_is_ascending f_has_position f_contains f_is_demand f_serves f_conflict f_is_independent f_demands_at_blocks f_is_open f_open_demands f_shadow_target f_pieces_inside f_first_gap f_find_missing f_require_few_blocks f_decisive_demands f_largest_independent f_unserved_demands f_helpful_piece f_smallest_solution f_solve f_are_witnesses f_solution_holds f_law_draws f_law_next f_law_one f_law_spans f_law_targets f_law_covers f_law_is_interval f_law_is_demand f_law_rising f_law_served f_law_clash f_law_are_witnesses f_law_solved f_law_bent f_law d_depth_changes d_find_blocks d_is_number d_is_position d_is_tuple_of d_is_interval d_is_ascending d_has_position d_contains d_is_demand d_serves d_conflict d_is_independent d_demands_at_blocks d_is_open d_open_demands d_shadow_target d_pieces_inside d_first_gap d_find_missing d_require_few_blocks d_decisive_demands d_largest_independent d_unserved_demands d_helpful_piece d_smallest_solution d_solve d_are_witnesses d_solution_holds d_law_draws d_law_next d_law_one d_law_spans d_law_targets d_law_covers d_law_is_interval d_law_is_demand d_law_rising d_law_served d_law_clash d_law_are_witnesses d_law_solved d_law_bent d_law t_LAST_POSITION t_MAX_BLOCKS) : FnOk P w K mg base CX0 1 f_law_covers d_law_covers ["_law_pieces", "_law_target"] sp_law_covers := by
  refine T.F_law_covers.ok sc_law_covers (fun vs H Q E h => ?_) (fun cdv A outer s H vs Q E hr h => ?_)
  · obtain ⟨a, t, us, ps, x, y, rfl, _⟩ := h
    rfl
  · obtain ⟨a, t, us, ps, x, y, rfl, ha, iv, ht, q⟩ := h
    refine ⟨_, (pss_cons (ps_set (i := 2) sc_law_covers.nd rfl (Or.inl rfl) (pe_ix ix_tup (pv 1) pe_int (fun _ _ => rfl)))
      (pss_cons (ps_for PassesOwn.never rfl (pi_list (pe_callB cr_sortTP (by rfl) T.z_sorted (by decide +kernel) (pa_cons (pv 0) pa_nil))) (pg_tup rfl (pgs_cons (pg_name (i := 3) sc_law_covers.nd rfl (Or.inl rfl)) (pgs_cons (pg_name (i := 4) sc_law_covers.nd rfl (Or.inl rfl)) pgs_nil)))
      (pss_one (ps_if (PW.pt (pw_and (pt_chain op_le op_le (pe_ix ix_tup (pv 1) pe_int (fun _ _ => rfl)) (pv 3) (pv 2)) (pw_and1 (pt_cmpR op_le (pv 4) (pe_ix ix_tup (pv 1) pe_int (fun _ _ => rfl)) (nomark _)))))
      (pss_one (ps_set (i := 2) sc_law_covers.nd rfl (Or.inl rfl) (pe_callB (call_max2 rfl) (by rfl) T.z_max (by decide +kernel) (pa_cons (pv 2) (pa_cons (pe_op op_add (pv 4) pe_int) pa_nil)))))
      pss_nil)))
      (pss_one (ps_ret (pe_cmpR op_gt (pv 2) (pe_ix ix_tup (pv 1) pe_int (fun _ _ => rfl)) (nomark _)))))), ?_⟩
    refine ⟨.ref t, rfl, t, _, 0, .int x, rfl, rfl, SqT.of ht, rfl, ?_⟩
    refine ⟨.ref a, rfl, ?_⟩
    dsimp only [tNil]
    refine ⟨a, us, ps, rfl, SqT.of ha, iv, fun H1 p us' l s1 np ep iv' asc pm => ?_⟩
    refine ⟨p, rfl, ⟨_, SqL.of ep⟩, ?_⟩
    refine for_list (K := K) (a := p) (xs := us') (D := ⟨_, _, fun _ _ => True, fun _ _ => True⟩) (fun j σ H' => Same H1 H' ∧ ∃ z3 z4, σ = [some (.ref a), some (.ref t), some (.int (fr x y (l.take j) x)), z3, z4])
      ⟨Same.refl _, _, _, rfl⟩ (fun j σ H' _ h => SqL.of (h.1 _ _ ep)) ?_ ?_
    · rintro j v σ H2 hj ⟨s2, z3, z4, rfl⟩
      obtain ⟨b, lo, hi, rfl, el, hb⟩ := iv'.get hj
      have ht2 := (s1.trans s2) _ _ ht
      have step : fr x y (l.take (j + 1)) x = frS x y (fr x y (l.take j) x) (lo, hi) := by
        rw [List.take_add_one, el]
        unfold fr
        rw [List.foldl_append]
        rfl
      have stay : ¬ ((x ≤ lo ∧ lo ≤ fr x y (l.take j) x) ∧ hi ≤ y) → fr x y (l.take (j + 1)) x = fr x y (l.take j) x := fun c => by
        rw [step]
        unfold frS
        rw [if_neg c]
      refine ⟨b, _, rfl, SqT.of (s2 _ _ hb), rfl, .int lo, [.int hi], rfl, .int hi, [], rfl, rfl, ?_⟩
      refine ⟨.ref t, rfl, t, _, 0, .int x, rfl, rfl, SqT.of ht2, rfl, .int lo, rfl, _, _, rfl, rfl, _, rfl, ite2 (fun c1 => ?_) (fun c1 => ?_)⟩
      · refine ⟨_, rfl, _, _, rfl, rfl, _, rfl, ite2 (fun c2 => ?_) (fun c2 => ?_)⟩
        · refine ⟨.int hi, rfl, .ref t, rfl, t, _, 1, .int y, rfl, rfl, SqT.of ht2, rfl, _, _, rfl, rfl, _, rfl, ite2 (fun c3 => ?_) (fun c3 => ?_)⟩
          · refine ⟨_, rfl, .int hi, rfl, _, _, rfl, rfl, _, _, rfl, s2, some (.int lo), some (.int hi), ?_⟩
            have c1 := of_decide_eq_true c1
            have c2 := of_decide_eq_true c2
            have c3 := of_decide_eq_true c3
            have e : frS x y (fr x y (l.take j) x) (lo, hi) = if hi + 1 > fr x y (l.take j) x then hi + 1 else fr x y (l.take j) x := if_pos ⟨⟨c1, c2⟩, c3⟩
            rw [step, e]
            rfl
          · rw [stay fun z => c3 (decide_eq_true z.2)]
            exact ⟨s2, _, _, rfl⟩
        · rw [stay fun z => c2 (decide_eq_true z.1.2)]
          exact iteF ⟨s2, _, _, rfl⟩
      · rw [stay fun z => c1 (decide_eq_true z.1.1)]
        exact ⟨_, rfl, iteF (iteF ⟨s2, _, _, rfl⟩)⟩
    · rintro σ H2 ⟨s2, z3, z4, rfl⟩
      rw [iv'.length, List.take_length]
      have ht2 := (s1.trans s2) _ _ ht
      refine ⟨_, rfl, .ref t, rfl, t, _, 1, .int y, rfl, rfl, SqT.of ht2, rfl, _, _, rfl, rfl, ?_⟩
      exact q H2 _ (s1.trans s2) (by rw [decide_eq_true_iff]; exact fr_ok asc pm)

/-! ### the number needed depends on the members alone -/
theorem need_le_of {ts ps ts' ps' : List (Int × Int)} (g : Good (ts ++ ps)) (g' : Good (ts' ++ ps')) (h1 : ∀ t ∈ ts, t ∈ ts') (h2 : ∀ p ∈ ps', p ∈ ps) : needO ts ps ≤ needO ts' ps' := by
  obtain ⟨⟨D, d1, d2, d3⟩, _⟩ := need_ok g
  obtain ⟨_, S, s1, s2, _⟩ := need_ok g'
  have c : Com ts ps S := fun t ht p k1 k2 => by
    obtain ⟨q, hq, k⟩ := s2 t (h1 t ht) p k1 k2
    rcases List.mem_append.mp hq with hq | hq
    · exact ⟨q, List.mem_append_left _ (h2 q hq), k⟩
    · exact ⟨q, List.mem_append_right _ hq, k⟩
  have := weak_dual c d1 d2
  omega
theorem need_mem {ts ps ts' ps' : List (Int × Int)} (g : Good (ts ++ ps)) (h1 : ∀ t, t ∈ ts ↔ t ∈ ts') (h2 : ∀ p, p ∈ ps ↔ p ∈ ps') : needO ts ps = needO ts' ps' := by
  have g' : Good (ts' ++ ps') := fun q hq => g q (by
    rcases List.mem_append.mp hq with hq | hq
    · exact List.mem_append_left _ ((h1 q).mpr hq)
    · exact List.mem_append_right _ ((h2 q).mpr hq))
  exact Nat.le_antisymm (need_le_of g g' (fun t => (h1 t).mp) (fun p => (h2 p).mpr)) (need_le_of g' g (fun t => (h1 t).mpr) (fun p => (h2 p).mp))
theorem good0 {ts : List (Int × Int)} (g : Good ts) : Good (ts ++ []) := by
  rw [List.append_nil]
  exact g

/-! ### one further interval -/
def helpB (ts ps : List (Int × Int)) (q : Int × Int) : Bool := decide (((needO ts (ps ++ [q]) : Nat) : Int) < ((needO ts ps : Nat) : Int))
theorem good_left {ts ps : List (Int × Int)} {q : Int × Int} (g : Good (ts ++ (ps ++ [q]))) : Good (ts ++ ps) := fun r hr => g r (by
  rcases List.mem_append.mp hr with hr | hr
  · exact List.mem_append_left _ hr
  · exact List.mem_append_right _ (List.mem_append_left _ hr))
theorem com_mono {ts ps S qs T : List (Int × Int)} (c : Com ts ps S) (h : ∀ q, q ∈ ps ++ S → q ∈ qs ++ T) : Com ts qs T := fun t ht p h1 h2 => by
  obtain ⟨q, hq, k⟩ := c t ht p h1 h2
  exact ⟨q, h q hq, k⟩
theorem need_add {ts ps : List (Int × Int)} {z : Int × Int} (g : Good (ts ++ (ps ++ [z]))) : needO ts (ps ++ [z]) ≤ needO ts ps ∧ needO ts ps ≤ needO ts (ps ++ [z]) + 1 := by
  obtain ⟨⟨D, d1, d2, d3⟩, S, s1, s2, _⟩ := need_ok (good_left g)
  obtain ⟨⟨D', e1, e2, e3⟩, S', t1, t2, _⟩ := need_ok g
  constructor
  · have := weak_dual (com_mono (qs := ps ++ [z]) (T := S) s2 (fun q hq => by
      rcases List.mem_append.mp hq with hq | hq
      · exact List.mem_append_left _ (List.mem_append_left _ hq)
      · exact List.mem_append_right _ hq)) e1 e2
    omega
  · have := weak_dual (com_mono (qs := ps) (T := z :: S') t2 (fun q hq => by
      rcases List.mem_append.mp hq with hq | hq
      · rcases List.mem_append.mp hq with hq | hq
        · exact List.mem_append_left _ hq
        · rw [List.mem_singleton.mp hq]
          exact List.mem_append_right _ List.mem_cons_self
      · exact List.mem_append_right _ (List.mem_cons_of_mem _ hq))) d1 d2
    rw [List.length_cons] at this
    omega
theorem need_zero {ts ps : List (Int × Int)} (g : Good (ts ++ ps)) (h : needO ts ps = 0) : Com ts ps [] := by
  obtain ⟨_, S, s1, s2, _⟩ := need_ok g
  rw [h] at s1
  rw [List.length_eq_zero_iff.mp (Nat.le_zero.mp s1)] at s2
  exact s2
theorem need_of_com {ts ps : List (Int × Int)} (g : Good (ts ++ ps)) {S : List (Int × Int)} (h : Com ts ps S) : needO ts ps ≤ S.length := by
  obtain ⟨⟨D, d1, d2, d3⟩, _⟩ := need_ok g
  have := weak_dual h d1 d2
  omega
theorem com_self (ts ps : List (Int × Int)) : Com ts ps ts := fun t ht p h1 h2 => ⟨t, List.mem_append_right _ ht, Int.le_refl _, h1, h2, Int.le_refl _⟩
theorem need_help {ts ps : List (Int × Int)} {w : Int} (g : Good (ts ++ ps)) (ht : ∀ q ∈ ts, 0 ≤ q.1 ∧ q.1 ≤ q.2 ∧ q.2 < w) (h : 0 < needO ts ps) : ∃ z : Int × Int, (0 ≤ z.1 ∧ z.1 ≤ z.2 ∧ z.2 < w) ∧ helpB ts ps z = true := by
  obtain ⟨⟨D, d1, d2, d3⟩, S, s1, s2, s3⟩ := need_ok g
  cases S with
  | nil =>
    have := weak_dual s2 d1 d2
    simp at this
    rw [this] at d3
    simp at d3
    omega
  | cons z S =>
    obtain ⟨t, mt, a1, a2, a3⟩ := s3 z List.mem_cons_self
    have ot := ht t mt
    have oz : 0 ≤ z.1 ∧ z.1 ≤ z.2 ∧ z.2 < w := by omega
    have g2 : Good (ts ++ (ps ++ [z])) := fun q hq => by
      rcases List.mem_append.mp hq with hq | hq
      · exact g q (List.mem_append_left _ hq)
      · rcases List.mem_append.mp hq with hq | hq
        · exact g q (List.mem_append_right _ hq)
        · rw [List.mem_singleton.mp hq]
          exact ⟨oz.1, oz.2.1⟩
    have := need_of_com g2 (S := S) (com_mono s2 (fun q hq => by
      rcases List.mem_append.mp hq with hq | hq
      · exact List.mem_append_left _ (List.mem_append_left _ hq)
      · rcases List.mem_cons.mp hq with rfl | hq
        · exact List.mem_append_left _ (List.mem_append_right _ (List.mem_singleton.mpr rfl))
        · exact List.mem_append_right _ hq))
    rw [List.length_cons] at s1
    exact ⟨z, oz, decide_eq_true (by omega)⟩

theorem fewk_str {row : List (Int × Int)} {w f s : Int} (h : ∀ q ∈ row, 0 ≤ q.1 ∧ q.1 ≤ q.2 ∧ q.2 < w) (hw : w ≤ 60) (l : row.length ≤ 60) : FewK (row.map (strI f s)) := by
  refine .inr ⟨by rw [List.length_map]; exact l, (List.range (w.toNat + 1)).map fun k : Nat => (k : Int) * f + s, by rw [List.length_map, List.length_range]; omega, fun q hq => ?_⟩
  obtain ⟨p, hp, rfl⟩ := List.mem_map.mp hq
  have o := h p hp
  constructor
  · refine List.mem_map.mpr ⟨p.1.toNat, List.mem_range.mpr (by omega), ?_⟩
    show ((p.1.toNat : Nat) : Int) * f + s = p.1 * f + s
    rw [Int.toNat_of_nonneg o.1]
  · refine List.mem_map.mpr ⟨(p.2 + 1).toNat, List.mem_range.mpr (by omega), ?_⟩
    show (((p.2 + 1).toNat : Nat) : Int) * f + s = p.2 * f + f - 1 + s + 1
    rw [Int.toNat_of_nonneg (by omega), Int.add_mul]
    omega
theorem fewk_in {row : List (Int × Int)} {w : Int} (h : ∀ q ∈ row, 0 ≤ q.1 ∧ q.1 ≤ q.2 ∧ q.2 < w) (hw : w ≤ 60) (l : row.length ≤ 60) : FewK row := by
  have := fewk_str (f := 1) (s := 0) h hw l
  rw [show row.map (strI 1 0) = row by
    conv => rhs; rw [← List.map_id row]
    refine List.map_congr_left fun q _ => ?_
    show (q.1 * 1 + 0, q.2 * 1 + 1 - 1 + 0) = q
    exact Prod.ext (by show q.1 * 1 + 0 = q.1; omega) (by show q.2 * 1 + 1 - 1 + 0 = q.2; omega)] at this
  exact this

theorem in_two {w : Int} {ts ps : List (Int × Int)} (h1 : ∀ q ∈ ts, 0 ≤ q.1 ∧ q.1 ≤ q.2 ∧ q.2 < w) (h2 : ∀ q ∈ ps, 0 ≤ q.1 ∧ q.1 ≤ q.2 ∧ q.2 < w) : ∀ q ∈ ts ++ ps, 0 ≤ q.1 ∧ q.1 ≤ q.2 ∧ q.2 < w := fun q hq => by
  rcases List.mem_append.mp hq with hq | hq
  · exact h1 q hq
  · exact h2 q hq
theorem good_in {w : Int} {ts : List (Int × Int)} (h : ∀ q ∈ ts, 0 ≤ q.1 ∧ q.1 ≤ q.2 ∧ q.2 < w) : Good ts := fun q hq => ⟨(h q hq).1, (h q hq).2.1⟩
theorem in_one {w : Int} {q : Int × Int} (h : 0 ≤ q.1 ∧ q.1 ≤ q.2 ∧ q.2 < w) : ∀ p ∈ [q], 0 ≤ p.1 ∧ p.1 ≤ p.2 ∧ p.2 < w := fun p hp => by
  rw [List.mem_singleton.mp hp]
  exact h
theorem in_up {w v : Int} {ts : List (Int × Int)} (h : ∀ q ∈ ts, 0 ≤ q.1 ∧ q.1 ≤ q.2 ∧ q.2 < w) (hv : w ≤ v) : ∀ q ∈ ts, 0 ≤ q.1 ∧ q.1 ≤ q.2 ∧ q.2 < v := fun q hq => by
  have := h q hq
  omega
theorem in_take {w : Int} {ts : List (Int × Int)} (h : ∀ q ∈ ts, 0 ≤ q.1 ∧ q.1 ≤ q.2 ∧ q.2 < w) (n : Nat) : ∀ q ∈ ts.take n, 0 ≤ q.1 ∧ q.1 ≤ q.2 ∧ q.2 < w := fun q hq => h q (List.mem_of_mem_take hq)
theorem need_ge {ts ps : List (Int × Int)} {D : List Dem} (g : Good (ts ++ ps)) (h1 : Ind D) (h2 : ∀ d ∈ D, OpenD ts ps d) : D.length ≤ needO ts ps := by
  obtain ⟨_, S, s1, s2, _⟩ := need_ok g
  have := weak_dual s2 h1 h2
  omega
theorem blocks_strIn {row : List (Int × Int)} {w : Int} (h : ∀ q ∈ row, 0 ≤ q.1 ∧ q.1 ≤ q.2 ∧ q.2 < w) {f s : Int} (hf : 0 < f) (hs : 0 ≤ s) : (blocksOf (row.map (strI f s))).length ≤ w.toNat := by
  rw [blocks_str (fun q hq => ⟨(h q hq).1, (h q hq).2.1⟩) hf hs, List.length_map]
  exact blocks_in h

/-! ### rows of scaled intervals -/
def Sc (wd f s : Int) (row : List (Int × Int)) : Prop := ∀ q ∈ row, ∃ r : Int × Int, (0 ≤ r.1 ∧ r.1 ≤ r.2 ∧ r.2 < wd) ∧ q = strI f s r
theorem Sc.ex {wd f s : Int} : ∀ {row : List (Int × Int)}, Sc wd f s row → ∃ row' : List (Int × Int), row = row'.map (strI f s) ∧ ∀ q ∈ row', 0 ≤ q.1 ∧ q.1 ≤ q.2 ∧ q.2 < wd
  | [], _ => ⟨[], rfl, fun q hq => nomatch hq⟩
  | q :: row, h => by
    obtain ⟨r, r1, r2⟩ := h q List.mem_cons_self
    obtain ⟨row', e, h'⟩ := Sc.ex (row := row) fun p hp => h p (List.mem_cons_of_mem _ hp)
    refine ⟨r :: row', by rw [List.map_cons, ← e, ← r2], fun p hp => ?_⟩
    rcases List.mem_cons.mp hp with rfl | hp
    · exact r1
    · exact h' p hp
theorem Sc.of {wd f s : Int} {row : List (Int × Int)} (h : ∀ q ∈ row, 0 ≤ q.1 ∧ q.1 ≤ q.2 ∧ q.2 < wd) : Sc wd f s (row.map (strI f s)) := fun q hq => by
  obtain ⟨r, hr, e⟩ := List.mem_map.mp hq
  exact ⟨r, h r hr, e.symm⟩
theorem Sc.sub {wd f s : Int} {row l : List (Int × Int)} (h : Sc wd f s row) (m : ∀ q ∈ l, q ∈ row) : Sc wd f s l := fun q hq => h q (m q hq)
theorem Sc.app {wd f s : Int} {row l : List (Int × Int)} (h : Sc wd f s row) (h2 : Sc wd f s l) : Sc wd f s (row ++ l) := fun q hq => by
  rcases List.mem_append.mp hq with hq | hq
  · exact h q hq
  · exact h2 q hq
theorem Sc.good {wd f s : Int} {row : List (Int × Int)} (h : Sc wd f s row) (hf : 0 < f) (hs : 0 ≤ s) : Good row := by
  obtain ⟨r, rfl, hr⟩ := h.ex
  exact good_str (good_in hr) hf hs
theorem Sc.fewk {wd f s : Int} {row : List (Int × Int)} (h : Sc wd f s row) (hw : wd ≤ 60) (l : row.length ≤ 60) : FewK row := by
  obtain ⟨r, rfl, hr⟩ := h.ex
  exact fewk_str hr hw (by rw [List.length_map] at l; exact l)
theorem Sc.blocks {wd f s : Int} {row : List (Int × Int)} (h : Sc wd f s row) (hf : 0 < f) (hs : 0 ≤ s) (hw : wd ≤ 8) : (blocksOf row).length ≤ 8 := by
  obtain ⟨r, rfl, hr⟩ := h.ex
  exact Nat.le_trans (blocks_strIn hr hf hs) (by omega)
theorem Sc.bd {wd f s : Int} {row : List (Int × Int)} (h : Sc wd f s row) (hf : 0 < f) (hf2 : f ≤ 100000000000) (hs : 0 ≤ s) (hs2 : s ≤ 100) (hw : wd ≤ 8) : ∀ q ∈ row, (0 ≤ q.1 ∧ q.1 < 10 ^ 13) ∧ 0 ≤ q.2 ∧ q.2 < 10 ^ 13 := fun q hq => by
  obtain ⟨r, o, rfl⟩ := h q hq
  have a1 : r.1 * f ≤ 8 * 100000000000 := Int.mul_le_mul (by omega) hf2 (by omega) (by decide)
  have a2 : r.2 * f ≤ 8 * 100000000000 := Int.mul_le_mul (by omega) hf2 (by omega) (by decide)
  have a3 : 0 ≤ r.1 * f := Int.mul_nonneg (by omega) (by omega)
  have a4 : 0 ≤ r.2 * f := Int.mul_nonneg (by omega) (by omega)
  show (0 ≤ r.1 * f + s ∧ r.1 * f + s < 10 ^ 13) ∧ 0 ≤ r.2 * f + f - 1 + s ∧ r.2 * f + f - 1 + s < 10 ^ 13
  omega

theorem any_pair (x y : Int) : ∀ ps : List (Int × Int), ((ps.map pairD).any fun z => PyData.eqv z (.tuple [.int x, .int y])) = decide ((x, y) ∈ ps)
  | [] => rfl
  | q :: ps => by
    rw [List.map_cons, List.any_cons, any_pair x y ps]
    show (PyData.eqv (.tuple [.int q.1, .int q.2]) (.tuple [.int x, .int y]) || _) = _
    rw [eqv_pair, Bool.eq_iff_iff, Bool.or_eq_true, decide_eq_true_iff, decide_eq_true_iff, decide_eq_true_iff, List.mem_cons]
    exact ⟨fun h => h.imp (fun z => z.symm) id, fun h => h.imp (fun z => z.symm) id⟩

/-! ### what a block is; blocks under changes of the row -/
structure IsBlk (row : List (Int × Int)) (b : Int × Int) : Prop where
  dep : ∃ q ∈ row, q.1 ≤ b.1 ∧ b.1 ≤ q.2
  le : b.1 ≤ b.2
  lo : Bd row b.1
  hi : Bd row (b.2 + 1)
  gap : ∀ k, b.1 < k → k ≤ b.2 → ¬ Bd row k
theorem bl_one {row : List (Int × Int)} {N : Nat} {l : List (Int × Int)} (B : Bl row N l) {p q : Int × Int} (hp : p ∈ l) (hq : q ∈ l) {x : Int} (p1 : p.1 ≤ x) (p2 : x ≤ p.2) (q1 : q.1 ≤ x) (q2 : x ≤ q.2) : p = q := by
  obtain ⟨i, ei⟩ := List.getElem?_of_mem hp
  obtain ⟨j, ej⟩ := List.getElem?_of_mem hq
  rcases Nat.lt_trichotomy i j with h | h | h
  · have := B.idx h ei ej
    omega
  · subst h
    rw [ei] at ej
    cases ej
    rfl
  · have := B.idx h ej ei
    omega
theorem blk_of {row : List (Int × Int)} (g : Good row) {b : Int × Int} (h : b ∈ blocksOf row) : IsBlk row b := by
  have B := blocks_bl g
  have ok := B.ok b h
  have st : b.1 ∈ ((List.range (topN row)).filter (stB row)).map (fun n : Nat => (n : Int)) := by
    rw [← B.fst]
    exact List.mem_map.mpr ⟨b, h, rfl⟩
  obtain ⟨n, hn, en⟩ := List.mem_map.mp st
  have z := Bool.and_eq_true_iff.mp (List.mem_filter.mp hn).2
  have z1 := of_decide_eq_true z.1
  have z2 := of_decide_eq_true z.2
  rw [en] at z1 z2
  have gap : ∀ k, b.1 < k → k ≤ b.2 → ¬ Bd row k := fun k k1 k2 => B.inner h k1 k2
  refine ⟨dep_pos.mp z1, ok.2.1, z2, ?_, gap⟩
  refine Decidable.byContradiction fun nb => ?_
  have d2 : 0 < depI row b.2 := by
    have := (B.cov b.2.toNat (by omega)).mpr ⟨b, h, by omega, by omega⟩
    rw [show ((b.2.toNat : Nat) : Int) = b.2 by omega] at this
    exact this
  have e := dep_step g (b.2 + 1)
  rw [del_zero nb, show b.2 + 1 - 1 = b.2 by omega] at e
  obtain ⟨q, hq, q1, q2⟩ := dep_in g (pos := b.2 + 1) (by omega)
  have ne : q.1 ≠ b.2 + 1 := by
    intro z
    have st : q.1 ∈ ((List.range (topN row)).filter (stB row)).map (fun n : Nat => (n : Int)) := by
      rw [← B.fst]
      exact List.mem_map.mpr ⟨q, hq, rfl⟩
    obtain ⟨n, hn, en⟩ := List.mem_map.mp st
    have z2 := of_decide_eq_true (Bool.and_eq_true_iff.mp (List.mem_filter.mp hn).2).2
    rw [en, z] at z2
    exact nb z2
  have := bl_one B hq h (x := b.2) (by omega) (by omega) (by omega) (by omega)
  rw [this] at q2
  omega
theorem blk_mem {row : List (Int × Int)} (g : Good row) {b : Int × Int} (h : IsBlk row b) : b ∈ blocksOf row := by
  have B := blocks_bl g
  obtain ⟨q, hq, q1, q2⟩ := dep_in g (dep_pos.mpr h.dep)
  have k := blk_of g hq
  have e1 : q.1 = b.1 := by
    rcases Int.lt_or_eq_of_le q1 with z | z
    · exact absurd h.lo (k.gap b.1 z q2)
    · exact z
  have e2 : q.2 = b.2 := by
    have := h.le
    rcases Int.lt_trichotomy q.2 b.2 with z | z | z
    · exact absurd k.hi (h.gap (q.2 + 1) (by omega) (by omega))
    · exact z
    · exact absurd h.hi (k.gap (b.2 + 1) (by omega) (by omega))
  have : q = b := by
    obtain ⟨x, y⟩ := q
    obtain ⟨u, v⟩ := b
    cases e1
    cases e2
    rfl
  rw [← this]
  exact hq
theorem blk_iff {row : List (Int × Int)} (g : Good row) {b : Int × Int} : b ∈ blocksOf row ↔ IsBlk row b := ⟨blk_of g, blk_mem g⟩
theorem asc_uniq : ∀ {l m : List (Int × Int)}, l.Pairwise (fun a b => a.1 < b.1) → m.Pairwise (fun a b => a.1 < b.1) → (∀ x, x ∈ l ↔ x ∈ m) → l = m
  | [], [], _, _, _ => rfl
  | [], b :: m, _, _, h => nomatch (h b).mpr List.mem_cons_self
  | a :: l, [], _, _, h => nomatch (h a).mp List.mem_cons_self
  | a :: l, b :: m, h1, h2, h => by
    have p1 := List.pairwise_cons.mp h1
    have p2 := List.pairwise_cons.mp h2
    have ab : a = b := by
      rcases List.mem_cons.mp ((h a).mp List.mem_cons_self) with e | e
      · exact e
      · rcases List.mem_cons.mp ((h b).mpr List.mem_cons_self) with f | f
        · exact f.symm
        · have := p1.1 b f
          have := p2.1 a e
          omega
    subst ab
    congr 1
    refine asc_uniq p1.2 p2.2 fun x => ⟨fun hx => ?_, fun hx => ?_⟩
    · rcases List.mem_cons.mp ((h x).mp (List.mem_cons_of_mem _ hx)) with e | e
      · subst e
        have := p1.1 x hx
        omega
      · exact e
    · rcases List.mem_cons.mp ((h x).mpr (List.mem_cons_of_mem _ hx)) with e | e
      · subst e
        have := p2.1 x hx
        omega
      · exact e
theorem blk_asc {row : List (Int × Int)} (g : Good row) : (blocksOf row).Pairwise (fun a b => a.1 < b.1) :=
  (blocks_bl g).asc.imp_of_mem fun {a b} ha hb h => by
    have := (blk_of g ha).le
    omega
theorem blk_eq {r1 r2 : List (Int × Int)} (g1 : Good r1) (g2 : Good r2) (h : ∀ b, IsBlk r1 b ↔ IsBlk r2 b) : blocksOf r1 = blocksOf r2 :=
  asc_uniq (blk_asc g1) (blk_asc g2) fun x => by rw [blk_iff g1, blk_iff g2, h]
theorem bd_mem {r1 r2 : List (Int × Int)} (h : ∀ q, q ∈ r1 ↔ q ∈ r2) (k : Int) : Bd r1 k ↔ Bd r2 k :=
  ⟨fun ⟨q, hq, e⟩ => ⟨q, (h q).mp hq, e⟩, fun ⟨q, hq, e⟩ => ⟨q, (h q).mpr hq, e⟩⟩
theorem isBlk_mem {r1 r2 : List (Int × Int)} (h : ∀ q, q ∈ r1 ↔ q ∈ r2) {b : Int × Int} (k : IsBlk r1 b) : IsBlk r2 b := by
  obtain ⟨q, hq, e⟩ := k.dep
  exact ⟨⟨q, (h q).mp hq, e⟩, k.le, (bd_mem h _).mp k.lo, (bd_mem h _).mp k.hi, fun x x1 x2 z => k.gap x x1 x2 ((bd_mem h x).mpr z)⟩
/-- order and repetitions do not matter -/
theorem blocks_mem {r1 r2 : List (Int × Int)} (g1 : Good r1) (g2 : Good r2) (h : ∀ q, q ∈ r1 ↔ q ∈ r2) : blocksOf r1 = blocksOf r2 :=
  blk_eq g1 g2 fun _ => ⟨isBlk_mem h, isBlk_mem fun q => (h q).symm⟩
/-- one of the blocks as one more interval changes nothing -/
theorem blocks_own {row : List (Int × Int)} (g : Good row) {b : Int × Int} (hb : b ∈ blocksOf row) : blocksOf (row ++ [b]) = blocksOf row := by
  have k := blk_of g hb
  have b0 := ((blocks_bl g).ok b hb)
  have g2 : Good (row ++ [b]) := fun q hq => by
    rcases List.mem_append.mp hq with hq | hq
    · exact g q hq
    · rw [List.mem_singleton.mp hq]
      exact ⟨b0.1, b0.2.1⟩
  have bd : ∀ x, Bd (row ++ [b]) x ↔ Bd row x := fun x => by
    constructor
    · rintro ⟨q, hq, e⟩
      rcases List.mem_append.mp hq with hq | hq
      · exact ⟨q, hq, e⟩
      · rw [List.mem_singleton.mp hq] at e
        rcases e with e | e
        · rw [← e]
          exact k.lo
        · rw [← e]
          exact k.hi
    · rintro ⟨q, hq, e⟩
      exact ⟨q, List.mem_append_left _ hq, e⟩
  refine blk_eq g2 g fun c => ⟨fun h => ?_, fun h => ?_⟩
  · refine ⟨?_, h.le, (bd _).mp h.lo, (bd _).mp h.hi, fun x x1 x2 z => h.gap x x1 x2 ((bd x).mpr z)⟩
    obtain ⟨q, hq, e⟩ := h.dep
    rcases List.mem_append.mp hq with hq | hq
    · exact ⟨q, hq, e⟩
    · rw [List.mem_singleton.mp hq] at e
      have p : 0 < depI row c.1 := by
        have := ((blocks_bl g).cov c.1.toNat (by omega)).mpr ⟨b, hb, by omega, by omega⟩
        rw [show ((c.1.toNat : Nat) : Int) = c.1 by omega] at this
        exact this
      exact dep_pos.mp p
  · obtain ⟨q, hq, e⟩ := h.dep
    exact ⟨⟨q, List.mem_append_left _ hq, e⟩, h.le, (bd _).mpr h.lo, (bd _).mpr h.hi, fun x x1 x2 z => h.gap x x1 x2 ((bd x).mp z)⟩
/-- reflected -/
def refI (L : Int) (q : Int × Int) : Int × Int := (L - 1 - q.2, L - 1 - q.1)
theorem refI_refI (L : Int) (q : Int × Int) : refI L (refI L q) = q := by
  unfold refI
  ext
  · show L - 1 - (L - 1 - q.1) = q.1
    omega
  · show L - 1 - (L - 1 - q.2) = q.2
    omega
theorem bd_ref {L : Int} {row : List (Int × Int)} {k : Int} : Bd (row.map (refI L)) k ↔ Bd row (L - k) := by
  constructor
  · rintro ⟨q, hq, e⟩
    obtain ⟨r, hr, rfl⟩ := List.mem_map.mp hq
    rcases e with e | e
    · have e : L - 1 - r.2 = k := e
      exact ⟨r, hr, .inr (by omega)⟩
    · have e : L - 1 - r.1 + 1 = k := e
      exact ⟨r, hr, .inl (by omega)⟩
  · rintro ⟨r, hr, e⟩
    refine ⟨refI L r, List.mem_map.mpr ⟨r, hr, rfl⟩, ?_⟩
    rcases e with e | e
    · exact .inr (by show L - 1 - r.1 + 1 = k; omega)
    · exact .inl (by show L - 1 - r.2 = k; omega)
theorem good_ref {L : Int} {row : List (Int × Int)} (g : Good row) (h : ∀ q ∈ row, q.2 < L) : Good (row.map (refI L)) := fun q hq => by
  obtain ⟨r, hr, rfl⟩ := List.mem_map.mp hq
  have := g r hr
  have := h r hr
  exact ⟨by show 0 ≤ L - 1 - r.2; omega, by show L - 1 - r.2 ≤ L - 1 - r.1; omega⟩
theorem isBlk_ref {L : Int} {row : List (Int × Int)} (g : Good row) {b : Int × Int} (k : IsBlk row b) : IsBlk (row.map (refI L)) (refI L b) := by
  have kl := k.le
  refine ⟨?_, by show L - 1 - b.2 ≤ L - 1 - b.1; omega, bd_ref.mpr ?_, bd_ref.mpr ?_, fun x x1 x2 => ?_⟩
  · -- the last position is covered too
    have hb := blk_mem g k
    have ok := (blocks_bl g).ok b hb
    have d2 : 0 < depI row b.2 := by
      have := ((blocks_bl g).cov b.2.toNat (by omega)).mpr ⟨b, hb, by omega, by omega⟩
      rw [show ((b.2.toNat : Nat) : Int) = b.2 by omega] at this
      exact this
    obtain ⟨q, hq, e⟩ := dep_pos.mp d2
    exact ⟨refI L q, List.mem_map.mpr ⟨q, hq, rfl⟩, by show L - 1 - q.2 ≤ L - 1 - b.2; omega, by show L - 1 - b.2 ≤ L - 1 - q.1; omega⟩
  · show Bd row (L - (L - 1 - b.2))
    rw [show L - (L - 1 - b.2) = b.2 + 1 by omega]
    exact k.hi
  · show Bd row (L - (L - 1 - b.1 + 1))
    rw [show L - (L - 1 - b.1 + 1) = b.1 by omega]
    exact k.lo
  · have x1 : L - 1 - b.2 < x := x1
    have x2 : x ≤ L - 1 - b.1 := x2
    rw [bd_ref]
    exact k.gap (L - x) (by omega) (by omega)
theorem blocks_ref {L : Int} {row : List (Int × Int)} (g : Good row) (h : ∀ q ∈ row, q.2 < L) : blocksOf (row.map (refI L)) = ((blocksOf row).reverse).map (refI L) := by
  have g2 := good_ref g h
  refine asc_uniq (blk_asc g2) ?_ fun x => ?_
  · refine List.pairwise_map.mpr (List.pairwise_reverse.mpr ((blocks_bl g).asc.imp_of_mem fun {a b} ha hb ab => ?_))
    have := (blk_of g hb).le
    show L - 1 - b.2 < L - 1 - a.2
    omega
  · rw [blk_iff g2, List.mem_map]
    constructor
    · intro k
      have z := isBlk_ref (L := L) g2 k
      have e : (row.map (refI L)).map (refI L) = row := by
        rw [List.map_map]
        have : ∀ l : List (Int × Int), l.map (refI L ∘ refI L) = l := fun l => by
          induction l with
          | nil => rfl
          | cons q r ih =>
            rw [List.map_cons, ih]
            show refI L (refI L q) :: r = _
            rw [refI_refI]
        exact this row
      rw [e] at z
      exact ⟨refI L x, List.mem_reverse.mpr (blk_mem g z), refI_refI L x⟩
    · rintro ⟨b, hb, rfl⟩
      exact isBlk_ref g (blk_of g (List.mem_reverse.mp hb))
/-- with one more interval each block lies inside an old one or outside all -/
theorem blocks_more {row : List (Int × Int)} (g : Good row) {p : Int × Int} (gp : 0 ≤ p.1 ∧ p.1 ≤ p.2) {b c : Int × Int} (hb : b ∈ blocksOf (row ++ [p])) (hc : c ∈ blocksOf row) (m1 : c.1 ≤ b.2) (m2 : b.1 ≤ c.2) : c.1 ≤ b.1 ∧ b.2 ≤ c.2 := by
  have g2 : Good (row ++ [p]) := fun q hq => by
    rcases List.mem_append.mp hq with hq | hq
    · exact g q hq
    · rw [List.mem_singleton.mp hq]
      exact gp
  have k := blk_of g2 hb
  have z := blk_of g hc
  have up : ∀ x, Bd row x → Bd (row ++ [p]) x := fun x ⟨q, hq, e⟩ => ⟨q, List.mem_append_left _ hq, e⟩
  constructor
  · refine Int.not_lt.mp fun lt => k.gap c.1 lt m1 (up _ z.lo)
  · refine Int.not_lt.mp fun lt => k.gap (c.2 + 1) (by omega) (by omega) (up _ z.hi)

/-! ### sorted(list of pairs) -/
theorem Ivs.perm {H : Hp} {xs ys : List V} (pm : ys.Perm xs) : ∀ {ps : List (Int × Int)}, Ivs H xs ps → ∃ ps', Ivs H ys ps' ∧ ps'.Perm ps := by
  induction pm with
  | nil =>
    intro ps h
    exact ⟨ps, h, .refl _⟩
  | cons x _ ih =>
    intro ps h
    cases h with
    | cons e h =>
      obtain ⟨ps', h', p'⟩ := ih h
      exact ⟨_ :: ps', .cons e h', p'.cons _⟩
  | swap x y l =>
    intro ps h
    cases h with
    | cons e h =>
      cases h with
      | cons e2 h => exact ⟨_, .cons e2 (.cons e h), .swap _ _ _⟩
  | trans _ _ ih1 ih2 =>
    intro ps h
    obtain ⟨p2, h2, q2⟩ := ih2 h
    obtain ⟨p1, h1, q1⟩ := ih1 h2
    exact ⟨p1, h1, q1.trans q2⟩
theorem Ivs.pair {H : Hp} {R : V → V → Prop} {S : Int × Int → Int × Int → Prop} (rs : ∀ a b x y u v, H a = some (.tup [.int x, .int y]) → H b = some (.tup [.int u, .int v]) → R (.ref a) (.ref b) → S (x, y) (u, v)) {vs : List V} {ps : List (Int × Int)} (h : Ivs H vs ps) (pw : vs.Pairwise R) : ps.Pairwise S := by
  induction h with
  | nil => exact .nil
  | cons e h ih =>
    have p := List.pairwise_cons.mp pw
    refine List.pairwise_cons.mpr ⟨fun q hq => ?_, ih p.2⟩
    obtain ⟨b, hb, eb⟩ := h.tpsMem hq
    exact rs _ b _ _ q.1 q.2 e eb (p.1 _ hb)
theorem Ivs.mem {H : Hp} {vs : List V} {ps : List (Int × Int)} (h : Ivs H vs ps) {v : V} (hv : v ∈ vs) : ∃ a q, q ∈ ps ∧ v = .ref a ∧ H a = some (.tup [.int q.1, .int q.2]) := by
  obtain ⟨i, ei⟩ := List.getElem?_of_mem hv
  obtain ⟨a, x, y, e, ep, ea⟩ := h.get ei
  exact ⟨a, (x, y), List.mem_of_getElem? ep, e, ea⟩
theorem bd2 {z : Int × Int} (b : (0 ≤ z.1 ∧ z.1 < 10 ^ 13) ∧ 0 ≤ z.2 ∧ z.2 < 10 ^ 13) : TS.Bd (10 ^ 13) [z.1, z.2] := fun m hm => by
  rcases List.mem_cons.mp hm with rfl | hm
  · exact b.1
  · rw [List.mem_singleton.mp hm]
    exact b.2
theorem sort_pairs {K : PySem.W.Frag} {H : Hp} {l : Addr} {us : List V} {ps : List (Int × Int)} {Q : VK} (hl : SqL K H l us) (iv : Ivs H us ps) (few : ps.length < 64) (bd : ∀ q ∈ ps, (0 ≤ q.1 ∧ q.1 < 10 ^ 13) ∧ 0 ≤ q.2 ∧ q.2 < 10 ^ 13)
    (fin : ∀ H' p us' ps', Same H H' → H p = none → H' p = some (.lst us') → Ivs H' us' ps' → ps'.Pairwise leP → ps'.Perm ps → Q (.ref p) H') :
    rSortU K 2 (10 ^ 13) [.ref l] H Q := by
  refine ⟨l, us, rfl, hl, by rw [iv.length]; exact few, fun x hx => ?_, fun ys p2 pm pw np2 => ?_⟩
  · obtain ⟨b, qq, hqq, e, eb⟩ := iv.mem hx
    exact ⟨[qq.1, qq.2], ⟨b, e, SqT.of eb⟩, rfl, bd2 (bd qq hqq)⟩
  obtain ⟨gs, ivg, pmg⟩ := Ivs.perm pm iv
  have z : gs.Pairwise (fun a b => TS.code (10 ^ 13) [a.1, a.2] ≤ TS.code (10 ^ 13) [b.1, b.2]) := Ivs.pair (S := fun a b => TS.code (10 ^ 13) [a.1, a.2] ≤ TS.code (10 ^ 13) [b.1, b.2]) (fun a b x y u v ea eb h => h [x, y] [u, v] ⟨a, rfl, SqT.of ea⟩ ⟨b, rfl, SqT.of eb⟩) ivg pw
  have s2 := same_new (o := .lst ys) np2
  refine fin _ p2 ys gs s2 np2 upd_same (ivg.same s2) (z.imp_of_mem fun {x y} hx hy h => ?_) pmg
  exact code_lex (bd2 (bd x (pmg.mem_iff.mp hx))) (bd2 (bd y (pmg.mem_iff.mp hy))) h

/-! ### a smallest solution: the mathematics -/
/-- q begins and ends where blocks do, within an interval of the row -/
structure Fits (row : List (Int × Int)) (q : Int × Int) : Prop where
  lo : Bd row q.1
  hi : Bd row (q.2 + 1)
  le : q.1 ≤ q.2
  inn : ∃ t ∈ row, t.1 ≤ q.1 ∧ q.2 ≤ t.2
theorem Fits.good {row : List (Int × Int)} (g : Good row) {q : Int × Int} (f : Fits row q) : Good (row ++ [q]) := fun z hz => by
  rcases List.mem_append.mp hz with h | h
  · exact g z h
  · rw [List.mem_singleton.mp h]
    obtain ⟨t, ht, h1, h2⟩ := f.inn
    have := g t ht
    exact ⟨by omega, f.le⟩
theorem bd_fit {row : List (Int × Int)} {q : Int × Int} (f : Fits row q) (x : Int) : Bd (row ++ [q]) x ↔ Bd row x := by
  constructor
  · rintro ⟨z, hz, e⟩
    rcases List.mem_append.mp hz with h | h
    · exact ⟨z, h, e⟩
    · rw [List.mem_singleton.mp h] at e
      rcases e with e | e
      · exact e ▸ f.lo
      · exact e ▸ f.hi
  · rintro ⟨z, hz, e⟩
    exact ⟨z, List.mem_append_left _ hz, e⟩
theorem blocks_fit {row : List (Int × Int)} (g : Good row) {q : Int × Int} (f : Fits row q) : blocksOf (row ++ [q]) = blocksOf row := by
  have bd := bd_fit f
  refine blk_eq (f.good g) g fun c => ⟨fun h => ?_, fun h => ?_⟩
  · refine ⟨?_, h.le, (bd _).mp h.lo, (bd _).mp h.hi, fun x x1 x2 z => h.gap x x1 x2 ((bd x).mpr z)⟩
    obtain ⟨z, hz, e1, e2⟩ := h.dep
    rcases List.mem_append.mp hz with hz | hz
    · exact ⟨z, hz, e1, e2⟩
    · rw [List.mem_singleton.mp hz] at e1 e2
      obtain ⟨t, ht, k1, k2⟩ := f.inn
      exact ⟨t, ht, by omega, by omega⟩
  · obtain ⟨z, hz, e⟩ := h.dep
    exact ⟨⟨z, List.mem_append_left _ hz, e⟩, h.le, (bd _).mpr h.lo, (bd _).mpr h.hi, fun x x1 x2 z => h.gap x x1 x2 ((bd x).mp z)⟩
theorem opB_snoc (ps : List (Int × Int)) (q : Int × Int) (d : Dem) : opB (ps ++ [q]) d = (opB ps d && !sv q d) := by
  unfold opB
  rw [List.map_append, List.any_append, Bool.not_or, ← sv_svI]
  simp
theorem dec_fit {ts ps : List (Int × Int)} (g : Good (ts ++ ps)) {q : Int × Int} (f : Fits (ts ++ ps) q) : decO ts (ps ++ [q]) = (decO ts ps).filter fun d => !sv q d := by
  have e : blocksOf (ts ++ (ps ++ [q])) = blocksOf (ts ++ ps) := by
    rw [← List.append_assoc]
    exact blocks_fit g f
  unfold decO
  rw [e, List.filter_filter, List.filter_filter, List.filter_filter]
  congr 1
  funext d
  rw [opB_snoc]
  cases opB ps d <;> cases sv q d <;> cases (ts.find? (shB d.1 d.2.1 d.2.2)).isNone <;> rfl
/-- the pieces that helpful_piece looks at -/
def candI (bs : List (Int × Int)) (d : Dem) : List (Int × Int) := bs.flatMap fun b => (bs.map fun e => (b.1, e.2)).filter fun z => sv z d
theorem mem_cand {bs : List (Int × Int)} {d : Dem} {q : Int × Int} : q ∈ candI bs d ↔ (∃ b ∈ bs, q.1 = b.1) ∧ (∃ e ∈ bs, q.2 = e.2) ∧ sv q d = true := by
  unfold candI
  rw [List.mem_flatMap]
  constructor
  · rintro ⟨b, hb, h⟩
    obtain ⟨h1, h2⟩ := List.mem_filter.mp h
    obtain ⟨e, he, rfl⟩ := List.mem_map.mp h1
    exact ⟨⟨b, hb, rfl⟩, ⟨e, he, rfl⟩, h2⟩
  · rintro ⟨⟨b, hb, e1⟩, ⟨e, he, e2⟩, h⟩
    refine ⟨b, hb, List.mem_filter.mpr ⟨List.mem_map.mpr ⟨e, he, ?_⟩, h⟩⟩
    exact Prod.ext e1.symm e2.symm
theorem cand_fits {row : List (Int × Int)} (g : Good row) {d : Dem} {q : Int × Int} (h : q ∈ candI (blocksOf row) d) (ht : d.2 ∈ row) : Fits row q := by
  obtain ⟨⟨b, hb, e1⟩, ⟨e, he, e2⟩, s⟩ := mem_cand.mp h
  have s := sv_iff'.mp s
  refine ⟨?_, ?_, by omega, d.2, ht, s.1, s.2.2.2⟩
  · rw [e1]
    exact (blk_of g hb).lo
  · rw [e2]
    exact (blk_of g he).hi
theorem least_low : ∀ {L : List (Int × Int)} {x : Int}, (∃ c ∈ L, x ≤ c.1) → ∃ b ∈ L, x ≤ b.1 ∧ ∀ c ∈ L, x ≤ c.1 → b.1 ≤ c.1
  | [], _, h => by
    obtain ⟨c, hc, _⟩ := h
    cases hc
  | a :: L, x, h => by
    by_cases r : ∃ c ∈ L, x ≤ c.1
    · obtain ⟨b, hb, b1, b2⟩ := least_low r
      by_cases z : x ≤ a.1 ∧ a.1 ≤ b.1
      · refine ⟨a, List.mem_cons_self, z.1, fun c hc c1 => ?_⟩
        rcases List.mem_cons.mp hc with rfl | hc
        · exact Int.le_refl _
        · exact Int.le_trans z.2 (b2 c hc c1)
      · refine ⟨b, List.mem_cons_of_mem _ hb, b1, fun c hc c1 => ?_⟩
        rcases List.mem_cons.mp hc with rfl | hc
        · omega
        · exact b2 c hc c1
    · obtain ⟨c, hc, c1⟩ := h
      rcases List.mem_cons.mp hc with rfl | hc
      · refine ⟨c, List.mem_cons_self, c1, fun e he e1 => ?_⟩
        rcases List.mem_cons.mp he with rfl | he
        · exact Int.le_refl _
        · exact absurd ⟨e, he, e1⟩ r
      · exact absurd ⟨c, hc, c1⟩ r
theorem good_snoc {ts ps : List (Int × Int)} (g : Good (ts ++ ps)) {q : Int × Int} (f : Fits (ts ++ ps) q) : Good (ts ++ (ps ++ [q])) := by
  rw [← List.append_assoc]
  exact f.good g
/-- one of these pieces helps -/
theorem help_ex {ts ps : List (Int × Int)} (g : Good (ts ++ ps)) {d0 : Dem} (h0 : d0 ∈ decO ts ps) : ∃ q ∈ candI (blocksOf (ts ++ ps)) d0, needO ts (ps ++ [q]) + 1 ≤ needO ts ps := by
  obtain ⟨_, S, s1, com, _⟩ := need_ok g
  obtain ⟨⟨tm, vd, op⟩, low, _⟩ := mem_dec.mp h0
  have tmr : d0.2 ∈ ts ++ ps := List.mem_append_left _ tm
  obtain ⟨s, hs, k1, k2, k3, k4⟩ := com d0.2 tm d0.1 vd.1 vd.2
  have s0 : sv s d0 = true := sv_iff'.mpr ⟨k1, k2, k3, k4⟩
  have hS : s ∈ S := by
    rcases List.mem_append.mp hs with h | h
    · rw [op s h] at s0
      cases s0
    · exact h
  obtain ⟨e, he, e1, e2⟩ := dep_in g (dep_pos.mpr ⟨d0.2, tmr, show d0.2.1 ≤ s.2 by omega, k4⟩)
  obtain ⟨c0, hc0, ec0⟩ := List.mem_map.mp low
  obtain ⟨b, hb, b1, b2⟩ := least_low (x := s.1) ⟨c0, hc0, by omega⟩
  have up : ∀ d : Dem, d.2 ∈ ts → d.1 ∈ lowsOf (ts ++ ps) → sv s d = true → sv (b.1, e.2) d = true := by
    intro d hd hl hsv
    obtain ⟨c, hc, ec⟩ := List.mem_map.mp hl
    have ec : c.1 = d.1 := ec
    have z := sv_iff'.mp hsv
    have z1 := b2 c hc (by omega)
    have z2 := (block_const g he (List.mem_append_left ps hd) e1 e2).mp ⟨by omega, z.2.2.2⟩
    exact sv_iff'.mpr ⟨by show d.2.1 ≤ b.1; omega, by show b.1 ≤ d.1; omega, by show d.1 ≤ e.2; omega, z2.2⟩
  have hq : (b.1, e.2) ∈ candI (blocksOf (ts ++ ps)) d0 := mem_cand.mpr ⟨⟨b, hb, rfl⟩, ⟨e, he, rfl⟩, up d0 tm low s0⟩
  have f := cand_fits g hq tmr
  refine ⟨_, hq, ?_⟩
  have le : needO ts (ps ++ [(b.1, e.2)]) ≤ (S.erase s).length := by
    refine Nat.le_trans (sum_served (S := S.erase s) (D := lg (decO ts (ps ++ [(b.1, e.2)])).length (decO ts (ps ++ [(b.1, e.2)]))) fun d hd => ?_) (sum_one fun z _ => (lg_ind _ _).cov_le z)
    have hd := (lg_sub _ _).mem hd
    rw [dec_fit g f] at hd
    obtain ⟨h1, h2⟩ := List.mem_filter.mp hd
    obtain ⟨⟨dm, dv, dop⟩, dlow, _⟩ := mem_dec.mp h1
    obtain ⟨z, hz, m1, m2, m3, m4⟩ := com d.2 dm d.1 dv.1 dv.2
    have zs : sv z d = true := sv_iff'.mpr ⟨m1, m2, m3, m4⟩
    rcases List.mem_append.mp hz with h | h
    · rw [dop z h] at zs
      cases zs
    · refine ⟨z, (List.mem_erase_of_ne fun w => ?_).mpr h, zs⟩
      subst w
      rw [up d dm dlow zs] at h2
      cases h2
  rw [List.length_erase_of_mem hS] at le
  have := List.length_pos_of_mem hS
  omega
/-! ### the first of the least -/
def argm {α : Type} (kf : α → Nat) : List α → Option α
  | [] => none
  | x :: xs => match argm kf xs with
    | none => some x
    | some y => if kf y < kf x then some y else some x
theorem argm_ne {α : Type} {kf : α → Nat} {x : α} {xs : List α} : argm kf (x :: xs) ≠ none := by
  unfold argm
  split
  · simp
  · split <;> simp
theorem argm_ok {α : Type} {kf : α → Nat} : ∀ {l : List α} {y : α}, argm kf l = some y → y ∈ l ∧ ∀ z ∈ l, kf y ≤ kf z
  | [], y, h => nomatch h
  | x :: xs, y, h => by
    unfold argm at h
    split at h
    · rename_i e
      cases h
      have : xs = [] := by
        cases xs with
        | nil => rfl
        | cons a b => exact absurd e argm_ne
      subst this
      exact ⟨List.mem_cons_self, fun z hz => by rw [List.mem_singleton.mp hz]; exact Nat.le_refl _⟩
    · rename_i w e
      have ih := argm_ok e
      split at h
      · rename_i c
        cases h
        refine ⟨List.mem_cons_of_mem _ ih.1, fun z hz => ?_⟩
        rcases List.mem_cons.mp hz with rfl | hz
        · omega
        · exact ih.2 z hz
      · rename_i c
        cases h
        refine ⟨List.mem_cons_self, fun z hz => ?_⟩
        rcases List.mem_cons.mp hz with rfl | hz
        · exact Nat.le_refl _
        · have := ih.2 z hz
          omega
theorem argm_low {α : Type} {kf : α → Nat} : ∀ {l : List α} {j : Nat} {y : α}, l[j]? = some y → (∀ i z, l[i]? = some z → kf y ≤ kf z ∧ (i < j → kf y < kf z)) → argm kf l = some y
  | [], j, y, e, _ => by simp at e
  | x :: xs, 0, y, e, h => by
    cases e
    unfold argm
    split
    · rfl
    · rename_i w ew
      have m := (argm_ok ew).1
      obtain ⟨i, ei⟩ := List.getElem?_of_mem m
      have := (h (i + 1) w ei).1
      rw [if_neg (by omega)]
  | x :: xs, j + 1, y, e, h => by
    have ih := argm_low (l := xs) (j := j) (y := y) e fun i z ez => ⟨(h (i + 1) z ez).1, fun c => (h (i + 1) z ez).2 (by omega)⟩
    have h0 := (h 0 x rfl).2 (by omega)
    unfold argm
    rw [ih]
    exact if_pos h0
/-! ### what the program picks -/
def keyO (ds : List Dem) (q : Int × Int) : Nat := (lg ds.length (ds.filter fun d => !sv q d)).length
def pickO (bs : List (Int × Int)) : List Dem → Int × Int
  | [] => (0, 0)
  | d :: ds => (argm (keyO (d :: ds)) (candI bs d)).getD (0, 0)
def runO (bs : List (Int × Int)) : Nat → List Dem → List (Int × Int)
  | 0, _ => []
  | _ + 1, [] => []
  | n + 1, d :: ds => pickO bs (d :: ds) :: runO bs n ((d :: ds).filter fun e => !sv (pickO bs (d :: ds)) e)
/-- the pieces that are added for targets and pieces, in the order in which they are found -/
def addO (ts ps : List (Int × Int)) : List (Int × Int) := runO (blocksOf (ts ++ ps)) (decO ts ps).length (decO ts ps)
theorem key_need {ts ps : List (Int × Int)} (g : Good (ts ++ ps)) {q : Int × Int} (f : Fits (ts ++ ps) q) : keyO (decO ts ps) q = needO ts (ps ++ [q]) := by
  unfold keyO needO
  rw [dec_fit g f, lg_same _ _ _ (List.length_filter_le _ _) (Nat.le_refl _)]
theorem pick_ok {ts ps : List (Int × Int)} (g : Good (ts ++ ps)) {d : Dem} {ds : List Dem} (e : decO ts ps = d :: ds) : pickO (blocksOf (ts ++ ps)) (decO ts ps) ∈ candI (blocksOf (ts ++ ps)) d ∧ Fits (ts ++ ps) (pickO (blocksOf (ts ++ ps)) (decO ts ps)) ∧
    needO ts (ps ++ [pickO (blocksOf (ts ++ ps)) (decO ts ps)]) + 1 = needO ts ps := by
  have h0 : d ∈ decO ts ps := by
    rw [e]
    exact List.mem_cons_self
  have tm : d.2 ∈ ts ++ ps := List.mem_append_left _ (mem_dec.mp h0).1.1
  obtain ⟨z, hz, hl⟩ := help_ex g h0
  have pe : pickO (blocksOf (ts ++ ps)) (decO ts ps) = (argm (keyO (decO ts ps)) (candI (blocksOf (ts ++ ps)) d)).getD (0, 0) := by
    rw [e]
    rfl
  rw [pe]
  cases ea : argm (keyO (decO ts ps)) (candI (blocksOf (ts ++ ps)) d) with
  | none =>
    cases ec : candI (blocksOf (ts ++ ps)) d with
    | nil =>
      rw [ec] at hz
      cases hz
    | cons a b =>
      rw [ec] at ea
      exact absurd ea argm_ne
  | some y =>
    obtain ⟨m, least⟩ := argm_ok ea
    have f := cand_fits g m tm
    have fz := cand_fits g hz tm
    have k := least z hz
    rw [key_need g f, key_need g fz] at k
    refine ⟨m, f, ?_⟩
    have := (need_add (good_snoc g f)).2
    show needO ts (ps ++ [y]) + 1 = needO ts ps
    omega
theorem filter_len {α : Type} {p : α → Bool} {x : α} {xs : List α} (h : p x = false) : ((x :: xs).filter p).length ≤ xs.length := by
  rw [List.filter_cons, if_neg (by rw [h]; exact Bool.false_ne_true)]
  exact List.length_filter_le _ _
/-- what was added: as many as are needed, they complete the pieces; each fits, is new, and they differ -/
structure AddOk (ts ps A : List (Int × Int)) : Prop where
  len : A.length = needO ts ps
  com : Com ts ps A
  inn : ∀ q ∈ A, Fits (ts ++ ps) q ∧ ∃ t ∈ ts, t.1 ≤ q.1 ∧ q.2 ≤ t.2
  new : ∀ q ∈ A, q ∉ ps
  nd : A.Nodup
theorem run_ok {ts : List (Int × Int)} : ∀ (n : Nat) (ps : List (Int × Int)), Good (ts ++ ps) → (decO ts ps).length ≤ n → AddOk ts ps (runO (blocksOf (ts ++ ps)) n (decO ts ps)) := by
  have base : ∀ ps, Good (ts ++ ps) → decO ts ps = [] → AddOk ts ps [] := fun ps g e => by
    have z : needO ts ps = 0 := by
      unfold needO
      rw [e]
      rfl
    exact ⟨z.symm, need_zero g z, (fun q hq => nomatch hq), (fun q hq => nomatch hq), .nil⟩
  intro n
  induction n with
  | zero =>
    intro ps g l
    exact base ps g (List.length_eq_zero_iff.mp (by omega))
  | succ n ih =>
    intro ps g l
    cases e : decO ts ps with
    | nil => exact base ps g e
    | cons d ds =>
      obtain ⟨pm, pf, pn⟩ := pick_ok g e
      have h0 : d ∈ decO ts ps := by
        rw [e]
        exact List.mem_cons_self
      have tm := (mem_dec.mp h0).1
      show AddOk ts ps (pickO (blocksOf (ts ++ ps)) (d :: ds) :: runO (blocksOf (ts ++ ps)) n ((d :: ds).filter fun e => !sv (pickO (blocksOf (ts ++ ps)) (d :: ds)) e))
      have e' := e
      rw [← e']
      generalize eq : pickO (blocksOf (ts ++ ps)) (decO ts ps) = q at *
      have s0 := (mem_cand.mp pm).2.2
      have g' := good_snoc g pf
      have df := dec_fit g pf
      have bf : blocksOf (ts ++ (ps ++ [q])) = blocksOf (ts ++ ps) := by
        rw [← List.append_assoc]
        exact blocks_fit g pf
      have ll : (decO ts (ps ++ [q])).length ≤ n := by
        rw [df, e]
        have := filter_len (p := fun d => !sv q d) (x := d) (xs := ds) (by rw [s0]; rfl)
        rw [e, List.length_cons] at l
        omega
      have r := ih (ps ++ [q]) g' ll
      rw [bf, df] at r
      have qs := sv_iff'.mp s0
      have qin : ∃ t ∈ ts, t.1 ≤ q.1 ∧ q.2 ≤ t.2 := ⟨d.2, tm.1, qs.1, qs.2.2.2⟩
      have qn : q ∉ ps := fun z => by
        rw [tm.2.2 q z] at s0
        cases s0
      refine ⟨?_, ?_, fun z hz => ?_, fun z hz => ?_, ?_⟩
      · rw [List.length_cons, r.len]
        exact pn
      · refine com_mono r.com fun z hz => ?_
        rcases List.mem_append.mp hz with h | h
        · rcases List.mem_append.mp h with h | h
          · exact List.mem_append_left _ h
          · rw [List.mem_singleton.mp h]
            exact List.mem_append_right _ List.mem_cons_self
        · exact List.mem_append_right _ (List.mem_cons_of_mem _ h)
      · rcases List.mem_cons.mp hz with rfl | hz
        · exact ⟨pf, qin⟩
        · obtain ⟨f2, t, ht, t1, t2⟩ := r.inn z hz
          have bd := bd_fit pf
          rw [← List.append_assoc] at f2
          exact ⟨⟨(bd _).mp f2.lo, (bd _).mp f2.hi, f2.le, t, List.mem_append_left _ ht, t1, t2⟩, t, ht, t1, t2⟩
      · rcases List.mem_cons.mp hz with rfl | hz
        · exact qn
        · exact fun w => r.new z hz (List.mem_append_left _ w)
      · refine List.nodup_cons.mpr ⟨fun z => r.new q z (List.mem_append_right _ (List.mem_singleton.mpr rfl)), r.nd⟩
theorem add_ok {ts ps : List (Int × Int)} (g : Good (ts ++ ps)) : AddOk ts ps (addO ts ps) := run_ok _ ps g (Nat.le_refl _)

def rLenS (K : PySem.W.Frag) : List V → Hp → VK → Prop := fun xs H Q => ∃ p ys, xs = [.ref p] ∧ (SqL K H p ys ∨ SqT K H p ys) ∧ Q (.int (ys.length : Nat)) H
theorem call_lenS {X : Cx} : CallR X (.builtin "len") (rLenS X.K) := call_len_seq
theorem pe_bmK {X : Cx} {K : PySem.W.Frag} {e : Expr} {T : String} {r : V → List V → Hp → VK → Prop} {to : TE} {t : TA} (hK : X.K = K) (h : PE X e (tBM X.K T r to t)) : PE X e (tBM K T r to t) := hK ▸ h

/-! ### the program's search for a piece that helps -/
def sp_unserved : Sp := fun vs H Q _ => ∃ (D q : Addr) (zs : List V) (ds : List Dem) (x y : Int), vs = [.ref D, .ref q] ∧ H D = some (.lst zs) ∧ Dms H zs ds ∧ ds.length < 1000 ∧ H q = some (.tup [.int x, .int y]) ∧
  ∀ H' E es, Same H H' → H E = none → H' E = some (.lst es) → Dms H' es (ds.filter fun d => !sv (x, y) d) → Q (.ref E) H'
theorem ok_unserved_demands (T : Tx K mg f_depth_changes f_find_blocks f_is_number f_is_position f_is_tuple_of f_is_interval f_is_ascending f_has_position f_contains f_is_demand f_serves f_conflict f_is_independent f_demands_at_blocks f_is_open f_open_demands f_shadow_target f_pieces_inside f_first_gap f_find_missing f_require_few_blocks f_decisive_demands f_largest_independent f_unserved_demands f_helpful_piece f_smallest_solution f_solve f_are_witnesses f_solution_holds f_law_draws f_law_next f_law_one f_law_spans f_law_targets f_law_covers f_law_is_interval f_law_is_demand f_law_rising f_law_served f_law_clash f_law_are_witnesses f_law_solved f_law_bent f_law d_depth_changes d_find_blocks d_is_number d_is_position d_is_tuple_of d_is_interval d_is_ascending d_has_position d_contains d_is_demand d_serves d_conflict d_is_independent d_demands_at_blocks d_is_open d_open_demands d_shadow_target d_pieces_inside d_first_gap d_find_missing d_require_few_blocks d_decisive_demands d_largest_independent d_unserved_demands d_helpful_piece d_smallest_solution d_solve d_are_witnesses d_solution_holds d_law_draws d_law_next d_law_one d_law_spans d_law_targets d_law_covers d_law_is_interval d_law_is_demand d_law_rising d_law_served d_law_clash d_law_are_witnesses d_law_solved d_law_bent d_law t_LAST_POSITION t_MAX_BLOCKS) : FnOk P w K mg base CX0 3 f_unserved_demands d_unserved_demands ["demands", "piece"] sp_unserved := by
  refine T.F_unserved_demands.ok sc_unserved_demands (fun vs H Q E h => ?_) (fun cdv A outer s H vs Q E hr h => ?_)
  · obtain ⟨D, q, zs, ds, x, y, rfl, _⟩ := h
    rfl
  · obtain ⟨D, q, zs, ds, x, y, rfl, hD, dm, few, hq, k⟩ := h
    refine ⟨_, (pss_one (ps_ret (pe_lc (own := [("demand", 2)]) (g := (gName 2)) (by rfl) sc_unserved_demands.nd (pi_list (pv 0)) (blkOk_by (own := [("demand", 2)]) (N := N_unserved_demands) (sc := defScope s_unserved_demands) (by decide +kernel)) (fun _ _ _ _ _ => (pg_name (i := 2) sc_unserved_demands.nd rfl (Or.inl rfl))) (fun _ _ _ _ _ => pts_one (pt_not (pt_val (pe_call (ok_serves T) (hr.mono (by decide)) (by rfl) T.g_serves T.F_serves.kp T.b_serves .nil pass0 (pa_cons (pv 1) (pa_cons (pv 2) pa_nil)))))) (fun _ _ _ _ _ => (pv 2))))), ?_⟩
    have lz := dm.length
    refine ⟨.ref D, rfl, D, rfl, ⟨_, SqL.of hD⟩, fun E nE => ?_⟩
    refine lcL (K := K) (a := D) (xs := zs) (fun j H' ws => Dms H' ws ((ds.take j).filter fun d => !sv (x, y) d)) nE (fun H' s => SqL.of (s _ _ (hD))) (by omega) (fun _ _ _ _ t r => r.tps t) (fun j H' ws r => (by rw [r.length]; exact Nat.le_trans (List.length_filter_le _ _) (List.length_take_le _ _))) (fun _ => .nil) ?_ ?_
    · rintro j z H' N acc hj sj eA sz r no yes
      obtain ⟨p, lo, hi, ed, dz⟩ := dm.get hj
      have dz2 := dz.same sj
      obtain ⟨uz, tz, rfl, h1, h2⟩ := dz2.ex
      refine ⟨rfl, .ref q, rfl, .ref uz, rfl, q, uz, tz, x, y, p, lo, hi, rfl, sj _ _ hq, h1, h2, _, rfl, ?_⟩
      rw [show svI x y p lo hi = sv (x, y) (p, lo, hi) from sv_svI (x, y) (p, lo, hi)]
      refine ite2 (fun c => ?_) (fun c => ?_)
      · refine ⟨.ref uz, rfl, yes H' _ (Same.refl _) ?_⟩
        rw [take_filter ed, if_pos c]
        exact r.snoc dz2
      · refine no H' (Same.refl _) ?_
        rw [take_filter ed, if_neg c, List.append_nil]
        exact r
    intro H1 ws s1 eE r
    rw [lz, List.take_length] at r
    exact k H1 E ws s1 nE eE r
def candJ (as bs : List (Int × Int)) (d : Dem) : List (Int × Int) := as.flatMap fun b => (bs.map fun e => (b.1, e.2)).filter fun z => sv z d
theorem candJ_snoc (as bs : List (Int × Int)) (b : Int × Int) (d : Dem) : candJ (as ++ [b]) bs d = candJ as bs d ++ (bs.map fun e => (b.1, e.2)).filter fun z => sv z d := by
  unfold candJ
  rw [List.flatMap_append]
  simp
theorem candJ_len {bs : List (Int × Int)} {d : Dem} : ∀ {as : List (Int × Int)}, (candJ as bs d).length ≤ as.length * bs.length
  | [] => Nat.zero_le _
  | b :: as => by
    have ih := candJ_len (bs := bs) (d := d) (as := as)
    have h := List.length_filter_le (fun z => sv z d) (bs.map fun e => (b.1, e.2))
    rw [List.length_map] at h
    show (((bs.map fun e => (b.1, e.2)).filter fun z => sv z d) ++ candJ as bs d).length ≤ (as.length + 1) * bs.length
    rw [List.length_append, Nat.add_mul]
    omega
theorem Ivs.refs {H : Hp} {vs : List V} {ps : List (Int × Int)} (h : Ivs H vs ps) : ∃ as : List Addr, vs = as.map V.ref ∧ as.length = ps.length ∧ ∀ (j : Nat) (a : Addr), as[j]? = some a → ∃ q, ps[j]? = some q ∧ H a = some (.tup [.int q.1, .int q.2]) := by
  induction h with
  | nil => exact ⟨[], rfl, rfl, fun j a e => by simp at e⟩
  | cons e _ ih =>
    obtain ⟨as, e1, e2, e3⟩ := ih
    refine ⟨_ :: as, by rw [List.map_cons, e1], by rw [List.length_cons, List.length_cons, e2], fun j a ej => ?_⟩
    cases j with
    | zero =>
      cases ej
      exact ⟨_, rfl, e⟩
    | succ j => exact e3 j a ej
def sp_helpful (pT : Addr) : Sp := fun vs H Q _ => ∃ (d : Addr) (c : Addr × Addr × Addr) (n : Int) (D b : Addr) (zs ws : List V) (d0 : Dem) (ds : List Dem) (bs : List (Int × Int)), vs = [.ref D, .ref b] ∧ c.2.2 = pT ∧ Dk H d c n ∧ H D = some (.lst zs) ∧ Dms H zs (d0 :: ds) ∧ H b = some (.tup ws) ∧ Ivs H ws bs ∧ bs.length ≤ 16 ∧ (d0 :: ds).length ≤ lgN ∧ (d0 :: ds).length < 1000 ∧ 0 < (candI bs d0).length ∧
  ∀ H' r, Kp d c H H' → Dk H' d c n → H' r = some (.tup [.int (pickO bs (d0 :: ds)).1, .int (pickO bs (d0 :: ds)).2]) → Q (.ref r) H'
theorem ok_helpful_piece (T : Tx K mg f_depth_changes f_find_blocks f_is_number f_is_position f_is_tuple_of f_is_interval f_is_ascending f_has_position f_contains f_is_demand f_serves f_conflict f_is_independent f_demands_at_blocks f_is_open f_open_demands f_shadow_target f_pieces_inside f_first_gap f_find_missing f_require_few_blocks f_decisive_demands f_largest_independent f_unserved_demands f_helpful_piece f_smallest_solution f_solve f_are_witnesses f_solution_holds f_law_draws f_law_next f_law_one f_law_spans f_law_targets f_law_covers f_law_is_interval f_law_is_demand f_law_rising f_law_served f_law_clash f_law_are_witnesses f_law_solved f_law_bent f_law d_depth_changes d_find_blocks d_is_number d_is_position d_is_tuple_of d_is_interval d_is_ascending d_has_position d_contains d_is_demand d_serves d_conflict d_is_independent d_demands_at_blocks d_is_open d_open_demands d_shadow_target d_pieces_inside d_first_gap d_find_missing d_require_few_blocks d_decisive_demands d_largest_independent d_unserved_demands d_helpful_piece d_smallest_solution d_solve d_are_witnesses d_solution_holds d_law_draws d_law_next d_law_one d_law_spans d_law_targets d_law_covers d_law_is_interval d_law_is_demand d_law_rising d_law_served d_law_clash d_law_are_witnesses d_law_solved d_law_bent d_law t_LAST_POSITION t_MAX_BLOCKS) (hT : TabH base mg d_helpful_piece pT) : FnOk P w K mg base CX0 (lgN+9) f_helpful_piece d_helpful_piece ["demands", "blocks"] (sp_helpful pT) := by
  obtain ⟨c0, TB, hc0⟩ := hT
  refine okC T.F_helpful_piece sc_helpful_piece (fun vs H Q E h => ?_) (fun cdv hcd A outer s H vs Q E hr h => ?_)
  · obtain ⟨d, c, n, D, b, zs, ws, d0, ds, bs, rfl, _⟩ := h
    rfl
  · obtain ⟨d, c, n, D, b, zs, ws, d0, ds, bs, rfl, ct, dk, hD, dm, hb, ivb, lb, ln, few, some1, k⟩ := h
    refine ⟨_, (pss_cons (ps_setLc2 (i := 2) (own := [("low", 3), ("end", 4), ("start", 5), ("high", 6)]) (vs1 := [5, 6]) (g := (gTup K 2 (gCons (gName 3) (gCons (gName 4) gNil)))) (g1 := (gTup K 2 (gCons (gName 5) (gCons (gName 6) gNil)))) (tt := tYes) (by rfl) sc_helpful_piece.nd rfl rfl (sw_true rfl rfl rfl (by decide +kernel)) (pi_tup (pv 1)) (blkOk_by (own := [("low", 3), ("end", 4), ("start", 5), ("high", 6)]) (N := N_helpful_piece) (sc := defScope s_helpful_piece) (by decide +kernel)) (by decide) (fun _ _ _ _ _ => (pg_tup rfl (pgs_cons (pg_name (i := 3) sc_helpful_piece.nd rfl (Or.inl rfl)) (pgs_cons (pg_name (i := 4) sc_helpful_piece.nd rfl (Or.inl rfl)) pgs_nil)))) (fun _ _ _ _ _ => pts_nil) (fun _ _ _ _ _ => (pi_tupK (K := K) rfl (pv 1))) (fun _ _ _ _ _ => (pg_tup rfl (pgs_cons (pg_name (i := 5) sc_helpful_piece.nd rfl (Or.inl rfl)) (pgs_cons (pg_name (i := 6) sc_helpful_piece.nd rfl (Or.inl rfl)) pgs_nil)))) (fun _ _ _ _ _ => pts_one (pt_val (pe_call (ok_serves T) (hr.mono (by decide)) (by rfl) T.g_serves T.F_serves.kp T.b_serves .nil pass0 (pa_cons (pe_tup (pa_cons (pv 3) (pa_cons (pv 6) pa_nil))) (pa_cons (pe_ix (show IxR _ (rIxL K) from ix_list) (pv 0) pe_int (fun _ _ => rfl)) pa_nil))))) (fun _ _ _ _ _ => (pe_tup (pa_cons (pv 3) (pa_cons (pv 6) pa_nil)))))
      (pss_one (ps_ret (pe_minLam (cap := "demands") (par := "piece") (P := pT) 0 rfl (by rfl) T.z_min hr TB (hcd.symm.trans hc0) (lam1_by (sc := defScope s_helpful_piece) (by decide +kernel)) rfl rfl (fun _ _ _ _ _ _ => rfl) (pa_cons (pv 2) pa_nil) (fun _ _ _ _ _ hr => (pe_callB (show CallR _ (.builtin "len") (rLenS K) from call_lenS) (by rfl) T.z_len PySem.boot_len (pa_cons (pe_call (ok_largest_independent T) (hr.mono (by decide)) (by rfl) T.g_largest_independent T.F_largest_independent.kp T.b_largest_independent .nil pass0 (pa_cons (pe_call (ok_unserved_demands T) (hr.mono (by decide)) (by rfl) T.g_unserved_demands T.F_unserved_demands.kp T.b_unserved_demands .nil pass0 (pa_cons (pv 0) (pa_cons (pv 1) pa_nil))) pa_nil)) pa_nil))))))), ?_⟩
    have lz := dm.length
    have lw := ivb.length
    obtain ⟨v0, zr, rfl⟩ : ∃ v r, zs = v :: r := by
      cases dm
      exact ⟨_, _, rfl⟩
    obtain ⟨dv, _⟩ := dm.sub rfl rfl
    obtain ⟨u0, t0, rfl, h1, h2⟩ := dv.ex
    refine ⟨.ref b, rfl, b, rfl, ⟨_, SqT.of hb⟩, fun L nL => ?_⟩
    refine walkT (K := K) (a := b) (xs := ws) (fun i H' => Same H H' ∧ ∃ cs, H' L = some (.lst cs) ∧ Ivs H' cs (candJ (bs.take i) bs d0)) ⟨same_new nL, [], upd_same, .nil⟩ (fun i H' _ h => SqT.of (h.1 _ _ hb)) ?_ ?_
    · rintro i v H1 hi ⟨s1, cs, eL, iv⟩
      obtain ⟨bb, x, x9, rfl, ep, hbb⟩ := ivb.get hi
      refine ⟨bb, _, rfl, SqT.of (s1 _ _ hbb), rfl, .int x, [.int x9], rfl, .int x9, [], rfl, rfl, rfl, ?_⟩
      refine ⟨.ref b, rfl, b, rfl, ⟨_, SqT.of (s1 _ _ hb)⟩, ?_⟩
      refine walkT (K := K) (a := b) (xs := ws) (fun j H' => Same H H' ∧ ∃ cs, H' L = some (.lst cs) ∧ Ivs H' cs (candJ (bs.take i) bs d0 ++ ((bs.take j).map fun e => (x, e.2)).filter fun z => sv z d0)) ⟨s1, cs, eL, by show Ivs H1 cs (_ ++ []); rw [List.append_nil]; exact iv⟩ (fun j H' _ h => SqT.of (h.1 _ _ hb)) ?_ ?_
      · rintro j v H2 hj ⟨s2, cs2, eL2, iv2⟩
        obtain ⟨b2, y9, y, rfl, et, hb2⟩ := ivb.get hj
        have step : ((bs.take (j + 1)).map fun e => (x, e.2)).filter (fun z => sv z d0) = ((bs.take j).map fun e => (x, e.2)).filter (fun z => sv z d0) ++ if sv (x, y) d0 = true then [(x, y)] else [] := by
          rw [List.take_add_one, et, List.map_append, List.filter_append]
          congr 1
          show ([(x, y)].filter fun z => sv z d0) = _
          by_cases z : sv (x, y) d0 = true
          · rw [if_pos z, List.filter_cons, if_pos z]
            rfl
          · rw [if_neg z, List.filter_cons, if_neg z]
            rfl
        have sz : cs2.length < sizeLine := by
          have h1 := iv2.length
          have h2 := candJ_len (bs := bs) (d := d0) (as := bs.take i)
          have h3 : (((bs.take j).map fun e => (x, e.2)).filter fun z => sv z d0).length ≤ 16 := by
            refine Nat.le_trans (List.length_filter_le _ _) ?_
            rw [List.length_map]
            exact Nat.le_trans (List.length_take_le' _ _) lb
          have h4 : (bs.take i).length ≤ 16 := Nat.le_trans (List.length_take_le' _ _) lb
          have h5 : (bs.take i).length * bs.length ≤ 16 * 16 := Nat.mul_le_mul h4 lb
          rw [List.length_append] at h1
          rw [show sizeLine = 16777216 by decide]
          omega
        refine ⟨b2, _, rfl, SqT.of (s2 _ _ hb2), rfl, .int y9, [.int y], rfl, .int y, [], rfl, rfl, rfl, ?_⟩
        refine ⟨.int x, rfl, .int y, rfl, by show 2 ≤ sizeLine; decide, fun t1 nt1 => ?_⟩
        have s3 := same_new (o := .tup [.int x, .int y]) nt1
        have et1 := upd_same (H := H2) (a := t1) (o := .tup [.int x, .int y])
        generalize upd H2 t1 (.tup [.int x, .int y]) = H3 at *
        have s23 := s2.trans s3
        refine ⟨.ref D, rfl, D, _, 0, .ref u0, rfl, rfl, SqL.of (s23 _ _ hD), (show atI (V.ref u0 :: zr) ((0 : Nat) : Int) = some (.ref u0) from atI_nat rfl), t1, u0, t0, x, y, d0.1, d0.2.1, d0.2.2, rfl, et1, s23 _ _ h1, s23 _ _ h2, _, rfl, ?_⟩
        rw [show svI x y d0.1 d0.2.1 d0.2.2 = sv (x, y) d0 from sv_svI (x, y) d0]
        refine ite2 (fun cc => ?_) (fun cc => ?_)
        · refine ⟨.int x, rfl, .int y, rfl, by show 2 ≤ sizeLine; decide, fun t nt => ?_⟩
          have s4 := same_new (o := .tup [.int x, .int y]) nt
          have et4 := upd_same (H := H3) (a := t) (o := .tup [.int x, .int y])
          generalize upd H3 t (.tup [.int x, .int y]) = H4 at *
          have s24 := s23.trans s4
          have eL4 := (s3.trans s4) _ _ eL2
          refine ⟨cs2, eL4, sz, same_off nL s24, _, upd_same, ?_⟩
          rw [step, if_pos cc, ← List.append_assoc]
          exact ((iv2.same (s3.trans s4)).snoc et4).tps (Tps.lst eL4)
        · refine ⟨s23, cs2, s3 _ _ eL2, ?_⟩
          rw [step, if_neg cc, List.append_nil]
          exact iv2.same s3
      · rintro H2 ⟨s2, cs2, eL2, iv2⟩
        refine ⟨s2, cs2, eL2, ?_⟩
        rw [lw, List.take_length] at iv2
        rw [List.take_add_one, ep]
        show Ivs H2 cs2 (candJ (bs.take i ++ [(x, x9)]) bs d0)
        rw [candJ_snoc]
        exact iv2
    rintro H2 ⟨s2, cs, eL, iv⟩
    rw [lw, List.take_length] at iv
    have iv : Ivs H2 cs (candI bs d0) := iv
    obtain ⟨as, rfl, la, at_⟩ := iv.refs
    have dk2 := dk.kept s2
    refine ⟨.ref L, rfl, L, as, fun j => keyO (d0 :: ds) ((candI bs d0).getD j (0, 0)), .ref D, rfl, eL, by rw [la]; exact some1, ct ▸ dk2.tab, rfl, fun H3 but tab3 => ⟨fun j a H4 ea s4 => ?_, fun j a H4 ea low s4 => ?_⟩⟩
    · obtain ⟨q, eq, hq⟩ := at_ j a ea
      have kp4 : Kp d c H2 H4 := Kp.trans (fun b o _ n2 e => but b o (fun z => n2.2 (z.trans ct.symm)) e) (Kp.same s4)
      have tp4 : Tps H H4 := (Tps.same s2).trans (kp4.tps dk2)
      have hD4 : H4 D = some (.lst (V.ref u0 :: zr)) := s4 _ _ (but _ _ (fun z => by
        obtain ⟨ps, h4, _⟩ := dk.tab
        rw [ct, ← z, hD] at h4
        cases h4) (s2 _ _ hD))
      refine ⟨.ref D, rfl, .ref a, rfl, D, a, _, _, q.1, q.2, rfl, hD4, dm.tps tp4, few, kp4.tup dk2 hq, fun H5 E es s5 nE eE dmE => ?_⟩
      have fl := List.length_filter_le (fun d => !sv (q.1, q.2) d) (d0 :: ds)
      refine ⟨E, es, _, rfl, eE, dmE, Nat.le_trans fl ln, Nat.lt_of_le_of_lt fl few, fun H6 p ws6 s6 ep dmp => ?_⟩
      refine ⟨p, ws6, rfl, .inr (SqT.of ep), ?_, s5.trans s6⟩
      rw [dmp.length, lg_same _ (d0 :: ds).length _ (Nat.le_refl _) fl]
      have gd : (candI bs d0).getD j (0, 0) = q := by rw [List.getD_eq_getElem?_getD, eq]; rfl
      show V.int _ = V.int ((keyO (d0 :: ds) ((candI bs d0).getD j (0, 0)) : Nat) : Int)
      rw [gd]
      rfl
    · obtain ⟨q, eq, hq⟩ := at_ j a ea
      have kp4 : Kp d c H2 H4 := Kp.trans (fun b o _ n2 e => but b o (fun z => n2.2 (z.trans ct.symm)) e) (Kp.same s4)
      have am : argm (keyO (d0 :: ds)) (candI bs d0) = some q := argm_low eq fun i z ez => by
        have il := (List.getElem?_eq_some_iff.mp ez).1
        have w := low i (by rw [la]; exact il)
        simp only [List.getD_eq_getElem?_getD, eq, ez, Option.getD_some] at w
        omega
      have pk : pickO bs (d0 :: ds) = q := congrArg (fun o => Option.getD o (0, 0)) am
      refine k H4 a ((Kp.same s2).trans kp4) ((dk2.but (ct ▸ but) (ct ▸ tab3)).kept s4) ?_
      rw [pk]
      exact kp4.tup dk2 hq

/-! ### smallest_solution, solve -/
def witO (ts ps : List (Int × Int)) : List Dem := lg (decO ts ps).length (decO ts ps)
def msD (σ : L2.St) (H : Hp) : Nat := match σ[3]? with
  | some (some (V.ref D)) => (match H D with
    | some (HO.lst zs) => zs.length
    | _ => 0)
  | _ => 0
theorem msD_at {H : Hp} {v0 v1 v2 v4 v5 v6 : Option V} {D : Addr} {zs : List V} (h : H D = some (.lst zs)) : msD [v0, v1, v2, some (.ref D), v4, v5, v6] H = zs.length := by
  show (match H D with | some (.lst zs) => zs.length | _ => 0) = zs.length
  rw [h]
/-- where the loop stands: A found, ds to be served, ps' the pieces with those found -/
structure AtS (ts ps A : List (Int × Int)) (ds : List Dem) : Prop where
  good : Good (ts ++ (ps ++ A))
  blk : blocksOf (ts ++ (ps ++ A)) = blocksOf (ts ++ ps)
  dec : ds = decO ts (ps ++ A)
  run : ∃ m, ds.length ≤ m ∧ A ++ runO (blocksOf (ts ++ ps)) m ds = addO ts ps
theorem AtS.start {ts ps : List (Int × Int)} (g : Good (ts ++ ps)) : AtS ts ps [] (decO ts ps) :=
  ⟨by rw [List.append_nil]; exact g, by rw [List.append_nil], by rw [List.append_nil], _, Nat.le_refl _, rfl⟩
theorem AtS.step {ts ps A : List (Int × Int)} {d : Dem} {ds : List Dem} (h : AtS ts ps A (d :: ds)) : pickO (blocksOf (ts ++ ps)) (d :: ds) ∈ candI (blocksOf (ts ++ ps)) d ∧ sv (pickO (blocksOf (ts ++ ps)) (d :: ds)) d = true ∧
    AtS ts ps (A ++ [pickO (blocksOf (ts ++ ps)) (d :: ds)]) ((d :: ds).filter fun e => !sv (pickO (blocksOf (ts ++ ps)) (d :: ds)) e) := by
  have p := pick_ok h.good h.dec.symm
  rw [h.blk, ← h.dec] at p
  obtain ⟨p1, p2, _⟩ := p
  have s := (mem_cand.mp p1).2.2
  refine ⟨p1, s, ?_⟩
  generalize hq : pickO (blocksOf (ts ++ ps)) (d :: ds) = q at *
  have e1 : ps ++ (A ++ [q]) = (ps ++ A) ++ [q] := (List.append_assoc _ _ _).symm
  obtain ⟨m, m1, m2⟩ := h.run
  refine ⟨by rw [e1]; exact good_snoc h.good p2, ?_, ?_, ?_⟩
  · rw [e1, ← List.append_assoc]
    exact (blocks_fit h.good p2).trans h.blk
  · rw [e1, dec_fit h.good p2, ← h.dec]
  · rw [List.length_cons] at m1
    obtain ⟨n, rfl⟩ : ∃ n, m = n + 1 := ⟨m - 1, by omega⟩
    refine ⟨n, Nat.le_trans (filter_len (by rw [s]; rfl)) (by omega), ?_⟩
    rw [List.append_assoc, ← m2]
    congr 1
    show [q] ++ _ = pickO (blocksOf (ts ++ ps)) (d :: ds) :: runO (blocksOf (ts ++ ps)) n ((d :: ds).filter fun e => !sv (pickO (blocksOf (ts ++ ps)) (d :: ds)) e)
    rw [hq]
    rfl
theorem AtS.fin {ts ps A : List (Int × Int)} (h : AtS ts ps A []) : A = addO ts ps := by
  obtain ⟨m, _, m2⟩ := h.run
  rw [← m2]
  cases m with
  | zero => exact (List.append_nil _).symm
  | succ m => exact (List.append_nil _).symm
/-- the bounds under which the searches end -/
structure SolB (ts ps : List (Int × Int)) : Prop where
  good : Good (ts ++ ps)
  top : ∀ q ∈ ts, q.2 < 10 ^ 13
  lt : ts.length ≤ 30
  fk : FewK (ts ++ ps)
  few : (blocksOf (ts ++ ps)).length ≤ 8
  lg : 8 * ts.length ≤ lgN
  lg1 : lgN < 1000
theorem SolB.dec {ts ps : List (Int × Int)} (B : SolB ts ps) : (decO ts ps).length ≤ lgN := by
  have h1 := decO_len (ts := ts) (ps := ps)
  have h2 := Nat.mul_le_mul B.few (Nat.le_refl ts.length)
  have := B.lg
  omega
theorem need_le_ts {ts ps : List (Int × Int)} (g : Good (ts ++ ps)) : needO ts ps ≤ ts.length := need_of_com g (com_self ts ps)
theorem add_bd {ts ps : List (Int × Int)} (B : SolB ts ps) : (addO ts ps).length ≤ 30 ∧ ∀ q ∈ addO ts ps, (0 ≤ q.1 ∧ q.1 < 10 ^ 13) ∧ 0 ≤ q.2 ∧ q.2 < 10 ^ 13 := by
  have ok := add_ok B.good
  refine ⟨by rw [ok.len]; exact Nat.le_trans (need_le_ts B.good) B.lt, fun q hq => ?_⟩
  obtain ⟨f, t, ht, h1, h2⟩ := ok.inn q hq
  have g := B.good t (List.mem_append_left _ ht)
  have := f.le
  have := B.top t ht
  omega
theorem leP_nd {ps : List (Int × Int)} (h : ps.Pairwise leP) (nd : ps.Nodup) : ps.Pairwise ltP := by
  refine (h.and nd).imp fun {a b} z => ?_
  rcases z.1 with k | ⟨k1, k2⟩
  · exact .inl k
  · refine .inr ⟨k1, ?_⟩
    rcases Int.lt_or_eq_of_le k2 with w | w
    · exact w
    · exact absurd (Prod.ext k1 w) z.2
/-- what solve returns for targets and pieces -/
structure SolH (H : Hp) (r : Addr) (ts ps A : List (Int × Int)) : Prop where
  ex : ∃ (x y : Addr) (zs vs : List V), H r = some (.tup [.ref x, .ref y]) ∧ H x = some (.tup zs) ∧ Ivs H zs A ∧ H y = some (.tup vs) ∧ Dms H vs (witO ts ps)
  perm : A.Perm (addO ts ps)
  asc : A.Pairwise ltP
def sp_smallest (pT : Addr) : Sp := fun vs H Q _ => ∃ (d : Addr) (c : Addr × Addr × Addr) (n : Int) (a b : Addr) (us ws : List V) (ts ps : List (Int × Int)), vs = [.ref a, .ref b] ∧ c.2.2 = pT ∧ Dk H d c n ∧ H a = some (.tup us) ∧ H b = some (.tup ws) ∧ Ivs H us ts ∧ Ivs H ws ps ∧ SolB ts ps ∧
  ∀ H' r A, Kp d c H H' → Dk H' d c n → SolH H' r ts ps A → Q (.ref r) H'
theorem ok_smallest_solution (T : Tx K mg f_depth_changes f_find_blocks f_is_number f_is_position f_is_tuple_of f_is_interval f_is_ascending f_has_position f_contains f_is_demand f_serves f_conflict f_is_independent f_demands_at_blocks f_is_open f_open_demands f_shadow_target f_pieces_inside f_first_gap f_find_missing f_require_few_blocks f_decisive_demands f_largest_independent f_unserved_demands f_helpful_piece f_smallest_solution f_solve f_are_witnesses f_solution_holds f_law_draws f_law_next f_law_one f_law_spans f_law_targets f_law_covers f_law_is_interval f_law_is_demand f_law_rising f_law_served f_law_clash f_law_are_witnesses f_law_solved f_law_bent f_law d_depth_changes d_find_blocks d_is_number d_is_position d_is_tuple_of d_is_interval d_is_ascending d_has_position d_contains d_is_demand d_serves d_conflict d_is_independent d_demands_at_blocks d_is_open d_open_demands d_shadow_target d_pieces_inside d_first_gap d_find_missing d_require_few_blocks d_decisive_demands d_largest_independent d_unserved_demands d_helpful_piece d_smallest_solution d_solve d_are_witnesses d_solution_holds d_law_draws d_law_next d_law_one d_law_spans d_law_targets d_law_covers d_law_is_interval d_law_is_demand d_law_rising d_law_served d_law_clash d_law_are_witnesses d_law_solved d_law_bent d_law t_LAST_POSITION t_MAX_BLOCKS) (hT : TabH base mg d_helpful_piece pT) : FnOk P w K mg base CX0 (lgN+10) f_smallest_solution d_smallest_solution ["targets", "pieces"] (sp_smallest pT) := by
  refine T.F_smallest_solution.ok sc_smallest_solution (fun vs H Q E h => ?_) (fun cdv A outer s H vs Q E hr h => ?_)
  · obtain ⟨d, c, n, a, b, us, ws, ts, ps, rfl, _⟩ := h
    rfl
  · obtain ⟨d, c, n, a, b, us, ws, ts, ps, rfl, ct, dk, ha, hb, ivt, ivp, B, k⟩ := h
    refine ⟨_, (pss_cons (ps_set (i := 2) sc_smallest_solution.nd rfl (Or.inl rfl) (pe_call (ok_find_blocks T) (hr.mono (by decide)) (by rfl) T.g_find_blocks T.F_find_blocks.kp T.b_find_blocks .nil pass0 (pa_cons (pe_op op_catA (pv 0) (pv 1)) pa_nil)))
      (pss_cons (ps_set (i := 3) sc_smallest_solution.nd rfl (Or.inl rfl) (pe_call (ok_decisive_demands T) (hr.mono (by decide)) (by rfl) T.g_decisive_demands T.F_decisive_demands.kp T.b_decisive_demands .nil pass0 (pa_cons (pv 0) (pa_cons (pv 1) pa_nil))))
      (pss_cons (ps_set (i := 4) sc_smallest_solution.nd rfl (Or.inl rfl) (pe_call (ok_largest_independent T) (hr.mono (by decide)) (by rfl) T.g_largest_independent T.F_largest_independent.kp T.b_largest_independent .nil pass0 (pa_cons (pv 3) pa_nil)))
      (pss_cons (ps_set (i := 5) sc_smallest_solution.nd rfl (Or.inl rfl) (pe_lst pa_nil))
      (pss_cons (ps_while PassesOwn.never (pt_truth (pv 3) (by intro _; rfl))
      (pss_cons (ps_set (i := 6) sc_smallest_solution.nd rfl (Or.inl rfl) (pe_call (ok_helpful_piece T hT) (hr.mono (by decide)) (by rfl) T.g_helpful_piece T.F_helpful_piece.kp T.b_helpful_piece .nil pass0 (pa_cons (pv 3) (pa_cons (pv 2) pa_nil))))
      (pss_cons (ps_expr (pe_bm PySem.F.plainAttrs_list PySem.F.slot_list_append PySem.F.type_list_append mt_append (pv 5) (pa_cons (pv 6) pa_nil)))
      (pss_one (ps_set (i := 3) sc_smallest_solution.nd rfl (Or.inl rfl) (pe_call (ok_unserved_demands T) (hr.mono (by decide)) (by rfl) T.g_unserved_demands T.F_unserved_demands.kp T.b_unserved_demands .nil pass0 (pa_cons (pv 3) (pa_cons (pv 6) pa_nil))))))))
      (pss_one (ps_ret (pe_tup (pa_cons (pe_callTy call_tuple_of (by rfl) T.z_tuple (by decide +kernel) (pa_cons (pe_callB (cr_sortT (d := 2) (B := 10 ^ 13) (by decide)) (by rfl) T.z_sorted (by decide +kernel) (pa_cons (pv 5) pa_nil)) pa_nil)) (pa_cons (pv 4) pa_nil)))))))))), ?_⟩
    have lu := ivt.length
    have lw := ivp.length
    have lk := B.fk.le
    rw [List.length_append] at lk
    refine ⟨.ref a, rfl, .ref b, rfl, catA_any ha hb (by rw [show sizeLine = 16777216 by decide]; omega) (fun H1 ab s1 eab => ?_)⟩
    refine ⟨ab, us ++ ws, ts ++ ps, rfl, eab, (ivt.same s1).append (ivp.same s1), B.good, B.fk, fun H2 bl bs s2 ebl ivb => ?_⟩
    have s12 := s1.trans s2
    refine ⟨.ref a, rfl, .ref b, rfl, a, b, us, ws, ts, ps, rfl, s12 _ _ ha, s12 _ _ hb, ivt.same s12, ivp.same s12, B.good, B.lt, B.fk, B.few, fun H3 D zs s3 nD eD dm => ?_⟩
    have offD : Off d c D := (dk.kept s12).off nD
    have s13 := s12.trans s3
    have few := B.lg1
    have ld := B.dec
    refine ⟨.ref D, rfl, D, zs, _, rfl, eD, dm, ld, by omega, fun H4 wi vs4 s4 ewi dmw => ?_⟩
    have s14 := s13.trans s4
    refine ⟨by show 0 ≤ sizeLine; decide, fun l nl => ?_⟩
    have s5 := same_new (o := .lst []) nl
    have el := upd_same (H := H4) (a := l) (o := .lst [])
    generalize upd H4 l (.lst []) = H5 at *
    have dk4 := dk.kept s14
    have dk5 := dk4.kept s5
    have offl : Off d c l := (dk.kept s14).off nl
    have eD5 := s5 _ _ (s4 _ _ eD)
    have lD : l ≠ D := (ne_of_none (s4 _ _ eD) nl).symm
    dsimp only [gName, tSeq]
    refine while_by (fun σ H' => (Kp d c H4 H' ∧ Dk H' d c n) ∧ ∃ (A : List (Int × Int)) (ls : List V) (D' : Addr) (zs' : List V) (ds : List Dem) (y6 : Option V), AtS ts ps A ds ∧ (H' l = some (.lst ls) ∧ Ivs H' ls A) ∧ (H' D' = some (.lst zs') ∧ Dms H' zs' ds ∧ (l ≠ D' ∧ Off d c D') ∧ ds.length ≤ lgN) ∧ σ = [some (.ref a), some (.ref b), some (.ref bl), some (.ref D'), some (.ref wi), some (.ref l), y6]) msD
      ⟨⟨Kp.same s5, dk5⟩, [], [], D, zs, _, _, AtS.start B.good, ⟨el, .nil⟩, ⟨eD5, dm.same (s4.trans s5), ⟨lD, offD⟩, ld⟩, rfl⟩ ?_ ?_
    rotate_left
    · rintro σ H Q Q' imp ⟨v, hv, kk, tr, q⟩
      exact ⟨v, hv, kk, tr, imp _ _ q⟩
    rintro σ H6 ⟨⟨kp6, dk6⟩, A, ls, D', zs', ds, y6, at_, ⟨el6, ivl⟩, ⟨eD6, dm6, ⟨lD6, offD6⟩, ld6⟩, rfl⟩
    rw [msD_at eD6]
    refine ⟨.ref D', rfl, !zs'.isEmpty, .inl ⟨_, SqL.of eD6, rfl⟩, ?_⟩
    have t5 : Tps H H6 := (Tps.same s14).trans (kp6.tps dk4)
    cases ds with
    | nil =>
      cases dm6
      refine iteF ?_
      have eA := at_.fin
      have bd := add_bd B
      have ok := add_ok B.good
      rw [← eA] at bd ok
      refine ⟨.ref l, rfl, ?_⟩
      dsimp only [tNil]
      refine sort_pairs (SqL.of el6) ivl (by omega) bd.2 (fun H7 p us' A' s7 np ep iv' srt pm => ?_)
      refine ⟨p, us', rfl, .inl ⟨SqL.of ep, fun t nt => ?_⟩⟩
      have s8 := same_new (o := .tup us') nt
      have et := upd_same (H := H7) (a := t) (o := .tup us')
      generalize upd H7 t (.tup us') = H8 at *
      have s68 := s7.trans s8
      refine ⟨.ref wi, rfl, by show 2 ≤ sizeLine; decide, fun r nr => ?_⟩
      have s9 := same_new (o := .tup [.ref t, .ref wi]) nr
      have T4 : Tps H4 H6 := kp6.tps dk4
      refine k _ r A' ((Kp.same s14).trans (kp6.trans (Kp.same (s68.trans s9)))) (dk6.kept (s68.trans s9)) ⟨⟨t, wi, us', vs4, upd_same, s9 _ _ et, iv'.same (s8.trans s9), (s68.trans s9) _ _ (T4 _ _ ewi), (dmw.tps T4).same (s68.trans s9)⟩, ?_, leP_nd srt (pm.nodup_iff.mpr ok.nd)⟩
      rw [← eA]
      exact pm
    | cons d0 ds =>
      obtain ⟨v0, zr, rfl⟩ : ∃ v r, zs' = v :: r := by
        cases dm6
        exact ⟨_, _, rfl⟩
      refine iteT ?_
      obtain ⟨pm, ps0, at2⟩ := at_.step
      have lb := B.few
      have ivb6 : Ivs H6 bs (blocksOf (ts ++ ps)) := (ivb.same (s3.trans s4)).tps (kp6.tps dk4)
      refine ⟨.ref D', rfl, .ref bl, rfl, d, c, n, D', bl, _, bs, d0, ds, blocksOf (ts ++ ps), rfl, ct, dk6, eD6, dm6, kp6.tup dk4 ((s3.trans s4) _ _ ebl), ivb6, by omega, ld6, by omega, List.length_pos_of_mem pm, fun H7 r kp7 dk7 er => ?_⟩
      generalize hq : pickO (blocksOf (ts ++ ps)) (d0 :: ds) = q at *
      have el7 := kp7.keep offl el6
      have ivl7 := ivl.tps (kp7.tps dk6)
      have eD7 := kp7.keep offD6 eD6
      have dm7 := dm6.tps (kp7.tps dk6)
      refine ⟨.ref l, rfl, .inl ⟨rfl, _, SqL.of el7⟩, .ref r, rfl, l, ls, _, rfl, rfl, el7, ?_, ?_⟩
      · have h1 := ivl7.length
        have h2 := at2.run
        obtain ⟨m, _, h3⟩ := h2
        have h4 := (add_bd B).1
        rw [← h3, List.length_append, List.length_append] at h4
        exact small1000 (by omega)
      have tl := Tps.lst (vs := ls ++ [V.ref r]) el7
      have dk8 := dk7.upd (o := .lst (ls ++ [V.ref r])) offl
      have kp8 : Kp d c H4 (upd H7 l (.lst (ls ++ [V.ref r]))) := fun b o n1 n2 e => by
        rw [upd_ne (ne_of_none e nl)]
        exact kp7 b o n1 n2 (kp6 b o n1 n2 e)
      have el8 := upd_same (H := H7) (a := l) (o := .lst (ls ++ [V.ref r]))
      have eD8 : upd H7 l (.lst (ls ++ [V.ref r])) D' = some (.lst (v0 :: zr)) := by rw [upd_ne lD6.symm]; exact eD7
      have er8 := tl _ _ er
      have dm8 := dm7.tps tl
      have ivl8 := (ivl7.snoc er).tps tl
      generalize upd H7 l (.lst (ls ++ [V.ref r])) = H8 at *
      have fl : ((d0 :: ds).filter fun e => !sv q e).length ≤ ds.length := filter_len (by rw [ps0]; rfl)
      have lz := dm7.length
      rw [List.length_cons, List.length_cons] at lz
      rw [List.length_cons] at ld6
      refine ⟨.ref D', rfl, .ref r, rfl, D', r, _, _, q.1, q.2, rfl, eD8, dm8, by rw [List.length_cons]; omega, er8, fun H9 E es s9 nE eE dmE => ⟨⟨⟨kp8.trans (Kp.same s9), dk8.kept s9⟩, A ++ [q], ls ++ [.ref r], E, es, _, _, at2, ⟨s9 _ _ el8, ivl8.same s9⟩, ⟨eE, dmE, ⟨(ne_of_none el8 nE), dk8.off nE⟩, by omega⟩, rfl⟩, ?_⟩⟩
      refine Nat.lt_of_le_of_lt (Nat.le_of_eq (msD_at eE)) ?_
      have le : es.length ≤ ds.length := by
        rw [dmE.length]
        exact fl
      rw [List.length_cons]
      omega
def sp_solve (pT : Addr) : Sp := sp_smallest pT
theorem ok_solve (T : Tx K mg f_depth_changes f_find_blocks f_is_number f_is_position f_is_tuple_of f_is_interval f_is_ascending f_has_position f_contains f_is_demand f_serves f_conflict f_is_independent f_demands_at_blocks f_is_open f_open_demands f_shadow_target f_pieces_inside f_first_gap f_find_missing f_require_few_blocks f_decisive_demands f_largest_independent f_unserved_demands f_helpful_piece f_smallest_solution f_solve f_are_witnesses f_solution_holds f_law_draws f_law_next f_law_one f_law_spans f_law_targets f_law_covers f_law_is_interval f_law_is_demand f_law_rising f_law_served f_law_clash f_law_are_witnesses f_law_solved f_law_bent f_law d_depth_changes d_find_blocks d_is_number d_is_position d_is_tuple_of d_is_interval d_is_ascending d_has_position d_contains d_is_demand d_serves d_conflict d_is_independent d_demands_at_blocks d_is_open d_open_demands d_shadow_target d_pieces_inside d_first_gap d_find_missing d_require_few_blocks d_decisive_demands d_largest_independent d_unserved_demands d_helpful_piece d_smallest_solution d_solve d_are_witnesses d_solution_holds d_law_draws d_law_next d_law_one d_law_spans d_law_targets d_law_covers d_law_is_interval d_law_is_demand d_law_rising d_law_served d_law_clash d_law_are_witnesses d_law_solved d_law_bent d_law t_LAST_POSITION t_MAX_BLOCKS) (hT : TabH base mg d_helpful_piece pT) : FnOk P w K mg base CX0 (lgN+11) f_solve d_solve ["targets", "pieces"] (sp_solve pT) := by
  refine T.F_solve.ok sc_solve (fun vs H Q E h => ?_) (fun cdv A outer s H vs Q E hr h => ?_)
  · obtain ⟨d, c, n, a, b, us, ws, ts, ps, rfl, _⟩ := h
    rfl
  · obtain ⟨d, c, n, a, b, us, ws, ts, ps, rfl, ct, dk, ha, hb, ivt, ivp, B, k⟩ := h
    refine ⟨_, (pss_cons (ps_expr (pe_call (ok_require_few_blocks T) (hr.mono (by decide)) (by rfl) T.g_require_few_blocks T.F_require_few_blocks.kp T.b_require_few_blocks .nil pass0 (pa_cons (pe_op op_catA (pv 0) (pv 1)) pa_nil)))
      (pss_one (ps_ret (pe_call (ok_smallest_solution T hT) (hr.mono (by decide)) (by rfl) T.g_smallest_solution T.F_smallest_solution.kp T.b_smallest_solution .nil pass0 (pa_cons (pv 0) (pa_cons (pv 1) pa_nil)))))), ?_⟩
    have lu := ivt.length
    have lw := ivp.length
    have lk := B.fk.le
    rw [List.length_append] at lk
    refine ⟨.ref a, rfl, .ref b, rfl, catA_any ha hb (by rw [show sizeLine = 16777216 by decide]; omega) (fun H1 ab s1 eab => ?_)⟩
    refine ⟨ab, us ++ ws, ts ++ ps, rfl, eab, (ivt.same s1).append (ivp.same s1), B.good, B.fk, B.few, fun H2 s2 => ?_⟩
    have s12 := s1.trans s2
    exact ⟨.ref a, rfl, .ref b, rfl, d, c, n, a, b, us, ws, ts, ps, rfl, ct, dk.kept s12, s12 _ _ ha, s12 _ _ hb, ivt.same s12, ivp.same s12, B, fun H' r A kp dk' sol => k H' r A ((Kp.same s12).trans kp) dk' sol⟩

theorem shaped_pairs (ps : List (Int × Int)) : SeqAt.shaped (.tuple (ps.map pairD)) = true := by
  have h1 : ∀ ps : List (Int × Int), PyData.canLayAll0 (ps.map pairD) = true := by
    intro ps
    induction ps with
    | nil => rfl
    | cons n r ih => exact ih
  have h2 : ∀ ps : List (Int × Int), PyData.depthAll (ps.map pairD) ≤ 1 := by
    intro ps
    induction ps with
    | nil => exact Nat.zero_le _
    | cons n r ih =>
      show max 1 (PyData.depthAll (r.map pairD)) ≤ 1
      omega
  unfold SeqAt.shaped
  rw [show PyData.canLay0 (.tuple (ps.map pairD)) = PyData.canLayAll0 (ps.map pairD) from rfl, h1 ps]
  show decide (PyData.depthAll (ps.map pairD) + 1 ≤ 64) = true
  exact decide_eq_true (by have := h2 ps; omega)
theorem eqv_self (ps : List (Int × Int)) : PyData.eqv (.tuple (ps.map pairD)) (.tuple (ps.map pairD)) = true := by
  show PyData.eqvAll (ps.map pairD) (ps.map pairD) = true
  induction ps with
  | nil => rfl
  | cons q r ih =>
    show (((q.1 == q.1) && ((q.2 == q.2) && true)) && PyData.eqvAll (r.map pairD) (r.map pairD)) = true
    rw [ih, beq_self_eq_true, beq_self_eq_true]
    rfl

/-! ### <, >= of data at any depth that are alike -/
section
variable {X : Cx}
def rGeDt (K : PySem.W.Frag) : R2 := fun x y H Q => ∃ d e, Dp K H x d ∧ Dp K H y e ∧ PySem.W.alike d e = true ∧ d ≠ .none ∧ d.depth ≤ 60 ∧ Q (.bl (!PySem.W.dataLt d e)) H
def rLtDt (K : PySem.W.Frag) : R2 := fun x y H Q => ∃ d e, Dp K H x d ∧ Dp K H y e ∧ PySem.W.alike d e = true ∧ d ≠ .none ∧ d.depth ≤ 60 ∧ Q (.bl (PySem.W.dataLt d e)) H
theorem op_geDt (hu : X.A.units + 64 < cLine) : OpR X (compareOp .GtE) (rGeDt X.K) := by
  intro pins s σ H x y v u Q I rx ry ⟨d, e, hd, he, al, nn, dp, q⟩
  obtain ⟨as, r1⟩ := Dp.reads I d x v hd rx
  obtain ⟨bs, r2⟩ := Dp.reads I e y u he ry
  exact PySem.W.ge_data r1 r2 al nn (by omega) ⟨.bl _, H, I, rfl, q⟩
theorem op_ltDt (hu : X.A.units + 64 < cLine) : OpR X (compareOp .Lt) (rLtDt X.K) := by
  intro pins s σ H x y v u Q I rx ry ⟨d, e, hd, he, al, nn, dp, q⟩
  obtain ⟨as, r1⟩ := Dp.reads I d x v hd rx
  obtain ⟨bs, r2⟩ := Dp.reads I e y u he ry
  exact PySem.W.lt_data r1 r2 al nn (by omega) ⟨.bl _, H, I, rfl, q⟩
end
theorem dlt_first {x u : Int} (h : x < u) (r s : List PyData) : PySem.W.dataLt (.tuple (.int x :: r)) (.tuple (.int u :: s)) = true := by
  have e : PyData.eqv (.int x) (.int u) = false := by
    show (x == u) = false
    rw [beq_eq_false_iff_ne]
    omega
  rw [PySem.W.dataLt_tuple, PySem.W.dataLt_all_no rfl e, PySem.W.dataLt_int]
  exact decide_eq_true h
theorem dlt_second {x y v : Int} (h : y < v) : PySem.W.dataLt (.tuple [.int x, .int y]) (.tuple [.int x, .int v]) = true := by
  have e1 : PyData.eqv (.int x) (.int x) = true := by
    show (x == x) = true
    exact beq_self_eq_true x
  have e : PyData.eqv (.int y) (.int v) = false := by
    show (y == v) = false
    rw [beq_eq_false_iff_ne]
    omega
  rw [PySem.W.dataLt_tuple, PySem.W.dataLt_all_yes rfl e1, PySem.W.dataLt_all_no rfl e, PySem.W.dataLt_int]
  exact decide_eq_true h
theorem dlt_pair {p q : Int × Int} (h : ltP p q) : PySem.W.dataLt (pairD p) (pairD q) = true := by
  rcases h with h | ⟨h1, h2⟩
  · exact dlt_first h _ _
  · unfold pairD
    rw [h1]
    exact dlt_second h2
/-! ### for i, x in enumerate(t) -/
theorem for_enumT {K : PySem.W.Frag} {a : Addr} {xs : List V} {g : TG} {tb : TS} {D : Ends} {σ : L2.St} {H : Hp} (Pv : Nat → L2.St → Hp → Prop) (h0 : Pv 0 σ H) (hq : ∀ i σ H, Pv i σ H → SqT K H a xs)
    (hs : ∀ (i : Nat) (x : V) (t : Addr) (σ : L2.St) (H : Hp), xs[i]? = some x → Pv i σ H → H t = none → g (.ref t) σ (upd H t (.tup [.int (i : Nat), x])) fun σ2 H2 => tb { D with nx := Pv (i + 1), ct := Pv (i + 1), bk := D.nx } σ2 H2) (hd : ∀ σ H, Pv xs.length σ H → D.nx σ H) :
    ∃ W : Nat → Nat → L2.St → Hp → Prop, (∃ m, W 0 m σ H) ∧ ∀ i m σ H, W i m σ H →
      ((IteT K a xs.length).stop i H ∧ D.nx σ H) ∨ ((IteT K a xs.length).go i H ∧ ∃ N : L2.St → Hp → Prop, (∀ σ' H', N σ' H' → ∃ m', m' < m ∧ W (i + 1) m' σ' H') ∧ ∀ v H', (IteT K a xs.length).yld i H v H' → g v σ H' fun σ2 H2 => tb { D with nx := N, ct := N, bk := D.nx } σ2 H2) := by
  refine ⟨fun i m σ H => i + m = xs.length ∧ Pv i σ H, ⟨xs.length, by omega, h0⟩, ?_⟩
  rintro i m σ H ⟨im, p⟩
  have hx := hq i σ H p
  by_cases c : i < xs.length
  · refine .inr ⟨⟨xs, xs[i], hx, List.getElem?_eq_getElem c, rfl⟩, Pv (i + 1), fun σ' H' p' => ⟨m - 1, by omega, by omega, p'⟩, ?_⟩
    rintro v H' ⟨t, x, rfl, nt, rfl, at_⟩
    exact hs i x t σ H (at_ xs hx) p nt
  · refine .inl ⟨⟨xs, hx, rfl, by omega⟩, hd σ H ?_⟩
    have : i = xs.length := by omega
    rw [← this]
    exact p

/-! ### the first gap of a target -/
def covI (ps : List (Int × Int)) (lo hi p : Int) : Prop := ∃ q ∈ ps, (lo ≤ q.1 ∧ q.2 ≤ hi) ∧ q.1 ≤ p ∧ p ≤ q.2
def IsGap (ps : List (Int × Int)) (lo hi : Int) : Option Int → Prop
  | none => ∀ p, lo ≤ p → p ≤ hi → covI ps lo hi p
  | some g => (lo ≤ g ∧ g ≤ hi) ∧ ¬ covI ps lo hi g ∧ ∀ p, lo ≤ p → p < g → covI ps lo hi p
theorem IsGap.uniq {ps : List (Int × Int)} {lo hi : Int} : ∀ {o o' : Option Int}, IsGap ps lo hi o → IsGap ps lo hi o' → o = o'
  | none, none, _, _ => rfl
  | none, some g, h, h' => absurd (h g h'.1.1 h'.1.2) h'.2.1
  | some g, none, h, h' => absurd (h' g h.1.1 h.1.2) h.2.1
  | some g, some g', h, h' => by
    rcases Int.lt_trichotomy g g' with z | z | z
    · exact absurd (h'.2.2 g h.1.1 z) h.2.1
    · rw [z]
    · exact absurd (h.2.2 g' h'.1.1 z) h'.2.1
noncomputable def gapO (ps : List (Int × Int)) (q : Int × Int) : Option Int := by
  classical
  exact if h : ∃ o, IsGap ps q.1 q.2 o then Classical.choose h else none
theorem gapO_eq {ps : List (Int × Int)} {q : Int × Int} {o : Option Int} (h : IsGap ps q.1 q.2 o) : gapO ps q = o := by
  unfold gapO
  rw [dif_pos ⟨o, h⟩]
  exact IsGap.uniq (Classical.choose_spec ⟨o, h⟩) h
def gv : Option Int → V
  | none => .non
  | some g => .int g
/-- pieces: pairs of positions in order -/
def Pc (ps : List (Int × Int)) : Prop := ∀ q ∈ ps, (0 ≤ q.1 ∧ q.1 ≤ q.2) ∧ q.2 < 10 ^ 13
def sp_pieces_inside : Sp := fun vs H Q _ => ∃ (a t : Addr) (us : List V) (ps : List (Int × Int)) (lo hi : Int), vs = [.ref a, .ref t] ∧ H a = some (.tup us) ∧ Ivs H us ps ∧ ps.length < 1000 ∧ H t = some (.tup [.int lo, .int hi]) ∧
  ∀ H' p ws, Same H H' → H' p = some (.lst ws) → Ivs H' ws (ps.filter fun q => inI lo hi q.1 q.2) → Q (.ref p) H'
theorem ok_pieces_inside (T : Tx K mg f_depth_changes f_find_blocks f_is_number f_is_position f_is_tuple_of f_is_interval f_is_ascending f_has_position f_contains f_is_demand f_serves f_conflict f_is_independent f_demands_at_blocks f_is_open f_open_demands f_shadow_target f_pieces_inside f_first_gap f_find_missing f_require_few_blocks f_decisive_demands f_largest_independent f_unserved_demands f_helpful_piece f_smallest_solution f_solve f_are_witnesses f_solution_holds f_law_draws f_law_next f_law_one f_law_spans f_law_targets f_law_covers f_law_is_interval f_law_is_demand f_law_rising f_law_served f_law_clash f_law_are_witnesses f_law_solved f_law_bent f_law d_depth_changes d_find_blocks d_is_number d_is_position d_is_tuple_of d_is_interval d_is_ascending d_has_position d_contains d_is_demand d_serves d_conflict d_is_independent d_demands_at_blocks d_is_open d_open_demands d_shadow_target d_pieces_inside d_first_gap d_find_missing d_require_few_blocks d_decisive_demands d_largest_independent d_unserved_demands d_helpful_piece d_smallest_solution d_solve d_are_witnesses d_solution_holds d_law_draws d_law_next d_law_one d_law_spans d_law_targets d_law_covers d_law_is_interval d_law_is_demand d_law_rising d_law_served d_law_clash d_law_are_witnesses d_law_solved d_law_bent d_law t_LAST_POSITION t_MAX_BLOCKS) : FnOk P w K mg base CX0 2 f_pieces_inside d_pieces_inside ["pieces", "target"] sp_pieces_inside := by
  refine T.F_pieces_inside.ok sc_pieces_inside (fun vs H Q E h => ?_) (fun cdv A outer s H vs Q E hr h => ?_)
  · obtain ⟨a, t, us, ps, lo, hi, rfl, _⟩ := h
    rfl
  · obtain ⟨a, t, us, ps, lo, hi, rfl, ha, iv, few, ht, q⟩ := h
    have lu := iv.length
    refine ⟨_, (pss_one (ps_ret (pe_lc (own := [("piece", 2)]) (g := (gName 2)) (by rfl) sc_pieces_inside.nd (pi_tup (pv 0)) (blkOk_by (own := [("piece", 2)]) (N := N_pieces_inside) (sc := defScope s_pieces_inside) (by decide +kernel)) (fun _ _ _ _ _ => (pg_name (i := 2) sc_pieces_inside.nd rfl (Or.inl rfl))) (fun _ _ _ _ _ => pts_one (pt_val (pe_call (ok_contains T) (hr.mono (by decide)) (by rfl) T.g_contains T.F_contains.kp T.b_contains .nil pass0 (pa_cons (pv 1) (pa_cons (pv 2) pa_nil))))) (fun _ _ _ _ _ => (pv 2))))), ?_⟩
    refine ⟨.ref a, rfl, a, rfl, ⟨_, SqT.of ha⟩, fun D nD => ?_⟩
    refine lcT (K := K) (a := a) (xs := us) (fun j H' ws => Ivs H' ws ((ps.take j).filter fun q => inI lo hi q.1 q.2)) nD (fun H' s => SqT.of (s _ _ ha)) (by omega) (fun _ _ _ _ t r => r.tps t) (fun j H' ws r => ?_) (fun _ => .nil) ?_ ?_
    · rw [r.length]
      exact Nat.le_trans (List.length_filter_le _ _) (List.length_take_le _ _)
    · rintro j z H' N acc hj sj eA sz r no yes
      obtain ⟨b, x, y, rfl, exy, hb⟩ := iv.get hj
      refine ⟨rfl, .ref t, rfl, .ref b, rfl, t, b, lo, hi, x, y, rfl, sj _ _ ht, sj _ _ hb, _, rfl, ite2 (fun c => ?_) (fun c => ?_)⟩
      · refine ⟨.ref b, rfl, yes H' _ (Same.refl _) ?_⟩
        rw [take_filter exy, if_pos c]
        exact r.snoc (sj _ _ hb)
      · refine no H' (Same.refl _) ?_
        rw [take_filter exy, if_neg c, List.append_nil]
        exact r
    · intro H' ws s' eD r
      rw [lu, List.take_length] at r
      exact q H' D ws s' eD r
theorem mem_inI {ps : List (Int × Int)} {lo hi : Int} {q : Int × Int} : q ∈ (ps.filter fun q => inI lo hi q.1 q.2) ↔ q ∈ ps ∧ lo ≤ q.1 ∧ q.2 ≤ hi := by
  rw [List.mem_filter]
  unfold inI
  simp only [Bool.and_eq_true, decide_eq_true_eq]
def sp_first_gap : Sp := fun vs H Q _ => ∃ (a t : Addr) (us : List V) (ps : List (Int × Int)) (lo hi : Int), vs = [.ref a, .ref t] ∧ H a = some (.tup us) ∧ Ivs H us ps ∧ Pc ps ∧ ps.length ≤ 63 ∧ H t = some (.tup [.int lo, .int hi]) ∧ lo ≤ hi ∧
  ∀ H', Same H H' → Q (gv (gapO ps (lo, hi))) H'
theorem ok_first_gap (T : Tx K mg f_depth_changes f_find_blocks f_is_number f_is_position f_is_tuple_of f_is_interval f_is_ascending f_has_position f_contains f_is_demand f_serves f_conflict f_is_independent f_demands_at_blocks f_is_open f_open_demands f_shadow_target f_pieces_inside f_first_gap f_find_missing f_require_few_blocks f_decisive_demands f_largest_independent f_unserved_demands f_helpful_piece f_smallest_solution f_solve f_are_witnesses f_solution_holds f_law_draws f_law_next f_law_one f_law_spans f_law_targets f_law_covers f_law_is_interval f_law_is_demand f_law_rising f_law_served f_law_clash f_law_are_witnesses f_law_solved f_law_bent f_law d_depth_changes d_find_blocks d_is_number d_is_position d_is_tuple_of d_is_interval d_is_ascending d_has_position d_contains d_is_demand d_serves d_conflict d_is_independent d_demands_at_blocks d_is_open d_open_demands d_shadow_target d_pieces_inside d_first_gap d_find_missing d_require_few_blocks d_decisive_demands d_largest_independent d_unserved_demands d_helpful_piece d_smallest_solution d_solve d_are_witnesses d_solution_holds d_law_draws d_law_next d_law_one d_law_spans d_law_targets d_law_covers d_law_is_interval d_law_is_demand d_law_rising d_law_served d_law_clash d_law_are_witnesses d_law_solved d_law_bent d_law t_LAST_POSITION t_MAX_BLOCKS) : FnOk P w K mg base CX0 3 f_first_gap d_first_gap ["pieces", "target"] sp_first_gap := by
  refine T.F_first_gap.ok sc_first_gap (fun vs H Q E h => ?_) (fun cdv A outer s H vs Q E hr h => ?_)
  · obtain ⟨a, t, us, ps, lo, hi, rfl, _⟩ := h
    rfl
  · obtain ⟨a, t, us, ps, lo, hi, rfl, ha, iv, pc, few, ht, lh, q⟩ := h
    refine ⟨_, (pss_cons (ps_asg (pv 1) (pg_tup rfl (pgs_cons (pg_name (i := 2) sc_first_gap.nd rfl (Or.inl rfl)) (pgs_cons (pg_name (i := 3) sc_first_gap.nd rfl (Or.inl rfl)) pgs_nil))))
      (pss_cons (ps_for PassesOwn.never rfl (pi_list (pe_callB (cr_sortT (d := 2) (B := 10 ^ 13) (by decide)) (by rfl) T.z_sorted (by decide +kernel) (pa_cons (pe_call (ok_pieces_inside T) (hr.mono (by decide)) (by rfl) T.g_pieces_inside T.F_pieces_inside.kp T.b_pieces_inside .nil pass0 (pa_cons (pv 0) (pa_cons (pv 1) pa_nil))) pa_nil))) (pg_tup rfl (pgs_cons (pg_name (i := 4) sc_first_gap.nd rfl (Or.inl rfl)) (pgs_cons (pg_name (i := 5) sc_first_gap.nd rfl (Or.inl rfl)) pgs_nil)))
      (pss_cons (ps_if (pt_cmpR op_gt (pv 4) (pv 2) (nomark _))
      (pss_one (ps_ret (pv 2)))
      pss_nil)
      (pss_one (ps_set (i := 2) sc_first_gap.nd rfl (Or.inl rfl) (pe_callB (call_max2 rfl) (by rfl) T.z_max (by decide +kernel) (pa_cons (pv 2) (pa_cons (pe_op op_add (pv 5) pe_int) pa_nil)))))))
      (pss_one (ps_ret (pe_ifExp (pt_cmpR op_le (pv 2) (pv 3) (nomark _)) (pv 2) pe_non))))), ?_⟩
    refine ⟨.ref t, rfl, t, _, rfl, SqT.of ht, rfl, .int lo, [.int hi], rfl, .int hi, [], rfl, rfl, ?_⟩
    refine ⟨.ref a, rfl, .ref t, rfl, a, t, us, ps, lo, hi, rfl, ha, iv, by omega, ht, fun H1 p ws s1 ep iv1 => ?_⟩
    obtain ⟨fs, efs⟩ : ∃ fs, fs = ps.filter fun q => inI lo hi q.1 q.2 := ⟨_, rfl⟩
    have mf : ∀ q, q ∈ fs ↔ q ∈ ps ∧ lo ≤ q.1 ∧ q.2 ≤ hi := fun q => by
      rw [efs]
      exact mem_inI
    have lf : fs.length ≤ ps.length := by
      rw [efs]
      exact List.length_filter_le _ _
    rw [← efs] at iv1
    have lw := iv1.length
    have bdp : ∀ q ∈ fs, TS.Bd (10 ^ 13) [q.1, q.2] := fun q hq m hm => by
      have z := pc q ((mf q).mp hq).1
      rcases List.mem_cons.mp hm with rfl | hm
      · exact ⟨z.1.1, Int.lt_of_le_of_lt z.1.2 z.2⟩
      · rw [List.mem_singleton.mp hm]
        exact ⟨Int.le_trans z.1.1 z.1.2, z.2⟩
    refine ⟨p, ws, rfl, SqL.of ep, by omega, fun x hx => ?_, fun ys p2 pm pw np2 => ?_⟩
    · obtain ⟨b, qq, hqq, e, eb⟩ := iv1.mem hx
      exact ⟨[qq.1, qq.2], ⟨b, e, SqT.of eb⟩, rfl, bdp qq hqq⟩
    obtain ⟨gs, ivg, pmg⟩ := Ivs.perm pm iv1
    have mg : ∀ q, q ∈ gs ↔ q ∈ ps ∧ lo ≤ q.1 ∧ q.2 ≤ hi := fun q => by rw [pmg.mem_iff, mf]
    have asc : gs.Pairwise (fun a b => a.1 ≤ b.1) := by
      have z : gs.Pairwise (fun a b => TS.code (10 ^ 13) [a.1, a.2] ≤ TS.code (10 ^ 13) [b.1, b.2]) := Ivs.pair (S := fun a b => TS.code (10 ^ 13) [a.1, a.2] ≤ TS.code (10 ^ 13) [b.1, b.2]) (fun a b x y u v ea eb h => h [x, y] [u, v] ⟨a, rfl, SqT.of ea⟩ ⟨b, rfl, SqT.of eb⟩) ivg pw
      refine z.imp_of_mem fun {x y} hx hy h => ?_
      exact code_first (bdp x (pmg.mem_iff.mp hx)) (bdp y (pmg.mem_iff.mp hy)) h
    have s2 := same_new (o := .lst ys) np2
    have ep2 := upd_same (H := H1) (a := p2) (o := .lst ys)
    replace ivg := ivg.same s2
    generalize upd H1 p2 (.lst ys) = H2 at *
    have lg := ivg.length
    refine ⟨p2, rfl, ⟨_, SqL.of ep2⟩, for_list (K := K) (a := p2) (xs := ys) (fun i σ H' => H' = H2 ∧ ∃ (pos : Int) (y4 y5 : Option V), (lo ≤ pos ∧ pos ≤ hi + 1) ∧ (∀ z, lo ≤ z → z < pos → covI ps lo hi z) ∧ (∀ q ∈ gs.take i, q.2 < pos) ∧ σ = [some (.ref a), some (.ref t), some (.int pos), some (.int hi), y4, y5])
      ⟨rfl, lo, _, _, by omega, (fun z h1 h2 => absurd h1 (by omega)), (fun q hq => nomatch hq), rfl⟩ (fun i σ H' _ h => by rw [h.1]; exact SqL.of ep2) ?_ ?_⟩
    · rintro i v σ H' hi2 ⟨rfl, pos, y4, y5, b1, cv, dn, rfl⟩
      obtain ⟨b, x, y, rfl, exy, hb⟩ := ivg.get hi2
      have inq := (mg (x, y)).mp (List.mem_of_getElem? exy)
      have pq := pc _ inq.1
      simp only at inq pq
      refine ⟨b, _, rfl, SqT.of hb, rfl, .int x, [.int y], rfl, .int y, [], rfl, rfl, ?_⟩
      refine ⟨.int x, rfl, .int pos, rfl, _, _, rfl, rfl, _, rfl, ite2 (fun c => ?_) (fun c => ?_)⟩
      · have c := of_decide_eq_true c
        refine ⟨.int pos, rfl, ?_⟩
        have g : IsGap ps lo hi (some pos) := by
          refine ⟨by omega, fun ⟨q, hq, hin, h1, h2⟩ => ?_, cv⟩
          obtain ⟨j, ej⟩ := List.getElem?_of_mem ((mg q).mpr ⟨hq, hin⟩)
          rcases Nat.lt_or_ge j i with z | z
          · have := dn q (List.mem_of_getElem? (show (gs.take i)[j]? = some q by rw [List.getElem?_take_of_lt z]; exact ej))
            omega
          · have : x ≤ q.1 := by
              obtain ⟨hj', rfl⟩ := List.getElem?_eq_some_iff.mp ej
              obtain ⟨hi', e'⟩ := List.getElem?_eq_some_iff.mp exy
              rcases Nat.eq_or_lt_of_le z with z | z
              · subst z
                rw [e']
                exact Int.le_refl _
              · have := List.pairwise_iff_getElem.mp asc i j hi' hj' z
                rw [e'] at this
                exact this
            omega
        have z := q _ (s1.trans s2)
        rw [gapO_eq (q := (lo, hi)) g] at z
        exact z
      · have c : ¬ (pos < x) := fun z => c (decide_eq_true z)
        refine ⟨.int pos, rfl, .int y, rfl, _, _, rfl, rfl, _, _, rfl, rfl, mxI pos (y + 1), _, _, ?_, fun z h1 h2 => ?_, fun q hq => ?_, rfl⟩
        · unfold mxI
          split <;> omega
        · rcases Int.lt_or_le z pos with h | h
          · exact cv z h1 h
          · refine ⟨(x, y), inq.1, inq.2, ?_, ?_⟩
            · show x ≤ z
              omega
            · show z ≤ y
              unfold mxI at h2
              split at h2 <;> omega
        · rw [List.take_add_one, exy] at hq
          have m1 : pos ≤ mxI pos (y + 1) ∧ y + 1 ≤ mxI pos (y + 1) := by
            unfold mxI
            split <;> omega
          rcases List.mem_append.mp hq with hq | hq
          · have := dn q hq
            omega
          · rw [List.mem_singleton.mp hq]
            show y < _
            omega
    · rintro σ H' ⟨rfl, pos, y4, y5, b1, cv, dn, rfl⟩
      rw [lg, List.take_length] at dn
      have z := q _ (s1.trans s2)
      refine ⟨.int pos, rfl, .int hi, rfl, _, _, rfl, rfl, _, rfl, ite2 (fun c => ?_) (fun c => ?_)⟩
      · have c := of_decide_eq_true c
        have g : IsGap ps lo hi (some pos) := by
          refine ⟨by omega, fun ⟨q, hq, hin, h1, h2⟩ => ?_, cv⟩
          have := dn q ((mg q).mpr ⟨hq, hin⟩)
          omega
        rw [gapO_eq (q := (lo, hi)) g] at z
        exact ⟨.int pos, rfl, z⟩
      · have c : ¬ (pos ≤ hi) := fun z => c (decide_eq_true z)
        have g : IsGap ps lo hi none := fun p h1 h2 => cv p h1 (by omega)
        rw [gapO_eq (q := (lo, hi)) g] at z
        exact z

/-! ### the first missing demand -/
theorem iteND {c A B : Prop} [Decidable c] (hc : ¬ c) (h : A) : if (!decide c) = true then A else B := by
  rw [decide_eq_false hc]
  exact iteT h
theorem gap_upto (ps : List (Int × Int)) (lo hi : Int) : ∀ k : Nat, (∀ p, lo ≤ p → p < lo + k → covI ps lo hi p) ∨ ∃ g, (lo ≤ g ∧ g < lo + k) ∧ ¬ covI ps lo hi g ∧ ∀ p, lo ≤ p → p < g → covI ps lo hi p
  | 0 => .inl fun p h1 h2 => absurd h1 (by omega)
  | k + 1 => by
    rcases gap_upto ps lo hi k with h | ⟨g, h1, h2⟩
    · by_cases c : covI ps lo hi (lo + k)
      · refine .inl fun p h1 h2 => ?_
        rcases Int.lt_or_le p (lo + k) with z | z
        · exact h p h1 z
        · have : p = lo + k := by omega
          rw [this]
          exact c
      · exact .inr ⟨lo + k, by omega, c, fun p h1 h2 => h p h1 h2⟩
    · exact .inr ⟨g, by omega, h2⟩
theorem gapO_spec (ps : List (Int × Int)) (q : Int × Int) : IsGap ps q.1 q.2 (gapO ps q) := by
  have ex : ∃ o, IsGap ps q.1 q.2 o := by
    rcases gap_upto ps q.1 q.2 (q.2 + 1 - q.1).toNat with h | ⟨g, h1, h2, h3⟩
    · exact ⟨none, fun p h1 h2 => h p h1 (by omega)⟩
    · exact ⟨some g, ⟨h1.1, by omega⟩, h2, h3⟩
  obtain ⟨o, h⟩ := ex
  rw [gapO_eq h]
  exact h
noncomputable def misF (ps : List (Int × Int)) (t : Int × Int) : Option (Int × Int × Int) := (gapO ps t).map fun g => (g, t.1, t.2)
noncomputable def missO (ps ts : List (Int × Int)) : Option (Int × Int × Int) := ts.findSome? (misF ps)
theorem miss_step {f : Int × Int → Option (Int × Int × Int)} {ps : List (Int × Int)} {i : Nat} {q : Int × Int} (e : ps[i]? = some q) : (ps.drop i).findSome? f = match f q with
    | some r => some r
    | none => (ps.drop (i + 1)).findSome? f := by
  obtain ⟨hi, rfl⟩ := List.getElem?_eq_some_iff.mp e
  rw [List.drop_eq_getElem_cons hi, List.findSome?_cons]
  cases f ps[i] <;> rfl
theorem missO_some {ps ts : List (Int × Int)} {g lo hi : Int} (h : missO ps ts = some (g, lo, hi)) : (lo, hi) ∈ ts ∧ gapO ps (lo, hi) = some g := by
  unfold missO at h
  obtain ⟨t, ht, e⟩ := List.exists_of_findSome?_eq_some h
  unfold misF at e
  obtain ⟨g', e1, e2⟩ := Option.map_eq_some_iff.mp e
  cases e2
  exact ⟨ht, e1⟩
theorem missO_none {ps ts : List (Int × Int)} : missO ps ts = none ↔ ∀ t ∈ ts, gapO ps t = none := by
  unfold missO misF
  rw [List.findSome?_eq_none_iff]
  constructor
  · intro h t ht
    have z := h t ht
    rw [Option.map_eq_none_iff] at z
    exact z
  · intro h t ht
    rw [h t ht]
    rfl
theorem gap_self {ps : List (Int × Int)} {t : Int × Int} (h : t ∈ ps) : gapO ps t = none := gapO_eq (show IsGap ps t.1 t.2 none from fun p h1 h2 => ⟨t, h, ⟨Int.le_refl _, Int.le_refl _⟩, h1, h2⟩)
def demD : Option (Int × Int × Int) → PyData
  | none => .none
  | some (g, lo, hi) => .tuple [.int g, .tuple [.int lo, .int hi]]
def DV (H : Hp) (v : V) : Option (Int × Int × Int) → Prop
  | none => v = .non
  | some (g, lo, hi) => ∃ u t, v = .ref u ∧ H u = some (.tup [.int g, .ref t]) ∧ H t = some (.tup [.int lo, .int hi])
theorem DV.tps {H H' : Hp} (s : Tps H H') {v : V} {o : Option (Int × Int × Int)} (h : DV H v o) : DV H' v o := by
  match o, h with
  | none, h => exact h
  | some (g, lo, hi), h =>
    obtain ⟨u, t, e, e1, e2⟩ := h
    exact ⟨u, t, e, s _ _ e1, s _ _ e2⟩
theorem DV.dp {K : PySem.W.Frag} {H : Hp} {v : V} {o : Option (Int × Int × Int)} (h : DV H v o) : Dp K H v (demD o) := by
  match o, h with
  | none, h =>
    cases h
    exact .non
  | some (g, lo, hi), h =>
    obtain ⟨u, t, e, e1, e2⟩ := h
    subst e
    exact .tup (SqT.of e1) (.cons (.int g) (.cons (dp2 e2) .nil))
theorem sm_dem {o : Option (Int × Int × Int)} (h : ∀ g lo hi, o = some (g, lo, hi) → g.natAbs < 10 ^ 30 ∧ lo.natAbs < 10 ^ 30 ∧ hi.natAbs < 10 ^ 30) : Sm 406 2 (demD o) := by
  match o, h with
  | none, _ => exact Sm.none.mono (by decide) (by decide)
  | some (g, lo, hi), h =>
    obtain ⟨h1, h2, h3⟩ := h g lo hi rfl
    exact Sm.tup (n := 202) (dp := 1) (ds := [.int g, .tuple [.int lo, .int hi]]) (fun d hd => by
      rcases List.mem_cons.mp hd with rfl | hd
      · exact (Sm.int h1).mono (by decide) (by decide)
      · rcases List.mem_cons.mp hd with rfl | hd
        · exact sm2 h2 h3
        · cases hd)
def Tg (ts : List (Int × Int)) : Prop := ∀ t ∈ ts, t.1 ≤ t.2
def sp_find_missing : Sp := fun vs H Q _ => ∃ (a b : Addr) (tus us : List V) (ts ps : List (Int × Int)), vs = [.ref a, .ref b] ∧ H a = some (.tup tus) ∧ Ivs H tus ts ∧ Tg ts ∧ H b = some (.tup us) ∧ Ivs H us ps ∧ Pc ps ∧ ps.length ≤ 63 ∧
  ∀ H' r, Same H H' → DV H' r (missO ps ts) → Q r H'
theorem ok_find_missing (T : Tx K mg f_depth_changes f_find_blocks f_is_number f_is_position f_is_tuple_of f_is_interval f_is_ascending f_has_position f_contains f_is_demand f_serves f_conflict f_is_independent f_demands_at_blocks f_is_open f_open_demands f_shadow_target f_pieces_inside f_first_gap f_find_missing f_require_few_blocks f_decisive_demands f_largest_independent f_unserved_demands f_helpful_piece f_smallest_solution f_solve f_are_witnesses f_solution_holds f_law_draws f_law_next f_law_one f_law_spans f_law_targets f_law_covers f_law_is_interval f_law_is_demand f_law_rising f_law_served f_law_clash f_law_are_witnesses f_law_solved f_law_bent f_law d_depth_changes d_find_blocks d_is_number d_is_position d_is_tuple_of d_is_interval d_is_ascending d_has_position d_contains d_is_demand d_serves d_conflict d_is_independent d_demands_at_blocks d_is_open d_open_demands d_shadow_target d_pieces_inside d_first_gap d_find_missing d_require_few_blocks d_decisive_demands d_largest_independent d_unserved_demands d_helpful_piece d_smallest_solution d_solve d_are_witnesses d_solution_holds d_law_draws d_law_next d_law_one d_law_spans d_law_targets d_law_covers d_law_is_interval d_law_is_demand d_law_rising d_law_served d_law_clash d_law_are_witnesses d_law_solved d_law_bent d_law t_LAST_POSITION t_MAX_BLOCKS) : FnOk P w K mg base CX0 4 f_find_missing d_find_missing ["targets", "pieces"] sp_find_missing := by
  refine T.F_find_missing.ok sc_find_missing (fun vs H Q E h => ?_) (fun cdv A outer s H vs Q E hr h => ?_)
  · obtain ⟨a, b, tus, us, ts, ps, rfl, _⟩ := h
    rfl
  · obtain ⟨a, b, tus, us, ts, ps, rfl, ha, tiv, tg, hb, iv, pc, few, q⟩ := h
    refine ⟨_, (pss_cons (ps_for PassesOwn.never rfl (pi_tup (pv 0)) (pg_name (i := 2) sc_find_missing.nd rfl (Or.inl rfl))
      (pss_cons (ps_set (i := 3) sc_find_missing.nd rfl (Or.inl rfl) (pe_call (ok_first_gap T) (hr.mono (by decide)) (by rfl) T.g_first_gap T.F_first_gap.kp T.b_first_gap .nil pass0 (pa_cons (pv 1) (pa_cons (pv 2) pa_nil))))
      (pss_one (ps_if (pt_cmpR op_notN (pv 3) pe_non (nomark _))
      (pss_one (ps_ret (pe_tup (pa_cons (pv 3) (pa_cons (pv 2) pa_nil)))))
      pss_nil))))
      (pss_one (ps_ret pe_non))), ?_⟩
    refine ⟨.ref a, rfl, a, rfl, ⟨_, SqT.of ha⟩, for_tup (K := K) (a := a) (xs := tus) (fun i σ H' => Same H H' ∧ missO ps ts = (ts.drop i).findSome? (misF ps) ∧ ∃ y2 y3, σ = [some (.ref a), some (.ref b), y2, y3]) ⟨Same.refl _, rfl, _, _, rfl⟩ (fun i σ H' _ h => SqT.of (h.1 _ _ ha)) ?_ ?_⟩
    · rintro i x σ H1 hi ⟨s1, ef, y2, y3, rfl⟩
      obtain ⟨t, lo, hi2, rfl, et, ht⟩ := tiv.get hi
      have lh := tg _ (List.mem_of_getElem? et)
      rw [miss_step et] at ef
      unfold misF at ef
      refine ⟨.ref b, rfl, .ref t, rfl, b, t, us, ps, lo, hi2, rfl, s1 _ _ hb, iv.same s1, pc, few, s1 _ _ ht, lh, fun H2 s2 => ?_⟩
      have s12 := s1.trans s2
      cases eg : gapO ps (lo, hi2) with
      | none =>
        rw [eg] at ef
        exact ⟨_, rfl, rfl, _, rfl, iteF ⟨s12, ef, _, _, rfl⟩⟩
      | some g =>
        rw [eg] at ef
        refine ⟨_, rfl, rfl, _, rfl, ?_⟩
        refine iteND (fun z : V.int g = V.non => by cases z) ⟨_, rfl, .ref t, rfl, by show 2 ≤ sizeLine; decide, fun u nu => q _ _ (s12.trans (same_new nu)) ?_⟩
        rw [ef]
        exact ⟨u, t, rfl, upd_same, same_new nu _ _ (s12 _ _ ht)⟩
    · rintro σ H1 ⟨s1, ef, y2, y3, rfl⟩
      refine q _ _ s1 ?_
      rw [ef, tiv.length, List.drop_length]
      rfl

/-! ### what a value is -/
def tyD : PyData → String
  | .none => "NoneType"
  | .bool _ => "bool"
  | .int _ => "int"
  | .str _ => "str"
  | .list _ => "list"
  | .tuple _ => "tuple"
  | .dict _ => "dict"
theorem Dv.ty {K : PySem.W.Frag} {H : Hp} {v : V} {d : PyData} (h : Dv K H v d) : TyX K H v (.type (tyD d)) := by
  cases h with
  | non => exact .base .non
  | bl b => exact .base (.bl b)
  | int i => exact .base (.int i)
  | str x => exact .base (.str x)
  | lst e _ => exact .base (.lst e)
  | tup e _ => exact .base (.tup e)
  | dic e _ => exact .base (.dK e)
def intB : PyData → Bool
  | .bool _ => true
  | .int _ => true
  | _ => false
def boolB : PyData → Bool
  | .bool _ => true
  | _ => false
def tupB : PyData → Bool
  | .tuple _ => true
  | _ => false
theorem kit_int {K : PySem.W.Frag} (d : PyData) : PySem.W.kitOne K (.type (tyD d)) (.type "int") = some (intB d) := by
  cases d with
  | none => exact kit_ty (a := "NoneType") (b := "int") (r := false) (by decide +kernel)
  | bool _ => exact kit_ty (a := "bool") (b := "int") (r := true) (by decide +kernel)
  | int _ => exact kit_ty (a := "int") (b := "int") (r := true) (by decide +kernel)
  | str _ => exact kit_ty (a := "str") (b := "int") (r := false) (by decide +kernel)
  | list _ => exact kit_ty (a := "list") (b := "int") (r := false) (by decide +kernel)
  | tuple _ => exact kit_ty (a := "tuple") (b := "int") (r := false) (by decide +kernel)
  | dict _ => exact kit_ty (a := "dict") (b := "int") (r := false) (by decide +kernel)
theorem kit_bool {K : PySem.W.Frag} (d : PyData) : PySem.W.kitOne K (.type (tyD d)) (.type "bool") = some (boolB d) := by
  cases d with
  | none => exact kit_ty (a := "NoneType") (b := "bool") (r := false) (by decide +kernel)
  | bool _ => exact kit_ty (a := "bool") (b := "bool") (r := true) (by decide +kernel)
  | int _ => exact kit_ty (a := "int") (b := "bool") (r := false) (by decide +kernel)
  | str _ => exact kit_ty (a := "str") (b := "bool") (r := false) (by decide +kernel)
  | list _ => exact kit_ty (a := "list") (b := "bool") (r := false) (by decide +kernel)
  | tuple _ => exact kit_ty (a := "tuple") (b := "bool") (r := false) (by decide +kernel)
  | dict _ => exact kit_ty (a := "dict") (b := "bool") (r := false) (by decide +kernel)
theorem kit_tup {K : PySem.W.Frag} (d : PyData) : PySem.W.kitOne K (.type (tyD d)) (.type "tuple") = some (tupB d) := by
  cases d with
  | none => exact kit_ty (a := "NoneType") (b := "tuple") (r := false) (by decide +kernel)
  | bool _ => exact kit_ty (a := "bool") (b := "tuple") (r := false) (by decide +kernel)
  | int _ => exact kit_ty (a := "int") (b := "tuple") (r := false) (by decide +kernel)
  | str _ => exact kit_ty (a := "str") (b := "tuple") (r := false) (by decide +kernel)
  | list _ => exact kit_ty (a := "list") (b := "tuple") (r := false) (by decide +kernel)
  | tuple _ => exact kit_ty (a := "tuple") (b := "tuple") (r := true) (by decide +kernel)
  | dict _ => exact kit_ty (a := "dict") (b := "tuple") (r := false) (by decide +kernel)
def inB (lo hi : Int) : PyData → Bool
  | .int i => decide (lo ≤ i) && decide (i ≤ hi)
  | _ => false
def leB : PyData → PyData → Bool
  | .int x, .int y => decide (x ≤ y)
  | _, _ => false
def ivB : PyData → Bool
  | .tuple [a, b] => inB 0 1000000000000 a && (inB 0 1000000000000 b && leB a b)
  | _ => false
theorem Dv.asInt {K : PySem.W.Frag} {H : Hp} {v : V} {i : Int} (h : Dv K H v (.int i)) : v = .int i := by
  cases h
  rfl
theorem dv_same {K : PySem.W.Frag} {H H' : Hp} (s : Same H H') {v : V} {d : PyData} (h : Dv K H v d) : Dv K H' v d :=
  Dv.rec (K := K) (H := H) (motive_1 := fun v d _ => Dv K H' v d) (motive_2 := fun vs ds _ => DvAll K H' vs ds) .non (fun b => .bl b) (fun i => .int i) (fun x => .str x) (fun e _ q => .lst (s _ _ e) q) (fun e _ q => .tup (s _ _ e) q) (fun e _ q => .dic (s _ _ e) q) .nil (fun _ _ a b => .cons a b) h
theorem dvAll_same {K : PySem.W.Frag} {H H' : Hp} (s : Same H H') : ∀ {vs : List V} {ds : List PyData}, DvAll K H vs ds → DvAll K H' vs ds
  | _, _, .nil => .nil
  | _, _, .cons a b => .cons (dv_same s a) (dvAll_same s b)
theorem DvAll.get {K : PySem.W.Frag} {H : Hp} : ∀ {vs : List V} {ds : List PyData}, DvAll K H vs ds → ∀ {i : Nat} {v : V}, vs[i]? = some v → ∃ d, ds[i]? = some d ∧ Dv K H v d
  | _, _, .nil, _, _, e => by simp at e
  | _, _, .cons a b, 0, _, e => by
    cases e
    exact ⟨_, rfl, a⟩
  | _, _, .cons a b, i + 1, _, e => b.get (i := i) e
theorem DvAll.append {K : PySem.W.Frag} {H : Hp} : ∀ {vs us : List V} {ds es : List PyData}, DvAll K H vs ds → DvAll K H us es → DvAll K H (vs ++ us) (ds ++ es)
  | _, _, _, _, .nil, h => h
  | _, _, _, _, .cons a b, h => .cons a (b.append h)
theorem Dv.dp {K : PySem.W.Frag} {H : Hp} {v : V} {d : PyData} (h : Dv K H v d) : d.canLay0 = true → Dp K H v d := by
  refine Dv.rec (K := K) (H := H) (motive_1 := fun v d _ => d.canLay0 = true → Dp K H v d) (motive_2 := fun vs ds _ => PyData.canLayAll0 ds = true → DpAll K H vs ds) (fun _ => .non) (fun b _ => .bl b) (fun i _ => .int i) (fun x _ => .str x) (fun e _ q z => .lst (SqL.of e) (q z)) (fun e _ q z => .tup (SqT.of e) (q z)) (fun _ _ _ z => ?_) (fun _ => .nil) (fun _ _ a b z => ?_) h
  · cases z
  · have z' := Bool.and_eq_true_iff.mp z
    exact .cons (a z'.1) (b z'.2)
/-- a value that may be asked whether it is an interval: what stands in it, if it is a tuple, has no dicts -/
def PlainT (d : PyData) : Prop := ∀ ds, d = .tuple ds → PyData.canLayAll0 ds = true ∧ PyData.depthAll ds ≤ 60

/-! ### the program's own -/
def sp_is_number (K : PySem.W.Frag) : Sp := fun vs H Q _ => ∃ (v : V) (d : PyData), vs = [v] ∧ Dv K H v d ∧ Q (.bl (intB d && !boolB d)) H
theorem ok_is_number (T : Tx K mg f_depth_changes f_find_blocks f_is_number f_is_position f_is_tuple_of f_is_interval f_is_ascending f_has_position f_contains f_is_demand f_serves f_conflict f_is_independent f_demands_at_blocks f_is_open f_open_demands f_shadow_target f_pieces_inside f_first_gap f_find_missing f_require_few_blocks f_decisive_demands f_largest_independent f_unserved_demands f_helpful_piece f_smallest_solution f_solve f_are_witnesses f_solution_holds f_law_draws f_law_next f_law_one f_law_spans f_law_targets f_law_covers f_law_is_interval f_law_is_demand f_law_rising f_law_served f_law_clash f_law_are_witnesses f_law_solved f_law_bent f_law d_depth_changes d_find_blocks d_is_number d_is_position d_is_tuple_of d_is_interval d_is_ascending d_has_position d_contains d_is_demand d_serves d_conflict d_is_independent d_demands_at_blocks d_is_open d_open_demands d_shadow_target d_pieces_inside d_first_gap d_find_missing d_require_few_blocks d_decisive_demands d_largest_independent d_unserved_demands d_helpful_piece d_smallest_solution d_solve d_are_witnesses d_solution_holds d_law_draws d_law_next d_law_one d_law_spans d_law_targets d_law_covers d_law_is_interval d_law_is_demand d_law_rising d_law_served d_law_clash d_law_are_witnesses d_law_solved d_law_bent d_law t_LAST_POSITION t_MAX_BLOCKS) : FnOk P w K mg base CX0 1 f_is_number d_is_number ["value"] (sp_is_number K) := by
  refine T.F_is_number.ok sc_is_number (fun vs H Q E h => ?_) (fun cdv A outer s H vs Q E hr h => ?_)
  · obtain ⟨v, d, rfl, _⟩ := h
    rfl
  · obtain ⟨v, d, rfl, hd, q⟩ := h
    refine ⟨_, (pss_one (ps_ret (pe_and (pe_callB call_isi (by rfl) T.z_isinstance (by decide +kernel) (pa_cons (pv 0) (pa_cons (pe_bltn (v := .ty "int") (u := .type "int") (by rfl) T.z_int (by decide +kernel) rfl) pa_nil))) (pe_one (pe_not (pe_callB call_isi (by rfl) T.z_isinstance (by decide +kernel) (pa_cons (pv 0) (pa_cons (pe_bltn (v := .ty "bool") (u := .type "bool") (by rfl) T.z_bool (by decide +kernel) rfl) pa_nil)))))))), ?_⟩
    refine ⟨v, rfl, v, .ty "int", _, _, _, rfl, .ty "int", hd.ty, kit_int d, _, rfl, ite2 (fun e => ?_) (fun e => ?_)⟩
    · refine ⟨v, rfl, v, .ty "bool", _, _, _, rfl, .ty "bool", hd.ty, kit_bool d, _, rfl, ?_⟩
      rw [e] at q
      exact q
    · rw [Bool.not_eq_true] at e
      rw [e] at q
      exact q
theorem num_int {d : PyData} (h : (intB d && !boolB d) = true) : ∃ i, d = .int i := by
  cases d with
  | int i => exact ⟨i, rfl⟩
  | _ => exact (Bool.false_ne_true h).elim
theorem num_no {d : PyData} {lo hi : Int} (h : (intB d && !boolB d) = false) : inB lo hi d = false := by
  cases d with
  | int i => exact Bool.noConfusion (show true = false from h)
  | _ => rfl
def sp_is_position (K : PySem.W.Frag) : Sp := fun vs H Q _ => ∃ (v : V) (d : PyData), vs = [v] ∧ Dv K H v d ∧ Q (.bl (inB 0 1000000000000 d)) H
theorem ok_is_position (T : Tx K mg f_depth_changes f_find_blocks f_is_number f_is_position f_is_tuple_of f_is_interval f_is_ascending f_has_position f_contains f_is_demand f_serves f_conflict f_is_independent f_demands_at_blocks f_is_open f_open_demands f_shadow_target f_pieces_inside f_first_gap f_find_missing f_require_few_blocks f_decisive_demands f_largest_independent f_unserved_demands f_helpful_piece f_smallest_solution f_solve f_are_witnesses f_solution_holds f_law_draws f_law_next f_law_one f_law_spans f_law_targets f_law_covers f_law_is_interval f_law_is_demand f_law_rising f_law_served f_law_clash f_law_are_witnesses f_law_solved f_law_bent f_law d_depth_changes d_find_blocks d_is_number d_is_position d_is_tuple_of d_is_interval d_is_ascending d_has_position d_contains d_is_demand d_serves d_conflict d_is_independent d_demands_at_blocks d_is_open d_open_demands d_shadow_target d_pieces_inside d_first_gap d_find_missing d_require_few_blocks d_decisive_demands d_largest_independent d_unserved_demands d_helpful_piece d_smallest_solution d_solve d_are_witnesses d_solution_holds d_law_draws d_law_next d_law_one d_law_spans d_law_targets d_law_covers d_law_is_interval d_law_is_demand d_law_rising d_law_served d_law_clash d_law_are_witnesses d_law_solved d_law_bent d_law t_LAST_POSITION t_MAX_BLOCKS) : FnOk P w K mg base CX0 2 f_is_position d_is_position ["value"] (sp_is_position K) := by
  refine T.F_is_position.ok sc_is_position (fun vs H Q E h => ?_) (fun cdv A outer s H vs Q E hr h => ?_)
  · obtain ⟨v, d, rfl, _⟩ := h
    rfl
  · obtain ⟨v, d, rfl, hd, q⟩ := h
    refine ⟨_, (pss_one (ps_ret (pe_and (pe_call (ok_is_number T) (hr.mono (by decide)) (by rfl) T.g_is_number T.F_is_number.kp T.b_is_number .nil pass0 (pa_cons (pv 0) pa_nil)) (pe_one (pe_chain op_le op_le pe_int (pv 0) (pe_glob (v := .int 1000000000000) (by rfl) T.c_LAST_POSITION ⟨_, rfl⟩)))))), ?_⟩
    refine ⟨v, rfl, v, d, rfl, hd, _, rfl, ite2 (fun e => ?_) (fun e => ?_)⟩
    · obtain ⟨i, rfl⟩ := num_int e
      have ev := hd.asInt
      subst ev
      refine ⟨.int i, rfl, _, _, rfl, rfl, _, rfl, ite2 (fun e2 => ?_) (fun e2 => ?_)⟩
      · refine ⟨_, _, rfl, rfl, ?_⟩
        have q' : Q (.bl (decide (0 ≤ i) && decide (i ≤ 1000000000000))) H := q
        rw [e2] at q'
        exact q'
      · have q' : Q (.bl (decide (0 ≤ i) && decide (i ≤ 1000000000000))) H := q
        rw [Bool.not_eq_true] at e2
        rw [e2] at q'
        exact q'
    · rw [Bool.not_eq_true] at e
      rw [num_no e] at q
      exact q
def sp_is_interval (K : PySem.W.Frag) : Sp := fun vs H Q _ => ∃ (v : V) (d : PyData), vs = [v] ∧ Dv K H v d ∧ Q (.bl (ivB d)) H
theorem iv_not {d : PyData} (h : tupB d = false) : ivB d = false := by
  cases d with
  | tuple ds => cases h
  | _ => rfl
def tlB (n : Int) : PyData → Bool
  | .tuple ds => decide ((ds.length : Int) = n)
  | _ => false
def sp_is_tuple_of (K : PySem.W.Frag) : Sp := fun vs H Q _ => ∃ (v : V) (d : PyData) (n : Int), vs = [v, .int n] ∧ Dv K H v d ∧ Q (.bl (tlB n d)) H
theorem tl_not {n : Int} {d : PyData} (h : tupB d = false) : tlB n d = false := by
  cases d with
  | tuple ds => cases h
  | _ => rfl
theorem ok_is_tuple_of (T : Tx K mg f_depth_changes f_find_blocks f_is_number f_is_position f_is_tuple_of f_is_interval f_is_ascending f_has_position f_contains f_is_demand f_serves f_conflict f_is_independent f_demands_at_blocks f_is_open f_open_demands f_shadow_target f_pieces_inside f_first_gap f_find_missing f_require_few_blocks f_decisive_demands f_largest_independent f_unserved_demands f_helpful_piece f_smallest_solution f_solve f_are_witnesses f_solution_holds f_law_draws f_law_next f_law_one f_law_spans f_law_targets f_law_covers f_law_is_interval f_law_is_demand f_law_rising f_law_served f_law_clash f_law_are_witnesses f_law_solved f_law_bent f_law d_depth_changes d_find_blocks d_is_number d_is_position d_is_tuple_of d_is_interval d_is_ascending d_has_position d_contains d_is_demand d_serves d_conflict d_is_independent d_demands_at_blocks d_is_open d_open_demands d_shadow_target d_pieces_inside d_first_gap d_find_missing d_require_few_blocks d_decisive_demands d_largest_independent d_unserved_demands d_helpful_piece d_smallest_solution d_solve d_are_witnesses d_solution_holds d_law_draws d_law_next d_law_one d_law_spans d_law_targets d_law_covers d_law_is_interval d_law_is_demand d_law_rising d_law_served d_law_clash d_law_are_witnesses d_law_solved d_law_bent d_law t_LAST_POSITION t_MAX_BLOCKS) : FnOk P w K mg base CX0 1 f_is_tuple_of d_is_tuple_of ["value", "length"] (sp_is_tuple_of K) := by
  refine T.F_is_tuple_of.ok sc_is_tuple_of (fun vs H Q E h => ?_) (fun cdv A outer s H vs Q E hr h => ?_)
  · obtain ⟨v, d, n, rfl, _⟩ := h
    rfl
  · obtain ⟨v, d, n, rfl, hd, q⟩ := h
    refine ⟨_, (pss_one (ps_ret (pe_and (pe_callB call_isi (by rfl) T.z_isinstance (by decide +kernel) (pa_cons (pv 0) (pa_cons (pe_bltn (v := .ty "tuple") (u := .type "tuple") (by rfl) T.z_tuple (by decide +kernel) rfl) pa_nil))) (pe_one (pe_cmpR op_eq (pe_callB call_len_seq (by rfl) T.z_len PySem.boot_len (pa_cons (pv 0) pa_nil)) (pv 1) (nomark _)))))), ?_⟩
    refine ⟨v, rfl, v, .ty "tuple", _, _, _, rfl, .ty "tuple", hd.ty, kit_tup d, _, rfl, ?_⟩
    cases tb : tupB d with
    | false =>
      refine iteF ?_
      rw [tl_not tb] at q
      exact q
    | true =>
      refine iteT ?_
      cases hd with
      | @tup a xs ds e all =>
        have len := all.length
        refine ⟨.ref a, rfl, a, xs, rfl, .inr (SqT.of e), .int n, rfl, rfl, ?_⟩
        have z : tlB n (.tuple ds) = decide (V.int (xs.length : Nat) = V.int n) := by
          show decide ((ds.length : Int) = n) = _
          rw [← len]
          by_cases y : ((xs.length : Nat) : Int) = n
          · rw [decide_eq_true y, decide_eq_true (by rw [y])]
          · rw [decide_eq_false y, decide_eq_false (fun z => y (V.int.inj z))]
        rw [z] at q
        exact q
      | _ => exact (Bool.false_ne_true tb).elim
theorem tl_two {d : PyData} (h : tlB 2 d = true) : ∃ a b, d = .tuple [a, b] := by
  match d, h with
  | .tuple [a, b], _ => exact ⟨a, b, rfl⟩
  | .tuple (x :: y :: z :: l), h =>
    have h' : ((x :: y :: z :: l).length : Int) = 2 := of_decide_eq_true (show decide (((x :: y :: z :: l).length : Int) = 2) = true from h)
    rw [List.length_cons, List.length_cons, List.length_cons] at h'
    omega
theorem iv_two {d : PyData} (h : ¬ tlB 2 d = true) : ivB d = false := by
  match d, h with
  | .tuple [a, b], h => exact absurd rfl h
  | .tuple [], _ => rfl
  | .tuple [_], _ => rfl
  | .tuple (_ :: _ :: _ :: l), _ => rfl
  | .none, _ => rfl
  | .bool _, _ => rfl
  | .int _, _ => rfl
  | .str _, _ => rfl
  | .list _, _ => rfl
  | .dict _, _ => rfl
theorem ok_is_interval (T : Tx K mg f_depth_changes f_find_blocks f_is_number f_is_position f_is_tuple_of f_is_interval f_is_ascending f_has_position f_contains f_is_demand f_serves f_conflict f_is_independent f_demands_at_blocks f_is_open f_open_demands f_shadow_target f_pieces_inside f_first_gap f_find_missing f_require_few_blocks f_decisive_demands f_largest_independent f_unserved_demands f_helpful_piece f_smallest_solution f_solve f_are_witnesses f_solution_holds f_law_draws f_law_next f_law_one f_law_spans f_law_targets f_law_covers f_law_is_interval f_law_is_demand f_law_rising f_law_served f_law_clash f_law_are_witnesses f_law_solved f_law_bent f_law d_depth_changes d_find_blocks d_is_number d_is_position d_is_tuple_of d_is_interval d_is_ascending d_has_position d_contains d_is_demand d_serves d_conflict d_is_independent d_demands_at_blocks d_is_open d_open_demands d_shadow_target d_pieces_inside d_first_gap d_find_missing d_require_few_blocks d_decisive_demands d_largest_independent d_unserved_demands d_helpful_piece d_smallest_solution d_solve d_are_witnesses d_solution_holds d_law_draws d_law_next d_law_one d_law_spans d_law_targets d_law_covers d_law_is_interval d_law_is_demand d_law_rising d_law_served d_law_clash d_law_are_witnesses d_law_solved d_law_bent d_law t_LAST_POSITION t_MAX_BLOCKS) : FnOk P w K mg base CX0 3 f_is_interval d_is_interval ["value"] (sp_is_interval K) := by
  refine T.F_is_interval.ok sc_is_interval (fun vs H Q E h => ?_) (fun cdv A outer s H vs Q E hr h => ?_)
  · obtain ⟨v, d, rfl, _⟩ := h
    rfl
  · obtain ⟨v, d, rfl, hd, q⟩ := h
    refine ⟨_, (pss_cons (ps_if (pt_not (pt_val (pe_call (ok_is_tuple_of T) (hr.mono (by decide)) (by rfl) T.g_is_tuple_of T.F_is_tuple_of.kp T.b_is_tuple_of .nil pass0 (pa_cons (pv 0) (pa_cons pe_int pa_nil)))))
      (pss_one (ps_ret pe_bl))
      pss_nil)
      (pss_cons (ps_asg (pv 0) (pg_tup rfl (pgs_cons (pg_name (i := 1) sc_is_interval.nd rfl (Or.inl rfl)) (pgs_cons (pg_name (i := 2) sc_is_interval.nd rfl (Or.inl rfl)) pgs_nil))))
      (pss_one (ps_ret (pe_and (pe_call (ok_is_position T) (hr.mono (by decide)) (by rfl) T.g_is_position T.F_is_position.kp T.b_is_position .nil pass0 (pa_cons (pv 1) pa_nil)) (pe_and (pe_call (ok_is_position T) (hr.mono (by decide)) (by rfl) T.g_is_position T.F_is_position.kp T.b_is_position .nil pass0 (pa_cons (pv 2) pa_nil)) (pe_one (pe_cmpR op_le (pv 1) (pv 2) (nomark _))))))))), ?_⟩
    refine ⟨v, rfl, v, d, 2, rfl, hd, _, rfl, ?_⟩
    by_cases tb : tlB 2 d = true
    · rw [tb]
      refine iteF ?_
      obtain ⟨d1, d2, rfl⟩ := tl_two tb
      cases hd with
      | @tup a xs ds e all =>
        match xs, all, e, q with
          | [v1, v2], .cons h1 (.cons h2 .nil), e, q =>
            refine ⟨.ref a, rfl, a, _, rfl, SqT.of e, rfl, v1, [v2], rfl, v2, [], rfl, rfl, ?_⟩
            refine ⟨v1, rfl, v1, d1, rfl, h1, _, rfl, ite2 (fun e1 => ?_) (fun e1 => ?_)⟩
            · refine ⟨v2, rfl, v2, d2, rfl, h2, _, rfl, ite2 (fun e2 => ?_) (fun e2 => ?_)⟩
              · cases d1 with
                | int i =>
                  cases d2 with
                  | int j =>
                    have x1 := h1.asInt
                    have x2 := h2.asInt
                    subst x1 x2
                    refine ⟨.int i, rfl, .int j, rfl, _, _, rfl, rfl, ?_⟩
                    have q' : Q (.bl (inB 0 1000000000000 (.int i) && (inB 0 1000000000000 (.int j) && decide (i ≤ j)))) H := q
                    rw [e1, e2] at q'
                    exact q'
                  | _ => exact absurd e2 (by simp [inB])
                | _ => exact absurd e1 (by simp [inB])
              · have q' : Q (.bl (inB 0 1000000000000 d1 && (inB 0 1000000000000 d2 && leB d1 d2))) H := q
                rw [Bool.not_eq_true] at e2
                rw [e1, e2] at q'
                exact q'
            · have q' : Q (.bl (inB 0 1000000000000 d1 && (inB 0 1000000000000 d2 && leB d1 d2))) H := q
              rw [Bool.not_eq_true] at e1
              rw [e1] at q'
              exact q'
    · rw [iv_two tb] at q
      rw [Bool.not_eq_true] at tb
      rw [tb]
      exact iteT q
/-! ### the law's own -/

theorem iv_shape {d : PyData} (h : ivB d = true) : ∃ x y, d = .tuple [.int x, .int y] := by
  cases d with
  | tuple ds =>
    match ds, h with
    | [], h => exact (Bool.false_ne_true h).elim
    | [_], h => exact (Bool.false_ne_true h).elim
    | _ :: _ :: _ :: _, h => exact (Bool.false_ne_true h).elim
    | [a, b], h =>
      have h' : (inB 0 1000000000000 a && (inB 0 1000000000000 b && leB a b)) = true := h
      have h1 := (Bool.and_eq_true_iff.mp h').1
      have h2 := (Bool.and_eq_true_iff.mp (Bool.and_eq_true_iff.mp h').2).1
      cases a with
      | int x =>
        cases b with
        | int y => exact ⟨x, y, rfl⟩
        | _ => exact (Bool.false_ne_true h2).elim
      | _ => exact (Bool.false_ne_true h1).elim
  | _ => exact (Bool.false_ne_true h).elim
theorem Dv.asPair {K : PySem.W.Frag} {H : Hp} {v : V} {x y : Int} (h : Dv K H v (.tuple [.int x, .int y])) : ∃ b, v = .ref b ∧ H b = some (.tup [.int x, .int y]) := by
  cases h with
  | @tup a xs _ e all =>
    match xs, all with
    | [_, _], .cons h1 (.cons h2 .nil) =>
      cases h1
      cases h2
      exact ⟨a, rfl, e⟩

/-! ### comprehensions over longer rows (comp.part's, to a million) -/
theorem few_lineb {n : Nat} (h : n < 1000000) : n < sizeLine := by
  rw [show sizeLine = 16777216 by decide]
  omega
theorem lcLb {K : PySem.W.Frag} {a : Addr} {xs : List V} {g : TG} {tt : TT} {te : TE} {vs : List Nat} {σ : L2.St} {H1 : Hp} {D : Addr} {Qd : Hp → Prop} (R : Nat → Hp → List V → Prop) (nD : H1 D = none) (hl : ∀ H', Same H1 H' → SqL K H' a xs) (few : xs.length < 1000000)
    (mono : ∀ i H' H'' ws, Tps H' H'' → R i H' ws → R i H'' ws) (len : ∀ i H' ws, R i H' ws → ws.length ≤ i) (r0 : ∀ H', R 0 H' [])
    (hs : ∀ i x H' (N : Hp → Prop) acc, xs[i]? = some x → Same H1 H' → H' D = some (.lst acc) → acc.length < sizeLine → R i H' acc → (∀ H'', Same H' H'' → R (i + 1) H'' acc → N H'') → (∀ H'' y, Same H' H'' → R (i + 1) H'' (acc ++ [y]) → ∃ acc', H'' D = some (.lst acc') ∧ acc'.length < sizeLine ∧ N (upd H'' D (.lst (acc' ++ [y])))) →
      g x (wipe σ vs) H' fun σ2 H2 => wipe σ2 vs = wipe σ vs ∧ tt σ2 H2 fun b H3 => if b = true then te σ2 H3 fun y H4 => ∃ acc, H4 D = some (.lst acc) ∧ acc.length < sizeLine ∧ N (upd H4 D (.lst (acc ++ [y]))) else N H3)
    (hd : ∀ H' ws, Same H1 H' → H' D = some (.lst ws) → R xs.length H' ws → Qd H') :
    ∃ W : Nat → Nat → Hp → Prop, (∃ m, W 0 m (upd H1 D (.lst []))) ∧ ∀ i m H, W i m H →
      ((Itl K a).stop i H ∧ Qd H) ∨ ((Itl K a).go i H ∧ ∃ Nx : Hp → Prop, (∀ H', Nx H' → ∃ m', m' < m ∧ W (i + 1) m' H') ∧ ∀ x H', (Itl K a).yld i H x H' → g x (wipe σ vs) H' fun σ2 H2 => wipe σ2 vs = wipe σ vs ∧ tt σ2 H2 fun b H3 =>
        if b = true then te σ2 H3 fun y H4 => ∃ acc, H4 D = some (.lst acc) ∧ acc.length < sizeLine ∧ Nx (upd H4 D (.lst (acc ++ [y]))) else Nx H3) := by
  refine lc_list (K := K) (a := a) (xs := xs) (fun i H' => Same H1 H' ∧ ∃ ws, H' D = some (.lst ws) ∧ R i H' ws) ⟨same_new nD, [], upd_same, r0 _⟩ (fun i H' _ h => hl H' h.1) ?_ ?_
  · rintro i x H' hi ⟨sm, ws, eD, r⟩
    have lt := (List.getElem?_eq_some_iff.mp hi).1
    have lw := len i H' ws r
    have sz : ws.length < sizeLine := few_lineb (by omega)
    refine hs i x H' _ ws hi sm eD sz r (fun H'' s r2 => ⟨sm.trans s, ws, s _ _ eD, r2⟩) (fun H'' y s r2 => ?_)
    exact ⟨ws, s _ _ eD, sz, same_off nD (sm.trans s), _, upd_same, mono _ _ _ _ (Tps.lst (s _ _ eD)) r2⟩
  · rintro H' ⟨sm, ws, eD, r⟩
    exact hd H' ws sm eD r
theorem lcTb {K : PySem.W.Frag} {a : Addr} {xs : List V} {g : TG} {tt : TT} {te : TE} {vs : List Nat} {σ : L2.St} {H1 : Hp} {D : Addr} {Qd : Hp → Prop} (R : Nat → Hp → List V → Prop) (nD : H1 D = none) (hl : ∀ H', Same H1 H' → SqT K H' a xs) (few : xs.length < 1000000)
    (mono : ∀ i H' H'' ws, Tps H' H'' → R i H' ws → R i H'' ws) (len : ∀ i H' ws, R i H' ws → ws.length ≤ i) (r0 : ∀ H', R 0 H' [])
    (hs : ∀ i x H' (N : Hp → Prop) acc, xs[i]? = some x → Same H1 H' → H' D = some (.lst acc) → acc.length < sizeLine → R i H' acc → (∀ H'', Same H' H'' → R (i + 1) H'' acc → N H'') → (∀ H'' y, Same H' H'' → R (i + 1) H'' (acc ++ [y]) → ∃ acc', H'' D = some (.lst acc') ∧ acc'.length < sizeLine ∧ N (upd H'' D (.lst (acc' ++ [y])))) →
      g x (wipe σ vs) H' fun σ2 H2 => wipe σ2 vs = wipe σ vs ∧ tt σ2 H2 fun b H3 => if b = true then te σ2 H3 fun y H4 => ∃ acc, H4 D = some (.lst acc) ∧ acc.length < sizeLine ∧ N (upd H4 D (.lst (acc ++ [y]))) else N H3)
    (hd : ∀ H' ws, Same H1 H' → H' D = some (.lst ws) → R xs.length H' ws → Qd H') :
    ∃ W : Nat → Nat → Hp → Prop, (∃ m, W 0 m (upd H1 D (.lst []))) ∧ ∀ i m H, W i m H →
      ((Itt K a).stop i H ∧ Qd H) ∨ ((Itt K a).go i H ∧ ∃ Nx : Hp → Prop, (∀ H', Nx H' → ∃ m', m' < m ∧ W (i + 1) m' H') ∧ ∀ x H', (Itt K a).yld i H x H' → g x (wipe σ vs) H' fun σ2 H2 => wipe σ2 vs = wipe σ vs ∧ tt σ2 H2 fun b H3 =>
        if b = true then te σ2 H3 fun y H4 => ∃ acc, H4 D = some (.lst acc) ∧ acc.length < sizeLine ∧ Nx (upd H4 D (.lst (acc ++ [y]))) else Nx H3) := by
  refine lc_tup (K := K) (a := a) (xs := xs) (fun i H' => Same H1 H' ∧ ∃ ws, H' D = some (.lst ws) ∧ R i H' ws) ⟨same_new nD, [], upd_same, r0 _⟩ (fun i H' _ h => hl H' h.1) ?_ ?_
  · rintro i x H' hi ⟨sm, ws, eD, r⟩
    have lt := (List.getElem?_eq_some_iff.mp hi).1
    have lw := len i H' ws r
    have sz : ws.length < sizeLine := few_lineb (by omega)
    refine hs i x H' _ ws hi sm eD sz r (fun H'' s r2 => ⟨sm.trans s, ws, s _ _ eD, r2⟩) (fun H'' y s r2 => ?_)
    exact ⟨ws, s _ _ eD, sz, same_off nD (sm.trans s), _, upd_same, mono _ _ _ _ (Tps.lst (s _ _ eD)) r2⟩
  · rintro H' ⟨sm, ws, eD, r⟩
    exact hd H' ws sm eD r

/-! ### t != () -/
section
variable {X : Cx}
def rNeE (K : PySem.W.Frag) : R2 := fun x y H Q => ∃ (a b : Addr) (xs : List V), x = .ref a ∧ y = .ref b ∧ SqT K H a xs ∧ SqT K H b [] ∧ Q (.bl (!xs.isEmpty)) H
theorem op_neE (units : X.A.units < cLine) : OpR X (compareOp .NotEq) (rNeE X.K) := by
  intro pins s σ H x y v u Q I rx ry h
  obtain ⟨a, b, xs, rfl, rfl, ha, hb, q⟩ := h
  cases rx
  cases ry
  obtain ⟨its, r1, p1, _⟩ := I.tuple ha
  obtain ⟨its2, r2, p2, _⟩ := I.tuple hb
  cases r2
  refine SeqAt.RcNeAt.tuples (e := fun _ => true) (show s.heap.IsTuple a its.toArray from p1) (show s.heap.IsTuple b ([] : List Value).toArray from p2) units (fun j h1 h2 => absurd h2 (Nat.not_lt_zero j)) X.prog X.w X.xe (EP X pins σ Q) ⟨.bl (!xs.isEmpty), H, I, ?_, q⟩
  cases r1 with
  | nil => rfl
  | cons r t => rfl
end

/-- scaled rows: their bounds (a base up to 1000) -/
theorem sc_top {wd f s : Int} {row : List (Int × Int)} (h : Sc wd f s row) (hf : 0 < f) (hf2 : f ≤ 100000000000) (hs : 0 ≤ s) (hs2 : s ≤ 1000) (hw : wd ≤ 8) : ∀ q ∈ row, 0 ≤ q.1 ∧ q.1 ≤ q.2 ∧ q.2 ≤ 1000000000000 := fun q hq => by
  obtain ⟨r, o, rfl⟩ := h q hq
  have a2 : r.2 * f ≤ 7 * 100000000000 := Int.mul_le_mul (by omega) hf2 (by omega) (by decide)
  have a3 : 0 ≤ r.1 * f := Int.mul_nonneg (by omega) (by omega)
  have a4 : r.1 * f ≤ r.2 * f := Int.mul_le_mul_of_nonneg_right o.2.1 (by omega)
  show 0 ≤ r.1 * f + s ∧ r.1 * f + s ≤ r.2 * f + f - 1 + s ∧ r.2 * f + f - 1 + s ≤ 1000000000000
  omega
theorem sc_solB {wd f s : Int} {ts ps : List (Int × Int)} (h1 : Sc wd f s ts) (h2 : Sc wd f s ps) (hf : 0 < f) (hf2 : f ≤ 100000000000) (hs : 0 ≤ s) (hs2 : s ≤ 1000) (hw : wd ≤ 8) (l : ts.length + ps.length ≤ 60) (lt : ts.length ≤ 30) (lg : 8 * ts.length ≤ lgN) (lg1 : lgN < 1000) : SolB ts ps := by
  have h := h1.app h2
  refine ⟨h.good hf hs, fun q hq => ?_, lt, h.fewk (by omega) (by rw [List.length_append]; exact l), h.blocks hf hs hw, lg, lg1⟩
  have := sc_top h1 hf hf2 hs hs2 hw q hq
  omega

def sp_law_one (K : PySem.W.Frag) : Sp := fun vs H Q _ => ∃ (d : Addr) (c : Addr × Addr × Addr) (n : Int) (a : Addr) (us : List V), vs = [.ref d, .ref a] ∧ Dk H d c n ∧ 0 ≤ n ∧ n < 1000000 ∧ Off d c a ∧ H a = some (.lst us) ∧ 0 < us.length ∧ us.length < 1000 ∧
  ∀ H' (j : Nat) v, Kp d c H H' → Dk H' d c (n + 1) → us[j]? = some v → Q v H'
theorem ok_law_one (T : Tx K mg f_depth_changes f_find_blocks f_is_number f_is_position f_is_tuple_of f_is_interval f_is_ascending f_has_position f_contains f_is_demand f_serves f_conflict f_is_independent f_demands_at_blocks f_is_open f_open_demands f_shadow_target f_pieces_inside f_first_gap f_find_missing f_require_few_blocks f_decisive_demands f_largest_independent f_unserved_demands f_helpful_piece f_smallest_solution f_solve f_are_witnesses f_solution_holds f_law_draws f_law_next f_law_one f_law_spans f_law_targets f_law_covers f_law_is_interval f_law_is_demand f_law_rising f_law_served f_law_clash f_law_are_witnesses f_law_solved f_law_bent f_law d_depth_changes d_find_blocks d_is_number d_is_position d_is_tuple_of d_is_interval d_is_ascending d_has_position d_contains d_is_demand d_serves d_conflict d_is_independent d_demands_at_blocks d_is_open d_open_demands d_shadow_target d_pieces_inside d_first_gap d_find_missing d_require_few_blocks d_decisive_demands d_largest_independent d_unserved_demands d_helpful_piece d_smallest_solution d_solve d_are_witnesses d_solution_holds d_law_draws d_law_next d_law_one d_law_spans d_law_targets d_law_covers d_law_is_interval d_law_is_demand d_law_rising d_law_served d_law_clash d_law_are_witnesses d_law_solved d_law_bent d_law t_LAST_POSITION t_MAX_BLOCKS) : FnOk P w K mg base CX0 2 f_law_one d_law_one ["_law_state", "_law_items"] (sp_law_one K) := by
  refine T.F_law_one.ok sc_law_one (fun vs H Q E h => ?_) (fun cdv A outer s H vs Q E hr h => ?_)
  · obtain ⟨d, c, n, a, us, rfl, _⟩ := h
    rfl
  · obtain ⟨d, c, n, a, us, rfl, dk, n0, n1, off, ha, l0, l1, q⟩ := h
    refine ⟨_, (pss_one (ps_ret (pe_ix ix_list (pv 1) (pe_call (ok_law_next T) (hr.mono (by decide)) (by rfl) T.g_law_next T.F_law_next.kp T.b_law_next .nil pass0 (pa_cons (pv 0) (pa_cons (pe_callB call_len_seq (by rfl) T.z_len PySem.boot_len (pa_cons (pv 1) pa_nil)) pa_nil))) (fun _ _ => rfl)))), ?_⟩
    refine ⟨.ref a, rfl, .ref d, rfl, .ref a, rfl, a, us, rfl, .inl (SqL.of ha), d, c, n, (us.length : Int), rfl, dk, n0, n1, by omega, by omega, fun H1 r kp dk1 r0 r1 => ?_⟩
    obtain ⟨j, rfl⟩ : ∃ j : Nat, r = j := ⟨r.toNat, by omega⟩
    have jl : j < us.length := by omega
    refine ⟨a, us, (j : Int), us[j], rfl, rfl, SqL.of (kp.keep off ha), atI_nat (List.getElem?_eq_getElem jl), ?_⟩
    exact q H1 j _ kp dk1 (List.getElem?_eq_getElem jl)

/-! ### data by its weight, with a bound on the length of each row: what a value with a part replaced weighs -/
mutual
def intsB (B L : Nat) : PyData → Bool
  | .none | .bool _ | .str _ => true
  | .int i => decide (i.natAbs < B)
  | .list xs | .tuple xs => decide (xs.length ≤ L) && intsBAll B L xs
  | .dict kvs => intsBKv B L kvs
def intsBAll (B L : Nat) : List PyData → Bool
  | [] => true
  | x :: xs => intsB B L x && intsBAll B L xs
def intsBKv (B L : Nat) : List (PyData × PyData) → Bool
  | [] => true
  | (k, v) :: r => intsB B L k && intsB B L v && intsBKv B L r
end
mutual
theorem intsB_mono {B C L M : Nat} (h : B ≤ C) (g : L ≤ M) : ∀ d : PyData, intsB B L d = true → intsB C M d = true
  | .none, _ => by unfold intsB; rfl
  | .bool _, _ => by unfold intsB; rfl
  | .str _, _ => by unfold intsB; rfl
  | .int i, q => by
    unfold intsB at q ⊢
    have := of_decide_eq_true q
    exact decide_eq_true (Nat.lt_of_lt_of_le this h)
  | .list xs, q => by
    unfold intsB at q ⊢
    have z := Bool.and_eq_true_iff.mp q
    exact Bool.and_eq_true_iff.mpr ⟨decide_eq_true (Nat.le_trans (of_decide_eq_true z.1) g), intsBAll_mono h g xs z.2⟩
  | .tuple xs, q => by
    unfold intsB at q ⊢
    have z := Bool.and_eq_true_iff.mp q
    exact Bool.and_eq_true_iff.mpr ⟨decide_eq_true (Nat.le_trans (of_decide_eq_true z.1) g), intsBAll_mono h g xs z.2⟩
  | .dict kvs, q => by
    unfold intsB at q ⊢
    exact intsBKv_mono h g kvs q
theorem intsBAll_mono {B C L M : Nat} (h : B ≤ C) (g : L ≤ M) : ∀ xs : List PyData, intsBAll B L xs = true → intsBAll C M xs = true
  | [], _ => by unfold intsBAll; rfl
  | x :: xs, q => by
    unfold intsBAll at q ⊢
    have z := Bool.and_eq_true_iff.mp q
    exact Bool.and_eq_true_iff.mpr ⟨intsB_mono h g x z.1, intsBAll_mono h g xs z.2⟩
theorem intsBKv_mono {B C L M : Nat} (h : B ≤ C) (g : L ≤ M) : ∀ xs : List (PyData × PyData), intsBKv B L xs = true → intsBKv C M xs = true
  | [], _ => by unfold intsBKv; rfl
  | (k, v) :: xs, q => by
    unfold intsBKv at q ⊢
    have z := Bool.and_eq_true_iff.mp q
    have y := Bool.and_eq_true_iff.mp z.1
    exact Bool.and_eq_true_iff.mpr ⟨Bool.and_eq_true_iff.mpr ⟨intsB_mono h g k y.1, intsB_mono h g v y.2⟩, intsBKv_mono h g xs z.2⟩
end
theorem intsBAll_mem {B L : Nat} : ∀ {xs : List PyData}, intsBAll B L xs = true → ∀ x ∈ xs, intsB B L x = true
  | [], _, x, hx => nomatch hx
  | y :: xs, q, x, hx => by
    unfold intsBAll at q
    have z := Bool.and_eq_true_iff.mp q
    rcases List.mem_cons.mp hx with rfl | hx
    · exact z.1
    · exact intsBAll_mem z.2 x hx
theorem intsBAll_of {B L : Nat} : ∀ {xs : List PyData}, (∀ x ∈ xs, intsB B L x = true) → intsBAll B L xs = true
  | [], _ => by unfold intsBAll; rfl
  | y :: xs, q => by
    unfold intsBAll
    exact Bool.and_eq_true_iff.mpr ⟨q y List.mem_cons_self, intsBAll_of fun x hx => q x (List.mem_cons_of_mem _ hx)⟩
/-- what may be shown, with numbers below B -/
structure Fine (B L : Nat) (d : PyData) : Prop where
  shows : d.showable = true
  short : d.leavesShort 40 = true
  nums : intsB B L d = true
theorem Fine.mono {B C L M : Nat} {d : PyData} (h : Fine B L d) (l : B ≤ C) (g : L ≤ M) : Fine C M d := ⟨h.shows, h.short, intsB_mono l g d h.nums⟩
theorem Fine.bool (B L : Nat) (b : Bool) : Fine B L (.bool b) := ⟨rfl, rfl, by unfold intsB; rfl⟩
theorem Fine.none (B L : Nat) : Fine B L .none := ⟨rfl, rfl, by unfold intsB; rfl⟩
theorem Fine.int {B L : Nat} {i : Int} (h : i.natAbs < B) (l : B ≤ 10 ^ 30) : Fine B L (.int i) := by
  have s := Sm.int (Nat.lt_of_lt_of_le h l)
  exact ⟨s.shows, s.short, by unfold intsB; exact decide_eq_true h⟩
theorem Fine.lt {B L : Nat} {i : Int} (h : Fine B L (.int i)) : i.natAbs < B := by
  have z := h.nums
  unfold intsB at z
  exact of_decide_eq_true z
theorem fine_seq {B L : Nat} {ds : List PyData} (h : ∀ x ∈ ds, Fine B L x) : PyData.showableAll ds = true ∧ PyData.leavesShortAll 40 ds = true ∧ intsBAll B L ds = true := by
  induction ds with
  | nil => exact ⟨rfl, rfl, by unfold intsBAll; rfl⟩
  | cons d ds ih =>
    obtain ⟨a, b, c⟩ := ih fun x hx => h x (List.mem_cons_of_mem _ hx)
    have z := h d List.mem_cons_self
    refine ⟨?_, ?_, intsBAll_of fun x hx => (h x hx).nums⟩
    · show (d.showable && PyData.showableAll ds) = true
      rw [z.shows, a]
      rfl
    · show (d.leavesShort 40 && PyData.leavesShortAll 40 ds) = true
      rw [z.short, b]
      rfl
theorem Fine.tup {B L : Nat} {ds : List PyData} (l : ds.length ≤ L) (h : ∀ x ∈ ds, Fine B L x) : Fine B L (.tuple ds) :=
  let ⟨a, b, c⟩ := fine_seq h
  ⟨a, b, by unfold intsB; exact Bool.and_eq_true_iff.mpr ⟨decide_eq_true l, c⟩⟩
theorem Fine.lst {B L : Nat} {ds : List PyData} (l : ds.length ≤ L) (h : ∀ x ∈ ds, Fine B L x) : Fine B L (.list ds) :=
  let ⟨a, b, c⟩ := fine_seq h
  ⟨a, b, by unfold intsB; exact Bool.and_eq_true_iff.mpr ⟨decide_eq_true l, c⟩⟩
theorem fine_all {B L : Nat} : ∀ {ds : List PyData}, PyData.showableAll ds = true → PyData.leavesShortAll 40 ds = true → intsBAll B L ds = true → ∀ x ∈ ds, Fine B L x
  | [], _, _, _, x, hx => nomatch hx
  | d :: ds, h1, h2, h3, x, hx => by
    have z1 := Bool.and_eq_true_iff.mp (show (d.showable && PyData.showableAll ds) = true from h1)
    have z2 := Bool.and_eq_true_iff.mp (show (d.leavesShort 40 && PyData.leavesShortAll 40 ds) = true from h2)
    unfold intsBAll at h3
    have z3 := Bool.and_eq_true_iff.mp h3
    rcases List.mem_cons.mp hx with rfl | hx
    · exact ⟨z1.1, z2.1, z3.1⟩
    · exact fine_all z1.2 z2.2 z3.2 x hx
theorem Fine.mem {B L : Nat} {ds : List PyData} (h : Fine B L (.tuple ds)) : ∀ x ∈ ds, Fine B L x := by
  have c := h.nums
  unfold intsB at c
  exact fine_all h.shows h.short (Bool.and_eq_true_iff.mp c).2
theorem Fine.len {B L : Nat} {ds : List PyData} (h : Fine B L (.tuple ds)) : ds.length ≤ L := by
  have c := h.nums
  unfold intsB at c
  exact of_decide_eq_true (Bool.and_eq_true_iff.mp c).1
theorem wAll_app : ∀ {a b : List PyData}, PyData.weightAll (a ++ b) = PyData.weightAll a + PyData.weightAll b
  | [], b => (Nat.zero_add _).symm
  | x :: a, b => by
    show x.weight + 1 + PyData.weightAll (a ++ b) = x.weight + 1 + PyData.weightAll a + PyData.weightAll b
    rw [wAll_app]
    omega
theorem wAll_mem : ∀ {a : List PyData} {x : PyData}, x ∈ a → x.weight + 1 ≤ PyData.weightAll a
  | y :: a, x, h => by
    show x.weight + 1 ≤ y.weight + 1 + PyData.weightAll a
    rcases List.mem_cons.mp h with rfl | h
    · omega
    · have := wAll_mem h
      omega
theorem wAll_take (n : Nat) (a : List PyData) : PyData.weightAll (a.take n) ≤ PyData.weightAll a := by
  have := wAll_app (a := a.take n) (b := a.drop n)
  rw [List.take_append_drop] at this
  omega
theorem wAll_drop (n : Nat) (a : List PyData) : PyData.weightAll (a.drop n) ≤ PyData.weightAll a := by
  have := wAll_app (a := a.take n) (b := a.drop n)
  rw [List.take_append_drop] at this
  omega
theorem wAll_rev : ∀ a : List PyData, PyData.weightAll a.reverse = PyData.weightAll a
  | [] => rfl
  | x :: a => by
    rw [List.reverse_cons, wAll_app, wAll_rev a]
    show PyData.weightAll a + (x.weight + 1 + 0) = x.weight + 1 + PyData.weightAll a
    omega
theorem wAll_set {ds : List PyData} {i : Nat} {x y : PyData} (h : ds[i]? = some x) : PyData.weightAll (ds.take i ++ [y] ++ ds.drop (i + 1)) + x.weight = PyData.weightAll ds + y.weight := by
  have e : ds = ds.take i ++ [x] ++ ds.drop (i + 1) := by
    obtain ⟨z, w⟩ := List.getElem?_eq_some_iff.mp h
    rw [← w, List.append_assoc, List.singleton_append, List.getElem_cons_drop, List.take_append_drop]
  have w1 := congrArg PyData.weightAll e
  rw [wAll_app, wAll_app] at w1 ⊢
  show _ + (y.weight + 1 + 0) + _ + _ = _
  rw [w1]
  show _ = _ + (x.weight + 1 + 0) + _ + _
  omega
theorem dAll_mem : ∀ {a : List PyData} {n : Nat}, (∀ x ∈ a, x.depth ≤ n) → PyData.depthAll a ≤ n
  | [], _, _ => Nat.zero_le _
  | x :: a, n, h => Nat.max_le.mpr ⟨h x List.mem_cons_self, dAll_mem fun y hy => h y (List.mem_cons_of_mem _ hy)⟩
theorem dAll_le : ∀ {a : List PyData} {x : PyData}, x ∈ a → x.depth ≤ PyData.depthAll a
  | y :: a, x, h => by
    rcases List.mem_cons.mp h with rfl | h
    · exact Nat.le_max_left _ _
    · exact Nat.le_trans (dAll_le h) (Nat.le_max_right _ _)
theorem len_weight : ∀ a : List PyData, a.length ≤ PyData.weightAll a
  | [] => Nat.le_refl _
  | x :: a => by
    have := len_weight a
    show a.length + 1 ≤ x.weight + 1 + PyData.weightAll a
    omega
/-- a value of data: fine, of weight at most N and depth at most dp -/
def Gwt (K : PySem.W.Frag) (B L N dp : Nat) (G : Hp) (v : V) : Prop := ∃ d, Dv K G v d ∧ Fine B L d ∧ d.weight ≤ N ∧ d.depth ≤ dp
/-- items of data, of weight at most N together -/
def Rwt (K : PySem.W.Frag) (B L N dp : Nat) (G : Hp) (us : List V) : Prop := ∃ ds, DvAll K G us ds ∧ (∀ x ∈ ds, Fine B L x ∧ x.depth ≤ dp) ∧ PyData.weightAll ds ≤ N
section
variable {K : PySem.W.Frag} {B C L L2 N M dp dq : Nat} {G G' : Hp} {v : V} {us vs : List V}
theorem Gwt.same (h : Gwt K B L N dp G v) (s : Same G G') : Gwt K B L N dp G' v :=
  let ⟨d, a, b, c⟩ := h
  ⟨d, dv_same s a, b, c⟩
theorem Gwt.mono (h : Gwt K B L N dp G v) (l1 : B ≤ C) (l4 : L ≤ L2) (l2 : N ≤ M) (l3 : dp ≤ dq) : Gwt K C L2 M dq G v :=
  let ⟨d, a, b, c, e⟩ := h
  ⟨d, a, b.mono l1 l4, Nat.le_trans c l2, Nat.le_trans e l3⟩
theorem Gwt.sm (h : Gwt K B L N dp G v) : ∃ d, Dv K G v d ∧ Sm N dp d :=
  let ⟨d, a, b, c, e⟩ := h
  ⟨d, a, b.shows, b.short, c, e⟩
theorem Rwt.same (h : Rwt K B L N dp G us) (s : Same G G') : Rwt K B L N dp G' us :=
  let ⟨ds, a, b⟩ := h
  ⟨ds, dvAll_same s a, b⟩
theorem Rwt.mono (h : Rwt K B L N dp G us) (l1 : B ≤ C) (l4 : L ≤ L2) (l2 : N ≤ M) (l3 : dp ≤ dq) : Rwt K C L2 M dq G us :=
  let ⟨ds, a, b, c⟩ := h
  ⟨ds, a, fun x hx => ⟨(b x hx).1.mono l1 l4, Nat.le_trans (b x hx).2 l3⟩, Nat.le_trans c l2⟩
theorem Rwt.len (h : Rwt K B L N dp G us) : us.length ≤ N := by
  obtain ⟨ds, a, b, c⟩ := h
  rw [a.length]
  exact Nat.le_trans (len_weight ds) c
theorem dvAll_take' : ∀ {us : List V} {ds : List PyData}, DvAll K G us ds → ∀ n : Nat, DvAll K G (us.take n) (ds.take n)
  | _, _, .nil, n => by
    rw [List.take_nil, List.take_nil]
    exact .nil
  | _, _, .cons a b, 0 => .nil
  | _, _, .cons a b, n + 1 => .cons a (dvAll_take' b n)
theorem dvAll_drop' : ∀ {us : List V} {ds : List PyData}, DvAll K G us ds → ∀ n : Nat, DvAll K G (us.drop n) (ds.drop n)
  | _, _, .nil, n => by
    rw [List.drop_nil, List.drop_nil]
    exact .nil
  | _, _, .cons a b, 0 => .cons a b
  | _, _, .cons a b, n + 1 => dvAll_drop' b n
theorem dvAll_rev' : ∀ {vs : List V} {ds : List PyData}, DvAll K G vs ds → DvAll K G vs.reverse ds.reverse
  | _, _, .nil => .nil
  | _, _, .cons a b => by
    rw [List.reverse_cons, List.reverse_cons]
    exact (dvAll_rev' b).append (.cons a .nil)
theorem Rwt.cut (h : Rwt K B L N dp G us) (lo hi : Option Int) : Rwt K B L N dp G (cutV us lo hi) := by
  obtain ⟨ds, a, b, c⟩ := h
  unfold cutV
  exact ⟨_, dvAll_take' (dvAll_drop' a _) _, fun x hx => b x (List.mem_of_mem_drop (List.mem_of_mem_take hx)), Nat.le_trans (wAll_take _ _) (Nat.le_trans (wAll_drop _ _) c)⟩
theorem Rwt.cat (h : Rwt K B L N dp G us) (h2 : Rwt K B L M dp G vs) : Rwt K B L (N + M) dp G (us ++ vs) := by
  obtain ⟨ds, a, b, c⟩ := h
  obtain ⟨es, a2, b2, c2⟩ := h2
  refine ⟨_, a.append a2, fun x hx => ?_, by rw [wAll_app]; omega⟩
  rcases List.mem_append.mp hx with hx | hx
  · exact b x hx
  · exact b2 x hx
theorem Rwt.rev (h : Rwt K B L N dp G us) : Rwt K B L N dp G us.reverse := by
  obtain ⟨ds, a, b, c⟩ := h
  exact ⟨_, dvAll_rev' a, fun x hx => b x (List.mem_reverse.mp hx), by rw [wAll_rev]; exact c⟩
theorem Rwt.nil : Rwt K B L 0 dp G [] := ⟨[], .nil, (fun x hx => nomatch hx), Nat.le_refl _⟩
theorem Rwt.cons (h : Gwt K B L N dp G v) (h2 : Rwt K B L M dp G us) : Rwt K B L (N + 1 + M) dp G (v :: us) := by
  obtain ⟨d, a, b, c, e⟩ := h
  obtain ⟨ds, a2, b2, c2⟩ := h2
  refine ⟨d :: ds, .cons a a2, fun x hx => ?_, by show d.weight + 1 + PyData.weightAll ds ≤ _; omega⟩
  rcases List.mem_cons.mp hx with rfl | hx
  · exact ⟨b, e⟩
  · exact b2 x hx
theorem Rwt.one (h : Gwt K B L N dp G v) : Rwt K B L (N + 1) dp G [v] := Rwt.cons h .nil
theorem Rwt.tup (h : Rwt K B L N dp G us) (l : us.length ≤ L) {p : Addr} (e : G p = some (.tup us)) : Gwt K B L N (dp + 1) G (.ref p) := by
  obtain ⟨ds, a, b, c⟩ := h
  exact ⟨_, .tup e a, .tup (by rw [← a.length]; exact l) fun x hx => (b x hx).1, c, Nat.succ_le_succ (dAll_mem fun x hx => (b x hx).2)⟩
theorem Rwt.lst (h : Rwt K B L N dp G us) (l : us.length ≤ L) {p : Addr} (e : G p = some (.lst us)) : Gwt K B L N (dp + 1) G (.ref p) := by
  obtain ⟨ds, a, b, c⟩ := h
  exact ⟨_, .lst e a, .lst (by rw [← a.length]; exact l) fun x hx => (b x hx).1, c, Nat.succ_le_succ (dAll_mem fun x hx => (b x hx).2)⟩
/-- the row with one item replaced weighs as much more as the new item does -/
theorem swap_row {ds : List PyData} {y : V} {d : PyData} {i : Nat} (all : DvAll K G us ds) (fine : ∀ x ∈ ds, Fine B L x ∧ x.depth ≤ dp) (ed : ds[i]? = some d) (hy : Gwt K C L2 (2 * d.weight + M) dq G y) (l : B ≤ C) (l4 : L ≤ L2) (l3 : dp ≤ dq) : Rwt K C L2 (2 * PyData.weightAll ds + M) dq G (us.take i ++ [y] ++ us.drop (i + 1)) := by
  have wd := wAll_mem (List.mem_of_getElem? ed)
  obtain ⟨x, hx1, hx2, hx3, hx4⟩ := hy
  refine ⟨ds.take i ++ [x] ++ ds.drop (i + 1), ((dvAll_take' all i).append (.cons hx1 .nil)).append (dvAll_drop' all (i + 1)), fun z hz => ?_, ?_⟩
  · rcases List.mem_append.mp hz with hz | hz
    · rcases List.mem_append.mp hz with hz | hz
      · have m := fine z (List.mem_of_mem_take hz)
        exact ⟨m.1.mono l l4, Nat.le_trans m.2 l3⟩
      · rw [List.mem_singleton.mp hz]
        exact ⟨hx2, hx4⟩
    · have m := fine z (List.mem_of_mem_drop hz)
      exact ⟨m.1.mono l l4, Nat.le_trans m.2 l3⟩
  · have := wAll_set (y := x) ed
    omega
end

/-! ### demands among values of any kind -/
def hasB : PyData → PyData → Bool
  | .int p, .tuple [.int x, .int y] => decide (x ≤ p) && decide (p ≤ y)
  | _, _ => false
def demB : PyData → Bool
  | .tuple [a, b] => inB 0 1000000000000 a && (ivB b && hasB a b)
  | _ => false
theorem dem_shape {d : PyData} (h : demB d = true) : ∃ p x y, d = .tuple [.int p, .tuple [.int x, .int y]] ∧ 0 ≤ x ∧ x ≤ p ∧ p ≤ y ∧ y ≤ 1000000000000 := by
  match d, h with
  | .tuple [a, b], h =>
    have h' : (inB 0 1000000000000 a && (ivB b && hasB a b)) = true := h
    have h1 := Bool.and_eq_true_iff.mp h'
    have h2 := Bool.and_eq_true_iff.mp h1.2
    obtain ⟨x, y, rfl⟩ := iv_shape h2.1
    cases a with
    | int p =>
      have h3 := Bool.and_eq_true_iff.mp (show (decide (x ≤ p) && decide (p ≤ y)) = true from h2.2)
      have h4 : (inB 0 1000000000000 (.int x) && (inB 0 1000000000000 (.int y) && leB (.int x) (.int y))) = true := h2.1
      have h5 := Bool.and_eq_true_iff.mp h4
      have h6 := Bool.and_eq_true_iff.mp h5.2
      have h7 := Bool.and_eq_true_iff.mp (show (decide ((0 : Int) ≤ x) && decide (x ≤ 1000000000000)) = true from h5.1)
      have h8 := Bool.and_eq_true_iff.mp (show (decide ((0 : Int) ≤ y) && decide (y ≤ 1000000000000)) = true from h6.1)
      exact ⟨p, x, y, rfl, of_decide_eq_true h7.1, of_decide_eq_true h3.1, of_decide_eq_true h3.2, of_decide_eq_true h8.2⟩
    | _ => exact (Bool.false_ne_true h1.1).elim
theorem dem_int {p x y : Int} : demB (.tuple [.int p, .tuple [.int x, .int y]]) = (decide (0 ≤ x) && (decide (x ≤ p) && (decide (p ≤ y) && decide (y ≤ 1000000000000)))) := by
  show ((decide ((0 : Int) ≤ p) && decide (p ≤ 1000000000000)) && (((decide ((0 : Int) ≤ x) && decide (x ≤ 1000000000000)) && ((decide ((0 : Int) ≤ y) && decide (y ≤ 1000000000000)) && decide (x ≤ y))) && (decide (x ≤ p) && decide (p ≤ y)))) = _
  rw [Bool.eq_iff_iff]
  simp only [Bool.and_eq_true, decide_eq_true_eq]
  omega
theorem dem_two {d : PyData} (h : ¬ tlB 2 d = true) : demB d = false := by
  match d, h with
  | .tuple [a, b], h => exact absurd rfl h
  | .tuple [], _ => rfl
  | .tuple [_], _ => rfl
  | .tuple (_ :: _ :: _ :: l), _ => rfl
  | .none, _ => rfl
  | .bool _, _ => rfl
  | .int _, _ => rfl
  | .str _, _ => rfl
  | .list _, _ => rfl
  | .dict _, _ => rfl
def sp_is_demand (K : PySem.W.Frag) : Sp := fun vs H Q _ => ∃ (v : V) (d : PyData), vs = [v] ∧ Dv K H v d ∧ Q (.bl (demB d)) H
theorem ok_is_demand (T : Tx K mg f_depth_changes f_find_blocks f_is_number f_is_position f_is_tuple_of f_is_interval f_is_ascending f_has_position f_contains f_is_demand f_serves f_conflict f_is_independent f_demands_at_blocks f_is_open f_open_demands f_shadow_target f_pieces_inside f_first_gap f_find_missing f_require_few_blocks f_decisive_demands f_largest_independent f_unserved_demands f_helpful_piece f_smallest_solution f_solve f_are_witnesses f_solution_holds f_law_draws f_law_next f_law_one f_law_spans f_law_targets f_law_covers f_law_is_interval f_law_is_demand f_law_rising f_law_served f_law_clash f_law_are_witnesses f_law_solved f_law_bent f_law d_depth_changes d_find_blocks d_is_number d_is_position d_is_tuple_of d_is_interval d_is_ascending d_has_position d_contains d_is_demand d_serves d_conflict d_is_independent d_demands_at_blocks d_is_open d_open_demands d_shadow_target d_pieces_inside d_first_gap d_find_missing d_require_few_blocks d_decisive_demands d_largest_independent d_unserved_demands d_helpful_piece d_smallest_solution d_solve d_are_witnesses d_solution_holds d_law_draws d_law_next d_law_one d_law_spans d_law_targets d_law_covers d_law_is_interval d_law_is_demand d_law_rising d_law_served d_law_clash d_law_are_witnesses d_law_solved d_law_bent d_law t_LAST_POSITION t_MAX_BLOCKS) : FnOk P w K mg base CX0 4 f_is_demand d_is_demand ["value"] (sp_is_demand K) := by
  refine T.F_is_demand.ok sc_is_demand (fun vs H Q E h => ?_) (fun cdv A outer s H vs Q E hr h => ?_)
  · obtain ⟨v, d, rfl, _⟩ := h
    rfl
  · obtain ⟨v, d, rfl, hd, q⟩ := h
    refine ⟨_, (pss_cons (ps_if (pt_not (pt_val (pe_call (ok_is_tuple_of T) (hr.mono (by decide)) (by rfl) T.g_is_tuple_of T.F_is_tuple_of.kp T.b_is_tuple_of .nil pass0 (pa_cons (pv 0) (pa_cons pe_int pa_nil)))))
      (pss_one (ps_ret pe_bl))
      pss_nil)
      (pss_cons (ps_asg (pv 0) (pg_tup rfl (pgs_cons (pg_name (i := 1) sc_is_demand.nd rfl (Or.inl rfl)) (pgs_cons (pg_name (i := 2) sc_is_demand.nd rfl (Or.inl rfl)) pgs_nil))))
      (pss_one (ps_ret (pe_and (pe_call (ok_is_position T) (hr.mono (by decide)) (by rfl) T.g_is_position T.F_is_position.kp T.b_is_position .nil pass0 (pa_cons (pv 1) pa_nil)) (pe_and (pe_call (ok_is_interval T) (hr.mono (by decide)) (by rfl) T.g_is_interval T.F_is_interval.kp T.b_is_interval .nil pass0 (pa_cons (pv 2) pa_nil)) (pe_one (pe_call (ok_has_position T) (hr.mono (by decide)) (by rfl) T.g_has_position T.F_has_position.kp T.b_has_position .nil pass0 (pa_cons (pv 2) (pa_cons (pv 1) pa_nil)))))))))), ?_⟩
    refine ⟨v, rfl, v, d, 2, rfl, hd, _, rfl, ?_⟩
    by_cases tb : tlB 2 d = true
    · rw [tb]
      refine iteF ?_
      obtain ⟨d1, d2, rfl⟩ := tl_two tb
      cases hd with
      | @tup a xs ds e all =>
        match xs, all, e, q with
          | [v1, v2], .cons h1 (.cons h2 .nil), e, q =>
            have q' : Q (.bl (inB 0 1000000000000 d1 && (ivB d2 && hasB d1 d2))) H := q
            refine ⟨.ref a, rfl, a, _, rfl, SqT.of e, rfl, v1, [v2], rfl, v2, [], rfl, rfl, ?_⟩
            refine ⟨v1, rfl, v1, d1, rfl, h1, _, rfl, ite2 (fun e1 => ?_) (fun e1 => ?_)⟩
            · rw [e1] at q'
              refine ⟨v2, rfl, v2, d2, rfl, h2, _, rfl, ite2 (fun e2 => ?_) (fun e2 => ?_)⟩
              · rw [e2] at q'
                obtain ⟨x, y, rfl⟩ := iv_shape e2
                obtain ⟨b, rfl, hb⟩ := h2.asPair
                cases d1 with
                | int p =>
                  have x1 := h1.asInt
                  subst x1
                  exact ⟨.ref b, rfl, .int p, rfl, b, x, y, p, rfl, hb, q'⟩
                | _ => exact absurd e1 (by simp [inB])
              · rw [Bool.not_eq_true] at e2
                rw [e2] at q'
                exact q'
            · rw [Bool.not_eq_true] at e1
              rw [e1] at q'
              exact q'
    · rw [dem_two tb] at q
      rw [Bool.not_eq_true] at tb
      rw [tb]
      exact iteT q
def toDem : PyData → Dem
  | .tuple [.int p, .tuple [.int x, .int y]] => (p, x, y)
  | _ => (0, 0, 0)
theorem Dv.asDem {K : PySem.W.Frag} {H : Hp} {v : V} {p x y : Int} (h : Dv K H v (.tuple [.int p, .tuple [.int x, .int y]])) : ∃ u t, v = .ref u ∧ H u = some (.tup [.int p, .ref t]) ∧ H t = some (.tup [.int x, .int y]) := by
  cases h with
  | @tup a xs _ e all =>
    match xs, all with
    | [_, _], .cons h1 (.cons h2 .nil) =>
      cases h1
      obtain ⟨b, rfl, hb⟩ := h2.asPair
      exact ⟨a, b, rfl, e, hb⟩
theorem dems_of {K : PySem.W.Frag} {H : Hp} : ∀ {xs : List V} {ds : List PyData}, DvAll K H xs ds → ds.all demB = true → Dms H xs (ds.map toDem)
  | _, _, .nil, _ => .nil
  | _, _, .cons a b, h => by
    rw [List.all_cons] at h
    have h := Bool.and_eq_true_iff.mp h
    obtain ⟨p, x, y, rfl, _, h2, h3, _⟩ := dem_shape h.1
    exact .cons ⟨a.asDem, h2, h3⟩ (dems_of b h.2)
def badAt (W : List Dem) (k : Nat) : Bool := (W.take k).any fun z => cf (W.getD k (0, 0, 0)) z
def indL (W : List Dem) : Bool := !(List.range W.length).any (badAt W)
theorem ind_no {W : List Dem} {k : Nat} (hk : k < W.length) (h : badAt W k = true) : indL W = false := by
  unfold indL
  rw [List.any_eq_true.mpr ⟨k, List.mem_range.mpr hk, h⟩]
  rfl
theorem ind_yes {W : List Dem} (h : ∀ k, k < W.length → badAt W k = false) : indL W = true := by
  unfold indL
  rw [List.any_eq_false.mpr fun k hk => by rw [h k (List.mem_range.mp hk)]; decide]
  rfl
def indB : PyData → Bool
  | .tuple ds => ds.all demB && indL (ds.map toDem)
  | _ => false
theorem ind_tup {d : PyData} (h : tupB d = false) : indB d = false := by
  cases d with
  | tuple ds => cases h
  | _ => rfl
theorem getD_some' {ds : List Dem} {i : Nat} {d : Dem} (h : ds[i]? = some d) : ds.getD i (0, 0, 0) = d := by
  rw [List.getD_eq_getElem?_getD, h]
  rfl
theorem any_take {W : List Dem} {p : Dem → Bool} {j : Nat} {z : Dem} (h : W[j]? = some z) : (W.take (j + 1)).any p = ((W.take j).any p || p z) := by
  rw [List.take_add_one, h, List.any_append]
  show (_ || (p z || false)) = _
  rw [Bool.or_false]
def sp_is_independent (K : PySem.W.Frag) : Sp := fun vs H Q _ => ∃ (v : V) (d : PyData), vs = [v] ∧ Dv K H v d ∧ d.weight ≤ 100000 ∧ ∀ H', Same H H' → Q (.bl (indB d)) H'
theorem ok_is_independent (T : Tx K mg f_depth_changes f_find_blocks f_is_number f_is_position f_is_tuple_of f_is_interval f_is_ascending f_has_position f_contains f_is_demand f_serves f_conflict f_is_independent f_demands_at_blocks f_is_open f_open_demands f_shadow_target f_pieces_inside f_first_gap f_find_missing f_require_few_blocks f_decisive_demands f_largest_independent f_unserved_demands f_helpful_piece f_smallest_solution f_solve f_are_witnesses f_solution_holds f_law_draws f_law_next f_law_one f_law_spans f_law_targets f_law_covers f_law_is_interval f_law_is_demand f_law_rising f_law_served f_law_clash f_law_are_witnesses f_law_solved f_law_bent f_law d_depth_changes d_find_blocks d_is_number d_is_position d_is_tuple_of d_is_interval d_is_ascending d_has_position d_contains d_is_demand d_serves d_conflict d_is_independent d_demands_at_blocks d_is_open d_open_demands d_shadow_target d_pieces_inside d_first_gap d_find_missing d_require_few_blocks d_decisive_demands d_largest_independent d_unserved_demands d_helpful_piece d_smallest_solution d_solve d_are_witnesses d_solution_holds d_law_draws d_law_next d_law_one d_law_spans d_law_targets d_law_covers d_law_is_interval d_law_is_demand d_law_rising d_law_served d_law_clash d_law_are_witnesses d_law_solved d_law_bent d_law t_LAST_POSITION t_MAX_BLOCKS) : FnOk P w K mg base CX0 5 f_is_independent d_is_independent ["value"] (sp_is_independent K) := by
  refine T.F_is_independent.ok sc_is_independent (fun vs H Q E h => ?_) (fun cdv A outer s H vs Q E hr h => ?_)
  · obtain ⟨v, d, rfl, _⟩ := h
    rfl
  · obtain ⟨v, d, rfl, hd, wt, q⟩ := h
    refine ⟨_, (pss_cons (ps_if (PW.pt (pw_or (pt_not (pt_val (pe_callB call_isi (by rfl) T.z_isinstance (by decide +kernel) (pa_cons (pv 0) (pa_cons (pe_bltn (v := .ty "tuple") (u := .type "tuple") (by rfl) T.z_tuple (by decide +kernel) rfl) pa_nil))))) (pw_or1 (pt_not (pt_val (pe_callB (cr_all rfl) (by rfl) T.z_all (by decide +kernel) (pa_cons (pe_lc (own := [("item", 1)]) (g := (gName 1)) (tt := tYes) (by rfl) sc_is_independent.nd (pi_tup (pv 0)) (blkOk_by (own := [("item", 1)]) (N := N_is_independent) (sc := defScope s_is_independent) (by decide +kernel)) (fun _ _ _ _ _ => (pg_name (i := 1) sc_is_independent.nd rfl (Or.inl rfl))) (fun _ _ _ _ _ => pts_nil) (fun _ _ _ _ _ => (pe_call (ok_is_demand T) (hr.mono (by decide)) (by rfl) T.g_is_demand T.F_is_demand.kp T.b_is_demand .nil pass0 (pa_cons (pv 1) pa_nil)))) pa_nil)))))))
      (pss_one (ps_ret pe_bl))
      pss_nil)
      (pss_cons (ps_for PassesOwn.never rfl (pi_enumT (by rfl) T.z_enumerate (pa_cons (pv 0) pa_nil)) (pg_tup rfl (pgs_cons (pg_name (i := 2) sc_is_independent.nd rfl (Or.inl rfl)) (pgs_cons (pg_name (i := 3) sc_is_independent.nd rfl (Or.inr rfl)) pgs_nil)))
      (pss_one (ps_if (pt_val (pe_callB (cr_any rfl) (by rfl) T.z_any (by decide +kernel) (pa_cons (pe_lc (own := [("second", 4)]) (g := (gName 4)) (tt := tYes) (by rfl) sc_is_independent.nd (pi_tup (pe_slice sl_tupA (pv 0) po_none (po_some (pv 2)))) (blkOk_by (own := [("second", 4)]) (N := N_is_independent) (sc := defScope s_is_independent) (by decide +kernel)) (fun _ _ _ _ _ => (pg_name (i := 4) sc_is_independent.nd rfl (Or.inl rfl))) (fun _ _ _ _ _ => pts_nil) (fun _ _ _ _ _ => (pe_call (ok_conflict T) (hr.mono (by decide)) (by rfl) T.g_conflict T.F_conflict.kp T.b_conflict .nil pass0 (pa_cons (pv 3) (pa_cons (pv 4) pa_nil))))) pa_nil)))
      (pss_one (ps_ret pe_bl))
      pss_nil)))
      (pss_one (ps_ret pe_bl)))), ?_⟩
    refine ⟨v, rfl, v, .ty "tuple", _, _, _, rfl, .ty "tuple", hd.ty, kit_tup d, _, rfl, ?_⟩
    cases tb : tupB d with
    | false =>
      rw [ind_tup tb] at q
      exact iteT (iteT (q H (Same.refl _)))
    | true =>
      refine iteF ?_
      cases hd with
      | @tup a xs ds e all =>
        have lx := all.length
        have lw := len_weight ds
        have wt' : PyData.weightAll ds ≤ 100000 := wt
        have q' : ∀ H', Same H H' → Q (.bl (ds.all demB && indL (ds.map toDem))) H' := q
        refine ⟨.ref a, rfl, a, rfl, ⟨_, SqT.of e⟩, fun D nD => ?_⟩
        refine lcTb (K := K) (a := a) (xs := xs) (fun j H' ws => ws = ((ds.take j).map demB).map V.bl) nD (fun H' s => SqT.of (s _ _ (e))) (by omega) (fun _ _ _ _ t r => r) (fun j H' ws r => (by rw [r, List.length_map, List.length_map]; exact List.length_take_le _ _)) (fun _ => rfl) ?_ ?_
        · rintro j z H' N acc hj sm eA sz rr no yes
          obtain ⟨x, ex, hx⟩ := all.get hj
          refine ⟨rfl, z, rfl, z, x, rfl, dv_same sm hx, yes _ _ (Same.refl _) ?_⟩
          rw [rr, List.take_add_one, ex, List.map_append, List.map_append]
          rfl
        intro H1 ws s1 eD rr
        rw [lx, List.take_length] at rr
        subst rr
        refine ⟨D, _, rfl, SqL.of eD, ?_⟩
        have eqall : (ds.map demB).all id = ds.all demB := by rw [List.all_map]; rfl
        rw [eqall]
        cases ea : ds.all demB with
        | false =>
          refine ⟨_, rfl, iteT ?_⟩
          rw [ea] at q'
          exact q' H1 s1
        | true =>
          rw [ea] at q'
          refine ⟨_, rfl, iteF ?_⟩
          have e1 := s1 _ _ e
          have dm : Dms H1 xs (ds.map toDem) := dems_of (dvAll_same s1 all) ea
          generalize ds.map toDem = W at *
          have lW := dm.length
          refine ⟨.ref a, rfl, a, xs, rfl, SqT.of e1, ?_⟩
          refine for_enumT (K := K) (a := a) (xs := xs) (D := ⟨_, _, fun _ _ => True, fun _ _ => True⟩) (fun j σ H' => Same H1 H' ∧ (∀ k, k < j → badAt W k = false) ∧ ∃ y1 y2 y3 y4, σ = [some (.ref a), y1, y2, y3, y4])
            ⟨Same.refl _, (fun k hk => absurd hk (Nat.not_lt_zero k)), _, _, _, _, rfl⟩ (fun j σ H' h => SqT.of (h.1 _ _ e1)) ?_ ?_
          · rintro k z TT σ H3 hz ⟨s3, ok, y1, y2, y3, y4, rfl⟩ nT
            obtain ⟨p, lo, hi, ed, dz⟩ := (dm.same s3).get hz
            have kl := (List.getElem?_eq_some_iff.mp ed).1
            have gk := getD_some' ed
            have sT := same_new (o := .tup [.int (k : Nat), z]) nT
            have eT := upd_same (H := H3) (a := TT) (o := .tup [.int (k : Nat), z])
            generalize upd H3 TT (.tup [.int (k : Nat), z]) = H4 at *
            have s4 := s3.trans sT
            have dz4 := dz.same sT
            refine ⟨TT, _, rfl, SqT.of eT, rfl, .int (k : Nat), [z], rfl, z, [], rfl, rfl, ?_⟩
            refine ⟨.ref a, rfl, .int (k : Nat), rfl, k, rfl, slA_any (s4 _ _ e1) (fun H7 sl s7 esl => ?_)⟩
            rw [cutTo] at esl
            have s07 := s4.trans s7
            refine ⟨sl, rfl, ⟨_, SqT.of esl⟩, fun D3 nD3 => ?_⟩
            refine lcTb (K := K) (a := sl) (xs := (xs.take k)) (fun j H' ws => ∃ bs : List Bool, ws = bs.map V.bl ∧ bs.length ≤ j ∧ bs.any id = ((W.take k).take j).any fun o => cf (p, lo, hi) o) nD3 (fun H' s => SqT.of (s _ _ (esl))) (by rw [List.length_take]; omega) (fun _ _ _ _ t r => r) (fun j H' ws r => (by obtain ⟨bs, r1, r2, _⟩ := r; rw [r1, List.length_map]; exact r2)) (fun _ => ⟨[], rfl, Nat.le_refl _, rfl⟩) ?_ ?_
            · rintro j o H' N acc hj sm eA sz ⟨bs, rfl, rl, ra⟩ no yes
              obtain ⟨p2, lo2, hi2, eo, dzo⟩ := ((dm.same s07).take k).get hj
              refine ⟨rfl, z, rfl, o, rfl, z, o, p, lo, hi, p2, lo2, hi2, rfl, (dz4.same s7).same sm, dzo.same sm, ?_⟩
              refine yes H' _ (Same.refl _) ⟨bs ++ [cf (p, lo, hi) (p2, lo2, hi2)], by rw [List.map_append]; rfl, by rw [List.length_append]; show bs.length + 1 ≤ _; omega, ?_⟩
              rw [List.any_append, ra, any_take eo]
              show (_ || (id _ || false)) = _
              rw [Bool.or_false]
              rfl
            rintro H8 w8 s8 eD3 ⟨bs, rfl, rl, ra⟩
            refine ⟨D3, bs, rfl, SqL.of eD3, ?_⟩
            have lt : ((W.take k).take (xs.take k).length) = W.take k := by
              rw [List.length_take, List.take_of_length_le]
              rw [List.length_take]
              omega
            rw [lt] at ra
            have ba : badAt W k = bs.any id := by
              unfold badAt
              rw [gk, ra]
            cases eb : bs.any id with
            | true =>
              refine ⟨_, rfl, iteT ?_⟩
              rw [ind_no kl (ba.trans eb)] at q'
              exact q' _ (s1.trans (s07.trans s8))
            | false =>
              refine ⟨_, rfl, iteF ⟨s07.trans s8, fun k' hk' => ?_, _, _, _, _, rfl⟩⟩
              rcases Nat.lt_or_ge k' k with h | h
              · exact ok k' h
              · obtain rfl : k' = k := by omega
                exact ba.trans eb
          · rintro σ H3 ⟨s3, ok, y1, y2, y3, y4, rfl⟩
            rw [ind_yes fun k hk => ok k (by omega)] at q'
            exact q' H3 (s1.trans s3)
      | _ => exact (Bool.false_ne_true tb).elim

/-! ### a bool and an int -/
section
variable {X : Cx}
theorem op_add_bi : OpR X (binaryOp .Add) (fun x y H Q => ∃ (k : Bool) (j : Int), x = .bl k ∧ y = .int j ∧ Q (.int ((if k = true then (1 : Int) else 0) + j)) H) := by
  intro pins s σ H x y v u Q I rx ry h
  obtain ⟨k, j, rfl, rfl, q⟩ := h
  obtain ⟨t, rfl⟩ := ry
  cases rx
  exact PySem.IntBool.add_bool_int ⟨.int _, H, I.tok _, ⟨_, rfl⟩, q⟩
theorem op_sub_bi : OpR X (binaryOp .Sub) (fun x y H Q => ∃ (k : Bool) (j : Int), x = .bl k ∧ y = .int j ∧ Q (.int ((if k = true then (1 : Int) else 0) - j)) H) := by
  intro pins s σ H x y v u Q I rx ry h
  obtain ⟨k, j, rfl, rfl, q⟩ := h
  obtain ⟨t, rfl⟩ := ry
  cases rx
  exact PySem.IntBool.sub_bool_int ⟨.int _, H, I.tok _, ⟨_, rfl⟩, q⟩
end
theorem noPart_of {σ : L2.St} {H : Hp} {Q : Option Int → Hp → Prop} (h : Q none H) : tNoPart σ H Q := h
theorem fn_weak {P : Program} {w : World} {K : PySem.W.Frag} {mg : Str → Option Value} {base : Heap} {k : Nat} {f : Addr} {fd : FuncData} {ps : List Str} {sp0 sp1 : Sp} {CX : CXT} (F : FnOk P w K mg base CX k f fd ps sp0) (h : ∀ vs H Q E, sp1 vs H Q E → sp0 vs H Q E) : FnOk P w K mg base CX k f fd ps sp1 :=
  ⟨fun vs H Q E z => F.len vs H Q E (h _ _ _ _ z), fun A outer s H args us vs Q E hr he hb hv z => F.run A outer s H args us vs Q E hr he hb hv (h _ _ _ _ z)⟩
/-! ### the heap but for the deck and the table -/
def OffQ (d : Addr) (c : Addr × Addr × Addr) (H : Hp) : Hp := fun b => if b = d ∨ b = c.1 ∨ b = c.2.2 then none else H b
theorem offQ_get {d : Addr} {c : Addr × Addr × Addr} {H : Hp} {b : Addr} {o : HO} (n : Off d c b) (e : H b = some o) : OffQ d c H b = some o := by
  unfold OffQ
  rw [if_neg (fun z => z.elim n.1 fun z => z.elim n.2.1.1 n.2.1.2)]
  exact e
theorem offQ_at {d : Addr} {c : Addr × Addr × Addr} {H : Hp} {b : Addr} {o : HO} (e : OffQ d c H b = some o) : b ≠ d ∧ (b ≠ c.1 ∧ b ≠ c.2.2) ∧ H b = some o := by
  unfold OffQ at e
  by_cases z : b = d ∨ b = c.1 ∨ b = c.2.2
  · rw [if_pos z] at e
    cases e
  · rw [if_neg z] at e
    exact ⟨fun q => z (.inl q), ⟨fun q => z (.inr (.inl q)), fun q => z (.inr (.inr q))⟩, e⟩
theorem offQ_sub {d : Addr} {c : Addr × Addr × Addr} {H : Hp} : Same (OffQ d c H) H := fun _ _ e => (offQ_at e).2.2
theorem offQ_kp {d : Addr} {c : Addr × Addr × Addr} {H H' : Hp} (k : Kp d c H H') : Same (OffQ d c H) (OffQ d c H') := fun b o e => by
  obtain ⟨n1, n2, z⟩ := offQ_at e
  unfold OffQ
  rw [if_neg (fun z => z.elim n1 fun z => z.elim n2.1 n2.2)]
  exact k b o n1 n2 z
theorem Dk.offT {H : Hp} {d : Addr} {c : Addr × Addr × Addr} {n : Int} (h : Dk H d c n) {b : Addr} {us : List V} (e : H b = some (.tup us)) : Off d c b := by
  obtain ⟨⟨u1, e1⟩, ⟨u2, e2⟩, ⟨u3, e3⟩, ps, e4⟩ := h.two
  exact ⟨ne_of e e1 (fun z => by cases z), ⟨ne_of e e2 (fun z => by cases z), ne_of e e4 (fun z => by cases z)⟩, ne_of e e3 (fun z => by cases z)⟩
/-! ### values with a part replaced -/
def sp_bent (K : PySem.W.Frag) (D : Nat) : Sp := fun vs H Q _ => ∃ (d : Addr) (c : Addr × Addr × Addr) (m : Int) (v : V) (B L N dp : Nat), vs = [.ref d, v] ∧ Dk H d c m ∧ 0 ≤ m ∧ m + 2 * (D : Int) < 900000 ∧ 10 ^ 29 < B ∧ B + 10 ^ 13 ≤ 10 ^ 30 ∧ 1 ≤ L ∧ N ≤ 100000 ∧ dp ≤ D ∧ Gwt K B L N dp (OffQ d c H) v ∧
  ∀ H' v' m', Kp d c H H' → Dk H' d c m' → m ≤ m' → m' ≤ m + 2 * D + 2 → Gwt K (B + 10 ^ 13) (L + 1) (2 * N + 1001) (dp + 4) (OffQ d c H') v' → Q v' H'
theorem ok_bent (T : Tx K mg f_depth_changes f_find_blocks f_is_number f_is_position f_is_tuple_of f_is_interval f_is_ascending f_has_position f_contains f_is_demand f_serves f_conflict f_is_independent f_demands_at_blocks f_is_open f_open_demands f_shadow_target f_pieces_inside f_first_gap f_find_missing f_require_few_blocks f_decisive_demands f_largest_independent f_unserved_demands f_helpful_piece f_smallest_solution f_solve f_are_witnesses f_solution_holds f_law_draws f_law_next f_law_one f_law_spans f_law_targets f_law_covers f_law_is_interval f_law_is_demand f_law_rising f_law_served f_law_clash f_law_are_witnesses f_law_solved f_law_bent f_law d_depth_changes d_find_blocks d_is_number d_is_position d_is_tuple_of d_is_interval d_is_ascending d_has_position d_contains d_is_demand d_serves d_conflict d_is_independent d_demands_at_blocks d_is_open d_open_demands d_shadow_target d_pieces_inside d_first_gap d_find_missing d_require_few_blocks d_decisive_demands d_largest_independent d_unserved_demands d_helpful_piece d_smallest_solution d_solve d_are_witnesses d_solution_holds d_law_draws d_law_next d_law_one d_law_spans d_law_targets d_law_covers d_law_is_interval d_law_is_demand d_law_rising d_law_served d_law_clash d_law_are_witnesses d_law_solved d_law_bent d_law t_LAST_POSITION t_MAX_BLOCKS) (D lv : Nat) (lv2 : 2 ≤ lv) (ih : FnOk P w K mg base CX0 lv f_law_bent d_law_bent ["_law_state", "_law_value"] (fun vs H Q E => ∃ D', D = D' + 1 ∧ sp_bent K D' vs H Q E)) : FnOk P w K mg base CX0 (lv + 1) f_law_bent d_law_bent ["_law_state", "_law_value"] (sp_bent K D) := by
  refine T.F_law_bent.ok sc_law_bent (fun vs H Q E h => ?_) (fun cdv A outer s H vs Q E hr h => ?_)
  · obtain ⟨d, c, m, v, B, L, N, dp, rfl, _⟩ := h
    rfl
  · obtain ⟨d, c, m, v, B, L, N, dp, rfl, dk, m0, m1, hB, hB2, hL, hN, hD, ⟨dd, hd, fine, wt, dep⟩, q⟩ := h
    refine ⟨_, (C8.pss_cut (ps_if (PW.pt (pw_and (pt_val (pe_callB call_isi (by rfl) T.z_isinstance (by decide +kernel) (pa_cons (pv 1) (pa_cons (pe_bltn (v := .ty "tuple") (u := .type "tuple") (by rfl) T.z_tuple (by decide +kernel) rfl) pa_nil)))) (pw_and (pt_cmpR (show OpR _ (compareOp .NotEq) (rNeE K) from op_neE hr.units0) (pv 1) (pe_tup pa_nil) (nomark _)) (pw_and1 (pt_cmpR op_gt (pe_call (ok_law_next T) (hr.mono (by omega)) (by rfl) T.g_law_next T.F_law_next.kp T.b_law_next .nil pass0 (pa_cons (pv 0) (pa_cons pe_int pa_nil))) pe_int (nomark _))))))
      (pss_cons (ps_set (i := 2) sc_law_bent.nd rfl (Or.inl rfl) (pe_call (ok_law_next T) (hr.mono (by omega)) (by rfl) T.g_law_next T.F_law_next.kp T.b_law_next .nil pass0 (pa_cons (pv 0) (pa_cons (pe_callB call_len_seq (by rfl) T.z_len PySem.boot_len (pa_cons (pv 1) pa_nil)) pa_nil))))
      (pss_one (ps_ret (pe_op op_catA (pe_op op_catA (pe_slice sl_tupA (pv 1) po_none (po_some (pv 2))) (pe_tup (pa_cons (pe_call ih (hr.mono (by omega)) (by rfl) T.g_law_bent T.F_law_bent.kp T.b_law_bent .nil pass0 (pa_cons (pv 0) (pa_cons (pe_ix ix_tup (pv 1) (pv 2) (fun _ _ => rfl)) pa_nil))) pa_nil))) (pe_slice sl_tupA (pv 1) (po_some (pe_op op_add (pv 2) pe_int)) po_none)))))
      pss_nil)
      (pss_cons (ps_set (i := 3) sc_law_bent.nd rfl (Or.inl rfl) (pe_lst (pa_cons pe_non (pa_cons pe_bl (pa_cons pe_bl (pa_cons pe_int (pa_cons pe_int (pa_cons (pe_un un_neg pe_int) (pa_cons pe_str (pa_cons (pe_tup pa_nil) (pa_cons (pe_lst pa_nil) (pa_cons pe_dnewK (pa_cons (pe_tup (pa_cons (pv 1) pa_nil)) (pa_cons (pe_op op_pow pe_int pe_int) pa_nil))))))))))))))
      (C8.pss_cut (ps_if (pt_val (pe_callB call_isi (by rfl) T.z_isinstance (by decide +kernel) (pa_cons (pv 1) (pa_cons (pe_bltn (v := .ty "tuple") (u := .type "tuple") (by rfl) T.z_tuple (by decide +kernel) rfl) pa_nil))))
      (pss_one (ps_set (i := 3) sc_law_bent.nd rfl (Or.inl rfl) (pe_op op_cat (pv 3) (pe_lst (pa_cons (pe_slice sl_tupA (pv 1) (po_some pe_int) po_none) (pa_cons (pe_slice sl_tupA (pv 1) po_none (po_some (pe_un un_neg pe_int))) (pa_cons (pe_op op_catA (pv 1) (pe_slice sl_tupA (pv 1) po_none (po_some pe_int))) (pa_cons (pe_revT (pv 1)) (pa_cons (pe_callTy call_list_of (by rfl) T.z_list (by decide +kernel) (pa_cons (pv 1) pa_nil)) pa_nil)))))))))
      (pss_one (ps_if (pt_val (pe_callB call_isi (by rfl) T.z_isinstance (by decide +kernel) (pa_cons (pv 1) (pa_cons (pe_bltn (v := .ty "int") (u := .type "int") (by rfl) T.z_int (by decide +kernel) rfl) pa_nil))))
      (pss_one (ps_set (i := 3) sc_law_bent.nd rfl (Or.inl rfl) (pe_op op_cat (pv 3) (pe_lst (pa_cons (pe_op (OpR.or op_add op_add_bi) (pv 1) pe_int) (pa_cons (pe_op (OpR.or op_sub op_sub_bi) (pv 1) pe_int) (pa_cons (pe_op (OpR.or op_add op_add_bi) (pv 1) pe_int) (pa_cons (pe_op (OpR.or op_sub op_sub_bi) (pv 1) pe_int) (pa_cons (pe_cmpR (op_eqD hr.units) (pv 1) pe_int (nomark _)) pa_nil)))))))))
      pss_nil)))
      (pss_one (ps_ret (pe_call (ok_law_one T) (hr.mono (by omega)) (by rfl) T.g_law_one T.F_law_one.kp T.b_law_one .nil pass0 (pa_cons (pv 0) (pa_cons (pv 3) pa_nil)))))))), ?_⟩
    have big : sizeLine = 16777216 := by decide
    have e13 : (10 : Nat) ^ 13 = 10000000000000 := by decide
    have e29 : (10 : Nat) ^ 29 = 100000000000000000000000000000 := by decide
    have e30 : (10 : Nat) ^ 30 = 1000000000000000000000000000000 := by decide
    refine ⟨fun σ H' => ∃ m', Kp d c H H' ∧ Dk H' d c m' ∧ m ≤ m' ∧ m' ≤ m + 1 ∧ σ = [some (.ref d), some v, none, none], ?_, ?_⟩
    · have go : ∀ H' m', Kp d c H H' → Dk H' d c m' → m ≤ m' → m' ≤ m + 1 → ∃ m', Kp d c H H' ∧ Dk H' d c m' ∧ m ≤ m' ∧ m' ≤ m + 1 ∧ [some (V.ref d), some v, none, none] = [some (V.ref d), some v, none, none] := fun H' m' a b c e => ⟨m', a, b, c, e, rfl⟩
      refine ⟨v, rfl, v, .ty "tuple", _, _, _, rfl, .ty "tuple", (dv_same offQ_sub hd).ty, kit_tup dd, _, rfl, ?_⟩
      cases tb : tupB dd with
      | false => exact iteF (go H m (Kp.same (Same.refl _)) dk (Int.le_refl _) (by omega))
      | true =>
        refine iteT ?_
        cases hd with
        | @tup a us ds e all =>
          have aH := (offQ_at e).2.2
          have lu := all.length
          have lw := len_weight ds
          have wt' : PyData.weightAll ds ≤ N := wt
          have lL := fine.len
          refine ⟨.ref a, rfl, by show 0 ≤ sizeLine; decide, fun e0 ne0 => ?_⟩
          have s0 := same_new (o := .tup []) ne0
          have ee0 := upd_same (H := H) (a := e0) (o := .tup [])
          generalize upd H e0 (.tup []) = H0 at *
          have dk0 := dk.kept s0
          have a0 := s0 _ _ aH
          refine ⟨a, e0, us, rfl, rfl, SqT.of a0, SqT.of ee0, _, rfl, ite2 (fun c1 => ?_) (fun _ => go H0 m (Kp.same s0) dk0 (Int.le_refl _) (by omega))⟩
          have c1 : 0 < us.length := by
            cases us with
            | nil => cases c1
            | cons _ _ => exact Nat.zero_lt_succ _
          refine ⟨.ref d, rfl, d, c, m, 6, rfl, dk0, m0, by omega, by decide, by decide, fun H1 r kp1 dk1 r0 r1 => ?_⟩
          refine ⟨_, _, rfl, rfl, _, rfl, ite2 (fun _ => ?_) (fun _ => go H1 (m + 1) ((Kp.same s0).trans kp1) dk1 (by omega) (by omega))⟩
          have a1 := kp1.tup dk0 a0
          refine ⟨.ref d, rfl, .ref a, rfl, a, us, rfl, .inr (SqT.of a1), d, c, m + 1, (us.length : Int), rfl, dk1, by omega, by omega, by omega, by omega, fun H2 at1 kp2 dk2 b0 b1 => ?_⟩
          obtain ⟨j, rfl⟩ : ∃ j : Nat, at1 = j := ⟨at1.toNat, by omega⟩
          have jl : j < us.length := by omega
          have ej : us[j]? = some us[j] := List.getElem?_eq_getElem jl
          generalize us[j] = u at *
          obtain ⟨x, ex, hx⟩ := all.get ej
          have a2 := kp2.tup dk1 a1
          have kpH2 : Kp d c H H2 := (Kp.same s0).trans (kp1.trans kp2)
          have fm := fine.mem
          have dm : ∀ z ∈ ds, z.depth ≤ PyData.depthAll ds := fun z hz => dAll_le hz
          have mx := List.mem_of_getElem? ex
          have wx := wAll_mem mx
          have dep' : PyData.depthAll ds + 1 ≤ dp := dep
          obtain ⟨D', rfl⟩ : ∃ D' : Nat, D = D' + 1 := ⟨D - 1, by omega⟩
          refine ⟨.ref a, rfl, .int j, rfl, (j : Int), rfl, slA_any a2 (fun H4 p4 s4 ep4 => ?_)⟩
          have dk4 := dk2.kept s4
          refine ⟨.ref d, rfl, .ref a, rfl, .int j, rfl, a, us, (j : Int), u, rfl, rfl, SqT.of (s4 _ _ a2), atI_nat ej, ?_⟩
          have kpH4 := kpH2.trans (Kp.same s4)
          refine ⟨D', rfl, d, c, m + 1 + 1, u, B, L, x.weight, PyData.depthAll ds, rfl, dk4, by omega, by omega, hB, hB2, hL, by omega, by omega, ⟨x, dv_same (offQ_kp kpH4) hx, fm x mx, Nat.le_refl _, dm x mx⟩, fun H3 v3 m3 kp3 dk3 q0 q1 g3 => ?_⟩
          have a3 := kp3.tup dk4 (s4 _ _ a2)
          refine ⟨by show 1 ≤ sizeLine; decide, fun t nt => ?_⟩
          have s5 := same_new (o := .tup [v3]) nt
          have et := upd_same (H := H3) (a := t) (o := .tup [v3])
          generalize upd H3 t (.tup [v3]) = H5 at *
          have l1 : (cutV us none (some (j : Int))).length ≤ us.length := by rw [cutTo]; exact List.length_take_le' _ _
          refine catA_any (s5 _ _ (kp3.tup dk4 ep4)) et (by rw [big]; show _ + 1 ≤ _; omega) (fun H6 p6 s6 ep6 => ?_)
          have s36 := s5.trans s6
          refine ⟨.ref a, rfl, .int j, rfl, _, _, rfl, rfl, (j : Int) + 1, rfl, ?_⟩
          refine noPart_of ?_
          refine slA_any (s36 _ _ a3) (fun H7 p7 s7 ep7 => ?_)
          have l2 : (cutV us (some ((j : Int) + 1)) none).length ≤ us.length := by rw [show (j : Int) + 1 = ((j + 1 : Nat) : Int) by omega, cutFrom, List.length_drop]; omega
          refine catA_any (s7 _ _ ep6) ep7 (by rw [big, List.length_append]; show _ + 1 + _ ≤ _; omega) (fun H8 p8 s8 ep8 => ?_)
          have s38 := s36.trans (s7.trans s8)
          have kpH8 : Kp d c H H8 := kpH4.trans (kp3.trans (Kp.same s38))
          have dk8 := dk3.kept s38
          rw [cutTo, show (j : Int) + 1 = ((j + 1 : Nat) : Int) by omega, cutFrom] at ep8
          have row := swap_row (L2 := L + 1) (dq := PyData.depthAll ds + 4) (dvAll_same (offQ_kp kpH8) all) (fun z hz => ⟨fm z hz, dm z hz⟩) ex (g3.same (offQ_kp (Kp.same s38))) (Nat.le_add_right _ _) (Nat.le_succ _) (by omega)
          refine q H8 _ m3 kpH8 dk8 (by omega) (by omega) ?_
          refine (row.tup ?_ (offQ_get (dk8.offT ep8) ep8)).mono (Nat.le_refl _) (Nat.le_refl _) (by omega) (by omega)
          rw [List.length_append, List.length_append, List.length_take, List.length_drop]
          show min j us.length + 1 + _ ≤ _
          omega
        | _ => exact (Bool.false_ne_true tb).elim
    · rintro σ H0 ⟨m2, kp0, dk0, n0, n1, rfl⟩
      have hd0 := dv_same (offQ_kp kp0) hd
      have gv : Gwt K B L N dp (OffQ d c H0) v := ⟨dd, hd0, fine, wt, dep⟩
      refine ⟨1, rfl, by show 0 ≤ sizeLine; decide, fun p1 np1 => ?_⟩
      have s1 := same_new (o := .tup []) np1
      have e1 := upd_same (H := H0) (a := p1) (o := .tup [])
      generalize upd H0 p1 (.tup []) = H1 at *
      refine ⟨by show 0 ≤ sizeLine; decide, fun p2 np2 => ?_⟩
      have s2 := same_new (o := .lst []) np2
      have e2 := upd_same (H := H1) (a := p2) (o := .lst [])
      generalize upd H1 p2 (.lst []) = H2 at *
      refine fun p3 np3 => ?_
      have s3 := same_new (o := .dK []) np3
      have e3 := upd_same (H := H2) (a := p3) (o := .dK [])
      generalize upd H2 p3 (.dK []) = H3 at *
      refine ⟨v, rfl, by show 1 ≤ sizeLine; decide, fun p4 np4 => ?_⟩
      have s4 := same_new (o := .tup [v]) np4
      have e4 := upd_same (H := H3) (a := p4) (o := .tup [v])
      generalize upd H3 p4 (.tup [v]) = H4 at *
      refine ⟨10, 29, rfl, rfl, ⟨by decide, by decide, by decide⟩, by show 12 ≤ sizeLine; decide, fun l nl => ?_⟩
      have dkA := dk0.kept (s1.trans (s2.trans (s3.trans s4)))
      have offl := dkA.off nl
      have off2 : Off d c p2 := (dk0.kept s1).off np2
      have off3 : Off d c p3 := (dk0.kept (s1.trans s2)).off np3
      have sl := same_new (H := H4) (p := l) (o := .lst [.non, .bl true, .bl false, .int 0, .int 1, .int (-1), .str "", .ref p1, .ref p2, .ref p3, .ref p4, .int ((10 : Int) ^ (29 : Int).toNat)]) nl
      have el := upd_same (H := H4) (a := l) (o := .lst [.non, .bl true, .bl false, .int 0, .int 1, .int (-1), .str "", .ref p1, .ref p2, .ref p3, .ref p4, .int ((10 : Int) ^ (29 : Int).toNat)])
      generalize upd H4 l (.lst [.non, .bl true, .bl false, .int 0, .int 1, .int (-1), .str "", .ref p1, .ref p2, .ref p3, .ref p4, .int ((10 : Int) ^ (29 : Int).toNat)]) = H5 at *
      have s05 := s1.trans (s2.trans (s3.trans (s4.trans sl)))
      have kp5 := kp0.trans (Kp.same s05)
      have dk5 := dk0.kept s05
      have gv5 := gv.same (offQ_kp (Kp.same s05))
      have small : ∀ {G : Hp} {x : V} {dx : PyData}, Dv K G x dx → Fine B L dx → dx.weight ≤ 1001 → dx.depth ≤ 4 → Gwt K (B + 10 ^ 13) (L + 1) (2 * N + 1001) (dp + 4) G x := fun h f k1 k2 => ⟨_, h, f.mono (Nat.le_add_right _ _) (Nat.le_succ _), by omega, by omega⟩
      have i29 : ((10 : Int) ^ (29 : Int).toNat) = 100000000000000000000000000000 := by decide
      have vals : ∀ x ∈ [V.non, .bl true, .bl false, .int 0, .int 1, .int (-1), .str "", .ref p1, .ref p2, .ref p3, .ref p4, .int ((10 : Int) ^ (29 : Int).toNat)], Gwt K (B + 10 ^ 13) (L + 1) (2 * N + 1001) (dp + 4) (OffQ d c H5) x := by
        intro x hx
        have num : ∀ k : Int, k.natAbs < B → Gwt K (B + 10 ^ 13) (L + 1) (2 * N + 1001) (dp + 4) (OffQ d c H5) (.int k) := fun k hk => by
          have s := Sm.int (Nat.lt_of_lt_of_le hk (by omega))
          exact small (.int k) (Fine.int hk (by omega)) (by have := s.small; omega) (Nat.zero_le _)
        simp only [List.mem_cons, List.not_mem_nil, or_false] at hx
        rcases hx with rfl | rfl | rfl | rfl | rfl | rfl | rfl | rfl | rfl | rfl | rfl | rfl
        · exact small .non (Fine.none _ _) (Nat.zero_le _) (Nat.zero_le _)
        · exact small (.bl _) (Fine.bool _ _ _) (Nat.zero_le _) (Nat.zero_le _)
        · exact small (.bl _) (Fine.bool _ _ _) (Nat.zero_le _) (Nat.zero_le _)
        · exact num _ (by omega)
        · exact num _ (by omega)
        · exact num _ (by omega)
        · exact small (.str _) ⟨rfl, rfl, by unfold intsB; rfl⟩ (by decide +kernel) (Nat.zero_le _)
        · have e := (s2.trans (s3.trans (s4.trans sl))) _ _ e1
          exact small (.tup (offQ_get (dk5.offT e) e) .nil) (Fine.tup (Nat.zero_le _) (fun z hz => nomatch hz)) (Nat.zero_le _) (by decide)
        · exact small (.lst (offQ_get off2 ((s3.trans (s4.trans sl)) _ _ e2)) .nil) (Fine.lst (Nat.zero_le _) (fun z hz => nomatch hz)) (Nat.zero_le _) (by decide)
        · exact small (.dic (offQ_get off3 ((s4.trans sl) _ _ e3)) .nil) ⟨rfl, rfl, by unfold intsB intsBKv; rfl⟩ (Nat.zero_le _) (by decide)
        · have e := sl _ _ e4
          exact ((Rwt.one gv5).tup (show 1 ≤ L from hL) (offQ_get (dk5.offT e) e)).mono (Nat.le_add_right _ _) (Nat.le_succ _) (by omega) (by omega)
        · exact num _ (by rw [i29]; omega)
      have len : [V.non, .bl true, .bl false, .int 0, .int 1, .int (-1), .str "", .ref p1, .ref p2, .ref p3, .ref p4, .int ((10 : Int) ^ (29 : Int).toNat)].length = 12 := rfl
      generalize [V.non, .bl true, .bl false, .int 0, .int 1, .int (-1), .str "", .ref p1, .ref p2, .ref p3, .ref p4, .int ((10 : Int) ^ (29 : Int).toNat)] = items at *
      refine ⟨fun σ H' => ∃ l xs, Kp d c H H' ∧ Dk H' d c m2 ∧ H' l = some (.lst xs) ∧ Off d c l ∧ 0 < xs.length ∧ xs.length ≤ 17 ∧ (∀ x ∈ xs, Gwt K (B + 10 ^ 13) (L + 1) (2 * N + 1001) (dp + 4) (OffQ d c H') x) ∧ σ = [some (.ref d), some v, none, some (.ref l)], ?_, ?_⟩
      · have stay : ∀ {H6 : Hp}, Same H5 H6 → ∃ l xs, Kp d c H H6 ∧ Dk H6 d c m2 ∧ H6 l = some (.lst xs) ∧ Off d c l ∧ 0 < xs.length ∧ xs.length ≤ 17 ∧ (∀ x ∈ xs, Gwt K (B + 10 ^ 13) (L + 1) (2 * N + 1001) (dp + 4) (OffQ d c H6) x) ∧ [some (V.ref d), some v, none, some (.ref _)] = [some (V.ref d), some v, none, some (.ref l)] := fun s6 => ⟨l, items, kp5.trans (Kp.same s6), dk5.kept s6, s6 _ _ el, offl, by omega, by omega, fun x hx => (vals x hx).same (offQ_kp (Kp.same s6)), rfl⟩
        have hdH : Dv K H5 v dd := dv_same (offQ_sub.trans s05) hd0
        refine ⟨v, rfl, v, .ty "tuple", _, _, _, rfl, .ty "tuple", hdH.ty, kit_tup dd, _, rfl, ?_⟩
        cases tb : tupB dd with
        | true =>
          refine iteT ?_
          cases hd0 with
          | @tup a us ds e all =>
            have a5 := s05 _ _ (offQ_at e).2.2
            have lu := all.length
            have lw := len_weight ds
            have wt' : PyData.weightAll ds ≤ N := wt
            have lL := fine.len
            have dep' : PyData.depthAll ds + 1 ≤ dp := dep
            have rw5 : Rwt K B L N (PyData.depthAll ds) (OffQ d c H5) us := ⟨ds, dvAll_same (offQ_kp (Kp.same s05)) all, fun x hx => ⟨fine.mem x hx, dAll_le hx⟩, wt'⟩
            have ct : ∀ n : Nat, (cutV us none (some (n : Int))).length ≤ us.length := fun n => by rw [cutTo]; exact List.length_take_le' _ _
            refine ⟨.ref l, rfl, .ref a, rfl, 1, rfl, ?_⟩
            refine noPart_of ?_
            refine slA_any a5 (fun H6 p6 s6 e6 => ?_)
            refine ⟨.ref a, rfl, 1, rfl, -1, rfl, ?_⟩
            refine slA_any (s6 _ _ a5) (fun H7 p7 s7 e7 => ?_)
            have s57 := s6.trans s7
            refine ⟨.ref a, rfl, .ref a, rfl, 1, rfl, slA_any (s57 _ _ a5) (fun H8 p8 s8 e8 => ?_)⟩
            have l1 := ct 1
            refine catA_any ((s57.trans s8) _ _ a5) e8 (by rw [big]; show _ + (cutV us none (some ((1 : Nat) : Int))).length ≤ _; omega) (fun H9 p9 s9 e9 => ?_)
            have s59 := s57.trans (s8.trans s9)
            refine ⟨.ref a, rfl, a, us, rfl, SqT.of (s59 _ _ a5), fun p10 n10 => ?_⟩
            have s10 := same_new (o := .tup us.reverse) n10
            have e10 := upd_same (H := H9) (a := p10) (o := .tup us.reverse)
            generalize upd H9 p10 (.tup us.reverse) = H10 at *
            have s510 := s59.trans s10
            refine ⟨.ref a, rfl, a, us, rfl, .inr (SqT.of (s510 _ _ a5)), fun p11 n11 => ?_⟩
            have off11 : Off d c p11 := (dk5.kept s510).off n11
            have s11 := same_new (o := .lst us) n11
            have e11 := upd_same (H := H10) (a := p11) (o := .lst us)
            generalize upd H10 p11 (.lst us) = H11 at *
            refine ⟨by show 5 ≤ sizeLine; decide, fun l2 nl2 => ?_⟩
            have s12 := same_new (o := .lst [.ref p6, .ref p7, .ref p9, .ref p10, .ref p11]) nl2
            have el2 := upd_same (H := H11) (a := l2) (o := .lst [.ref p6, .ref p7, .ref p9, .ref p10, .ref p11])
            generalize upd H11 l2 (.lst [.ref p6, .ref p7, .ref p9, .ref p10, .ref p11]) = H12 at *
            have s512 := s510.trans (s11.trans s12)
            refine ⟨l, l2, _, _, rfl, rfl, s512 _ _ el, el2, by rw [big, len]; show 12 + 5 ≤ _; omega, fun g ng => ?_⟩
            have offg : Off d c g := (dk5.kept s512).off ng
            have s13 := same_new (o := .lst (items ++ [.ref p6, .ref p7, .ref p9, .ref p10, .ref p11])) ng
            have eg := upd_same (H := H12) (a := g) (o := .lst (items ++ [.ref p6, .ref p7, .ref p9, .ref p10, .ref p11]))
            generalize upd H12 g (.lst (items ++ [.ref p6, .ref p7, .ref p9, .ref p10, .ref p11])) = H13 at *
            have s513 := s512.trans s13
            have dk13 := dk5.kept s513
            have rwF := rw5.same (offQ_kp (Kp.same s513))
            have tupG : ∀ {x : Addr} {vs : List V} {M : Nat}, H13 x = some (.tup vs) → Rwt K B L M (PyData.depthAll ds) (OffQ d c H13) vs → vs.length ≤ L + 1 → M ≤ 2 * N + 1001 → Gwt K (B + 10 ^ 13) (L + 1) (2 * N + 1001) (dp + 4) (OffQ d c H13) (.ref x) := fun e rr k2 k => ((rr.mono (Nat.le_refl _) (Nat.le_succ _) (Nat.le_refl _) (Nat.le_refl _)).tup k2 (offQ_get (dk13.offT e) e)).mono (Nat.le_add_right _ _) (Nat.le_refl _) k (by omega)
            refine ⟨g, _, kp5.trans (Kp.same s513), dk13, eg, offg, by rw [List.length_append, len]; exact Nat.lt_of_lt_of_le (by decide) (Nat.le_add_right _ _), by rw [List.length_append, len]; exact Nat.le_refl _, fun x hx => ?_, rfl⟩
            rcases List.mem_append.mp hx with hx | hx
            · exact (vals x hx).same (offQ_kp (Kp.same s513))
            · simp only [List.mem_cons, List.not_mem_nil, or_false] at hx
              have cutl : ∀ lo hi, (cutV us lo hi).length ≤ us.length := fun lo hi => by
                unfold cutV
                rw [List.length_take, List.length_drop]
                omega
              rcases hx with rfl | rfl | rfl | rfl | rfl
              · exact tupG ((s7.trans (s8.trans (s9.trans (s10.trans (s11.trans (s12.trans s13)))))) _ _ e6) (rwF.cut _ _) (by have := cutl (some 1) none; omega) (by omega)
              · exact tupG ((s8.trans (s9.trans (s10.trans (s11.trans (s12.trans s13))))) _ _ e7) (rwF.cut _ _) (by have := cutl none (some (-1)); omega) (by omega)
              · refine tupG ((s10.trans (s11.trans (s12.trans s13))) _ _ e9) (rwF.cat (rwF.cut _ _)) ?_ (by omega)
                rw [List.length_append, show (1 : Int) = ((1 : Nat) : Int) from rfl, cutTo, List.length_take]
                omega
              · exact tupG ((s11.trans (s12.trans s13)) _ _ e10) rwF.rev (by rw [List.length_reverse]; omega) (by omega)
              · exact (rwF.lst (by omega) (offQ_get off11 ((s12.trans s13) _ _ e11))).mono (Nat.le_add_right _ _) (Nat.le_succ _) (by omega) (by omega)
          | _ => exact (Bool.false_ne_true tb).elim
        | false =>
          refine iteF ?_
          refine ⟨v, rfl, v, .ty "int", _, _, _, rfl, .ty "int", hdH.ty, kit_int dd, _, rfl, ?_⟩
          cases ib : intB dd with
          | false => exact iteF (stay (Same.refl _))
          | true =>
            refine iteT ?_
            have fin : ∀ (a1 a2 : Int) (bb : Bool), a1.natAbs < B + 10 ^ 13 → a2.natAbs < B + 10 ^ 13 → ∀ (H6 : Hp) (l2 g : Addr), Same H5 H6 → H6 l2 = some (.lst [.int a1, .int a2, .int a1, .int a2, .bl bb]) → H6 g = none → ∃ l xs, Kp d c H (upd H6 g (.lst (items ++ [.int a1, .int a2, .int a1, .int a2, .bl bb]))) ∧ Dk (upd H6 g (.lst (items ++ [.int a1, .int a2, .int a1, .int a2, .bl bb]))) d c m2 ∧ (upd H6 g (.lst (items ++ [.int a1, .int a2, .int a1, .int a2, .bl bb]))) l = some (.lst xs) ∧ Off d c l ∧ 0 < xs.length ∧ xs.length ≤ 17 ∧ (∀ x ∈ xs, Gwt K (B + 10 ^ 13) (L + 1) (2 * N + 1001) (dp + 4) (OffQ d c (upd H6 g (.lst (items ++ [.int a1, .int a2, .int a1, .int a2, .bl bb])))) x) ∧ [some (V.ref d), some v, none, some (V.ref g)] = [some (V.ref d), some v, none, some (.ref l)] := by
              intro a1 a2 bb k1 k2 H6 l2 g s6 el2 ng
              have offg : Off d c g := (dk5.kept s6).off ng
              have s7 := s6.trans (same_new (o := .lst (items ++ [.int a1, .int a2, .int a1, .int a2, .bl bb])) ng)
              refine ⟨g, _, kp5.trans (Kp.same s7), dk5.kept s7, upd_same, offg, by rw [List.length_append, len]; exact Nat.lt_of_lt_of_le (by decide) (Nat.le_add_right _ _), by rw [List.length_append, len]; exact Nat.le_refl _, fun x hx => ?_, rfl⟩
              have num : ∀ k : Int, k.natAbs < B + 10 ^ 13 → Gwt K (B + 10 ^ 13) (L + 1) (2 * N + 1001) (dp + 4) (OffQ d c (upd H6 g (.lst (items ++ [.int a1, .int a2, .int a1, .int a2, .bl bb])))) (.int k) := fun k hk => by
                have s := Sm.int (Nat.lt_of_lt_of_le hk hB2)
                exact ⟨_, .int k, Fine.int hk hB2, by have := s.small; omega, Nat.zero_le _⟩
              rcases List.mem_append.mp hx with hx | hx
              · exact (vals x hx).same (offQ_kp (Kp.same s7))
              · simp only [List.mem_cons, List.not_mem_nil, or_false] at hx
                rcases hx with rfl | rfl | rfl | rfl | rfl
                · exact num _ k1
                · exact num _ k2
                · exact num _ k1
                · exact num _ k2
                · exact ⟨_, .bl _, Fine.bool _ _ _, Nat.zero_le _, Nat.zero_le _⟩
            cases dd with
            | int i =>
              have ev := hd0.asInt
              subst ev
              have li := fine.lt
              refine ⟨.ref l, rfl, .int i, rfl, .inl ⟨_, _, rfl, rfl, .int i, rfl, .inl ⟨_, _, rfl, rfl, .int i, rfl, .inl ⟨_, _, rfl, rfl, .int i, rfl, .inl ⟨_, _, rfl, rfl, .int i, rfl, .int i, .int 1, .int _, .int _, rfl, rfl, ?_⟩⟩⟩⟩⟩
              refine ⟨by show 5 ≤ sizeLine; decide, fun l2 nl2 => ?_⟩
              have s6 := same_new (H := H5) (p := l2) (o := .lst [.int (i + 1), .int (i - 1), .int (i + 1), .int (i - 1), .bl (PyData.eqv (.int i) (.int 1))]) nl2
              refine ⟨l, l2, _, _, rfl, rfl, s6 _ _ el, upd_same, by rw [big, len]; show 12 + 5 ≤ _; omega, fun g ng => ?_⟩
              exact fin (i + 1) (i - 1) _ (by omega) (by omega) _ l2 g s6 upd_same ng
            | bool b =>
              have ev : v = .bl b := by
                cases hd0
                rfl
              subst ev
              refine ⟨.ref l, rfl, .bl b, rfl, .inr ⟨_, _, rfl, rfl, .bl b, rfl, .inr ⟨_, _, rfl, rfl, .bl b, rfl, .inr ⟨_, _, rfl, rfl, .bl b, rfl, .inr ⟨_, _, rfl, rfl, .bl b, rfl, .bool b, .int 1, .bl _, .int _, rfl, rfl, ?_⟩⟩⟩⟩⟩
              refine ⟨by show 5 ≤ sizeLine; decide, fun l2 nl2 => ?_⟩
              have s6 := same_new (H := H5) (p := l2) (o := .lst [.int ((if b = true then (1 : Int) else 0) + 1), .int ((if b = true then (1 : Int) else 0) - 1), .int ((if b = true then (1 : Int) else 0) + 1), .int ((if b = true then (1 : Int) else 0) - 1), .bl (PyData.eqv (.bool b) (.int 1))]) nl2
              refine ⟨l, l2, _, _, rfl, rfl, s6 _ _ el, upd_same, by rw [big, len]; show 12 + 5 ≤ _; omega, fun g ng => ?_⟩
              exact fin _ _ _ (by split <;> omega) (by split <;> omega) _ l2 g s6 upd_same ng
            | _ => cases ib
      · rintro σ H6 ⟨l, xs, kp6, dk6, el, offl, l0, l17, vals, rfl⟩
        refine ⟨.ref d, rfl, .ref l, rfl, d, c, m2, l, xs, rfl, dk6, by omega, by omega, offl, el, l0, by omega, fun H7 j v7 kp7 dk7 ej => ?_⟩
        exact q H7 v7 (m2 + 1) (kp6.trans kp7) dk7 (by omega) (by omega) ((vals v7 (List.mem_of_getElem? ej)).same (offQ_kp kp7))

/-! ### ascending tuples of any kind -/
theorem lcZs {K : PySem.W.Frag} {a b : Addr} {xs ys : List V} {g : TG} {tt : TT} {te : TE} {vs : List Nat} {σ : L2.St} {H1 : Hp} {D : Addr} {Qd : Hp → Prop} (R : Nat → Hp → List V → Prop) (nD : H1 D = none) (ha : ∀ H', Same H1 H' → SqT K H' a xs) (hb : ∀ H', Same H1 H' → SqT K H' b ys) (few : xs.length < 1000)
    (mono : ∀ i H' H'' ws, Tps H' H'' → R i H' ws → R i H'' ws) (len : ∀ i H' ws, R i H' ws → ws.length ≤ i) (r0 : ∀ H', R 0 H' [])
    (hs : ∀ i x y T H' (N : Hp → Prop) acc, xs[i]? = some x → ys[i]? = some y → Same H1 H' → H' T = some (.tup [x, y]) → H' D = some (.lst acc) → acc.length < sizeLine → R i H' acc → (∀ H'', Same H' H'' → R (i + 1) H'' acc → N H'') → (∀ H'' y, Same H' H'' → R (i + 1) H'' (acc ++ [y]) → ∃ acc', H'' D = some (.lst acc') ∧ acc'.length < sizeLine ∧ N (upd H'' D (.lst (acc' ++ [y])))) →
      g (.ref T) (wipe σ vs) H' fun σ2 H2 => wipe σ2 vs = wipe σ vs ∧ tt σ2 H2 fun b H3 => if b = true then te σ2 H3 fun y H4 => ∃ acc, H4 D = some (.lst acc) ∧ acc.length < sizeLine ∧ N (upd H4 D (.lst (acc ++ [y]))) else N H3)
    (hd : ∀ i H' ws, (xs.length ≤ i ∨ ys.length ≤ i) → Same H1 H' → H' D = some (.lst ws) → R i H' ws → Qd H') :
    ∃ W : Nat → Nat → Hp → Prop, (∃ m, W 0 m (upd H1 D (.lst []))) ∧ ∀ i m H, W i m H →
      ((RZ.ItzT K a b).stop i H ∧ Qd H) ∨ ((RZ.ItzT K a b).go i H ∧ ∃ Nx : Hp → Prop, (∀ H', Nx H' → ∃ m', m' < m ∧ W (i + 1) m' H') ∧ ∀ x H', (RZ.ItzT K a b).yld i H x H' → g x (wipe σ vs) H' fun σ2 H2 => wipe σ2 vs = wipe σ vs ∧ tt σ2 H2 fun b H3 =>
        if b = true then te σ2 H3 fun y H4 => ∃ acc, H4 D = some (.lst acc) ∧ acc.length < sizeLine ∧ Nx (upd H4 D (.lst (acc ++ [y]))) else Nx H3) := by
  refine ⟨fun i m H => m = xs.length - i ∧ i ≤ xs.length ∧ Same H1 H ∧ ∃ ws, H D = some (.lst ws) ∧ R i H ws, ⟨_, rfl, Nat.zero_le _, same_new nD, [], upd_same, r0 _⟩, ?_⟩
  rintro i m H ⟨rfl, hi, sm, ws, eD, r⟩
  have q1 := ha H sm
  have q2 := hb H sm
  by_cases c : i < xs.length ∧ i < ys.length
  · refine .inr ⟨⟨xs, ys, xs[i]'c.1, ys[i]'c.2, q1, q2, List.getElem?_eq_getElem c.1, List.getElem?_eq_getElem c.2⟩, (fun H => i + 1 ≤ xs.length ∧ Same H1 H ∧ ∃ ws, H D = some (.lst ws) ∧ R (i + 1) H ws), fun H' p' => ⟨xs.length - (i + 1), by omega, rfl, p'⟩, fun v H' hy => ?_⟩
    obtain ⟨T, x, y, rfl, nT, rfl, f1, f2⟩ := hy
    have sT := same_new (o := .tup [x, y]) nT
    have lw := len i H ws r
    have sz : ws.length < sizeLine := few_line (by omega)
    refine hs i x y T _ _ ws (f1 xs q1) (f2 ys q2) (sm.trans sT) upd_same (sT _ _ eD) sz (mono _ _ _ _ (Tps.same sT) r) (fun H'' s r2 => ⟨c.1, sm.trans (sT.trans s), ws, s _ _ (sT _ _ eD), r2⟩) (fun H'' y s r2 => ?_)
    exact ⟨ws, s _ _ (sT _ _ eD), sz, c.1, same_off nD (sm.trans (sT.trans s)), _, upd_same, mono _ _ _ _ (Tps.lst (s _ _ (sT _ _ eD))) r2⟩
  · exact .inl ⟨⟨xs, ys, q1, q2, by omega⟩, hd i H ws (by omega) sm eD r⟩
def nxt (ds : List PyData) : List (PyData × PyData) := ds.zip (ds.drop 1)
def risL (ds : List PyData) : Bool := (nxt ds).all fun p => PySem.W.dataLt p.1 p.2
def ascB (pB : PyData → Bool) : PyData → Bool
  | .tuple ds => ds.all pB && risL ds
  | _ => false
theorem asc_not {pB : PyData → Bool} {d : PyData} (h : tupB d = false) : ascB pB d = false := by
  cases d with
  | tuple ds => cases h
  | _ => rfl
theorem nxt_get {ds : List PyData} {j : Nat} {d e : PyData} (h1 : ds[j]? = some d) (h2 : (ds.drop 1)[j]? = some e) : (nxt ds)[j]? = some (d, e) := List.getElem?_zip_eq_some.mpr ⟨h1, h2⟩
theorem nxt_len (ds : List PyData) : (nxt ds).length = ds.length - 1 := by
  unfold nxt
  rw [List.length_zip, List.length_drop]
  omega
theorem nxt_all {ds : List PyData} {j : Nat} (h : ds.length ≤ j ∨ (ds.drop 1).length ≤ j) : (nxt ds).take j = nxt ds := by
  refine List.take_of_length_le ?_
  rw [nxt_len]
  rw [List.length_drop] at h
  omega
theorem iv_alike {d e : PyData} (h1 : ivB d = true) (h2 : ivB e = true) : PySem.W.alike d e = true := by
  obtain ⟨x, y, rfl⟩ := iv_shape h1
  obtain ⟨u, v, rfl⟩ := iv_shape h2
  rfl
theorem iv_fine {d : PyData} (h : ivB d = true) : d ≠ .none ∧ d.depth ≤ 60 ∧ d.canLay0 = true := by
  obtain ⟨x, y, rfl⟩ := iv_shape h
  exact ⟨(fun z => nomatch z), by show 1 ≤ 60; decide, rfl⟩
theorem dem_alike {d e : PyData} (h1 : demB d = true) (h2 : demB e = true) : PySem.W.alike d e = true := by
  obtain ⟨p, x, y, rfl, _⟩ := dem_shape h1
  obtain ⟨q, u, v, rfl, _⟩ := dem_shape h2
  rfl
theorem dem_fine {d : PyData} (h : demB d = true) : d ≠ .none ∧ d.depth ≤ 60 ∧ d.canLay0 = true := by
  obtain ⟨p, x, y, rfl, _⟩ := dem_shape h
  exact ⟨(fun z => nomatch z), by show 2 ≤ 60; decide, rfl⟩
def sp_any (K : PySem.W.Frag) (pB : PyData → Bool) : Sp := fun vs H Q _ => ∃ (v : V) (d : PyData), vs = [v] ∧ Dv K H v d ∧ Q (.bl (pB d)) H
def sp_is_ascending (K : PySem.W.Frag) (fi : Addr) (pB : PyData → Bool) : Sp := fun vs H Q _ => ∃ (v : V) (d : PyData) (B L : Nat), vs = [v, .ref fi] ∧ Dv K H v d ∧ Fine B L d ∧ L ≤ 50 ∧ ∀ H', Same H H' → Q (.bl (ascB pB d)) H'
theorem ok_is_ascending (T : Tx K mg f_depth_changes f_find_blocks f_is_number f_is_position f_is_tuple_of f_is_interval f_is_ascending f_has_position f_contains f_is_demand f_serves f_conflict f_is_independent f_demands_at_blocks f_is_open f_open_demands f_shadow_target f_pieces_inside f_first_gap f_find_missing f_require_few_blocks f_decisive_demands f_largest_independent f_unserved_demands f_helpful_piece f_smallest_solution f_solve f_are_witnesses f_solution_holds f_law_draws f_law_next f_law_one f_law_spans f_law_targets f_law_covers f_law_is_interval f_law_is_demand f_law_rising f_law_served f_law_clash f_law_are_witnesses f_law_solved f_law_bent f_law d_depth_changes d_find_blocks d_is_number d_is_position d_is_tuple_of d_is_interval d_is_ascending d_has_position d_contains d_is_demand d_serves d_conflict d_is_independent d_demands_at_blocks d_is_open d_open_demands d_shadow_target d_pieces_inside d_first_gap d_find_missing d_require_few_blocks d_decisive_demands d_largest_independent d_unserved_demands d_helpful_piece d_smallest_solution d_solve d_are_witnesses d_solution_holds d_law_draws d_law_next d_law_one d_law_spans d_law_targets d_law_covers d_law_is_interval d_law_is_demand d_law_rising d_law_served d_law_clash d_law_are_witnesses d_law_solved d_law_bent d_law t_LAST_POSITION t_MAX_BLOCKS) {fi : Addr} {fdi : FuncData} {psi : List Str} {kf : Nat} (pB : PyData → Bool) (al : ∀ {d e : PyData}, pB d = true → pB e = true → PySem.W.alike d e = true) (fn : ∀ {d : PyData}, pB d = true → d ≠ .none ∧ d.depth ≤ 60 ∧ d.canLay0 = true) (F : FnOk P w K mg base CX0 kf fi fdi psi (sp_any K pB)) (hkf : kf ≤ 4) (hk : PySem.W.keepIn K (.ref fi) = true) (hb : Binds K fdi psi []) : FnOk P w K mg base CX0 5 f_is_ascending d_is_ascending ["value", "is_item"] (sp_is_ascending K fi pB) := by
  refine T.F_is_ascending.ok sc_is_ascending (fun vs H Q E h => ?_) (fun cdv A outer s H vs Q E hr h => ?_)
  · obtain ⟨v, d, B, L, rfl, _⟩ := h
    rfl
  · obtain ⟨v, d, B, L, rfl, hd, fine, l50, q⟩ := h
    refine ⟨_, (pss_cons (ps_if (PW.pt (pw_or (pt_not (pt_val (pe_callB call_isi (by rfl) T.z_isinstance (by decide +kernel) (pa_cons (pv 0) (pa_cons (pe_bltn (v := .ty "tuple") (u := .type "tuple") (by rfl) T.z_tuple (by decide +kernel) rfl) pa_nil))))) (pw_or1 (pt_not (pt_val (pe_callB (cr_all rfl) (by rfl) T.z_all (by decide +kernel) (pa_cons (pe_lc (own := [("item", 2)]) (g := (gName 2)) (tt := tYes) (by rfl) sc_is_ascending.nd (pi_tup (pv 0)) (blkOk_by (own := [("item", 2)]) (N := N_is_ascending) (sc := defScope s_is_ascending) (by decide +kernel)) (fun _ _ _ _ _ => (pg_name (i := 2) sc_is_ascending.nd rfl (Or.inl rfl))) (fun _ _ _ _ _ => pts_nil) (fun _ _ _ _ _ => (pe_callL (i := 1) F (hr.mono (by omega)) (by rfl) (by first | exact Or.inl rfl | exact Or.inr (Or.inl rfl) | exact Or.inr (Or.inr rfl)) hk hb .nil pass0 (pa_cons (pv 2) pa_nil)))) pa_nil)))))))
      (pss_one (ps_ret pe_bl))
      pss_nil)
      (pss_one (ps_ret (pe_callB (cr_all rfl) (by rfl) T.z_all (by decide +kernel) (pa_cons (pe_lc (own := [("before", 3), ("item", 2)]) (g := (gTup K 2 (gCons (gName 3) (gCons (gName 2) gNil)))) (tt := tYes) (by rfl) sc_is_ascending.nd (RZ.pi_zipA (by rfl) T.z_zip (pa_cons (pv 0) (pa_cons (pe_slice sl_tupA (pv 0) (po_some pe_int) po_none) pa_nil))) (blkOk_by (own := [("before", 3), ("item", 2)]) (N := N_is_ascending) (sc := defScope s_is_ascending) (by decide +kernel)) (fun _ _ _ _ _ => (pg_tup rfl (pgs_cons (pg_name (i := 3) sc_is_ascending.nd rfl (Or.inl rfl)) (pgs_cons (pg_name (i := 2) sc_is_ascending.nd rfl (Or.inl rfl)) pgs_nil)))) (fun _ _ _ _ _ => pts_nil) (fun _ _ _ _ _ => (pe_cmpR (show OpR _ (compareOp .Lt) (rLtDt K) from (op_ltDt hr.units)) (pv 3) (pv 2) (nomark _)))) pa_nil))))), ?_⟩
    refine ⟨v, rfl, v, .ty "tuple", _, _, _, rfl, .ty "tuple", hd.ty, kit_tup d, _, rfl, ?_⟩
    cases tb : tupB d with
    | false =>
      rw [asc_not tb] at q
      exact iteT (iteT (q H (Same.refl _)))
    | true =>
      refine iteF ?_
      cases hd with
      | @tup a us ds ha all =>
        have lx := all.length
        have ll := fine.len
        have q' : ∀ H', Same H H' → Q (.bl (ds.all pB && risL ds)) H' := q
        refine ⟨.ref a, rfl, a, rfl, ⟨_, SqT.of ha⟩, fun D nD => ?_⟩
        refine lcT (K := K) (a := a) (xs := us) (fun j H' ws => ws = ((ds.take j).map pB).map V.bl) nD (fun H' s => SqT.of (s _ _ (ha))) (by omega) (fun _ _ _ _ t r => r) (fun j H' ws r => (by rw [r, List.length_map, List.length_map]; exact List.length_take_le _ _)) (fun _ => rfl) ?_ ?_
        · rintro j z H' N acc hj sm eA sz rr no yes
          obtain ⟨x, ex, hx⟩ := all.get hj
          refine ⟨rfl, rfl, z, rfl, z, x, rfl, dv_same sm hx, yes H' _ (Same.refl _) ?_⟩
          rw [rr, List.take_add_one, ex, List.map_append, List.map_append]
          rfl
        intro H1 ws s1 eD rr
        rw [lx, List.take_length] at rr
        subst rr
        refine ⟨D, _, rfl, SqL.of eD, ?_⟩
        have eqall : (ds.map pB).all id = ds.all pB := by rw [List.all_map]; rfl
        rw [eqall]
        cases ea : ds.all pB with
        | false =>
          refine ⟨_, rfl, iteT ?_⟩
          rw [ea] at q'
          exact q' H1 s1
        | true =>
          rw [ea] at q'
          refine ⟨_, rfl, iteF ?_⟩
          have pall := List.all_eq_true.mp ea
          have ha1 := s1 _ _ ha
          refine ⟨.ref a, rfl, .ref a, rfl, 1, rfl, ?_⟩
          refine noPart_of ?_
          refine slA_any ha1 (fun H2 sl s2 esl => ?_)
          rw [show (1 : Int) = ((1 : Nat) : Int) from rfl, cutFrom] at esl
          have s12 := s1.trans s2
          have ha2 := s2 _ _ ha1
          refine ⟨a, sl, _, _, rfl, .inr ⟨SqT.of ha2, SqT.of esl, fun D2 nD2 => ?_⟩⟩
          refine lcZs (K := K) (a := a) (b := sl) (xs := us) (ys := us.drop 1) (fun j H' ws => ws = (((nxt ds).take j).map fun p => PySem.W.dataLt p.1 p.2).map V.bl) nD2 (fun H' s => SqT.of (s _ _ ha2)) (fun H' s => SqT.of (s _ _ esl)) (by omega) (fun _ _ _ _ _ h => h) (fun i H' ws h => by rw [h, List.length_map, List.length_map]; exact List.length_take_le _ _) (fun _ => rfl) ?_ ?_
          · rintro j u v TT H' N acc hu hv sm eT eD2 sz r no yes
            obtain ⟨d1, f1, h1⟩ := all.get hu
            obtain ⟨d2, f2, h2⟩ := (dvAll_drop' all 1).get hv
            have st := s12.trans sm
            have p1 := pall d1 (List.mem_of_getElem? f1)
            have p2 := pall d2 (List.mem_of_mem_drop (List.mem_of_getElem? f2))
            have g1 := fn p1
            refine ⟨TT, _, rfl, SqT.of eT, rfl, u, [v], rfl, v, [], rfl, rfl, rfl, u, rfl, v, rfl, d1, d2, (dv_same st h1).dp g1.2.2, (dv_same st h2).dp (fn p2).2.2, al p1 p2, g1.1, g1.2.1, ?_⟩
            refine yes H' _ (Same.refl _) ?_
            rw [r, List.take_add_one, nxt_get f1 f2, List.map_append, List.map_append]
            rfl
          · rintro j H' ws jl sm eD2 r
            rw [List.length_drop, lx, ← List.length_drop] at jl
            rw [nxt_all jl] at r
            subst r
            refine ⟨D2, _, rfl, SqL.of eD2, ?_⟩
            have e2 : ((nxt ds).map fun p => PySem.W.dataLt p.1 p.2).all id = risL ds := by rw [List.all_map]; rfl
            rw [e2]
            exact q' H' (s12.trans sm)
      | _ => exact (Bool.false_ne_true tb).elim
def dsOf : PyData → List PyData
  | .tuple ds => ds
  | _ => []
def witB (ts ps : List (Int × Int)) (d : PyData) : Bool := ascB demB d && (indL ((dsOf d).map toDem) && ((dsOf d).map toDem).all fun z => decide (z.2 ∈ ts) && opB ps z)
def sp_are_witnesses (K : PySem.W.Frag) : Sp := fun vs H Q _ => ∃ (a b : Addr) (v : V) (us ws : List V) (ts ps : List (Int × Int)) (d : PyData) (B L : Nat), vs = [.ref a, .ref b, v] ∧ H a = some (.tup us) ∧ Ivs H us ts ∧ H b = some (.tup ws) ∧ Ivs H ws ps ∧ ps.length < 900 ∧ Dv K H v d ∧ Fine B L d ∧ L ≤ 50 ∧ d.weight ≤ 100000 ∧
  ∀ H', Same H H' → Q (.bl (witB ts ps d)) H'
theorem ok_are_witnesses (T : Tx K mg f_depth_changes f_find_blocks f_is_number f_is_position f_is_tuple_of f_is_interval f_is_ascending f_has_position f_contains f_is_demand f_serves f_conflict f_is_independent f_demands_at_blocks f_is_open f_open_demands f_shadow_target f_pieces_inside f_first_gap f_find_missing f_require_few_blocks f_decisive_demands f_largest_independent f_unserved_demands f_helpful_piece f_smallest_solution f_solve f_are_witnesses f_solution_holds f_law_draws f_law_next f_law_one f_law_spans f_law_targets f_law_covers f_law_is_interval f_law_is_demand f_law_rising f_law_served f_law_clash f_law_are_witnesses f_law_solved f_law_bent f_law d_depth_changes d_find_blocks d_is_number d_is_position d_is_tuple_of d_is_interval d_is_ascending d_has_position d_contains d_is_demand d_serves d_conflict d_is_independent d_demands_at_blocks d_is_open d_open_demands d_shadow_target d_pieces_inside d_first_gap d_find_missing d_require_few_blocks d_decisive_demands d_largest_independent d_unserved_demands d_helpful_piece d_smallest_solution d_solve d_are_witnesses d_solution_holds d_law_draws d_law_next d_law_one d_law_spans d_law_targets d_law_covers d_law_is_interval d_law_is_demand d_law_rising d_law_served d_law_clash d_law_are_witnesses d_law_solved d_law_bent d_law t_LAST_POSITION t_MAX_BLOCKS) : FnOk P w K mg base CX0 6 f_are_witnesses d_are_witnesses ["targets", "pieces", "value"] (sp_are_witnesses K) := by
  refine T.F_are_witnesses.ok sc_are_witnesses (fun vs H Q E h => ?_) (fun cdv A outer s H vs Q E hr h => ?_)
  · obtain ⟨a, b, v, us, ws, ts, ps, d, B, L, rfl, _⟩ := h
    rfl
  · obtain ⟨a, b, v, us, ws, ts, ps, d, B, L, rfl, ha, ivt, hb, ivp, l2, hd, fine, l50, wt, q⟩ := h
    refine ⟨_, (pss_cons (ps_if (pt_not (pt_val (pe_call (ok_is_ascending T demB dem_alike dem_fine (ok_is_demand T) (by decide) T.F_is_demand.kp T.b_is_demand) (hr.mono (by decide)) (by rfl) T.g_is_ascending T.F_is_ascending.kp T.b_is_ascending .nil pass0 (pa_cons (pv 2) (pa_cons (pe_glob (v := .ref f_is_demand) (by rfl) T.g_is_demand rfl) pa_nil)))))
      (pss_one (ps_ret pe_bl))
      pss_nil)
      (pss_one (ps_ret (pe_and (pe_call (ok_is_independent T) (hr.mono (by decide)) (by rfl) T.g_is_independent T.F_is_independent.kp T.b_is_independent .nil pass0 (pa_cons (pv 2) pa_nil)) (pe_one (pe_callB (cr_all rfl) (by rfl) T.z_all (by decide +kernel) (pa_cons (pe_lc (own := [("demand", 3)]) (g := (gName 3)) (tt := tYes) (by rfl) sc_are_witnesses.nd (pi_tup (pv 2)) (blkOk_by (own := [("demand", 3)]) (N := N_are_witnesses) (sc := defScope s_are_witnesses) (by decide +kernel)) (fun _ _ _ _ _ => (pg_name (i := 3) sc_are_witnesses.nd rfl (Or.inl rfl))) (fun _ _ _ _ _ => pts_nil) (fun _ _ _ _ _ => (pe_and (pe_cmpR (show OpR _ (compareOp .In) (rInT K) from (op_inT (units65 hr))) (pe_ix (show IxR _ (rIxT K) from ix_tup) (pv 3) pe_int (fun _ _ => rfl)) (pv 0) (by rfl)) (pe_one (pe_call (ok_is_open T) (hr.mono (by decide)) (by rfl) T.g_is_open T.F_is_open.kp T.b_is_open .nil pass0 (pa_cons (pv 1) (pa_cons (pv 3) pa_nil))))))) pa_nil))))))), ?_⟩
    refine ⟨v, rfl, v, d, B, L, rfl, hd, fine, l50, fun H1 s1 => ⟨_, rfl, ?_⟩⟩
    have q' : ∀ H', Same H H' → Q (.bl (ascB demB d && (indL ((dsOf d).map toDem) && ((dsOf d).map toDem).all fun z => decide (z.2 ∈ ts) && opB ps z))) H' := q
    cases ea : ascB demB d with
    | false =>
      rw [ea] at q'
      exact iteT (q' H1 s1)
    | true =>
      rw [ea] at q'
      refine iteF ?_
      have hd1 := dv_same s1 hd
      refine ⟨v, rfl, v, d, rfl, hd1, wt, fun H2 s2 => ?_⟩
      have s12 := s1.trans s2
      have hd2 := dv_same s2 hd1
      cases hd2 with
      | @tup w zs ds hv all =>
        have ab := Bool.and_eq_true_iff.mp (show (ds.all demB && risL ds) = true from ea)
        have dm := dems_of all ab.1
        have ei : indB (.tuple ds) = indL (ds.map toDem) := by
          show (ds.all demB && _) = _
          rw [ab.1, Bool.true_and]
        have q2 : ∀ H', Same H H' → Q (.bl (indL (ds.map toDem) && (ds.map toDem).all fun z => decide (z.2 ∈ ts) && opB ps z)) H' := q'
        rw [ei]
        generalize ds.map toDem = W at *
        have lW := dm.length
        have ll := fine.len
        have lx := all.length
        cases ci : indL W with
        | false =>
          rw [ci] at q2
          exact ⟨_, rfl, iteF (q2 H2 s12)⟩
        | true =>
          rw [ci] at q2
          refine ⟨_, rfl, iteT ?_⟩
          refine ⟨.ref w, rfl, w, rfl, ⟨_, SqT.of hv⟩, fun D nD => ?_⟩
          refine lcT (K := K) (a := w) (xs := zs) (fun j H' ws => ws = ((W.take j).map fun z => decide (z.2 ∈ ts) && opB ps z).map V.bl) nD (fun H' s => SqT.of (s _ _ (hv))) (by omega) (fun _ _ _ _ t r => r) (fun j H' ws r => (by rw [r, List.length_map, List.length_map]; exact List.length_take_le _ _)) (fun _ => rfl) ?_ ?_
          · rintro j z H' N acc hj sm eA sz rr no yes
            have sj := s12.trans sm
            obtain ⟨p, lo, hi, ed, dz⟩ := dm.get hj
            have dzj := dz.same sm
            obtain ⟨u, t, rfl, e1, e2⟩ := dzj.ex
            refine ⟨rfl, .ref u, rfl, u, _, 1, .ref t, rfl, rfl, SqT.of e1, rfl, .ref a, rfl, .tuple [.int lo, .int hi], ts.map pairD, dp2 e2, .tup (SqT.of (sj _ _ ha)) (ivt.same sj).dp, rfl, shaped_pairs _, ?_⟩
            rw [any_pair]
            have nx : ∀ bb, bb = (decide ((lo, hi) ∈ ts) && opB ps (p, lo, hi)) → acc ++ [V.bl bb] = ((W.take (j + 1)).map fun z => decide (z.2 ∈ ts) && opB ps z).map V.bl := fun bb e => by
              rw [rr, List.take_add_one, ed, List.map_append, List.map_append, e]
              rfl
            cases cm : decide ((lo, hi) ∈ ts) with
            | false =>
              refine ⟨_, rfl, iteF (yes H' _ (Same.refl _) (nx _ ?_))⟩
              rw [cm]
              rfl
            | true =>
              refine ⟨_, rfl, iteT ?_⟩
              refine ⟨.ref b, rfl, .ref u, rfl, b, .ref u, ws, ps, p, lo, hi, rfl, sj _ _ hb, ivp.same sj, by omega, dzj, fun H3 s3 => ?_⟩
              refine yes H3 _ s3 (nx _ ?_)
              rw [cm]
              rfl
          intro H3 ws3 s3 eD rr
          rw [lW, List.take_length] at rr
          subst rr
          refine ⟨D, _, rfl, SqL.of eD, ?_⟩
          have eqall : ∀ f : Dem → Bool, (W.map f).all id = W.all f := fun f => by rw [List.all_map]; rfl
          rw [eqall]
          exact q2 H3 (s12.trans s3)
      | _ => cases ea
/-! ### a solution among values of any kind -/
def toPair : PyData → Int × Int
  | .tuple [.int x, .int y] => (x, y)
  | _ => (0, 0)
theorem ivs_of {K : PySem.W.Frag} {H : Hp} : ∀ {xs : List V} {ds : List PyData}, DvAll K H xs ds → ds.all ivB = true → Ivs H xs (ds.map toPair)
  | _, _, .nil, _ => .nil
  | _, _, .cons a b, h => by
    rw [List.all_cons] at h
    have h := Bool.and_eq_true_iff.mp h
    obtain ⟨x, y, rfl⟩ := iv_shape h.1
    obtain ⟨t, rfl, ht⟩ := a.asPair
    exact .cons ht (ivs_of b h.2)
theorem iv_ok {x y : Int} (h : ivB (.tuple [.int x, .int y]) = true) : 0 ≤ x ∧ x ≤ y ∧ y ≤ 1000000000000 := by
  have h4 : (inB 0 1000000000000 (.int x) && (inB 0 1000000000000 (.int y) && leB (.int x) (.int y))) = true := h
  have h5 := Bool.and_eq_true_iff.mp h4
  have h6 := Bool.and_eq_true_iff.mp h5.2
  have h7 := Bool.and_eq_true_iff.mp (show (decide ((0 : Int) ≤ x) && decide (x ≤ 1000000000000)) = true from h5.1)
  have h8 := Bool.and_eq_true_iff.mp (show (decide ((0 : Int) ≤ y) && decide (y ≤ 1000000000000)) = true from h6.1)
  exact ⟨of_decide_eq_true h7.1, of_decide_eq_true h6.2, of_decide_eq_true h8.2⟩
theorem pairs_ok {ds : List PyData} (h : ds.all ivB = true) : ∀ q ∈ ds.map toPair, 0 ≤ q.1 ∧ q.1 ≤ q.2 ∧ q.2 ≤ 1000000000000 := fun q hq => by
  obtain ⟨d, hd, rfl⟩ := List.mem_map.mp hq
  have hi := List.all_eq_true.mp h d hd
  obtain ⟨x, y, rfl⟩ := iv_shape hi
  exact iv_ok hi
noncomputable def covB (ps ts : List (Int × Int)) : Bool := @decide (∀ t ∈ ts, Cvd ps t) (Classical.propDecidable _)
theorem covB_iff {ps ts : List (Int × Int)} : covB ps ts = true ↔ ∀ t ∈ ts, Cvd ps t := by
  unfold covB
  exact @decide_eq_true_iff _ (Classical.propDecidable _)
theorem cov_miss {ps ts : List (Int × Int)} : covB ps ts = true ↔ missO ps ts = none := by
  rw [covB_iff, missO_none]
  constructor
  · intro h t ht
    exact gapO_eq (show IsGap ps t.1 t.2 none from fun p h1 h2 => by
      obtain ⟨q, hq, q1, q2, q3, q4⟩ := h t ht p h1 h2
      exact ⟨q, hq, ⟨q1, q4⟩, q2, q3⟩)
  · intro h t ht p h1 h2
    have g := gapO_spec ps t
    rw [h t ht] at g
    obtain ⟨q, hq, k1, k2⟩ := (show ∀ p, t.1 ≤ p → p ≤ t.2 → covI ps t.1 t.2 p from g) p h1 h2
    exact ⟨q, hq, k1.1, k2.1, k2.2, k1.2⟩
noncomputable def holdB (ts ps : List (Int × Int)) : PyData → Bool
  | .tuple [a, b] => (ascB ivB a && witB ts ps b) && (decide ((dsOf a).length = (dsOf b).length) && covB (ps ++ (dsOf a).map toPair) ts)
  | _ => false
theorem hold_two {ts ps : List (Int × Int)} {d : PyData} (h : ¬ tlB 2 d = true) : holdB ts ps d = false := by
  match d, h with
  | .tuple [a, b], h => exact absurd rfl h
  | .tuple [], _ => rfl
  | .tuple [_], _ => rfl
  | .tuple (_ :: _ :: _ :: l), _ => rfl
  | .none, _ => rfl
  | .bool _, _ => rfl
  | .int _, _ => rfl
  | .str _, _ => rfl
  | .list _, _ => rfl
  | .dict _, _ => rfl
def sp_solution_holds (K : PySem.W.Frag) : Sp := fun vs H Q _ => ∃ (a b : Addr) (v : V) (us ws : List V) (ts ps : List (Int × Int)) (d : PyData) (B L : Nat), vs = [.ref a, .ref b, v] ∧ H a = some (.tup us) ∧ Ivs H us ts ∧ Tg ts ∧ H b = some (.tup ws) ∧ Ivs H ws ps ∧ ps.length ≤ 13 ∧ Pc ps ∧ Dv K H v d ∧ Fine B L d ∧ L ≤ 50 ∧ d.weight ≤ 100000 ∧
  ∀ H', Same H H' → Q (.bl (holdB ts ps d)) H'
theorem ok_solution_holds (T : Tx K mg f_depth_changes f_find_blocks f_is_number f_is_position f_is_tuple_of f_is_interval f_is_ascending f_has_position f_contains f_is_demand f_serves f_conflict f_is_independent f_demands_at_blocks f_is_open f_open_demands f_shadow_target f_pieces_inside f_first_gap f_find_missing f_require_few_blocks f_decisive_demands f_largest_independent f_unserved_demands f_helpful_piece f_smallest_solution f_solve f_are_witnesses f_solution_holds f_law_draws f_law_next f_law_one f_law_spans f_law_targets f_law_covers f_law_is_interval f_law_is_demand f_law_rising f_law_served f_law_clash f_law_are_witnesses f_law_solved f_law_bent f_law d_depth_changes d_find_blocks d_is_number d_is_position d_is_tuple_of d_is_interval d_is_ascending d_has_position d_contains d_is_demand d_serves d_conflict d_is_independent d_demands_at_blocks d_is_open d_open_demands d_shadow_target d_pieces_inside d_first_gap d_find_missing d_require_few_blocks d_decisive_demands d_largest_independent d_unserved_demands d_helpful_piece d_smallest_solution d_solve d_are_witnesses d_solution_holds d_law_draws d_law_next d_law_one d_law_spans d_law_targets d_law_covers d_law_is_interval d_law_is_demand d_law_rising d_law_served d_law_clash d_law_are_witnesses d_law_solved d_law_bent d_law t_LAST_POSITION t_MAX_BLOCKS) : FnOk P w K mg base CX0 7 f_solution_holds d_solution_holds ["targets", "pieces", "value"] (sp_solution_holds K) := by
  refine T.F_solution_holds.ok sc_solution_holds (fun vs H Q E h => ?_) (fun cdv A outer s H vs Q E hr h => ?_)
  · obtain ⟨a, b, v, us, ws, ts, ps, d, B, L, rfl, _⟩ := h
    rfl
  · obtain ⟨a, b, v, us, ws, ts, ps, d, B, L, rfl, ha, ivt, tg, hb, ivp, l1, pcp, hd, fine, l50, wt, q⟩ := h
    refine ⟨_, (pss_cons (ps_if (pt_not (pt_val (pe_call (ok_is_tuple_of T) (hr.mono (by decide)) (by rfl) T.g_is_tuple_of T.F_is_tuple_of.kp T.b_is_tuple_of .nil pass0 (pa_cons (pv 2) (pa_cons pe_int pa_nil)))))
      (pss_one (ps_ret pe_bl))
      pss_nil)
      (pss_cons (ps_asg (pv 2) (pg_tup rfl (pgs_cons (pg_name (i := 3) sc_solution_holds.nd rfl (Or.inl rfl)) (pgs_cons (pg_name (i := 4) sc_solution_holds.nd rfl (Or.inl rfl)) pgs_nil))))
      (pss_cons (ps_if (PW.pt (pw_or (pt_not (pt_val (pe_call (ok_is_ascending T ivB iv_alike iv_fine (ok_is_interval T) (by decide) T.F_is_interval.kp T.b_is_interval) (hr.mono (by decide)) (by rfl) T.g_is_ascending T.F_is_ascending.kp T.b_is_ascending .nil pass0 (pa_cons (pv 3) (pa_cons (pe_glob (v := .ref f_is_interval) (by rfl) T.g_is_interval rfl) pa_nil))))) (pw_or1 (pt_not (pt_val (pe_call (ok_are_witnesses T) (hr.mono (by decide)) (by rfl) T.g_are_witnesses T.F_are_witnesses.kp T.b_are_witnesses .nil pass0 (pa_cons (pv 0) (pa_cons (pv 1) (pa_cons (pv 4) pa_nil)))))))))
      (pss_one (ps_ret pe_bl))
      pss_nil)
      (pss_one (ps_ret (pe_and (pe_cmpR op_eq (pe_callB call_len_seq (by rfl) T.z_len PySem.boot_len (pa_cons (pv 3) pa_nil)) (pe_callB call_len_seq (by rfl) T.z_len PySem.boot_len (pa_cons (pv 4) pa_nil)) (nomark _)) (pe_one (pe_cmpR op_isN (pe_call (ok_find_missing T) (hr.mono (by decide)) (by rfl) T.g_find_missing T.F_find_missing.kp T.b_find_missing .nil pass0 (pa_cons (pv 0) (pa_cons (pe_op op_catA (pv 1) (pv 3)) pa_nil))) pe_non (nomark _))))))))), ?_⟩
    have lw := ivp.length
    refine ⟨v, rfl, v, d, 2, rfl, hd, _, rfl, ?_⟩
    by_cases tb : tlB 2 d = true
    · rw [tb]
      refine iteF ?_
      obtain ⟨d1, d2, rfl⟩ := tl_two tb
      cases hd with
      | @tup r xs ds e all =>
        match xs, all, e, q with
        | [v1, v2], .cons h1 (.cons h2 .nil), e, q =>
          have q' : ∀ H', Same H H' → Q (.bl ((ascB ivB d1 && witB ts ps d2) && (decide ((dsOf d1).length = (dsOf d2).length) && covB (ps ++ (dsOf d1).map toPair) ts))) H' := q
          have f1 := fine.mem d1 List.mem_cons_self
          have f2 := fine.mem d2 (List.mem_cons_of_mem _ List.mem_cons_self)
          have w2 := wAll_mem (a := [d1, d2]) (x := d2) (List.mem_cons_of_mem _ List.mem_cons_self)
          have wt' : PyData.weightAll [d1, d2] ≤ 100000 := wt
          refine ⟨.ref r, rfl, r, _, rfl, SqT.of e, rfl, v1, [v2], rfl, v2, [], rfl, rfl, ?_⟩
          refine ⟨v1, rfl, v1, d1, B, L, rfl, h1, f1, l50, fun H1 s1 => ⟨_, rfl, ?_⟩⟩
          cases ea : ascB ivB d1 with
          | false =>
            rw [ea] at q'
            exact iteT (q' H1 s1)
          | true =>
            rw [ea] at q'
            refine iteF ?_
            refine ⟨.ref a, rfl, .ref b, rfl, v2, rfl, a, b, v2, us, ws, ts, ps, d2, B, L, rfl, s1 _ _ ha, ivt.same s1, s1 _ _ hb, ivp.same s1, by omega, dv_same s1 h2, f2, l50, by omega, fun H2 s2 => ⟨_, rfl, ?_⟩⟩
            have s12 := s1.trans s2
            cases ew : witB ts ps d2 with
            | false =>
              rw [ew] at q'
              exact iteT (q' H2 s12)
            | true =>
              rw [ew] at q'
              refine iteF ?_
              have t2 := (Bool.and_eq_true_iff.mp (show (ascB demB d2 && _) = true from ew)).1
              have h1 := dv_same s12 h1
              have h2 := dv_same s12 h2
              cases h1 with
              | @tup x zs es hx allx =>
                cases h2 with
                | @tup y wv fs hy ally =>
                  have lz := allx.length
                  have lwv := ally.length
                  have q2 : ∀ H', Same H H' → Q (.bl (decide (es.length = fs.length) && covB (ps ++ es.map toPair) ts)) H' := q'
                  have ab := Bool.and_eq_true_iff.mp (show (es.all ivB && risL es) = true from ea)
                  have iva := ivs_of allx ab.1
                  have okA := pairs_ok ab.1
                  have lA := iva.length
                  have le := f1.len
                  generalize es.map toPair = A at *
                  refine ⟨.ref x, rfl, x, zs, rfl, .inr (SqT.of hx), .ref y, rfl, y, wv, rfl, .inr (SqT.of hy), rfl, ?_⟩
                  have el : decide (V.int (zs.length : Nat) = V.int (wv.length : Nat)) = decide (es.length = fs.length) := by
                    rw [lz, lwv]
                    by_cases z : es.length = fs.length
                    · rw [decide_eq_true z, decide_eq_true (by rw [z])]
                    · rw [decide_eq_false z, decide_eq_false (fun y => z (by have := V.int.inj y; omega))]
                  rw [el]
                  cases ec : decide (es.length = fs.length) with
                  | false =>
                    rw [ec] at q2
                    exact ⟨_, rfl, iteF (q2 H2 s12)⟩
                  | true =>
                    rw [ec] at q2
                    refine ⟨_, rfl, iteT ?_⟩
                    refine ⟨.ref a, rfl, .ref b, rfl, .ref x, rfl, catA_any (s12 _ _ hb) hx (by rw [show sizeLine = 16777216 by decide]; omega) (fun H3 pc s3 epc => ?_)⟩
                    have s13 := s12.trans s3
                    have pcA : Pc (ps ++ A) := fun q hq => by
                      rcases List.mem_append.mp hq with h | h
                      · exact pcp q h
                      · have := okA q h
                        refine ⟨⟨this.1, this.2.1⟩, ?_⟩
                        exact Int.lt_of_le_of_lt this.2.2 (by decide)
                    refine ⟨a, pc, us, ws ++ zs, ts, ps ++ A, rfl, s13 _ _ ha, ivt.same s13, tg, epc, ((ivp.same s12).append iva).same s3, pcA, by rw [List.length_append]; omega, fun H4 v s4 dv => ?_⟩
                    have s14 := s13.trans s4
                    cases em : missO (ps ++ A) ts with
                    | none =>
                      rw [em] at dv
                      have dv : v = .non := dv
                      subst dv
                      rw [cov_miss.mpr em] at q2
                      exact ⟨rfl, q2 H4 s14⟩
                    | some z =>
                      rw [em] at dv
                      have cn : covB (ps ++ A) ts = false := by
                        rw [← Bool.not_eq_true, cov_miss, em]
                        intro z
                        cases z
                      rw [cn] at q2
                      obtain ⟨g, lo, hi⟩ := z
                      obtain ⟨uu, tt, rfl, _, _⟩ := dv
                      exact ⟨rfl, q2 H4 s14⟩
                | _ => cases t2
              | _ => cases ea
    · rw [hold_two tb] at q
      rw [Bool.not_eq_true] at tb
      rw [tb]
      exact iteT (q H (Same.refl _))

/-! ### the law's own look at a solution -/
def sp_law_is_interval (K : PySem.W.Frag) : Sp := fun vs H Q _ => ∃ (v : V) (d : PyData), vs = [v] ∧ Dv K H v d ∧ ∀ H', Same H H' → Q (.bl (ivB d)) H'
theorem ok_law_is_interval (T : Tx K mg f_depth_changes f_find_blocks f_is_number f_is_position f_is_tuple_of f_is_interval f_is_ascending f_has_position f_contains f_is_demand f_serves f_conflict f_is_independent f_demands_at_blocks f_is_open f_open_demands f_shadow_target f_pieces_inside f_first_gap f_find_missing f_require_few_blocks f_decisive_demands f_largest_independent f_unserved_demands f_helpful_piece f_smallest_solution f_solve f_are_witnesses f_solution_holds f_law_draws f_law_next f_law_one f_law_spans f_law_targets f_law_covers f_law_is_interval f_law_is_demand f_law_rising f_law_served f_law_clash f_law_are_witnesses f_law_solved f_law_bent f_law d_depth_changes d_find_blocks d_is_number d_is_position d_is_tuple_of d_is_interval d_is_ascending d_has_position d_contains d_is_demand d_serves d_conflict d_is_independent d_demands_at_blocks d_is_open d_open_demands d_shadow_target d_pieces_inside d_first_gap d_find_missing d_require_few_blocks d_decisive_demands d_largest_independent d_unserved_demands d_helpful_piece d_smallest_solution d_solve d_are_witnesses d_solution_holds d_law_draws d_law_next d_law_one d_law_spans d_law_targets d_law_covers d_law_is_interval d_law_is_demand d_law_rising d_law_served d_law_clash d_law_are_witnesses d_law_solved d_law_bent d_law t_LAST_POSITION t_MAX_BLOCKS) : FnOk P w K mg base CX0 1 f_law_is_interval d_law_is_interval ["_law_value"] (sp_law_is_interval K) := by
  refine T.F_law_is_interval.ok sc_law_is_interval (fun vs H Q E h => ?_) (fun cdv A outer s H vs Q E hr h => ?_)
  · obtain ⟨v, d, rfl, _⟩ := h
    rfl
  · obtain ⟨v, d, rfl, hd, q⟩ := h
    refine ⟨_, (pss_cons (ps_if (PW.pt (pw_or (pt_not (pt_val (pe_callB call_isi (by rfl) T.z_isinstance (by decide +kernel) (pa_cons (pv 0) (pa_cons (pe_bltn (v := .ty "tuple") (u := .type "tuple") (by rfl) T.z_tuple (by decide +kernel) rfl) pa_nil))))) (pw_or1 (pt_cmpR op_ne (pe_callB call_len_seq (by rfl) T.z_len PySem.boot_len (pa_cons (pv 0) pa_nil)) pe_int (nomark _)))))
      (pss_one (ps_ret pe_bl))
      pss_nil)
      (pss_cons (ps_if (pt_cmpR (op_neL hr.units0) (pe_lc (own := [("_law_one_here", 1)]) (g := (gName 1)) (by rfl) sc_law_is_interval.nd (pi_tup (pv 0)) (blkOk_by (own := [("_law_one_here", 1)]) (N := N_law_is_interval) (sc := defScope s_law_is_interval) (by decide +kernel)) (fun _ _ _ _ _ => (pg_name (i := 1) sc_law_is_interval.nd rfl (Or.inl rfl))) (fun _ _ _ _ _ => pts_one (PW.pt (pw_or (pt_not (pt_val (pe_callB (show CallR _ (.builtin "isinstance") (rIsi K) from call_isi) (by rfl) T.z_isinstance (by decide +kernel) (pa_cons (pv 1) (pa_cons (pe_bltn (v := .ty "int") (u := .type "int") (by rfl) T.z_int (by decide +kernel) rfl) pa_nil))))) (pw_or1 (pt_val (pe_callB (show CallR _ (.builtin "isinstance") (rIsi K) from call_isi) (by rfl) T.z_isinstance (by decide +kernel) (pa_cons (pv 1) (pa_cons (pe_bltn (v := .ty "bool") (u := .type "bool") (by rfl) T.z_bool (by decide +kernel) rfl) pa_nil)))))))) (fun _ _ _ _ _ => (pv 1))) (pe_lst pa_nil) (nomark _))
      (pss_one (ps_ret pe_bl))
      pss_nil)
      (pss_one (ps_ret (pe_chN pe_int (pch_link op_le (pe_ix ix_tup (pv 0) pe_int (fun _ _ => rfl)) (pch_link op_le (pe_ix ix_tup (pv 0) pe_int (fun _ _ => rfl)) (pch_last op_le (pe_op op_pow pe_int pe_int))))))))), ?_⟩
    refine ⟨v, rfl, v, .ty "tuple", _, _, _, rfl, .ty "tuple", hd.ty, kit_tup d, _, rfl, ?_⟩
    cases tb : tupB d with
    | false =>
      rw [iv_not tb] at q
      exact iteT (iteT (q H (Same.refl _)))
    | true =>
      refine iteF ?_
      cases hd with
      | @tup a xs ds e all =>
        have lx := all.length
        refine ⟨.ref a, rfl, a, xs, rfl, .inr (SqT.of e), rfl, _, rfl, ?_⟩
        by_cases two : xs.length = 2
        · match xs, ds, two, lx, all, e, q with
          | [v1, v2], [d1, d2], _, _, .cons h1 (.cons h2 .nil), e, q =>
            have all2 : DvAll K H [v1, v2] [d1, d2] := .cons h1 (.cons h2 .nil)
            have q' : ∀ H', Same H H' → Q (.bl (inB 0 1000000000000 d1 && (inB 0 1000000000000 d2 && leB d1 d2))) H' := q
            refine iteF ?_
            refine ⟨.ref a, rfl, a, rfl, ⟨_, SqT.of e⟩, fun D nD => ?_⟩
            refine lcT (K := K) (a := a) (xs := [v1, v2]) (fun j H' ws => ws.length = (([d1, d2].take j).filter fun x => !(intB x && !boolB x)).length) nD (fun H' s => SqT.of (s _ _ (e))) (by show 2 < 1000; decide) (fun _ _ _ _ t r => r) (fun j H' ws r => (by rw [r]; exact Nat.le_trans (List.length_filter_le _ _) (List.length_take_le _ _))) (fun _ => rfl) ?_ ?_
            · rintro j z H' N acc hj sm eA sz rr no yes
              obtain ⟨x, ex, hx⟩ := all2.get hj
              have hx := dv_same sm hx
              have out : (intB x && !boolB x) = false → ∃ acc', H' D = some (.lst acc') ∧ acc'.length < sizeLine ∧ N (upd H' D (.lst (acc' ++ [z]))) := fun c => by
                refine yes _ _ (Same.refl _) ?_
                rw [take_filter ex, if_pos (by rw [c]; rfl), List.length_append, List.length_append, rr]
                rfl
              refine ⟨rfl, z, rfl, z, .ty "int", _, _, _, rfl, .ty "int", hx.ty, kit_int x, _, rfl, ?_⟩
              cases ib : intB x with
              | false => exact iteT (iteT ⟨z, rfl, out (by rw [ib]; rfl)⟩)
              | true =>
                refine iteF ?_
                refine ⟨z, rfl, z, .ty "bool", _, _, _, rfl, .ty "bool", hx.ty, kit_bool x, _, rfl, ?_⟩
                cases bb : boolB x with
                | true => exact iteT ⟨z, rfl, out (by rw [ib, bb]; rfl)⟩
                | false =>
                  refine iteF (no _ (Same.refl _) ?_)
                  rw [take_filter ex, if_neg (by rw [ib, bb]; decide), List.append_nil]
                  exact rr
            intro H1 ws s1 eD rr
            have rr : ws.length = ([d1, d2].filter fun x => !(intB x && !boolB x)).length := rr
            refine ⟨by show 0 ≤ sizeLine; decide, fun z nz => ?_⟩
            have s2 := same_new (o := .lst []) nz
            have ez := upd_same (H := H1) (a := z) (o := .lst [])
            generalize upd H1 z (.lst []) = H2 at *
            have s12 := s1.trans s2
            refine ⟨D, z, ws, rfl, rfl, SqL.of (s2 _ _ eD), SqL.of ez, _, rfl, ?_⟩
            have e2 := s12 _ _ e
            cases n1 : (intB d1 && !boolB d1) with
            | false =>
              rw [List.filter_cons, if_pos (by rw [n1]; rfl), List.length_cons] at rr
              have ne : ws.isEmpty = false := by
                cases ws with
                | nil => cases rr
                | cons _ _ => rfl
              rw [ne]
              rw [num_no n1, Bool.false_and] at q'
              exact iteT (q' H2 s12)
            | true =>
              rw [List.filter_cons, if_neg (by rw [n1]; decide)] at rr
              cases n2 : (intB d2 && !boolB d2) with
              | false =>
                rw [List.filter_cons, if_pos (by rw [n2]; rfl), List.length_cons] at rr
                have ne : ws.isEmpty = false := by
                  cases ws with
                  | nil => cases rr
                  | cons _ _ => rfl
                rw [ne]
                rw [num_no n2, Bool.false_and, Bool.and_false] at q'
                exact iteT (q' H2 s12)
              | true =>
                rw [List.filter_cons, if_neg (by rw [n2]; decide)] at rr
                have ne : ws = [] := List.length_eq_zero_iff.mp rr
                subst ne
                refine iteF ?_
                obtain ⟨x, rfl⟩ := num_int n1
                obtain ⟨y, rfl⟩ := num_int n2
                have z1 := h1.asInt
                have z2 := h2.asInt
                subst z1 z2
                have p12 : (10 : Int) ^ (12 : Int).toNat = 1000000000000 := by decide
                have q3 : Q (.bl (decide (0 ≤ x) && (decide (x ≤ y) && decide (y ≤ 1000000000000)))) H2 := by
                  have z := q' H2 s12
                  have e : (inB 0 1000000000000 (.int x) && (inB 0 1000000000000 (.int y) && leB (.int x) (.int y))) = (decide (0 ≤ x) && (decide (x ≤ y) && decide (y ≤ 1000000000000))) := by
                    show ((decide ((0 : Int) ≤ x) && decide (x ≤ 1000000000000)) && ((decide ((0 : Int) ≤ y) && decide (y ≤ 1000000000000)) && decide (x ≤ y))) = _
                    rw [Bool.eq_iff_iff]
                    simp only [Bool.and_eq_true, decide_eq_true_eq]
                    omega
                  rw [e] at z
                  exact z
                refine ⟨.ref a, rfl, a, _, 0, .int x, rfl, rfl, SqT.of e2, rfl, _, _, rfl, rfl, _, rfl, ?_⟩
                cases c1 : decide ((0 : Int) ≤ x) with
                | false =>
                  rw [c1] at q3
                  exact iteF q3
                | true =>
                  rw [c1] at q3
                  refine iteT ⟨.ref a, rfl, a, _, 1, .int y, rfl, rfl, SqT.of e2, rfl, _, _, rfl, rfl, _, rfl, ?_⟩
                  cases c2 : decide (x ≤ y) with
                  | false =>
                    rw [c2] at q3
                    exact iteF q3
                  | true =>
                    rw [c2] at q3
                    refine iteT ⟨10, 12, rfl, rfl, ⟨by decide, by decide, by decide⟩, _, _, rfl, rfl, ?_⟩
                    rw [p12]
                    exact q3
        · have ne : ¬ (V.int (xs.length : Nat) = V.int 2) := fun z => two (by
            have z' := V.int.inj z
            omega)
          rw [decide_eq_false ne]
          have z : ivB (.tuple ds) = false := iv_two (by
            intro h
            obtain ⟨x, y, h'⟩ := tl_two h
            cases h'
            exact two lx)
          rw [z] at q
          exact iteT (q H (Same.refl _))
      | _ => exact (Bool.false_ne_true tb).elim
theorem dem_law {a b : PyData} : demB (.tuple [a, b]) = (ivB b && ((intB a && !boolB a) && hasB a b)) := by
  show (inB 0 1000000000000 a && (ivB b && hasB a b)) = _
  cases ib : ivB b with
  | false => rw [Bool.false_and, Bool.false_and, Bool.and_false]
  | true =>
    obtain ⟨x, y, rfl⟩ := iv_shape ib
    have ok := iv_ok ib
    rw [Bool.true_and, Bool.true_and]
    cases a with
    | int p =>
      show ((decide ((0 : Int) ≤ p) && decide (p ≤ 1000000000000)) && (decide (x ≤ p) && decide (p ≤ y))) = (true && (decide (x ≤ p) && decide (p ≤ y)))
      rw [Bool.eq_iff_iff]
      simp only [Bool.and_eq_true, decide_eq_true_eq, true_and]
      omega
    | _ => rfl
def sp_law_is_demand (K : PySem.W.Frag) : Sp := fun vs H Q _ => ∃ (v : V) (d : PyData), vs = [v] ∧ Dv K H v d ∧ ∀ H', Same H H' → Q (.bl (demB d)) H'
theorem ok_law_is_demand (T : Tx K mg f_depth_changes f_find_blocks f_is_number f_is_position f_is_tuple_of f_is_interval f_is_ascending f_has_position f_contains f_is_demand f_serves f_conflict f_is_independent f_demands_at_blocks f_is_open f_open_demands f_shadow_target f_pieces_inside f_first_gap f_find_missing f_require_few_blocks f_decisive_demands f_largest_independent f_unserved_demands f_helpful_piece f_smallest_solution f_solve f_are_witnesses f_solution_holds f_law_draws f_law_next f_law_one f_law_spans f_law_targets f_law_covers f_law_is_interval f_law_is_demand f_law_rising f_law_served f_law_clash f_law_are_witnesses f_law_solved f_law_bent f_law d_depth_changes d_find_blocks d_is_number d_is_position d_is_tuple_of d_is_interval d_is_ascending d_has_position d_contains d_is_demand d_serves d_conflict d_is_independent d_demands_at_blocks d_is_open d_open_demands d_shadow_target d_pieces_inside d_first_gap d_find_missing d_require_few_blocks d_decisive_demands d_largest_independent d_unserved_demands d_helpful_piece d_smallest_solution d_solve d_are_witnesses d_solution_holds d_law_draws d_law_next d_law_one d_law_spans d_law_targets d_law_covers d_law_is_interval d_law_is_demand d_law_rising d_law_served d_law_clash d_law_are_witnesses d_law_solved d_law_bent d_law t_LAST_POSITION t_MAX_BLOCKS) : FnOk P w K mg base CX0 2 f_law_is_demand d_law_is_demand ["_law_value"] (sp_law_is_demand K) := by
  refine T.F_law_is_demand.ok sc_law_is_demand (fun vs H Q E h => ?_) (fun cdv A outer s H vs Q E hr h => ?_)
  · obtain ⟨v, d, rfl, _⟩ := h
    rfl
  · obtain ⟨v, d, rfl, hd, q⟩ := h
    refine ⟨_, (pss_cons (ps_if (PW.pt (pw_or (pt_not (pt_val (pe_callB call_isi (by rfl) T.z_isinstance (by decide +kernel) (pa_cons (pv 0) (pa_cons (pe_bltn (v := .ty "tuple") (u := .type "tuple") (by rfl) T.z_tuple (by decide +kernel) rfl) pa_nil))))) (pw_or (pt_cmpR op_ne (pe_callB call_len_seq (by rfl) T.z_len PySem.boot_len (pa_cons (pv 0) pa_nil)) pe_int (nomark _)) (pw_or1 (pt_not (pt_val (pe_call (ok_law_is_interval T) (hr.mono (by decide)) (by rfl) T.g_law_is_interval T.F_law_is_interval.kp T.b_law_is_interval .nil pass0 (pa_cons (pe_ix ix_tup (pv 0) pe_int (fun _ _ => rfl)) pa_nil))))))))
      (pss_one (ps_ret pe_bl))
      pss_nil)
      (pss_cons (ps_set (i := 1) sc_law_is_demand.nd rfl (Or.inl rfl) (pe_and (pe_callB call_isi (by rfl) T.z_isinstance (by decide +kernel) (pa_cons (pe_ix ix_tup (pv 0) pe_int (fun _ _ => rfl)) (pa_cons (pe_bltn (v := .ty "int") (u := .type "int") (by rfl) T.z_int (by decide +kernel) rfl) pa_nil))) (pe_one (pe_not (pe_callB call_isi (by rfl) T.z_isinstance (by decide +kernel) (pa_cons (pe_ix ix_tup (pv 0) pe_int (fun _ _ => rfl)) (pa_cons (pe_bltn (v := .ty "bool") (u := .type "bool") (by rfl) T.z_bool (by decide +kernel) rfl) pa_nil)))))))
      (pss_one (ps_ret (pe_and (pv 1) (pe_one (pe_chain op_le op_le (pe_ix ix_tup (pe_ix ix_tup (pv 0) pe_int (fun _ _ => rfl)) pe_int (fun _ _ => rfl)) (pe_ix ix_tup (pv 0) pe_int (fun _ _ => rfl)) (pe_ix ix_tup (pe_ix ix_tup (pv 0) pe_int (fun _ _ => rfl)) pe_int (fun _ _ => rfl))))))))), ?_⟩
    refine ⟨v, rfl, v, .ty "tuple", _, _, _, rfl, .ty "tuple", hd.ty, kit_tup d, _, rfl, ?_⟩
    cases tb : tupB d with
    | false =>
      have z : demB d = false := dem_two (by rw [tl_not tb]; decide)
      rw [z] at q
      exact iteT (iteT (q H (Same.refl _)))
    | true =>
      refine iteF ?_
      cases hd with
      | @tup a xs ds e all =>
        have lx := all.length
        refine ⟨.ref a, rfl, a, xs, rfl, .inr (SqT.of e), rfl, _, rfl, ?_⟩
        by_cases two : xs.length = 2
        · match xs, ds, two, lx, all, e, q with
          | [v1, v2], [d1, d2], _, _, .cons h1 (.cons h2 .nil), e, q =>
            rw [dem_law] at q
            refine iteF ?_
            refine ⟨.ref a, rfl, a, _, 1, v2, rfl, rfl, SqT.of e, rfl, v2, d2, rfl, h2, fun H1 s1 => ⟨_, rfl, ?_⟩⟩
            cases ib : ivB d2 with
            | false =>
              rw [ib] at q
              exact iteT (q H1 s1)
            | true =>
              rw [ib] at q
              refine iteF ?_
              obtain ⟨x, y, rfl⟩ := iv_shape ib
              obtain ⟨b, rfl, hb⟩ := (dv_same s1 h2).asPair
              have e1 := s1 _ _ e
              have h11 := dv_same s1 h1
              refine ⟨.ref a, rfl, a, _, 0, v1, rfl, rfl, SqT.of e1, rfl, v1, .ty "int", _, _, _, rfl, .ty "int", h11.ty, kit_int d1, ?_⟩
              have nn : ∀ bb, (intB d1 && !boolB d1) = bb → ∀ H', Same H H' → Q (.bl (bb && hasB d1 (.tuple [.int x, .int y]))) H' := fun bb e H' s => by
                have z := q H' s
                rw [e] at z
                exact z
              cases i1 : intB d1 with
              | false =>
                have nf := nn false (by rw [i1]; rfl)
                refine ⟨_, rfl, iteF ?_⟩
                exact ⟨.bl false, rfl, _, rfl, iteF (nf H1 s1)⟩
              | true =>
                refine ⟨_, rfl, iteT ?_⟩
                refine ⟨.ref a, rfl, a, _, 0, v1, rfl, rfl, SqT.of e1, rfl, v1, .ty "bool", _, _, _, rfl, .ty "bool", h11.ty, kit_bool d1, ?_⟩
                cases b1 : boolB d1 with
                | true =>
                  have nf := nn false (by rw [i1, b1]; rfl)
                  exact ⟨_, rfl, .bl false, rfl, _, rfl, iteF (nf H1 s1)⟩
                | false =>
                  have nt := nn true (by rw [i1, b1]; rfl)
                  obtain ⟨p, rfl⟩ := num_int (d := d1) (by rw [i1, b1]; rfl)
                  have ev := h1.asInt
                  subst ev
                  have q3 : Q (.bl (decide (x ≤ p) && decide (p ≤ y))) H1 := nt H1 s1
                  refine ⟨_, rfl, .bl true, rfl, _, rfl, iteT ?_⟩
                  refine ⟨.ref a, rfl, a, _, 1, .ref b, rfl, rfl, SqT.of e1, rfl, b, _, 0, .int x, rfl, rfl, SqT.of hb, rfl, .ref a, rfl, a, _, 0, .int p, rfl, rfl, SqT.of e1, rfl, _, _, rfl, rfl, _, rfl, ?_⟩
                  cases c1 : decide (x ≤ p) with
                  | false =>
                    rw [c1] at q3
                    exact iteF q3
                  | true =>
                    rw [c1] at q3
                    exact iteT ⟨.ref a, rfl, a, _, 1, .ref b, rfl, rfl, SqT.of e1, rfl, b, _, 1, .int y, rfl, rfl, SqT.of hb, rfl, _, _, rfl, rfl, q3⟩
        · have ne : ¬ (V.int (xs.length : Nat) = V.int 2) := fun z => two (by
            have z' := V.int.inj z
            omega)
          rw [decide_eq_false ne]
          have z : demB (.tuple ds) = false := dem_two (by
            intro h
            obtain ⟨x, y, h'⟩ := tl_two h
            cases h'
            exact two lx)
          rw [z] at q
          exact iteT (iteT (q H (Same.refl _)))
      | _ => exact (Bool.false_ne_true tb).elim
theorem ws_len {α : Type} {ws : List V} {l : List α} (h : ws.length = l.length) : ws.isEmpty = l.isEmpty := by
  cases ws <;> cases l <;> first | rfl | cases h
theorem filt_all {α : Type} {p : α → Bool} {ds : List α} : ((ds.filter fun x => !p x).isEmpty) = ds.all p := by
  rw [Bool.eq_iff_iff, List.isEmpty_iff, List.all_eq_true, List.filter_eq_nil_iff]
  constructor
  · intro h x hx
    have := h x hx
    cases hc : p x with
    | true => rfl
    | false =>
      rw [hc] at this
      exact absurd rfl this
  · intro h x hx
    rw [h x hx]
    decide
def sp_law_rising (K : PySem.W.Frag) : Sp := fun vs H Q _ => ∃ (a : Addr) (us : List V) (ds : List PyData), vs = [.ref a] ∧ H a = some (.tup us) ∧ DvAll K H us ds ∧ us.length < 900 ∧ (∀ d ∈ ds, (d ≠ .none ∧ d.depth ≤ 60 ∧ d.canLay0 = true) ∧ ∀ e ∈ ds, PySem.W.alike d e = true) ∧ ∀ H', Same H H' → Q (.bl (risL ds)) H'
theorem ok_law_rising (T : Tx K mg f_depth_changes f_find_blocks f_is_number f_is_position f_is_tuple_of f_is_interval f_is_ascending f_has_position f_contains f_is_demand f_serves f_conflict f_is_independent f_demands_at_blocks f_is_open f_open_demands f_shadow_target f_pieces_inside f_first_gap f_find_missing f_require_few_blocks f_decisive_demands f_largest_independent f_unserved_demands f_helpful_piece f_smallest_solution f_solve f_are_witnesses f_solution_holds f_law_draws f_law_next f_law_one f_law_spans f_law_targets f_law_covers f_law_is_interval f_law_is_demand f_law_rising f_law_served f_law_clash f_law_are_witnesses f_law_solved f_law_bent f_law d_depth_changes d_find_blocks d_is_number d_is_position d_is_tuple_of d_is_interval d_is_ascending d_has_position d_contains d_is_demand d_serves d_conflict d_is_independent d_demands_at_blocks d_is_open d_open_demands d_shadow_target d_pieces_inside d_first_gap d_find_missing d_require_few_blocks d_decisive_demands d_largest_independent d_unserved_demands d_helpful_piece d_smallest_solution d_solve d_are_witnesses d_solution_holds d_law_draws d_law_next d_law_one d_law_spans d_law_targets d_law_covers d_law_is_interval d_law_is_demand d_law_rising d_law_served d_law_clash d_law_are_witnesses d_law_solved d_law_bent d_law t_LAST_POSITION t_MAX_BLOCKS) : FnOk P w K mg base CX0 1 f_law_rising d_law_rising ["_law_values"] (sp_law_rising K) := by
  refine T.F_law_rising.ok sc_law_rising (fun vs H Q E h => ?_) (fun cdv A outer s H vs Q E hr h => ?_)
  · obtain ⟨a, us, ds, rfl, _⟩ := h
    rfl
  · obtain ⟨a, us, ds, rfl, ha, all, few, pl, q⟩ := h
    refine ⟨_, (pss_one (ps_ret (pe_cmpR (op_eqL hr.units0) (pe_lc (own := [("_law_k", 1)]) (g := (gName 1)) (by rfl) sc_law_rising.nd (pi_range2 (by rfl) T.z_range (pa_cons pe_int (pa_cons (pe_callB call_len_seq (by rfl) T.z_len PySem.boot_len (pa_cons (pv 0) pa_nil)) pa_nil))) (blkOk_by (own := [("_law_k", 1)]) (N := N_law_rising) (sc := defScope s_law_rising) (by decide +kernel)) (fun _ _ _ _ _ => (pg_name (i := 1) sc_law_rising.nd rfl (Or.inl rfl))) (fun _ _ _ _ _ => pts_one (pt_cmpR (show OpR _ (compareOp .GtE) (rGeDt K) from (op_geDt hr.units)) (pe_ix (show IxR _ (rIxT K) from ix_tup) (pv 0) (pe_op op_sub (pv 1) pe_int) (fun _ _ => rfl)) (pe_ix (show IxR _ (rIxT K) from ix_tup) (pv 0) (pv 1) (fun _ _ => rfl)) (nomark _))) (fun _ _ _ _ _ => (pv 1))) (pe_lst pa_nil) (nomark _)))), ?_⟩
    have lx := all.length
    refine ⟨.ref a, rfl, a, us, rfl, .inr (SqT.of ha), 1, _, rfl, ⟨by decide, by decide, by omega, by omega⟩, fun D nD => ?_⟩
    refine lcR (lo := 1) (n := ((us.length : Int) - 1).toNat) (fun j H' ws => ws.length = (((nxt ds).take j).filter fun p => !PySem.W.dataLt p.1 p.2).length) nD (by omega) (fun _ _ _ _ _ r => r) (fun j H' ws r => by rw [r]; exact Nat.le_trans (List.length_filter_le _ _) (List.length_take_le _ _)) (fun _ => rfl) ?_ ?_
    · rintro k H1 N acc hk s1 eD sz rr no yes
      have e1 := List.getElem?_eq_getElem (l := us) (i := k) (by omega)
      have e2 := List.getElem?_eq_getElem (l := us) (i := k + 1) (by omega)
      obtain ⟨d1, f1, h1⟩ := all.get e1
      obtain ⟨d2, f2, h2⟩ := all.get e2
      have m1 := pl d1 (List.mem_of_getElem? f1)
      have m2 := pl d2 (List.mem_of_getElem? f2)
      have en := nxt_get f1 (by rw [List.getElem?_drop, Nat.add_comm 1 k]; exact f2)
      generalize us[k] = v1 at *
      generalize us[k + 1] = v2 at *
      refine ⟨rfl, .ref a, rfl, .int (1 + k), rfl, _, _, rfl, rfl, a, us, 1 + (k : Int) - 1, v1, rfl, rfl, SqT.of (s1 _ _ ha), (by rw [show 1 + (k : Int) - 1 = (k : Nat) by omega]; exact atI_nat e1), .ref a, rfl, .int (1 + k), rfl, a, us, 1 + (k : Int), v2, rfl, rfl, SqT.of (s1 _ _ ha), (by rw [show 1 + (k : Int) = ((k + 1 : Nat) : Int) by omega]; exact atI_nat e2), d1, d2, (dv_same s1 h1).dp m1.1.2.2, (dv_same s1 h2).dp m2.1.2.2, m1.2 d2 (List.mem_of_getElem? f2), m1.1.1, m1.1.2.1, _, rfl, ite2 (fun cc => ?_) (fun cc => ?_)⟩
      · refine ⟨_, rfl, yes _ _ (Same.refl _) ?_⟩
        rw [take_filter en, if_pos cc, List.length_append, List.length_append, rr]
        rfl
      · refine no _ (Same.refl _) ?_
        rw [take_filter en, if_neg cc, List.append_nil]
        exact rr
    intro H1 zs s1 eD rr
    rw [List.take_of_length_le (by rw [nxt_len]; omega)] at rr
    refine ⟨by show 0 ≤ sizeLine; decide, fun e ne => ?_⟩
    have s2 := same_new (o := .lst []) ne
    have ee := upd_same (H := H1) (a := e) (o := .lst [])
    generalize upd H1 e (.lst []) = H2 at *
    refine ⟨D, e, zs, rfl, rfl, SqL.of (s2 _ _ eD), SqL.of ee, ?_⟩
    rw [ws_len rr, filt_all]
    exact q H2 (s1.trans s2)
def sp_law_served : Sp := fun vs H Q _ => ∃ (a u t : Addr) (x y p lo hi : Int), vs = [.ref a, .ref u] ∧ H a = some (.tup [.int x, .int y]) ∧ H u = some (.tup [.int p, .ref t]) ∧ H t = some (.tup [.int lo, .int hi]) ∧ Q (.bl (svI x y p lo hi)) H
theorem svI_chain (x y p lo hi : Int) : svI x y p lo hi = (decide (lo ≤ x) && (decide (x ≤ p) && (decide (p ≤ y) && decide (y ≤ hi)))) := by
  rw [show svI x y p lo hi = sv (x, y) (p, lo, hi) from sv_svI (x, y) (p, lo, hi), Bool.eq_iff_iff, sv_iff']
  simp only [Bool.and_eq_true, decide_eq_true_eq]
theorem ok_law_served (T : Tx K mg f_depth_changes f_find_blocks f_is_number f_is_position f_is_tuple_of f_is_interval f_is_ascending f_has_position f_contains f_is_demand f_serves f_conflict f_is_independent f_demands_at_blocks f_is_open f_open_demands f_shadow_target f_pieces_inside f_first_gap f_find_missing f_require_few_blocks f_decisive_demands f_largest_independent f_unserved_demands f_helpful_piece f_smallest_solution f_solve f_are_witnesses f_solution_holds f_law_draws f_law_next f_law_one f_law_spans f_law_targets f_law_covers f_law_is_interval f_law_is_demand f_law_rising f_law_served f_law_clash f_law_are_witnesses f_law_solved f_law_bent f_law d_depth_changes d_find_blocks d_is_number d_is_position d_is_tuple_of d_is_interval d_is_ascending d_has_position d_contains d_is_demand d_serves d_conflict d_is_independent d_demands_at_blocks d_is_open d_open_demands d_shadow_target d_pieces_inside d_first_gap d_find_missing d_require_few_blocks d_decisive_demands d_largest_independent d_unserved_demands d_helpful_piece d_smallest_solution d_solve d_are_witnesses d_solution_holds d_law_draws d_law_next d_law_one d_law_spans d_law_targets d_law_covers d_law_is_interval d_law_is_demand d_law_rising d_law_served d_law_clash d_law_are_witnesses d_law_solved d_law_bent d_law t_LAST_POSITION t_MAX_BLOCKS) : FnOk P w K mg base CX0 1 f_law_served d_law_served ["_law_piece", "_law_demand"] sp_law_served := by
  refine T.F_law_served.ok sc_law_served (fun vs H Q E h => ?_) (fun cdv A outer s H vs Q E hr h => ?_)
  · obtain ⟨a, u, t, x, y, p, lo, hi, rfl, _⟩ := h
    rfl
  · obtain ⟨a, u, t, x, y, p, lo, hi, rfl, ha, hu, ht, q⟩ := h
    refine ⟨_, (pss_cons (ps_asg (pv 1) (pg_tup rfl (pgs_cons (pg_name (i := 2) sc_law_served.nd rfl (Or.inl rfl)) (pgs_cons (pg_name (i := 3) sc_law_served.nd rfl (Or.inl rfl)) pgs_nil))))
      (pss_one (ps_ret (pe_chN (pe_ix ix_tup (pv 3) pe_int (fun _ _ => rfl)) (pch_link op_le (pe_ix ix_tup (pv 0) pe_int (fun _ _ => rfl)) (pch_link op_le (pv 2) (pch_link op_le (pe_ix ix_tup (pv 0) pe_int (fun _ _ => rfl)) (pch_last op_le (pe_ix ix_tup (pv 3) pe_int (fun _ _ => rfl)))))))))), ?_⟩
    refine ⟨.ref u, rfl, u, _, rfl, SqT.of hu, rfl, .int p, [.ref t], rfl, .ref t, [], rfl, rfl, ?_⟩
    rw [svI_chain] at q
    refine ⟨.ref t, rfl, t, _, 0, .int lo, rfl, rfl, SqT.of ht, rfl, .ref a, rfl, a, _, 0, .int x, rfl, rfl, SqT.of ha, rfl, _, _, rfl, rfl, _, rfl, ite2 (fun e1 => ?_) (fun e1 => ?_)⟩
    · refine ⟨.int p, rfl, _, _, rfl, rfl, _, rfl, ite2 (fun e2 => ?_) (fun e2 => ?_)⟩
      · refine ⟨.ref a, rfl, a, _, 1, .int y, rfl, rfl, SqT.of ha, rfl, _, _, rfl, rfl, _, rfl, ite2 (fun e3 => ?_) (fun e3 => ?_)⟩
        · refine ⟨.ref t, rfl, t, _, 1, .int hi, rfl, rfl, SqT.of ht, rfl, _, _, rfl, rfl, ?_⟩
          rw [e1, e2, e3, Bool.true_and, Bool.true_and, Bool.true_and] at q
          exact q
        · rw [Bool.not_eq_true] at e3
          rw [e1, e2, e3, Bool.true_and, Bool.true_and, Bool.false_and] at q
          exact q
      · rw [Bool.not_eq_true] at e2
        rw [e1, e2, Bool.true_and, Bool.false_and] at q
        exact q
    · rw [Bool.not_eq_true] at e1
      rw [e1, Bool.false_and] at q
      exact q
theorem clash_eq {p1 lo1 hi1 p2 lo2 hi2 : Int} (h1 : lo1 ≤ p1 ∧ p1 ≤ hi1) (h2 : lo2 ≤ p2 ∧ p2 ≤ hi2) :
    (decide ((if lo2 > lo1 then lo2 else lo1) ≤ (if p2 < p1 then p2 else p1)) && decide ((if p2 > p1 then p2 else p1) ≤ (if hi2 < hi1 then hi2 else hi1))) = cf (p1, lo1, hi1) (p2, lo2, hi2) := by
  rw [Bool.eq_iff_iff, Bool.and_eq_true, decide_eq_true_iff, decide_eq_true_iff, cf_iff]
  show _ ↔ (lo2 ≤ p1 ∧ p1 ≤ hi2) ∧ lo1 ≤ p2 ∧ p2 ≤ hi1
  split <;> split <;> split <;> split <;> omega
def sp_law_clash : Sp := fun vs H Q _ => ∃ (v1 v2 : V) (p1 lo1 hi1 p2 lo2 hi2 : Int), vs = [v1, v2] ∧ Dm H v1 p1 lo1 hi1 ∧ Dm H v2 p2 lo2 hi2 ∧ Q (.bl (cf (p1, lo1, hi1) (p2, lo2, hi2))) H
theorem ok_law_clash (T : Tx K mg f_depth_changes f_find_blocks f_is_number f_is_position f_is_tuple_of f_is_interval f_is_ascending f_has_position f_contains f_is_demand f_serves f_conflict f_is_independent f_demands_at_blocks f_is_open f_open_demands f_shadow_target f_pieces_inside f_first_gap f_find_missing f_require_few_blocks f_decisive_demands f_largest_independent f_unserved_demands f_helpful_piece f_smallest_solution f_solve f_are_witnesses f_solution_holds f_law_draws f_law_next f_law_one f_law_spans f_law_targets f_law_covers f_law_is_interval f_law_is_demand f_law_rising f_law_served f_law_clash f_law_are_witnesses f_law_solved f_law_bent f_law d_depth_changes d_find_blocks d_is_number d_is_position d_is_tuple_of d_is_interval d_is_ascending d_has_position d_contains d_is_demand d_serves d_conflict d_is_independent d_demands_at_blocks d_is_open d_open_demands d_shadow_target d_pieces_inside d_first_gap d_find_missing d_require_few_blocks d_decisive_demands d_largest_independent d_unserved_demands d_helpful_piece d_smallest_solution d_solve d_are_witnesses d_solution_holds d_law_draws d_law_next d_law_one d_law_spans d_law_targets d_law_covers d_law_is_interval d_law_is_demand d_law_rising d_law_served d_law_clash d_law_are_witnesses d_law_solved d_law_bent d_law t_LAST_POSITION t_MAX_BLOCKS) : FnOk P w K mg base CX0 1 f_law_clash d_law_clash ["_law_one_here", "_law_other"] sp_law_clash := by
  refine T.F_law_clash.ok sc_law_clash (fun vs H Q E h => ?_) (fun cdv A outer s H vs Q E hr h => ?_)
  · obtain ⟨v1, v2, p1, lo1, hi1, p2, lo2, hi2, rfl, _⟩ := h
    rfl
  · obtain ⟨v1, v2, p1, lo1, hi1, p2, lo2, hi2, rfl, d1, d2, q⟩ := h
    refine ⟨_, (pss_cons (ps_par (by rfl) sc_law_clash.nd (i := 2) (j := 3) rfl rfl (by decide) rfl rfl (pa_cons (pe_callB (call_min2 rfl) (by rfl) T.z_min (by decide +kernel) (pa_cons (pe_ix ix_tup (pv 0) pe_int (fun _ _ => rfl)) (pa_cons (pe_ix ix_tup (pv 1) pe_int (fun _ _ => rfl)) pa_nil))) (pa_cons (pe_callB (call_max2 rfl) (by rfl) T.z_max (by decide +kernel) (pa_cons (pe_ix ix_tup (pv 0) pe_int (fun _ _ => rfl)) (pa_cons (pe_ix ix_tup (pv 1) pe_int (fun _ _ => rfl)) pa_nil))) pa_nil)) (by rfl))
      (pss_one (ps_ret (pe_and (pe_cmpR op_le (pe_callB (call_max2 rfl) (by rfl) T.z_max (by decide +kernel) (pa_cons (pe_ix ix_tup (pe_ix ix_tup (pv 0) pe_int (fun _ _ => rfl)) pe_int (fun _ _ => rfl)) (pa_cons (pe_ix ix_tup (pe_ix ix_tup (pv 1) pe_int (fun _ _ => rfl)) pe_int (fun _ _ => rfl)) pa_nil))) (pv 2) (nomark _)) (pe_one (pe_cmpR op_le (pv 3) (pe_callB (call_min2 rfl) (by rfl) T.z_min (by decide +kernel) (pa_cons (pe_ix ix_tup (pe_ix ix_tup (pv 0) pe_int (fun _ _ => rfl)) pe_int (fun _ _ => rfl)) (pa_cons (pe_ix ix_tup (pe_ix ix_tup (pv 1) pe_int (fun _ _ => rfl)) pe_int (fun _ _ => rfl)) pa_nil))) (nomark _))))))), ?_⟩
    have o1 : lo1 ≤ p1 ∧ p1 ≤ hi1 := ⟨d1.low, d1.high⟩
    have o2 : lo2 ≤ p2 ∧ p2 ≤ hi2 := ⟨d2.low, d2.high⟩
    obtain ⟨u1, t1, rfl, e11, e12⟩ := d1.ex
    obtain ⟨u2, t2, rfl, e21, e22⟩ := d2.ex
    rw [← clash_eq o1 o2] at q
    refine ⟨.ref u1, rfl, u1, _, 0, .int p1, rfl, rfl, SqT.of e11, rfl, .ref u2, rfl, u2, _, 0, .int p2, rfl, rfl, SqT.of e21, rfl, _, _, rfl, ?_⟩
    refine ⟨.ref u1, rfl, u1, _, 0, .int p1, rfl, rfl, SqT.of e11, rfl, .ref u2, rfl, u2, _, 0, .int p2, rfl, rfl, SqT.of e21, rfl, _, _, rfl, _, _, rfl, ?_⟩
    refine ⟨.ref u1, rfl, u1, _, 1, .ref t1, rfl, rfl, SqT.of e11, rfl, t1, _, 0, .int lo1, rfl, rfl, SqT.of e12, rfl, .ref u2, rfl, u2, _, 1, .ref t2, rfl, rfl, SqT.of e21, rfl, t2, _, 0, .int lo2, rfl, rfl, SqT.of e22, rfl, _, _, rfl, _, rfl, _, _, rfl, rfl, _, rfl, ite2 (fun c => ?_) (fun c => ?_)⟩
    · refine ⟨_, rfl, .ref u1, rfl, u1, _, 1, .ref t1, rfl, rfl, SqT.of e11, rfl, t1, _, 1, .int hi1, rfl, rfl, SqT.of e12, rfl, .ref u2, rfl, u2, _, 1, .ref t2, rfl, rfl, SqT.of e21, rfl, t2, _, 1, .int hi2, rfl, rfl, SqT.of e22, rfl, _, _, rfl, _, _, rfl, rfl, ?_⟩
      rw [c, Bool.true_and] at q
      exact q
    · rw [Bool.not_eq_true] at c
      rw [c, Bool.false_and] at q
      exact q
/-- what the law asks of the k-th witness -/
def okAt (ts ps : List (Int × Int)) (W : List Dem) (k : Nat) : Bool := (decide ((W.getD k (0, 0, 0)).2 ∈ ts) && opB ps (W.getD k (0, 0, 0))) && !badAt W k
theorem all_at {ts ps : List (Int × Int)} {W : List Dem} (h : ∀ k, k < W.length → okAt ts ps W k = true) : (indL W && W.all fun z => decide (z.2 ∈ ts) && opB ps z) = true := by
  refine Bool.and_eq_true_iff.mpr ⟨ind_yes fun k hk => ?_, List.all_eq_true.mpr fun z hz => ?_⟩
  · have := (Bool.and_eq_true_iff.mp (h k hk)).2
    rw [Bool.not_eq_true'] at this
    exact this
  · obtain ⟨k, hk, e⟩ := List.getElem_of_mem hz
    have := (Bool.and_eq_true_iff.mp (h k hk)).1
    rw [getD_some' (List.getElem?_eq_getElem hk), e] at this
    exact this
theorem not_at {ts ps : List (Int × Int)} {W : List Dem} {k : Nat} (hk : k < W.length) (h : okAt ts ps W k = false) : (indL W && W.all fun z => decide (z.2 ∈ ts) && opB ps z) = false := by
  rw [← Bool.not_eq_true]
  intro t
  have t := Bool.and_eq_true_iff.mp t
  have a := List.all_eq_true.mp t.2 _ (List.getElem_mem hk)
  unfold okAt at h
  rw [getD_some' (List.getElem?_eq_getElem hk), a] at h
  have b : badAt W k = true := by
    cases e : badAt W k with
    | true => rfl
    | false =>
      rw [e] at h
      cases h
  rw [ind_no hk b] at t
  cases t.1
theorem op_filter {ps : List (Int × Int)} {p lo hi : Int} : ((ps.filter fun q => svI q.1 q.2 p lo hi).isEmpty) = opB ps (p, lo, hi) := by
  rw [Bool.eq_iff_iff, opB_iff, List.isEmpty_iff, List.filter_eq_nil_iff]
  constructor
  · intro h q hq
    have := h q hq
    rw [show svI q.1 q.2 p lo hi = sv q (p, lo, hi) from sv_svI q (p, lo, hi), Bool.not_eq_true] at this
    exact this
  · intro h q hq
    rw [show svI q.1 q.2 p lo hi = sv q (p, lo, hi) from sv_svI q (p, lo, hi), h q hq]
    decide
def sp_law_are_witnesses (K : PySem.W.Frag) : Sp := fun vs H Q _ => ∃ (a b : Addr) (v : V) (us ws : List V) (ts ps : List (Int × Int)) (d : PyData) (B L : Nat), vs = [.ref a, .ref b, v] ∧ H a = some (.tup us) ∧ Ivs H us ts ∧ H b = some (.tup ws) ∧ Ivs H ws ps ∧ ps.length < 900 ∧ Dv K H v d ∧ Fine B L d ∧ L ≤ 50 ∧
  ∀ H', Same H H' → Q (.bl (witB ts ps d)) H'
theorem ok_law_are_witnesses (T : Tx K mg f_depth_changes f_find_blocks f_is_number f_is_position f_is_tuple_of f_is_interval f_is_ascending f_has_position f_contains f_is_demand f_serves f_conflict f_is_independent f_demands_at_blocks f_is_open f_open_demands f_shadow_target f_pieces_inside f_first_gap f_find_missing f_require_few_blocks f_decisive_demands f_largest_independent f_unserved_demands f_helpful_piece f_smallest_solution f_solve f_are_witnesses f_solution_holds f_law_draws f_law_next f_law_one f_law_spans f_law_targets f_law_covers f_law_is_interval f_law_is_demand f_law_rising f_law_served f_law_clash f_law_are_witnesses f_law_solved f_law_bent f_law d_depth_changes d_find_blocks d_is_number d_is_position d_is_tuple_of d_is_interval d_is_ascending d_has_position d_contains d_is_demand d_serves d_conflict d_is_independent d_demands_at_blocks d_is_open d_open_demands d_shadow_target d_pieces_inside d_first_gap d_find_missing d_require_few_blocks d_decisive_demands d_largest_independent d_unserved_demands d_helpful_piece d_smallest_solution d_solve d_are_witnesses d_solution_holds d_law_draws d_law_next d_law_one d_law_spans d_law_targets d_law_covers d_law_is_interval d_law_is_demand d_law_rising d_law_served d_law_clash d_law_are_witnesses d_law_solved d_law_bent d_law t_LAST_POSITION t_MAX_BLOCKS) : FnOk P w K mg base CX0 3 f_law_are_witnesses d_law_are_witnesses ["_law_targets_here", "_law_pieces", "_law_value"] (sp_law_are_witnesses K) := by
  refine T.F_law_are_witnesses.ok sc_law_are_witnesses (fun vs H Q E h => ?_) (fun cdv A outer s H vs Q E hr h => ?_)
  · obtain ⟨a, b, v, us, ws, ts, ps, d, B, L, rfl, _⟩ := h
    rfl
  · obtain ⟨a, b, v, us, ws, ts, ps, d, B, L, rfl, ha, ivt, hb, ivp, l2, hd, fine, l50, q⟩ := h
    refine ⟨_, (pss_cons (ps_if (PW.pt (pw_or (pt_not (pt_val (pe_callB call_isi (by rfl) T.z_isinstance (by decide +kernel) (pa_cons (pv 2) (pa_cons (pe_bltn (v := .ty "tuple") (u := .type "tuple") (by rfl) T.z_tuple (by decide +kernel) rfl) pa_nil))))) (pw_or1 (pt_cmpR (op_neL hr.units0) (pe_lc (own := [("_law_one_here", 3)]) (g := (gName 3)) (by rfl) sc_law_are_witnesses.nd (pi_tup (pv 2)) (blkOk_by (own := [("_law_one_here", 3)]) (N := N_law_are_witnesses) (sc := defScope s_law_are_witnesses) (by decide +kernel)) (fun _ _ _ _ _ => (pg_name (i := 3) sc_law_are_witnesses.nd rfl (Or.inl rfl))) (fun _ _ _ _ _ => pts_one (pt_not (pt_val (pe_call (ok_law_is_demand T) (hr.mono (by decide)) (by rfl) T.g_law_is_demand T.F_law_is_demand.kp T.b_law_is_demand .nil pass0 (pa_cons (pv 3) pa_nil))))) (fun _ _ _ _ _ => (pv 3))) (pe_lst pa_nil) (nomark _)))))
      (pss_one (ps_ret pe_bl))
      pss_nil)
      (pss_cons (ps_for PassesOwn.never rfl (pi_enumT (by rfl) T.z_enumerate (pa_cons (pv 2) pa_nil)) (pg_tup rfl (pgs_cons (pg_name (i := 4) sc_law_are_witnesses.nd rfl (Or.inl rfl)) (pgs_cons (pg_name (i := 5) sc_law_are_witnesses.nd rfl (Or.inr rfl)) pgs_nil)))
      (pss_cons (ps_if (PW.pt (pw_or (pt_cmpR (op_notInT (units65 hr)) (pe_ix ix_tup (pv 5) pe_int (fun _ _ => rfl)) (pv 0) (by rfl)) (pw_or1 (pt_cmpR (op_neL hr.units0) (pe_lc (own := [("_law_one_here", 3)]) (g := (gName 3)) (by rfl) sc_law_are_witnesses.nd (pi_tup (pv 1)) (blkOk_by (own := [("_law_one_here", 3)]) (N := N_law_are_witnesses) (sc := defScope s_law_are_witnesses) (by decide +kernel)) (fun _ _ _ _ _ => (pg_name (i := 3) sc_law_are_witnesses.nd rfl (Or.inl rfl))) (fun _ _ _ _ _ => pts_one (pt_val (pe_call (ok_law_served T) (hr.mono (by decide)) (by rfl) T.g_law_served T.F_law_served.kp T.b_law_served .nil pass0 (pa_cons (pv 3) (pa_cons (pv 5) pa_nil))))) (fun _ _ _ _ _ => (pv 3))) (pe_lst pa_nil) (nomark _)))))
      (pss_one (ps_ret pe_bl))
      pss_nil)
      (pss_one (ps_if (pt_cmpR (op_neL hr.units0) (pe_lc (own := [("_law_other", 6)]) (g := (gName 6)) (by rfl) sc_law_are_witnesses.nd (pi_tup (pe_slice sl_tupA (pv 2) po_none (po_some (pv 4)))) (blkOk_by (own := [("_law_other", 6)]) (N := N_law_are_witnesses) (sc := defScope s_law_are_witnesses) (by decide +kernel)) (fun _ _ _ _ _ => (pg_name (i := 6) sc_law_are_witnesses.nd rfl (Or.inl rfl))) (fun _ _ _ _ _ => pts_one (pt_val (pe_call (ok_law_clash T) (hr.mono (by decide)) (by rfl) T.g_law_clash T.F_law_clash.kp T.b_law_clash .nil pass0 (pa_cons (pv 6) (pa_cons (pv 5) pa_nil))))) (fun _ _ _ _ _ => (pv 6))) (pe_lst pa_nil) (nomark _))
      (pss_one (ps_ret pe_bl))
      pss_nil))))
      (pss_one (ps_ret (pe_call (ok_law_rising T) (hr.mono (by decide)) (by rfl) T.g_law_rising T.F_law_rising.kp T.b_law_rising .nil pass0 (pa_cons (pv 2) pa_nil)))))), ?_⟩
    have lw := ivp.length
    refine ⟨v, rfl, v, .ty "tuple", _, _, _, rfl, .ty "tuple", hd.ty, kit_tup d, _, rfl, ?_⟩
    have q' : ∀ H', Same H H' → Q (.bl (ascB demB d && (indL ((dsOf d).map toDem) && ((dsOf d).map toDem).all fun z => decide (z.2 ∈ ts) && opB ps z))) H' := q
    cases tb : tupB d with
    | false =>
      rw [asc_not tb] at q'
      exact iteT (iteT (q' H (Same.refl _)))
    | true =>
      refine iteF ?_
      cases hd with
      | @tup w zs ds hv all =>
        have lx := all.length
        have ll := fine.len
        have q2 : ∀ H', Same H H' → Q (.bl ((ds.all demB && risL ds) && (indL (ds.map toDem) && (ds.map toDem).all fun z => decide (z.2 ∈ ts) && opB ps z))) H' := q'
        refine ⟨.ref w, rfl, w, rfl, ⟨_, SqT.of hv⟩, fun D nD => ?_⟩
        refine lcT (K := K) (a := w) (xs := zs) (fun j H' ws => ws.length = ((ds.take j).filter fun x => !demB x).length) nD (fun H' s => SqT.of (s _ _ (hv))) (by omega) (fun _ _ _ _ t r => r) (fun j H' ws r => (by rw [r]; exact Nat.le_trans (List.length_filter_le _ _) (List.length_take_le _ _))) (fun _ => rfl) ?_ ?_
        · rintro j z H' N acc hj sm eA sz rr no yes
          obtain ⟨x, ex, hx⟩ := all.get hj
          refine ⟨rfl, z, rfl, z, x, rfl, dv_same sm hx, fun H'' s'' => ⟨_, rfl, ite2 (fun cc => ?_) (fun cc => ?_)⟩⟩
          · refine ⟨z, rfl, yes _ _ s'' ?_⟩
            rw [take_filter ex, if_pos cc, List.length_append, List.length_append, rr]
            rfl
          · refine no _ s'' ?_
            rw [take_filter ex, if_neg cc, List.append_nil]
            exact rr
        intro H1 wz s1 eD rr
        rw [lx, List.take_length] at rr
        refine ⟨by show 0 ≤ sizeLine; decide, fun e ne => ?_⟩
        have s2 := same_new (o := .lst []) ne
        have ee := upd_same (H := H1) (a := e) (o := .lst [])
        generalize upd H1 e (.lst []) = H2 at *
        have s12 := s1.trans s2
        refine ⟨D, e, wz, rfl, rfl, SqL.of (s2 _ _ eD), SqL.of ee, ?_⟩
        rw [ws_len rr, filt_all]
        cases ea : ds.all demB with
        | false =>
          rw [ea] at q2
          exact ⟨_, rfl, iteT (q2 H2 s12)⟩
        | true =>
          rw [ea, Bool.true_and] at q2
          refine ⟨_, rfl, iteF ?_⟩
          have pall := List.all_eq_true.mp ea
          have dm : Dms H zs (ds.map toDem) := dems_of all ea
          generalize ds.map toDem = W at *
          have lW := dm.length
          refine ⟨.ref w, rfl, w, zs, rfl, SqT.of (s12 _ _ hv), ?_⟩
          refine for_enumT (K := K) (a := w) (xs := zs) (D := ⟨_, _, fun _ _ => True, fun _ _ => True⟩) (fun j σ H' => Same H H' ∧ (∀ k, k < j → okAt ts ps W k = true) ∧ ∃ y3 y4 y5 y6, σ = [some (.ref a), some (.ref b), some (.ref w), y3, y4, y5, y6])
            ⟨s12, (fun k hk => absurd hk (Nat.not_lt_zero k)), _, _, _, _, rfl⟩ (fun j σ H' h => SqT.of (h.1 _ _ hv)) ?_ ?_
          · rintro k z TT σ H3 hz ⟨s3, ok, y3, y4, y5, y6, rfl⟩ nT
            obtain ⟨p, lo, hi, ed, dz⟩ := dm.get hz
            have kl := (List.getElem?_eq_some_iff.mp ed).1
            have gk := getD_some' ed
            have sT := same_new (o := .tup [.int (k : Nat), z]) nT
            have eT := upd_same (H := H3) (a := TT) (o := .tup [.int (k : Nat), z])
            generalize upd H3 TT (.tup [.int (k : Nat), z]) = H4 at *
            have s4 := s3.trans sT
            have dz4 := dz.same s4
            obtain ⟨u, t, rfl, e1, e2⟩ := dz4.ex
            have bad : okAt ts ps W k = false → ∀ H', Same H H' → Q (.bl false) H' := fun e H' s => by
              have z := q2 H' s
              rw [not_at kl e, Bool.and_false] at z
              exact z
            have okv : okAt ts ps W k = ((decide ((lo, hi) ∈ ts) && opB ps (p, lo, hi)) && !badAt W k) := by
              unfold okAt
              rw [gk]
            refine ⟨TT, _, rfl, SqT.of eT, rfl, .int (k : Nat), [.ref u], rfl, .ref u, [], rfl, rfl, ?_⟩
            refine ⟨.ref u, rfl, u, _, 1, .ref t, rfl, rfl, SqT.of e1, rfl, .ref a, rfl, .tuple [.int lo, .int hi], ts.map pairD, dp2 e2, .tup (SqT.of (s4 _ _ ha)) (ivt.same s4).dp, rfl, shaped_pairs _, ?_⟩
            rw [any_pair]
            cases cm : decide ((lo, hi) ∈ ts) with
            | false =>
              rw [cm] at okv
              exact ⟨_, rfl, iteT (iteT (bad okv _ s4))⟩
            | true =>
              rw [cm] at okv
              refine ⟨_, rfl, iteF ?_⟩
              refine ⟨.ref b, rfl, b, rfl, ⟨_, SqT.of (s4 _ _ hb)⟩, fun D2 nD2 => ?_⟩
              refine lcT (K := K) (a := b) (xs := ws) (fun j H' ws => ws.length = ((ps.take j).filter fun q => svI q.1 q.2 p lo hi).length) nD2 (fun H' s => SqT.of (s _ _ ((s4 _ _ hb)))) (by omega) (fun _ _ _ _ t r => r) (fun j H' ws r => (by rw [r]; exact Nat.le_trans (List.length_filter_le _ _) (List.length_take_le _ _))) (fun _ => rfl) ?_ ?_
              · rintro j o H' N acc hj sm eA sz rr no yes
                obtain ⟨oa, x, y, rfl, eo, ho⟩ := (ivp.same s4).get hj
                refine ⟨rfl, .ref oa, rfl, .ref u, rfl, oa, u, t, x, y, p, lo, hi, rfl, sm _ _ ho, sm _ _ e1, sm _ _ e2, _, rfl, ite2 (fun cc => ?_) (fun cc => ?_)⟩
                · refine ⟨.ref oa, rfl, yes _ _ (Same.refl _) ?_⟩
                  rw [take_filter eo, if_pos cc, List.length_append, List.length_append, rr]
                  rfl
                · refine no _ (Same.refl _) ?_
                  rw [take_filter eo, if_neg cc, List.append_nil]
                  exact rr
              intro H5 w5 s5 eD2 rr
              rw [lw, List.take_length] at rr
              refine ⟨by show 0 ≤ sizeLine; decide, fun e ne => ?_⟩
              have s6 := same_new (o := .lst []) ne
              have ee6 := upd_same (H := H5) (a := e) (o := .lst [])
              generalize upd H5 e (.lst []) = H6 at *
              have s46 := s5.trans s6
              have s06 := s4.trans s46
              refine ⟨D2, e, w5, rfl, rfl, SqL.of (s6 _ _ eD2), SqL.of ee6, ?_⟩
              rw [ws_len rr, op_filter]
              cases co : opB ps (p, lo, hi) with
              | false =>
                rw [co] at okv
                exact ⟨_, rfl, iteT (bad okv _ s06)⟩
              | true =>
                rw [co] at okv
                refine ⟨_, rfl, iteF ?_⟩
                refine ⟨.ref w, rfl, .int (k : Nat), rfl, k, rfl, slA_any (s06 _ _ hv) (fun H7 sl s7 esl => ?_)⟩
                rw [cutTo] at esl
                have s07 := s06.trans s7
                refine ⟨sl, rfl, ⟨_, SqT.of esl⟩, fun D3 nD3 => ?_⟩
                refine lcT (K := K) (a := sl) (xs := (zs.take k)) (fun j H' ws => ws.length ≤ j ∧ (!ws.isEmpty) = ((W.take k).take j).any fun o => cf (p, lo, hi) o) nD3 (fun H' s => SqT.of (s _ _ (esl))) (by rw [List.length_take]; omega) (fun _ _ _ _ t r => r) (fun j H' ws r => r.1) (fun _ => ⟨Nat.le_refl _, rfl⟩) ?_ ?_
                · rintro j o H' N acc hj sm eA sz ⟨rl, ra⟩ no yes
                  obtain ⟨p2, lo2, hi2, eo, dzo⟩ := ((dm.same s07).take k).get hj
                  refine ⟨rfl, o, rfl, .ref u, rfl, o, .ref u, p2, lo2, hi2, p, lo, hi, rfl, dzo.same sm, (dz.same s07).same sm, _, rfl, ite2 (fun cc => ?_) (fun cc => ?_)⟩
                  · refine ⟨o, rfl, yes H' _ (Same.refl _) ⟨by rw [List.length_append]; show acc.length + 1 ≤ _; omega, ?_⟩⟩
                    rw [any_take eo, cf_comm (p, lo, hi), cc, Bool.or_true]
                    cases acc <;> rfl
                  · refine no H' (Same.refl _) ⟨by omega, ?_⟩
                    rw [Bool.not_eq_true] at cc
                    rw [any_take eo, cf_comm (p, lo, hi), cc, Bool.or_false]
                    exact ra
                rintro H8 w8 s8 eD3 ⟨rl, ra⟩
                have lt : ((W.take k).take (zs.take k).length) = W.take k := by
                  rw [List.length_take, List.take_of_length_le]
                  rw [List.length_take]
                  omega
                rw [lt] at ra
                have ba : badAt W k = !w8.isEmpty := by
                  unfold badAt
                  rw [gk, ra]
                refine ⟨by show 0 ≤ sizeLine; decide, fun e ne => ?_⟩
                have s9 := same_new (o := .lst []) ne
                have ee9 := upd_same (H := H8) (a := e) (o := .lst [])
                generalize upd H8 e (.lst []) = H9 at *
                have s09 := s07.trans (s8.trans s9)
                refine ⟨D3, e, w8, rfl, rfl, SqL.of (s9 _ _ eD3), SqL.of ee9, ?_⟩
                rw [ba] at okv
                cases eb : !w8.isEmpty with
                | true =>
                  rw [eb] at okv
                  exact ⟨_, rfl, iteT (bad okv _ s09)⟩
                | false =>
                  rw [eb] at okv
                  refine ⟨_, rfl, iteF ⟨s09, fun k' hk' => ?_, _, _, _, _, rfl⟩⟩
                  rcases Nat.lt_or_ge k' k with h | h
                  · exact ok k' h
                  · obtain rfl : k' = k := by omega
                    exact okv
          · rintro σ H3 ⟨s3, ok, y3, y4, y5, y6, rfl⟩
            refine ⟨.ref w, rfl, w, zs, ds, rfl, s3 _ _ hv, dvAll_same s3 all, by omega, fun d hd => ⟨dem_fine (pall d hd), fun e he => dem_alike (pall d hd) (pall e he)⟩, fun H4 s4 => ?_⟩
            have z := q2 H4 (s3.trans s4)
            rw [all_at (fun k hk => ok k (by omega)), Bool.and_true] at z
            exact z
      | _ => exact (Bool.false_ne_true tb).elim
def sp_law_solved (K : PySem.W.Frag) : Sp := fun vs H Q _ => ∃ (a b : Addr) (v : V) (us ws : List V) (ts ps : List (Int × Int)) (d : PyData) (B L : Nat), vs = [.ref a, .ref b, v] ∧ H a = some (.tup us) ∧ Ivs H us ts ∧ ts.length < 900 ∧ H b = some (.tup ws) ∧ Ivs H ws ps ∧ ps.length ≤ 13 ∧ Dv K H v d ∧ Fine B L d ∧ L ≤ 50 ∧
  ∀ H', Same H H' → Q (.bl (holdB ts ps d)) H'
theorem ok_law_solved (T : Tx K mg f_depth_changes f_find_blocks f_is_number f_is_position f_is_tuple_of f_is_interval f_is_ascending f_has_position f_contains f_is_demand f_serves f_conflict f_is_independent f_demands_at_blocks f_is_open f_open_demands f_shadow_target f_pieces_inside f_first_gap f_find_missing f_require_few_blocks f_decisive_demands f_largest_independent f_unserved_demands f_helpful_piece f_smallest_solution f_solve f_are_witnesses f_solution_holds f_law_draws f_law_next f_law_one f_law_spans f_law_targets f_law_covers f_law_is_interval f_law_is_demand f_law_rising f_law_served f_law_clash f_law_are_witnesses f_law_solved f_law_bent f_law d_depth_changes d_find_blocks d_is_number d_is_position d_is_tuple_of d_is_interval d_is_ascending d_has_position d_contains d_is_demand d_serves d_conflict d_is_independent d_demands_at_blocks d_is_open d_open_demands d_shadow_target d_pieces_inside d_first_gap d_find_missing d_require_few_blocks d_decisive_demands d_largest_independent d_unserved_demands d_helpful_piece d_smallest_solution d_solve d_are_witnesses d_solution_holds d_law_draws d_law_next d_law_one d_law_spans d_law_targets d_law_covers d_law_is_interval d_law_is_demand d_law_rising d_law_served d_law_clash d_law_are_witnesses d_law_solved d_law_bent d_law t_LAST_POSITION t_MAX_BLOCKS) : FnOk P w K mg base CX0 4 f_law_solved d_law_solved ["_law_targets_here", "_law_pieces", "_law_value"] (sp_law_solved K) := by
  refine T.F_law_solved.ok sc_law_solved (fun vs H Q E h => ?_) (fun cdv A outer s H vs Q E hr h => ?_)
  · obtain ⟨a, b, v, us, ws, ts, ps, d, B, L, rfl, _⟩ := h
    rfl
  · obtain ⟨a, b, v, us, ws, ts, ps, d, B, L, rfl, ha, ivt, l0, hb, ivp, l1, hd, fine, l50, q⟩ := h
    refine ⟨_, (pss_cons (ps_if (PW.pt (pw_or (pt_not (pt_val (pe_callB call_isi (by rfl) T.z_isinstance (by decide +kernel) (pa_cons (pv 2) (pa_cons (pe_bltn (v := .ty "tuple") (u := .type "tuple") (by rfl) T.z_tuple (by decide +kernel) rfl) pa_nil))))) (pw_or (pt_cmpR op_ne (pe_callB call_len_seq (by rfl) T.z_len PySem.boot_len (pa_cons (pv 2) pa_nil)) pe_int (nomark _)) (pw_or1 (pt_not (pt_val (pe_callB call_isi (by rfl) T.z_isinstance (by decide +kernel) (pa_cons (pe_ix ix_tup (pv 2) pe_int (fun _ _ => rfl)) (pa_cons (pe_bltn (v := .ty "tuple") (u := .type "tuple") (by rfl) T.z_tuple (by decide +kernel) rfl) pa_nil)))))))))
      (pss_one (ps_ret pe_bl))
      pss_nil)
      (pss_cons (ps_set (i := 3) sc_law_solved.nd rfl (Or.inr rfl) (pe_ix ix_tup (pv 2) pe_int (fun _ _ => rfl)))
      (pss_cons (ps_if (PW.pt (pw_or (pt_cmpR (op_neL hr.units0) (pe_lc (own := [("_law_one_here", 4)]) (g := (gName 4)) (by rfl) sc_law_solved.nd (pi_tup (pv 3)) (blkOk_by (own := [("_law_one_here", 4)]) (N := N_law_solved) (sc := defScope s_law_solved) (by decide +kernel)) (fun _ _ _ _ _ => (pg_name (i := 4) sc_law_solved.nd rfl (Or.inl rfl))) (fun _ _ _ _ _ => pts_one (pt_not (pt_val (pe_call (ok_law_is_interval T) (hr.mono (by decide)) (by rfl) T.g_law_is_interval T.F_law_is_interval.kp T.b_law_is_interval .nil pass0 (pa_cons (pv 4) pa_nil))))) (fun _ _ _ _ _ => (pv 4))) (pe_lst pa_nil) (nomark _)) (pw_or1 (pt_not (pt_val (pe_call (ok_law_rising T) (hr.mono (by decide)) (by rfl) T.g_law_rising T.F_law_rising.kp T.b_law_rising .nil pass0 (pa_cons (pv 3) pa_nil)))))))
      (pss_one (ps_ret pe_bl))
      pss_nil)
      (pss_cons (ps_if (pt_cmpR (op_neL hr.units0) (pe_lc (own := [("_law_target", 5)]) (g := (gName 5)) (by rfl) sc_law_solved.nd (pi_tup (pv 0)) (blkOk_by (own := [("_law_target", 5)]) (N := N_law_solved) (sc := defScope s_law_solved) (by decide +kernel)) (fun _ _ _ _ _ => (pg_name (i := 5) sc_law_solved.nd rfl (Or.inl rfl))) (fun _ _ _ _ _ => pts_one (pt_not (pt_val (pe_call (ok_law_covers T) (hr.mono (by decide)) (by rfl) T.g_law_covers T.F_law_covers.kp T.b_law_covers .nil pass0 (pa_cons (pe_op (show OpR _ (binaryOp .Add) (rCatA K) from op_catA) (pv 1) (pv 3)) (pa_cons (pv 5) pa_nil)))))) (fun _ _ _ _ _ => (pv 5))) (pe_lst pa_nil) (nomark _))
      (pss_one (ps_ret pe_bl))
      pss_nil)
      (pss_one (ps_ret (pe_and (pe_call (ok_law_are_witnesses T) (hr.mono (by decide)) (by rfl) T.g_law_are_witnesses T.F_law_are_witnesses.kp T.b_law_are_witnesses .nil pass0 (pa_cons (pv 0) (pa_cons (pv 1) (pa_cons (pe_ix ix_tup (pv 2) pe_int (fun _ _ => rfl)) pa_nil)))) (pe_one (pe_cmpR op_eq (pe_callB call_len_seq (by rfl) T.z_len PySem.boot_len (pa_cons (pv 3) pa_nil)) (pe_callB call_len_seq (by rfl) T.z_len PySem.boot_len (pa_cons (pe_ix ix_tup (pv 2) pe_int (fun _ _ => rfl)) pa_nil)) (nomark _)))))))))), ?_⟩
    have lw := ivp.length
    have lu := ivt.length
    refine ⟨v, rfl, v, .ty "tuple", _, _, _, rfl, .ty "tuple", hd.ty, kit_tup d, _, rfl, ?_⟩
    cases tb : tupB d with
    | false =>
      rw [hold_two (by rw [tl_not tb]; decide)] at q
      exact iteT (iteT (q H (Same.refl _)))
    | true =>
      refine iteF ?_
      cases hd with
      | @tup r xs ds e all =>
        have lx := all.length
        refine ⟨.ref r, rfl, r, xs, rfl, .inr (SqT.of e), rfl, _, rfl, ?_⟩
        by_cases two : xs.length = 2
        · match xs, ds, two, lx, all, e, q with
          | [v1, v2], [d1, d2], _, _, .cons h1 (.cons h2 .nil), e, q =>
            have q' : ∀ H', Same H H' → Q (.bl ((ascB ivB d1 && witB ts ps d2) && (decide ((dsOf d1).length = (dsOf d2).length) && covB (ps ++ (dsOf d1).map toPair) ts))) H' := q
            have f1 := fine.mem d1 List.mem_cons_self
            have f2 := fine.mem d2 (List.mem_cons_of_mem _ List.mem_cons_self)
            refine iteF ?_
            refine ⟨.ref r, rfl, r, _, 0, v1, rfl, rfl, SqT.of e, rfl, v1, .ty "tuple", _, _, _, rfl, .ty "tuple", h1.ty, kit_tup d1, _, rfl, ?_⟩
            cases t1 : tupB d1 with
            | false =>
              rw [asc_not t1, Bool.false_and] at q'
              exact iteT (q' H (Same.refl _))
            | true =>
              refine iteF ?_
              cases h1 with
              | @tup x zs es hx allx =>
                have lz := allx.length
                have le := f1.len
                refine ⟨.ref r, rfl, r, _, 0, .ref x, rfl, rfl, SqT.of e, rfl, ?_⟩
                refine ⟨.ref x, rfl, x, rfl, ⟨_, SqT.of hx⟩, fun D nD => ?_⟩
                refine lcT (K := K) (a := x) (xs := zs) (fun j H' ws => ws.length = ((es.take j).filter fun x => !ivB x).length) nD (fun H' s => SqT.of (s _ _ (hx))) (by omega) (fun _ _ _ _ t r => r) (fun j H' ws r => (by rw [r]; exact Nat.le_trans (List.length_filter_le _ _) (List.length_take_le _ _))) (fun _ => rfl) ?_ ?_
                · rintro j z H' N acc hj sm eA sz rr no yes
                  obtain ⟨y, ey, hy⟩ := allx.get hj
                  refine ⟨rfl, z, rfl, z, y, rfl, dv_same sm hy, fun H'' s'' => ⟨_, rfl, ite2 (fun cc => ?_) (fun cc => ?_)⟩⟩
                  · refine ⟨z, rfl, yes _ _ s'' ?_⟩
                    rw [take_filter ey, if_pos cc, List.length_append, List.length_append, rr]
                    rfl
                  · refine no _ s'' ?_
                    rw [take_filter ey, if_neg cc, List.append_nil]
                    exact rr
                intro H1 wz s1 eD rr
                rw [lz, List.take_length] at rr
                refine ⟨by show 0 ≤ sizeLine; decide, fun g ng => ?_⟩
                have s2 := same_new (o := .lst []) ng
                have eg := upd_same (H := H1) (a := g) (o := .lst [])
                generalize upd H1 g (.lst []) = H2 at *
                have s12 := s1.trans s2
                refine ⟨D, g, wz, rfl, rfl, SqL.of (s2 _ _ eD), SqL.of eg, ?_⟩
                rw [ws_len rr, filt_all]
                have q2 : ∀ H', Same H H' → Q (.bl (((es.all ivB && risL es) && witB ts ps d2) && (decide (es.length = (dsOf d2).length) && covB (ps ++ es.map toPair) ts))) H' := q'
                cases ea : es.all ivB with
                | false =>
                  rw [ea] at q2
                  exact ⟨_, rfl, iteT (iteT (q2 H2 s12))⟩
                | true =>
                  rw [ea, Bool.true_and] at q2
                  refine ⟨_, rfl, iteF ?_⟩
                  have pall := List.all_eq_true.mp ea
                  have iva := ivs_of allx ea
                  generalize es.map toPair = A at *
                  have lA := iva.length
                  refine ⟨.ref x, rfl, x, zs, es, rfl, s12 _ _ hx, dvAll_same s12 allx, by omega, fun d hd => ⟨iv_fine (pall d hd), fun e he => iv_alike (pall d hd) (pall e he)⟩, fun H3 s3 => ⟨_, rfl, ?_⟩⟩
                  have s13 := s12.trans s3
                  cases er : risL es with
                  | false =>
                    rw [er] at q2
                    exact iteT (q2 H3 s13)
                  | true =>
                    rw [er, Bool.true_and] at q2
                    refine iteF ?_
                    refine ⟨.ref a, rfl, a, rfl, ⟨_, SqT.of (s13 _ _ ha)⟩, fun D2 nD2 => ?_⟩
                    refine lcT (K := K) (a := a) (xs := us) (fun j H' ws => ws.length ≤ j ∧ (ws = [] ↔ ∀ t ∈ ts.take j, Cvd (ps ++ A) t)) nD2 (fun H' s => SqT.of (s _ _ ((s13 _ _ ha)))) (by omega) (fun _ _ _ _ t r => r) (fun j H' ws r => r.1) (fun _ => ⟨Nat.le_refl _, ⟨fun _ t ht => (nomatch ht), fun _ => rfl⟩⟩) ?_ ?_
                    · rintro j z H' N acc hj sm eA sz ⟨rl, ra⟩ no yes
                      have s4 := s13.trans sm
                      obtain ⟨o, u, w', rfl, eo, ho⟩ := (ivt.same s4).get hj
                      refine ⟨rfl, .ref b, rfl, .ref x, rfl, catA_any (s4 _ _ hb) (s4 _ _ hx) (by rw [show sizeLine = 16777216 by decide]; omega) (fun H5 pc s5 epc => ?_)⟩
                      refine ⟨.ref o, rfl, pc, o, ws ++ zs, ps ++ A, u, w', rfl, epc, ((ivp.same s4).append (iva.same s4)).same s5, s5 _ _ ho, fun H6 bb s6 iff => ?_⟩
                      have tk : ts.take (j + 1) = ts.take j ++ [(u, w')] := by rw [List.take_add_one, eo]; rfl
                      cases bb with
                      | true =>
                        refine ⟨_, rfl, iteF (no H6 (s5.trans s6) ⟨by omega, ?_⟩)⟩
                        rw [tk, ra]
                        constructor
                        · intro h t ht
                          rcases List.mem_append.mp ht with ht | ht
                          · exact h t ht
                          · rw [List.mem_singleton.mp ht]
                            exact iff.mp rfl
                        · exact fun h t ht => h t (List.mem_append_left _ ht)
                      | false =>
                        refine ⟨_, rfl, iteT ⟨.ref o, rfl, yes H6 _ (s5.trans s6) ⟨by rw [List.length_append]; show acc.length + 1 ≤ _; omega, ?_⟩⟩⟩
                        rw [tk]
                        constructor
                        · intro h
                          cases acc <;> cases h
                        · intro h
                          have := iff.mpr (h (u, w') (List.mem_append_right _ List.mem_cons_self))
                          cases this
                    rintro H4 w4 s4 eD2 ⟨rl, ra⟩
                    rw [lu, List.take_length] at ra
                    have s14 := s13.trans s4
                    refine ⟨by show 0 ≤ sizeLine; decide, fun g2 ng2 => ?_⟩
                    have s5 := same_new (o := .lst []) ng2
                    have eg2 := upd_same (H := H4) (a := g2) (o := .lst [])
                    generalize upd H4 g2 (.lst []) = H5 at *
                    have s15 := s14.trans s5
                    refine ⟨D2, g2, w4, rfl, rfl, SqL.of (s5 _ _ eD2), SqL.of eg2, ?_⟩
                    have ce : covB (ps ++ A) ts = w4.isEmpty := by
                      rw [Bool.eq_iff_iff, covB_iff, ← ra, List.isEmpty_iff]
                    rw [ce] at q2
                    cases ew4 : w4.isEmpty with
                    | false =>
                      rw [ew4, Bool.and_false, Bool.and_false] at q2
                      exact ⟨_, rfl, iteT (q2 H5 s15)⟩
                    | true =>
                      rw [ew4, Bool.and_true] at q2
                      refine ⟨_, rfl, iteF ?_⟩
                      have e5 := s15 _ _ e
                      refine ⟨.ref a, rfl, .ref b, rfl, .ref r, rfl, r, _, 1, v2, rfl, rfl, SqT.of e5, rfl, a, b, v2, us, ws, ts, ps, d2, B, L, rfl, s15 _ _ ha, ivt.same s15, s15 _ _ hb, ivp.same s15, by omega, dv_same s15 h2, f2, l50, fun H6 s6 => ?_⟩
                      have s16 := s15.trans s6
                      cases ewt : witB ts ps d2 with
                      | false =>
                        rw [ewt] at q2
                        exact ⟨_, rfl, iteF (q2 H6 s16)⟩
                      | true =>
                        rw [ewt, Bool.true_and] at q2
                        refine ⟨_, rfl, iteT ?_⟩
                        have t2 := (Bool.and_eq_true_iff.mp (show (ascB demB d2 && _) = true from ewt)).1
                        have h26 := dv_same s16 h2
                        cases h26 with
                        | @tup y wv fs hy ally =>
                          have lwv := ally.length
                          have q3 : ∀ H', Same H H' → Q (.bl (decide (es.length = fs.length))) H' := q2
                          have e6 := s16 _ _ e
                          refine ⟨.ref x, rfl, x, zs, rfl, .inr (SqT.of (s16 _ _ hx)), .ref r, rfl, r, _, 1, .ref y, rfl, rfl, SqT.of e6, rfl, y, wv, rfl, .inr (SqT.of hy), rfl, ?_⟩
                          have el : decide (V.int (zs.length : Nat) = V.int (wv.length : Nat)) = decide (es.length = fs.length) := by
                            rw [lz, lwv]
                            by_cases z : es.length = fs.length
                            · rw [decide_eq_true z, decide_eq_true (by rw [z])]
                            · rw [decide_eq_false z, decide_eq_false (fun y => z (by have := V.int.inj y; omega))]
                          rw [el]
                          exact q3 H6 s16
                        | _ => cases t2
              | _ => exact (Bool.false_ne_true t1).elim
        · have ne : ¬ (V.int (xs.length : Nat) = V.int 2) := fun z => two (by
            have z' := V.int.inj z
            omega)
          rw [decide_eq_false ne]
          have z : holdB ts ps (.tuple ds) = false := hold_two (by
            intro h
            obtain ⟨x, y, h'⟩ := tl_two h
            cases h'
            exact two lx)
          rw [z] at q
          exact iteT (iteT (q H (Same.refl _)))
      | _ => exact (Bool.false_ne_true tb).elim

theorem ok_bentD (T : Tx K mg f_depth_changes f_find_blocks f_is_number f_is_position f_is_tuple_of f_is_interval f_is_ascending f_has_position f_contains f_is_demand f_serves f_conflict f_is_independent f_demands_at_blocks f_is_open f_open_demands f_shadow_target f_pieces_inside f_first_gap f_find_missing f_require_few_blocks f_decisive_demands f_largest_independent f_unserved_demands f_helpful_piece f_smallest_solution f_solve f_are_witnesses f_solution_holds f_law_draws f_law_next f_law_one f_law_spans f_law_targets f_law_covers f_law_is_interval f_law_is_demand f_law_rising f_law_served f_law_clash f_law_are_witnesses f_law_solved f_law_bent f_law d_depth_changes d_find_blocks d_is_number d_is_position d_is_tuple_of d_is_interval d_is_ascending d_has_position d_contains d_is_demand d_serves d_conflict d_is_independent d_demands_at_blocks d_is_open d_open_demands d_shadow_target d_pieces_inside d_first_gap d_find_missing d_require_few_blocks d_decisive_demands d_largest_independent d_unserved_demands d_helpful_piece d_smallest_solution d_solve d_are_witnesses d_solution_holds d_law_draws d_law_next d_law_one d_law_spans d_law_targets d_law_covers d_law_is_interval d_law_is_demand d_law_rising d_law_served d_law_clash d_law_are_witnesses d_law_solved d_law_bent d_law t_LAST_POSITION t_MAX_BLOCKS) : ∀ D : Nat, FnOk P w K mg base CX0 (D + 3) f_law_bent d_law_bent ["_law_state", "_law_value"] (sp_bent K D)
  | 0 => ok_bent T 0 2 (by decide) ⟨fun _ _ _ _ h => (by obtain ⟨D', e, _⟩ := h; omega), fun _ _ _ _ _ _ _ _ _ _ _ _ _ h => (by obtain ⟨D', e, _⟩ := h; omega)⟩
  | D + 1 => ok_bent T (D + 1) (D + 3) (by omega) (fn_weak (ok_bentD T D) (fun vs H Q E h => by
      obtain ⟨D', e, h⟩ := h
      obtain rfl : D' = D := by omega
      exact h))
theorem ok_law_bent (T : Tx K mg f_depth_changes f_find_blocks f_is_number f_is_position f_is_tuple_of f_is_interval f_is_ascending f_has_position f_contains f_is_demand f_serves f_conflict f_is_independent f_demands_at_blocks f_is_open f_open_demands f_shadow_target f_pieces_inside f_first_gap f_find_missing f_require_few_blocks f_decisive_demands f_largest_independent f_unserved_demands f_helpful_piece f_smallest_solution f_solve f_are_witnesses f_solution_holds f_law_draws f_law_next f_law_one f_law_spans f_law_targets f_law_covers f_law_is_interval f_law_is_demand f_law_rising f_law_served f_law_clash f_law_are_witnesses f_law_solved f_law_bent f_law d_depth_changes d_find_blocks d_is_number d_is_position d_is_tuple_of d_is_interval d_is_ascending d_has_position d_contains d_is_demand d_serves d_conflict d_is_independent d_demands_at_blocks d_is_open d_open_demands d_shadow_target d_pieces_inside d_first_gap d_find_missing d_require_few_blocks d_decisive_demands d_largest_independent d_unserved_demands d_helpful_piece d_smallest_solution d_solve d_are_witnesses d_solution_holds d_law_draws d_law_next d_law_one d_law_spans d_law_targets d_law_covers d_law_is_interval d_law_is_demand d_law_rising d_law_served d_law_clash d_law_are_witnesses d_law_solved d_law_bent d_law t_LAST_POSITION t_MAX_BLOCKS) : FnOk P w K mg base CX0 11 f_law_bent d_law_bent ["_law_state", "_law_value"] (sp_bent K 8) := ok_bentD T 8
theorem num_gw {K : PySem.W.Frag} {G : Hp} {i : Int} (h0 : 0 ≤ i) (h1 : i ≤ 1000000000000) : Gwt K (10 ^ 29 + 1) 10 100 0 G (.int i) := by
  have s := Sm.int (i := i) (Nat.lt_of_le_of_lt (show i.natAbs ≤ 1000000000000 by omega) (by decide))
  exact ⟨_, .int i, Fine.int (Nat.lt_of_le_of_lt (show i.natAbs ≤ 1000000000000 by omega) (by decide)) (by decide), s.small, Nat.le_refl _⟩
theorem iv_gw {K : PySem.W.Frag} {G : Hp} {t : Addr} {x y : Int} (e : G t = some (.tup [.int x, .int y])) (b : 0 ≤ x ∧ x ≤ y ∧ y ≤ 1000000000000) : Gwt K (10 ^ 29 + 1) 10 202 1 G (.ref t) :=
  (Rwt.cons (num_gw b.1 (by omega)) (Rwt.one (num_gw (by omega) b.2.2))).tup (show 2 ≤ 10 by decide) e
theorem ivs_rw {K : PySem.W.Frag} {d : Addr} {c : Addr × Addr × Addr} {n : Int} {H : Hp} (dk : Dk H d c n) {us : List V} {ps : List (Int × Int)} (h : Ivs H us ps) (b : ∀ q ∈ ps, 0 ≤ q.1 ∧ q.1 ≤ q.2 ∧ q.2 ≤ 1000000000000) : Rwt K (10 ^ 29 + 1) 10 (ps.length * 203) 1 (OffQ d c H) us := by
  induction h with
  | nil => exact Rwt.nil.mono (Nat.le_refl _) (Nat.le_refl _) (Nat.zero_le _) (Nat.le_refl _)
  | cons e _ ih =>
    refine (Rwt.cons (iv_gw (offQ_get (dk.offT e) e) (b _ List.mem_cons_self)) (ih fun q hq => b q (List.mem_cons_of_mem _ hq))).mono (Nat.le_refl _) (Nat.le_refl _) ?_ (Nat.le_refl _)
    rw [List.length_cons, Nat.add_mul]
    omega
theorem dms_rw {K : PySem.W.Frag} {d : Addr} {c : Addr × Addr × Addr} {n : Int} {H : Hp} (dk : Dk H d c n) {us : List V} {W : List Dem} (h : Dms H us W) (b : ∀ q ∈ W, 0 ≤ q.2.1 ∧ q.2.2 ≤ 1000000000000) : Rwt K (10 ^ 29 + 1) 10 (W.length * 407) 2 (OffQ d c H) us := by
  induction h with
  | nil => exact Rwt.nil.mono (Nat.le_refl _) (Nat.le_refl _) (Nat.zero_le _) (Nat.le_refl _)
  | @cons v p lo hi vs ds e _ ih =>
    obtain ⟨⟨u, t, rfl, e1, e2⟩, l, h⟩ := e
    have bb := b _ List.mem_cons_self
    have bb : 0 ≤ lo ∧ hi ≤ 1000000000000 := bb
    have it := iv_gw (K := K) (offQ_get (dk.offT e2) e2) ⟨bb.1, by omega, bb.2⟩
    have de := (Rwt.cons ((num_gw (K := K) (G := OffQ d c H) (i := p) (by omega) (by omega)).mono (Nat.le_refl _) (Nat.le_refl _) (Nat.le_refl _) (Nat.zero_le 1)) (Rwt.one it)).tup (show 2 ≤ 10 by decide) (offQ_get (dk.offT e1) e1)
    refine (Rwt.cons (de.mono (Nat.le_refl _) (Nat.le_refl _) (show 100 + 1 + (202 + 1) ≤ 406 by decide) (Nat.le_refl _)) (ih fun q hq => b q (List.mem_cons_of_mem _ hq))).mono (Nat.le_refl _) (Nat.le_refl _) ?_ (Nat.le_refl _)
    rw [List.length_cons, Nat.add_mul]
    omega
abbrev GV (K : PySem.W.Frag) (d : Addr) (c : Addr × Addr × Addr) (H : Hp) (v : V) : Prop := Gwt K (10 ^ 29 + 1 + 3 * 10 ^ 13) 12 40000 12 (OffQ d c H) v
theorem solB_rw {w : Int} {ts ps : List (Int × Int)} (ht : Rw w ts) (hp : Rw w ps) (hw : w ≤ 8) (l1 : ts.length ≤ 8) (l2 : ps.length ≤ 10) : SolB ts ps := by
  have sc : ∀ {l : List (Int × Int)}, Rw w l → Sc w 1 0 l := fun h q hq => ⟨q, h.ok q hq, by
    unfold strI
    refine Prod.ext ?_ ?_
    · show q.1 = q.1 * 1 + 0
      omega
    · show q.2 = q.2 * 1 + 1 - 1 + 0
      omega⟩
  exact sc_solB (sc ht) (sc hp) (by decide) (by decide) (by decide) (by decide) hw (by omega) (by omega) (by show 8 * ts.length ≤ 192; omega) (by decide)
def sp_law (K : PySem.W.Frag) (pT : Addr) : Sp := fun vs H Q _ => ∃ (a : Addr) (ns : List Int), vs = [.ref a] ∧ SqL K H a (ns.map V.int) ∧ ns.length ≤ 63 ∧ H pT = some (.tbl #[]) ∧ ∀ H', Q (.bl true) H'
theorem ok_law (T : Tx K mg f_depth_changes f_find_blocks f_is_number f_is_position f_is_tuple_of f_is_interval f_is_ascending f_has_position f_contains f_is_demand f_serves f_conflict f_is_independent f_demands_at_blocks f_is_open f_open_demands f_shadow_target f_pieces_inside f_first_gap f_find_missing f_require_few_blocks f_decisive_demands f_largest_independent f_unserved_demands f_helpful_piece f_smallest_solution f_solve f_are_witnesses f_solution_holds f_law_draws f_law_next f_law_one f_law_spans f_law_targets f_law_covers f_law_is_interval f_law_is_demand f_law_rising f_law_served f_law_clash f_law_are_witnesses f_law_solved f_law_bent f_law d_depth_changes d_find_blocks d_is_number d_is_position d_is_tuple_of d_is_interval d_is_ascending d_has_position d_contains d_is_demand d_serves d_conflict d_is_independent d_demands_at_blocks d_is_open d_open_demands d_shadow_target d_pieces_inside d_first_gap d_find_missing d_require_few_blocks d_decisive_demands d_largest_independent d_unserved_demands d_helpful_piece d_smallest_solution d_solve d_are_witnesses d_solution_holds d_law_draws d_law_next d_law_one d_law_spans d_law_targets d_law_covers d_law_is_interval d_law_is_demand d_law_rising d_law_served d_law_clash d_law_are_witnesses d_law_solved d_law_bent d_law t_LAST_POSITION t_MAX_BLOCKS) (hM : ∃ mm, base.Ns sysModules mm) (hT : TabH base mg d_helpful_piece pT) : FnG P w K mg base 206 f_law d_law ["_law_script"] (sp_law K pT) := by
  refine FnG.of T.F_law sc_law (fun {vs H Q} h => ?_) (fun cdv A outer s H vs Q hr hq h => ?_)
  · obtain ⟨a, ns, rfl, _⟩ := h
    rfl
  · obtain ⟨a, ns, rfl, hS, hlen, hP, q⟩ := h
    refine ⟨_, (pss_cons (ps_set (i := 1) sc_law.nd rfl (Or.inl rfl) (pe_call (ok_law_draws (pT := pT) T) (hr.mono (by decide)) (by rfl) T.g_law_draws T.F_law_draws.kp T.b_law_draws .nil pass0 (pa_cons (pv 0) pa_nil)))
      (pss_cons (ps_for PassesOwn.never rfl (pi_range1 (by rfl) T.z_range (pa_cons pe_int pa_nil)) (pg_name (i := 2) sc_law.nd rfl (Or.inl rfl))
      (pss_cons (ps_set (i := 3) sc_law.nd rfl (Or.inl rfl) (pe_op op_add pe_int (pe_call (ok_law_next T) (hr.mono (by decide)) (by rfl) T.g_law_next T.F_law_next.kp T.b_law_next .nil pass0 (pa_cons (pv 1) (pa_cons pe_int pa_nil)))))
      (pss_cons (ps_par (by rfl) sc_law.nd (i := 4) (j := 5) rfl rfl (by decide) rfl rfl (pa_cons (pe_call (ok_law_targets T) (hr.mono (by decide)) (by rfl) T.g_law_targets T.F_law_targets.kp T.b_law_targets .nil pass0 (pa_cons (pv 1) (pa_cons (pv 3) (pa_cons pe_int pa_nil)))) (pa_cons (pe_call (ok_law_spans T) (hr.mono (by decide)) (by rfl) T.g_law_spans T.F_law_spans.kp T.b_law_spans .nil pass0 (pa_cons (pv 1) (pa_cons (pv 3) (pa_cons (pe_call (ok_law_next T) (hr.mono (by decide)) (by rfl) T.g_law_next T.F_law_next.kp T.b_law_next .nil pass0 (pa_cons (pv 1) (pa_cons pe_int pa_nil))) pa_nil)))) pa_nil)) (by rfl))
      (pss_cons (ps_set (i := 6) sc_law.nd rfl (Or.inl rfl) (pe_call (ok_solve T hT) (hr.mono (by decide)) (by rfl) T.g_solve T.F_solve.kp T.b_solve .nil pass0 (pa_cons (pv 4) (pa_cons (pv 5) pa_nil))))
      (pss_cons (ps_set (i := 7) sc_law.nd rfl (Or.inl rfl) (pe_callTy call_tuple_of (by rfl) T.z_tuple (by decide +kernel) (pa_cons (pe_callB (cr_sortedT rfl) (by rfl) T.z_sorted (by decide +kernel) (pa_cons (pe_callTy (cr_setOfTT rfl hr.units) (by rfl) T.z_set (by decide +kernel) (pa_cons (pe_op op_catA (pe_ix ix_tup (pv 6) pe_int (fun _ _ => rfl)) (pe_slice sl_tupA (pv 4) po_none (po_some pe_int))) pa_nil)) pa_nil)) pa_nil)))
      (pss_cons (ps_set (i := 8) sc_law.nd rfl (Or.inl rfl) (pe_lst (pa_cons (pv 6) (pa_cons (pe_revT (pv 6)) (pa_cons (pe_callTy call_list_of (by rfl) T.z_list (by decide +kernel) (pa_cons (pv 6) pa_nil)) (pa_cons (pe_slice sl_tupA (pv 6) po_none (po_some pe_int)) (pa_cons (pe_op op_catA (pv 6) (pe_tup (pa_cons (pe_tup pa_nil) pa_nil))) (pa_cons (pe_tup (pa_cons (pv 7) (pa_cons (pe_ix ix_tup (pv 6) pe_int (fun _ _ => rfl)) pa_nil))) (pa_cons (pe_tup (pa_cons (pv 4) (pa_cons (pe_ix ix_tup (pv 6) pe_int (fun _ _ => rfl)) pa_nil))) (pa_cons (pe_tup (pa_cons (pe_tup pa_nil) (pa_cons (pe_tup pa_nil) pa_nil))) (pa_cons pe_non pa_nil)))))))))))
      (pss_cons (ps_set (i := 8) sc_law.nd rfl (Or.inl rfl) (pe_op op_cat (pv 8) (pe_lst (pa_cons (pe_tup (pa_cons (pe_ix ix_tup (pv 6) pe_int (fun _ _ => rfl)) (pa_cons (pe_slice sl_tupA (pe_ix ix_tup (pv 6) pe_int (fun _ _ => rfl)) po_none (po_some (pe_un un_neg pe_int))) pa_nil))) (pa_cons (pe_tup (pa_cons (pe_slice sl_tupA (pe_ix ix_tup (pv 6) pe_int (fun _ _ => rfl)) po_none (po_some (pe_un un_neg pe_int))) (pa_cons (pe_slice sl_tupA (pe_ix ix_tup (pv 6) pe_int (fun _ _ => rfl)) po_none (po_some (pe_un un_neg pe_int))) pa_nil))) (pa_cons pe_int (pa_cons pe_str (pa_cons pe_dnewK (pa_cons (pe_tup (pa_cons (pe_tup pa_nil) (pa_cons pe_int pa_nil))) (pa_cons (pe_tup (pa_cons pe_int (pa_cons (pe_tup pa_nil) pa_nil))) (pa_cons (pe_tup (pa_cons (pe_lst pa_nil) (pa_cons (pe_tup pa_nil) pa_nil))) pa_nil)))))))))))
      (pss_cons (ps_for PassesOwn.never rfl (pi_range1 (by rfl) T.z_range (pa_cons pe_int pa_nil)) (pg_name (i := 9) sc_law.nd rfl (Or.inl rfl))
      (pss_cons (ps_set (i := 10) sc_law.nd rfl (Or.inl rfl) (pe_call (ok_law_bent T) (hr.mono (by decide)) (by rfl) T.g_law_bent T.F_law_bent.kp T.b_law_bent .nil pass0 (pa_cons (pv 1) (pa_cons (pv 6) pa_nil))))
      (pss_one (ps_set (i := 8) sc_law.nd rfl (Or.inl rfl) (pe_op op_cat (pv 8) (pe_lst (pa_cons (pv 10) (pa_cons (pe_call (ok_law_bent T) (hr.mono (by decide)) (by rfl) T.g_law_bent T.F_law_bent.kp T.b_law_bent .nil pass0 (pa_cons (pv 1) (pa_cons (pv 10) pa_nil))) pa_nil))))))))
      (pss_one (ps_for PassesOwn.never rfl (pi_list (pv 8)) (pg_name (i := 11) sc_law.nd rfl (Or.inl rfl))
      (pss_cons (ps_set (i := 12) sc_law.nd rfl (Or.inl rfl) (pe_callB (call_reprV hM hq hr.units) (by rfl) T.z_repr (by decide +kernel) (pa_cons (pe_lst (pa_cons (pv 4) (pa_cons (pv 5) (pa_cons (pv 11) pa_nil)))) pa_nil)))
      (pss_cons (ps_set (i := 13) sc_law.nd rfl (Or.inl rfl) (pe_call (ok_solution_holds T) (hr.mono (by decide)) (by rfl) T.g_solution_holds T.F_solution_holds.kp T.b_solution_holds .nil pass0 (pa_cons (pv 4) (pa_cons (pv 5) (pa_cons (pv 11) pa_nil)))))
      (pss_cons (ps_if (PW.pt (pw_or (pt_not (pt_val (pe_callB call_isi (by rfl) T.z_isinstance (by decide +kernel) (pa_cons (pv 13) (pa_cons (pe_bltn (v := .ty "bool") (u := .type "bool") (by rfl) T.z_bool (by decide +kernel) rfl) pa_nil))))) (pw_or1 (pt_cmpR op_ne (pv 13) (pe_call (ok_law_solved T) (hr.mono (by decide)) (by rfl) T.g_law_solved T.F_law_solved.kp T.b_law_solved .nil pass0 (pa_cons (pv 4) (pa_cons (pv 5) (pa_cons (pv 11) pa_nil)))) (nomark _)))))
      (pss_one (ps_ret pe_bl))
      pss_nil)
      (pss_one (ps_if (pt_cmpR op_ne (pe_callB (call_reprV hM hq hr.units) (by rfl) T.z_repr (by decide +kernel) (pa_cons (pe_lst (pa_cons (pv 4) (pa_cons (pv 5) (pa_cons (pv 11) pa_nil)))) pa_nil)) (pv 12) (nomark _))
      (pss_one (ps_ret pe_bl))
      pss_nil)))))))))))))))
      (pss_one (ps_ret pe_bl)))), ?_⟩
    have big : sizeLine = 16777216 := by decide
    have e13 : (10 : Nat) ^ 13 = 10000000000000 := by decide
    have e30 : (10 : Nat) ^ 30 = 1000000000000000000000000000000 := by decide
    have e29 : (10 : Nat) ^ 29 = 100000000000000000000000000000 := by decide
    refine ⟨.ref a, rfl, a, ns, rfl, hS, hlen, LamX.TabS.nil hP, fun H1 d c s1 nd ct dk0 => ?_⟩
    refine ⟨4, rfl, by decide, by decide, for_range (D := ⟨_, _, fun _ _ => True, fun _ _ => True⟩) (n := 4) (fun i σ H' => (∃ n : Int, Dk H' d c n ∧ 0 ≤ n ∧ n ≤ 500 * i) ∧ ∃ y2 y3 y4 y5 y6 y7 y8 y9 y10 y11 y12 y13, σ = [some (.ref a), some (.ref d), y2, y3, y4, y5, y6, y7, y8, y9, y10, y11, y12, y13])
      ⟨⟨0, dk0, by decide, by decide⟩, _, _, _, _, _, _, _, _, _, _, _, _, rfl⟩ ?_ (fun σ H' _ => q H')⟩
    rintro i σ H2 hi ⟨⟨n, dk2, n0, n1⟩, y2, y3, y4, y5, y6, y7, y8, y9, y10, y11, y12, y13, rfl⟩
    refine ⟨.ref d, rfl, d, c, n, 6, rfl, dk2, n0, by omega, by decide, by decide, fun H3 r kp3 dk3 r0 r1 => ?_⟩
    refine ⟨_, _, rfl, rfl, ?_⟩
    refine ⟨.ref d, rfl, _, rfl, d, c, n + 1, 1 + r, 8, rfl, dk3, by omega, by omega, by omega, by omega, by decide, by decide, fun H4 tt tus ts m4 kp4 dk4 m40 m41 ett tiv trw tl => ?_⟩
    refine ⟨.ref d, rfl, _, rfl, .ref d, rfl, d, c, _, 4, rfl, dk4, by omega, by omega, by decide, by decide, fun H5 mm kp5 dk5 mm0 mm1 => ?_⟩
    refine ⟨d, c, _, 1 + r, mm, rfl, dk5, by omega, by omega, by omega, by omega, mm0, by omega, fun H6 pp pus ps m6 kp6 dk6 m60 m61 epp piv prw pl => ?_⟩
    refine ⟨_, _, rfl, ?_⟩
    have kp46 := kp5.trans kp6
    have ett6 := kp46.tup dk4 ett
    have tiv6 := tiv.tps (kp46.tps dk4)
    have lt : ts.length ≤ 8 := by omega
    have lp : ps.length ≤ 3 := by omega
    have B := solB_rw trw prw (by omega) lt (by omega)
    have tok : ∀ q ∈ ts, 0 ≤ q.1 ∧ q.1 ≤ q.2 ∧ q.2 ≤ 1000000000000 := fun q hq => by
      have := trw.ok q hq
      omega
    have pok : ∀ q ∈ ps, 0 ≤ q.1 ∧ q.1 ≤ q.2 ∧ q.2 ≤ 1000000000000 := fun q hq => by
      have := prw.ok q hq
      omega
    have pcp : Pc ps := fun q hq => by
      have := pok q hq
      omega
    have tg : Tg ts := fun q hq => (tok q hq).2.1
    -- the solution
    refine ⟨.ref tt, rfl, .ref pp, rfl, d, c, m6, tt, pp, tus, pus, ts, ps, rfl, ct, dk6, ett6, epp, tiv6, piv, B, fun H7 rr AA kp7 dk7 sol => ?_⟩
    obtain ⟨x, y, zs, wv, er, ex, iva, ey, dmw⟩ := sol.ex
    have t67 := kp7.tps dk6
    have ett7 := t67 _ _ ett6
    have epp7 := t67 _ _ epp
    have tiv7 := tiv6.tps t67
    have piv7 := piv.tps t67
    have lz := iva.length
    have lwv := dmw.length
    have add := add_ok B.good
    have lA : AA.length = needO ts ps := sol.perm.length_eq.trans add.len
    have lW : (witO ts ps).length = needO ts ps := rfl
    have ln := need_le_ts B.good
    have okA : ∀ q ∈ AA, 0 ≤ q.1 ∧ q.1 ≤ q.2 ∧ q.2 ≤ 1000000000000 := fun q hq => by
      obtain ⟨f, t, ht, h1, h2⟩ := add.inn q (sol.perm.mem_iff.mp hq)
      have g := tok t ht
      have := f.le
      omega
    have okW : ∀ q ∈ witO ts ps, 0 ≤ q.2.1 ∧ q.2.2 ≤ 1000000000000 := fun q hq => by
      have sub := lg_sub (decO ts ps).length (decO ts ps)
      obtain ⟨⟨h1, _, _⟩, _⟩ := mem_dec.mp (sub.mem hq)
      have g := tok _ h1
      omega
    generalize witO ts ps = WW at *
    have lAA : AA.length ≤ 8 := by omega
    have lWW : WW.length ≤ 8 := by omega
    -- more
    refine ⟨.ref rr, rfl, rr, _, 0, .ref x, rfl, rfl, SqT.of er, rfl, .ref tt, rfl, 1, rfl, ?_⟩
    refine slA_any ett7 (fun H8 p8 s8 e8 => ?_)
    rw [show (1 : Int) = ((1 : Nat) : Int) from rfl, cutTo] at e8
    refine catA_any (s8 _ _ ex) e8 (by rw [big, List.length_take]; omega) (fun H9 p9 s9 e9 => ?_)
    dsimp only [tNil]
    have s79 := s8.trans s9
    have tiv1 : Ivs H9 (tus.take 1) (ts.take 1) := (tiv7.same s79).take 1
    have okM : ∀ q ∈ AA ++ ts.take 1, 0 ≤ q.1 ∧ q.1 ≤ q.2 ∧ q.2 ≤ 1000000000000 := fun q hq => by
      rcases List.mem_append.mp hq with h | h
      · exact okA q h
      · exact tok q (List.mem_of_mem_take h)
    refine sorted_set_pairsT e9 ((iva.same s79).append tiv1) (by rw [List.length_append, List.length_take]; omega) (fun z hz => ?_) (fun Ha L us' ps' sa nL eL iv' asc mem => ?_)
    · have := okM z hz
      omega
    have lps : ps'.length ≤ 9 := by
      have := Rw.len asc mem
      rw [List.length_append, List.length_take] at this
      omega
    have okP : ∀ q ∈ ps', 0 ≤ q.1 ∧ q.1 ≤ q.2 ∧ q.2 ≤ 1000000000000 := fun q hq => okM q ((mem q).mp hq)
    refine ⟨L, us', rfl, .inl ⟨SqL.of eL, fun mo nmo => ?_⟩⟩
    have sb := same_new (o := .tup us') nmo
    have emo := upd_same (H := Ha) (a := mo) (o := .tup us')
    generalize upd Ha mo (.tup us') = Hb at *
    have s7b := s79.trans (sa.trans sb)
    have er_b := s7b _ _ er
    have ex_b := s7b _ _ ex
    have ey_b := s7b _ _ ey
    have ett_b := s7b _ _ ett7
    -- the first list
    refine ⟨.ref rr, rfl, .ref rr, rfl, rr, _, rfl, SqT.of er_b, fun q1 nq1 => ?_⟩
    have t1 := same_new (o := .tup [V.ref x, .ref y].reverse) nq1
    have eq1 := upd_same (H := Hb) (a := q1) (o := .tup [V.ref x, .ref y].reverse)
    generalize upd Hb q1 (.tup [V.ref x, .ref y].reverse) = G1 at *
    refine ⟨.ref rr, rfl, rr, _, rfl, .inr (SqT.of (t1 _ _ er_b)), fun q2 nq2 => ?_⟩
    have t2 := same_new (o := .lst [.ref x, .ref y]) nq2
    have eq2 := upd_same (H := G1) (a := q2) (o := .lst [.ref x, .ref y])
    generalize upd G1 q2 (.lst [.ref x, .ref y]) = G2 at *
    have t12 := t1.trans t2
    refine ⟨.ref rr, rfl, 1, rfl, ?_⟩
    refine slA_any (t12 _ _ er_b) (fun G3 q3 t3 eq3 => ?_)
    have t13 := t12.trans t3
    refine ⟨.ref rr, rfl, by show 0 ≤ sizeLine; decide, fun q4 nq4 => ?_⟩
    have t4 := same_new (o := .tup []) nq4
    have eq4 := upd_same (H := G3) (a := q4) (o := .tup [])
    generalize upd G3 q4 (.tup []) = G4 at *
    refine ⟨by show 1 ≤ sizeLine; decide, fun q5 nq5 => ?_⟩
    have t5 := same_new (o := .tup [.ref q4]) nq5
    have eq5 := upd_same (H := G4) (a := q5) (o := .tup [.ref q4])
    generalize upd G4 q5 (.tup [.ref q4]) = G5 at *
    have t15 := t13.trans (t4.trans t5)
    refine catA_any (t15 _ _ er_b) eq5 (by rw [big]; show 2 + 1 ≤ _; omega) (fun G6 q6 t6 eq6 => ?_)
    have t16 := t15.trans t6
    refine ⟨.ref mo, rfl, .ref rr, rfl, rr, _, 1, .ref y, rfl, rfl, SqT.of (t16 _ _ er_b), rfl, by show 2 ≤ sizeLine; decide, fun q7 nq7 => ?_⟩
    have t7 := same_new (o := .tup [.ref mo, .ref y]) nq7
    have eq7 := upd_same (H := G6) (a := q7) (o := .tup [.ref mo, .ref y])
    generalize upd G6 q7 (.tup [.ref mo, .ref y]) = G7 at *
    have t17 := t16.trans t7
    refine ⟨.ref tt, rfl, .ref rr, rfl, rr, _, 1, .ref y, rfl, rfl, SqT.of (t17 _ _ er_b), rfl, by show 2 ≤ sizeLine; decide, fun q8 nq8 => ?_⟩
    have t8 := same_new (o := .tup [.ref tt, .ref y]) nq8
    have eq8 := upd_same (H := G7) (a := q8) (o := .tup [.ref tt, .ref y])
    generalize upd G7 q8 (.tup [.ref tt, .ref y]) = G8 at *
    have t18 := t17.trans t8
    refine ⟨by show 0 ≤ sizeLine; decide, fun q9 nq9 => ?_⟩
    have t9 := same_new (o := .tup []) nq9
    have eq9 := upd_same (H := G8) (a := q9) (o := .tup [])
    generalize upd G8 q9 (.tup []) = G9 at *
    refine ⟨by show 0 ≤ sizeLine; decide, fun q10 nq10 => ?_⟩
    have t10 := same_new (o := .tup []) nq10
    have eq10 := upd_same (H := G9) (a := q10) (o := .tup [])
    generalize upd G9 q10 (.tup []) = G10 at *
    refine ⟨by show 2 ≤ sizeLine; decide, fun q11 nq11 => ?_⟩
    have t11 := same_new (o := .tup [.ref q9, .ref q10]) nq11
    have eq11 := upd_same (H := G10) (a := q11) (o := .tup [.ref q9, .ref q10])
    generalize upd G10 q11 (.tup [.ref q9, .ref q10]) = G11 at *
    have t111 := t18.trans (t9.trans (t10.trans t11))
    refine ⟨by show 9 ≤ sizeLine; decide, fun l1 nl1 => ?_⟩
    have t1l := same_new (o := .lst [.ref rr, .ref q1, .ref q2, .ref q3, .ref q6, .ref q7, .ref q8, .ref q11, .non]) nl1
    have el1 := upd_same (H := G11) (a := l1) (o := .lst [.ref rr, .ref q1, .ref q2, .ref q3, .ref q6, .ref q7, .ref q8, .ref q11, .non])
    generalize upd G11 l1 (.lst [.ref rr, .ref q1, .ref q2, .ref q3, .ref q6, .ref q7, .ref q8, .ref q11, .non]) = G12 at *
    have tA := t111.trans t1l
    -- the second list
    refine ⟨.ref l1, rfl, ?_⟩
    refine ⟨.ref rr, rfl, rr, _, 0, .ref x, rfl, rfl, SqT.of (tA _ _ er_b), rfl, .ref rr, rfl, rr, _, 1, .ref y, rfl, rfl, SqT.of (tA _ _ er_b), rfl, 1, rfl, -1, rfl, ?_⟩
    refine slA_any (tA _ _ ey_b) (fun K1 r1' u1 er1 => ?_)
    refine ⟨by show 2 ≤ sizeLine; decide, fun r2 nr2 => ?_⟩
    have u2 := same_new (o := .tup [.ref x, .ref r1']) nr2
    have er2 := upd_same (H := K1) (a := r2) (o := .tup [.ref x, .ref r1'])
    generalize upd K1 r2 (.tup [.ref x, .ref r1']) = K2 at *
    have u12 := tA.trans (u1.trans u2)
    refine ⟨.ref rr, rfl, rr, _, 0, .ref x, rfl, rfl, SqT.of (u12 _ _ er_b), rfl, 1, rfl, -1, rfl, ?_⟩
    refine slA_any (u12 _ _ ex_b) (fun K3 r3 u3 er3 => ?_)
    have u13 := u12.trans u3
    refine ⟨.ref rr, rfl, rr, _, 1, .ref y, rfl, rfl, SqT.of (u13 _ _ er_b), rfl, 1, rfl, -1, rfl, ?_⟩
    refine slA_any (u13 _ _ ey_b) (fun K4 r4 u4 er4 => ?_)
    refine ⟨by show 2 ≤ sizeLine; decide, fun r5 nr5 => ?_⟩
    have u5 := same_new (o := .tup [.ref r3, .ref r4]) nr5
    have er5 := upd_same (H := K4) (a := r5) (o := .tup [.ref r3, .ref r4])
    generalize upd K4 r5 (.tup [.ref r3, .ref r4]) = K5 at *
    refine fun r6 nr6 => ?_
    have u6 := same_new (o := .dK []) nr6
    have er6 := upd_same (H := K5) (a := r6) (o := .dK [])
    generalize upd K5 r6 (.dK []) = K6 at *
    refine ⟨by show 0 ≤ sizeLine; decide, fun r7 nr7 => ?_⟩
    have u7 := same_new (o := .tup []) nr7
    have er7 := upd_same (H := K6) (a := r7) (o := .tup [])
    generalize upd K6 r7 (.tup []) = K7 at *
    refine ⟨by show 2 ≤ sizeLine; decide, fun r8 nr8 => ?_⟩
    have u8 := same_new (o := .tup [.ref r7, .int 0]) nr8
    have er8 := upd_same (H := K7) (a := r8) (o := .tup [.ref r7, .int 0])
    generalize upd K7 r8 (.tup [.ref r7, .int 0]) = K8 at *
    refine ⟨by show 0 ≤ sizeLine; decide, fun r9 nr9 => ?_⟩
    have u9 := same_new (o := .tup []) nr9
    have er9 := upd_same (H := K8) (a := r9) (o := .tup [])
    generalize upd K8 r9 (.tup []) = K9 at *
    refine ⟨by show 2 ≤ sizeLine; decide, fun r10 nr10 => ?_⟩
    have u10 := same_new (o := .tup [.int 0, .ref r9]) nr10
    have er10 := upd_same (H := K9) (a := r10) (o := .tup [.int 0, .ref r9])
    generalize upd K9 r10 (.tup [.int 0, .ref r9]) = K10 at *
    refine ⟨by show 0 ≤ sizeLine; decide, fun r11 nr11 => ?_⟩
    have u11 := same_new (o := .lst []) nr11
    have er11 := upd_same (H := K10) (a := r11) (o := .lst [])
    generalize upd K10 r11 (.lst []) = K11 at *
    refine ⟨by show 0 ≤ sizeLine; decide, fun r12 nr12 => ?_⟩
    have u12' := same_new (o := .tup []) nr12
    have er12 := upd_same (H := K11) (a := r12) (o := .tup [])
    generalize upd K11 r12 (.tup []) = K12 at *
    refine ⟨by show 2 ≤ sizeLine; decide, fun r13 nr13 => ?_⟩
    have u13' := same_new (o := .tup [.ref r11, .ref r12]) nr13
    have er13 := upd_same (H := K12) (a := r13) (o := .tup [.ref r11, .ref r12])
    generalize upd K12 r13 (.tup [.ref r11, .ref r12]) = K13 at *
    refine ⟨by show 8 ≤ sizeLine; decide, fun l2 nl2 => ?_⟩
    have u14 := same_new (o := .lst [.ref r2, .ref r5, .int 0, .str "", .ref r6, .ref r8, .ref r10, .ref r13]) nl2
    have el2 := upd_same (H := K13) (a := l2) (o := .lst [.ref r2, .ref r5, .int 0, .str "", .ref r6, .ref r8, .ref r10, .ref r13])
    generalize upd K13 l2 (.lst [.ref r2, .ref r5, .int 0, .str "", .ref r6, .ref r8, .ref r10, .ref r13]) = K14 at *
    have uA : Same G12 K14 := u1.trans (u2.trans (u3.trans (u4.trans (u5.trans (u6.trans (u7.trans (u8.trans (u9.trans (u10.trans (u11.trans (u12'.trans (u13'.trans u14))))))))))))
    refine ⟨l1, l2, _, _, rfl, rfl, uA _ _ el1, el2, by rw [big]; show 9 + 8 ≤ _; omega, fun g ng => ?_⟩
    have s7g : Same H7 K14 := s7b.trans (tA.trans uA)
    have dk14 := dk7.kept s7g
    have offg := dk14.off ng
    have u15 := same_new (o := .lst ([V.ref rr, .ref q1, .ref q2, .ref q3, .ref q6, .ref q7, .ref q8, .ref q11, .non] ++ [.ref r2, .ref r5, .int 0, .str "", .ref r6, .ref r8, .ref r10, .ref r13])) ng
    have eg := upd_same (H := K14) (a := g) (o := .lst ([V.ref rr, .ref q1, .ref q2, .ref q3, .ref q6, .ref q7, .ref q8, .ref q11, .non] ++ [.ref r2, .ref r5, .int 0, .str "", .ref r6, .ref r8, .ref r10, .ref r13]))
    generalize upd K14 g (.lst ([V.ref rr, .ref q1, .ref q2, .ref q3, .ref q6, .ref q7, .ref q8, .ref q11, .non] ++ [.ref r2, .ref r5, .int 0, .str "", .ref r6, .ref r8, .ref r10, .ref r13])) = Kg at *
    have tAg : Same G12 Kg := uA.trans u15
    have s7g := s7g.trans u15
    have sbg : Same Hb Kg := tA.trans tAg
    have dkg := dk7.kept s7g
    have rwA : Rwt K (10 ^ 29 + 1) 10 1624 1 (OffQ d c Kg) zs := (ivs_rw dkg (iva.same s7g) okA).mono (Nat.le_refl _) (Nat.le_refl _) (by omega) (Nat.le_refl _)
    have rwW : Rwt K (10 ^ 29 + 1) 10 3256 2 (OffQ d c Kg) wv := (dms_rw dkg (dmw.same s7g) okW).mono (Nat.le_refl _) (Nat.le_refl _) (by omega) (Nat.le_refl _)
    have rwT : Rwt K (10 ^ 29 + 1) 10 1624 1 (OffQ d c Kg) tus := (ivs_rw dkg (tiv7.same s7g) tok).mono (Nat.le_refl _) (Nat.le_refl _) (by omega) (Nat.le_refl _)
    have rwM : Rwt K (10 ^ 29 + 1) 10 1827 1 (OffQ d c Kg) us' := (ivs_rw dkg ((iv'.same sb).same sbg) okP).mono (Nat.le_refl _) (Nat.le_refl _) (by omega) (Nat.le_refl _)
    have ltu := tiv.length
    have lus := iv'.length
    have tupq : ∀ {z : Addr} {vs : List V} {M dp : Nat}, Kg z = some (.tup vs) → Rwt K (10 ^ 29 + 1) 10 M dp (OffQ d c Kg) vs → vs.length ≤ 10 → Gwt K (10 ^ 29 + 1) 10 M (dp + 1) (OffQ d c Kg) (.ref z) := fun e rr k => rr.tup k (offQ_get (dkg.offT e) e)
    have gx := tupq (sbg _ _ ex_b) rwA (by omega)
    have gy := tupq (sbg _ _ ey_b) rwW (by omega)
    have gt := tupq (sbg _ _ ett_b) rwT (by omega)
    have gm := tupq (sbg _ _ emo) rwM (by omega)
    have up3 : ∀ {G : Hp} {M dp : Nat} {v : V}, Gwt K (10 ^ 29 + 1) 10 M dp G v → dp ≤ 3 → Gwt K (10 ^ 29 + 1) 10 M 3 G v := fun h k => h.mono (Nat.le_refl _) (Nat.le_refl _) (Nat.le_refl _) k
    have rown : Rwt K (10 ^ 29 + 1) 10 4882 3 (OffQ d c Kg) [V.ref x, .ref y] := (Rwt.cons (up3 gx (by decide)) (Rwt.one (up3 gy (by decide)))).mono (Nat.le_refl _) (Nat.le_refl _) (by decide) (Nat.le_refl _)
    have gown : Gwt K (10 ^ 29 + 1) 10 4882 4 (OffQ d c Kg) (.ref rr) := tupq (sbg _ _ er_b) rown (show 2 ≤ 10 by decide)
    have up : ∀ {G : Hp} {M dp : Nat} {v : V}, Gwt K (10 ^ 29 + 1) 10 M dp G v → M ≤ 40000 → dp ≤ 12 → Gwt K (10 ^ 29 + 1 + 3 * 10 ^ 13) 12 40000 12 G v := fun h k k2 => h.mono (Nat.le_add_right _ _) (by decide) k k2
    have cutl : ∀ (us : List V) lo hi, (cutV us lo hi).length ≤ us.length := fun us lo hi => by
      unfold cutV
      rw [List.length_take, List.length_drop]
      omega
    have empt : ∀ {z : Addr}, Kg z = some (.tup []) → Gwt K (10 ^ 29 + 1) 10 0 1 (OffQ d c Kg) (.ref z) := fun e => tupq e (Rwt.nil (dp := 0)) (Nat.zero_le _)
    have zero : Gwt K (10 ^ 29 + 1) 10 100 0 (OffQ d c Kg) (.int 0) := num_gw (by decide) (by decide)
    have g1g : Same G1 Kg := t2.trans (t3.trans (t4.trans (t5.trans (t6.trans (t7.trans (t8.trans (t9.trans (t10.trans (t11.trans (t1l.trans tAg))))))))))
    have oq2 : Off d c q2 := (dk7.kept (s7b.trans t1)).off nq2
    have vals : ∀ v ∈ [V.ref rr, .ref q1, .ref q2, .ref q3, .ref q6, .ref q7, .ref q8, .ref q11, .non] ++ [.ref r2, .ref r5, .int 0, .str "", .ref r6, .ref r8, .ref r10, .ref r13], GV K d c Kg v := by
      intro v hv
      have g11 : Same G11 Kg := t1l.trans tAg
      have g9 : Same G9 Kg := t10.trans (t11.trans g11)
      have g8 : Same G8 Kg := t9.trans g9
      have g4 : Same G4 Kg := t5.trans (t6.trans (t7.trans (t8.trans g8)))
      have k13 : Same K13 Kg := u14.trans u15
      have k12 : Same K12 Kg := u13'.trans k13
      have k11 : Same K11 Kg := u12'.trans k12
      have k10 : Same K10 Kg := u11.trans k11
      have k8 : Same K8 Kg := u9.trans (u10.trans k10)
      have k7 : Same K7 Kg := u8.trans k8
      have k6 : Same K6 Kg := u7.trans k7
      have k5 : Same K5 Kg := u6.trans k6
      have k4 : Same K4 Kg := u5.trans k5
      have k3 : Same K3 Kg := u4.trans k4
      have k2 : Same K2 Kg := u3.trans k3
      have k1 : Same K1 Kg := u2.trans k2
      rcases List.mem_append.mp hv with hv | hv
      · simp only [List.mem_cons, List.not_mem_nil, or_false] at hv
        rcases hv with rfl | rfl | rfl | rfl | rfl | rfl | rfl | rfl | rfl
        · exact up gown (by decide) (by decide)
        · exact up (tupq (g1g _ _ eq1) rown.rev (show 2 ≤ 10 by decide)) (by decide) (by decide)
        · exact up (rown.lst (show 2 ≤ 10 by decide) (offQ_get oq2 ((t3.trans (t4.trans (t5.trans (t6.trans (t7.trans (t8.trans g8)))))) _ _ eq2))) (by decide) (by decide)
        · exact up (tupq ((t4.trans g4) _ _ eq3) (rown.cut _ _) (Nat.le_trans (cutl _ _ _) (show 2 ≤ 10 by decide))) (by decide) (by decide)
        · exact up (tupq ((t7.trans (t8.trans g8)) _ _ eq6) (rown.cat (Rwt.one ((empt (g4 _ _ eq4)).mono (Nat.le_refl _) (Nat.le_refl _) (Nat.le_refl _) (by decide)))) (show 3 ≤ 10 by decide)) (by decide) (by decide)
        · exact up (tupq ((t8.trans g8) _ _ eq7) (Rwt.cons (up3 gm (by decide)) (Rwt.one (up3 gy (by decide)))) (show 2 ≤ 10 by decide)) (by decide) (by decide)
        · exact up (tupq (g8 _ _ eq8) (Rwt.cons (up3 gt (by decide)) (Rwt.one (up3 gy (by decide)))) (show 2 ≤ 10 by decide)) (by decide) (by decide)
        · exact up (tupq (g11 _ _ eq11) (Rwt.cons (empt (g9 _ _ eq9)) (Rwt.one (empt ((t11.trans g11) _ _ eq10)))) (show 2 ≤ 10 by decide)) (by decide) (by decide)
        · exact ⟨_, .non, Fine.none _ _, Nat.zero_le _, Nat.zero_le _⟩
      · simp only [List.mem_cons, List.not_mem_nil, or_false] at hv
        have gr1 := tupq (k1 _ _ er1) (rwW.cut none (some (-1))) (Nat.le_trans (cutl _ _ _) (by omega))
        have gr3 := tupq (k3 _ _ er3) (rwA.cut none (some (-1))) (Nat.le_trans (cutl _ _ _) (by omega))
        have gr4 := tupq (k4 _ _ er4) (rwW.cut none (some (-1))) (Nat.le_trans (cutl _ _ _) (by omega))
        have o11 : Off d c r11 := by
          refine (dk7.kept (s7b.trans (tA.trans (?_ : Same G12 K10)))).off nr11
          exact u1.trans (u2.trans (u3.trans (u4.trans (u5.trans (u6.trans (u7.trans (u8.trans (u9.trans u10))))))))
        have o6 : Off d c r6 := by
          refine (dk7.kept (s7b.trans (tA.trans (?_ : Same G12 K5)))).off nr6
          exact u1.trans (u2.trans (u3.trans (u4.trans u5)))
        have g11' : Gwt K (10 ^ 29 + 1) 10 0 1 (OffQ d c Kg) (.ref r11) := (Rwt.nil (dp := 0)).lst (Nat.zero_le _) (offQ_get o11 (k11 _ _ er11))
        rcases hv with rfl | rfl | rfl | rfl | rfl | rfl | rfl | rfl
        · exact up (tupq (k2 _ _ er2) (Rwt.cons (up3 gx (by decide)) (Rwt.one (up3 gr1 (by decide)))) (show 2 ≤ 10 by decide)) (by decide) (by decide)
        · exact up (tupq (k5 _ _ er5) (Rwt.cons (up3 gr3 (by decide)) (Rwt.one (up3 gr4 (by decide)))) (show 2 ≤ 10 by decide)) (by decide) (by decide)
        · exact up zero (by decide) (by decide)
        · exact ⟨_, .str _, ⟨rfl, rfl, by unfold intsB; rfl⟩, by decide +kernel, Nat.zero_le _⟩
        · exact ⟨_, .dic (offQ_get o6 (k6 _ _ er6)) .nil, ⟨rfl, rfl, by unfold intsB intsBKv; rfl⟩, Nat.zero_le _, by decide⟩
        · exact up (tupq (k8 _ _ er8) (Rwt.cons (empt (k7 _ _ er7)) (Rwt.one (zero.mono (Nat.le_refl _) (Nat.le_refl _) (Nat.le_refl _) (by decide)))) (show 2 ≤ 10 by decide)) (by decide) (by decide)
        · exact up (tupq (k10 _ _ er10) (Rwt.cons (zero.mono (Nat.le_refl _) (Nat.le_refl _) (Nat.le_refl _) (by decide)) (Rwt.one (empt ((u10.trans k10) _ _ er9)))) (show 2 ≤ 10 by decide)) (by decide) (by decide)
        · exact up (tupq (k13 _ _ er13) (Rwt.cons g11' (Rwt.one (empt (k12 _ _ er12)))) (show 2 ≤ 10 by decide)) (by decide) (by decide)
    have lv0 : ([V.ref rr, .ref q1, .ref q2, .ref q3, .ref q6, .ref q7, .ref q8, .ref q11, .non] ++ [V.ref r2, .ref r5, .int 0, .str "", .ref r6, .ref r8, .ref r10, .ref r13]).length = 17 := rfl
    generalize [V.ref rr, .ref q1, .ref q2, .ref q3, .ref q6, .ref q7, .ref q8, .ref q11, .non] ++ [V.ref r2, .ref r5, .int 0, .str "", .ref r6, .ref r8, .ref r10, .ref r13] = v0 at *
    have ettg := sbg _ _ ett_b
    have eppg := s7g _ _ epp7
    have tivg := tiv7.same s7g
    have pivg := piv7.same s7g
    refine ⟨9, rfl, by decide, by decide, for_range (D := ⟨_, _, fun _ _ => True, fun _ _ => True⟩) (n := 9) (fun j σ H' => Kp d c Kg H' ∧ (∃ m, Dk H' d c m ∧ n ≤ m ∧ m ≤ n + 100 + 36 * j) ∧ ∃ g us, H' g = some (.lst us) ∧ Off d c g ∧ us.length ≤ 17 + 2 * j ∧ (∀ v ∈ us, GV K d c H' v) ∧ ∃ y2 y3 y7 y9 y10 y11 y12 y13, σ = [some (.ref a), some (.ref d), y2, y3, some (.ref tt), some (.ref pp), some (.ref rr), y7, some (.ref g), y9, y10, y11, y12, y13])
      ⟨Kp.same (Same.refl _), ⟨_, dkg, by omega, by omega⟩, g, v0, eg, offg, by omega, vals, _, _, _, _, _, _, _, _, rfl⟩ ?_ ?_⟩
    · rintro j σ H16 hj ⟨kp16, ⟨m, dk16, n16, l16⟩, g, us, eg, offg, lus, vals, y2, y3, y7, y9, y10, y11, y12, y13, rfl⟩
      refine ⟨.ref d, rfl, .ref rr, rfl, d, c, m, .ref rr, 10 ^ 29 + 1, 10, 4882, 4, rfl, dk16, by omega, by show m + 2 * 8 < _; omega, by omega, by omega, by decide, by decide, by decide, gown.same (offQ_kp kp16), fun H17 v17 m17 kp17 dk17 q0 q1 g17 => ?_⟩
      refine ⟨.ref g, rfl, v17, rfl, .ref d, rfl, v17, rfl, d, c, m17, v17, 10 ^ 29 + 1 + 10 ^ 13, 11, 2 * 4882 + 1001, 8, rfl, dk17, by omega, by show m17 + 2 * 8 < _; omega, by omega, by omega, by decide, by decide, by decide, g17, fun H18 v18 m18 kp18 dk18 q2 q3 g18 => ?_⟩
      refine ⟨by show 2 ≤ sizeLine; decide, fun l2 nl2 => ?_⟩
      have s19 := same_new (o := .lst [v17, v18]) nl2
      have el2 := upd_same (H := H18) (a := l2) (o := .lst [v17, v18])
      generalize upd H18 l2 (.lst [v17, v18]) = H19 at *
      have eg19 := s19 _ _ (kp18.keep offg (kp17.keep offg eg))
      refine ⟨g, l2, us, _, rfl, rfl, eg19, el2, by rw [big]; show _ + 2 ≤ _; omega, fun g2 ng2 => ?_⟩
      have off2 := (dk18.kept s19).off ng2
      have s20 := same_new (o := .lst (us ++ [v17, v18])) ng2
      have eg2 := upd_same (H := H19) (a := g2) (o := .lst (us ++ [v17, v18]))
      generalize upd H19 g2 (.lst (us ++ [v17, v18])) = H20 at *
      have s1820 := s19.trans s20
      have kp1620 : Kp d c H16 H20 := kp17.trans (kp18.trans (Kp.same s1820))
      have b3 : m17 ≤ m + 2 * 8 + 2 := q1
      have b4 : m18 ≤ m17 + 2 * 8 + 2 := q3
      refine ⟨kp16.trans kp1620, ⟨m18, dk18.kept s1820, by omega, by omega⟩, g2, _, eg2, off2, by rw [List.length_append]; show us.length + 2 ≤ _; omega, fun v hv => ?_, _, _, _, _, _, _, _, _, rfl⟩
      rcases List.mem_append.mp hv with hv | hv
      · exact (vals v hv).same (offQ_kp kp1620)
      · simp only [List.mem_cons, List.not_mem_nil, or_false] at hv
        rcases hv with rfl | rfl
        · exact (g17.same (offQ_kp (kp18.trans (Kp.same s1820)))).mono (by omega) (by decide) (by decide) (by decide)
        · exact (g18.same (offQ_kp (Kp.same s1820))).mono (by omega) (by decide) (by decide) (by decide)
    · rintro σ H16 ⟨kp16, ⟨m, dk16, n16, l16⟩, g, us, eg, offg, lus, vals, y2, y3, y7, y9, y10, y11, y12, y13, rfl⟩
      have t16 := kp16.tps dkg
      refine ⟨.ref g, rfl, g, rfl, ⟨_, SqL.of eg⟩, ?_⟩
      refine for_list (K := K) (a := g) (xs := us) (fun j σ H' => Same H16 H' ∧ ∃ y2 y3 y7 y8 y9 y10 y11 y12 y13, σ = [some (.ref a), some (.ref d), y2, y3, some (.ref tt), some (.ref pp), some (.ref rr), y7, y8, y9, y10, y11, y12, y13]) ⟨Same.refl _, _, _, _, _, _, _, _, _, _, rfl⟩ (fun j σ H' _ h => SqL.of (h.1 _ _ eg)) ?_ ?_
      · rintro j v σ H17 hj ⟨s17, y2, y3, y7, y8, y9, y10, y11, y12, y13, rfl⟩
        obtain ⟨dd, hd, fine, wt, dep⟩ := (vals v (List.mem_of_getElem? hj)).same offQ_sub
        have hd17 := dv_same s17 hd
        have ett17 := s17 _ _ (t16 _ _ ettg)
        have epp17 := s17 _ _ (t16 _ _ eppg)
        have tiv17 := (tivg.tps t16).same s17
        have piv17 := (pivg.tps t16).same s17
        have smP : ∀ {l : List (Int × Int)}, (∀ q ∈ l, 0 ≤ q.1 ∧ q.1 ≤ q.2 ∧ q.2 ≤ 1000000000000) → l.length ≤ 8 → Sm 40000 12 (.tuple (l.map pairD)) := fun {l} ok ll => by
          refine (Sm.tup (n := 202) (dp := 1) fun z hz => ?_).mono (by rw [List.length_map]; omega) (by decide)
          obtain ⟨q, hq, rfl⟩ := List.mem_map.mp hz
          have := ok q hq
          exact sm2 (Nat.lt_of_le_of_lt (show q.1.natAbs ≤ 1000000000000 by omega) (by decide)) (Nat.lt_of_le_of_lt (show q.2.natAbs ≤ 1000000000000 by omega) (by decide))
        have dvP : ∀ {H' : Hp} {us : List V} {l : List (Int × Int)}, Ivs H' us l → DvAll K H' us (l.map pairD) := fun h => by
          induction h with
          | nil => exact .nil
          | cons e _ ih => exact .cons (.tup e (.cons (.int _) (.cons (.int _) .nil))) ih
        obtain ⟨dL, edL⟩ : ∃ dL : PyData, dL = .list [.tuple (ts.map pairD), .tuple (ps.map pairD), dd] := ⟨_, rfl⟩
        have smL : Sm 120003 13 dL := by
          rw [edL]
          refine (Sm.lst (n := 40000) (dp := 12) (ds := [.tuple (ts.map pairD), .tuple (ps.map pairD), dd]) fun z hz => ?_).mono (by show 3 * 40001 ≤ 120003; decide) (Nat.le_refl _)
          simp only [List.mem_cons, List.not_mem_nil, or_false] at hz
          rcases hz with rfl | rfl | rfl
          · exact smP tok lt
          · exact smP pok (by omega)
          · exact ⟨fine.shows, fine.short, wt, dep⟩
        refine ⟨.ref tt, rfl, .ref pp, rfl, v, rfl, by show 3 ≤ sizeLine; decide, fun w1 nw1 => ?_⟩
        have s18 := same_new (o := .lst [.ref tt, .ref pp, v]) nw1
        have ew1 := upd_same (H := H17) (a := w1) (o := .lst [.ref tt, .ref pp, v])
        generalize upd H17 w1 (.lst [.ref tt, .ref pp, v]) = H18 at *
        have dv1 : Dv K H18 (.ref w1) dL := by
          rw [edL]
          exact .lst ew1 (.cons (.tup (s18 _ _ ett17) (dvP (tiv17.same s18))) (.cons (.tup (s18 _ _ epp17) (dvP (piv17.same s18))) (.cons (dv_same s18 hd17) .nil)))
        refine ⟨.ref w1, dL, _, _, rfl, dv1, smL, by decide, by decide, ?_⟩
        refine ⟨.ref tt, rfl, .ref pp, rfl, v, rfl, tt, pp, v, tus, pus, ts, ps, dd, _, 12, rfl, s18 _ _ ett17, tiv17.same s18, tg, s18 _ _ epp17, piv17.same s18, by omega, pcp, dv_same s18 hd17, fine, by decide, by omega, fun H19 s19 => ?_⟩
        have s1719 := s18.trans s19
        obtain ⟨hb, ehb⟩ : ∃ hb : Bool, hb = holdB ts ps dd := ⟨_, rfl⟩
        rw [← ehb]
        refine ⟨.bl hb, rfl, .bl hb, .ty "bool", _, _, _, rfl, .ty "bool", .base (.bl _), kit_ty (a := "bool") (b := "bool") (r := true) (by decide +kernel), _, rfl, iteF ?_⟩
        refine ⟨.bl hb, rfl, .ref tt, rfl, .ref pp, rfl, v, rfl, tt, pp, v, tus, pus, ts, ps, dd, _, 12, rfl, s1719 _ _ ett17, tiv17.same s1719, by omega, s1719 _ _ epp17, piv17.same s1719, by omega, dv_same s1719 hd17, fine, by decide, fun H20 s20 => ?_⟩
        rw [← ehb]
        have s1720 := s1719.trans s20
        refine ⟨rfl, _, rfl, iteNS rfl ?_⟩
        refine ⟨.ref tt, rfl, .ref pp, rfl, v, rfl, by show 3 ≤ sizeLine; decide, fun w2 nw2 => ?_⟩
        have s21 := same_new (o := .lst [.ref tt, .ref pp, v]) nw2
        have ew2 := upd_same (H := H20) (a := w2) (o := .lst [.ref tt, .ref pp, v])
        generalize upd H20 w2 (.lst [.ref tt, .ref pp, v]) = H21 at *
        have s1721 := s1720.trans s21
        have dv2 : Dv K H21 (.ref w2) dL := by
          rw [edL]
          exact .lst ew2 (.cons (.tup (s1721 _ _ ett17) (dvP (tiv17.same s1721))) (.cons (.tup (s1721 _ _ epp17) (dvP (piv17.same s1721))) (.cons (dv_same s1721 hd17) .nil)))
        refine ⟨.ref w2, dL, _, _, rfl, dv2, smL, by decide, by decide, .str dL.shown, rfl, rfl, _, rfl, iteNS rfl ?_⟩
        exact ⟨s17.trans s1721, _, _, _, _, _, _, _, _, _, rfl⟩
      · rintro σ H17 ⟨s17, y2, y3, y7, y8, y9, y10, y11, y12, y13, rfl⟩
        exact ⟨⟨m, dk16.kept s17, by omega, by omega⟩, _, _, _, _, _, _, _, _, _, _, _, _, rfl⟩

end
theorem all_mk {l : PySem.W.OpenLaw} {w : World} {K : PySem.W.Frag} {h : Heap} {mg : Str → Option Value} {fa f1 f2 f3 f4 f5 f6 f7 f8 f9 f10 f11 f12 f13 f14 f15 f16 f17 f18 f19 f20 f21 f22 f23 f24 f25 f26 f27 f28 f29 f30 f31 f32 f33 f34 f35 f36 f37 f38 f39 f40 f41 f42 f43 f44 : Addr} (X : K.In h) (G : h.Ns mainGlobals mg) (hfa : mg "law" = some (.ref fa))
    {od1 an1 od2 an2 od3 an3 od4 an4 od5 an5 od6 an6 od7 an7 od8 an8 od9 an9 od10 an10 od11 an11 od12 an12 od13 an13 od14 an14 od15 an15 od16 an16 od17 an17 od18 an18 od19 an19 od20 an20 od21 an21 od22 an22 od23 an23 od24 an24 od25 an25 od26 an26 od27 an27 od28 an28 od29 an29 od30 an30 od31 an31 od32 an32 od33 an33 od34 an34 od35 an35 od36 an36 od37 an37 od38 an38 od39 an39 od40 an40 od41 an41 od42 an42 od43 an43 od44 an44 : Option Addr} {sl1 sl2 sl3 sl4 sl5 sl6 sl7 sl8 sl9 sl10 sl11 sl12 sl13 sl14 sl15 sl16 sl17 sl18 sl19 sl20 sl21 sl22 sl23 sl24 sl25 sl26 sl27 sl28 sl29 sl30 sl31 sl32 sl33 sl34 sl35 sl36 sl37 sl38 sl39 sl40 sl41 sl42 sl43 sl44 : Array (Option Value)} {oc1 kV1 dc1 pm1 cd1 ct1 oc2 kV2 dc2 pm2 cd2 ct2 oc3 kV3 dc3 pm3 cd3 ct3 oc4 kV4 dc4 pm4 cd4 ct4 oc5 kV5 dc5 pm5 cd5 ct5 oc6 kV6 dc6 pm6 cd6 ct6 oc7 kV7 dc7 pm7 cd7 ct7 oc8 kV8 dc8 pm8 cd8 ct8 oc9 kV9 dc9 pm9 cd9 ct9 oc10 kV10 dc10 pm10 cd10 ct10 oc11 kV11 dc11 pm11 cd11 ct11 oc12 kV12 dc12 pm12 cd12 ct12 oc13 kV13 dc13 pm13 cd13 ct13 oc14 kV14 dc14 pm14 cd14 ct14 oc15 kV15 dc15 pm15 cd15 ct15 oc16 kV16 dc16 pm16 cd16 ct16 oc17 kV17 dc17 pm17 cd17 ct17 oc18 kV18 dc18 pm18 cd18 ct18 oc19 kV19 dc19 pm19 cd19 ct19 oc20 kV20 dc20 pm20 cd20 ct20 oc21 kV21 dc21 pm21 cd21 ct21 oc22 kV22 dc22 pm22 cd22 ct22 oc23 kV23 dc23 pm23 cd23 ct23 oc24 kV24 dc24 pm24 cd24 ct24 oc25 kV25 dc25 pm25 cd25 ct25 oc26 kV26 dc26 pm26 cd26 ct26 oc27 kV27 dc27 pm27 cd27 ct27 oc28 kV28 dc28 pm28 cd28 ct28 oc29 kV29 dc29 pm29 cd29 ct29 oc30 kV30 dc30 pm30 cd30 ct30 oc31 kV31 dc31 pm31 cd31 ct31 oc32 kV32 dc32 pm32 cd32 ct32 oc33 kV33 dc33 pm33 cd33 ct33 oc34 kV34 dc34 pm34 cd34 ct34 oc35 kV35 dc35 pm35 cd35 ct35 oc36 kV36 dc36 pm36 cd36 ct36 oc37 kV37 dc37 pm37 cd37 ct37 oc38 kV38 dc38 pm38 cd38 ct38 oc39 kV39 dc39 pm39 cd39 ct39 oc40 kV40 dc40 pm40 cd40 ct40 oc41 kV41 dc41 pm41 cd41 ct41 oc42 kV42 dc42 pm42 cd42 ct42 oc43 kV43 dc43 pm43 cd43 ct43 oc44 kV44 dc44 pm44 cd44 ct44 : Value} {tk0 tk1 : Tok} {cc PP : Addr}
    (a1 : PySem.W.nsIn K mainGlobals "depth_changes" = some (some (.ref f1))) (l1 : K.lookup f1 = some ⟨oc1, od1, .func (PySem.W.fnOf "depth_changes" "depth_changes" (defArgs s_depth_changes) (defBody s_depth_changes) (defScope s_depth_changes) .none kV1 dc1 pm1 an1 cd1 ct1), sl1⟩) (c1 : PySem.W.codeIn K cd1 "depth_changes" = true) (k1 : PySem.W.keepIn K (.ref f1) = true)
    (a2 : PySem.W.nsIn K mainGlobals "find_blocks" = some (some (.ref f2))) (l2 : K.lookup f2 = some ⟨oc2, od2, .func (PySem.W.fnOf "find_blocks" "find_blocks" (defArgs s_find_blocks) (defBody s_find_blocks) (defScope s_find_blocks) .none kV2 dc2 pm2 an2 cd2 ct2), sl2⟩) (c2 : PySem.W.codeIn K cd2 "find_blocks" = true) (k2 : PySem.W.keepIn K (.ref f2) = true)
    (a3 : PySem.W.nsIn K mainGlobals "is_number" = some (some (.ref f3))) (l3 : K.lookup f3 = some ⟨oc3, od3, .func (PySem.W.fnOf "is_number" "is_number" (defArgs s_is_number) (defBody s_is_number) (defScope s_is_number) .none kV3 dc3 pm3 an3 cd3 ct3), sl3⟩) (c3 : PySem.W.codeIn K cd3 "is_number" = true) (k3 : PySem.W.keepIn K (.ref f3) = true)
    (a4 : PySem.W.nsIn K mainGlobals "is_position" = some (some (.ref f4))) (l4 : K.lookup f4 = some ⟨oc4, od4, .func (PySem.W.fnOf "is_position" "is_position" (defArgs s_is_position) (defBody s_is_position) (defScope s_is_position) .none kV4 dc4 pm4 an4 cd4 ct4), sl4⟩) (c4 : PySem.W.codeIn K cd4 "is_position" = true) (k4 : PySem.W.keepIn K (.ref f4) = true)
    (a5 : PySem.W.nsIn K mainGlobals "is_tuple_of" = some (some (.ref f5))) (l5 : K.lookup f5 = some ⟨oc5, od5, .func (PySem.W.fnOf "is_tuple_of" "is_tuple_of" (defArgs s_is_tuple_of) (defBody s_is_tuple_of) (defScope s_is_tuple_of) .none kV5 dc5 pm5 an5 cd5 ct5), sl5⟩) (c5 : PySem.W.codeIn K cd5 "is_tuple_of" = true) (k5 : PySem.W.keepIn K (.ref f5) = true)
    (a6 : PySem.W.nsIn K mainGlobals "is_interval" = some (some (.ref f6))) (l6 : K.lookup f6 = some ⟨oc6, od6, .func (PySem.W.fnOf "is_interval" "is_interval" (defArgs s_is_interval) (defBody s_is_interval) (defScope s_is_interval) .none kV6 dc6 pm6 an6 cd6 ct6), sl6⟩) (c6 : PySem.W.codeIn K cd6 "is_interval" = true) (k6 : PySem.W.keepIn K (.ref f6) = true)
    (a7 : PySem.W.nsIn K mainGlobals "is_ascending" = some (some (.ref f7))) (l7 : K.lookup f7 = some ⟨oc7, od7, .func (PySem.W.fnOf "is_ascending" "is_ascending" (defArgs s_is_ascending) (defBody s_is_ascending) (defScope s_is_ascending) .none kV7 dc7 pm7 an7 cd7 ct7), sl7⟩) (c7 : PySem.W.codeIn K cd7 "is_ascending" = true) (k7 : PySem.W.keepIn K (.ref f7) = true)
    (a8 : PySem.W.nsIn K mainGlobals "has_position" = some (some (.ref f8))) (l8 : K.lookup f8 = some ⟨oc8, od8, .func (PySem.W.fnOf "has_position" "has_position" (defArgs s_has_position) (defBody s_has_position) (defScope s_has_position) .none kV8 dc8 pm8 an8 cd8 ct8), sl8⟩) (c8 : PySem.W.codeIn K cd8 "has_position" = true) (k8 : PySem.W.keepIn K (.ref f8) = true)
    (a9 : PySem.W.nsIn K mainGlobals "contains" = some (some (.ref f9))) (l9 : K.lookup f9 = some ⟨oc9, od9, .func (PySem.W.fnOf "contains" "contains" (defArgs s_contains) (defBody s_contains) (defScope s_contains) .none kV9 dc9 pm9 an9 cd9 ct9), sl9⟩) (c9 : PySem.W.codeIn K cd9 "contains" = true) (k9 : PySem.W.keepIn K (.ref f9) = true)
    (a10 : PySem.W.nsIn K mainGlobals "is_demand" = some (some (.ref f10))) (l10 : K.lookup f10 = some ⟨oc10, od10, .func (PySem.W.fnOf "is_demand" "is_demand" (defArgs s_is_demand) (defBody s_is_demand) (defScope s_is_demand) .none kV10 dc10 pm10 an10 cd10 ct10), sl10⟩) (c10 : PySem.W.codeIn K cd10 "is_demand" = true) (k10 : PySem.W.keepIn K (.ref f10) = true)
    (a11 : PySem.W.nsIn K mainGlobals "serves" = some (some (.ref f11))) (l11 : K.lookup f11 = some ⟨oc11, od11, .func (PySem.W.fnOf "serves" "serves" (defArgs s_serves) (defBody s_serves) (defScope s_serves) .none kV11 dc11 pm11 an11 cd11 ct11), sl11⟩) (c11 : PySem.W.codeIn K cd11 "serves" = true) (k11 : PySem.W.keepIn K (.ref f11) = true)
    (a12 : PySem.W.nsIn K mainGlobals "conflict" = some (some (.ref f12))) (l12 : K.lookup f12 = some ⟨oc12, od12, .func (PySem.W.fnOf "conflict" "conflict" (defArgs s_conflict) (defBody s_conflict) (defScope s_conflict) .none kV12 dc12 pm12 an12 cd12 ct12), sl12⟩) (c12 : PySem.W.codeIn K cd12 "conflict" = true) (k12 : PySem.W.keepIn K (.ref f12) = true)
    (a13 : PySem.W.nsIn K mainGlobals "is_independent" = some (some (.ref f13))) (l13 : K.lookup f13 = some ⟨oc13, od13, .func (PySem.W.fnOf "is_independent" "is_independent" (defArgs s_is_independent) (defBody s_is_independent) (defScope s_is_independent) .none kV13 dc13 pm13 an13 cd13 ct13), sl13⟩) (c13 : PySem.W.codeIn K cd13 "is_independent" = true) (k13 : PySem.W.keepIn K (.ref f13) = true)
    (a14 : PySem.W.nsIn K mainGlobals "demands_at_blocks" = some (some (.ref f14))) (l14 : K.lookup f14 = some ⟨oc14, od14, .func (PySem.W.fnOf "demands_at_blocks" "demands_at_blocks" (defArgs s_demands_at_blocks) (defBody s_demands_at_blocks) (defScope s_demands_at_blocks) .none kV14 dc14 pm14 an14 cd14 ct14), sl14⟩) (c14 : PySem.W.codeIn K cd14 "demands_at_blocks" = true) (k14 : PySem.W.keepIn K (.ref f14) = true)
    (a15 : PySem.W.nsIn K mainGlobals "is_open" = some (some (.ref f15))) (l15 : K.lookup f15 = some ⟨oc15, od15, .func (PySem.W.fnOf "is_open" "is_open" (defArgs s_is_open) (defBody s_is_open) (defScope s_is_open) .none kV15 dc15 pm15 an15 cd15 ct15), sl15⟩) (c15 : PySem.W.codeIn K cd15 "is_open" = true) (k15 : PySem.W.keepIn K (.ref f15) = true)
    (a16 : PySem.W.nsIn K mainGlobals "open_demands" = some (some (.ref f16))) (l16 : K.lookup f16 = some ⟨oc16, od16, .func (PySem.W.fnOf "open_demands" "open_demands" (defArgs s_open_demands) (defBody s_open_demands) (defScope s_open_demands) .none kV16 dc16 pm16 an16 cd16 ct16), sl16⟩) (c16 : PySem.W.codeIn K cd16 "open_demands" = true) (k16 : PySem.W.keepIn K (.ref f16) = true)
    (a17 : PySem.W.nsIn K mainGlobals "shadow_target" = some (some (.ref f17))) (l17 : K.lookup f17 = some ⟨oc17, od17, .func (PySem.W.fnOf "shadow_target" "shadow_target" (defArgs s_shadow_target) (defBody s_shadow_target) (defScope s_shadow_target) .none kV17 dc17 pm17 an17 cd17 ct17), sl17⟩) (c17 : PySem.W.codeIn K cd17 "shadow_target" = true) (k17 : PySem.W.keepIn K (.ref f17) = true)
    (a18 : PySem.W.nsIn K mainGlobals "pieces_inside" = some (some (.ref f18))) (l18 : K.lookup f18 = some ⟨oc18, od18, .func (PySem.W.fnOf "pieces_inside" "pieces_inside" (defArgs s_pieces_inside) (defBody s_pieces_inside) (defScope s_pieces_inside) .none kV18 dc18 pm18 an18 cd18 ct18), sl18⟩) (c18 : PySem.W.codeIn K cd18 "pieces_inside" = true) (k18 : PySem.W.keepIn K (.ref f18) = true)
    (a19 : PySem.W.nsIn K mainGlobals "first_gap" = some (some (.ref f19))) (l19 : K.lookup f19 = some ⟨oc19, od19, .func (PySem.W.fnOf "first_gap" "first_gap" (defArgs s_first_gap) (defBody s_first_gap) (defScope s_first_gap) .none kV19 dc19 pm19 an19 cd19 ct19), sl19⟩) (c19 : PySem.W.codeIn K cd19 "first_gap" = true) (k19 : PySem.W.keepIn K (.ref f19) = true)
    (a20 : PySem.W.nsIn K mainGlobals "find_missing" = some (some (.ref f20))) (l20 : K.lookup f20 = some ⟨oc20, od20, .func (PySem.W.fnOf "find_missing" "find_missing" (defArgs s_find_missing) (defBody s_find_missing) (defScope s_find_missing) .none kV20 dc20 pm20 an20 cd20 ct20), sl20⟩) (c20 : PySem.W.codeIn K cd20 "find_missing" = true) (k20 : PySem.W.keepIn K (.ref f20) = true)
    (a21 : PySem.W.nsIn K mainGlobals "require_few_blocks" = some (some (.ref f21))) (l21 : K.lookup f21 = some ⟨oc21, od21, .func (PySem.W.fnOf "require_few_blocks" "require_few_blocks" (defArgs s_require_few_blocks) (defBody s_require_few_blocks) (defScope s_require_few_blocks) .none kV21 dc21 pm21 an21 cd21 ct21), sl21⟩) (c21 : PySem.W.codeIn K cd21 "require_few_blocks" = true) (k21 : PySem.W.keepIn K (.ref f21) = true)
    (a22 : PySem.W.nsIn K mainGlobals "decisive_demands" = some (some (.ref f22))) (l22 : K.lookup f22 = some ⟨oc22, od22, .func (PySem.W.fnOf "decisive_demands" "decisive_demands" (defArgs s_decisive_demands) (defBody s_decisive_demands) (defScope s_decisive_demands) .none kV22 dc22 pm22 an22 cd22 ct22), sl22⟩) (c22 : PySem.W.codeIn K cd22 "decisive_demands" = true) (k22 : PySem.W.keepIn K (.ref f22) = true)
    (a23 : PySem.W.nsIn K mainGlobals "largest_independent" = some (some (.ref f23))) (l23 : K.lookup f23 = some ⟨oc23, od23, .func (PySem.W.fnOf "largest_independent" "largest_independent" (defArgs s_largest_independent) (defBody s_largest_independent) (defScope s_largest_independent) .none kV23 dc23 pm23 an23 cd23 ct23), sl23⟩) (c23 : PySem.W.codeIn K cd23 "largest_independent" = true) (k23 : PySem.W.keepIn K (.ref f23) = true)
    (a24 : PySem.W.nsIn K mainGlobals "unserved_demands" = some (some (.ref f24))) (l24 : K.lookup f24 = some ⟨oc24, od24, .func (PySem.W.fnOf "unserved_demands" "unserved_demands" (defArgs s_unserved_demands) (defBody s_unserved_demands) (defScope s_unserved_demands) .none kV24 dc24 pm24 an24 cd24 ct24), sl24⟩) (c24 : PySem.W.codeIn K cd24 "unserved_demands" = true) (k24 : PySem.W.keepIn K (.ref f24) = true)
    (a25 : PySem.W.nsIn K mainGlobals "helpful_piece" = some (some (.ref f25))) (l25 : K.lookup f25 = some ⟨oc25, od25, .func (PySem.W.fnOf "helpful_piece" "helpful_piece" (defArgs s_helpful_piece) (defBody s_helpful_piece) (defScope s_helpful_piece) .none kV25 dc25 pm25 an25 cd25 ct25), sl25⟩) (c25 : PySem.W.codeIn K cd25 "helpful_piece" = true) (k25 : PySem.W.keepIn K (.ref f25) = true)
    (a26 : PySem.W.nsIn K mainGlobals "smallest_solution" = some (some (.ref f26))) (l26 : K.lookup f26 = some ⟨oc26, od26, .func (PySem.W.fnOf "smallest_solution" "smallest_solution" (defArgs s_smallest_solution) (defBody s_smallest_solution) (defScope s_smallest_solution) .none kV26 dc26 pm26 an26 cd26 ct26), sl26⟩) (c26 : PySem.W.codeIn K cd26 "smallest_solution" = true) (k26 : PySem.W.keepIn K (.ref f26) = true)
    (a27 : PySem.W.nsIn K mainGlobals "solve" = some (some (.ref f27))) (l27 : K.lookup f27 = some ⟨oc27, od27, .func (PySem.W.fnOf "solve" "solve" (defArgs s_solve) (defBody s_solve) (defScope s_solve) .none kV27 dc27 pm27 an27 cd27 ct27), sl27⟩) (c27 : PySem.W.codeIn K cd27 "solve" = true) (k27 : PySem.W.keepIn K (.ref f27) = true)
    (a28 : PySem.W.nsIn K mainGlobals "are_witnesses" = some (some (.ref f28))) (l28 : K.lookup f28 = some ⟨oc28, od28, .func (PySem.W.fnOf "are_witnesses" "are_witnesses" (defArgs s_are_witnesses) (defBody s_are_witnesses) (defScope s_are_witnesses) .none kV28 dc28 pm28 an28 cd28 ct28), sl28⟩) (c28 : PySem.W.codeIn K cd28 "are_witnesses" = true) (k28 : PySem.W.keepIn K (.ref f28) = true)
    (a29 : PySem.W.nsIn K mainGlobals "solution_holds" = some (some (.ref f29))) (l29 : K.lookup f29 = some ⟨oc29, od29, .func (PySem.W.fnOf "solution_holds" "solution_holds" (defArgs s_solution_holds) (defBody s_solution_holds) (defScope s_solution_holds) .none kV29 dc29 pm29 an29 cd29 ct29), sl29⟩) (c29 : PySem.W.codeIn K cd29 "solution_holds" = true) (k29 : PySem.W.keepIn K (.ref f29) = true)
    (a30 : PySem.W.nsIn K mainGlobals "_law_draws" = some (some (.ref f30))) (l30 : K.lookup f30 = some ⟨oc30, od30, .func (PySem.W.fnOf "_law_draws" "_law_draws" (defArgs s_law_draws) (defBody s_law_draws) (defScope s_law_draws) .none kV30 dc30 pm30 an30 cd30 ct30), sl30⟩) (c30 : PySem.W.codeIn K cd30 "_law_draws" = true) (k30 : PySem.W.keepIn K (.ref f30) = true)
    (a31 : PySem.W.nsIn K mainGlobals "_law_next" = some (some (.ref f31))) (l31 : K.lookup f31 = some ⟨oc31, od31, .func (PySem.W.fnOf "_law_next" "_law_next" (defArgs s_law_next) (defBody s_law_next) (defScope s_law_next) .none kV31 dc31 pm31 an31 cd31 ct31), sl31⟩) (c31 : PySem.W.codeIn K cd31 "_law_next" = true) (k31 : PySem.W.keepIn K (.ref f31) = true)
    (a32 : PySem.W.nsIn K mainGlobals "_law_one" = some (some (.ref f32))) (l32 : K.lookup f32 = some ⟨oc32, od32, .func (PySem.W.fnOf "_law_one" "_law_one" (defArgs s_law_one) (defBody s_law_one) (defScope s_law_one) .none kV32 dc32 pm32 an32 cd32 ct32), sl32⟩) (c32 : PySem.W.codeIn K cd32 "_law_one" = true) (k32 : PySem.W.keepIn K (.ref f32) = true)
    (a33 : PySem.W.nsIn K mainGlobals "_law_spans" = some (some (.ref f33))) (l33 : K.lookup f33 = some ⟨oc33, od33, .func (PySem.W.fnOf "_law_spans" "_law_spans" (defArgs s_law_spans) (defBody s_law_spans) (defScope s_law_spans) .none kV33 dc33 pm33 an33 cd33 ct33), sl33⟩) (c33 : PySem.W.codeIn K cd33 "_law_spans" = true) (k33 : PySem.W.keepIn K (.ref f33) = true)
    (a34 : PySem.W.nsIn K mainGlobals "_law_targets" = some (some (.ref f34))) (l34 : K.lookup f34 = some ⟨oc34, od34, .func (PySem.W.fnOf "_law_targets" "_law_targets" (defArgs s_law_targets) (defBody s_law_targets) (defScope s_law_targets) .none kV34 dc34 pm34 an34 cd34 ct34), sl34⟩) (c34 : PySem.W.codeIn K cd34 "_law_targets" = true) (k34 : PySem.W.keepIn K (.ref f34) = true)
    (a35 : PySem.W.nsIn K mainGlobals "_law_covers" = some (some (.ref f35))) (l35 : K.lookup f35 = some ⟨oc35, od35, .func (PySem.W.fnOf "_law_covers" "_law_covers" (defArgs s_law_covers) (defBody s_law_covers) (defScope s_law_covers) .none kV35 dc35 pm35 an35 cd35 ct35), sl35⟩) (c35 : PySem.W.codeIn K cd35 "_law_covers" = true) (k35 : PySem.W.keepIn K (.ref f35) = true)
    (a36 : PySem.W.nsIn K mainGlobals "_law_is_interval" = some (some (.ref f36))) (l36 : K.lookup f36 = some ⟨oc36, od36, .func (PySem.W.fnOf "_law_is_interval" "_law_is_interval" (defArgs s_law_is_interval) (defBody s_law_is_interval) (defScope s_law_is_interval) .none kV36 dc36 pm36 an36 cd36 ct36), sl36⟩) (c36 : PySem.W.codeIn K cd36 "_law_is_interval" = true) (k36 : PySem.W.keepIn K (.ref f36) = true)
    (a37 : PySem.W.nsIn K mainGlobals "_law_is_demand" = some (some (.ref f37))) (l37 : K.lookup f37 = some ⟨oc37, od37, .func (PySem.W.fnOf "_law_is_demand" "_law_is_demand" (defArgs s_law_is_demand) (defBody s_law_is_demand) (defScope s_law_is_demand) .none kV37 dc37 pm37 an37 cd37 ct37), sl37⟩) (c37 : PySem.W.codeIn K cd37 "_law_is_demand" = true) (k37 : PySem.W.keepIn K (.ref f37) = true)
    (a38 : PySem.W.nsIn K mainGlobals "_law_rising" = some (some (.ref f38))) (l38 : K.lookup f38 = some ⟨oc38, od38, .func (PySem.W.fnOf "_law_rising" "_law_rising" (defArgs s_law_rising) (defBody s_law_rising) (defScope s_law_rising) .none kV38 dc38 pm38 an38 cd38 ct38), sl38⟩) (c38 : PySem.W.codeIn K cd38 "_law_rising" = true) (k38 : PySem.W.keepIn K (.ref f38) = true)
    (a39 : PySem.W.nsIn K mainGlobals "_law_served" = some (some (.ref f39))) (l39 : K.lookup f39 = some ⟨oc39, od39, .func (PySem.W.fnOf "_law_served" "_law_served" (defArgs s_law_served) (defBody s_law_served) (defScope s_law_served) .none kV39 dc39 pm39 an39 cd39 ct39), sl39⟩) (c39 : PySem.W.codeIn K cd39 "_law_served" = true) (k39 : PySem.W.keepIn K (.ref f39) = true)
    (a40 : PySem.W.nsIn K mainGlobals "_law_clash" = some (some (.ref f40))) (l40 : K.lookup f40 = some ⟨oc40, od40, .func (PySem.W.fnOf "_law_clash" "_law_clash" (defArgs s_law_clash) (defBody s_law_clash) (defScope s_law_clash) .none kV40 dc40 pm40 an40 cd40 ct40), sl40⟩) (c40 : PySem.W.codeIn K cd40 "_law_clash" = true) (k40 : PySem.W.keepIn K (.ref f40) = true)
    (a41 : PySem.W.nsIn K mainGlobals "_law_are_witnesses" = some (some (.ref f41))) (l41 : K.lookup f41 = some ⟨oc41, od41, .func (PySem.W.fnOf "_law_are_witnesses" "_law_are_witnesses" (defArgs s_law_are_witnesses) (defBody s_law_are_witnesses) (defScope s_law_are_witnesses) .none kV41 dc41 pm41 an41 cd41 ct41), sl41⟩) (c41 : PySem.W.codeIn K cd41 "_law_are_witnesses" = true) (k41 : PySem.W.keepIn K (.ref f41) = true)
    (a42 : PySem.W.nsIn K mainGlobals "_law_solved" = some (some (.ref f42))) (l42 : K.lookup f42 = some ⟨oc42, od42, .func (PySem.W.fnOf "_law_solved" "_law_solved" (defArgs s_law_solved) (defBody s_law_solved) (defScope s_law_solved) .none kV42 dc42 pm42 an42 cd42 ct42), sl42⟩) (c42 : PySem.W.codeIn K cd42 "_law_solved" = true) (k42 : PySem.W.keepIn K (.ref f42) = true)
    (a43 : PySem.W.nsIn K mainGlobals "_law_bent" = some (some (.ref f43))) (l43 : K.lookup f43 = some ⟨oc43, od43, .func (PySem.W.fnOf "_law_bent" "_law_bent" (defArgs s_law_bent) (defBody s_law_bent) (defScope s_law_bent) .none kV43 dc43 pm43 an43 cd43 ct43), sl43⟩) (c43 : PySem.W.codeIn K cd43 "_law_bent" = true) (k43 : PySem.W.keepIn K (.ref f43) = true)
    (a44 : PySem.W.nsIn K mainGlobals "law" = some (some (.ref f44))) (l44 : K.lookup f44 = some ⟨oc44, od44, .func (PySem.W.fnOf "law" "law" (defArgs s_law) (defBody s_law) (defScope s_law) .none kV44 dc44 pm44 an44 cd44 ct44), sl44⟩) (c44 : PySem.W.codeIn K cd44 "law" = true) (k44 : PySem.W.keepIn K (.ref f44) = true)
    (y0 : PySem.W.nsIn K mainGlobals "LAST_POSITION" = some (some (.int 1000000000000 tk0))) (y1 : PySem.W.nsIn K mainGlobals "MAX_BLOCKS" = some (some (.int 8 tk1))) (z0 : PySem.W.nsIn K mainGlobals "abs" = some none) (z1 : PySem.W.nsIn K mainGlobals "all" = some none) (z2 : PySem.W.nsIn K mainGlobals "any" = some none) (z3 : PySem.W.nsIn K mainGlobals "bool" = some none) (z4 : PySem.W.nsIn K mainGlobals "enumerate" = some none) (z5 : PySem.W.nsIn K mainGlobals "int" = some none) (z6 : PySem.W.nsIn K mainGlobals "isinstance" = some none) (z7 : PySem.W.nsIn K mainGlobals "len" = some none) (z8 : PySem.W.nsIn K mainGlobals "list" = some none) (z9 : PySem.W.nsIn K mainGlobals "max" = some none) (z10 : PySem.W.nsIn K mainGlobals "min" = some none) (z11 : PySem.W.nsIn K mainGlobals "piece" = some none) (z12 : PySem.W.nsIn K mainGlobals "range" = some none) (z13 : PySem.W.nsIn K mainGlobals "repr" = some none) (z14 : PySem.W.nsIn K mainGlobals "set" = some none) (z15 : PySem.W.nsIn K mainGlobals "sorted" = some none) (z16 : PySem.W.nsIn K mainGlobals "tuple" = some none) (z17 : PySem.W.nsIn K mainGlobals "zip" = some none) (hcc : cd25 = .ref cc) :
    ∃ fd : FuncData, (∀ (s : Shared) (v : Value), BindsTo s fd ⟨[v], []⟩ [("_law_script", v)]) ∧ ∀ base : Heap, K.In base → base.Ns mainGlobals mg → (∃ mm, base.Ns sysModules mm) → LamX.TabB base mg cc PP → FnG l.prog w K mg base 206 fa fd ["_law_script"] (sp_law K PP) := by
  have e := hfa.symm.trans (PySem.W.mg_of X G a44)
  cases e
  have F1 := fun_mk (st := s_depth_changes) l1 c1 k1
  have b1 := F1.binds (ps := ["intervals"]) fun _ _ _ _ _ _ us hl => match us, hl with | [_], _ => rfl
  have F2 := fun_mk (st := s_find_blocks) l2 c2 k2
  have b2 := F2.binds (ps := ["intervals"]) fun _ _ _ _ _ _ us hl => match us, hl with | [_], _ => rfl
  have F3 := fun_mk (st := s_is_number) l3 c3 k3
  have b3 := F3.binds (ps := ["value"]) fun _ _ _ _ _ _ us hl => match us, hl with | [_], _ => rfl
  have F4 := fun_mk (st := s_is_position) l4 c4 k4
  have b4 := F4.binds (ps := ["value"]) fun _ _ _ _ _ _ us hl => match us, hl with | [_], _ => rfl
  have F5 := fun_mk (st := s_is_tuple_of) l5 c5 k5
  have b5 := F5.binds (ps := ["value", "length"]) fun _ _ _ _ _ _ us hl => match us, hl with | [_, _], _ => rfl
  have F6 := fun_mk (st := s_is_interval) l6 c6 k6
  have b6 := F6.binds (ps := ["value"]) fun _ _ _ _ _ _ us hl => match us, hl with | [_], _ => rfl
  have F7 := fun_mk (st := s_is_ascending) l7 c7 k7
  have b7 := F7.binds (ps := ["value", "is_item"]) fun _ _ _ _ _ _ us hl => match us, hl with | [_, _], _ => rfl
  have F8 := fun_mk (st := s_has_position) l8 c8 k8
  have b8 := F8.binds (ps := ["interval", "position"]) fun _ _ _ _ _ _ us hl => match us, hl with | [_, _], _ => rfl
  have F9 := fun_mk (st := s_contains) l9 c9 k9
  have b9 := F9.binds (ps := ["outer", "inner"]) fun _ _ _ _ _ _ us hl => match us, hl with | [_, _], _ => rfl
  have F10 := fun_mk (st := s_is_demand) l10 c10 k10
  have b10 := F10.binds (ps := ["value"]) fun _ _ _ _ _ _ us hl => match us, hl with | [_], _ => rfl
  have F11 := fun_mk (st := s_serves) l11 c11 k11
  have b11 := F11.binds (ps := ["piece", "demand"]) fun _ _ _ _ _ _ us hl => match us, hl with | [_, _], _ => rfl
  have F12 := fun_mk (st := s_conflict) l12 c12 k12
  have b12 := F12.binds (ps := ["first", "second"]) fun _ _ _ _ _ _ us hl => match us, hl with | [_, _], _ => rfl
  have F13 := fun_mk (st := s_is_independent) l13 c13 k13
  have b13 := F13.binds (ps := ["value"]) fun _ _ _ _ _ _ us hl => match us, hl with | [_], _ => rfl
  have F14 := fun_mk (st := s_demands_at_blocks) l14 c14 k14
  have b14 := F14.binds (ps := ["targets", "blocks"]) fun _ _ _ _ _ _ us hl => match us, hl with | [_, _], _ => rfl
  have F15 := fun_mk (st := s_is_open) l15 c15 k15
  have b15 := F15.binds (ps := ["pieces", "demand"]) fun _ _ _ _ _ _ us hl => match us, hl with | [_, _], _ => rfl
  have F16 := fun_mk (st := s_open_demands) l16 c16 k16
  have b16 := F16.binds (ps := ["targets", "pieces"]) fun _ _ _ _ _ _ us hl => match us, hl with | [_, _], _ => rfl
  have F17 := fun_mk (st := s_shadow_target) l17 c17 k17
  have b17 := F17.binds (ps := ["targets", "demand"]) fun _ _ _ _ _ _ us hl => match us, hl with | [_, _], _ => rfl
  have F18 := fun_mk (st := s_pieces_inside) l18 c18 k18
  have b18 := F18.binds (ps := ["pieces", "target"]) fun _ _ _ _ _ _ us hl => match us, hl with | [_, _], _ => rfl
  have F19 := fun_mk (st := s_first_gap) l19 c19 k19
  have b19 := F19.binds (ps := ["pieces", "target"]) fun _ _ _ _ _ _ us hl => match us, hl with | [_, _], _ => rfl
  have F20 := fun_mk (st := s_find_missing) l20 c20 k20
  have b20 := F20.binds (ps := ["targets", "pieces"]) fun _ _ _ _ _ _ us hl => match us, hl with | [_, _], _ => rfl
  have F21 := fun_mk (st := s_require_few_blocks) l21 c21 k21
  have b21 := F21.binds (ps := ["intervals"]) fun _ _ _ _ _ _ us hl => match us, hl with | [_], _ => rfl
  have F22 := fun_mk (st := s_decisive_demands) l22 c22 k22
  have b22 := F22.binds (ps := ["targets", "pieces"]) fun _ _ _ _ _ _ us hl => match us, hl with | [_, _], _ => rfl
  have F23 := fun_mk (st := s_largest_independent) l23 c23 k23
  have b23 := F23.binds (ps := ["demands"]) fun _ _ _ _ _ _ us hl => match us, hl with | [_], _ => rfl
  have F24 := fun_mk (st := s_unserved_demands) l24 c24 k24
  have b24 := F24.binds (ps := ["demands", "piece"]) fun _ _ _ _ _ _ us hl => match us, hl with | [_, _], _ => rfl
  have F25 := fun_mk (st := s_helpful_piece) l25 c25 k25
  have b25 := F25.binds (ps := ["demands", "blocks"]) fun _ _ _ _ _ _ us hl => match us, hl with | [_, _], _ => rfl
  have F26 := fun_mk (st := s_smallest_solution) l26 c26 k26
  have b26 := F26.binds (ps := ["targets", "pieces"]) fun _ _ _ _ _ _ us hl => match us, hl with | [_, _], _ => rfl
  have F27 := fun_mk (st := s_solve) l27 c27 k27
  have b27 := F27.binds (ps := ["targets", "pieces"]) fun _ _ _ _ _ _ us hl => match us, hl with | [_, _], _ => rfl
  have F28 := fun_mk (st := s_are_witnesses) l28 c28 k28
  have b28 := F28.binds (ps := ["targets", "pieces", "value"]) fun _ _ _ _ _ _ us hl => match us, hl with | [_, _, _], _ => rfl
  have F29 := fun_mk (st := s_solution_holds) l29 c29 k29
  have b29 := F29.binds (ps := ["targets", "pieces", "value"]) fun _ _ _ _ _ _ us hl => match us, hl with | [_, _, _], _ => rfl
  have F30 := fun_mk (st := s_law_draws) l30 c30 k30
  have b30 := F30.binds (ps := ["_law_script"]) fun _ _ _ _ _ _ us hl => match us, hl with | [_], _ => rfl
  have F31 := fun_mk (st := s_law_next) l31 c31 k31
  have b31 := F31.binds (ps := ["_law_state", "_law_many"]) fun _ _ _ _ _ _ us hl => match us, hl with | [_, _], _ => rfl
  have F32 := fun_mk (st := s_law_one) l32 c32 k32
  have b32 := F32.binds (ps := ["_law_state", "_law_items"]) fun _ _ _ _ _ _ us hl => match us, hl with | [_, _], _ => rfl
  have F33 := fun_mk (st := s_law_spans) l33 c33 k33
  have b33 := F33.binds (ps := ["_law_state", "_law_width", "_law_many"]) fun _ _ _ _ _ _ us hl => match us, hl with | [_, _, _], _ => rfl
  have F34 := fun_mk (st := s_law_targets) l34 c34 k34
  have b34 := F34.binds (ps := ["_law_state", "_law_width", "_law_most"]) fun _ _ _ _ _ _ us hl => match us, hl with | [_, _, _], _ => rfl
  have F35 := fun_mk (st := s_law_covers) l35 c35 k35
  have b35 := F35.binds (ps := ["_law_pieces", "_law_target"]) fun _ _ _ _ _ _ us hl => match us, hl with | [_, _], _ => rfl
  have F36 := fun_mk (st := s_law_is_interval) l36 c36 k36
  have b36 := F36.binds (ps := ["_law_value"]) fun _ _ _ _ _ _ us hl => match us, hl with | [_], _ => rfl
  have F37 := fun_mk (st := s_law_is_demand) l37 c37 k37
  have b37 := F37.binds (ps := ["_law_value"]) fun _ _ _ _ _ _ us hl => match us, hl with | [_], _ => rfl
  have F38 := fun_mk (st := s_law_rising) l38 c38 k38
  have b38 := F38.binds (ps := ["_law_values"]) fun _ _ _ _ _ _ us hl => match us, hl with | [_], _ => rfl
  have F39 := fun_mk (st := s_law_served) l39 c39 k39
  have b39 := F39.binds (ps := ["_law_piece", "_law_demand"]) fun _ _ _ _ _ _ us hl => match us, hl with | [_, _], _ => rfl
  have F40 := fun_mk (st := s_law_clash) l40 c40 k40
  have b40 := F40.binds (ps := ["_law_one_here", "_law_other"]) fun _ _ _ _ _ _ us hl => match us, hl with | [_, _], _ => rfl
  have F41 := fun_mk (st := s_law_are_witnesses) l41 c41 k41
  have b41 := F41.binds (ps := ["_law_targets_here", "_law_pieces", "_law_value"]) fun _ _ _ _ _ _ us hl => match us, hl with | [_, _, _], _ => rfl
  have F42 := fun_mk (st := s_law_solved) l42 c42 k42
  have b42 := F42.binds (ps := ["_law_targets_here", "_law_pieces", "_law_value"]) fun _ _ _ _ _ _ us hl => match us, hl with | [_, _, _], _ => rfl
  have F43 := fun_mk (st := s_law_bent) l43 c43 k43
  have b43 := F43.binds (ps := ["_law_state", "_law_value"]) fun _ _ _ _ _ _ us hl => match us, hl with | [_, _], _ => rfl
  have F44 := fun_mk (st := s_law) l44 c44 k44
  have b44 := F44.binds (ps := ["_law_script"]) fun _ _ _ _ _ _ us hl => match us, hl with | [_], _ => rfl
  have T : Tx K mg _ _ _ _ _ _ _ _ _ _ _ _ _ _ _ _ _ _ _ _ _ _ _ _ _ _ _ _ _ _ _ _ _ _ _ _ _ _ _ _ _ _ _ _  _ _ _ _ _ _ _ _ _ _ _ _ _ _ _ _ _ _ _ _ _ _ _ _ _ _ _ _ _ _ _ _ _ _ _ _ _ _ _ _ _ _ _ _ tk0 tk1 := ⟨F1, b1, PySem.W.mg_of X G a1, F2, b2, PySem.W.mg_of X G a2, F3, b3, PySem.W.mg_of X G a3, F4, b4, PySem.W.mg_of X G a4, F5, b5, PySem.W.mg_of X G a5, F6, b6, PySem.W.mg_of X G a6, F7, b7, PySem.W.mg_of X G a7, F8, b8, PySem.W.mg_of X G a8, F9, b9, PySem.W.mg_of X G a9, F10, b10, PySem.W.mg_of X G a10, F11, b11, PySem.W.mg_of X G a11, F12, b12, PySem.W.mg_of X G a12, F13, b13, PySem.W.mg_of X G a13, F14, b14, PySem.W.mg_of X G a14, F15, b15, PySem.W.mg_of X G a15, F16, b16, PySem.W.mg_of X G a16, F17, b17, PySem.W.mg_of X G a17, F18, b18, PySem.W.mg_of X G a18, F19, b19, PySem.W.mg_of X G a19, F20, b20, PySem.W.mg_of X G a20, F21, b21, PySem.W.mg_of X G a21, F22, b22, PySem.W.mg_of X G a22, F23, b23, PySem.W.mg_of X G a23, F24, b24, PySem.W.mg_of X G a24, F25, b25, PySem.W.mg_of X G a25, F26, b26, PySem.W.mg_of X G a26, F27, b27, PySem.W.mg_of X G a27, F28, b28, PySem.W.mg_of X G a28, F29, b29, PySem.W.mg_of X G a29, F30, b30, PySem.W.mg_of X G a30, F31, b31, PySem.W.mg_of X G a31, F32, b32, PySem.W.mg_of X G a32, F33, b33, PySem.W.mg_of X G a33, F34, b34, PySem.W.mg_of X G a34, F35, b35, PySem.W.mg_of X G a35, F36, b36, PySem.W.mg_of X G a36, F37, b37, PySem.W.mg_of X G a37, F38, b38, PySem.W.mg_of X G a38, F39, b39, PySem.W.mg_of X G a39, F40, b40, PySem.W.mg_of X G a40, F41, b41, PySem.W.mg_of X G a41, F42, b42, PySem.W.mg_of X G a42, F43, b43, PySem.W.mg_of X G a43, F44, b44, PySem.W.mg_of X G a44, PySem.W.mg_of X G y0, PySem.W.mg_of X G y1, PySem.W.mg_none_of X G z0, PySem.W.mg_none_of X G z1, PySem.W.mg_none_of X G z2, PySem.W.mg_none_of X G z3, PySem.W.mg_none_of X G z4, PySem.W.mg_none_of X G z5, PySem.W.mg_none_of X G z6, PySem.W.mg_none_of X G z7, PySem.W.mg_none_of X G z8, PySem.W.mg_none_of X G z9, PySem.W.mg_none_of X G z10, PySem.W.mg_none_of X G z11, PySem.W.mg_none_of X G z12, PySem.W.mg_none_of X G z13, PySem.W.mg_none_of X G z14, PySem.W.mg_none_of X G z15, PySem.W.mg_none_of X G z16, PySem.W.mg_none_of X G z17⟩
  exact ⟨_, fun s v => .of_eq rfl, fun base _ _ hM hB => ok_law T hM ⟨cc, hB, hcc⟩⟩
end L9
open PySem PySem.W PyProof.Rows
set_option maxHeartbeats 0 in
theorem PySem.Challenge.cw_fewspans_k25_solution_holds_judged_holds : PySem.Challenge.rw_fewspans_k25_solution_holds_judged.Holds := by
  w_on; o_law; k_head; (case hw => w_witness2)
  k_fill
  refine L9.quiet_walkT (l := PySem.Challenge.rw_fewspans_k25_solution_holds_judged) (n := 63) (k := 206) (x := "_law_script") (by decide +kernel) rfl (by decide) rfl ⟨rfl, by decide, by decide⟩ (fun w h Y => PySem.W.km_in_of Y) ?F
  case F =>
    intro w mg fa h KX G hmg tabOf
    refine' L9.endT tabOf (y := "helpful_piece") ?ta ?tl ?te ?tc ?tv (by decide +kernel) ?noT (L9.all_mk KX G hmg ?a1 ?l1 ?c1 ?k1 ?a2 ?l2 ?c2 ?k2 ?a3 ?l3 ?c3 ?k3 ?a4 ?l4 ?c4 ?k4 ?a5 ?l5 ?c5 ?k5 ?a6 ?l6 ?c6 ?k6 ?a7 ?l7 ?c7 ?k7 ?a8 ?l8 ?c8 ?k8 ?a9 ?l9 ?c9 ?k9 ?a10 ?l10 ?c10 ?k10 ?a11 ?l11 ?c11 ?k11 ?a12 ?l12 ?c12 ?k12 ?a13 ?l13 ?c13 ?k13 ?a14 ?l14 ?c14 ?k14 ?a15 ?l15 ?c15 ?k15 ?a16 ?l16 ?c16 ?k16 ?a17 ?l17 ?c17 ?k17 ?a18 ?l18 ?c18 ?k18 ?a19 ?l19 ?c19 ?k19 ?a20 ?l20 ?c20 ?k20 ?a21 ?l21 ?c21 ?k21 ?a22 ?l22 ?c22 ?k22 ?a23 ?l23 ?c23 ?k23 ?a24 ?l24 ?c24 ?k24 ?a25 ?l25 ?c25 ?k25 ?a26 ?l26 ?c26 ?k26 ?a27 ?l27 ?c27 ?k27 ?a28 ?l28 ?c28 ?k28 ?a29 ?l29 ?c29 ?k29 ?a30 ?l30 ?c30 ?k30 ?a31 ?l31 ?c31 ?k31 ?a32 ?l32 ?c32 ?k32 ?a33 ?l33 ?c33 ?k33 ?a34 ?l34 ?c34 ?k34 ?a35 ?l35 ?c35 ?k35 ?a36 ?l36 ?c36 ?k36 ?a37 ?l37 ?c37 ?k37 ?a38 ?l38 ?c38 ?k38 ?a39 ?l39 ?c39 ?k39 ?a40 ?l40 ?c40 ?k40 ?a41 ?l41 ?c41 ?k41 ?a42 ?l42 ?c42 ?k42 ?a43 ?l43 ?c43 ?k43 ?a44 ?l44 ?c44 ?k44 ?y0 ?y1 ?z0 ?z1 ?z2 ?z3 ?z4 ?z5 ?z6 ?z7 ?z8 ?z9 ?z10 ?z11 ?z12 ?z13 ?z14 ?z15 ?z16 ?z17 ?hcc) (fun H a ns hl h0 hS => ⟨a, ns, rfl, hS, hl, h0, fun _ => rfl⟩)
    (case ta => k_is)
    (case tl => k_is)
    (case te => rfl)
    (case tc => k_is)
    (case tv => rfl)
    (case noT => kernel_rfl)
    (case a1 => k_is)
    (case l1 => k_is)
    (case c1 => k_is)
    (case k1 => k_is)
    (case a2 => k_is)
    (case l2 => k_is)
    (case c2 => k_is)
    (case k2 => k_is)
    (case a3 => k_is)
    (case l3 => k_is)
    (case c3 => k_is)
    (case k3 => k_is)
    (case a4 => k_is)
    (case l4 => k_is)
    (case c4 => k_is)
    (case k4 => k_is)
    (case a5 => k_is)
    (case l5 => k_is)
    (case c5 => k_is)
    (case k5 => k_is)
    (case a6 => k_is)
    (case l6 => k_is)
    (case c6 => k_is)
    (case k6 => k_is)
    (case a7 => k_is)
    (case l7 => k_is)
    (case c7 => k_is)
    (case k7 => k_is)
    (case a8 => k_is)
    (case l8 => k_is)
    (case c8 => k_is)
    (case k8 => k_is)
    (case a9 => k_is)
    (case l9 => k_is)
    (case c9 => k_is)
    (case k9 => k_is)
    (case a10 => k_is)
    (case l10 => k_is)
    (case c10 => k_is)
    (case k10 => k_is)
    (case a11 => k_is)
    (case l11 => k_is)
    (case c11 => k_is)
    (case k11 => k_is)
    (case a12 => k_is)
    (case l12 => k_is)
    (case c12 => k_is)
    (case k12 => k_is)
    (case a13 => k_is)
    (case l13 => k_is)
    (case c13 => k_is)
    (case k13 => k_is)
    (case a14 => k_is)
    (case l14 => k_is)
    (case c14 => k_is)
    (case k14 => k_is)
    (case a15 => k_is)
    (case l15 => k_is)
    (case c15 => k_is)
    (case k15 => k_is)
    (case a16 => k_is)
    (case l16 => k_is)
    (case c16 => k_is)
    (case k16 => k_is)
    (case a17 => k_is)
    (case l17 => k_is)
    (case c17 => k_is)
    (case k17 => k_is)
    (case a18 => k_is)
    (case l18 => k_is)
    (case c18 => k_is)
    (case k18 => k_is)
    (case a19 => k_is)
    (case l19 => k_is)
    (case c19 => k_is)
    (case k19 => k_is)
    (case a20 => k_is)
    (case l20 => k_is)
    (case c20 => k_is)
    (case k20 => k_is)
    (case a21 => k_is)
    (case l21 => k_is)
    (case c21 => k_is)
    (case k21 => k_is)
    (case a22 => k_is)
    (case l22 => k_is)
    (case c22 => k_is)
    (case k22 => k_is)
    (case a23 => k_is)
    (case l23 => k_is)
    (case c23 => k_is)
    (case k23 => k_is)
    (case a24 => k_is)
    (case l24 => k_is)
    (case c24 => k_is)
    (case k24 => k_is)
    (case a25 => k_is)
    (case l25 => k_is)
    (case c25 => k_is)
    (case k25 => k_is)
    (case a26 => k_is)
    (case l26 => k_is)
    (case c26 => k_is)
    (case k26 => k_is)
    (case a27 => k_is)
    (case l27 => k_is)
    (case c27 => k_is)
    (case k27 => k_is)
    (case a28 => k_is)
    (case l28 => k_is)
    (case c28 => k_is)
    (case k28 => k_is)
    (case a29 => k_is)
    (case l29 => k_is)
    (case c29 => k_is)
    (case k29 => k_is)
    (case a30 => k_is)
    (case l30 => k_is)
    (case c30 => k_is)
    (case k30 => k_is)
    (case a31 => k_is)
    (case l31 => k_is)
    (case c31 => k_is)
    (case k31 => k_is)
    (case a32 => k_is)
    (case l32 => k_is)
    (case c32 => k_is)
    (case k32 => k_is)
    (case a33 => k_is)
    (case l33 => k_is)
    (case c33 => k_is)
    (case k33 => k_is)
    (case a34 => k_is)
    (case l34 => k_is)
    (case c34 => k_is)
    (case k34 => k_is)
    (case a35 => k_is)
    (case l35 => k_is)
    (case c35 => k_is)
    (case k35 => k_is)
    (case a36 => k_is)
    (case l36 => k_is)
    (case c36 => k_is)
    (case k36 => k_is)
    (case a37 => k_is)
    (case l37 => k_is)
    (case c37 => k_is)
    (case k37 => k_is)
    (case a38 => k_is)
    (case l38 => k_is)
    (case c38 => k_is)
    (case k38 => k_is)
    (case a39 => k_is)
    (case l39 => k_is)
    (case c39 => k_is)
    (case k39 => k_is)
    (case a40 => k_is)
    (case l40 => k_is)
    (case c40 => k_is)
    (case k40 => k_is)
    (case a41 => k_is)
    (case l41 => k_is)
    (case c41 => k_is)
    (case k41 => k_is)
    (case a42 => k_is)
    (case l42 => k_is)
    (case c42 => k_is)
    (case k42 => k_is)
    (case a43 => k_is)
    (case l43 => k_is)
    (case c43 => k_is)
    (case k43 => k_is)
    (case a44 => k_is)
    (case l44 => k_is)
    (case c44 => k_is)
    (case k44 => k_is)
    (case y0 => k_is)
    (case y1 => k_is)
    (case z0 => k_is)
    (case z1 => k_is)
    (case z2 => k_is)
    (case z3 => k_is)
    (case z4 => k_is)
    (case z5 => k_is)
    (case z6 => k_is)
    (case z7 => k_is)
    (case z8 => k_is)
    (case z9 => k_is)
    (case z10 => k_is)
    (case z11 => k_is)
    (case z12 => k_is)
    (case z13 => k_is)
    (case z14 => k_is)
    (case z15 => k_is)
    (case z16 => k_is)
    (case z17 => k_is)
    (case hcc => rfl)
