import PyProof.Rows.All
import Wide.All
import OpenK.AllK
import Wide.FinOn
import PySem.Challenge.RW_fewspans_k78_numbers_needed
import HandS.ForMost
import HandS.Wide
import HandS.IsInst
import HandS.Conv
import HandS.TupLe
import HandS.Strs
import HandS.SetFor
import HandS.Style
import HandS.TupSets
import HandS.Keys
import HandS.Sort
import HandS.SortOrd
import HandS.SortRule
import HandS.SortKw
import HandS.SetBool
import HandS.TupAny
import HandS.Zip
import HandS.NoneIn
import HandS.Deep
import KE.GoesEnum
import KE.GoesMore
import HandS.Lambda
import HandS.CallLocal
import KE.DataCmp
import HandS.EndTab
import KE.KMinBuiltin
import HandS.TupMul
import PyProof.NeKinds
import HandS.Defaults
import HandS.MakeKwOnly
import HandS.OwnEq
import HandS.FStr
import KE.KCallOwn
import KE.KeyNested
set_option Elab.async false
set_option linter.all false
set_option maxRecDepth 100000
set_option maxHeartbeats 4000000
namespace L9
open PySem PySem.Spec PyProof.Rows L2

/-! ### set(xs), xs a list of ints: the library has it of tuples; the walk is a list's here -/
section
variable {P : Program} {w : World} {A : Around} {E : Value → Shared → Prop} {s : Shared}
abbrev noSet (w : World) : Obj := { cls := .type "set", dict := none, data := .set #[] 0 (.fresh 0 0 (!w.params.followText "set-order")) }
theorem setL_ints {l : Addr} {its : Array Value} (ns : List Int) {Q : Value → Shared → Prop} (quiet : A.handled = none) (isL : s.heap.IsList l its) (allI : IntsAre its.toList ns) (few : ns.length + 1 < scanBound)
    (fin : ∀ (h2 : Heap) (tk n : Nat), SetR w h2 s.heap.objs.size (fun j => decide (j ∈ ns)) n → n ≤ ns.length → (∀ b o, s.heap.get? b = some o → h2.get? b = some o) → Q (.ref s.heap.objs.size) { s with heap := h2, toks := tk }) :
    wpAny (model P w) A (call (.type "set") [.ref l]) Q E s := by
  have size : its.size = ns.length := by
    rw [← Array.length_toList]
    exact allI.length
  obtain ⟨cA, tA, mA⟩ := F.called_set.mro
  have f1 := F.called_set.made
  have f2 := F.called_set.sub
  refine wpAny_call (codeAny_of_tree (?_ : wpAny _ _ (callAny (.type "set") _) _ _ _))
  refine wpAny_pure (And.intro (Code.quiet_builtin _ (by decide +kernel)) (codeAny_builtin F.entry_type_call ?_))
  rw [Around.under_plain (weight_type_call_type "set" [Value.ref l] []) rfl]
  have f3 := F.called_set.notType
  have f4 := F.called_set.canCreate
  have f5 := F.typeCall_set_1 (Value.ref l)
  repeat any_goals first | assumption | wp_step
  refine codeAny_mono (code_set_led1 (.ref l) (E := E) (Q₁ := fun v s1 => v = .ref s.heap.objs.size ∧ s1 = { s with heap := s.heap.push (noSet w) }) (And.intro rfl rfl)) fun r s1 h1 => ?_
  match r, h1 with
  | .error e, h1 => exact h1
  | .ok (.ret v), h1 =>
    obtain ⟨rfl, rfl⟩ := h1
    have at0 : (s.heap.push (noSet w)).get? s.heap.objs.size = some (noSet w) := Heap.get?_push_size _ rfl
    have ty0 : Shared.TypeIs { s with heap := s.heap.push (noSet w) } (.ref s.heap.objs.size) "set" := Exists.intro _ (And.intro at0 rfl)
    have f6 := F.called_set.init.lookup
    have f7 := F.called_set.init.bind (Value.ref s.heap.objs.size)
    repeat any_goals first | assumption | wp_step
    let Z : Value → Shared → Prop := fun v s2 => v = .none ∧ ∃ h2 tk n, s2 = { s with heap := h2, toks := tk } ∧ SetR w h2 s.heap.objs.size (fun j => decide (j ∈ ns)) n ∧ n ≤ ns.length ∧ ∀ b o, s.heap.get? b = some o → h2.get? b = some o
    refine codeAny_mono (codeAny_call_builtin (R := wants Z E) F.called_set.init.plain F.entry_set_init (check_set_init_1 ty0 ?_)) fun r2 s2 h2 => ?_
    · obtain ⟨o, eo, ec, k, ed⟩ := isL
      obtain ⟨oc, od, oD, oS⟩ := o
      simp only at ec ed
      subst ec ed
      have lt : l < s.heap.objs.size := Heap.lt_size eo
      have eo1 : (s.heap.push (noSet w)).get? l = some { cls := .type "list", dict := od, data := .seq its k, slots := oS } := Heap.get?_push_of_some _ eo
      have g1 := F.sub_list_set
      have g2 := F.sub_list_frozenset
      have g3 : (Value.type "list" == Value.type "dict") = false := by decide
      have isL1 : (s.heap.push (noSet w)).IsList l its := Exists.intro _ (And.intro eo1 (And.intro rfl (Exists.intro k rfl)))
      unfold Builtin.«set.__init__» Builtin.Frozenset.updateFrom noKeywords
      generalize keep : pyIter = itr
      wp_walk
      subst keep
      refine wpAny_pyIter_list isL1 (wpAny_bind (wpAny_runValue ?_))
      have quiet3 : A.in1.in1.in1.handled = none := by simp [quiet]
      have sz : (s.heap.push (noSet w)).objs.size = s.heap.objs.size + 1 := Heap.size_push ..
      have lI : l ≠ (s.heap.push (noSet w)).objs.size := by
        rw [sz]
        exact Nat.ne_of_lt (Nat.lt_succ_of_lt lt)
      have out : s.heap.objs.size ∉ [(s.heap.push (noSet w)).objs.size, l] := by
        rw [sz]
        intro z
        rcases List.mem_cons.mp z with z | z
        · exact absurd z (Nat.ne_of_lt (Nat.lt_succ_self _))
        · exact absurd (List.mem_singleton.mp z) (Nat.ne_of_gt lt)
      have vals : ∀ (i : Nat) (v : Value), its[i]? = some v → ∃ j t, ns[i]? = some j ∧ v = .int j t := fun i v hv => by
        have lti : i < ns.length := by
          rw [← size]
          exact (Array.getElem?_eq_some_iff.mp hv).1
        obtain ⟨t, e⟩ := allI.int_at i v (by rw [Array.getElem?_toList]; exact hv)
        have en := List.getElem?_eq_getElem lti
        refine ⟨_, t, en, e.trans ?_⟩
        rw [List.getD_eq_getElem?_getD, en]
        rfl
      refine set_update_ints (Walks.list quiet3 _ l lI its).toS s.heap.objs.size out ns size few vals (its.size - 0) 0 _ rfl (Nat.zero_le _) (And.intro (Exists.intro _ (And.intro (Heap.get?_push_size _ rfl) (And.intro rfl rfl))) (isL1.push _)) ?start ?last
      case start =>
        exact ⟨0, Nat.le_refl _, setR_new_at (Heap.get?_push_of_some _ at0)⟩
      case last =>
        intro s3 n mv le R
        obtain ⟨h3, g3', d3, tk3, o3⟩ := s3
        have m1 : g3' = s.gens := mv.gens
        have m2 : d3 = s.drawn := mv.drawn
        have m3 : o3 = s.os := mv.os
        subst m1 m2 m3
        refine wpAny_pure (?_ : wpAny _ _ (ret Value.none) _ _ _)
        rw [size] at le
        refine wpAny_pure (And.intro rfl ⟨h3, tk3, n, rfl, R, le, fun b o e => ?_⟩)
        have lb := Heap.lt_size e
        refine mv.heap b o (fun z => ?_) (Heap.get?_push_of_some _ (Heap.get?_push_of_some _ e))
        rcases List.mem_cons.mp z with z | z
        · exact absurd z (Nat.ne_of_lt lb)
        · have z1 := List.mem_singleton.mp z
          rw [sz] at z1
          exact absurd z1 (Nat.ne_of_lt (Nat.lt_succ_of_lt lb))
    · match r2, h2 with
      | .error e, h2 => exact h2
      | .ok (.ret v), h2 =>
        obtain ⟨rfl, h', tk, n, rfl, R, le, kp⟩ := h2
        repeat any_goals first | assumption | wp_step
        exact fin h' tk n R le kp
      | .ok .next, h2 => exact h2
      | .ok .brk, h2 => exact h2
      | .ok .cont, h2 => exact h2
  | .ok .next, h1 => exact h1
  | .ok .brk, h1 => exact h1
  | .ok .cont, h1 => exact h1
end
section
variable {X : Cx}
def rSetOfI (K : PySem.W.Frag) (w : World) : List V → Hp → VK → Prop := fun xs H Q => ∃ (l : Addr) (ns : List Int), xs = [V.ref l] ∧ SqL K H l (ns.map V.int) ∧ ns.length < 60 ∧
  ∀ (H' : Hp) a n, Same H H' → H a = none → H' a = some (SetO w a (fun j => decide (j ∈ ns)) n) → n ≤ ns.length → Q (.ref a) H'
theorem cr_setOfI (calm : X.calm = true) : CallR X (.type "set") (rSetOfI X.K X.w) := by
  intro pins s σ H xs us Q I r h
  obtain ⟨l, ns, rfl, hl, few, q⟩ := h
  rw [Vals.ref1 r]
  obtain ⟨its, rv, pl, _⟩ := I.list hl
  refine setL_ints (P := X.prog) (w := X.w) ns (I.ok.hd calm) pl.isList (ints_of_vals rv) (by unfold scanBound; omega) fun h2 tk n R le kp => ?_
  exact ⟨.ref s.heap.objs.size, _, I.laid (t' := tk) kp (Nat.le_refl _) (setO_new R), rfl, q _ _ n (fun b x e => by rw [upd_ne (ne_of_none e (I.hok.fresh (Nat.le_refl _)))]; exact e) (I.hok.fresh (Nat.le_refl _)) upd_same le⟩
end

/-! ### set(t), t a tuple of tuples of ints: the library has it of lists; the walk is a tuple's here -/
section
variable {P : Program} {w : World} {A : Around} {E : Value → Shared → Prop} {s : Shared}
abbrev noSetT (w : World) : Obj := { cls := .type "set", dict := none, data := .set #[] 0 (.fresh 0 0 (!w.params.followText "set-order")) }
theorem setT_tups {l : Addr} {its : Array Value} (ks : List (Addr × List Int)) {Q : Value → Shared → Prop} (quiet : A.handled = none) (isT : s.heap.IsTuple l its) (refs : its.toList = ks.map fun p => Value.ref p.1)
    (tk : ∀ p ∈ ks, IsT P w s.heap p.2 p.1) (few : ks.length < 64) (un : A.units + 3 < cLine)
    (fin : ∀ (h2 : Heap) (tk : Nat) L es ep t, SetTR P w h2 s.heap.objs.size L es ep t → Got ks ks.length L → (∀ b o, s.heap.get? b = some o → h2.get? b = some o) → Q (.ref s.heap.objs.size) { s with heap := h2, toks := tk }) :
    wpAny (model P w) A (call (.type "set") [.ref l]) Q E s := by
  have size : its.size = ks.length := by
    rw [← Array.length_toList, refs, List.length_map]
  obtain ⟨cA, tA, mA⟩ := F.called_set.mro
  have f1 := F.called_set.made
  have f2 := F.called_set.sub
  refine wpAny_call (codeAny_of_tree (?_ : wpAny _ _ (callAny (.type "set") _) _ _ _))
  refine wpAny_pure (And.intro (Code.quiet_builtin _ (by decide +kernel)) (codeAny_builtin F.entry_type_call ?_))
  rw [Around.under_plain (weight_type_call_type "set" [Value.ref l] []) rfl]
  have f3 := F.called_set.notType
  have f4 := F.called_set.canCreate
  have f5 := F.typeCall_set_1 (Value.ref l)
  repeat any_goals first | assumption | wp_step
  refine codeAny_mono (code_set_led1 (.ref l) (E := E) (Q₁ := fun v s1 => v = .ref s.heap.objs.size ∧ s1 = { s with heap := s.heap.push (noSetT w) }) (And.intro rfl rfl)) fun r s1 h1 => ?_
  match r, h1 with
  | .error e, h1 => exact h1
  | .ok (.ret v), h1 =>
    obtain ⟨rfl, rfl⟩ := h1
    have at0 : (s.heap.push (noSetT w)).get? s.heap.objs.size = some (noSetT w) := Heap.get?_push_size _ rfl
    have ty0 : Shared.TypeIs { s with heap := s.heap.push (noSetT w) } (.ref s.heap.objs.size) "set" := Exists.intro _ (And.intro at0 rfl)
    have f6 := F.called_set.init.lookup
    have f7 := F.called_set.init.bind (Value.ref s.heap.objs.size)
    repeat any_goals first | assumption | wp_step
    let Z : Value → Shared → Prop := fun v s2 => v = .none ∧ ∃ h2 tk L es ep t, s2 = { s with heap := h2, toks := tk } ∧ SetTR P w h2 s.heap.objs.size L es ep t ∧ Got ks ks.length L ∧ ∀ b o, s.heap.get? b = some o → h2.get? b = some o
    refine codeAny_mono (codeAny_call_builtin (R := wants Z E) F.called_set.init.plain F.entry_set_init (check_set_init_1 ty0 ?_)) fun r2 s2 h2 => ?_
    · obtain ⟨o, eo, ec, k, ed⟩ := isT
      obtain ⟨oc, od, oD, oS⟩ := o
      simp only at ec ed
      subst ec ed
      have lt : l < s.heap.objs.size := Heap.lt_size eo
      have eo1 : (s.heap.push (noSetT w)).get? l = some { cls := .type "tuple", dict := od, data := .seq its k, slots := oS } := Heap.get?_push_of_some _ eo
      have g1 := F.sub_tuple_set
      have g2 := F.sub_tuple_frozenset
      have g3 : (Value.type "tuple" == Value.type "dict") = false := by decide
      have isT1 : (s.heap.push (noSetT w)).IsTuple l its := Exists.intro _ (And.intro eo1 (And.intro rfl (Exists.intro k rfl)))
      unfold Builtin.«set.__init__» Builtin.Frozenset.updateFrom noKeywords
      generalize keep : pyIter = itr
      wp_walk
      subst keep
      refine wpAny_pyIter_tuple isT1 (wpAny_bind (wpAny_runValue ?_))
      have quiet3 : A.in1.in1.in1.handled = none := by simp [quiet]
      have sz : (s.heap.push (noSetT w)).objs.size = s.heap.objs.size + 1 := Heap.size_push ..
      have lI : l ≠ (s.heap.push (noSetT w)).objs.size := by
        rw [sz]
        exact Nat.ne_of_lt (Nat.lt_succ_of_lt lt)
      have out : s.heap.objs.size ∉ [(s.heap.push (noSetT w)).objs.size, l] := by
        rw [sz]
        intro z
        rcases List.mem_cons.mp z with z | z
        · exact absurd z (Nat.ne_of_lt (Nat.lt_succ_self _))
        · exact absurd (List.mem_singleton.mp z) (Nat.ne_of_gt lt)
      have vals : ∀ (i : Nat) (v : Value), its[i]? = some v → ∃ p, ks[i]? = some p ∧ v = .ref p.1 := fun i v hv => by
        have z : its.toList[i]? = some v := by
          rw [Array.getElem?_toList]
          exact hv
        rw [refs, List.getElem?_map] at z
        obtain ⟨p, e1, e2⟩ := Option.map_eq_some_iff.mp z
        exact Exists.intro p (And.intro e1 e2.symm)
      have beyond : ∀ b, s.heap.objs.size ≤ b → s.heap.get? b = none := fun b hb => by
        cases z : s.heap.get? b with
        | none => rfl
        | some o => exact (Nat.lt_irrefl _ (Nat.lt_of_lt_of_le (Heap.lt_size z) hb)).elim
      refine set_update_tups (Walks.tuple quiet3 _ l lI its).toS s.heap.objs.size out ks size few vals s.heap tk (beyond _ (Nat.le_refl _)) (fun b hb => beyond b ?_) un (its.size - 0) 0 _ rfl (Nat.zero_le _) (And.intro (Exists.intro _ (And.intro (Heap.get?_push_size _ rfl) (And.intro rfl rfl))) (isT1.push _)) (fun b o e => Heap.get?_push_of_some _ (Heap.get?_push_of_some _ e)) ?start ?last
      · rw [List.mem_singleton.mp hb, sz]
        exact Nat.le_succ _
      case start =>
        exact ⟨[], #[], 0, _, setTR_fresh (Heap.get?_push_of_some _ at0), Got.zero ks⟩
      case last =>
        intro s3 L es ep t mv R got kp
        obtain ⟨h3, g3', d3, tk3, o3⟩ := s3
        have m1 : g3' = s.gens := mv.gens
        have m2 : d3 = s.drawn := mv.drawn
        have m3 : o3 = s.os := mv.os
        subst m1 m2 m3
        refine wpAny_pure (?_ : wpAny _ _ (ret Value.none) _ _ _)
        rw [size] at got
        exact wpAny_pure (And.intro rfl ⟨h3, tk3, L, es, ep, t, rfl, R, got, kp⟩)
    · match r2, h2 with
      | .error e, h2 => exact h2
      | .ok (.ret v), h2 =>
        obtain ⟨rfl, h', tk, L, es, ep, t, rfl, R, got, kp⟩ := h2
        repeat any_goals first | assumption | wp_step
        exact fin h' tk L es ep t R got kp
      | .ok .next, h2 => exact h2
      | .ok .brk, h2 => exact h2
      | .ok .cont, h2 => exact h2
  | .ok .next, h1 => exact h1
  | .ok .brk, h1 => exact h1
  | .ok .cont, h1 => exact h1
end
section
variable {X : Cx}
def rSetOfTT (K : PySem.W.Frag) (P : Program) (w : World) : List V → Hp → VK → Prop := fun xs H Q => ∃ (l : Addr) (ks : List (Addr × List Int)), xs = [V.ref l] ∧ SqT K H l (ks.map fun p => V.ref p.1) ∧ (∀ p ∈ ks, SqT K H p.1 (p.2.map V.int)) ∧ ks.length < 64 ∧
  ∀ a L, H a = none → (∀ p ∈ L, p ∈ ks) → (∀ p ∈ ks, p.2 ∈ L.map (·.2)) → Q (.ref a) (upd H a (SetTO P w a L))
theorem cr_setOfTT (calm : X.calm = true) (units : X.A.units + 64 < cLine) : CallR X (.type "set") (rSetOfTT X.K X.prog X.w) := by
  intro pins s σ H xs us Q I r h
  obtain ⟨l, ks, rfl, hl, hk, few, q⟩ := h
  rw [Vals.ref1 r]
  obtain ⟨its, rv, pl, _⟩ := I.tuple hl
  have nn : H s.heap.objs.size = none := I.hok.fresh (Nat.le_refl _)
  refine setT_tups (P := X.prog) (w := X.w) (its := its.toArray) ks (I.ok.hd calm) pl (by simpa using refs_of_vals rv) (fun p hp => I.isT (hk p hp)) few (by omega) fun h2 tk L es ep t R got kp => ?_
  exact ⟨.ref s.heap.objs.size, _, I.laid (t' := tk) kp (Nat.le_refl _) (setTO_new R.t0), rfl, q _ L nn (fun p hp => List.mem_of_mem_take (got.sub p hp)) (fun p hp => got.all p (by rw [List.take_length]; exact hp))⟩
end

/-! ### defs that are run where no text-making of the machine is under way (repr, str of nested data ask for it) -/
abbrev Quiet (A : Around) : Prop := A.guards = some []
structure FnG (P : Program) (w : World) (K : PySem.W.Frag) (mg : Str → Option Value) (base : Heap) (k : Nat) (f : Addr) (fd : FuncData) (ps : List Str) (sp : Sp) : Prop where
  size : ∀ {vs H Q}, sp vs H Q E0 → vs.length = ps.length
  go : ∀ {A outer s H us vs Q}, Room k A → Quiet A → Env0 P w K mg base A outer s H → BindsTo s fd ⟨us, []⟩ (ps.zip us) → Vals vs us → sp vs H Q E0 →
    codeAny (model P w) A (.call (.ref f) ⟨us, []⟩) (CR CX0 outer P w H s Q E0) s
section
variable {P : Program} {w : World} {K : PySem.W.Frag} {mg : Str → Option Value} {base : Heap}
theorem FnG.of {x qual : Str} {st : Stmt} {f : Addr} {fd : FuncData} {N ps : List Str} {k : Nat} {sp : Sp} (F : Fun K x qual st f fd) (S : FnScope N ps (defScope st))
    (size : ∀ {vs H Q}, sp vs H Q E0 → vs.length = ps.length)
    (body : ∀ cdv A outer s H vs Q, Room k (A.deeper (envOfC qual (defScope st) s.heap.objs.size f cdv)) → Quiet (A.deeper (envOfC qual (defScope st) s.heap.objs.size f cdv)) → sp vs H Q E0 →
      ∃ t, PSs (cxOf CX0 P w K mg base N qual (defScope st) f cdv A outer s H E0).nox (defBody st) t ∧ t { nx := fun _ H' => Q .non H', rt := Q } (start N vs) H) :
    FnG P w K mg base (k + 1) f fd ps sp := by
  obtain ⟨oc, od, kV, doc, pm, an, cdv, ct, osl, rfl, look, code⟩ := F.ex
  constructor
  · exact size
  intro A outer s H us vs Q room quiet e0 bind rel want
  have inH : K.In s.heap := e0.mod.kin.keeps fun b o q => (e0.bs b o q).1
  have lim := e0.mod.nolimit.keeps (fun b o q => (e0.bs b o q).1)
  have kinds : ∀ y ∈ ps.zip us, (defScope st).names.lookup y.1 = some .local ∨ ((defScope st).names.lookup y.1 = some .cell ∧ ((cellsFrom (s.heap.objs.size + 1) (defScope st).names []).lookup y.1).isSome = true) := by
    rintro ⟨n, v⟩ hy
    have hn := (List.of_mem_zip hy).1
    cases S.par n hn with
    | inl q => exact Or.inl q
    | inr q => exact Or.inr ⟨q, PySem.W.cellsFrom_some _ _ _ (Or.inl q)⟩
  apply codeAny_call_function room.depth (inH _ _ look) rfl S.co S.gen rfl (PySem.W.codeRec_of inH code)
  apply bind
  apply wpAny_newFunctionEnv_cells S.kind kinds
  intro env he s1 x
  subst he
  refine And.intro (lim.keeps x.toInCall.keep) (codeAny_func ?_)
  obtain ⟨t, ht, hq⟩ := body cdv A outer s H vs Q (room.deeper _) quiet want
  have I := inv_start (CX := CX0) (E := E0) S room.hd e0 (size want) rel x
  apply wpAny_mono (ht.nox.run [] s1 (start N vs) H _ I hq)
  · intro fl s' hs
    cases fl with
    | ret u =>
      obtain ⟨v, σ', H', J, rv, q⟩ := hs
      exact Exists.intro v ⟨H', J.os, J.bare, J.base, J.hok, rv, q⟩
    | next =>
      obtain ⟨σ', H', J, q⟩ := hs
      exact Exists.intro V.non ⟨H', J.os, J.bare, J.base, J.hok, rfl, q⟩
    | brk => exact hs.elim fun _ h => h.elim fun _ h => h.2.elim
    | cont => exact hs.elim fun _ h => h.elim fun _ h => h.2.elim
  · intro e s' hs
    exact hs
end
section
variable {X : Cx} {k : Nat} {f : Addr} {fd : FuncData} {ps : List Str} {sp : Sp} {x : Str} {p pos : Pos} {e : Expr} {es : List Expr} {t : TA}
theorem pe_callG (F : FnG X.prog X.w X.K X.mg X.base k f fd ps sp) (room : Room k X.A) (quiet : Quiet X.A) (hg : Gl X x) (hm : X.mg x = some (.ref f)) (keep : PySem.W.keepIn X.K (.ref f) = true) (bind : Binds X.K fd ps [])
    (args : PA X (e :: es) t) (hdb : (x == ("__debug__" : Str)) = false := by decide) (star : starEach (e :: es) X.env = (false, eval e X.env) :: starEach es X.env := by rfl) (plain : (backTo pos (starEach es X.env)).any (·.1) = false := by rfl) :
    PE X (.Call (.Name x p) (e :: es) [] pos) (tCall sp [] E0 t) := by
  constructor
  intro pins s σ H Q I h
  apply wpAny_Call_Name_kw
  apply ld_glob I hg hm _ hdb
  apply PySem.W.callWith_K (h₀ := X.base) I.ok.mod.kin keep _ star plain
  apply thn (args.run pos pins s σ H _ I h)
  rintro us s1 ⟨vs, H1, I1, rel, q⟩
  refine And.intro I1.kIn ?_
  have q' : sp vs H1 Q E0 := by
    have z := q
    rw [List.append_nil] at z
    exact z
  have same : us.length = ps.length := rel.length.symm.trans (F.size q')
  have b := bind s1 us I1.kIn (by rw [List.append_nil]; exact same)
  rw [List.append_nil] at b
  apply wpAny_call
  apply codeAny_mono (F.go room quiet I1.env0 b rel q')
  intro r s' hr
  match r, hr with
  | .error _, hr => exact hr.elim
  | .ok (.ret u), hr => exact I1.after hr
  | .ok .next, hr => exact False.elim hr
  | .ok .brk, hr => exact False.elim hr
  | .ok .cont, hr => exact False.elim hr
end
/-! ### repr of data at any depth -/
structure Sm (n dp : Nat) (d : PyData) : Prop where
  shows : d.showable = true
  short : d.leavesShort 40 = true
  small : d.weight ≤ n
  flat : d.depth ≤ dp
theorem Sm.mono {n m dp dq : Nat} {d : PyData} (h : Sm n dp d) (h1 : n ≤ m) (h2 : dp ≤ dq) : Sm m dq d := ⟨h.shows, h.short, Nat.le_trans h.small h1, Nat.le_trans h.flat h2⟩
theorem Sm.none : Sm 0 0 .none := ⟨rfl, rfl, Nat.le_refl _, Nat.le_refl _⟩
theorem Sm.bool (b : Bool) : Sm 0 0 (.bool b) := ⟨rfl, rfl, Nat.le_refl _, Nat.le_refl _⟩
theorem log2_small {i : Int} (h : i.natAbs < 10 ^ 30) : i.natAbs.log2 < 100 := PySem.Flt.log2_lt_of (by decide) (Nat.lt_trans h (by decide))
theorem Sm.int {i : Int} (h : i.natAbs < 10 ^ 30) : Sm 100 0 (.int i) := by
  have l := log2_small h
  refine ⟨decide_eq_true (Nat.lt_trans l (by decide)), decide_eq_true ?_, ?_, Nat.le_refl _⟩
  · have q := int_text_length_le10 (a := i) (k := 30) (by decide) h
    show (Str.ofString (toString i)).length ≤ 40
    rw [PySem.ofString_length]
    exact Nat.le_trans q (by decide)
  · show (if i == 0 then 0 else i.natAbs.log2 + 1) ≤ 100
    split <;> omega
theorem smAll {n dp : Nat} : ∀ {ds : List PyData}, (∀ d ∈ ds, Sm n dp d) → PyData.showableAll ds = true ∧ PyData.leavesShortAll 40 ds = true ∧ PyData.weightAll ds ≤ ds.length * (n + 1) ∧ PyData.depthAll ds ≤ dp
  | [], _ => ⟨rfl, rfl, Nat.zero_le _, Nat.zero_le _⟩
  | d :: ds, h => by
    obtain ⟨a, b, c, e⟩ := smAll (ds := ds) fun x hx => h x (List.mem_cons_of_mem _ hx)
    have z := h d List.mem_cons_self
    refine ⟨?_, ?_, ?_, ?_⟩
    · show (d.showable && PyData.showableAll ds) = true
      rw [z.shows, a]
      rfl
    · show (d.leavesShort 40 && PyData.leavesShortAll 40 ds) = true
      rw [z.short, b]
      rfl
    · show d.weight + 1 + PyData.weightAll ds ≤ (ds.length + 1) * (n + 1)
      have := z.small
      rw [Nat.add_mul]
      omega
    · show max d.depth (PyData.depthAll ds) ≤ dp
      exact Nat.max_le.mpr ⟨z.flat, e⟩
theorem Sm.tup {n dp : Nat} {ds : List PyData} (h : ∀ d ∈ ds, Sm n dp d) : Sm (ds.length * (n + 1)) (dp + 1) (.tuple ds) :=
  let ⟨a, b, c, e⟩ := smAll h
  ⟨a, b, c, Nat.succ_le_succ e⟩
theorem Sm.lst {n dp : Nat} {ds : List PyData} (h : ∀ d ∈ ds, Sm n dp d) : Sm (ds.length * (n + 1)) (dp + 1) (.list ds) :=
  let ⟨a, b, c, e⟩ := smAll h
  ⟨a, b, c, Nat.succ_le_succ e⟩
theorem Sm.fits {n dp : Nat} {d : PyData} (h : Sm n dp d) (hn : n ≤ 300000) : d.shown.length ≤ sizeLine := by
  have q := PyData.shown_le 40 (by decide) d h.short
  have := h.small
  have e : sizeLine = 16777216 := by decide
  rw [e]
  omega
/-- data with dicts in it; its lists stand in the heap by themselves -/
def keyD : Key → PyData
  | .inl i => .int i
  | .inr x => .str x
mutual
inductive Dv (K : PySem.W.Frag) (H : Hp) : V → PyData → Prop
  | non : Dv K H .non .none
  | bl (b : Bool) : Dv K H (.bl b) (.bool b)
  | int (i : Int) : Dv K H (.int i) (.int i)
  | str (x : Str) : Dv K H (.str x) (.str x)
  | lst {a : Addr} {xs : List V} {ds : List PyData} : H a = some (.lst xs) → DvAll K H xs ds → Dv K H (.ref a) (.list ds)
  | tup {a : Addr} {xs : List V} {ds : List PyData} : H a = some (.tup xs) → DvAll K H xs ds → Dv K H (.ref a) (.tuple ds)
  | dic {a : Addr} {kvs : List (Key × V)} {ds : List PyData} : H a = some (.dK kvs) → DvAll K H (kvs.map (·.2)) ds → Dv K H (.ref a) (.dict ((kvs.map fun p => keyD p.1).zip ds))
inductive DvAll (K : PySem.W.Frag) (H : Hp) : List V → List PyData → Prop
  | nil : DvAll K H [] []
  | cons {v : V} {vs : List V} {d : PyData} {ds : List PyData} : Dv K H v d → DvAll K H vs ds → DvAll K H (v :: vs) (d :: ds)
end
theorem DvAll.length {K : PySem.W.Frag} {H : Hp} : ∀ {vs : List V} {ds : List PyData}, DvAll K H vs ds → vs.length = ds.length
  | _, _, .nil => rfl
  | _, _, .cons _ h => by rw [List.length_cons, List.length_cons, h.length]
theorem keys_read {P : Program} {w : World} {h : Heap} : ∀ {es : List DictEntry} {vs : List (Key × Value)}, Pairs (mixKind P w) es vs → ReadsAll h (es.map (·.key)) (vs.map fun p => keyD p.1) []
  | _, _, .nil => .nil
  | _, _, .cons (e := e) (kv := kv) hk _ r => by
    have one : Reads h e.key (keyD kv.1) [] := by
      rcases keyIs_shape hk with ⟨i, t, e1, e2⟩ | ⟨x, t, e1, e2⟩
      · rw [e1, e2]
        exact .int i t
      · rw [e1, e2]
        exact .str x t
    exact ReadsAll.cons one (keys_read r)
theorem vals_read {P : Program} {w : World} : ∀ {es : List DictEntry} {vs : List (Key × Value)}, Pairs (mixKind P w) es vs → es.map (·.val) = vs.map (·.2)
  | _, _, .nil => rfl
  | _, _, .cons _ hv r => by rw [List.map_cons, List.map_cons, hv, vals_read r]
theorem kv_vals : ∀ {kvs : List (Key × V)} {vs : List (Key × Value)}, KV kvs vs → Vals (kvs.map (·.2)) (vs.map (·.2)) ∧ (vs.map fun p => keyD p.1) = kvs.map fun p => keyD p.1
  | _, _, .nil => ⟨.nil, rfl⟩
  | _, _, .cons h r => by
    obtain ⟨a, b⟩ := kv_vals r
    refine ⟨.cons h.2 a, ?_⟩
    rw [List.map_cons, List.map_cons, b, h.1]
section
variable {X : Cx} {pins : List (Addr × Obj)} {σ : L2.St} {H : Hp} {s : Shared}
theorem Dv.reads (I : Inv X pins σ H s) (mods : ∃ mm, X.base.Ns sysModules mm) {v : V} {d : PyData} (h : Dv X.K H v d) : ∀ u : Value, RelV v u → ∃ as, Reads s.heap u d as ∧ sysModules ∉ as := by
  have free : H sysModules = none := by
    obtain ⟨mm, o, es, ep, e, _⟩ := mods
    exact (I.bs _ o e).2
  refine Dv.rec (K := X.K) (H := H) (motive_1 := fun v d _ => ∀ u : Value, RelV v u → ∃ as, Reads s.heap u d as ∧ sysModules ∉ as) (motive_2 := fun vs ds _ => ∀ us : List Value, Vals vs us → ∃ as, ReadsAll s.heap us ds as ∧ sysModules ∉ as) ?_ ?_ ?_ ?_ ?_ ?_ ?_ ?_ ?_ h
  · intro u r
    cases r
    exact ⟨_, .none, fun z => nomatch z⟩
  · intro b u r
    cases r
    exact ⟨_, .bool b, fun z => nomatch z⟩
  · intro i u r
    obtain ⟨t, rfl⟩ := r
    exact ⟨_, .int i t, fun z => nomatch z⟩
  · intro x u r
    obtain ⟨t, rfl⟩ := r
    exact ⟨_, .str x t, fun z => nomatch z⟩
  · intro a xs ds e _ ih u r
    cases r
    obtain ⟨_, its, n, rv, q⟩ := I.hok a _ e
    obtain ⟨as, ra, na⟩ := ih _ rv
    refine ⟨a :: as, .list q rfl rfl (by simpa using ra), fun z => ?_⟩
    rcases List.mem_cons.mp z with z | z
    · rw [← z, free] at e
      cases e
    · exact na z
  · intro a xs ds e _ ih u r
    cases r
    obtain ⟨_, its, rv, o, ho, hc, n, hd⟩ := I.hok a _ e
    obtain ⟨as, ra, na⟩ := ih _ rv
    exact ⟨as, .tuple ho hc hd (by simpa using ra), na⟩
  · intro a kvs ds e hall ih u r
    cases r
    obtain ⟨_, hne, vs, kv, o, es, ep, ho, ex, hd, _, prs, _⟩ := I.hok a _ e
    obtain ⟨rv, ek⟩ := kv_vals kv
    obtain ⟨as, ra, na⟩ := ih _ rv
    have len : (kvs.map fun p => keyD p.1).length = ds.length := by
      have z := hall.length
      rw [List.length_map] at z
      rw [List.length_map, z]
    refine ⟨_, .dict ho ex.1 hd (as := []) (bs := as) ?_ ?_, fun z => ?_⟩
    · rw [List.map_fst_zip (by omega), ← ek]
      exact keys_read prs
    · rw [List.map_snd_zip (by omega), vals_read prs]
      exact ra
    · rcases List.mem_cons.mp z with z | z
      · rw [← z] at hne
        exact absurd hne (by decide)
      · exact na z
  · intro us r
    cases r
    exact ⟨_, .nil, fun z => nomatch z⟩
  · intro v vs d ds _ _ ih1 ih2 us r
    cases r with
    | cons r1 r2 =>
      obtain ⟨as, ra, na⟩ := ih1 _ r1
      obtain ⟨bs, rb, nb⟩ := ih2 _ r2
      refine ⟨_, .cons ra rb, fun z => ?_⟩
      rcases List.mem_append.mp z with z | z
      · exact na z
      · exact nb z
theorem call_reprV (mods : ∃ mm, X.base.Ns sysModules mm) (quiet : Quiet X.A) (units : X.A.units + 64 < cLine) : CallR X (.builtin "repr")
    (fun xs H Q => ∃ v d n dp, xs = [v] ∧ Dv X.K H v d ∧ Sm n dp d ∧ n ≤ 300000 ∧ dp ≤ 60 ∧ Q (.str d.shown) H) := by
  intro pins s σ H xs us Q I r h
  obtain ⟨v, d, n, dp, rfl, hd, sm, hn, hdp, q⟩ := h
  obtain ⟨u, rfl, ru⟩ := vals1 r
  have fits := sm.fits hn
  have flat := sm.flat
  obtain ⟨as, rd, off⟩ := Dv.reads I mods hd _ ru
  cases hd with
  | non =>
    cases ru
    exact PySem.P.repr_of_none ⟨.str _, H, I.tok _, ⟨_, rfl⟩, q⟩
  | bl b =>
    cases ru
    exact PySem.P.repr_of_bool ⟨.str _, H, I.tok _, ⟨_, rfl⟩, q⟩
  | int i =>
    obtain ⟨t, rfl⟩ := ru
    exact PySem.P.repr_of_int (of_decide_eq_true sm.shows) ⟨.str _, H, I.tok _, ⟨_, rfl⟩, q⟩
  | str x =>
    obtain ⟨t, rfl⟩ := ru
    exact PySem.P.repr_of_str ⟨.str _, H, I.tok _, ⟨_, rfl⟩, q⟩ fits
  | _ =>
    cases ru
    exact repr_of_reads' rd sm.shows (fun _ => off) quiet (by omega) (fun _ _ e => e) (fun h' t tk more => ⟨.str _, H, I.kept more, ⟨_, rfl⟩, q⟩) fits
end
theorem Dp.noDict {K : PySem.W.Frag} {H : Hp} {v : V} {d : PyData} (h : Dp K H v d) : d.hasDict = false := by
  refine Dp.rec (K := K) (H := H) (motive_1 := fun v d _ => d.hasDict = false) (motive_2 := fun vs ds _ => PyData.hasDictAll ds = false) ?_ ?_ ?_ ?_ ?_ ?_ ?_ ?_ h
  all_goals intros
  all_goals simp_all [PyData.hasDict, PyData.hasDictAll]
section
variable {X : Cx}
theorem call_reprD (quiet : Quiet X.A) (units : X.A.units + 64 < cLine) : CallR X (.builtin "repr")
    (fun xs H Q => ∃ v d n dp, xs = [v] ∧ Dp X.K H v d ∧ Sm n dp d ∧ n ≤ 300000 ∧ dp ≤ 60 ∧ Q (.str d.shown) H) := by
  intro pins s σ H xs us Q I r h
  obtain ⟨v, d, n, dp, rfl, hd, sm, hn, hdp, q⟩ := h
  obtain ⟨u, rfl, ru⟩ := vals1 r
  have fits := sm.fits hn
  have flat := sm.flat
  obtain ⟨as, rd⟩ := Dp.reads I d v u hd ru
  cases hd with
  | non =>
    cases ru
    exact PySem.P.repr_of_none ⟨.str _, H, I.tok _, ⟨_, rfl⟩, q⟩
  | bl b =>
    cases ru
    exact PySem.P.repr_of_bool ⟨.str _, H, I.tok _, ⟨_, rfl⟩, q⟩
  | int i =>
    obtain ⟨t, rfl⟩ := ru
    exact PySem.P.repr_of_int (of_decide_eq_true sm.shows) ⟨.str _, H, I.tok _, ⟨_, rfl⟩, q⟩
  | str x =>
    obtain ⟨t, rfl⟩ := ru
    exact PySem.P.repr_of_str ⟨.str _, H, I.tok _, ⟨_, rfl⟩, q⟩ fits
  | lst h1 h2 =>
    cases ru
    exact repr_of_reads' rd sm.shows (PyData.noDict_hsm (Dp.noDict (Dp.lst h1 h2))) quiet (by omega) (fun _ _ e => e) (fun h' t tk more => ⟨.str _, H, I.kept more, ⟨_, rfl⟩, q⟩) fits
  | tup h1 h2 =>
    cases ru
    exact repr_of_reads' rd sm.shows (PyData.noDict_hsm (Dp.noDict (Dp.tup h1 h2))) quiet (by omega) (fun _ _ e => e) (fun h' t tk more => ⟨.str _, H, I.kept more, ⟨_, rfl⟩, q⟩) fits
end
/-! ### the end of a law row whose def is of the quiet kind -/
theorem quiet_law {P : Program} {w : World} {K : PySem.W.Frag} {mg mb : Str → Option Value} {k : Nat} {fa a : Addr} {fd : FuncData} {x : Str} {sp : Sp} {s₁ : Shared} {vs : List Value} {ns : List Int}
    (inK : K.In s₁.heap) (glob : s₁.heap.Ns mainGlobals mg) (blt : s₁.heap.Ns builtinsNs mb) (bltIs : ∀ y : Str, y ≠ "__name__" → mb y = bootBuiltins y) (lim : s₁.heap.NoLimit) (gens : s₁.gens = #[]) (mods : ∃ mm, s₁.heap.Ns sysModules mm)
    (here : s₁.heap.get? a = some { cls := .type "list", data := .seq vs.toArray }) (whole : IntsAre vs ns) (few : ns.length ≤ sizeLine) (room : Room k callerA)
    (F : ∀ base : Heap, K.In base → base.Ns mainGlobals mg → (∃ mm, base.Ns sysModules mm) → FnG P w K mg base k fa fd [x] sp) (bind : ∀ (s : Shared) (u : Value), BindsTo s fd ⟨[u], []⟩ [(x, u)])
    (want : ∀ H : Hp, Only H → SqL K H a (ns.map V.int) → sp [.ref a] H (fun v _ => v = .bl true) E0) :
    codeAny (model P w) callerA (.call (.ref fa) ⟨[.ref a], []⟩) (fun r s' => r = .ok (.ret (.bool true)) ∧ OldK s₁.heap s'.heap ∧ s'.os = s₁.os ∧ AllBare s'.gens) s₁ := by
  have rel := vals_ints whole
  -- H: the script alone, or nothing
  have main : ∀ H : Hp, Only H → SqL K H a (ns.map V.int) → HOk P w H s₁.heap → (∀ b u, H b = some u → b = a ∧ K.lookup b = none) →
      codeAny (model P w) callerA (.call (.ref fa) ⟨[.ref a], []⟩) (fun r s' => r = .ok (.ret (.bool true)) ∧ OldK s₁.heap s'.heap ∧ s'.os = s₁.os ∧ AllBare s'.gens) s₁ := by
    intro H only sq ok apart
    have untold : ∀ {b o}, s₁.heap.get? b = some o → (b = a → False) → H b = none := by
      intro b o e ne
      cases q : H b with
      | none => rfl
      | some u => exact (ne (apart b u q).1).elim
    have ns1 : ∀ {b m}, s₁.heap.Ns b m → (hidT s₁.heap H).Ns b m := by
      rintro b m ⟨o, es, ep, e, d, r⟩
      refine ⟨o, es, ep, hidT_get e (untold e fun z => ?_), d, r⟩
      subst z
      rw [here] at e
      cases e
      cases d
    have kIn : K.In (hidT s₁.heap H) := by
      intro b o e
      apply hidT_get (inK b o e)
      cases q : H b with
      | none => rfl
      | some u =>
        have z := (apart b u q).2
        rw [e] at z
        cases z
    have lim1 : (hidT s₁.heap H).NoLimit := by
      obtain ⟨mc, h1, h2⟩ := lim
      exact ⟨mc, ns1 h1, h2⟩
    have e0 : Env0 P w K mg (hidT s₁.heap H) callerA [] s₁ H := {
      frames := rfl, mod := ⟨kIn, ns1 glob, ⟨mb, ns1 blt, bltIs⟩, lim1⟩, bs := fun _ _ e => of_hidT e, bsz := Nat.le_of_eq (hidT_size _ _), funs := True.intro, frf := (fun _ hb => nomatch hb), hok := ok, bare := .of_eq gens }
    apply codeAny_mono ((F _ kIn (ns1 glob) (mods.elim fun mm h => ⟨mm, ns1 h⟩)).go (us := [.ref a]) (vs := [.ref a]) room rfl e0 (bind s₁ _) (.cons rfl .nil) (want H only sq))
    intro r s' hr
    match r, hr with
    | .error _, hr => exact hr.elim
    | .ok .next, hr => exact False.elim hr
    | .ok .brk, hr => exact False.elim hr
    | .ok .cont, hr => exact False.elim hr
    | .ok (.ret u), hr =>
      obtain ⟨v, H', os, bare, un, ok', rv, q⟩ := hr
      cases (show v = V.bl true from q)
      cases (show u = Value.bool true from rv)
      refine ⟨rfl, OldK.of_keep ?_, os, bare⟩
      intro b o e
      cases only b with
      | inl n => exact un.keep b o e n (fun z => nomatch z) (fun z => nomatch z)
      | inr n =>
        obtain ⟨ob, xs, z⟩ := n
        have e1 := (ok b _ z).1
        have e2 := (ok' b _ (un.frzs b ob _ z)).1
        rw [e] at e1
        cases e1
        exact e2
  have small : (ns.map V.int).length ≤ sizeLine := by rw [List.length_map]; exact few
  cases known : K.lookup a with
  | some o =>
    have e := inK a o known
    rw [here] at e
    cases e
    have sz : vs.length ≤ sizeLine := by rw [← rel.length]; exact small
    exact main (fun _ => none) (fun _ => .inl rfl) (.inr ⟨_, vs.toArray, _, known, rfl, rfl, rfl, by simpa using sz, by simpa using rel⟩) (fun _ _ z => nomatch z) (fun _ _ z => nomatch z)
  | none =>
    have at1 : ∀ {b u}, (if b = a then some (HO.frz { cls := .type "list", data := .seq vs.toArray } (.lst (ns.map V.int))) else none) = some u → b = a := by
      intro b u z
      by_cases hb : b = a
      · exact hb
      · rw [if_neg hb] at z
        cases z
    refine main (fun b => if b = a then some (.frz { cls := .type "list", data := .seq vs.toArray } (.lst (ns.map V.int))) else none) (fun b => ?_) (.inl (.inr ⟨{ cls := .type "list", data := .seq vs.toArray }, if_pos rfl⟩)) (fun b u z => ?_) (fun b u z => ?_)
    · by_cases hb : b = a
      · exact .inr ⟨_, _, if_pos hb⟩
      · exact .inl (if_neg hb)
    · have hb := at1 z
      subst hb
      have z2 := (if_pos rfl).symm.trans z
      cases z2
      exact ⟨here, small, vs, _, rel, here⟩
    · have hb := at1 z
      subst hb
      exact ⟨rfl, known⟩
theorem quiet_walk {l : PySem.W.OpenLaw} {n k : Nat} {q : Program} {loose : List Str} {XP : (Str → Option Value) → Heap → Prop} {YP : World → Heap → Prop} {d : DefRec} {K : Params → PySem.W.Frag} {sp : World → Sp} {x : Str}
    (noImport : importsNone q = true) (most : l.most = some n) (n2 : n ≤ sizeLine) (defaults : d.params.defaults = []) (room : Room k callerA) (hY : ∀ (w : World) (h : Heap), YP w h → (K w.params).In h)
    (F : ∀ (w : World) (mg : Str → Option Value) (fa : Addr) (h : Heap), (K w.params).In h → h.Ns mainGlobals mg → mg d.name = some (.ref fa) →
      ∃ fd : FuncData, (∀ (s : Shared) (u : Value), BindsTo s fd ⟨[u], []⟩ [(x, u)]) ∧ ∀ base : Heap, (K w.params).In base → base.Ns mainGlobals mg → (∃ mm, base.Ns sysModules mm) → FnG l.prog w (K w.params) mg base k fa fd [x] (sp w))
    (want : ∀ (w : World) (H : Hp) (a : Addr) (ns : List Int), ns.length ≤ n → Only H → SqL (K w.params) H a (ns.map V.int) → sp w [.ref a] H (fun v _ => v = .bl true) E0) :
    PySem.W.WalkO q loose XP YP l.row.toRowW d [] (fun f vs => PySem.call f vs) := by
  apply Att.attach_call most defaults
  intro w s₀ s₁ mg mb fa o pm cd doc a vs ns G Y ho hd hcd hmg hobj hints hlen hg
  obtain ⟨fd, hb, hF⟩ := F w mg fa _ (hY w _ Y) G.T.g hmg
  exact quiet_law (hY w _ Y) G.T.g G.T.b G.T.builtins G.T.nolimit hg ((G.T.seer noImport).mods.elim fun mm h => ⟨mm, h.1⟩) hobj hints (Nat.le_trans hlen n2) room hF hb fun H o1 s1 => want w H a ns hlen o1 s1

/-! ### a op1 b op2 c op3 .. : chains of any length -/
section
variable {X : Cx}
structure PCh (X : Cx) (ops : List CmpOp) (es : List Expr) (t : V → TE) : Prop where
  run : ∀ (pos : Pos) (pins : List (Addr × Obj)) (s : Shared) (σ : L2.St) (H : Hp) (Q : VK) (x : V) (v : Value), Inv X pins σ H s → RelV x v → t x σ H Q → wpAny (model X.prog X.w) X.A (compareChain pos v ops (evalEach es X.env)) (EP X pins σ Q) X.xe s
structure PChT (X : Cx) (ops : List CmpOp) (es : List Expr) (t : V → TE) : Prop where
  run : ∀ (pos : Pos) (pins : List (Addr × Obj)) (s : Shared) (σ : L2.St) (H : Hp) (Q : Bool → Hp → Prop) (x : V) (v : Value), Inv X pins σ H s → RelV x v → (t x σ H fun y H' => ∃ k, y = .bl k ∧ Q k H') → wpAny (model X.prog X.w) X.A (testChain pos v ops (evalEach es X.env)) (TP X pins σ Q) X.xe s
def tLast (r : R2) (tb : TE) : V → TE := fun x σ H Q => tb σ H fun y H2 => r x y H2 Q
def tLink (r : R2) (tb : TE) (rest : V → TE) : V → TE := fun x σ H Q => tb σ H fun y H2 => r x y H2 fun z H3 => ∃ k, z = .bl k ∧ (if k = true then rest y σ H3 Q else Q (.bl false) H3)
def tCh (ta : TE) (rest : V → TE) : TE := fun σ H Q => ta σ H fun x H1 => rest x σ H1 Q
theorem pch_last {op : CmpOp} {r : R2} {b : Expr} {tb : TE} (ho : OpR X (compareOp op) r) (hb : PE X b tb) : PCh X [op] [b] (tLast r tb) :=
  ⟨fun pos pins s σ H Q x v I rx h => chain_last (thn (hb.run pins s σ H _ I h) fun u s2 ⟨y, H2, I2, r2, q2⟩ => ho pins s2 σ H2 x y v u Q I2 rx r2 q2)⟩
theorem pch_link {op op' : CmpOp} {ops : List CmpOp} {r : R2} {b b' : Expr} {bs : List Expr} {tb : TE} {rest : V → TE} (ho : OpR X (compareOp op) r) (hb : PE X b tb) (hr : PCh X (op' :: ops) (b' :: bs) rest) : PCh X (op :: op' :: ops) (b :: b' :: bs) (tLink r tb rest) := by
  refine ⟨fun pos pins s σ H Q x v I rx h => ?_⟩
  refine chain_link (thn (hb.run pins s σ H _ I h) fun u s2 ⟨y, H2, I2, r2, q2⟩ => thn (ho pins s2 σ H2 x y v u _ I2 rx r2 q2) fun d s3 ⟨z, H3, I3, r3, k, e, q3⟩ => ?_)
  subst e
  cases r3
  refine wpAny_truthy_bool ?_
  cases k with
  | false => exact ite_ff ⟨.bl false, H3, I3, rfl, q3⟩
  | true => exact ite_tt (hr.run pos pins s3 σ H3 Q y u I3 r2 q3)
theorem pe_chN {op op' : CmpOp} {ops : List CmpOp} {a b b' : Expr} {bs : List Expr} {pos : Pos} {ta : TE} {rest : V → TE} (ha : PE X a ta) (hr : PCh X (op :: op' :: ops) (b :: b' :: bs) rest)
    (hm : lastMarks (op :: op' :: ops) (b :: b' :: bs) = false := by with_unfolding_all rfl) : PE X (.Compare a (op :: op' :: ops) (b :: b' :: bs) pos) (tCh ta rest) :=
  ⟨fun pins s σ H Q I h => Compare_chain (thn (ha.run pins s σ H _ I h) fun v s1 ⟨x, H1, I1, r1, q1⟩ => hr.run pos pins s1 σ H1 Q x v I1 r1 q1) hm⟩
theorem pchT_last {op : CmpOp} {r : R2} {b : Expr} {tb : TE} (ho : OpR X (compareOp op) r) (hb : PE X b tb) : PChT X [op] [b] (tLast r tb) := by
  refine ⟨fun pos pins s σ H Q x v I rx h => ?_⟩
  refine test_last (thn (hb.run pins s σ H _ I h) fun u s2 ⟨y, H2, I2, r2, q2⟩ => thn (ho pins s2 σ H2 x y v u _ I2 rx r2 q2) fun d s3 ⟨z, H3, I3, r3, k, e, q3⟩ => ?_)
  subst e
  cases r3
  exact wpAny_truthy_bool ⟨H3, I3, q3⟩
theorem pchT_link {op op' : CmpOp} {ops : List CmpOp} {r : R2} {b b' : Expr} {bs : List Expr} {tb : TE} {rest : V → TE} (ho : OpR X (compareOp op) r) (hb : PE X b tb) (hr : PChT X (op' :: ops) (b' :: bs) rest) : PChT X (op :: op' :: ops) (b :: b' :: bs) (tLink r tb rest) := by
  refine ⟨fun pos pins s σ H Q x v I rx h => ?_⟩
  refine test_link (thn (hb.run pins s σ H _ I h) fun u s2 ⟨y, H2, I2, r2, q2⟩ => thn (ho pins s2 σ H2 x y v u _ I2 rx r2 q2) fun d s3 ⟨z, H3, I3, r3, k, e, q3⟩ => ?_)
  subst e
  cases r3
  refine wpAny_truthy_bool ?_
  cases k with
  | false =>
    obtain ⟨k', e', q'⟩ := q3
    cases e'
    exact ite_ff ⟨H3, I3, q'⟩
  | true => exact ite_tt (hr.run pos pins s3 σ H3 Q y u I3 r2 q3)
theorem pt_chN {op op' : CmpOp} {ops : List CmpOp} {a b b' : Expr} {bs : List Expr} {pos : Pos} {ta : TE} {rest : V → TE} (ha : PE X a ta) (hr : PChT X (op :: op' :: ops) (b :: b' :: bs) rest)
    (hm : lastMarks (op :: op' :: ops) (b :: b' :: bs) = false := by with_unfolding_all rfl) : PT X (.Compare a (op :: op' :: ops) (b :: b' :: bs) pos) (tTest (tCh ta rest)) :=
  ⟨fun pins s σ H Q I h => isTrue_chain (thn (ha.run pins s σ H _ I h) fun v s1 ⟨x, H1, I1, r1, q1⟩ => hr.run pos pins s1 σ H1 Q x v I1 r1 q1) hm⟩
end

theorem pi_listK {X : Cx} {K : PySem.W.Frag} {tg l : Expr} {tl : TE} (hK : X.K = K) (hl : PE X l tl) : PI X tg l (iList K tl) := hK ▸ pi_list hl
theorem pi_tupK {X : Cx} {K : PySem.W.Frag} {tg l : Expr} {tl : TE} (hK : X.K = K) (hl : PE X l tl) : PI X tg l (iTup K tl) := hK ▸ pi_tup hl

/-! ### enumerate of a tuple -/
section
open Sem (wp)
set_option maxHeartbeats 4000000 in
theorem enum_of_tuple (t : Addr) (items : Array Value) : Meets (Builtin.«enumerate.__new__» ⟨[.type "enumerate", .ref t], []⟩) (fun _ R s => s.heap.IsTuple t items ∧
    R (.ok (.ret (.ref (s.heap.push { cls := .type "tuple_iterator", data := .fields #[.ref t, .int 0 0] }).objs.size)))
      { s with heap := (s.heap.push { cls := .type "tuple_iterator", data := .fields #[.ref t, .int 0 0] }).push { cls := .type "enumerate", data := .fields #[.none, .bool false, .ref s.heap.objs.size, rawInt 0, .none, .none] } }) := by
  refine .of_wp fun prog w A R s h => ?_
  obtain ⟨hp, g, d, tk, os⟩ := s
  obtain ⟨isT, h⟩ := h
  have sub := sub_enumerate
  have start : ∀ {A' : Around} {E : Value → Shared → Prop} {Q : Value → Shared → Prop}, Q (.ref hp.objs.size) ⟨hp.push { cls := .type "tuple_iterator", data := .fields #[.ref t, .int 0 0] }, g, d, tk, os⟩ → wpAny (model prog w) A' (pyIter (.ref t)) Q E ⟨hp, g, d, tk, os⟩ := by
    intro A' E Q q
    exact (begins_tuple t items).iter prog w A' E ⟨hp, g, d, tk, os⟩ Q isT q
  wp_walk using start
  refine wpAny_stack_any fun st => wpAny_pure ?_
  split
  · rename_i cc _ _ _ _ _
    cases (cc == Value.type "enumerate") <;> (wp_walk using start; exact Exists.intro _ ⟨rfl, h⟩)
  · wp_walk using start
    exact Exists.intro _ ⟨rfl, h⟩
end
theorem call_enumT {prog : Program} {w : World} {A : Around} {E : Value → Shared → Prop} {s : Shared} {t : Addr} {items : Array Value} {Q : Value → Shared → Prop} (isT : s.heap.IsTuple t items)
    (h : ∀ h', IsEnum h' (s.heap.objs.size + 1) s.heap.objs.size 0 .none → h'.IsTupleIter s.heap.objs.size t 0 → (∀ b o, s.heap.get? b = some o → h'.get? b = some o) → Q (.ref (s.heap.objs.size + 1)) { s with heap := h' }) :
    wpAny (model prog w) A (call (.type "enumerate") [.ref t]) Q E s := by
  refine callType_new F.called_enumerate (by decide) (F.typeCall_enumerate_1 _) (F.newCall_enumerate_1 _) (fun obj => F.args_object_init_2 obj _) F.entry_enumerate_new (enum_of_tuple t items) (And.intro isT ?_)
  have size : (s.heap.push { cls := .type "tuple_iterator", data := .fields #[.ref t, .int 0 0] }).objs.size = s.heap.objs.size + 1 := Heap.size_push ..
  show _ ∧ _
  rw [size]
  have made := Heap.get?_push_size (s.heap.push { cls := .type "tuple_iterator", data := .fields #[.ref t, .int 0 0] }) (o := { cls := .type "enumerate", data := .fields #[.none, .bool false, .ref s.heap.objs.size, rawInt 0, .none, .none] }) rfl
  rw [size] at made
  refine ⟨⟨_, made, rfl⟩, h _ made ⟨_, Heap.get?_push_of_some _ (Heap.get?_push_size _ rfl), rfl, rfl⟩ ?_⟩
  intro b o e
  exact Heap.get?_push_of_some _ (Heap.get?_push_of_some _ e)
/-- the tuple at a, each item in a new pair with its place -/
def IteT (K : PySem.W.Frag) (a : Addr) (N : Nat) : It where
  go := fun i H => ∃ (xs : List V) (x : V), SqT K H a xs ∧ xs[i]? = some x ∧ xs.length = N
  yld := fun i H v H' => ∃ t x, v = .ref t ∧ H t = none ∧ H' = upd H t (.tup [.int (i : Nat), x]) ∧ ∀ xs, SqT K H a xs → xs[i]? = some x
  stop := fun i H => ∃ xs : List V, SqT K H a xs ∧ xs.length = N ∧ N ≤ i
theorem turn_enumT {P : Program} {w : World} {K : PySem.W.Frag} {elts : List Expr} {kk : Nat} {tpos : Pos} (a e it : Addr) (N : Nat) :
    Turn P w K (.Tuple elts kk tpos) (IteT K a N) [e, it] e (fun i h => (∃ old, IsEnum h e it ((i : Nat) : Int) old) ∧ h.IsTupleIter it a i ∧ e ≠ it ∧ i ≤ N) := by
  have two : ∀ {b : Addr}, b ∈ [e, it] → b = e ∨ b = it := fun hb => by simpa using hb
  constructor
  · simp
  · rintro i h ⟨⟨old, he⟩, ⟨o, ho, hc, hd⟩, _, _⟩ b hb
    rcases two hb with rfl | rfl
    · exact ⟨_, he, fun v q => nomatch q⟩
    · refine ⟨o, ho, fun v q => ?_⟩
      rw [hd] at q
      cases q
  · rintro i h h' ⟨⟨old, he⟩, hi, hne, hN⟩ k
    exact ⟨⟨old, k e (by simp) _ he⟩, hi.at fun o q => k it (by simp) o q, hne, hN⟩
  · intro X hP hw hK hc i pins s σ H E I hf st hg
    subst hP hw hK
    obtain ⟨⟨old, he⟩, hit, hne, hN⟩ := st
    obtain ⟨xs, x, hq, hx, hxN⟩ := hg
    have inside := (List.getElem?_eq_some_iff.mp hx).1
    obtain ⟨its, rv, p, _⟩ := I.tuple hq
    obtain ⟨u, hu, ru⟩ := rv.get hx
    have isT : s.heap.IsTuple a its.toArray := p
    have apart : a ≠ it := by
      rintro rfl
      obtain ⟨o1, q1, c1, _⟩ := hit
      obtain ⟨o2, q2, c2, _⟩ := isT
      rw [q1] at q2
      cases q2
      rw [c1] at c2
      exact absurd (Value.type.inj c2) (by decide)
    have hea : e ≠ a := by
      rintro rfl
      obtain ⟨o2, q2, c2, _⟩ := isT
      rw [he] at q2
      cases q2
      exact absurd (Value.type.inj c2) (by decide)
    have lte : e < s.heap.objs.size := Heap.lt_size he
    have lti : it < s.heap.objs.size := hit.elim fun _ q => Heap.lt_size q.1
    have less : i < its.toArray.size := by
      have z := (List.getElem?_eq_some_iff.mp hu).1
      rw [List.size_toArray]
      exact z
    apply wpAny_pyNext_enum_itemD (Draws.tuple (A := X.A.in1) (I.ok.hd hc) it a apart its.toArray) he ⟨hit, isT⟩ less hne (by simp [hne, hea])
    intro y h' tk hy ho st' hT hsz hk
    have ey : y = u := by
      have z : its[i]? = some y := by simpa using hy
      rw [hu] at z
      exact (Option.some.inj z).symm
    subst ey
    refine ⟨_, rfl, wpAny_letOwnedTupleGo_enum (s := { s with heap := h', toks := tk + 1 }) ho fun h2 he2 sb => ?_⟩
    have kept : ∀ b o, b ∉ [e, it] → s.heap.get? b = some o → h2.get? b = some o := by
      intro b o nb q
      have n1 : b ≠ e := fun z => nb (by simp [z])
      have n2 : b ≠ it := fun z => nb (by simp [z])
      exact (sb.2 b n1).trans (hk b o n1 n2 q)
    have hT2 : h2.get? s.heap.objs.size = some { cls := .type "tuple", data := .seq #[.int i tk, y] } := (sb.2 _ (Nat.ne_of_gt lte)).trans hT
    have I1 : Inv X pins σ (upd H s.heap.objs.size (.tup [.int (i : Nat), x])) { s with heap := h2, toks := tk + 1 } := by
      refine I.turnedNew (ch := [e, it]) kept hf (Nat.le_refl _) ⟨by show 2 ≤ sizeLine; decide, [.int i tk, y], .cons ⟨_, rfl⟩ (.cons ru .nil), ?_⟩
      exact ⟨_, hT2, rfl, _, rfl⟩
    refine ⟨.ref s.heap.objs.size, _, I1, rfl, ⟨_, x, rfl, I.hok.fresh (Nat.le_refl _), rfl, fun ys hys => ?_⟩, ⟨⟨y, ?_⟩, ?_, hne, by omega⟩, fun b hb => ?_⟩
    · rw [I.tuple_inj hys hq]
      exact hx
    · have cast : ((i + 1 : Nat) : Int) = (i : Int) + 1 := by omega
      rw [cast]
      exact he2
    · exact st'.1.at fun o q => (sb.2 it hne.symm).trans q
    · have lt : b < s.heap.objs.size := by
        rcases two hb with rfl | rfl
        · exact lte
        · exact lti
      rw [upd_ne (Nat.ne_of_lt lt)]
      exact (hf b hb).1
  · intro X hP hw hK hc i pins s σ H E I hf st hg
    subst hP hw hK
    obtain ⟨⟨old, he⟩, hit, hne, hN⟩ := st
    obtain ⟨xs, hq, hxN, hx⟩ := hg
    obtain ⟨its, rv, p, _⟩ := I.tuple hq
    have isT : s.heap.IsTuple a its.toArray := p
    have apart : a ≠ it := by
      rintro rfl
      obtain ⟨o1, q1, c1, _⟩ := hit
      obtain ⟨o2, q2, c2, _⟩ := isT
      rw [q1] at q2
      cases q2
      rw [c1] at c2
      exact absurd (Value.type.inj c2) (by decide)
    obtain ⟨f0, f1, f2, f3, f4, f5⟩ := hf it (by simp)
    have len := rv.length
    have at1 : i = its.toArray.size := by
      rw [List.size_toArray]
      omega
    subst at1
    apply wpAny_pyNext_enum_endD (Draws.tuple (A := X.A.in1) (I.ok.hd hc) it a apart its.toArray) he ⟨hit, isT⟩
    intro h' eb
    exact And.intro rfl (I.turned (t' := s.toks) (fun b o hb q => eb b o hb q) f0 f1 f3 f4 f5)
  · rintro A i s Q E ⟨⟨_, he⟩, _⟩ h
    exact wpAny_pyIter_enum he h
def iEnumT (K : PySem.W.Frag) (ta : TA) : TI := fun σ H R => ta σ H fun vs H1 => ∃ a xs, vs = [.ref a] ∧ SqT K H1 a xs ∧ R (IteT K a xs.length) H1
theorem pi_enumT {X : Cx} {e : Expr} {ta : TA} {p pos tpos : Pos} {elts : List Expr} {kk : Nat} (hg : Gl X "enumerate") (hm : X.mg "enumerate" = none) (args : PA X [e] ta) (star : starEach [e] X.env = [(false, eval e X.env)] := by rfl) :
    PI X (.Tuple elts kk tpos) (.Call (.Name "enumerate" p) [e] [] pos) (iEnumT X.K ta) := by
  constructor
  intro pins s σ H R I h
  refine Call_ (ld_blt I hg hm boot_enumerate ?_)
  refine PyProof.Rows.callWith_type1 (thn (args.run pos pins s σ H _ I h) ?_) star rfl
  rintro us s1 ⟨vs, H1, I1, rel, a, xs, rfl, sq, q⟩
  obtain ⟨u, rfl, ru⟩ := vals1 rel
  cases ru
  obtain ⟨its, rv, isT, _⟩ := I1.tuple sq
  refine call_enumT (items := its.toArray) isT fun h' he hit hk => wpAny_pyIter_enum he ?_
  have fresh : ∀ b ∈ [s1.heap.objs.size + 1, s1.heap.objs.size], s1.heap.objs.size ≤ b := by
    intro b hb
    have z : b = s1.heap.objs.size + 1 ∨ b = s1.heap.objs.size := by simpa using hb
    rcases z with rfl | rfl
    · exact Nat.le_add_right _ _
    · exact Nat.le_refl _
  exact ⟨_, _, _, _, H1, rfl, I1.kept hk, turn_enumT a (s1.heap.objs.size + 1) s1.heap.objs.size xs.length, ⟨⟨.none, he⟩, hit, Nat.succ_ne_self _, Nat.zero_le _⟩, fun b hb => I1.fpOk (fresh b hb) (I1.hok.fresh (fresh b hb)), q⟩

/-! ### t[::-1] of a tuple; xs == [], xs != [] of a list that may hold anything -/
section
open HT
variable {prog : Program} {w : World} {A : Around} {E : Value → Shared → Prop} {s : Shared}
theorem adjust_rev (n : Nat) : Builtin.Slice.sliceAdjust none none (-1) (n : Int) = ((n : Int) - 1, -1) := by
  unfold Builtin.Slice.sliceAdjust
  have h1 : (-1 : Int) < 0 := by decide
  simp only [h1, if_true]
theorem places_rev (n : Nat) : Builtin.Slice.slicePlaces ((n : Int) - 1) (-1) (-1) = n := by
  unfold Builtin.Slice.slicePlaces
  have h1 : ¬ ((-1 : Int) > 0) := by decide
  simp only [h1, if_false]
  have h2 : (-(-1) : Int) = 1 := by decide
  rw [h2, Int.ediv_one]
  split <;> omega
theorem sliceApplied_rev {sl : Addr} {vl vu vs : Value} {n : Nat} {Q : Int × Int × Nat → Shared → Prop} (hs : s.heap.IsSliceOf sl vl vu vs) (pl : IsPart vl none) (pu : IsPart vu none) (pt : IsPart vs (some (-1)))
    (h : Q ((n : Int) - 1, -1, n) s) : wpAny (model prog w) A (Builtin.Slice.sliceApplied (.ref sl) (pure (n : Int))) Q E s := by
  obtain ⟨os, hos, hcs, hds⟩ := id hs
  unfold Builtin.Slice.sliceApplied Builtin.Slice.sliceFields
  refine wpAny_bind (wpAny_bind (wpAny_field hos hds (x := vl) rfl (wpAny_bind (wpAny_field hos hds (x := vu) rfl (wpAny_bind (wpAny_field hos hds (x := vs) rfl (wpAny_pure ?_)))))))
  refine wpAny_bind (slicePart_ pt ?_)
  show wpAny _ _ (if ((-1 : Int) == 0) = true then _ else _) _ _ s
  rw [if_neg (by decide)]
  refine wpAny_bind (slicePart_ pl (wpAny_bind (slicePart_ pu (wpAny_bind (wpAny_pure ?_)))))
  show wpAny _ _ (match Builtin.Slice.sliceAdjust none none (-1) (n : Int) with | (lo, hi) => pure (lo, (-1 : Int), Builtin.Slice.slicePlaces lo hi (-1))) _ _ s
  rw [adjust_rev]
  show wpAny _ _ (pure ((n : Int) - 1, (-1 : Int), Builtin.Slice.slicePlaces ((n : Int) - 1) (-1) (-1))) _ _ s
  rw [places_rev]
  exact wpAny_pure h
theorem pick_rev (xs : Array Value) : ((List.range xs.size).filterMap fun (k : Nat) => xs[((xs.size : Int) - 1 + (k : Int) * (-1)).toNat]?) = xs.toList.reverse := by
  have e : ∀ m : Nat, m ≤ xs.size → ((List.range m).filterMap fun (k : Nat) => xs[((xs.size : Int) - 1 + (k : Int) * (-1)).toNat]?) = xs.toList.reverse.take m := by
    intro m
    induction m with
    | zero => intro _; rfl
    | succ m ih =>
      intro hm
      rw [List.range_succ, List.filterMap_append, ih (by omega), List.take_add_one]
      congr 1
      have e1 : ((xs.size : Int) - 1 + (m : Int) * (-1)).toNat = xs.size - 1 - m := by omega
      have e2 : xs.toList.reverse[m]? = xs[xs.size - 1 - m]? := by
        rw [List.getElem?_reverse (by rw [Array.length_toList]; omega), Array.length_toList, Array.getElem?_toList]
      rw [e2]
      have lt : xs.size - 1 - m < xs.size := by omega
      simp only [List.filterMap_cons, List.filterMap_nil, e1]
      rw [Array.getElem?_eq_getElem lt]
      rfl
  rw [e _ (Nat.le_refl _), List.take_of_length_le (by rw [List.length_reverse, Array.length_toList]; exact Nat.le_refl _)]
theorem getItem_tuple_rev {t sl : Addr} {items : Array Value} {vl vu vs : Value} {Q : Value → Shared → Prop} (ht : IsTup s.heap t items) (hs : s.heap.IsSliceOf sl vl vu vs) (pl : IsPart vl none) (pu : IsPart vu none) (pt : IsPart vs (some (-1)))
    (h : Q (.ref s.heap.objs.size) { s with heap := s.heap.push { cls := .type "tuple", data := .seq items.toList.reverse.toArray } })
    (hsz : items.size ≤ sizeLine) : wpAny (model prog w) A (getItem (.ref t) (.ref sl)) Q E s := by
  have htake : sizeOk (.seq items.toList.reverse.toArray) := by
    show items.toList.reverse.toArray.size ≤ sizeLine
    rw [List.size_toArray, List.length_reverse, Array.length_toList]
    omega
  obtain ⟨os, hos, hcs, hds⟩ := id hs
  have hTs : s.TypeIs (.ref sl) "slice" := ⟨os, hos, hcs⟩
  unfold getItem
  try with_reducible refine wpAny_holding ?_
  first | refine wpAny_bind (wpAny_pure ?_) | skip
  refine wpAny_bind (wpAny_sequenceKey ht.typeIs (by decide) ?_)
  refine wpAny_bind (wpAny_callSpecial?_slot (name := Str.ofString "__getitem__") ht.typeIs PyProof.Rows.slot_tuple_getitem
    (wpAny_call_entry PyProof.Rows.slot_tuple_getitem ht.typeIs entry_tuple_getitem ?_ (args_tuple_getitem _ _)))
  show wpAny _ _ (Builtin.Tuple.tupleItemsOf (.ref t) >>= _) _ _ s
  refine wpAny_bind (tupleItemsOf_ ht ?_)
  refine wpAny_bind (wpAny_typeOf hTs ?_)
  rw [if_pos (by decide)]
  refine wpAny_bind (sliceApplied_rev hs pl pu pt ?_)
  have hno : ¬ ((((items.size : Int) - 1) == 0 && (-1 : Int) == 1 && items.size == items.size) = true) := by
    intro q
    rw [Bool.and_eq_true, Bool.and_eq_true] at q
    exact absurd q.1.2 (by decide)
  show wpAny _ _ (if (((items.size : Int) - 1) == 0 && (-1 : Int) == 1 && items.size == items.size) = true then _ else _) _ _ s
  rw [if_neg hno, pick_rev]
  first
    | exact wpAny_bind (m := Builtin.Tuple.tupleExact _) (wpAny_newObj_type (wpAny_pure ⟨_, rfl, wpAny_pure h⟩) htake)
    | exact wpAny_bind (m := Builtin.Tuple.tupleExact _) (wpAny_newObj_type (wpAny_bind (wpAny_pure (wpAny_pure ⟨_, rfl, wpAny_pure h⟩))) htake)
    | exact wpAny_bind (wpAny_bind (m := Builtin.Tuple.tupleExact _) (wpAny_newObj_type (wpAny_pure (wpAny_pure ⟨_, rfl, wpAny_pure h⟩)) htake))
    | exact wpAny_bind (wpAny_bind (m := Builtin.Tuple.tupleExact _) (wpAny_newObj_type (wpAny_pure ⟨_, rfl, wpAny_pure h⟩) htake))
end
section
variable {X : Cx}
def tRevT (K : PySem.W.Frag) (te : TE) : TE := fun σ H Q => te σ H fun x H1 => ∃ a xs, x = .ref a ∧ SqT K H1 a xs ∧ ∀ p, H1 p = none → Q (.ref p) (upd H1 p (.tup xs.reverse))
theorem pe_revT {e : Expr} {te : TE} {k : Nat} {p1 p2 p3 pos : Pos} (he : PE X e te) : PE X (.Subscript e (.Slice none none (some (.UnaryOp .USub (.Constant (.int 1) k p1) p2)) p3) pos) (tRevT X.K te) := by
  refine ⟨fun pins s σ H Q I h => ?_⟩
  refine Subscript_ (thn (he.run pins s σ H _ I h) fun v s1 ⟨x, H1, I1, r1, q1⟩ => ?_)
  obtain ⟨a, xs, ex, hx, q⟩ := q1
  subst ex
  cases r1
  have hst : PO X (some (.UnaryOp .USub (.Constant (.int 1) k p1) p2)) (tPart (tUn (rU fun i => .int (-i)) (tC (.int 1)))) := po_some (pe_un un_neg pe_int)
  refine wpAny_Slice (thn (po_none.run pins s1 σ H1 (fun o H2 => o = none ∧ H2 = H1) I1 ⟨rfl, rfl⟩) fun vl s2 ⟨l, H2, I2, pl, el, e2⟩ => ?_)
  subst el e2
  refine thn (po_none.run pins s2 σ H2 (fun o H3 => o = none ∧ H3 = H2) I2 ⟨rfl, rfl⟩) fun vu s3 ⟨u, H3, I3, pu, eu, e3⟩ => ?_
  subst eu e3
  refine thn (hst.run pins s3 σ H3 (fun o H4 => o = some (-1) ∧ H4 = H3) I3 ⟨1, rfl, -1, rfl, rfl, rfl⟩) fun vs s4 ⟨o, H4, I4, ps, eo, e4⟩ => ?_
  subst eo e4
  have I5 : Inv X pins σ H4 { s4 with heap := s4.heap.push { cls := .type "slice", data := .fields #[vl, vu, vs] } } := I4.kept (t' := s4.toks) fun b ob q => Heap.get?_push_of_some _ q
  obtain ⟨its, r, ht, hz⟩ := I5.tuple hx
  have hlen := r.length
  show wpAny (model X.prog X.w) X.A (subscriptTail e (.Slice none none (some (.UnaryOp .USub (.Constant (.int 1) k p1) p2)) p3) (.ref a) (.ref s4.heap.objs.size)) (EP X pins σ Q) X.xe { s4 with heap := s4.heap.push { cls := .type "slice", data := .fields #[vl, vu, vs] } }
  refine tail_any (ops := [.ref a, .ref s4.heap.objs.size]) ht.typeIs (PyProof.Rows.slot_tuple_getitem.lookup) ?_ (by with_unfolding_all rfl)
  refine getItem_tuple_rev ht (Heap.IsSliceOf.new _ vl vu vs) pl pu ps ?_ (by rw [List.size_toArray]; omega)
  refine ⟨.ref _, _, I5.laid (t' := s4.toks) (o := .tup xs.reverse) (fun b ob q => Heap.get?_push_of_some _ q) (Nat.le_refl _) ?_, rfl, q _ (I5.hok.fresh (Nat.le_refl _))⟩
  exact ⟨by rw [List.length_reverse]; exact hz, _, r.reverse, IsTup.new _ _⟩
def rEqL (K : PySem.W.Frag) : R2 := fun x y H Q => ∃ (a b : Addr) (xs : List V), x = .ref a ∧ y = .ref b ∧ SqL K H a xs ∧ SqL K H b [] ∧ Q (.bl xs.isEmpty) H
def rNeL (K : PySem.W.Frag) : R2 := fun x y H Q => ∃ (a b : Addr) (xs : List V), x = .ref a ∧ y = .ref b ∧ SqL K H a xs ∧ SqL K H b [] ∧ Q (.bl (!xs.isEmpty)) H
theorem op_eqL (units : X.A.units < cLine) : OpR X (compareOp .Eq) (rEqL X.K) := by
  intro pins s σ H x y v u Q I rx ry h
  obtain ⟨a, b, xs, rfl, rfl, ha, hb, q⟩ := h
  cases rx
  cases ry
  obtain ⟨its, r1, p1, _⟩ := I.list ha
  obtain ⟨its2, r2, p2, _⟩ := I.list hb
  cases r2
  cases r1 with
  | nil =>
    exact SeqAt.eq_listAt (e := fun _ => true) p1.isList p2.isList rfl units (fun j h1 h2 => absurd h2 (Nat.not_lt_zero j)) ⟨.bl true, H, I, rfl, q⟩
  | cons r t =>
    exact SeqAt.eq_list_lengthsAt p1.isList p2.isList (by simp) units ⟨.bl false, H, I, rfl, q⟩
theorem op_neL (units : X.A.units < cLine) : OpR X (compareOp .NotEq) (rNeL X.K) := by
  intro pins s σ H x y v u Q I rx ry h
  obtain ⟨a, b, xs, rfl, rfl, ha, hb, q⟩ := h
  cases rx
  cases ry
  obtain ⟨its, r1, p1, _⟩ := I.list ha
  obtain ⟨its2, r2, p2, _⟩ := I.list hb
  cases r2
  cases r1 with
  | nil =>
    exact SeqAt.RcNeAt.lists (e := fun _ => true) p1.isList p2.isList rfl units (fun j h1 h2 => absurd h2 (Nat.not_lt_zero j)) X.prog X.w X.xe (EP X pins σ Q) ⟨.bl false, H, I, rfl, q⟩
  | cons r t =>
    exact SeqAt.RcNeAt.lists_lengths p1.isList p2.isList (by simp) units X.prog X.w X.xe (EP X pins σ Q) ⟨.bl true, H, I, rfl, q⟩
end

/-! ### x in t, x not in t, for a tuple of data -/
theorem units65 {k : Nat} {A : Around} (r : Room k A) : A.units + 65 < cLine := by
  have := r.un
  omega
section
variable {X : Cx}
def rInT (K : PySem.W.Frag) : R2 := fun x y H Q => ∃ d ds, Dp K H x d ∧ Dp K H y (.tuple ds) ∧ SeqAt.shaped d = true ∧ SeqAt.shaped (.tuple ds) = true ∧ Q (.bl (ds.any fun z => PyData.eqv z d)) H
def rNotInT (K : PySem.W.Frag) : R2 := fun x y H Q => ∃ d ds, Dp K H x d ∧ Dp K H y (.tuple ds) ∧ SeqAt.shaped d = true ∧ SeqAt.shaped (.tuple ds) = true ∧ Q (.bl (!ds.any fun z => PyData.eqv z d)) H
theorem op_inT (units : X.A.units + 65 < cLine) : OpR X (compareOp .In) (rInT X.K) := by
  intro pins s σ H x y v u Q I rx ry ⟨d, ds, dx, dy, sx, sy, q⟩
  obtain ⟨_, r1⟩ := Dp.reads I d x v dx rx
  obtain ⟨_, r2⟩ := Dp.reads I (.tuple ds) y u dy ry
  have l2 : PyData.canLayAll0 ds = true := SeqAt.canLay_of_shaped sy
  exact SeqAt.in_tuple_reads r2 r1 l2 (SeqAt.canLay_of_shaped sx) (room_in_shaped sx units) (Exists.intro (V.bl _) ⟨H, I, rfl, q⟩)
theorem op_notInT (units : X.A.units + 65 < cLine) : OpR X (compareOp .NotIn) (rNotInT X.K) := by
  intro pins s σ H x y v u Q I rx ry ⟨d, ds, dx, dy, sx, sy, q⟩
  obtain ⟨_, r1⟩ := Dp.reads I d x v dx rx
  obtain ⟨_, r2⟩ := Dp.reads I (.tuple ds) y u dy ry
  have l2 : PyData.canLayAll0 ds = true := SeqAt.canLay_of_shaped sy
  exact SeqAt.notIn_tuple_reads r2 r1 l2 (SeqAt.canLay_of_shaped sx) (room_in_shaped sx units) (Exists.intro (V.bl _) ⟨H, I, rfl, q⟩)
end
theorem for_zipU {K : PySem.W.Frag} {a b : Addr} {xs ys : List V} {g : TG} {tb : TS} {D : Ends} {σ : L2.St} {H : Hp} (Pv : Nat → L2.St → Hp → Prop) (h0 : Pv 0 σ H) (hq : ∀ i σ H, Pv i σ H → SqT K H a xs ∧ SqT K H b ys)
    (hs : ∀ (i : Nat) (x y : V) (T : Addr) (σ : L2.St) (H : Hp), xs[i]? = some x → ys[i]? = some y → Pv i σ H → H T = none → g (.ref T) σ (upd H T (.tup [x, y])) fun σ2 H2 => tb { D with nx := Pv (i + 1), ct := Pv (i + 1), bk := D.nx } σ2 H2) (hd : ∀ i σ H, i ≤ xs.length → Pv i σ H → D.nx σ H) :
    ∃ W : Nat → Nat → L2.St → Hp → Prop, (∃ m, W 0 m σ H) ∧ ∀ i m σ H, W i m σ H →
      ((RZ.ItzT K a b).stop i H ∧ D.nx σ H) ∨ ((RZ.ItzT K a b).go i H ∧ ∃ N : L2.St → Hp → Prop, (∀ σ' H', N σ' H' → ∃ m', m' < m ∧ W (i + 1) m' σ' H') ∧ ∀ v H', (RZ.ItzT K a b).yld i H v H' → g v σ H' fun σ2 H2 => tb { D with nx := N, ct := N, bk := D.nx } σ2 H2) := by
  refine ⟨fun i m σ H => m = xs.length - i ∧ i ≤ xs.length ∧ Pv i σ H, ⟨_, rfl, Nat.zero_le _, h0⟩, ?_⟩
  rintro i m σ H ⟨rfl, hi, p⟩
  obtain ⟨q1, q2⟩ := hq i σ H p
  by_cases c : i < xs.length ∧ i < ys.length
  · refine .inr ⟨⟨xs, ys, xs[i]'c.1, ys[i]'c.2, q1, q2, List.getElem?_eq_getElem c.1, List.getElem?_eq_getElem c.2⟩, Pv (i + 1), fun σ' H' p' => ⟨xs.length - (i + 1), by omega, rfl, by omega, p'⟩, fun v H' hy => ?_⟩
    obtain ⟨T, x, y, rfl, nT, rfl, f1, f2⟩ := hy
    exact hs i x y T σ H (f1 xs q1) (f2 ys q2) p nT
  · exact .inl ⟨⟨xs, ys, q1, q2, by omega⟩, hd i σ H hi p⟩

/-- a statement that is never come to -/
theorem ps_never {X : Cx} {st : Stmt} : PS X st (fun _ _ _ => False) := ⟨fun _ _ _ _ _ _ h => h.elim⟩

/-! ### a walk over a tuple, whatever its body is (comprehensions with two for) -/
theorem walkT {K : PySem.W.Frag} {a : Addr} {xs : List V} {B : V → Hp → (Hp → Prop) → Prop} {H0 : Hp} {Qd : Hp → Prop} (Pv : Nat → Hp → Prop) (h0 : Pv 0 H0) (hl : ∀ i H, i ≤ xs.length → Pv i H → SqT K H a xs)
    (hs : ∀ i x H, xs[i]? = some x → Pv i H → B x H (Pv (i + 1))) (hd : ∀ H, Pv xs.length H → Qd H) :
    ∃ W : Nat → Nat → Hp → Prop, (∃ m, W 0 m H0) ∧ ∀ i m H, W i m H →
      ((Itt K a).stop i H ∧ Qd H) ∨ ((Itt K a).go i H ∧ ∃ Nx : Hp → Prop, (∀ H', Nx H' → ∃ m', m' < m ∧ W (i + 1) m' H') ∧ ∀ x H', (Itt K a).yld i H x H' → B x H' Nx) := by
  refine ⟨fun i m H => m = xs.length - i ∧ i ≤ xs.length ∧ Pv i H, ⟨xs.length, by simp, Nat.zero_le _, h0⟩, ?_⟩
  rintro i m H ⟨rfl, hi, p⟩
  have q := hl i H hi p
  by_cases hlt : i < xs.length
  · refine .inr ⟨⟨xs, xs[i], q, by simp [hlt]⟩, Pv (i + 1), fun H' p' => ⟨xs.length - (i + 1), by omega, rfl, hlt, p'⟩, fun x H' y => ?_⟩
    obtain ⟨e, y⟩ := y
    subst e
    exact hs i x _ (y xs q) p
  · have e : i = xs.length := by omega
    subst e
    exact .inl ⟨⟨xs, q, by omega⟩, hd H p⟩

/-! ### max(xs, key=f), f a built-in that makes an int of an item and changes nothing -/
section
variable {prog : Program} {w : World} {A : Around} {E : Value → Shared → Prop} {s : Shared} {l : Addr} {kid : String} {vs : List Value} {Q : Value → Shared → Prop}
/-- all objects stay -/
abbrev Stay (h h' : Heap) : Prop := ∀ b o, h.get? b = some o → h'.get? b = some o
theorem isL_stay {h h' : Heap} {a : Addr} {xs : Array Value} (k : Stay h h') (x : h.IsList a xs) : h'.IsList a xs := let ⟨o, e, r⟩ := x; ⟨o, k _ _ e, r⟩
theorem isT_stay {h h' : Heap} {a : Addr} {xs : Array Value} (k : Stay h h') (x : IsTup h a xs) : IsTup h' a xs := let ⟨o, e, r⟩ := x; ⟨o, k _ _ e, r⟩
def KeyAt (prog : Program) (w : World) (A : Around) (s : Shared) (f : Value) (vs : List Value) (kf : Nat → Int) : Prop :=
  ∀ (i : Nat) (v : Value), vs[i]? = some v → ∀ (h : Heap) (tk : Nat), Stay s.heap h →
    wpAny (model prog w) A (call f [v]) (fun x s' => ∃ h' tk' t, s' = { s with heap := h', toks := tk' } ∧ x = .int (kf i) t ∧ Stay h h') (fun _ _ => False) { s with heap := h, toks := tk }
/-- the first of the greatest keys -/
def Topmost (kf : Nat → Int) (n i : Nat) : Prop := ∀ j, j < n → kf j ≤ kf i ∧ (j < i → kf j < kf i)
theorem maxKey_loop {I S : Addr} {R : Result → Shared → Prop} (kf : Nat → Int) (hh : A.handled = none) (isL : s.heap.IsList l vs.toArray) (lI : l ≠ I) (SI : S ≠ I) (nI : s.heap.get? I = none) (nS : s.heap.get? S = none) (key : KeyAt prog w A.in1 s (.builtin kid) vs kf)
    (fin : ∀ i v h' tk', vs[i]? = some v → Topmost kf vs.length i → Stay s.heap h' → R (.ok (.ret v)) { s with heap := h', toks := tk' }) :
    ∀ (r j i : Nat) (h : Heap) (tk : Nat) (vb : Value) (tb : Tok) (c : Nat), vs.length - (j + 1) = r → j + 1 ≤ vs.length → Stay s.heap h →
      h.get? S = some (seqObj "list" #[vb, .int (kf i) tb] c) → h.IsListIter I l (j + 1) → vs[i]? = some vb → i ≤ j → Topmost kf (j + 1) i →
      codeAny (model prog w) A (.builtin "max.loop" ⟨[.ref I, .builtin kid, .ref S], []⟩) R { s with heap := h, toks := tk } := by
  have nm : (toString "max" ++ toString ".loop" : String) = "max.loop" := by decide
  have wk := Walks.list (prog := prog) (w := w) (A := A.in1) hh I l lI vs.toArray
  have sz : vs.toArray.size = vs.length := List.size_toArray ..
  have off : ∀ {h h' : Heap} {x : Addr}, s.heap.get? x = none → Stay s.heap h → (∀ b o, b ≠ x → h.get? b = some o → h'.get? b = some o) → Stay s.heap h' := fun nx st k b o e => k b o (fun z => by rw [z, nx] at e; cases e) (st b o e)
  intro r
  induction r with
  | zero =>
    intro j i h tk vb tb c er jl st gS it ev ij top
    have last : j + 1 = vs.length := by omega
    refine codeAny_builtin (b := _) PySem.F.entry_max_loop ?_
    rw [Around.under_plainId (PySem.F.plain_max_loop) _]
    show wpAny _ A.in1 (seqItems? (Value.ref S) >>= _) _ _ _
    refine wpAny_bind (wpAny_seqItems (gS) rfl ?_)
    show wpAny _ A.in1 (tryCatch (pyNext (Value.ref I)) _ >>= _) _ _ _
    refine wpAny_bind (wpAny_tryCatch (wk.done _ _ _ ⟨by rw [sz, ← last]; exact it, isL_stay st isL⟩ fun h1 tk1 k1 => ?_))
    have st1 := off nI st (fun b o nb e => k1 b o (fun z => nb (List.mem_singleton.mp z)) e)
    have gS1 := k1 S _ (fun z => SI (List.mem_singleton.mp z)) gS
    have u1 := Heap.SameBut.update h1 S (Obj.mapSeq (fun _ => (#[] : Array Value)))
    show wpAny _ A.in1 (updateSeq S (fun _ => #[]) >>= fun _ => _) _ _ _
    refine wpAny_bind (wpAny_updateSeq gS1 rfl (wpAny_bind (wpAny_letGo (wpAny_pure ?_))))
    exact fin i vb _ _ ev (by rw [← last]; exact top) (off nS st1 fun b o nb e => (u1.2 b nb).trans e)
  | succ r ih =>
    intro j i h tk vb tb c er jl st gS it ev ij top
    have more : j + 1 < vs.length := by omega
    refine codeAny_builtin (b := _) PySem.F.entry_max_loop ?_
    rw [Around.under_plainId (PySem.F.plain_max_loop) _]
    show wpAny _ A.in1 (seqItems? (Value.ref S) >>= _) _ _ _
    refine wpAny_bind (wpAny_seqItems (gS) rfl ?_)
    show wpAny _ A.in1 (tryCatch (pyNext (Value.ref I)) _ >>= _) _ _ _
    refine wpAny_bind (wpAny_tryCatch (wk.item (j + 1) _ _ _ (by rw [sz]; exact more) ⟨it, isL_stay st isL⟩ fun v h1 tk1 pv it1 k1 => ?_))
    have ev1 : vs[j + 1]? = some v := by simpa using pv
    obtain ⟨oI, gI, cI, dI⟩ := it1.1
    have st1 := off nI st (fun b o nb e => k1 b o (fun z => nb (List.mem_singleton.mp z)) e)
    have gS1 := k1 S _ (fun z => SI (List.mem_singleton.mp z)) gS
    show wpAny _ A.in1 (tryCatch (holding [v] (call (Value.builtin kid) [v])) _ >>= _) _ _ _
    refine wpAny_bind (wpAny_tryCatch (wpAny_holding (wpAny_mono (key (j + 1) v ev1 h1 tk1 st1) (fun x s2 hx => ?_) (fun _ _ no => no.elim))))
    obtain ⟨h2, tk2, t2, rfl, rfl, k2⟩ := hx
    have st2 : Stay s.heap h2 := fun b o e => k2 b o (st1 b o e)
    have gS2 := k2 _ _ gS1
    have gI2 := k2 _ _ gI
    show wpAny _ A.in1 (tryCatch (holding [v, Value.int (kf (j + 1)) t2] (richCompare .Gt (.int (kf (j + 1)) t2) (.int (kf i) tb) >>= _)) _ >>= _) _ _ _
    refine wpAny_bind (wpAny_tryCatch (wpAny_holding (wpAny_bind (CmpOf.ints_gt (prog := prog) (w := w) (A := A.in1) (P := fun n u => ∃ t, u = .int (kf n) t) kf (fun n u z => z) (j + 1) i _ _ _ _ _ ⟨t2, rfl⟩ ⟨tb, rfl⟩ ?_))))
    refine wpAny_bind (wpAny_holding (wpAny_truthy_bool (wpAny_bind (wpAny_letGo (wpAny_pure ?_)))))
    by_cases up : kf (j + 1) > kf i
    · have u1 := Heap.SameBut.update h2 S (Obj.mapSeq (fun _ => #[v, .int (kf (j + 1)) t2]))
      obtain ⟨c2, gS3⟩ : ∃ c2, (h2.update S (Obj.mapSeq fun _ => #[v, .int (kf (j + 1)) t2])).get? S = some (seqObj "list" #[v, .int (kf (j + 1)) t2] c2) := ⟨_, get?_update_seq gS2 fun _ => _⟩
      simp only [up, decide_true, if_true]
      refine wpAny_bind (wpAny_updateSeq gS2 rfl (wpAny_bind (wpAny_letGo ?_)))
      rw [nm]
      refine wpAny_pure ⟨plainId_quiet (PySem.F.plain_max_loop) _, ih (j + 1) (j + 1) _ _ v t2 c2 (by omega) more (off nS st2 fun b o nb e => (u1.2 b nb).trans e) gS3 ⟨oI, (u1.2 I SI.symm).trans gI2, cI, dI⟩ ev1 (Nat.le_refl _) fun n hn => ?_⟩
      by_cases e : n = j + 1
      · subst e
        exact ⟨Int.le_refl _, fun z => absurd z (Nat.lt_irrefl _)⟩
      · have := (top n (by omega)).1
        exact ⟨by omega, fun _ => by omega⟩
    · simp only [up, decide_false, Bool.false_eq_true, if_false]
      refine wpAny_bind (wpAny_letGo ?_)
      rw [nm]
      refine wpAny_pure ⟨plainId_quiet (PySem.F.plain_max_loop) _, ih (j + 1) i _ _ vb tb c (by omega) more st2 gS2 ⟨oI, gI2, cI, dI⟩ ev (by omega) fun n hn => ?_⟩
      by_cases e : n = j + 1
      · subst e
        exact ⟨by omega, fun z => absurd z (by omega)⟩
      · exact top n (by omega)
theorem maxKey (kf : Nat → Int) (hh : A.handled = none) (isL : s.heap.IsList l vs.toArray) (some1 : 0 < vs.length) (key : KeyAt prog w A.in1 s (.builtin kid) vs kf)
    (fin : ∀ i v h' tk', vs[i]? = some v → Topmost kf vs.length i → Stay s.heap h' → Q v { s with heap := h', toks := tk' }) :
    wpAny (model prog w) A (call (.builtin "max") [.ref l] [(Str.ofString "key", .builtin kid)]) Q E s := by
  have nm : (toString "max" ++ toString ".loop" : String) = "max.loop" := by decide
  have isL0 := isL
  obtain ⟨ol, gl, _⟩ := isL0
  have ll : l < s.heap.objs.size := Heap.lt_size gl
  refine kmb_tree PySem.F.kind_max PySem.F.plain_max PySem.F.entry_max (kmb_max_key _ _) ?_
  show wpAny _ A.in1 (Builtin.Builtins.bindParams "max" ["key", "default"] 0 ⟨[], [(Str.ofString "key", Value.builtin kid)]⟩ >>= _) _ _ s
  refine wpAny_bind (wpAny_of_eq (show Builtin.Builtins.bindParams "max" ["key", "default"] 0 ⟨[], [(Str.ofString "key", Value.builtin kid)]⟩ = pure [some (.builtin kid), none] from rfl) ?_)
  refine wpAny_bind (wpAny_pure (wpAny_bind (wpAny_pyIter_list isL (wpAny_bind (wpAny_newList ?_ (Nat.zero_le _))))))
  rw [nm]
  have it0 := Heap.get?_push_size s.heap (o := { cls := .type "list_iterator", data := .fields #[.ref l, .int 0 0] }) rfl
  have z1 : (s.heap.push { cls := .type "list_iterator", data := .fields #[.ref l, .int 0 0] }).objs.size = s.heap.objs.size + 1 := Heap.size_push ..
  have k1 : Stay s.heap (s.heap.push { cls := .type "list_iterator", data := .fields #[.ref l, .int 0 0] }) := fun b o e => Heap.get?_push_of_some _ e
  generalize s.heap.push { cls := .type "list_iterator", data := .fields #[.ref l, .int 0 0] } = g1 at *
  have gS := Heap.get?_push_size g1 (o := seqObj "list" #[] 0) rfl
  have k2 : Stay g1 (g1.push (seqObj "list" #[] 0)) := fun b o e => Heap.get?_push_of_some _ e
  have gI := k2 _ _ it0
  generalize g1.push (seqObj "list" #[] 0) = g2 at *
  rw [z1] at gS ⊢
  have st2 : Stay s.heap g2 := fun b o e => k2 b o (k1 b o e)
  have nI : s.heap.get? s.heap.objs.size = none := Heap.get?_none_of_le (Nat.le_refl _)
  have nS : s.heap.get? (s.heap.objs.size + 1) = none := Heap.get?_none_of_le (Nat.le_succ _)
  have SI : s.heap.objs.size + 1 ≠ s.heap.objs.size := Nat.succ_ne_self _
  have lI : l ≠ s.heap.objs.size := Nat.ne_of_lt ll
  have wk := Walks.list (prog := prog) (w := w) (A := A.in1) hh s.heap.objs.size l lI vs.toArray
  have sz : vs.toArray.size = vs.length := List.size_toArray ..
  have off : ∀ {h h' : Heap} {x : Addr}, s.heap.get? x = none → Stay s.heap h → (∀ b o, b ≠ x → h.get? b = some o → h'.get? b = some o) → Stay s.heap h' := fun nx st k b o e => k b o (fun z => by rw [z, nx] at e; cases e) (st b o e)
  refine wpAny_pure ⟨plainId_quiet (PySem.F.plain_max_loop) _, codeAny_builtin (b := _) PySem.F.entry_max_loop ?_⟩
  rw [Around.under_plainId (PySem.F.plain_max_loop) _]
  show wpAny _ A.in1 (seqItems? (Value.ref _) >>= _) _ _ _
  refine wpAny_bind (wpAny_seqItems (gS) rfl ?_)
  show wpAny _ A.in1 (tryCatch (pyNext (Value.ref s.heap.objs.size)) _ >>= _) _ _ _
  refine wpAny_bind (wpAny_tryCatch (wk.item 0 _ _ _ (by rw [sz]; exact some1) ⟨⟨_, gI, rfl, rfl⟩, isL_stay st2 isL⟩ fun v h1 tk1 pv it1 kk => ?_))
  have ev1 : vs[0]? = some v := by simpa using pv
  obtain ⟨oI, gI1, cI, dI⟩ := it1.1
  have st1 := off nI st2 (fun b o nb e => kk b o (fun z => nb (List.mem_singleton.mp z)) e)
  have gS1 := kk _ _ (fun z => SI (List.mem_singleton.mp z)) gS
  show wpAny _ A.in1 (tryCatch (holding [v] (call (Value.builtin kid) [v])) _ >>= _) _ _ _
  refine wpAny_bind (wpAny_tryCatch (wpAny_holding (wpAny_mono (key 0 v ev1 h1 tk1 st1) (fun x s2 hx => ?_) (fun _ _ no => no.elim))))
  obtain ⟨h2, tk2, t2, rfl, rfl, k3⟩ := hx
  have gS2 := k3 _ _ gS1
  have u1 := Heap.SameBut.update h2 (s.heap.objs.size + 1) (Obj.mapSeq (fun _ => #[v, .int (kf 0) t2]))
  obtain ⟨c2, gS3⟩ : ∃ c2, (h2.update (s.heap.objs.size + 1) (Obj.mapSeq fun _ => #[v, .int (kf 0) t2])).get? (s.heap.objs.size + 1) = some (seqObj "list" #[v, .int (kf 0) t2] c2) := ⟨_, get?_update_seq gS2 fun _ => _⟩
  show wpAny _ A.in1 (updateSeq (s.heap.objs.size + 1) (fun _ => #[v, .int (kf 0) t2]) >>= _) _ _ _
  refine wpAny_bind (wpAny_updateSeq gS2 rfl ?_)
  rw [nm]
  refine wpAny_pure ⟨plainId_quiet (PySem.F.plain_max_loop) _, maxKey_loop kf hh isL lI SI nI nS key fin _ 0 0 _ _ v t2 c2 rfl some1 (off nS (fun b o e => k3 b o (st1 b o e)) fun b o nb e => (u1.2 b nb).trans e) gS3 ⟨oI, (u1.2 _ SI.symm).trans (k3 _ _ gI1), cI, dI⟩ ev1 (Nat.le_refl _) fun n hn => ?_⟩
  have e : n = 0 := by omega
  subst e
  exact ⟨Int.le_refl _, fun z => absurd z (Nat.lt_irrefl _)⟩
end
/-- max([x, y], key=len), x and y tuples -/
def rMaxLen (K : PySem.W.Frag) : List V → Hp → VK → Prop := fun vs H Q => ∃ (a b c : Addr) (xs ys : List V), vs = [.ref a] ∧ SqL K H a [.ref b, .ref c] ∧ SqT K H b xs ∧ SqT K H c ys ∧ Q (.ref (if xs.length < ys.length then c else b)) H
theorem pe_maxLen {X : Cx} {e : Expr} {p q kp pos : Pos} {t : TA} (hc : X.calm = true) (hg : Gl X "max") (hm : X.mg "max" = none) (hg2 : Gl X "len") (hm2 : X.mg "len" = none) (ha : PA X [e] t)
    (he : backTo pos (starEach [e] X.env) = (false, eval e X.env) :: backTo pos (starEach [] X.env) := by rfl) (hpl : (backTo pos (starEach [e] X.env)).any (·.1) = false := by rfl) :
    PE X (.Call (.Name "max" p) [e] [⟨some "key", .Name "len" q, kp⟩] pos) (tCB (rMaxLen X.K) t) := by
  refine ⟨fun pins s σ H Q I h => ?_⟩
  refine wpAny_Call_Name_kw (ld_blt (u := .builtin "max") I hg hm (by decide +kernel) ?_)
  refine PyProof.Rows.callWith_kw (thn (ha.run pos pins s σ H _ I h) fun us s1 ⟨vs, H1, I1, r1, q1⟩ => ?_) he hpl (by rfl) (by rfl)
  show wpAny _ _ (evalAll [(do let v ← eval (.Name "len" q) X.env; standAt pos; pure v)]) _ _ s1
  refine wpAny_evalAll_cons (wpAny_bind (ld_blt (u := .builtin "len") I1 hg2 hm2 (by decide +kernel) (wpAny_bind (wpAny_standAt (wpAny_pure (wpAny_evalAll_nil ?_))))))
  obtain ⟨a, b, c, xs, ys, rfl, hl, hb, hc2, qq⟩ := q1
  rw [Vals.ref1 r1]
  obtain ⟨its, rv, isL, _⟩ := I1.list hl
  obtain ⟨u, u', rfl, ru, ru'⟩ := vals2 rv
  obtain rfl : u = Value.ref b := ru
  obtain rfl : u' = Value.ref c := ru'
  obtain ⟨i1, v1, t1, z1⟩ := I1.tuple hb
  obtain ⟨i2, v2, t2, z2⟩ := I1.tuple hc2
  have l1 := v1.length
  have l2 := v2.length
  have fit : ∀ {n : Nat}, n ≤ sizeLine → ((n : Nat) : Int) < 2 ^ 63 := fun {n} z => by
    rw [show sizeLine = 16777216 by decide] at z
    omega
  refine maxKey (vs := [Value.ref b, Value.ref c]) (fun i => if i = 0 then (i1.length : Int) else i2.length) (I1.ok.hd hc) isL.isList (Nat.zero_lt_succ _) (fun i v hv h' tk st => ?_) (fun i v h' tk' hv top st => ?_)
  · match i, hv with
    | 0, hv =>
      cases hv
      refine PyProof.Rows.len_tuple (isT_stay st t1) (fit (by rw [List.size_toArray, ← l1]; exact z1)) ⟨_, _, _, rfl, by rw [List.size_toArray]; rfl, fun _ _ e => e⟩
    | 1, hv =>
      cases hv
      refine PyProof.Rows.len_tuple (isT_stay st t2) (fit (by rw [List.size_toArray, ← l2]; exact z2)) ⟨_, _, _, rfl, by rw [List.size_toArray]; rfl, fun _ _ e => e⟩
  · match i, hv with
    | 0, hv =>
      cases hv
      have := (top 1 (Nat.lt_succ_self 1)).1
      replace this : (i2.length : Int) ≤ i1.length := this
      rw [if_neg (by omega)] at qq
      exact ⟨V.ref _, H1, I1.kept st, rfl, qq⟩
    | 1, hv =>
      cases hv
      have := (top 0 (Nat.zero_lt_succ _)).2 (by decide)
      replace this : (i1.length : Int) < i2.length := this
      rw [if_pos (by omega)] at qq
      exact ⟨V.ref _, H1, I1.kept st, rfl, qq⟩

/-! ### a min-max theorem: demands are rectangles, intervals are points -/
abbrev Dem := Int × Int × Int
def sv (z : Int × Int) (d : Dem) : Bool := decide (d.2.1 ≤ z.1 ∧ z.1 ≤ d.1 ∧ d.1 ≤ z.2 ∧ z.2 ≤ d.2.2)
def cf (d e : Dem) : Bool := decide ((e.2.1 ≤ d.1 ∧ d.1 ≤ e.2.2) ∧ d.2.1 ≤ e.1 ∧ e.1 ≤ d.2.2)
def Vd (d : Dem) : Prop := d.2.1 ≤ d.1 ∧ d.1 ≤ d.2.2
theorem sv_iff' {z : Int × Int} {d : Dem} : sv z d = true ↔ d.2.1 ≤ z.1 ∧ z.1 ≤ d.1 ∧ d.1 ≤ z.2 ∧ z.2 ≤ d.2.2 := decide_eq_true_iff
theorem cf_iff {d e : Dem} : cf d e = true ↔ (e.2.1 ≤ d.1 ∧ d.1 ≤ e.2.2) ∧ d.2.1 ≤ e.1 ∧ e.1 ≤ d.2.2 := decide_eq_true_iff
theorem cf_comm (d e : Dem) : cf d e = cf e d := by
  rw [Bool.eq_iff_iff, cf_iff, cf_iff]
  exact ⟨fun h => ⟨h.2, h.1⟩, fun h => ⟨h.2, h.1⟩⟩
theorem cf_of_sv {z : Int × Int} {d e : Dem} (h1 : sv z d = true) (h2 : sv z e = true) : cf d e = true := by
  rw [sv_iff'] at h1 h2
  rw [cf_iff]
  omega
theorem cf_self {d : Dem} (h : Vd d) : cf d d = true := by
  rw [cf_iff]
  exact ⟨h, h⟩
/-- how many of the demands the point serves -/
def cov (L : List Dem) (z : Int × Int) : Nat := L.countP (sv z)
theorem cov_nil (z : Int × Int) : cov [] z = 0 := rfl
theorem cov_cons (d : Dem) (L : List Dem) (z : Int × Int) : cov (d :: L) z = cov L z + (if sv z d = true then 1 else 0) := List.countP_cons
theorem cov_app (L M : List Dem) (z : Int × Int) : cov (L ++ M) z = cov L z + cov M z := List.countP_append
theorem cov_perm {L M : List Dem} (h : L.Perm M) (z : Int × Int) : cov L z = cov M z := h.countP_eq _
/-- no two of them conflict -/
def Ind (L : List Dem) : Prop := L.Pairwise fun d e => cf d e = false
theorem Ind.cov_le {L : List Dem} (h : Ind L) (z : Int × Int) : cov L z ≤ 1 := by
  induction L with
  | nil => exact Nat.zero_le _
  | cons d L ih =>
    have p := List.pairwise_cons.mp h
    rw [cov_cons]
    split
    · next s =>
      have e : cov L z = 0 := List.countP_eq_zero.mpr fun e he c => by
        have := p.1 e he
        rw [cf_of_sv s c] at this
        cases this
      omega
    · have := ih p.2
      omega
structure Fam (F : List Dem) : Prop where
  ok : ∀ d ∈ F, 0 ≤ d.2.1 ∧ Vd d
  ex : ∀ d ∈ F, ∀ e ∈ F, d.1 < e.1 → d.2.1 < e.2.1 → d.2.2 < e.2.2 → cf d e = true → (d.1, e.2) ∈ F ∧ (e.1, d.2) ∈ F
  cross : ∀ d ∈ F, ∀ e ∈ F, cf d e = true → d.2 = e.2 ∨ (d.2.1 < e.2.1 ∧ d.2.2 < e.2.2) ∨ (e.2.1 < d.2.1 ∧ e.2.2 < d.2.2)
theorem sv_exch {z : Int × Int} {d e : Dem} (h1 : d.1 < e.1) (h2 : d.2.1 < e.2.1) (h3 : d.2.2 < e.2.2) (c : cf d e = true) :
    (if sv z (d.1, e.2) = true then 1 else 0) + (if sv z (e.1, d.2) = true then 1 else 0) ≤ (if sv z d = true then 1 else 0) + (if sv z e = true then 1 else 0) := by
  have c := cf_iff.mp c
  simp only [sv_iff']
  split <;> split <;> split <;> split <;> omega
def pot (L : List Dem) : Int := (L.map fun d => d.1 * (d.2.1 + d.2.2)).sum
theorem pot_cons (d : Dem) (L : List Dem) : pot (d :: L) = d.1 * (d.2.1 + d.2.2) + pot L := by
  unfold pot
  rw [List.map_cons, List.sum_cons]
theorem pot_nonneg {L : List Dem} (h : ∀ d ∈ L, 0 ≤ d.2.1 ∧ Vd d) : 0 ≤ pot L := by
  induction L with
  | nil => exact Int.le_refl _
  | cons d L ih =>
    rw [pot_cons]
    have := ih fun e he => h e (List.mem_cons_of_mem _ he)
    have q := h d List.mem_cons_self
    unfold Vd at q
    have : 0 ≤ d.1 * (d.2.1 + d.2.2) := Int.mul_nonneg (by omega) (by omega)
    omega
theorem pot_perm {L M : List Dem} (h : L.Perm M) : pot L = pot M := by
  induction h with
  | nil => rfl
  | cons x _ ih => rw [pot_cons, pot_cons, ih]
  | swap x y l =>
    rw [pot_cons, pot_cons, pot_cons, pot_cons]
    omega
  | trans _ _ i1 i2 => rw [i1, i2]
def Corner (d e : Dem) : Prop := cf d e = true ∧ d.1 < e.1 ∧ d.2.1 < e.2.1 ∧ d.2.2 < e.2.2
theorem pull2 {L : List Dem} {d e : Dem} (hd : d ∈ L) (he : e ∈ L) (ne : d ≠ e) : ∃ R, L.Perm (d :: e :: R) := by
  have p1 := List.perm_cons_erase hd
  have he' : e ∈ L.erase d := (List.mem_erase_of_ne (Ne.symm ne)).mpr he
  exact ⟨(L.erase d).erase e, p1.trans ((List.perm_cons_erase he').cons d)⟩
theorem uncross {F : List Dem} (fam : Fam F) : ∀ (n : Nat) (L : List Dem), (∀ d ∈ L, d ∈ F) → (pot L).toNat < n → ∃ M : List Dem, (∀ d ∈ M, d ∈ F) ∧ M.length = L.length ∧ (∀ z, cov M z ≤ cov L z) ∧ ∀ d ∈ M, ∀ e ∈ M, ¬ Corner d e := by
  intro n
  induction n with
  | zero => exact fun _ _ h => absurd h (Nat.not_lt_zero _)
  | succ n ih =>
    intro L hL hn
    by_cases c : ∀ d ∈ L, ∀ e ∈ L, ¬ Corner d e
    · exact ⟨L, hL, rfl, fun _ => Nat.le_refl _, c⟩
    · have ⟨d, hd, e, he, k⟩ : ∃ d ∈ L, ∃ e ∈ L, Corner d e := by
        refine Classical.byContradiction fun z => c fun d hd e he k => z ⟨d, hd, e, he, k⟩
      obtain ⟨k1, k2, k3, k4⟩ := k
      have ne : d ≠ e := fun z => by
        subst z
        exact absurd k2 (Int.lt_irrefl _)
      obtain ⟨R, pm⟩ := pull2 hd he ne
      have x := fam.ex d (hL d hd) e (hL e he) k2 k3 k4 k1
      have hR : ∀ f ∈ R, f ∈ F := fun f hf => hL f (pm.mem_iff.mpr (List.mem_cons_of_mem _ (List.mem_cons_of_mem _ hf)))
      have hN : ∀ f ∈ (d.1, e.2) :: (e.1, d.2) :: R, f ∈ F := fun f hf => by
        rcases List.mem_cons.mp hf with rfl | hf
        · exact x.1
        rcases List.mem_cons.mp hf with rfl | hf
        · exact x.2
        · exact hR f hf
      have less : pot ((d.1, e.2) :: (e.1, d.2) :: R) < pot L := by
        rw [pot_perm pm, pot_cons, pot_cons, pot_cons, pot_cons]
        show d.1 * (e.2.1 + e.2.2) + (e.1 * (d.2.1 + d.2.2) + pot R) < d.1 * (d.2.1 + d.2.2) + (e.1 * (e.2.1 + e.2.2) + pot R)
        have : 0 < (e.1 - d.1) * ((e.2.1 + e.2.2) - (d.2.1 + d.2.2)) := Int.mul_pos (by omega) (by omega)
        rw [Int.sub_mul, Int.mul_sub, Int.mul_sub] at this
        omega
      have nn := pot_nonneg fun f hf => fam.ok f (hN f hf)
      obtain ⟨M, m1, m2, m3, m4⟩ := ih _ hN (by omega)
      refine ⟨M, m1, by rw [m2, pm.length_eq]; rfl, fun z => Nat.le_trans (m3 z) ?_, m4⟩
      rw [cov_perm pm, cov_cons, cov_cons, cov_cons, cov_cons]
      have := sv_exch (z := z) k2 k3 k4 k1
      omega
/-- e lies across d -/
def Und (e d : Dem) : Prop := d.2.1 ≤ e.2.1 ∧ e.1 ≤ d.1 ∧ d.2.2 ≤ e.2.2
theorem und_of {F : List Dem} (fam : Fam F) {d e : Dem} (hd : d ∈ F) (he : e ∈ F) (c : cf d e = true) (n1 : ¬ Corner d e) (n2 : ¬ Corner e d) : Und d e ∨ Und e d := by
  unfold Und
  rcases fam.cross d hd e he c with h | h | h
  · rw [h]
    omega
  · have : ¬ d.1 < e.1 := fun z => n1 ⟨c, z, h.1, h.2⟩
    omega
  · have : ¬ e.1 < d.1 := fun z => n2 ⟨by rw [cf_comm]; exact c, z, h.1, h.2⟩
    omega
def leD (d e : Dem) : Bool := decide (d.1 - d.2.1 < e.1 - e.2.1 ∨ (d.1 - d.2.1 = e.1 - e.2.1 ∧ e.2.2 ≤ d.2.2))
theorem leD_total (a b : Dem) : (leD a b || leD b a) = true := by
  unfold leD
  rw [Bool.or_eq_true, decide_eq_true_eq, decide_eq_true_eq]
  omega
theorem leD_trans (a b c : Dem) : leD a b = true → leD b c = true → leD a c = true := by
  unfold leD
  rw [decide_eq_true_eq, decide_eq_true_eq, decide_eq_true_eq]
  omega
theorem und_le {F : List Dem} (fam : Fam F) {f e : Dem} (hf : f ∈ F) (he : e ∈ F) (c : cf f e = true) (n1 : ¬ Corner f e) (n2 : ¬ Corner e f) (le : leD f e = true) : Und f e := by
  have le := of_decide_eq_true le
  rcases und_of fam hf he c n1 n2 with h | h
  · exact h
  · unfold Und at *
    omega
def gre : Nat → List Dem → List Dem
  | 0, _ => []
  | _, [] => []
  | n + 1, d :: R => d :: gre n (R.filter fun e => !cf d e)
def lef : Nat → List Dem → List Dem
  | 0, L => L
  | _, [] => []
  | n + 1, d :: R => (R.filter fun e => cf d e) ++ lef n (R.filter fun e => !cf d e)
theorem gre_lef : ∀ (n : Nat) (L : List Dem), L.Perm (gre n L ++ lef n L)
  | 0, L => List.Perm.refl _
  | n + 1, [] => List.Perm.refl _
  | n + 1, d :: R => by
    have ih := gre_lef n (R.filter fun e => !cf d e)
    show (d :: R).Perm (d :: (gre n (R.filter fun e => !cf d e) ++ ((R.filter fun e => cf d e) ++ lef n (R.filter fun e => !cf d e))))
    refine List.Perm.cons d ?_
    have p1 := (List.filter_append_perm (fun e => cf d e) R).symm
    refine p1.trans ?_
    refine ((List.Perm.refl (R.filter fun e => cf d e)).append ih).trans ?_
    rw [← List.append_assoc, ← List.append_assoc]
    exact List.perm_append_comm.append_right _
theorem gre_sub (n : Nat) (L : List Dem) : ∀ d ∈ gre n L, d ∈ L := fun d hd => (gre_lef n L).mem_iff.mpr (List.mem_append_left _ hd)
theorem lef_sub (n : Nat) (L : List Dem) : ∀ d ∈ lef n L, d ∈ L := fun d hd => (gre_lef n L).mem_iff.mpr (List.mem_append_right _ hd)
theorem gre_ind : ∀ (n : Nat) (L : List Dem), Ind (gre n L)
  | 0, _ => List.Pairwise.nil
  | n + 1, [] => List.Pairwise.nil
  | n + 1, d :: R => by
    refine List.pairwise_cons.mpr ⟨fun e he => ?_, gre_ind n _⟩
    have := (List.mem_filter.mp (gre_sub n _ e he)).2
    rw [Bool.not_eq_true'] at this
    exact this
theorem gre_in : ∀ (n : Nat) (A B : List Dem) (e : Dem), A.length < n → e ∈ gre n (A ++ e :: B) ∨ ∃ f ∈ A, cf f e = true
  | 0, _, _, _, h => absurd h (Nat.not_lt_zero _)
  | n + 1, [], B, e, _ => .inl List.mem_cons_self
  | n + 1, d :: A, B, e, h => by
    by_cases c : cf d e = true
    · exact .inr ⟨d, List.mem_cons_self, c⟩
    · have eq : (A ++ e :: B).filter (fun x => !cf d x) = A.filter (fun x => !cf d x) ++ e :: B.filter (fun x => !cf d x) := by
        rw [List.filter_append, List.filter_cons_of_pos (by rw [Bool.not_eq_true] at c; rw [c]; rfl)]
      have l : (A.filter fun x => !cf d x).length < n := Nat.lt_of_le_of_lt (List.length_filter_le _ _) (Nat.lt_of_succ_lt_succ h)
      rcases gre_in n (A.filter fun x => !cf d x) (B.filter fun x => !cf d x) e l with g | ⟨f, hf, k⟩
      · refine .inl (List.mem_cons_of_mem _ ?_)
        show e ∈ gre n ((A ++ e :: B).filter fun x => !cf d x)
        rw [eq]
        exact g
      · exact .inr ⟨f, List.mem_cons_of_mem _ (List.mem_filter.mp hf).1, k⟩
theorem cov_lt {z w : Int × Int} {f : Dem} : ∀ {L : List Dem}, f ∈ L → (∀ c ∈ L, sv z c = true → sv w c = true) → sv z f = false → sv w f = true → cov L z < cov L w
  | [], hf, _, _, _ => nomatch hf
  | d :: L, hf, h, n, y => by
    rw [cov_cons, cov_cons]
    have le : cov L z ≤ cov L w := List.countP_mono_left fun c hc => h c (List.mem_cons_of_mem _ hc)
    have h1 := h d List.mem_cons_self
    rcases List.mem_cons.mp hf with rfl | hf
    · rw [n, y]
      simp
      omega
    · have ih := cov_lt hf (fun c hc => h c (List.mem_cons_of_mem _ hc)) n y
      split
      · next s => rw [if_pos (h1 s)]; omega
      · split <;> omega
theorem first_of {p : Dem → Bool} : ∀ {L : List Dem}, (∃ d ∈ L, p d = true) → ∃ A e B, L = A ++ e :: B ∧ p e = true ∧ ∀ f ∈ A, p f = false
  | [], h => by
    obtain ⟨d, hd, _⟩ := h
    cases hd
  | d :: L, h => by
    by_cases c : p d = true
    · exact ⟨[], d, L, rfl, c, fun f hf => nomatch hf⟩
    · obtain ⟨x, hx, px⟩ := h
      rcases List.mem_cons.mp hx with rfl | hx
      · exact absurd px c
      · obtain ⟨A, e, B, r1, r2, r3⟩ := first_of ⟨x, hx, px⟩
        refine ⟨d :: A, e, B, by rw [r1]; rfl, r2, fun f hf => ?_⟩
        rcases List.mem_cons.mp hf with rfl | hf
        · exact Bool.not_eq_true _ ▸ c
        · exact r3 f hf
theorem lef_cov {F : List Dem} (fam : Fam F) {L : List Dem} (hL : ∀ d ∈ L, d ∈ F) (nc : ∀ d ∈ L, ∀ e ∈ L, ¬ Corner d e) (srt : L.Pairwise fun d e => leD d e = true) {m : Nat} (hm : ∀ z, cov L z ≤ m + 1) (z : Int × Int) : cov (lef L.length L) z ≤ m := by
  have sum := cov_perm (gre_lef L.length L) z
  rw [cov_app] at sum
  have top := hm z
  by_cases g : ∃ d ∈ gre L.length L, sv z d = true
  · have : 0 < cov (gre L.length L) z := List.countP_pos_iff.mpr g
    omega
  · by_cases s : ∃ d ∈ L, sv z d = true
    · obtain ⟨A, e, B, rfl, se, nA⟩ := first_of s
      have la : A.length < (A ++ e :: B).length := by
        rw [List.length_append, List.length_cons]
        omega
      rcases gre_in _ A B e la with q | ⟨f, hf, k⟩
      · exact absurd ⟨e, q, se⟩ g
      · have mf : f ∈ A ++ e :: B := List.mem_append_left _ hf
        have me : e ∈ A ++ e :: B := List.mem_append_right _ List.mem_cons_self
        have pw := List.pairwise_append.mp srt
        have u1 := und_le fam (hL f mf) (hL e me) k (nc f mf e me) (nc e me f mf) (pw.2.2 f hf e List.mem_cons_self)
        have w : cov (A ++ e :: B) z < cov (A ++ e :: B) (f.1, z.2) := by
          have vf := (fam.ok f (hL f mf)).2
          have ve := sv_iff'.mp se
          refine cov_lt mf (fun c hc sc => ?_) (nA f hf) ?_
          · have u2 : Und e c := by
              rcases List.mem_append.mp hc with h | h
              · rw [nA c h] at sc
                cases sc
              · rcases List.mem_cons.mp h with rfl | h
                · exact ⟨Int.le_refl _, Int.le_refl _, Int.le_refl _⟩
                · exact und_le fam (hL e me) (hL c hc) (cf_of_sv se sc) (nc e me c hc) (nc c hc e me) ((List.pairwise_cons.mp pw.2.1).1 c h)
            have sc := sv_iff'.mp sc
            rw [sv_iff']
            unfold Und Vd at *
            show c.2.1 ≤ f.1 ∧ f.1 ≤ c.1 ∧ c.1 ≤ z.2 ∧ z.2 ≤ c.2.2
            omega
          · rw [sv_iff']
            unfold Und Vd at *
            show f.2.1 ≤ f.1 ∧ f.1 ≤ f.1 ∧ f.1 ≤ z.2 ∧ z.2 ≤ f.2.2
            omega
        have := hm (f.1, z.2)
        omega
    · have : cov L z = 0 := List.countP_eq_zero.mpr fun d hd c => s ⟨d, hd, c⟩
      omega
theorem len_le {F : List Dem} (fam : Fam F) {k : Nat} (hk : ∀ I, Ind I → (∀ d ∈ I, d ∈ F) → I.length ≤ k) : ∀ (m : Nat) (L : List Dem), (∀ d ∈ L, d ∈ F) → (∀ d ∈ L, ∀ e ∈ L, ¬ Corner d e) → (∀ z, cov L z ≤ m) → L.length ≤ m * k
  | 0, L, hL, _, hm => by
    cases L with
    | nil => exact Nat.zero_le _
    | cons d L =>
      have v := (fam.ok d (hL d List.mem_cons_self)).2
      have := hm (d.1, d.1)
      rw [cov_cons, if_pos (sv_iff'.mpr (by unfold Vd at v; exact ⟨v.1, Int.le_refl _, Int.le_refl _, v.2⟩))] at this
      omega
  | m + 1, L, hL, nc, hm => by
    have pm := List.mergeSort_perm L leD
    have srt := List.pairwise_mergeSort leD_trans leD_total L
    generalize L.mergeSort leD = S at *
    have hS : ∀ d ∈ S, d ∈ L := fun d hd => pm.mem_iff.mp hd
    have hl := lef_cov fam (fun d hd => hL d (hS d hd)) (fun d hd e he => nc d (hS d hd) e (hS e he)) srt (m := m) (fun z => by rw [cov_perm pm]; exact hm z)
    have sub := lef_sub S.length S
    have ih := len_le fam hk m (lef S.length S) (fun d hd => hL d (hS d (sub d hd))) (fun d hd e he => nc d (hS d (sub d hd)) e (hS e (sub e he))) hl
    have g := hk _ (gre_ind S.length S) fun d hd => hL d (hS d (gre_sub _ _ d hd))
    have e := (gre_lef S.length S).length_eq
    have e2 := pm.length_eq
    rw [List.length_append] at e
    rw [Nat.add_mul]
    omega
theorem sum_lt {α : Type} {f : α → Nat} : ∀ {Z : List α} {w : α}, w ∈ Z → (∀ x ∈ Z, f x ≤ 1) → f w = 0 → (Z.map f).sum + 1 ≤ Z.length
  | [], _, h, _, _ => nomatch h
  | x :: Z, w, h, h1, h0 => by
    have le : ∀ Y : List α, (∀ x ∈ Y, f x ≤ 1) → (Y.map f).sum ≤ Y.length := by
      intro Y
      induction Y with
      | nil => exact fun _ => Nat.le_refl _
      | cons y Y ih =>
        intro hy
        have := ih fun x hx => hy x (List.mem_cons_of_mem _ hx)
        have := hy y List.mem_cons_self
        rw [List.map_cons, List.sum_cons, List.length_cons]
        omega
    have r := le Z fun x hx => h1 x (List.mem_cons_of_mem _ hx)
    have hx := h1 x List.mem_cons_self
    rw [List.map_cons, List.sum_cons, List.length_cons]
    rcases List.mem_cons.mp h with rfl | h
    · omega
    · have := sum_lt h (fun x hx => h1 x (List.mem_cons_of_mem _ hx)) h0
      omega
theorem cov_flat {α : Type} (I : α → List Dem) (z : Int × Int) : ∀ Z : List α, cov (Z.flatMap I) z = (Z.map fun w => cov (I w) z).sum
  | [] => rfl
  | x :: Z => by
    rw [List.flatMap_cons, cov_app, cov_flat I z Z, List.map_cons, List.sum_cons]
theorem len_flat {α β : Type} (I : α → List β) {k : Nat} : ∀ Z : List α, (∀ w ∈ Z, (I w).length = k) → (Z.flatMap I).length = Z.length * k
  | [], _ => by simp
  | x :: Z, h => by
    rw [List.flatMap_cons, List.length_append, len_flat I Z fun w hw => h w (List.mem_cons_of_mem _ hw), h x List.mem_cons_self, List.length_cons, Nat.add_mul]
    omega
theorem top_of (F : List Dem) : ∃ M : Nat, ∀ d ∈ F, d.2.2 ≤ M := by
  induction F with
  | nil => exact ⟨0, fun d hd => nomatch hd⟩
  | cons d F ih =>
    obtain ⟨M, h⟩ := ih
    refine ⟨M + d.2.2.toNat, fun e he => ?_⟩
    rcases List.mem_cons.mp he with rfl | he
    · omega
    · have := h e he
      omega
def box (M : Nat) : List (Int × Int) := (List.range (M + 1)).flatMap fun (x : Nat) => (List.range (M + 1)).map fun (y : Nat) => ((x : Int), (y : Int))
theorem mem_box {M : Nat} {z : Int × Int} (h : 0 ≤ z.1 ∧ z.1 ≤ M) (h2 : 0 ≤ z.2 ∧ z.2 ≤ M) : z ∈ box M := by
  unfold box
  refine List.mem_flatMap.mpr ⟨z.1.toNat, List.mem_range.mpr (by omega), List.mem_map.mpr ⟨z.2.toNat, List.mem_range.mpr (by omega), ?_⟩⟩
  exact Prod.ext (by show ((z.1.toNat : Nat) : Int) = z.1; omega) (by show ((z.2.toNat : Nat) : Int) = z.2; omega)
/-- a point that every largest selection has to pay for -/
theorem hits {F : List Dem} (fam : Fam F) {k : Nat} (hk : ∀ I, Ind I → (∀ d ∈ I, d ∈ F) → I.length ≤ k + 1) : ∃ z, ∀ I, Ind I → (∀ d ∈ I, d ∈ F) → I.length = k + 1 → ∃ d ∈ I, sv z d = true := by
  refine Classical.byContradiction fun no => ?_
  have miss : ∀ z, ∃ I, Ind I ∧ (∀ d ∈ I, d ∈ F) ∧ I.length = k + 1 ∧ ∀ d ∈ I, sv z d = false := fun z => by
    refine Classical.byContradiction fun h => no ⟨z, fun I i1 i2 i3 => Classical.byContradiction fun n => h ⟨I, i1, i2, i3, fun d hd => ?_⟩⟩
    rw [← Bool.not_eq_true]
    exact fun s => n ⟨d, hd, s⟩
  obtain ⟨I, hI⟩ := Classical.axiomOfChoice miss
  obtain ⟨M, hM⟩ := top_of F
  have hsub : ∀ d ∈ (box M).flatMap I, d ∈ F := fun d hd => by
    obtain ⟨w, _, h⟩ := List.mem_flatMap.mp hd
    exact (hI w).2.1 d h
  have hlen := len_flat I (k := k + 1) (box M) fun w _ => (hI w).2.2.1
  have pos : 0 < (box M).length := List.length_pos_of_mem (mem_box (M := M) (z := (0, 0)) ⟨by decide, by show (0 : Int) ≤ M; omega⟩ ⟨by decide, by show (0 : Int) ≤ M; omega⟩)
  have hc : ∀ z, cov ((box M).flatMap I) z ≤ (box M).length - 1 := fun z => by
    by_cases b : (0 ≤ z.1 ∧ z.1 ≤ M) ∧ 0 ≤ z.2 ∧ z.2 ≤ M
    · have s := sum_lt (f := fun w => cov (I w) z) (mem_box b.1 b.2) (fun x _ => (hI x).1.cov_le z) (List.countP_eq_zero.mpr fun d hd c => by
        rw [(hI z).2.2.2 d hd] at c
        cases c)
      rw [cov_flat]
      omega
    · have : cov ((box M).flatMap I) z = 0 := List.countP_eq_zero.mpr fun d hd c => b (by
        have c := sv_iff'.mp c
        have o := fam.ok d (hsub d hd)
        have t := hM d (hsub d hd)
        unfold Vd at o
        omega)
      omega
  obtain ⟨N, n1, n2, n3, n4⟩ := uncross fam _ _ hsub (Nat.lt_succ_self _)
  have := len_le fam hk ((box M).length - 1) N n1 n4 fun z => Nat.le_trans (n3 z) (hc z)
  rw [n2, hlen] at this
  obtain ⟨b, eb⟩ : ∃ b, (box M).length = b + 1 := ⟨(box M).length - 1, by omega⟩
  rw [eb, Nat.add_sub_cancel, Nat.add_mul, Nat.one_mul] at this
  omega
theorem Fam.rest {F : List Dem} (fam : Fam F) (z : Int × Int) : Fam (F.filter fun d => !sv z d) := by
  have hs : ∀ d, d ∈ F.filter (fun d => !sv z d) → d ∈ F ∧ sv z d = false := fun d hd => by
    have := List.mem_filter.mp hd
    exact ⟨this.1, by rw [← Bool.not_eq_true']; exact this.2⟩
  refine ⟨fun d hd => fam.ok d (hs d hd).1, fun d hd e he h1 h2 h3 c => ?_, fun d hd e he c => fam.cross d (hs d hd).1 e (hs e he).1 c⟩
  have x := fam.ex d (hs d hd).1 e (hs e he).1 h1 h2 h3 c
  have y := sv_exch (z := z) h1 h2 h3 c
  rw [(hs d hd).2, (hs e he).2] at y
  simp at y
  exact ⟨List.mem_filter.mpr ⟨x.1, by rw [y.1]; rfl⟩, List.mem_filter.mpr ⟨x.2, by rw [y.2]; rfl⟩⟩
/-- as many points as the largest selection has serve all -/
theorem min_max : ∀ (k : Nat) {F : List Dem}, Fam F → (∀ I, Ind I → (∀ d ∈ I, d ∈ F) → I.length ≤ k) → ∃ S : List (Int × Int), S.length ≤ k ∧ ∀ d ∈ F, ∃ z ∈ S, sv z d = true
  | 0, F, fam, hk => ⟨[], Nat.le_refl _, fun d hd => by
    have := hk [d] (List.pairwise_singleton _ _) fun e he => by
      rw [List.mem_singleton.mp he]
      exact hd
    exact absurd this (by simp)⟩
  | k + 1, F, fam, hk => by
    obtain ⟨z, hz⟩ := hits fam hk
    obtain ⟨S, s1, s2⟩ := min_max k (fam.rest z) fun I i1 i2 => by
      have sub : ∀ d ∈ I, d ∈ F ∧ sv z d = false := fun d hd => by
        have := List.mem_filter.mp (i2 d hd)
        exact ⟨this.1, by rw [← Bool.not_eq_true']; exact this.2⟩
      have le := hk I i1 fun d hd => (sub d hd).1
      by_cases e : I.length = k + 1
      · obtain ⟨d, hd, s⟩ := hz I i1 (fun d hd => (sub d hd).1) e
        rw [(sub d hd).2] at s
        cases s
      · omega
    refine ⟨z :: S, by rw [List.length_cons]; omega, fun d hd => ?_⟩
    by_cases s : sv z d = true
    · exact ⟨z, List.mem_cons_self, s⟩
    · obtain ⟨w, hw, q⟩ := s2 d (List.mem_filter.mpr ⟨hd, by rw [Bool.not_eq_true] at s; rw [s]; rfl⟩)
      exact ⟨w, List.mem_cons_of_mem _ hw, q⟩

/-! ### instances: len(o), str(o) by own defs; t += u; o.m(k = v) -/
section
variable {prog : Program} {w : World} {A : Around} {E : Value → Shared → Prop} {s : Shared}
theorem iconcat_meets {T id : String} {B : Builtin} {a b : Value} {S : PySem.Spec} {Q : Value → Shared → Prop} (ha : s.TypeIs a T) (hb : s.TypeIs b T) (hno : typeLookup (.type T) (dunderI "add") = pure none)
    (hfill : fillsNumberSlot (.type T) "add" = pure false) (hseq : seqSlot? (.type T) "__add__" = pure (some (.builtin id))) (slot : Slot T "__add__" id)
    (entry : entryFor table id = some B) (args : argsOk id ⟨[a, b], []⟩) (g : Meets (B ⟨[a, b], []⟩) S) (h : S A (wants Q E) s) : wpAny (model prog w) A (inplaceOp .Add a b) Q E s :=
  wpAny_inplaceOp_concat ha hb hno hfill hseq (call_meets slot ha entry args g h)
theorem noI_tuple_add : typeLookup (.type "tuple") (dunderI "add") = pure none := by rw [typeLookup_type, builtinLookup_eq_fast]; kernel_rfl
theorem icat_tup0 {t b : Addr} {ws : List Value} {Q : Value → Shared → Prop} (ht : IsTup s.heap t ([] : List Value).toArray) (hb : IsTup s.heap b ws.toArray) (h : Q (.ref b) s) : wpAny (model prog w) A (inplaceOp .Add (.ref t) (.ref b)) Q E s := by
  obtain ⟨⟨cls, dd, data, sl⟩, ho, hc, n, hd⟩ := id ht
  obtain ⟨⟨cls2, dd2, data2, sl2⟩, ho2, hc2, n2, hd2⟩ := id hb
  simp only at hc hd hc2 hd2
  subst hc hd hc2 hd2
  exact iconcat_meets ⟨_, ho, rfl⟩ ⟨_, ho2, rfl⟩ noI_tuple_add noFill_tuple_add seq_tuple_add PySem.F.slot_tuple_add PySem.F.entry_tuple_add (PySem.F.args_tuple_add_2 _ _)
    (tuple_addW0 t b ([] : List Value).toArray ws.toArray n n2 dd dd2 sl sl2 (by simp)) ⟨ho, ho2, h⟩
theorem icat_tup {t b : Addr} {vs ws : List Value} {Q : Value → Shared → Prop} (ht : IsTup s.heap t vs.toArray) (hb : IsTup s.heap b ws.toArray) (hv : vs ≠ [])
    (h1 : ws = [] → Q (.ref t) s) (h2 : ws ≠ [] → Q (.ref s.heap.objs.size) { s with heap := s.heap.push { cls := .type "tuple", data := .seq (vs ++ ws).toArray } })
    (hsz : vs.length + ws.length ≤ sizeLine) : wpAny (model prog w) A (inplaceOp .Add (.ref t) (.ref b)) Q E s := by
  obtain ⟨⟨cls, dd, data, sl⟩, ho, hc, n, hd⟩ := id ht
  obtain ⟨⟨cls2, dd2, data2, sl2⟩, ho2, hc2, n2, hd2⟩ := id hb
  simp only at hc hd hc2 hd2
  subst hc hd hc2 hd2
  have e : vs.toArray ++ ws.toArray = (vs ++ ws).toArray := by simp
  by_cases hw : ws = []
  · exact iconcat_meets ⟨_, ho, rfl⟩ ⟨_, ho2, rfl⟩ noI_tuple_add noFill_tuple_add seq_tuple_add PySem.F.slot_tuple_add PySem.F.entry_tuple_add (PySem.F.args_tuple_add_2 _ _)
      (tuple_addW1 t b vs.toArray ws.toArray n n2 dd dd2 sl sl2 (by simpa using hv) (by simp [hw])) ⟨ho, ho2, h1 hw⟩
  · refine iconcat_meets ⟨_, ho, rfl⟩ ⟨_, ho2, rfl⟩ noI_tuple_add noFill_tuple_add seq_tuple_add PySem.F.slot_tuple_add PySem.F.entry_tuple_add (PySem.F.args_tuple_add_2 _ _)
      (tuple_addW2 t b vs.toArray ws.toArray n n2 dd dd2 sl sl2 (by simpa using hv) (by simpa using hw) (by rw [List.size_toArray, List.size_toArray]; exact hsz)) ⟨ho, ho2, ?_⟩
    rw [e]
    exact h2 hw
end
section
variable {X : Cx}
/-- t += u (tuples) -/
theorem in_catA : InOp X .Add (rCatA X.K) := by
  intro pins s σ H x y v u Q I rx ry h
  obtain ⟨a, b, xs, ys, rfl, rfl, ha, hb, hz, q0, q1, q2⟩ := h
  by_cases hx : xs = []
  · subst hx
    cases rx
    cases ry
    obtain ⟨its, r1, p1, _⟩ := I.tuple ha
    obtain ⟨its2, r2, p2, _⟩ := I.tuple hb
    cases r1
    exact icat_tup0 p1 p2 ⟨.ref b, H, I, rfl, q0 rfl⟩
  · cases rx
    cases ry
    obtain ⟨its, r1, p1, _⟩ := I.tuple ha
    obtain ⟨its2, r2, p2, _⟩ := I.tuple hb
    refine icat_tup p1 p2 (fun z => hx (r1.nil_iff.mp z)) (fun z => ⟨.ref a, H, I, rfl, q1 hx (r2.nil_iff.mp z)⟩) (fun z => ?_) (by rw [← r1.length, ← r2.length]; exact hz)
    refine ⟨.ref s.heap.objs.size, _, I.laid (t' := s.toks) (o := .tup (xs ++ ys)) (fun b ob q => Heap.get?_push_of_some _ q) (Nat.le_refl _) ?_, rfl, q2 hx (fun w => z (r2.nil_iff.mpr w)) _ (I.hok.fresh (Nat.le_refl _))⟩
    exact ⟨by rw [List.length_append]; exact hz, _, r1.append r2, IsTup.new _ _⟩
/-- an own def called from within a builtin -/
theorem run_own {A : Around} {CX : CXT} {k : Nat} {f : Addr} {fd : FuncData} {ps : List Str} {sp : Sp} {E : XK} {pins : List (Addr × Obj)} {σ : L2.St} {H : Hp} {s : Shared} {Q : VK} {us : List Value} {vs : List V}
    (F : FnOk X.prog X.w X.K X.mg X.base CX k f fd ps sp) (hb : Binds X.K fd ps []) (hx : Passes CX X E) (hA : Room k A) (fr : A.frames = X.A.frames) (I : Inv X pins σ H s) (r : Vals vs us) (h : sp vs H Q E) :
    wpAny (model X.prog X.w) A (call (.ref f) us) (EP X pins σ Q) X.xe s := by
  have e0 : Env0 X.prog X.w X.K X.mg X.base A X.stack s H := by
    have e := I.env0
    exact ⟨by rw [fr]; exact e.frames, e.mod, e.bs, e.bsz, e.funs, e.frf, e.hok, e.bare⟩
  have hl := F.len _ _ _ _ h
  refine wpAny_call (codeAny_mono (F.run A X.stack s H ⟨us, []⟩ us vs Q E hA e0 (by
    have := hb s us I.kIn (by simpa using r.length.symm.trans hl)
    simpa using this) r h) fun r s' hq => ?_)
  cases r with
  | error e => exact hx pins σ H s e s' I hq
  | ok fl =>
    cases fl with
    | ret w => exact I.after hq
    | next => exact False.elim hq
    | brk => exact False.elim hq
    | cont => exact False.elim hq
theorem ins_inst {pins : List (Addr × Obj)} {σ : L2.St} {H : Hp} {s : Shared} {a C dx : Addr} {fs : List (Str × V)} (I : Inv X pins σ H s) (ha : H a = some (.ins C dx fs)) : ∃ ox od, PySem.W.InstAt s.heap a ox C od := by
  obtain ⟨mA, J, _⟩ := ins_get I.hok ha
  obtain ⟨od, J, _⟩ := J.look
  exact ⟨_, _, J⟩
/-- len(o), o's class with an own __len__ -/
def rLenOwn (C : Addr) (sp : Sp) (E : XK) : List V → Hp → VK → Prop := fun xs H Q => ∃ a dx fs, xs = [V.ref a] ∧ H a = some (.ins C dx fs) ∧ sp [.ref a] H (fun v H' => ∃ n : Int, v = .int n ∧ (0 ≤ n ∧ n < 2 ^ 63) ∧ Q (.int n) H') E
theorem cr_lenOwn {CX : CXT} {k : Nat} {C f : Addr} {fd : FuncData} {ps : List Str} {sp : Sp} {E : XK} (F : FnOk X.prog X.w X.K X.mg X.base CX k f fd ps sp) (hs : PySem.W.findIn X.K (.ref C) "__len__" = some (some (.ref f))) (hf : PySem.W.isFn X.K (.ref f) = true)
    (hb : Binds X.K fd ps []) (hx : Passes CX X E) (hr : Room (k + 1) X.A) : CallR X (.builtin "len") (rLenOwn C sp E) := by
  intro pins s σ H xs us Q I r h
  obtain ⟨a, dx, fs, rfl, ha, hsp⟩ := h
  rw [Vals.ref1 r]
  obtain ⟨ox, od, J⟩ := ins_inst I ha
  obtain ⟨m, hF⟩ := I.fr
  refine PySem.W.len_K hF I.ok.mod.kin J hs hf (wpAny_mono (run_own F hb hx hr.in1 rfl I (us := [.ref a]) (vs := [.ref a]) (.cons rfl .nil) hsp) (fun v s' z => ?_) fun _ _ x => x)
  obtain ⟨v', H', I', rv, n, rfl, hn, q⟩ := z
  obtain ⟨t, rfl⟩ := (show ∃ t, v = Value.int n t from rv)
  exact ⟨hn, .int n, H', I'.tok _, ⟨_, rfl⟩, q⟩
/-- str(o), o's class with an own __str__ -/
def rStrOwn (C : Addr) (sp : Sp) (E : XK) : List V → Hp → VK → Prop := fun xs H Q => ∃ a dx fs, xs = [V.ref a] ∧ H a = some (.ins C dx fs) ∧ sp [.ref a] H (fun v H' => ∃ n : Str, v = .str n ∧ Q (.str n) H') E
theorem cr_strOwn {CX : CXT} {k : Nat} {C f : Addr} {fd : FuncData} {ps : List Str} {sp : Sp} {E : XK} (F : FnOk X.prog X.w X.K X.mg X.base CX k f fd ps sp) (hs : PySem.W.findIn X.K (.ref C) "__str__" = some (some (.ref f))) (hf : PySem.W.isFn X.K (.ref f) = true)
    (hb : Binds X.K fd ps []) (hx : Passes CX X E) (hr : Room (k + 2) X.A) : CallR X (.type "str") (rStrOwn C sp E) := by
  intro pins s σ H xs us Q I r h
  obtain ⟨a, dx, fs, rfl, ha, hsp⟩ := h
  rw [Vals.ref1 r]
  obtain ⟨ox, od, J⟩ := ins_inst I ha
  have h2 : Room k X.A.in1.in1 := hr.in1.in1
  refine PySem.W.kso_call (h2.units0) I.kIn J hs hf (wpAny_mono (run_own F hb hx h2 rfl I (us := [.ref a]) (vs := [.ref a]) (.cons rfl .nil) hsp) (fun v s' z => ?_) fun _ _ x => x)
  obtain ⟨v', H', I', rv, n, rfl, q⟩ := z
  obtain ⟨t, rfl⟩ := (show ∃ t, v = Value.str n t from rv)
  exact ⟨.str n, H', I', ⟨_, rfl⟩, q⟩
/-- o.m(k = v, ..) -/
def tMethK (C : Addr) (m : Str) (n : Nat) (sp : Sp) (gV : List V → List V → List V) (E : XK) (ta : TE) (tk : TA) : TE := fun σ H Q => ta σ H fun x H1 => ∃ a dx fs, x = .ref a ∧ H1 a = some (.ins C dx fs) ∧ fs.lookup m = none ∧
  tk σ H1 fun zs H2 => zs.length = n ∧ sp (gV [.ref a] zs) H2 Q E
theorem pe_methK0 {CX : CXT} {k : Nat} {f C : Addr} {fd : FuncData} {ps ks : List Str} {sp : Sp} {E : XK} {m : Str} {pos apos : Pos} {o : Expr} {kws : List Keyword} {ta : TE} {tk : TA} {g : List Value → List Value → List Value} {gV : List V → List V → List V} {pl : Sem Bool}
    (he : PE X o ta) (c : Cls X.K C) (hm : Meth X.K C m f) (F : FnOk X.prog X.w X.K X.mg X.base CX k f fd ps sp) (hr : Room k X.A) (hb : KBn X.K fd ps 1 ks g gV) (hx : Passes CX X E) (hkw : PK X kws tk)
    (hall : (backToKw pos (keywordEach kws X.env)).all (·.1.isSome) = true := by rfl) (hks : (backToKw pos (keywordEach kws X.env)).filterMap (·.1) = ks := by rfl)
    (hpl : ((backTo pos (starEach [] X.env)).any (·.1) || (backToKw pos (keywordEach kws X.env)).any (·.1.isNone)) = false := by rfl)
    (ht : eval (.Call (.Attribute o m apos) [] kws pos) X.env = (do
      let ov ← eval o X.env
      standAt apos.atName
      let (f, first) ← holding [ov] (getMethod ov m pl)
      callWith pos f first (backTo pos (starEach [] X.env)) (backToKw pos (keywordEach kws X.env))) := by rfl) :
    PE X (.Call (.Attribute o m apos) [] kws pos) (tMethK C m ks.length sp gV E ta tk) := by
  refine ⟨fun pins s σ H Q I h => ?_⟩
  refine PySem.W.methodCall_KW (pl := pl) (thn (he.run pins s σ H _ I h) fun u s1 ⟨x, H1, I1, rx, a, dx, fs, ex, ea, l, q⟩ => ?_) ht
  subst ex
  obtain rfl : u = Value.ref a := rx
  refine getmeth_ok I1 ea c hm l ?_
  refine PySem.W.callWith_KW0 (first := [.ref a]) (h₀ := X.base) I.ok.mod.kin hm.kp hall (thn (hkw.run pos pins s1 σ H1 _ I1 q) fun ws s2 ⟨zs, H2, I2, rz, l2, q2⟩ => ⟨I2.kIn, ?_⟩) hpl
  rw [hks]
  exact run_fnN (us := [.ref a]) (vs := [.ref a]) F hr hb hx I2 (.cons rfl .nil) rz rfl l2 q2
end

/-! ### a == b by an own def -/
section
variable {X : Cx}
def rEqOwn (C : Addr) (sp : Sp) (E : XK) : R2 := fun x y H Q => ∃ a b dx dy fs gs, x = .ref a ∧ y = .ref b ∧ H a = some (.ins C dx fs) ∧ H b = some (.ins C dy gs) ∧ sp [.ref a, .ref b] H (fun v H' => ∃ k : Bool, v = .bl k ∧ Q (.bl k) H') E
theorem op_eqOwn {CX : CXT} {k : Nat} {C f : Addr} {fd : FuncData} {ps : List Str} {sp : Sp} {E : XK} (F : FnOk X.prog X.w X.K X.mg X.base CX k f fd ps sp) (hs : PySem.W.findIn X.K (.ref C) "__eq__" = some (some (.ref f))) (hf : PySem.W.isFn X.K (.ref f) = true)
    (hb : Binds X.K fd ps []) (hx : Passes CX X E) (hr : Room k X.A) : OpR X (compareOp .Eq) (rEqOwn C sp E) := by
  intro pins s σ H x y v u Q I rx ry h
  obtain ⟨a, b, dx, dy, fs, gs, rfl, rfl, ha, hb', hsp⟩ := h
  cases rx
  cases ry
  obtain ⟨ox, od, J⟩ := ins_inst I ha
  obtain ⟨ox', od', J'⟩ := ins_inst I hb'
  obtain ⟨m, hF⟩ := I.fr
  refine PySem.W.cmp_K (op := .Eq) (tb := .ref C) hr.units0 hF I.ok.mod.kin J J'.type (by simp [PySem.W.notFirst]) hs hf (wpAny_mono (run_own F hb hx hr rfl I (us := [.ref a, .ref b]) (vs := [.ref a, .ref b]) (.cons rfl (.cons rfl .nil)) hsp) (fun v s' z => ?_) fun _ _ x => x)
  obtain ⟨v', H', I', rv, k, rfl, q⟩ := z
  cases rv
  exact ⟨.bl k, H', I', rfl, q⟩
end

/-! ### a lambda of one parameter p with one captured name c, made in a def and called by a built-in -/
structure Lam1 (sc scope : Scope) (cap par : Str) : Prop where
  kind : scope.kind = .function
  co : scope.isCoroutine = false
  gen : scope.isGenerator = false
  parL : scope.names.lookup par = some .local
  cells : ∀ y ∈ scope.names, y.2 ≠ .cell
  locs : ∀ y, scope.names.lookup y = some .local → y = par
  free : ∀ y ∈ scope.names, y.2 = .free → sc.names.lookup y.1 = some .cell ∨ sc.names.lookup y.1 = some .free
  ne : cap ≠ par
def lam1B (sc scope : Scope) (cap par : Str) : Bool :=
  decide (scope.kind = .function) && !scope.isCoroutine && !scope.isGenerator && decide (scope.names.lookup par = some .local) && (scope.names.all fun y => !decide (y.2 = .cell)) && (scope.names.all fun y => !decide (y.2 = .local) || decide (y.1 = par))
    && (scope.names.all fun y => !decide (y.2 = .free) || decide (sc.names.lookup y.1 = some .cell) || decide (sc.names.lookup y.1 = some .free)) && !decide (cap = par)
theorem lam1_by {sc scope : Scope} {cap par : Str} (h : lam1B sc scope cap par = true) : Lam1 sc scope cap par := by
  unfold lam1B at h
  simp only [Bool.and_eq_true, Bool.or_eq_true, Bool.not_eq_true', decide_eq_true_eq, decide_eq_false_iff_not, List.all_eq_true] at h
  obtain ⟨⟨⟨⟨⟨⟨⟨h1, h2⟩, h3⟩, h4⟩, h5⟩, h6⟩, h7⟩, h8⟩ := h
  refine ⟨h1, h2, h3, h4, h5, fun y e => ?_, fun y hy e => ?_, h8⟩
  · rcases h6 _ (PySem.mem_of_lookup e) with z | z
    · exact absurd rfl z
    · exact z
  · rcases h7 y hy with (z | z) | z
    · exact absurd e z
    · exact .inl z
    · exact .inr z
theorem Lam1.has {X : Cx} {scope : Scope} {cap par : Str} (L : Lam1 X.env.scope scope cap par) (ok : X.Ok) : ∀ y ∈ scope.names, y.2 = .free → ∃ c, X.env.cells.lookup y.1 = some c := fun y hy e => by
  rcases L.free y hy e with k | k
  · exact ok.has _ (.inl k)
  · exact ok.has _ (.inr k)
/-- the context of the lambda's body -/
def lamCx1 (X : Cx) (A : Around) (s : Shared) (H : Hp) (scope : Scope) (cap par : Str) (f c' : Addr) : Cx where
  prog := X.prog
  w := X.w
  K := X.K
  mg := X.mg
  base := X.base
  A := A.deeper (LamX.lamEnv X scope s.heap.objs.size f c')
  N := [cap, par]
  s_0 := s
  H_0 := H
  env := LamX.lamEnv X scope s.heap.objs.size f c'
  outer := X.stack
  stack := LamX.lamEnv X scope s.heap.objs.size f c' :: X.stack
  ex := []
  fn := fun _ => false
  calm := true
  pn := []
  xe := fun _ _ => False
section
variable {X : Cx} {pins : List (Addr × Obj)} {σ : L2.St} {HZ : Hp} {s1 : Shared}
theorem lam_start1 {A : Around} {scope : Scope} {cap par : Str} {f c' : Addr} {h₁ : Heap} {tk i : Nat} {cv pv : V} {u : Value} (I : Inv X pins σ HZ s1) (L : Lam1 X.env.scope scope cap par) (hi : X.N[i]? = some cap) (hσ : σ[i]? = some (some cv))
    (hA : A.frames = some X.stack) (hd : A.handled = none) (hns : h₁.Ns s1.heap.objs.size fun y => ([(par, u)] : List (Str × Value)).reverse.lookup y) (rv : RelV pv u) (keep1 : ∀ b o, s1.heap.get? b = some o → h₁.get? b = some o) :
    Inv (lamCx1 X A s1 HZ scope cap par f c') [] [some cv, some pv] HZ { s1 with heap := h₁, toks := tk } := by
  have e0 := I.env0
  have caps := L.has I.ok
  have ofClo : ∀ {y c}, (cloFrom X.env.cells scope.names []).lookup y = some c → X.env.cells.lookup y = some c := fun {y c} e => by
    rcases cloFrom_mem (PySem.mem_of_lookup e) with zz | ⟨q1, q2⟩
    · cases zz
    · obtain ⟨cc, hc⟩ := caps _ q1 rfl
      have hc : X.env.cells.lookup y = some cc := hc
      have e2 : c = cc := by
        rw [q2, hc] <;> rfl
      rw [e2]
      exact hc
  have hasC : ∀ {y}, scope.names.lookup y = some .free → ∃ c, (cloFrom X.env.cells scope.names []).lookup y = some c := fun {y} hl => by
    have hy : (y, NameKind.free) ∈ scope.names := PySem.mem_of_lookup hl
    exact mem_lookup (cloFrom_has (cells := X.env.cells) (acc := []) hy)
  have cellK : ∀ {c : Addr} {v : Option Value}, s1.heap.IsCell c v → h₁.IsCell c v := fun {c v} ⟨o, ho, hd⟩ => ⟨o, keep1 _ _ ho, hd⟩
  have noEx : ∀ b : Addr, b ∉ (lamCx1 X A s1 HZ scope cap par f c').ex := fun b z => absurd (show b ∈ ([] : List Addr) from z) (by simp)
  refine ⟨⟨e0.mod, L.kind, rfl, rfl, Nat.le_refl _, fun y z c e1 e2 => I.ok.inj y z c (ofClo e1) (ofClo e2), fun y hy => ?_, fun y c z _ => ?_, fun _ => hd, Around.frames_deeper hA, .inr ⟨rfl, rfl⟩, fun b z => absurd z (noEx b), e0.bs, e0.bsz, fun b _ _ => noEx b,
      fun b z => absurd z (noEx b), e0.funs, e0.frf⟩,
    rfl, e0.bare, Un.kept keep1, ⟨_, hns, fun j y v e1 e2 e3 => ?_⟩, fun y c e => ?_, e0.hok.fresh (Nat.le_refl _), fun y c e => ?_, fun q hq => absurd (show q ∈ ([] : List (Addr × Obj)) ++ [] from hq) (by simp), e0.hok.kept keep1, rfl⟩
  · have hy : scope.names.lookup y = some .cell ∨ scope.names.lookup y = some .free := hy
    rcases hy with hy | hy
    · exact absurd rfl (L.cells _ (PySem.mem_of_lookup hy))
    · exact hasC hy
  · have z : false = true := z
    cases z
  · have e3 : Vis scope y := e3
    match j, e1, e2 with
    | 0, e1, e2 =>
      cases e1
      cases e2
      rcases e3 with k | k | k
      · exact absurd (L.locs _ k) L.ne
      · exact absurd rfl (L.cells _ (PySem.mem_of_lookup k))
      · obtain ⟨m, hn, hl⟩ := I.loc
        have hvis : Vis X.env.scope cap := (L.free _ (PySem.mem_of_lookup k) rfl).elim (fun k => .inr (.inl k)) (fun k => .inr (.inr k))
        obtain ⟨w', r, q⟩ := hl i cap cv hi hσ hvis
        obtain ⟨c2, h2⟩ := hasC k
        refine ⟨w', r, .inr ⟨.inr k, c2, h2, ?_⟩⟩
        have c1 := ofClo h2
        rcases q with ⟨k', _⟩ | ⟨_, c3, e', z⟩
        · have k' : X.env.scope.names.lookup cap = some .local := k'
          rcases L.free _ (PySem.mem_of_lookup k) rfl with k2 | k2 <;> rw [show X.env.scope.names.lookup cap = _ from k2] at k' <;> cases k'
        · rw [c1] at e'
          cases e'
          exact cellK z
    | 1, e1, e2 =>
      cases e1
      cases e2
      refine ⟨u, rv, .inl ⟨L.parL, ?_⟩⟩
      simp [List.lookup]
    | n + 2, e1, e2 => cases e1
  · obtain ⟨w', z⟩ := I.cell y c (ofClo e)
    exact ⟨w', cellK z⟩
  · exact I.freeC y c (ofClo e)
/-- the lambda called with u -/
theorem lam_call1 {A : Around} {scope : Scope} {cap par : Str} {f c' : Addr} {pm ctv : Value} {params : Arguments} {body : Expr} {k i : Nat} {cv pv : V} {u : Value} {tb : TE} {Q : VK} (I : Inv X pins σ HZ s1) (L : Lam1 X.env.scope scope cap par) (hi : X.N[i]? = some cap) (hσ : σ[i]? = some (some cv))
    (hA : A.frames = some X.stack) (hr : Room (k + 1) A)
    (hf : s1.heap.get? f = some (PySem.W.kla_obj "<lambda>" (X.env.qual ++ "<lambda>") params body scope (cloFrom X.env.cells scope.names []) pm c' ctv)) (hc : HZ c' = some (LamX.CodeO c' (X.env.qual ++ "<lambda>")))
    (hbind : bindArgs (PySem.W.kla_fn "<lambda>" (X.env.qual ++ "<lambda>") params body scope (cloFrom X.env.cells scope.names []) pm (.ref c') ctv) ⟨[u], []⟩ = pure [(par, u)])
    (hbody : Room k (A.deeper (LamX.lamEnv X scope s1.heap.objs.size f c')) → PE (lamCx1 X A s1 HZ scope cap par f c') body tb) (rv : RelV pv u) (ht : tb [some cv, some pv] HZ Q) :
    wpAny (model X.prog X.w) A (call (.ref f) [u]) (fun x s' => ∃ v H', Inv X pins σ H' s' ∧ RelV v x ∧ Q v H' ∧ Un (frs X.stack) [] HZ H' s1.heap s'.heap) (fun _ _ => False) s1 := by
  obtain ⟨⟨oc, vs, t, hoc, hdc, hvc⟩, _, _⟩ := I.hok c' _ hc
  have rc : codeAny (model X.prog X.w) A (.call (.ref f) ⟨[u], []⟩) (CR CX0 X.stack X.prog X.w HZ s1 Q E0) s1 := by
    refine PySem.W.kla_callFunE hr.depth hf rfl L.co L.gen rfl ⟨c', oc, vs, t, rfl, hoc, hdc, hvc⟩ ?_
    rw [hbind]
    refine wpAny_pure (wpAny_newFunctionEnv L.cells (fun y hy => by rw [List.mem_singleton.mp hy]; exact L.parL) (fun h₁ hns hsb => ⟨I.nolimit.fresh _ hsb, ?_⟩) L.kind)
    show codeAny _ _ (.expr body (LamX.lamEnv X scope s1.heap.objs.size f c')) _ _
    have keep1 : ∀ b o, s1.heap.get? b = some o → h₁.get? b = some o := fun b o e => hsb.extBut b o (Nat.ne_of_lt (Heap.lt_size e)) (Heap.get?_push_of_some _ e)
    have J := lam_start1 (A := A) (f := f) (c' := c') (tk := s1.toks + ([(par, u)] : List (Str × Value)).length) I L hi hσ hA hr.hd hns rv keep1
    refine PySem.W.kla_codeExpr (wpAny_mono ((hbody (hr.deeper _)).run [] _ _ HZ Q J ht) (fun v s' hq => ?_) fun e s' hq => hq.elim)
    obtain ⟨w', H', J', rv', q⟩ := hq
    exact ⟨w', H', J'.os, J'.bare, J'.base, J'.hok, rv', q⟩
  refine wpAny_call (codeAny_mono rc fun r s' hq => ?_)
  cases r with
  | error e => exact (show False from hq).elim
  | ok fl =>
    cases fl with
    | ret x =>
      obtain ⟨v, H', os, bare, un, hok, r, q⟩ := hq
      exact ⟨v, H', I.call' os un hok bare (fun b z => absurd z (by simp)), r, q, un⟩
    | next => exact False.elim hq
    | brk => exact False.elim hq
    | cont => exact False.elim hq
end

/-! ### min(xs, key=f), f a function of the program's own -/
/-- the first of the least keys -/
def Lowest (kf : Nat → Int) (n i : Nat) : Prop := ∀ j, j < n → kf i ≤ kf j ∧ (j < i → kf i < kf j)
structure RawA (X : Cx) (pins : List (Addr × Obj)) (b : Addr) : Prop where
  sz : X.s_0.heap.objs.size ≤ b
  loc : b ≠ X.env.locals
  cell : ∀ x c, X.env.cells.lookup x = some c → c ≠ b
  pin : ∀ p ∈ X.pn ++ pins, p.1 ≠ b
  fr : b ∉ frs X.stack
theorem RawA.of {X : Cx} {pins : List (Addr × Obj)} {σ : L2.St} {H : Hp} {s : Shared} (I : Inv X pins σ H s) {b : Addr} (h : s.heap.objs.size ≤ b) : RawA X pins b where
  sz := Nat.le_trans I.sz h
  loc := (Nat.ne_of_lt (Nat.lt_of_lt_of_le I.lt h)).symm
  cell := fun x c e => by
    obtain ⟨v, o, ho, _⟩ := I.cell x c e
    exact Nat.ne_of_lt (Nat.lt_of_lt_of_le (Heap.lt_size ho) h)
  pin := fun p hp => Nat.ne_of_lt (Nat.lt_of_lt_of_le (Heap.lt_size (I.pin p hp).1) h)
  fr := fun z => by
    rcases List.mem_cons.mp (I.stkSub _ z) with e | e
    · have h1 := I.lt
      rw [← e] at h1
      exact Nat.lt_irrefl _ (Nat.lt_of_lt_of_le h1 h)
    · exact I.nofs h e
structure InLp (X : Cx) (pins : List (Addr × Obj)) (σ : L2.St) (Φ : Hp → Prop) (I S f : Addr) (fo : Obj) (s : Shared) : Prop where
  ex : ∃ H, Inv X pins σ H s ∧ Φ H ∧ H I = none ∧ H S = none ∧ H f = none
  fn : s.heap.get? f = some fo
section
variable {X : Cx} {pins : List (Addr × Obj)} {σ : L2.St} {Φ : Hp → Prop} {l I S f : Addr} {fo : Obj} {as : List Addr} {R : Result → Shared → Prop}
theorem InLp.turn {s : Shared} (L : InLp X pins σ Φ I S f fo s) {it : Addr} {h' : Heap} {t' : Nat} (hit : it = I ∨ it = S) (r : RawA X pins it) (ne : it ≠ f) (k : ∀ b o, b ≠ it → s.heap.get? b = some o → h'.get? b = some o) : InLp X pins σ Φ I S f fo { s with heap := h', toks := t' } := by
  obtain ⟨H, inv, φ, n1, n2, n3⟩ := L.ex
  refine ⟨⟨H, inv.turned (it := it) k ?_ r.loc (.inr r.sz) r.cell r.pin, φ, n1, n2, n3⟩, k _ _ ne.symm L.fn⟩
  rcases hit with rfl | rfl
  · exact n1
  · exact n2
def KeyI (X : Cx) (pins : List (Addr × Obj)) (σ : L2.St) (Φ : Hp → Prop) (f : Addr) (fo : Obj) (as : List Addr) (kf : Nat → Int) : Prop :=
  ∀ (i : Nat) (a : Addr), as[i]? = some a → ∀ (s : Shared) (H : Hp), Inv X pins σ H s → Φ H → H f = none → s.heap.get? f = some fo →
    wpAny (model X.prog X.w) X.A.in1 (call (.ref f) [.ref a]) (fun x s' => (∃ t, x = .int (kf i) t) ∧ ∃ H', Inv X pins σ H' s' ∧ Φ H' ∧ Un (frs X.stack) [] H H' s.heap s'.heap) (fun _ _ => False) s
theorem minL_loop (kf : Nat → Int) (hh : X.A.handled = none) (isL : ∀ s H, Inv X pins σ H s → Φ H → s.heap.IsList l (as.map Value.ref).toArray) (lI : l ≠ I) (SI : S ≠ I) (If : I ≠ f) (Sf : S ≠ f) (rI : RawA X pins I) (rS : RawA X pins S) (nf : f ∉ frs X.stack) (key : KeyI X pins σ Φ f fo as kf)
    (fin : ∀ i a s, as[i]? = some a → Lowest kf as.length i → InLp X pins σ Φ I S f fo s → R (.ok (.ret (.ref a))) s) :
    ∀ (r j i : Nat) (s : Shared) (ab : Addr) (tb : Tok) (c : Nat), as.length - (j + 1) = r → j + 1 ≤ as.length → InLp X pins σ Φ I S f fo s →
      s.heap.get? S = some (seqObj "list" #[.ref ab, .int (kf i) tb] c) → s.heap.IsListIter I l (j + 1) → as[i]? = some ab → i ≤ j → Lowest kf (j + 1) i →
      codeAny (model X.prog X.w) X.A (.builtin "min.loop" ⟨[.ref I, .ref f, .ref S], []⟩) R s := by
  have nm : (toString "min" ++ toString ".loop" : String) = "min.loop" := by decide
  have wk := Walks.list (prog := X.prog) (w := X.w) (A := X.A.in1) hh I l lI (as.map Value.ref).toArray
  have sz : (as.map Value.ref).toArray.size = as.length := by simp
  intro r
  induction r with
  | zero =>
    intro j i s ab tb c er jl L gS it ev ij top
    have last : j + 1 = as.length := by omega
    refine codeAny_builtin PySem.F.entry_min_loop ?_
    rw [Around.under_plainId PySem.F.plain_min_loop _]
    show wpAny _ X.A.in1 (seqItems? (Value.ref S) >>= _) _ _ _
    refine wpAny_bind (wpAny_seqItems gS rfl ?_)
    show wpAny _ X.A.in1 (tryCatch (pyNext (Value.ref I)) _ >>= _) _ _ _
    refine wpAny_bind (wpAny_tryCatch (wk.done _ _ _ ⟨by rw [sz, ← last]; exact it, by
      obtain ⟨H, inv, φ, _⟩ := L.ex
      exact isL _ _ inv φ⟩ fun h1 tk1 k1 => ?_))
    have k1' : ∀ b o, b ≠ I → s.heap.get? b = some o → h1.get? b = some o := fun b o nb e => k1 b o (fun z => nb (List.mem_singleton.mp z)) e
    have L1 := L.turn (t' := tk1) (.inl rfl) rI If k1'
    have gS1 := k1' S _ SI gS
    have u1 := Heap.SameBut.update h1 S (Obj.mapSeq (fun _ => (#[] : Array Value)))
    show wpAny _ X.A.in1 (updateSeq S (fun _ => #[]) >>= fun _ => _) _ _ _
    refine wpAny_bind (wpAny_updateSeq gS1 rfl (wpAny_bind (wpAny_letGo (wpAny_pure ?_))))
    exact fin i ab _ ev (by rw [← last]; exact top) (L1.turn (.inr rfl) rS Sf fun b o nb e => (u1.2 b nb).trans e)
  | succ r ih =>
    intro j i s ab tb c er jl L gS it ev ij top
    have more : j + 1 < as.length := by omega
    refine codeAny_builtin PySem.F.entry_min_loop ?_
    rw [Around.under_plainId PySem.F.plain_min_loop _]
    show wpAny _ X.A.in1 (seqItems? (Value.ref S) >>= _) _ _ _
    refine wpAny_bind (wpAny_seqItems gS rfl ?_)
    show wpAny _ X.A.in1 (tryCatch (pyNext (Value.ref I)) _ >>= _) _ _ _
    refine wpAny_bind (wpAny_tryCatch (wk.item (j + 1) _ _ _ (by rw [sz]; exact more) ⟨it, by
      obtain ⟨H, inv, φ, _⟩ := L.ex
      exact isL _ _ inv φ⟩ fun v h1 tk1 pv it1 k1 => ?_))
    obtain ⟨a1, ev1, rfl⟩ : ∃ a1, as[j + 1]? = some a1 ∧ v = Value.ref a1 := by
      have z : (as.map Value.ref)[j + 1]? = some v := by simpa using pv
      rw [List.getElem?_map] at z
      obtain ⟨a1, e1, e2⟩ := Option.map_eq_some_iff.mp z
      exact ⟨a1, e1, e2.symm⟩
    have k1' : ∀ b o, b ≠ I → s.heap.get? b = some o → h1.get? b = some o := fun b o nb e => k1 b o (fun z => nb (List.mem_singleton.mp z)) e
    have L1 := L.turn (t' := tk1) (.inl rfl) rI If k1'
    have gS1 := k1' S _ SI gS
    obtain ⟨oI, gI, cI, dI⟩ := it1.1
    obtain ⟨H1, inv1, φ1, nI1, nS1, nf1⟩ := L1.ex
    show wpAny _ X.A.in1 (tryCatch (holding [.ref a1] (call (Value.ref f) [.ref a1])) _ >>= _) _ _ _
    refine wpAny_bind (wpAny_tryCatch (wpAny_holding (wpAny_mono (key (j + 1) a1 ev1 _ H1 inv1 φ1 nf1 L1.fn) (fun x s2 hx => ?_) (fun _ _ no => no.elim))))
    obtain ⟨⟨t2, rfl⟩, H2, inv2, φ2, un⟩ := hx
    have gS2 : s2.heap.get? S = _ := un.keep S _ gS1 nS1 rS.fr (by simp)
    have gI2 : s2.heap.get? I = _ := un.keep I _ gI nI1 rI.fr (by simp)
    have gf2 : s2.heap.get? f = _ := un.keep f _ L1.fn nf1 nf (by simp)
    have L2' : InLp X pins σ Φ I S f fo s2 := ⟨⟨H2, inv2, φ2, un.free I _ gI nI1 (by simp), un.free S _ gS1 nS1 (by simp), un.free f _ L1.fn nf1 (by simp)⟩, gf2⟩
    show wpAny _ X.A.in1 (tryCatch (holding [.ref a1, Value.int (kf (j + 1)) t2] (richCompare .Lt (.int (kf (j + 1)) t2) (.int (kf i) tb) >>= _)) _ >>= _) _ _ _
    refine wpAny_bind (wpAny_tryCatch (wpAny_holding (wpAny_bind (CmpOf.ints_lt (prog := X.prog) (w := X.w) (A := X.A.in1) (P := fun n u => ∃ t, u = .int (kf n) t) kf (fun n u z => z) (j + 1) i _ _ _ _ _ ⟨t2, rfl⟩ ⟨tb, rfl⟩ ?_))))
    refine wpAny_bind (wpAny_holding (wpAny_truthy_bool (wpAny_bind (wpAny_letGo (wpAny_pure ?_)))))
    by_cases up : kf (j + 1) < kf i
    · have u1 := Heap.SameBut.update s2.heap S (Obj.mapSeq (fun _ => #[.ref a1, .int (kf (j + 1)) t2]))
      obtain ⟨c2, gS3⟩ : ∃ c2, (s2.heap.update S (Obj.mapSeq fun _ => #[.ref a1, .int (kf (j + 1)) t2])).get? S = some (seqObj "list" #[.ref a1, .int (kf (j + 1)) t2] c2) := ⟨_, get?_update_seq gS2 fun _ => _⟩
      simp only [up, decide_true, if_true]
      refine wpAny_bind (wpAny_updateSeq gS2 rfl (wpAny_bind (wpAny_letGo ?_)))
      rw [nm]
      refine wpAny_pure ⟨plainId_quiet PySem.F.plain_min_loop _, ih (j + 1) (j + 1) _ a1 t2 c2 (by omega) more (L2'.turn (.inr rfl) rS Sf fun b o nb e => (u1.2 b nb).trans e) gS3 ⟨oI, (u1.2 I SI.symm).trans gI2, cI, dI⟩ ev1 (Nat.le_refl _) fun n hn => ?_⟩
      by_cases e : n = j + 1
      · subst e
        exact ⟨Int.le_refl _, fun z => absurd z (Nat.lt_irrefl _)⟩
      · have := (top n (by omega)).1
        exact ⟨by omega, fun _ => by omega⟩
    · simp only [up, decide_false, Bool.false_eq_true, if_false]
      refine wpAny_bind (wpAny_letGo ?_)
      rw [nm]
      refine wpAny_pure ⟨plainId_quiet PySem.F.plain_min_loop _, ih (j + 1) i _ ab tb c (by omega) more (L2'.turn (.inr rfl) rS Sf fun b o nb e => e) gS2 ⟨oI, gI2, cI, dI⟩ ev (by omega) fun n hn => ?_⟩
      by_cases e : n = j + 1
      · subst e
        exact ⟨by omega, fun z => absurd z (by omega)⟩
      · exact top n (by omega)
theorem minL {s : Shared} {Q : Value → Shared → Prop} {E : Value → Shared → Prop} {H : Hp} (kf : Nat → Int) (inv : Inv X pins σ H s) (φ : Φ H) (hh : X.A.handled = none) (isL : ∀ s H, Inv X pins σ H s → Φ H → s.heap.IsList l (as.map Value.ref).toArray) (some1 : 0 < as.length) (hf : s.heap.get? f = some fo) (hn : H f = none) (nf : f ∉ frs X.stack) (key : KeyI X pins σ Φ f fo as kf)
    (fin : ∀ i a s H, as[i]? = some a → Lowest kf as.length i → Inv X pins σ H s → Φ H → Q (.ref a) s) :
    wpAny (model X.prog X.w) X.A (call (.builtin "min") [.ref l] [(Str.ofString "key", .ref f)]) Q E s := by
  have nm : (toString "min" ++ toString ".loop" : String) = "min.loop" := by decide
  have isL0 := isL s H inv φ
  have isL1 := isL0
  obtain ⟨ol, gl, _⟩ := isL1
  have ll : l < s.heap.objs.size := Heap.lt_size gl
  have lf : f < s.heap.objs.size := Heap.lt_size hf
  refine kmb_tree PySem.F.kind_min PySem.F.plain_min PySem.F.entry_min (kmb_min_key _ _) ?_
  show wpAny _ X.A.in1 (Builtin.Builtins.bindParams "min" ["key", "default"] 0 ⟨[], [(Str.ofString "key", Value.ref f)]⟩ >>= _) _ _ s
  refine wpAny_bind (wpAny_of_eq (show Builtin.Builtins.bindParams "min" ["key", "default"] 0 ⟨[], [(Str.ofString "key", Value.ref f)]⟩ = pure [some (.ref f), none] from rfl) ?_)
  refine wpAny_bind (wpAny_pure (wpAny_bind (wpAny_pyIter_list isL0 (wpAny_bind (wpAny_newList ?_ (Nat.zero_le _))))))
  rw [nm]
  have it0 := Heap.get?_push_size s.heap (o := { cls := .type "list_iterator", data := .fields #[.ref l, .int 0 0] }) rfl
  have z1 : (s.heap.push { cls := .type "list_iterator", data := .fields #[.ref l, .int 0 0] }).objs.size = s.heap.objs.size + 1 := Heap.size_push ..
  have k1 : Stay s.heap (s.heap.push { cls := .type "list_iterator", data := .fields #[.ref l, .int 0 0] }) := fun b o e => Heap.get?_push_of_some _ e
  generalize s.heap.push { cls := .type "list_iterator", data := .fields #[.ref l, .int 0 0] } = g1 at *
  have gS := Heap.get?_push_size g1 (o := seqObj "list" #[] 0) rfl
  have k2 : Stay g1 (g1.push (seqObj "list" #[] 0)) := fun b o e => Heap.get?_push_of_some _ e
  have gI := k2 _ _ it0
  generalize g1.push (seqObj "list" #[] 0) = g2 at *
  rw [z1] at gS ⊢
  have st2 : Stay s.heap g2 := fun b o e => k2 b o (k1 b o e)
  have SI : s.heap.objs.size + 1 ≠ s.heap.objs.size := Nat.succ_ne_self _
  have lI : l ≠ s.heap.objs.size := Nat.ne_of_lt ll
  have If : s.heap.objs.size ≠ f := (Nat.ne_of_lt lf).symm
  have Sf : s.heap.objs.size + 1 ≠ f := (Nat.ne_of_lt (Nat.lt_succ_of_lt lf)).symm
  have rI : RawA X pins s.heap.objs.size := RawA.of inv (Nat.le_refl _)
  have rS : RawA X pins (s.heap.objs.size + 1) := RawA.of inv (Nat.le_succ _)
  have L0 : InLp X pins σ Φ s.heap.objs.size (s.heap.objs.size + 1) f fo { s with heap := g2 } := ⟨⟨H, inv.kept st2, φ, inv.hok.fresh (Nat.le_refl _), inv.hok.fresh (Nat.le_succ _), hn⟩, st2 _ _ hf⟩
  have wk := Walks.list (prog := X.prog) (w := X.w) (A := X.A.in1) hh s.heap.objs.size l lI (as.map Value.ref).toArray
  have sz : (as.map Value.ref).toArray.size = as.length := by simp
  refine wpAny_pure ⟨plainId_quiet PySem.F.plain_min_loop _, codeAny_builtin PySem.F.entry_min_loop ?_⟩
  rw [Around.under_plainId PySem.F.plain_min_loop _]
  show wpAny _ X.A.in1 (seqItems? (Value.ref _) >>= _) _ _ _
  refine wpAny_bind (wpAny_seqItems gS rfl ?_)
  show wpAny _ X.A.in1 (tryCatch (pyNext (Value.ref s.heap.objs.size)) _ >>= _) _ _ _
  refine wpAny_bind (wpAny_tryCatch (wk.item 0 _ _ _ (by rw [sz]; exact some1) ⟨⟨_, gI, rfl, rfl⟩, isL_stay st2 isL0⟩ fun v h1 tk1 pv it1 kk => ?_))
  obtain ⟨a1, ev1, rfl⟩ : ∃ a1, as[0]? = some a1 ∧ v = Value.ref a1 := by
    have z : (as.map Value.ref)[0]? = some v := by simpa using pv
    rw [List.getElem?_map] at z
    obtain ⟨a1, e1, e2⟩ := Option.map_eq_some_iff.mp z
    exact ⟨a1, e1, e2.symm⟩
  have kk' : ∀ b o, b ≠ s.heap.objs.size → g2.get? b = some o → h1.get? b = some o := fun b o nb e => kk b o (fun z => nb (List.mem_singleton.mp z)) e
  have L1 := L0.turn (t' := tk1) (.inl rfl) rI If kk'
  have gS1 := kk' _ _ SI gS
  obtain ⟨oI, gI1, cI, dI⟩ := it1.1
  obtain ⟨H1, inv1, φ1, nI1, nS1, nf1⟩ := L1.ex
  show wpAny _ X.A.in1 (tryCatch (holding [.ref a1] (call (Value.ref f) [.ref a1])) _ >>= _) _ _ _
  refine wpAny_bind (wpAny_tryCatch (wpAny_holding (wpAny_mono (key 0 a1 ev1 _ H1 inv1 φ1 nf1 L1.fn) (fun x s2 hx => ?_) (fun _ _ no => no.elim))))
  obtain ⟨⟨t2, rfl⟩, H2, inv2, φ2, un⟩ := hx
  have gS2 := un.keep _ _ gS1 nS1 rS.fr (by simp)
  have gI2 := un.keep _ _ gI1 nI1 rI.fr (by simp)
  have gf2 := un.keep f _ L1.fn nf1 nf (by simp)
  have L2' : InLp X pins σ Φ s.heap.objs.size (s.heap.objs.size + 1) f fo s2 := ⟨⟨H2, inv2, φ2, un.free _ _ gI1 nI1 (by simp), un.free _ _ gS1 nS1 (by simp), un.free f _ L1.fn nf1 (by simp)⟩, gf2⟩
  have u1 := Heap.SameBut.update s2.heap (s.heap.objs.size + 1) (Obj.mapSeq (fun _ => #[.ref a1, .int (kf 0) t2]))
  obtain ⟨c2, gS3⟩ : ∃ c2, (s2.heap.update (s.heap.objs.size + 1) (Obj.mapSeq fun _ => #[.ref a1, .int (kf 0) t2])).get? (s.heap.objs.size + 1) = some (seqObj "list" #[.ref a1, .int (kf 0) t2] c2) := ⟨_, get?_update_seq gS2 fun _ => _⟩
  show wpAny _ X.A.in1 (updateSeq (s.heap.objs.size + 1) (fun _ => #[.ref a1, .int (kf 0) t2]) >>= _) _ _ _
  refine wpAny_bind (wpAny_updateSeq gS2 rfl ?_)
  rw [nm]
  refine wpAny_pure ⟨plainId_quiet PySem.F.plain_min_loop _, minL_loop kf hh isL lI SI If Sf rI rS nf key (fun i a s' e low L => ?_) _ 0 0 _ a1 t2 c2 rfl some1 (L2'.turn (.inr rfl) rS Sf fun b o nb e => (u1.2 b nb).trans e) gS3 ⟨oI, (u1.2 _ SI.symm).trans gI2, cI, dI⟩ ev1 (Nat.le_refl _) fun n hn => ?_⟩
  · obtain ⟨H', inv', φ', _⟩ := L.ex
    exact fin i a s' H' e low inv' φ'
  · have e : n = 0 := by omega
    subst e
    exact ⟨Int.le_refl _, fun z => absurd z (Nat.lt_irrefl _)⟩
end

/-- all but what stands at P stays -/
abbrev ButAt (P : Addr) (H H' : Hp) : Prop := ∀ b o, b ≠ P → H b = some o → H' b = some o
/-- the lambda is made: nothing but its maker's table changes -/
theorem lam_make3 {X : Cx} {pins : List (Addr × Obj)} {σ : L2.St} {H : Hp} {s : Shared} {c P : Addr} {params : Arguments} {body : Expr} {scope : Scope} {pos : Pos} {E : Value → Shared → Prop} {Q : Value → Shared → Prop} (I : Inv X pins σ H s) (TB : LamX.TabB X.base X.mg c P) (hcode : X.env.code = .ref c)
    (tab : LamX.TabS H P (X.env.qual ++ "<lambda>")) (hdef : defaultsOf params X.env = ([], [])) (caps : ∀ y ∈ scope.names, y.2 = .free → ∃ c, X.env.cells.lookup y.1 = some c)
    (fin : ∀ (f c' : Addr) (pm ctv : Value) (H1 : Hp) (s' : Shared), Inv X pins σ H1 s' → ButAt P H H1 → LamX.TabS H1 P (X.env.qual ++ "<lambda>") →
      s'.heap.get? f = some (PySem.W.kla_obj "<lambda>" (X.env.qual ++ "<lambda>") params body scope (cloFrom X.env.cells scope.names []) pm c' ctv) → H1 f = none → f ∉ frs X.stack → H1 c' = some (LamX.CodeO c' (X.env.qual ++ "<lambda>")) → Q (.ref f) s') :
    wpAny (model X.prog X.w) X.A (eval (.Lambda params body scope pos) X.env) Q E s := by
  obtain ⟨ps, hP, tri, known⟩ := tab
  have raw : s.heap.get? P = some { cls := .none, data := .fields ps } := I.hok P _ hP
  have glob := I.mod.glob.keeps I.bk
  have code := TB.code.keeps I.bk
  have bm := TB.bm.keeps I.bk
  apply PySem.W.kla_eval hdef
  cases found : codeAmong pos ps.toList with
  | some cv =>
    obtain ⟨c', rfl, co⟩ := known pos cv found
    apply PySem.W.kla_makeFunctionHit (closure_ok caps) I.ok.glob glob hcode code raw tri found bm
    intro ctv h' tk keep size
    exact fin _ c' _ ctv H _ (I.kept fun b o e => Heap.get?_push_of_some _ (keep b o e)) (fun _ _ _ e => e) ⟨ps, hP, tri, known⟩ (Heap.get?_push_size _ rfl) (I.hok.fresh size) (RawA.of I size).fr co
  | none =>
    apply PySem.W.kla_makeFunction (closure_ok caps) I.ok.glob glob hcode code raw tri found TB.gP bm
    intro c' ctv h' tk ext old lt rec grown
    obtain ⟨_, oc, vs, t, e2, hoc, hd, hv⟩ := rec
    cases e2
    have size : s.heap.objs.size ≤ h'.objs.size := Nat.le_trans old (Nat.le_of_lt lt)
    have nC : H c' = none := I.hok.fresh old
    have PC : P ≠ c' := ne_of_none hP nC
    have J := LamX.inv_table (t' := tk) (more := #[rawInt pos.line, rawInt pos.col, .ref c']) (h' := h'.push (PySem.W.kla_obj "<lambda>" (X.env.qual ++ "<lambda>") params body scope (cloFrom X.env.cells scope.names []) ((X.mg "__name__").getD .none) c' ctv)) I hP
      (fun b o nb e => Heap.get?_push_of_some _ (ext b o nb e)) (Heap.get?_push_of_some _ grown) old ⟨oc, vs, t, Heap.get?_push_of_some _ hoc, hd, hv⟩
    have but : ButAt P H (upd (upd H P (.tbl (ps ++ #[rawInt pos.line, rawInt pos.col, .ref c']))) c' (LamX.CodeO c' (X.env.qual ++ "<lambda>"))) := fun b o nb e => by
      rw [upd_ne (ne_of_none e nC), upd_ne nb]
      exact e
    have asList : (ps ++ #[rawInt pos.line, rawInt pos.col, .ref c']).toList = ps.toList ++ [rawInt pos.line, rawInt pos.col, .ref c'] := by simp
    refine fin h'.objs.size c' _ ctv _ _ J but ⟨_, (upd_ne PC).trans upd_same, ?_, fun pos' cv hc => ?_⟩ (Heap.get?_push_size _ rfl) ?_ (RawA.of I size).fr upd_same
    · rw [asList]
      exact PySem.TriplesOk_snoc _ _ _ _ tri
    · rw [asList] at hc
      rcases LamX.among_app _ tri hc with z | z
      · obtain ⟨c0, q1, q2⟩ := known pos' cv z
        refine ⟨c0, q1, but _ _ (fun w => ?_) q2⟩
        rw [w, hP] at q2
        exact LamX.codeO_ne ps (Option.some.inj q2).symm
      · exact ⟨c', z, upd_same⟩
    · rw [upd_ne (Nat.ne_of_gt lt), upd_ne (Nat.ne_of_gt (Nat.lt_of_lt_of_le (Heap.lt_size raw) size))]
      exact I.hok.fresh size
/-- min(xs, key=lambda par: body), xs a list of objects; body makes ints and changes nothing that stands -/
def tMinLam (P : Addr) (q : Str) (i : Nat) (ta : TA) (tb : TE) : TE := fun σ H Q => ta σ H fun vs H1 => ∃ (a : Addr) (as : List Addr) (kf : Nat → Int) (cv : V), vs = [.ref a] ∧ H1 a = some (.lst (as.map V.ref)) ∧ 0 < as.length ∧ LamX.TabS H1 P q ∧ σ[i]? = some (some cv) ∧
  ∀ H2, ButAt P H1 H2 → LamX.TabS H2 P q → (∀ (j : Nat) (b : Addr) (H' : Hp), as[j]? = some b → Same H2 H' → tb [some cv, some (.ref b)] H' fun v H'' => v = .int (kf j) ∧ Same H' H'') ∧
    ∀ (j : Nat) (b : Addr) (H' : Hp), as[j]? = some b → Lowest kf as.length j → Same H2 H' → Q (.ref b) H'
theorem vals_refs : ∀ {as : List Addr} {us : List Value}, Vals (as.map V.ref) us → us = as.map Value.ref
  | [], _, .nil => rfl
  | a :: as, _, .cons r t => by
    cases r
    rw [vals_refs t] <;> rfl
theorem pe_minLam {X : Cx} {c P : Addr} {k : Nat} {e : Expr} {params : Arguments} {body : Expr} {scope : Scope} {cap par : Str} {p kp lpos pos : Pos} {ta : TA} {tb : TE} (i : Nat) (hc : X.calm = true) (hg : Gl X "min") (hm : X.mg "min" = none) (hr : Room (k + 2) X.A) (TB : LamX.TabB X.base X.mg c P) (hcode : X.env.code = .ref c)
    (L : Lam1 X.env.scope scope cap par) (hi : X.N[i]? = some cap) (hdef : defaultsOf params X.env = ([], []))
    (hbind : ∀ (q : Str) (cl : List (Str × Addr)) (pm cv ctv u : Value), bindArgs (PySem.W.kla_fn "<lambda>" q params body scope cl pm cv ctv) ⟨[u], []⟩ = pure [(par, u)]) (ha : PA X [e] ta)
    (hbody : ∀ (A : Around) (s : Shared) (H : Hp) (f c' : Addr), Room k (A.deeper (LamX.lamEnv X scope s.heap.objs.size f c')) → PE (lamCx1 X A s H scope cap par f c') body tb)
    (he : backTo pos (starEach [e] X.env) = (false, eval e X.env) :: backTo pos (starEach [] X.env) := by rfl) (hpl : (backTo pos (starEach [e] X.env)).any (·.1) = false := by rfl) :
    PE X (.Call (.Name "min" p) [e] [⟨some "key", .Lambda params body scope lpos, kp⟩] pos) (tMinLam P (X.env.qual ++ "<lambda>") i ta tb) := by
  refine ⟨fun pins s σ H Q I h => ?_⟩
  refine wpAny_Call_Name_kw (ld_blt (u := .builtin "min") I hg hm (by decide +kernel) ?_)
  refine PyProof.Rows.callWith_kw (thn (ha.run pos pins s σ H _ I h) fun us s1 ⟨vs, H1, I1, r1, q1⟩ => ?_) he hpl (by rfl) (by rfl)
  show wpAny _ _ (evalAll [(do let v ← eval (.Lambda params body scope lpos) X.env; standAt pos; pure v)]) _ _ s1
  obtain ⟨a, as, kf, cv, rfl, hl, pos1, tab, hσ, hq⟩ := q1
  rw [Vals.ref1 r1]
  refine wpAny_evalAll_cons (wpAny_bind (lam_make3 I1 TB hcode tab hdef (L.has I1.ok) fun f c' pm ctv H2 s2 I2 eN T2 hf hfn hfr hco => ?_))
  refine wpAny_bind (wpAny_standAt (wpAny_pure (wpAny_evalAll_nil ?_)))
  obtain ⟨k1, k2⟩ := hq H2 eN T2
  have hl2 : H2 a = some (.lst (as.map V.ref)) := eN _ _ (fun z => by
    obtain ⟨ps, h4, _⟩ := tab
    rw [z, h4] at hl
    cases hl) hl
  refine minL (Φ := fun H' => Same H2 H') (as := as) (f := f) (H := H2) kf I2 (Same.refl _) (I2.ok.hd hc) (fun s H inv φ => ?_) pos1 hf hfn hfr (fun j b eb s H inv φ hn hg => ?_) fun j b s H eb low inv φ => ⟨.ref b, H, inv, rfl, k2 j b H eb low φ⟩
  · obtain ⟨its, rv, isL, _⟩ := inv.list (SqL.of (φ _ _ hl2))
    rw [vals_refs rv] at isL
    exact isL.isList
  · refine wpAny_mono (lam_call1 (A := X.A.in1) (pv := .ref b) (u := .ref b) inv L hi hσ inv.ok.frames hr.in1 hg (φ _ _ hco) (hbind _ _ _ _ _ _) (fun hr' => hbody _ _ _ _ _ hr') rfl (k1 j b H eb φ)) (fun x s' hx => ?_) fun _ _ no => no
    obtain ⟨v, H', inv', rv, ⟨rfl, sm⟩, un⟩ := hx
    exact ⟨rv, H', inv', φ.trans sm, un⟩

/-! ### the end of a law row of the quiet kind whose program makes a lambda: its maker's table of code objects stands empty at the start -/
abbrev emptyTab : Obj := { cls := .none, data := .fields #[] }
/-- H tells the script and the table, nothing else -/
structure Start (P : Program) (w : World) (K : PySem.W.Frag) (h : Heap) (a T : Addr) (H : Hp) : Prop where
  tab : H T = some (.tbl #[])
  ok : HOk P w H h
  only : ∀ b u, H b = some u → (b = T ∧ u = .tbl #[]) ∨ (b = a ∧ K.lookup b = none ∧ ∃ o xs, u = .frz o (.lst xs))
theorem Start.untold {P : Program} {w : World} {K : PySem.W.Frag} {h : Heap} {a T : Addr} {H : Hp} (S : Start P w K h a T H) {b : Addr} (h1 : b ≠ T) (h2 : b ≠ a) : H b = none := by
  cases q : H b with
  | none => rfl
  | some u =>
    rcases S.only b u q with z | z
    · exact absurd z.1 h1
    · exact absurd z.1 h2
theorem quiet_lawT {P : Program} {w : World} {K : PySem.W.Frag} {mg mb : Str → Option Value} {k : Nat} {fa a c T : Addr} {fd : FuncData} {x : Str} {sp : Sp} {s₁ : Shared} {vs : List Value} {ns : List Int}
    (inK : K.In s₁.heap) (glob : s₁.heap.Ns mainGlobals mg) (blt : s₁.heap.Ns builtinsNs mb) (bltIs : ∀ y : Str, y ≠ "__name__" → mb y = bootBuiltins y) (lim : s₁.heap.NoLimit) (gens : s₁.gens = #[]) (mods : ∃ mm, s₁.heap.Ns sysModules mm)
    (tab : s₁.heap.get? T = some emptyTab) (noT : K.lookup T = none) (code : PySem.W.CodeHd s₁.heap c T)
    (bmain : ∃ (bm : Addr) (ob : Obj), mg "__builtins__" = some (.ref bm) ∧ bm ≠ builtinsNs ∧ s₁.heap.get? bm = some ob ∧ ob.cls = .type "module" ∧ ob.dict = some builtinsNs ∧ ob.data = .plain)
    (here : s₁.heap.get? a = some { cls := .type "list", data := .seq vs.toArray }) (whole : IntsAre vs ns) (few : ns.length ≤ sizeLine) (room : Room k callerA)
    (F : ∀ base : Heap, K.In base → base.Ns mainGlobals mg → (∃ mm, base.Ns sysModules mm) → LamX.TabB base mg c T → FnG P w K mg base k fa fd [x] sp) (bind : ∀ (s : Shared) (u : Value), BindsTo s fd ⟨[u], []⟩ [(x, u)])
    (want : ∀ H : Hp, H T = some (.tbl #[]) → SqL K H a (ns.map V.int) → sp [.ref a] H (fun v _ => v = .bl true) E0) :
    codeAny (model P w) callerA (.call (.ref fa) ⟨[.ref a], []⟩) (fun r s' => r = .ok (.ret (.bool true)) ∧ OldK s₁.heap s'.heap ∧ s'.os = s₁.os ∧ AllBare s'.gens) s₁ := by
  have rel := vals_ints whole
  have aT : a ≠ T := fun z => by
    have q := tab
    rw [← z, here] at q
    injection q with q
    exact nomatch congrArg Obj.data q
  have main : ∀ H : Hp, Start P w K s₁.heap a T H → SqL K H a (ns.map V.int) →
      codeAny (model P w) callerA (.call (.ref fa) ⟨[.ref a], []⟩) (fun r s' => r = .ok (.ret (.bool true)) ∧ OldK s₁.heap s'.heap ∧ s'.os = s₁.os ∧ AllBare s'.gens) s₁ := by
    intro H S sq
    -- what is neither a list nor a table's empty fields is not told
    have plainO : ∀ {b o}, s₁.heap.get? b = some o → (∀ ys n, o.data ≠ .seq ys n) → o.data ≠ .fields #[] → (hidT s₁.heap H).get? b = some o := fun {b o} e h1 h2 => hidT_get e (S.untold (fun z => by
        rw [z, tab] at e
        cases e
        exact h2 rfl) fun z => by
        rw [z, here] at e
        cases e
        exact h1 _ _ rfl)
    have ns1 : ∀ {b m}, s₁.heap.Ns b m → (hidT s₁.heap H).Ns b m := by
      rintro b m ⟨o, es, ep, e, d, r⟩
      refine ⟨o, es, ep, plainO e (fun ys n z => ?_) (fun z => ?_), d, r⟩
      · rw [d] at z
        cases z
      · rw [d] at z
        cases z
    have kIn : K.In (hidT s₁.heap H) := by
      intro b o e
      refine hidT_get (inK b o e) ?_
      cases q : H b with
      | none => rfl
      | some u =>
        rcases S.only b u q with z | z
        · rw [z.1, noT] at e
          cases e
        · rw [z.2.1] at e
          cases e
    have lim1 : (hidT s₁.heap H).NoLimit := by
      obtain ⟨mc, h1, h2⟩ := lim
      exact ⟨mc, ns1 h1, h2⟩
    have code1 : PySem.W.CodeHd (hidT s₁.heap H) c T := by
      obtain ⟨o, us, file, tf, flags, tg, inF, text, tt, e1, r1, r2, r3, rr⟩ := code
      refine ⟨o, us, file, tf, flags, tg, inF, text, tt, plainO e1 (fun ys n z => ?_) (fun z => ?_), r1, r2, r3, rr⟩
      · rw [r2] at z
        cases z
      · rw [r2] at z
        cases z
        cases r3
    have table : LamX.TabB (hidT s₁.heap H) mg c T := by
      refine ⟨code1, ?_, fun z => ?_⟩
      · obtain ⟨bm, ob, b1, b2, b3, b4, b5, b6⟩ := bmain
        refine ⟨bm, ob, b1, b2, fun z => ?_, fun z => ?_, plainO b3 (fun ys n z => ?_) (fun z => ?_), b4, b5, b6⟩
        · obtain ⟨o, es, ep, e, d, _⟩ := glob
          rw [z, e] at b3
          cases b3
          rw [d] at b6
          cases b6
        · rw [z, tab] at b3
          cases b3
          cases b6
        · rw [b6] at z
          cases z
        · rw [b6] at z
          cases z
      · obtain ⟨o, es, ep, e, d, _⟩ := glob
        rw [z, tab] at e
        cases e
        cases d
    have e0 : Env0 P w K mg (hidT s₁.heap H) callerA [] s₁ H := {
      frames := rfl, mod := ⟨kIn, ns1 glob, ⟨mb, ns1 blt, bltIs⟩, lim1⟩, bs := fun _ _ e => of_hidT e, bsz := Nat.le_of_eq (hidT_size _ _), funs := True.intro, frf := (fun _ hb => nomatch hb), hok := S.ok, bare := .of_eq gens }
    apply codeAny_mono ((F _ kIn (ns1 glob) (mods.elim fun mm h => ⟨mm, ns1 h⟩) table).go (us := [.ref a]) (vs := [.ref a]) room rfl e0 (bind s₁ _) (.cons rfl .nil) (want H S.tab sq))
    intro r s' hr
    match r, hr with
    | .error _, hr => exact hr.elim
    | .ok .next, hr => exact False.elim hr
    | .ok .brk, hr => exact False.elim hr
    | .ok .cont, hr => exact False.elim hr
    | .ok (.ret u), hr =>
      obtain ⟨v, H', os, bare, un, ok', rv, q⟩ := hr
      cases (show v = V.bl true from q)
      cases (show u = Value.bool true from rv)
      obtain ⟨more, grown⟩ := un.tbls T #[] S.tab
      have gT := ok' T _ grown
      have rest : ∀ b o, b ≠ T → s₁.heap.get? b = some o → s'.heap.get? b = some o := by
        intro b o nb e
        cases q : H b with
        | none => exact un.keep b o e q (fun z => nomatch z) (fun z => nomatch z)
        | some u =>
          rcases S.only b u q with z | ⟨_, _, ob, xs, rfl⟩
          · exact absurd z.1 nb
          · have e1 := (S.ok b _ q).1
            have e2 := (ok' b _ (un.frzs b ob _ q)).1
            rw [e] at e1
            cases e1
            exact e2
      refine ⟨rfl, ⟨fun b o e => ?_, fun b o e => ?_⟩, os, bare⟩
      · by_cases hb : b = T
        · subst hb
          rw [tab] at e
          cases e
          exact .inr (.inl ⟨(code.tab tab).isCodeTable, rfl, #[], more, rfl, gT⟩)
        · exact .inl (rest b o hb e)
      · by_cases hb : b = T
        · subst hb
          exact ⟨_, gT⟩
        · exact ⟨o, rest b o hb e⟩
  have small : (ns.map V.int).length ≤ sizeLine := by rw [List.length_map]; exact few
  cases known : K.lookup a with
  | some o =>
    have e := inK a o known
    rw [here] at e
    cases e
    have sz : vs.length ≤ sizeLine := by rw [← rel.length]; exact small
    have H0 : ∀ {b u}, (if b = T then some (HO.tbl #[]) else none) = some u → b = T ∧ u = .tbl #[] := by
      intro b u z
      by_cases hb : b = T
      · rw [if_pos hb] at z
        cases z
        exact ⟨hb, rfl⟩
      · rw [if_neg hb] at z
        cases z
    refine main (fun b => if b = T then some (.tbl #[]) else none) ⟨if_pos rfl, fun b u z => ?_, fun b u z => .inl (H0 z)⟩ (.inr ⟨_, vs.toArray, _, known, rfl, rfl, rfl, by simpa using sz, by simpa using rel⟩)
    obtain ⟨rfl, rfl⟩ := H0 z
    exact tab
  | none =>
    have H1 : ∀ {b u}, (if b = T then some (HO.tbl #[]) else if b = a then some (HO.frz { cls := .type "list", data := .seq vs.toArray } (.lst (ns.map V.int))) else none) = some u → (b = T ∧ u = .tbl #[]) ∨ (b = a ∧ u = HO.frz { cls := .type "list", data := .seq vs.toArray } (.lst (ns.map V.int))) := by
      intro b u z
      by_cases hb : b = T
      · rw [if_pos hb] at z
        cases z
        exact .inl ⟨hb, rfl⟩
      · rw [if_neg hb] at z
        by_cases hc : b = a
        · rw [if_pos hc] at z
          cases z
          exact .inr ⟨hc, rfl⟩
        · rw [if_neg hc] at z
          cases z
    refine main (fun b => if b = T then some (.tbl #[]) else if b = a then some (.frz { cls := .type "list", data := .seq vs.toArray } (.lst (ns.map V.int))) else none) ⟨if_pos rfl, fun b u z => ?_, fun b u z => ?_⟩ (.inl (.inr ⟨{ cls := .type "list", data := .seq vs.toArray }, (if_neg aT).trans (if_pos rfl)⟩))
    · rcases H1 z with ⟨rfl, rfl⟩ | ⟨rfl, rfl⟩
      · exact tab
      · exact ⟨here, small, vs, _, rel, here⟩
    · rcases H1 z with z | ⟨rfl, rfl⟩
      · exact .inl z
      · exact .inr ⟨rfl, known, _, _, rfl⟩
theorem quiet_walkT {l : PySem.W.OpenLaw} {n k : Nat} {q : Program} {loose : List Str} {XP : (Str → Option Value) → Heap → Prop} {YP : World → Heap → Prop} {d : DefRec} {K : Params → PySem.W.Frag} {x : Str}
    (noImport : importsNone q = true) (most : l.most = some n) (n2 : n ≤ sizeLine) (defaults : d.params.defaults = []) (room : Room k callerA) (hY : ∀ (w : World) (h : Heap), YP w h → (K w.params).In h)
    (F : ∀ (w : World) (mg : Str → Option Value) (fa : Addr) (h : Heap), (K w.params).In h → h.Ns mainGlobals mg → mg d.name = some (.ref fa) → (∀ (d' : DefRec) (y : Str) (c P : Addr), (recsOf q).find? (fun e => e.name == y) = some d' → PySem.W.tabIn (K w.params) y = some (c, P) → PySem.W.CodeHd h c P ∧ h.get? P = some emptyTab) →
      ∃ (fd : FuncData) (c T : Addr) (sp : Sp), PySem.W.CodeHd h c T ∧ h.get? T = some emptyTab ∧ (K w.params).lookup T = none ∧ (∀ (s : Shared) (u : Value), BindsTo s fd ⟨[u], []⟩ [(x, u)]) ∧
        (∀ (H : Hp) (a : Addr) (ns : List Int), ns.length ≤ n → H T = some (.tbl #[]) → SqL (K w.params) H a (ns.map V.int) → sp [.ref a] H (fun v _ => v = .bl true) E0) ∧
        ∀ base : Heap, (K w.params).In base → base.Ns mainGlobals mg → (∃ mm, base.Ns sysModules mm) → LamX.TabB base mg c T → FnG l.prog w (K w.params) mg base k fa fd [x] sp) :
    PySem.W.WalkO q loose XP YP l.row.toRowW d [] (fun f vs => PySem.call f vs) := by
  apply Att.attach_call most defaults
  intro w s₀ s₁ mg mb fa o pm cd doc a vs ns G Y ho hd hcd hmg hobj hints hlen hg
  obtain ⟨fd, c, T, sp, code, tab, noT, hb, want, hF⟩ := F w mg fa _ (hY w _ Y) G.T.g hmg fun d' y c P h1 h2 => PySem.W.tab_of G.T (hY w _ Y) h1 h2
  exact quiet_lawT (hY w _ Y) G.T.g G.T.b G.T.builtins G.T.nolimit hg ((G.T.seer noImport).mods.elim fun mm h => ⟨mm, h.1⟩) tab noT code G.T.bmain hobj hints (Nat.le_trans hlen n2) room hF hb fun H o1 s1 => want H a ns hlen o1 s1
theorem tabIn_of {K : PySem.W.Frag} {y : Str} {f cc T : Addr} {o1 p1 : Value} {o2 p2 : Option Addr} {fd : FuncData} {vs : Array Value} {o3 p3 : Array (Option Value)} (a : PySem.W.nsIn K mainGlobals y = some (some (.ref f))) (l : K.lookup f = some ⟨o1, o2, .func fd, o3⟩) (e : fd.code = .ref cc)
    (c : K.lookup cc = some ⟨p1, p2, .fields vs, p3⟩) (v : (vs[11]? : Option Value) = some (.ref T)) : PySem.W.tabIn K y = some (cc, T) := by
  unfold PySem.W.tabIn
  rw [a]
  simp only [l, e, c, v]
theorem endT {l : PySem.W.OpenLaw} {w : World} {K : PySem.W.Frag} {mg : Str → Option Value} {h : Heap} {q : Program} {k n : Nat} {fa : Addr} {x y : Str} {sp : Sp} {f cc T : Addr} {o1 p1 : Value} {o2 p2 : Option Addr} {fdm : FuncData} {vs : Array Value} {o3 p3 : Array (Option Value)}
    (tabOf : ∀ (d' : DefRec) (y : Str) (c P : Addr), (recsOf q).find? (fun e => e.name == y) = some d' → PySem.W.tabIn K y = some (c, P) → PySem.W.CodeHd h c P ∧ h.get? P = some emptyTab)
    (a : PySem.W.nsIn K mainGlobals y = some (some (.ref f))) (lk : K.lookup f = some ⟨o1, o2, .func fdm, o3⟩) (e : fdm.code = .ref cc) (c : K.lookup cc = some ⟨p1, p2, .fields vs, p3⟩) (v : (vs[11]? : Option Value) = some (.ref T))
    (there : ((recsOf q).find? fun e => e.name == y).isSome = true) (noT : (K.lookup T).isNone = true)
    (all : ∃ fd : FuncData, (∀ (s : Shared) (v : Value), BindsTo s fd ⟨[v], []⟩ [(x, v)]) ∧ ∀ base : Heap, K.In base → base.Ns mainGlobals mg → (∃ mm, base.Ns sysModules mm) → LamX.TabB base mg cc T → FnG l.prog w K mg base k fa fd [x] sp)
    (want : ∀ (H : Hp) (a : Addr) (ns : List Int), ns.length ≤ n → H T = some (.tbl #[]) → SqL K H a (ns.map V.int) → sp [.ref a] H (fun v _ => v = .bl true) E0) :
    ∃ (fd : FuncData) (c T : Addr) (sp : Sp), PySem.W.CodeHd h c T ∧ h.get? T = some emptyTab ∧ K.lookup T = none ∧ (∀ (s : Shared) (u : Value), BindsTo s fd ⟨[u], []⟩ [(x, u)]) ∧
        (∀ (H : Hp) (a : Addr) (ns : List Int), ns.length ≤ n → H T = some (.tbl #[]) → SqL K H a (ns.map V.int) → sp [.ref a] H (fun v _ => v = .bl true) E0) ∧
        ∀ base : Heap, K.In base → base.Ns mainGlobals mg → (∃ mm, base.Ns sysModules mm) → LamX.TabB base mg c T → FnG l.prog w K mg base k fa fd [x] sp := by
  obtain ⟨fd, b, F⟩ := all
  obtain ⟨d', hd⟩ := Option.isSome_iff_exists.mp there
  obtain ⟨code, tab⟩ := tabOf d' y cc T hd (tabIn_of a lk e c v)
  exact ⟨fd, cc, T, sp, code, tab, Option.isNone_iff_eq_none.mp noT, b, want, F⟩

/-! ### the def that makes a lambda: its code object, the table at P -/
abbrev TabH (base : Heap) (mg : Str → Option Value) (fd : FuncData) (P : Addr) : Prop := ∃ c, LamX.TabB base mg c P ∧ fd.code = .ref c
theorem okC {P : Program} {w : World} {K : PySem.W.Frag} {mg : Str → Option Value} {base : Heap} {x qual : Str} {st : Stmt} {f : Addr} {fd : FuncData} {N ps : List Str} {k : Nat} {sp : Sp} (F : Fun K x qual st f fd) (S : FnScope N ps (defScope st)) (len : ∀ vs H Q E, sp vs H Q E → vs.length = ps.length)
    (body : ∀ (cdv : Value), fd.code = cdv → ∀ (A : Around) (outer : List Env) (s : Shared) (H : Hp) (vs : List V) (Q : VK) (E : XK), Room k (A.deeper (envOfC qual (defScope st) s.heap.objs.size f cdv)) → sp vs H Q E →
      ∃ t, PSs (cxOf CX0 P w K mg base N qual (defScope st) f cdv A outer s H E).nox (defBody st) t ∧ t { nx := fun _ H' => Q .non H', rt := Q } (start N vs) H) : FnOk P w K mg base CX0 (k + 1) f fd ps sp := by
  obtain ⟨oc, od, kV, doc, pm, an, cdv, ct, osl, e, look, code⟩ := F.ex
  subst e
  refine fn_of look code S len fun A outer s H vs Q E room want => ?_
  obtain ⟨t, ht, hq⟩ := body cdv rfl A outer s H vs Q E room want
  exact ⟨t, ht.nox, hq⟩

/-! ### sorted(list of demands): tuples of a position and an interval -/
abbrev Tri := Int × Int × Int
def lexT (p q : Tri) : Bool := decide (p.1 < q.1 ∨ (p.1 = q.1 ∧ (p.2.1 < q.2.1 ∨ (p.2.1 = q.2.1 ∧ p.2.2 < q.2.2))))
section
variable {prog : Program} {w : World} {A : Around} {s : Shared}
def IsDem (h : Heap) (v : Value) (q : Tri) : Prop := ∃ a b o t n, v = .ref a ∧ h.get? a = some o ∧ o.cls = .type "tuple" ∧ o.data = .seq #[.int q.1 t, .ref b] n ∧ Srt.IsPair h (.ref b) q.2.1 q.2.2
theorem IsDem.keeps {h h' : Heap} {v : Value} {q : Tri} (p : IsDem h v q) (k : ∀ b o, h.get? b = some o → o.cls = .type "tuple" → h'.get? b = some o) : IsDem h' v q := by
  obtain ⟨a, b, o, t, n, e, ho, hc, hd, hp⟩ := p
  exact ⟨a, b, o, t, n, e, k _ _ ho hc, hc, hd, hp.keeps k⟩
theorem swo_lexT (k : Value → Tri) : SrtO.Swo fun v u => lexT (k v) (k u) := by
  refine ⟨fun x y h => ?_, fun x y z h1 h2 => ?_⟩
  · have a := of_decide_eq_true h
    refine decide_eq_false ?_
    omega
  · have a := of_decide_eq_false h1
    have b := of_decide_eq_false h2
    refine decide_eq_false ?_
    omega
theorem eq_pairs {b b' : Addr} {y z y' z' : Int} (h1 : Srt.IsPair s.heap (.ref b) y z) (h2 : Srt.IsPair s.heap (.ref b') y' z') (hu : A.units < cLine) : SeqAt.EqAt A s (.ref b) (.ref b') (decide (y = y' ∧ z = z')) := by
  obtain ⟨a, o, t, u, n, e, ho, hc, hd⟩ := h1
  obtain ⟨a', o', t', u', n', e', ho', hc', hd'⟩ := h2
  cases e
  cases e'
  by_cases hb : b = b'
  · subst hb
    rw [ho] at ho'
    cases ho'
    rw [hd] at hd'
    have : y = y' ∧ z = z' := by
      simp at hd'
      exact ⟨hd'.1.1.1, hd'.1.2.1⟩
    rw [decide_eq_true this]
    exact SeqAt.EqAt.same _
  · refine SeqAt.EqAt.of_refs hb ?_
    have r := SeqAt.RcAt.tuples (A := A) (s := s) (e := fun j => if j = 0 then y == y' else z == z') (l := b) (b := b') ⟨o, ho, hc, n, hd⟩ ⟨o', ho', hc', n', hd'⟩ hu (fun j j1 j2 => by
      match j, j1, j2 with
      | 0, _, _ => exact SeqAt.EqAt.int_int y t y' t'
      | 1, _, _ => exact SeqAt.EqAt.int_int z u z' u')
    have e : ((List.range (min (#[Value.int y t, Value.int z u]).size (#[Value.int y' t', Value.int z' u']).size)).all (fun j => if j = 0 then y == y' else z == z') && (#[Value.int y t, Value.int z u]).size == (#[Value.int y' t', Value.int z' u']).size) = decide (y = y' ∧ z = z') := by
      show (((y == y') && ((z == z') && true)) && true) = _
      rw [Bool.and_true, Bool.and_true, Bool.eq_iff_iff, Bool.and_eq_true, beq_iff_eq, beq_iff_eq, decide_eq_true_eq]
    rw [e] at r
    exact r
theorem lt_pairs {b b' : Addr} {y z y' z' : Int} (h1 : Srt.IsPair s.heap (.ref b) y z) (h2 : Srt.IsPair s.heap (.ref b') y' z') (hu : A.units < cLine) : Ob.RcOp .Lt A s (.ref b) (.ref b') (decide (y < y' ∨ (y = y' ∧ z < z'))) := by
  obtain ⟨a, o, t, u, n, e, ho, hc, hd⟩ := h1
  obtain ⟨a', o', t', u', n', e', ho', hc', hd'⟩ := h2
  cases e
  cases e'
  have r := Ob.RcOp.tuples_lt (A := A) (s := s) (l := b) (b := b') (e := fun j => if j = 0 then y == y' else z == z') (r := fun j => if j = 0 then decide (y < y') else decide (z < z')) ⟨o, ho, hc, n, hd⟩ ⟨o', ho', hc', n', hd'⟩ hu (fun j j1 j2 => by
      match j, j1, j2 with
      | 0, _, _ => exact SeqAt.EqAt.int_int y t y' t'
      | 1, _, _ => exact SeqAt.EqAt.int_int z u z' u') (fun j j1 j2 _ => by
      match j, j1, j2 with
      | 0, _, _ => exact Ob.RcOp.lt_int y y' t t'
      | 1, _, _ => exact Ob.RcOp.lt_int z z' u u')
  have e : Ob.lexAt (fun j => if j = 0 then y == y' else z == z') (fun j => if j = 0 then decide (y < y') else decide (z < z')) (decide ((#[Value.int y t, Value.int z u]).size < (#[Value.int y' t', Value.int z' u']).size)) 0 (min (#[Value.int y t, Value.int z u]).size (#[Value.int y' t', Value.int z' u']).size) = decide (y < y' ∨ (y = y' ∧ z < z')) := by
    show (if (y == y') = true then (if (z == z') = true then false else decide (z < z')) else decide (y < y')) = _
    by_cases c : y = y'
    · rw [if_pos (beq_iff_eq.mpr c)]
      by_cases c2 : z = z'
      · rw [if_pos (beq_iff_eq.mpr c2)]
        exact (decide_eq_false (by omega)).symm
      · rw [if_neg (fun h => c2 (beq_iff_eq.mp h))]
        exact decide_eq_decide.mpr (by omega)
    · rw [if_neg (fun h => c (beq_iff_eq.mp h))]
      exact decide_eq_decide.mpr (by omega)
  rw [e] at r
  exact r
theorem dem_cmp {vs : List Value} {k : Value → Tri} (hu : A.units < cLine) (hp : ∀ v ∈ vs, IsDem s.heap v (k v)) : SrtO.Cmp prog w A s (tuples' true) (fun p => p.1 ∈ vs) (SrtO.lt2 fun v u => lexT (k v) (k u)) := by
  intro p q hm hm'
  have h1 := hp _ hm
  have h2 := hp _ hm'
  show wpAny (model prog w) A (keyLt' (tuples' true) p.1 q.1) (fun r s' => s' = s ∧ r = lexT (k p.1) (k q.1)) (fun _ _ => False) s
  generalize k p.1 = x at h1 ⊢
  generalize k q.1 = x' at h2 ⊢
  obtain ⟨a, b, o, t, n, e, ho, hc, hd, hb⟩ := h1
  obtain ⟨a', b', o', t', n', e', ho', hc', hd', hb'⟩ := h2
  rw [e, e']
  refine PySem.W.kat_lt ho hd ho' hd' ?_
  show PySem.W.KatLex prog w A true (decide (2 < 2)) _ [(.int x.1 t, .int x'.1 t'), (.ref b, .ref b')] 0 s
  refine PySem.W.kat_cons (SeqAt.EqAt.int_int x.1 t x'.1 t' prog w _ _ ?_)
  refine PySem.W.kat_go (fun e1 => ?_) (fun e1 => ?_)
  · have ex : x.1 = x'.1 := by simpa using e1
    refine PySem.W.kat_yes (PySem.W.kat_cons (eq_pairs hb hb' hu prog w _ _ ?_))
    refine PySem.W.kat_go (fun e2 => ?_) (fun e2 => ?_)
    · have e2 := of_decide_eq_true e2
      have e3 : lexT x x' = false := decide_eq_false (by omega)
      exact PySem.W.kat_yes (PySem.W.kat_nil ⟨rfl, e3.symm⟩)
    · have e3 : lexT x x' = decide (x.2.1 < x'.2.1 ∨ (x.2.1 = x'.2.1 ∧ x.2.2 < x'.2.2)) := decide_eq_decide.mpr (by omega)
      refine PySem.W.kat_no (PySem.W.kat_one _ _ (lt_pairs hb hb' hu prog w _ _ ?_))
      exact (show s = s ∧ decide (x.2.1 < x'.2.1 ∨ (x.2.1 = x'.2.1 ∧ x.2.2 < x'.2.2)) = lexT x x' from ⟨rfl, e3.symm⟩)
  · have ex : ¬ x.1 = x'.1 := by simpa using e1
    have e3 : lexT x x' = decide (x.1 < x'.1) := decide_eq_decide.mpr (by omega)
    exact PySem.W.kat_no (PyProof.Rows.oneLt_int ⟨rfl, e3.symm⟩)
theorem dem_firsts {h : Heap} : ∀ {vs : List Value}, (∀ v ∈ vs, ∃ q, IsDem h v q) → ∃ fs : List Value, PySem.W.KatTups h vs fs ∧ fs.length = vs.length ∧ ∀ f ∈ fs, ∃ x t, f = Value.int x t
  | [], _ => ⟨[], PySem.W.KatTups.nil, rfl, fun _ hm => by simp at hm⟩
  | v :: vs, hp => by
    obtain ⟨fs, h1, h2, h3⟩ := dem_firsts (vs := vs) fun v' hm => hp v' (List.mem_cons_of_mem _ hm)
    obtain ⟨q, a, b, o, t, n, e, ho, hc, hd, _⟩ := hp v List.mem_cons_self
    subst e
    refine ⟨.int q.1 t :: fs, PySem.W.KatTups.cons ho hc hd rfl h1, by rw [List.length_cons, List.length_cons, h2], fun f hm => ?_⟩
    rcases List.mem_cons.mp hm with rfl | hm
    · exact ⟨_, _, rfl⟩
    · exact h3 f hm
theorem dems_sortable {a : Addr} {vs : List Value} {k : Value → Tri} (hu : A.units < cLine) (h0 : 0 < vs.length) (hp : ∀ v ∈ vs, IsDem s.heap v (k v)) (ha : ∀ o, s.heap.get? a = some o → o.cls ≠ .type "tuple") : SrtO.SortableO prog w A s a vs fun v u => lexT (k v) (k u) := by
  intro h' keep
  have hp' : ∀ v ∈ vs, IsDem h' v (k v) := fun v hm => (hp v hm).keeps fun b o e c => keep b o (fun z => by subst z; exact ha o e c) e
  obtain ⟨fs, h1, h2, h3⟩ := dem_firsts fun v hm => ⟨_, hp' v hm⟩
  refine ⟨tuples' true, fun Q E hq => ?_, dem_cmp (s := { s with heap := h' }) hu hp'⟩
  refine PySem.W.kat_kind (T := .type "int") h1 (by omega) (fun f hm => ?_) (by rfl) ?_
  · obtain ⟨x, t, rfl⟩ := h3 f hm
    exact PySem.W.Looks.now
  · have e : (Value.type "int" != Value.type "tuple") = true := by first | decide +kernel | rfl | decide
    rw [e]
    exact hq
theorem sorted_dems {E : Value → Shared → Prop} {l : Addr} {vs : List Value} {k : Value → Tri} {Q : Value → Shared → Prop} (hu : A.in1.in1.units < cLine) (hl : s.heap.IsList l vs.toArray) (hz : vs.length ≤ sizeLine) (hp : ∀ v ∈ vs, IsDem s.heap v (k v))
    (h : ∀ (h' : Heap) (d : Addr) (out : List Value), SrtO.Srtd (fun v u => lexT (k v) (k u)) out → SrtO.Stb (fun v u => lexT (k v) (k u)) out vs → (∀ b o, s.heap.get? b = some o → h'.get? b = some o) → s.heap.objs.size ≤ d → (∃ n, h'.get? d = some (seqObj "list" out.toArray n)) → Q (.ref d) { s with heap := h' }) :
    wpAny (model prog w) A (call (.builtin "sorted") [.ref l]) Q E s := by
  refine SrtO.sorted_ord (swo_lexT k) hl hz (fun h2 h₁ a ha kk => ?_) fun out hs hb => ?_
  · refine dems_sortable (s := { s with heap := h₁ }) hu (by omega) (fun v hm => (hp v hm).keeps fun b o e _ => (kk b o e).2) fun o e => ?_
    have e' : some o = some (seqObj "list" vs.toArray 0) := e.symm.trans ha
    cases e'
    intro c
    exact absurd (Value.type.inj c) (by decide)
  · exact h _ _ out hs hb (fun b o e => sortedAll_old e) (Nat.le_succ _) (sortedAll_at s.heap vs out.toArray)
end
def rSortDm (K : PySem.W.Frag) : List V → Hp → VK → Prop := fun vs H Q => ∃ (a : Addr) (xs : List V) (k : V → Tri), vs = [V.ref a] ∧ SqL K H a xs ∧ (∀ x ∈ xs, ∃ t u, x = V.ref t ∧ H t = some (.tup [.int (k x).1, .ref u]) ∧ H u = some (.tup [.int (k x).2.1, .int (k x).2.2])) ∧
  ∀ ys p, ys.Pairwise (fun x y => lexT (k y) (k x) = false) → ys.Perm xs → H p = none → Q (.ref p) (upd H p (.lst ys))
theorem cr_sortDm {X : Cx} (hu : X.A.in1.in1.units < cLine) : CallR X (.builtin "sorted") (rSortDm X.K) := by
  intro pins s σ H vs us Q I r h
  obtain ⟨a, xs, k, rfl, hs, hx, q⟩ := h
  obtain ⟨its, rv, hl, hz⟩ := I.list hs
  obtain ⟨u, rfl, ru⟩ := vals1 r
  obtain rfl : u = Value.ref a := ru
  obtain ⟨e1, e2⟩ := refs_back rv fun x m => by
    obtain ⟨t, _, e, _⟩ := hx x m
    exact ⟨t, e⟩
  refine sorted_dems (k := fun u => k (backV u)) hu hl.isList (by rw [← rv.length]; exact hz) (fun v hv => ?_) fun h' d out h1 h2 kp hd hn => ?_
  · obtain ⟨t, rfl⟩ := e2 v hv
    have hm : V.ref t ∈ xs := by rw [e1]; exact List.mem_map.mpr ⟨_, hv, rfl⟩
    obtain ⟨t', u, e, ht, hu'⟩ := hx _ hm
    cases e
    obtain ⟨_, its2, r2, o, ho, hc, n, hd⟩ := I.hok _ _ ht
    obtain ⟨u1, u2, rfl, ri, rj⟩ := vals2 r2
    obtain ⟨t1, rfl⟩ := ri
    obtain rfl : u2 = Value.ref u := rj
    obtain ⟨_, its3, r3, o3, ho3, hc3, n3, hd3⟩ := I.hok _ _ hu'
    obtain ⟨v1, v2, rfl, rk, rl⟩ := vals2 r3
    obtain ⟨t3, rfl⟩ := rk
    obtain ⟨t4, rfl⟩ := rl
    exact ⟨t, u, o, t1, n, rfl, ho, hc, hd, u, o3, t3, t4, n3, rfl, ho3, hc3, hd3⟩
  · have h3 : ∀ u ∈ out, ∃ a, u = Value.ref a := fun u hu => e2 u (h2.perm.mem_iff.mp hu)
    obtain ⟨n, hn⟩ := hn
    have pm : (out.map backV).Perm xs := by
      rw [e1]
      exact h2.perm.map backV
    refine ⟨.ref d, upd H d (.lst (out.map backV)), I.laid (t' := s.toks) kp hd ⟨?_, out, n, vals_back h3, hn⟩, rfl, q _ d (List.pairwise_map.mpr h1) pm (I.hok.fresh hd)⟩
    rw [pm.length_eq]
    exact hz

/-! ### sets of tuples that hold tuples: the search for a new member, putting it in, laying the table anew -/
section
/-- what a set asks of its members: told once for each kind of them -/
structure Mbr (P : Program) (w : World) (κ : Type) [DecidableEq κ] where
  at_ : Heap → κ → Addr → Prop
  hs : κ → Int
  tk : κ → Nat
  one : ∀ {h : Heap} {x y : κ} {b : Addr}, at_ h x b → at_ h y b → x = y
  tup : ∀ {h : Heap} {k : κ} {b : Addr}, at_ h k b → ∃ o, h.get? b = some o ∧ o.cls = .type "tuple"
  stay : ∀ {h g : Heap} {k : κ} {b : Addr}, at_ h k b → (∀ c o, h.get? c = some o → o.cls = .type "tuple" → g.get? c = some o) → at_ g k b
  hash_ : ∀ {A : Around} {E : Value → Shared → Prop} {s : Shared} {k : κ} {b : Addr} {Q : Int → Shared → Prop}, A.units + 8 < cLine → at_ s.heap k b → Q (hs k) { s with toks := s.toks + tk k } → wpAny (model P w) A (pyHash (.ref b)) Q E s
  eq_ : ∀ {A : Around} {E : Value → Shared → Prop} {s : Shared} {x y : κ} {b c : Addr} {Q : Bool → Shared → Prop}, A.units + 8 < cLine → at_ s.heap x b → at_ s.heap y c → Q (decide (x = y)) s → wpAny (model P w) A (eqBool (.ref b) (.ref c)) Q E s
  calm_ : ∀ {A : Around} {E : Value → Shared → Prop} {s : Shared} {k : κ} {b : Addr} {Q : Bool → Shared → Prop}, at_ s.heap k b → Q true s → wpAny (model P w) A (eqIsQuiet 8 (.ref b)) Q E s
  cls_ : ∀ {A : Around} {E : Value → Shared → Prop} {s : Shared} {k : κ} {b : Addr} {Q : Bool → Shared → Prop}, at_ s.heap k b → Q false s → wpAny (model P w) A (ofAClassStatement 8 (.ref b)) Q E s
  val_ : ∀ {A : Around} {E : Value → Shared → Prop} {s : Shared} {k : κ} {b : Addr} {Q : Bool → Shared → Prop}, at_ s.heap k b → Q true s → wpAny (model P w) A (hashByValue 8 (.ref b)) Q E s
variable {P : Program} {w : World} {κ : Type} [DecidableEq κ] {A : Around} {E : Value → Shared → Prop} {s : Shared}
def Mbr.lay (M : Mbr P w κ) (L : List (Addr × κ)) : List (Int × Value) := L.map fun p => (M.hs p.2, .ref p.1)
def Mbr.hash (M : Mbr P w κ) (L : List (Addr × κ)) : List Int := L.map fun p => M.hs p.2
theorem Mbr.lay_len (M : Mbr P w κ) (L : List (Addr × κ)) : (M.lay L).length = L.length := List.length_map ..
theorem Mbr.hash_len (M : Mbr P w κ) (L : List (Addr × κ)) : (M.hash L).length = L.length := List.length_map ..
theorem Mbr.calmAll (M : Mbr P w κ) {k : κ} {b : Addr} {Q : Bool → Shared → Prop} (mb : M.at_ s.heap k b) {ys : List Value} (my : ∀ y ∈ ys, ∃ j c, y = Value.ref c ∧ M.at_ s.heap j c) (fin : Q false s) : wpAny (model P w) A (searchCouldBeSeen (.ref b) ys) Q E s := by
  unfold searchCouldBeSeen
  refine wpAny_bind (wpAny_forIn_list _ (fun left r z => (r.1 = none ∧ z = s) ∧ ∀ y ∈ left, ∃ j c, y = Value.ref c ∧ M.at_ s.heap j c) _ (fun v left r z I => ?_) (fun r z I => ?_) _ _ ⟨⟨rfl, rfl⟩, my⟩)
  · obtain ⟨⟨er, rfl⟩, all⟩ := I
    obtain ⟨j, c, rfl, mc⟩ := all v List.mem_cons_self
    have next : (r.1 = none ∧ z = z) ∧ ∀ y ∈ left, ∃ j c, y = Value.ref c ∧ M.at_ z.heap j c := ⟨⟨er, rfl⟩, fun y hy => all y (List.mem_cons_of_mem _ hy)⟩
    dsimp only
    rcases Classical.em ((b == c || (carriedByValue (.ref b) && carriedByValue (.ref c))) = true) with same | other
    · exact wp_if_pos same (wpAny_pure ⟨⟨rfl, rfl⟩, next.2⟩)
    refine wp_if_neg other (wpAny_bind (M.calm_ mb ?_))
    rw [if_neg (by decide)]
    refine wpAny_bind (M.calm_ mc ?_)
    rw [if_neg (by decide)]
    refine wpAny_bind (M.cls_ mb ?_)
    rw [if_neg (by decide)]
    refine wpAny_bind (M.cls_ mc ?_)
    rw [if_neg (by decide)]
    exact wpAny_pure ⟨⟨rfl, rfl⟩, next.2⟩
  · obtain ⟨r1, r2⟩ := r
    obtain ⟨⟨er, rfl⟩, _⟩ := I
    cases er
    exact wpAny_pure fin
/-- the set at a: its members in the order of their places -/
structure NSet (M : Mbr P w κ) (h : Heap) (a : Addr) (L : List (Addr × κ)) (es : Array (Int × Value)) (ep : Nat) (t : SetTable) : Prop where
  here : ∃ o, h.get? a = some o ∧ o.ExactSet ∧ o.data = .set es ep t
  laid : es.toList = M.lay L
  tb : TabOk t (M.hash L)
  dis : (L.map Prod.snd).Nodup
  mbr : ∀ p ∈ L, M.at_ h p.2 p.1
  plain : t.plain = true
  led : w.params.followText "set-order" = true ∨ t.led = true
  room : 5 * L.length < 3 * t.mask
  few : L.length < 64
variable {M : Mbr P w κ} {a : Addr} {L : List (Addr × κ)} {es : Array (Int × Value)} {ep : Nat} {t : SetTable}
theorem NSet.count (R : NSet M s.heap a L es ep t) : es.size = L.length := by
  rw [← M.lay_len L, ← R.laid, Array.length_toList]
theorem NSet.holds (R : NSet M s.heap a L es ep t) : t.fits es.size = true := by
  have z1 := R.tb.sz
  have z2 := R.room
  rw [M.hash_len] at z1
  unfold SetTable.fits SetTable.fill
  rw [R.count, R.tb.dm]
  simp only [Bool.and_eq_true, beq_iff_eq, decide_eq_true_eq]
  exact ⟨z1, by show t.place.size + 0 ≤ t.mask; omega⟩
theorem NSet.nth_ (R : NSet M s.heap a L es ep t) {i : Nat} {p : Addr × κ} (e : L[i]? = some p) : es[i]? = some (M.hs p.2, Value.ref p.1) := by
  rw [← Array.getElem?_toList, R.laid, Mbr.lay, List.getElem?_map, e]
  rfl
abbrev stepP (m : Nat) (h : Int) (c : Nat) : SetTable.Probe := nth m (runAt m (SetTable.bits h % (m + 1)) (SetTable.bits h)) c
theorem stepP_no (m : Nat) (h : Int) : ∀ c, (stepP m h c).dummy = none
  | 0 => rfl
  | c + 1 => by
    have z := stepP_no m h c
    rw [stepP, nth_succ, adv]
    split <;> exact z
/-- the search for what is not in it ends at the first empty slot of its way -/
theorem NSet.search (R : NSet M s.heap a L es ep t) {x : Addr} {k : κ} (mk : M.at_ s.heap k x) (new : k ∉ L.map Prod.snd) (un : A.units + 8 < cLine) {K : Nat} (deep : K < 10 * SetTable.turns t.mask) (gap : way t.mask (M.hs k) K ∉ t.place.toList)
    (full : ∀ c, c < K → way t.mask (M.hs k) c ∈ t.place.toList) {Q : SetFound → Shared → Prop} (fin : Q (.free (way t.mask (M.hs k) K) false) s) :
    ∀ (f c : Nat) (st : Option SetTable.Probe), st.getD (t.probeStart (M.hs k)) = stepP t.mask (M.hs k) c → c ≤ K → K < c + f → wpAny (model P w) A (setSearchFrom a (.ref x) (M.hs k) true f st) Q E s := by
  intro f
  induction f with
  | zero =>
    intro c st _ le lt
    exact absurd lt (by omega)
  | succ f ih =>
    intro c st est le lt
    obtain ⟨ob, gO, xO, dO⟩ := R.here
    have odd : ¬ t.gaveWay = true := by
      have z := mask_odd R.tb.mok
      unfold SetTable.gaveWay
      rw [z]
      decide
    have shift : ∀ q, nth t.mask (stepP t.mask (M.hs k) c) q = stepP t.mask (M.hs k) (c + q) := fun q => (nth_add t.mask c _ q).symm
    rw [setSearchFrom_succ]
    refine wpAny_bind (wpAny_setState_of gO dO R.holds ?_)
    dsimp only
    refine wp_if_neg odd ?_
    rcases go_spec t R.tb.ris R.tb.dm (fun i => (es[i]?.map (·.1)).getD 0) (M.hs k) (10 * SetTable.turns t.mask) (K - c) (stepP t.mask (M.hs k) c) (stepP_no _ _ c) (by omega) (fun q lq => by
      rw [shift]
      exact full _ (by omega)) (by
      rw [shift, Nat.add_sub_cancel' le]
      exact gap) with ⟨q, i, lq, ei, _, _, pr⟩ | ⟨_, pr⟩
    · rw [shift] at ei
      rw [shift, shift] at pr
      have pr2 : t.probe (fun i => (es[i]?.map (·.1)).getD 0) (M.hs k) (st.getD (t.probeStart (M.hs k))) = some (.candidate (way t.mask (M.hs k) (c + q)) i (stepP t.mask (M.hs k) (c + (q + 1)))) := by
        rw [est]
        exact pr
      rw [pr2]
      dsimp only
      have li : i < L.length := by
        obtain ⟨z, _⟩ := List.getElem?_eq_some_iff.mp ei
        have z2 := R.tb.sz
        rw [M.hash_len] at z2
        rw [Array.length_toList, z2] at z
        exact z
      obtain ⟨p, ep_⟩ : ∃ p, L[i]? = some p := ⟨_, List.getElem?_eq_getElem li⟩
      have mp : p ∈ L := List.mem_of_getElem? ep_
      have ne : ¬ p.2 = k := fun z => new (List.mem_map.mpr ⟨p, mp, z⟩)
      have onward : wpAny (model P w) A (searchRest a (.ref x) (M.hs k) true f es t (way t.mask (M.hs k) (c + q)) i (stepP t.mask (M.hs k) (c + (q + 1)))) Q E s := by
        unfold searchRest
        rw [R.nth_ ep_]
        refine wpAny_bind (wpAny_holding (M.eq_ un (R.mbr p mp) mk ?_))
        rw [decide_eq_false ne]
        refine wpAny_bind (wpAny_setState_of gO dO R.holds ?_)
        dsimp only
        rw [if_neg (by decide), sameMem, slot_live R.tb.ris ei]
        simp only [if_true, R.nth_ ep_]
        refine wpAny_bind (wpAny_isSame_ref_self (wpAny_bind (wpAny_pure ?_)))
        simp only [if_true]
        rw [if_neg (by decide)]
        exact ih (c + (q + 1)) _ rfl (by omega) (by omega)
      rcases Classical.em (t.led = true) with hl | hl
      · rw [if_neg (by simp [hl])]
        exact onward
      · rw [if_pos (by simp [hl])]
        refine wpAny_bind (M.calmAll mk (fun y hy => ?_) ?_)
        · obtain ⟨e, he, ee⟩ := List.mem_map.mp hy
          have he2 : e ∈ es.toList := by
            have z : e ∈ es ∧ e.1 = M.hs k := by simpa using he
            simpa using z.1
          rw [R.laid, Mbr.lay] at he2
          obtain ⟨p2, hp2, e2⟩ := List.mem_map.mp he2
          exact ⟨p2.2, p2.1, by rw [← ee, ← e2], R.mbr p2 hp2⟩
        · rw [if_neg (by decide)]
          exact onward
    · rw [shift, Nat.add_sub_cancel' le] at pr
      have pr2 : t.probe (fun i => (es[i]?.map (·.1)).getD 0) (M.hs k) (st.getD (t.probeStart (M.hs k))) = some (.empty (way t.mask (M.hs k) K) none) := by
        rw [est]
        exact pr
      rw [pr2]
      exact wpAny_pure fin
end

section
variable {P : Program} {w : World} {κ : Type} [DecidableEq κ] {A : Around} {E : Value → Shared → Prop} {s : Shared} {M : Mbr P w κ} {a : Addr} {L : List (Addr × κ)} {es : Array (Int × Value)} {ep : Nat} {t : SetTable}
/-- members are none of the set's own business -/
theorem Mbr.apart (M : Mbr P w κ) {h g : Heap} {k : κ} {b : Addr} {ob : Obj} (mb : M.at_ h k b) (gO : h.get? a = some ob) (cO : ob.cls = .type "set") (sb : Heap.SameBut a h g) : M.at_ g k b := by
  refine M.stay mb fun c o e ec => (sb.2 c fun z => ?_).trans e
  subst z
  obtain rfl := Option.some.inj (e.symm.trans gO)
  exact absurd (Value.type.inj (ec.symm.trans cO)) (by decide)
theorem all_of_range {α : Type} : ∀ l : List α, (List.range l.length).filterMap (fun i => l[i]?) = l
  | [] => rfl
  | x :: l => by
    have z := all_of_range l
    rw [List.length_cons, List.range_succ_eq_map, List.filterMap_cons_some (f := fun i => (x :: l)[i]?) (a := 0) (b := x) rfl, List.filterMap_map]
    exact congrArg (x :: ·) z
theorem Mbr.order (M : Mbr P w κ) (ly : es.toList = M.lay L) {ord : Array Nat} (pm : ord.toList.Perm (List.range L.length)) :
    ∃ L2, L2.Perm L ∧ (ord.filterMap (es[·]?)).toList = M.lay L2 ∧ M.hash L2 = ord.toList.map fun i => (es.map (·.1)).getD i 0 := by
  have at_ : ∀ i, es[i]? = (L[i]?).map fun p : Addr × κ => (M.hs p.2, Value.ref p.1) := fun i => by
    rw [← Array.getElem?_toList, ly, Mbr.lay, List.getElem?_map]
  refine ⟨ord.toList.filterMap fun i => L[i]?, ?_, ?_, ?_⟩
  · have z := pm.filterMap fun i => L[i]?
    rw [all_of_range] at z
    exact z
  · rw [Array.toList_filterMap, Mbr.lay, List.map_filterMap]
    exact congrArg (fun f => List.filterMap f ord.toList) (funext at_)
  · have bound : ∀ i ∈ ord.toList, i < L.length := fun i hi => List.mem_range.mp (pm.mem_iff.mp hi)
    generalize ord.toList = l at bound
    induction l with
    | nil => rfl
    | cons i l ih =>
      have z := ih fun j hj => bound j (List.mem_cons_of_mem _ hj)
      have e := List.getElem?_eq_getElem (bound i List.mem_cons_self)
      have e2 : (es.map (·.1)).getD i 0 = M.hs (L[i]'(bound i List.mem_cons_self)).2 := by
        rw [Array.getD_eq_getD_getElem?, Array.getElem?_map, at_, e]
        rfl
      rw [List.filterMap_cons_some e, List.map_cons, ← z, e2]
      rfl
/-- the table is laid anew, larger -/
theorem Mbr.relay (M : Mbr P w κ) {ob : Obj} (gO : s.heap.get? a = some ob) (xO : ob.ExactSet) (dO : ob.data = .set es ep t) (ly : es.toList = M.lay L) (sz : t.place.size = es.size) (dm : t.dummies = #[]) (fl : es.size ≤ t.mask)
    (dis : (L.map Prod.snd).Nodup) (mb : ∀ p ∈ L, M.at_ s.heap p.2 p.1) (pl : t.plain = true) (ld : w.params.followText "set-order" = true ∨ t.led = true) (fw : L.length < 64) {want N : Nat}
    (eN : SetTable.sizeAbove want - 1 = N) (oN : MaskOk N) (small : SetTable.sizeAbove want ≤ 128) (rm : 5 * L.length < 3 * N) {Q : Unit → Shared → Prop}
    (fin : ∀ g L' es' ep' t', Heap.SameBut a s.heap g → L'.Perm L → NSet M g a L' es' ep' t' → Q () { s with heap := g }) : wpAny (model P w) A (setRelay a want) Q E s := by
  have cnt : es.size = L.length := by
    rw [← M.lay_len L, ← ly, Array.length_toList]
  have okT : t.fits es.size = true := by
    unfold SetTable.fits SetTable.fill
    rw [dm]
    simp only [Bool.and_eq_true, beq_iff_eq, decide_eq_true_eq]
    exact ⟨sz, by show t.place.size + 0 ≤ t.mask; omega⟩
  obtain ⟨t2, ord, er, pm, T, em, el, epl, _⟩ := relaid_ok t (hs := es.map (·.1)) eN oN (by rw [Array.size_map]; omega)
  rw [Array.size_map, cnt] at pm
  obtain ⟨L2, p2, ly2, h2⟩ := M.order ly pm
  rw [← h2] at T
  have cnt2 : (ord.filterMap (es[·]?)).size = es.size := by
    rw [← Array.length_toList, ly2, M.lay_len, p2.length_eq, cnt]
  rw [setRelay_eq]
  refine wpAny_bind (wpAny_setState_of gO dO okT ?_)
  dsimp only
  rw [if_neg (by rw [sizeLine_eq]; omega), er]
  dsimp only
  refine wpAny_bind ?_
  rw [if_neg (by rw [cnt2]; simp)]
  refine wpAny_pure ?_
  dsimp only
  refine wpAny_storeSet_of gO dO (fin _ L2 (ord.filterMap (es[·]?)) (ep + 1) t2 (Heap.SameBut.update ..) p2 ?_) (by rw [cnt2, cnt, sizeLine_eq]; omega)
  exact { here := ⟨_, store_at gO dO, xO, rfl⟩
          laid := ly2
          tb := T
          dis := (p2.map Prod.snd).nodup_iff.mpr dis
          mbr := fun p hp => M.apart (mb p (p2.mem_iff.mp hp)) gO xO.1 (Heap.SameBut.update ..)
          plain := epl.trans pl
          led := by
            rw [el]
            exact ld
          room := by
            rw [p2.length_eq, em]
            exact rm
          few := by
            rw [p2.length_eq]
            exact fw }
/-- a new member -/
theorem NSet.put (R : NSet M s.heap a L es ep t) {x : Addr} {k : κ} (mk : M.at_ s.heap k x) (new : k ∉ L.map Prod.snd) (un : A.units + 8 < cLine) (fw : L.length + 1 < 64) {Q : Bool → Shared → Prop}
    (fin : ∀ b g L' es' ep' t', Heap.SameBut a s.heap g → L'.Perm ((x, k) :: L) → NSet M g a L' es' ep' t' → Q b { s with heap := g }) : wpAny (model P w) A (setAddHashed a (.ref x) (M.hs k)) Q E s := by
  obtain ⟨ob, gO, xO, dO⟩ := R.here
  have cnt := R.count
  have rm := R.room
  obtain ⟨K, deep, gap, full⟩ := R.tb.first (by rw [M.hash_len]; omega) (M.hs k)
  have deep2 : K < 100000 := by
    have z : SetTable.turns t.mask ≤ 142 := by
      unfold SetTable.turns
      rcases R.tb.mok with e | e | e <;> omega
    omega
  have notScan : ¬ byScan (Value.ref x) es = true := by simp [byScan, Value.scannable]
  unfold setAddHashed
  refine wpAny_holding ?_
  rw [show (100000 : Nat) = 99999 + 1 from rfl, setAddHashedIn_succ]
  refine wpAny_bind (wpAny_setState_of gO dO R.holds ?_)
  dsimp only
  rw [if_neg notScan]
  refine wpAny_bind (R.search mk new un deep gap full ?_ 100000 0 none rfl (Nat.zero_le _) (by omega))
  dsimp only
  refine wpAny_bind (wpAny_setState_of gO dO R.holds ?_)
  dsimp only
  obtain ⟨u1, u2, u3, u4, u5, u6, u7, u8, u9⟩ := R.tb.put gap full
  have pl1 := u6.trans R.plain
  rcases ePut : t.put (way t.mask (M.hs k) K) with ⟨t1, at1⟩
  rw [ePut] at u1 u3 u4 u5 u6 u9 pl1
  dsimp only at u1 u3 u4 u5 u6 u9 pl1 ⊢
  subst u1
  rw [if_pos pl1]
  refine wpAny_bind (M.val_ mk ?_)
  simp only [if_true]
  have ly1 : (SetTable.insertAt es (SetTable.below t.place (way t.mask (M.hs k) K)) (M.hs k, Value.ref x)).toList = M.lay (L.take (SetTable.below t.place (way t.mask (M.hs k) K)) ++ (x, k) :: L.drop (SetTable.below t.place (way t.mask (M.hs k) K))) := by
    rw [SetTable.toList_insertAt, R.laid]
    simp only [Mbr.lay, List.map_append, List.map_cons, List.map_take, List.map_drop]
  have T1 : TabOk t1 (M.hash (L.take (SetTable.below t.place (way t.mask (M.hs k) K)) ++ (x, k) :: L.drop (SetTable.below t.place (way t.mask (M.hs k) K)))) := by
    simp only [Mbr.hash, List.map_append, List.map_cons, List.map_take, List.map_drop] at u3 ⊢
    exact u3
  have pm1 := put_perm L (SetTable.below t.place (way t.mask (M.hs k) K)) (x, k)
  generalize L.take (SetTable.below t.place (way t.mask (M.hs k) K)) ++ (x, k) :: L.drop (SetTable.below t.place (way t.mask (M.hs k) K)) = L1 at ly1 T1 pm1
  generalize SetTable.insertAt es (SetTable.below t.place (way t.mask (M.hs k) K)) (M.hs k, Value.ref x) = es1 at ly1 ⊢
  have len1 : L1.length = L.length + 1 := pm1.length_eq
  have cnt1 : es1.size = L.length + 1 := by
    rw [← Array.length_toList, ly1, M.lay_len, len1]
  have dis1 : (L1.map Prod.snd).Nodup := (pm1.map Prod.snd).nodup_iff.mpr (List.nodup_cons.mpr ⟨new, R.dis⟩)
  have sb1 : Heap.SameBut a s.heap (s.heap.update a (Obj.putSet es1 t1)) := Heap.SameBut.update ..
  have gO1 := store_at (es' := es1) (t' := t1) gO dO
  refine wpAny_bind (wpAny_storeSet_of gO dO ?_ (by rw [cnt1, sizeLine_eq]; omega))
  generalize s.heap.update a (Obj.putSet es1 t1) = g1 at sb1 gO1 ⊢
  have mb1 : ∀ p ∈ L1, M.at_ g1 p.2 p.1 := fun p hp => by
    rcases List.mem_cons.mp (pm1.mem_iff.mp hp) with rfl | hp
    · exact M.apart mk gO xO.1 sb1
    · exact M.apart (R.mbr p hp) gO xO.1 sb1
  have ld1 : w.params.followText "set-order" = true ∨ t1.led = true := by
    rw [u5]
    exact R.led
  have whole : ¬ t1.tooFull = true → NSet M g1 a L1 es1 (ep + 1) t1 := fun z =>
    { here := ⟨_, gO1, xO, rfl⟩
      laid := ly1
      tb := T1
      dis := dis1
      mbr := mb1
      plain := pl1
      led := ld1
      room := by
        unfold SetTable.tooFull at z
        rw [decide_eq_true_eq, u9, M.hash_len] at z
        omega
      few := by omega }
  rcases Classical.em (t1.tooFull = true) with z | z
  · have over : 3 * t.mask ≤ 5 * (L.length + 1) := by
      unfold SetTable.tooFull at z
      rw [decide_eq_true_eq, u9, M.hash_len, u4] at z
      omega
    have cases2 : (t.mask = 7 ∧ L.length = 4) ∨ (t.mask = 31 ∧ L.length = 18) := by
      rcases R.tb.mok with e | e | e
      · exact .inl ⟨e, by omega⟩
      · exact .inr ⟨e, by omega⟩
      · omega
    rw [if_pos (by simp [z]), cnt]
    have go : ∀ N, SetTable.sizeAbove (SetTable.grown (L.length + 1)) - 1 = N → MaskOk N → SetTable.sizeAbove (SetTable.grown (L.length + 1)) ≤ 128 → 5 * (L.length + 1) < 3 * N → es1.size ≤ t1.mask →
        wpAny (model P w) A (setRelay a (SetTable.grown (L.length + 1))) (fun _ z => wpAny (model P w) A (pure true) Q E z) E { s with heap := g1 } := fun N n1 n2 n3 n4 n5 => by
      refine M.relay (s := { s with heap := g1 }) gO1 xO rfl ly1 (by rw [T1.sz, M.hash_len, len1, cnt1]) T1.dm n5 dis1 mb1 pl1 ld1 (by omega) n1 n2 n3 (by rw [len1]; exact n4) fun g2 L2 es2 ep2 t2 sb2 pm2 R2 => ?_
      exact wpAny_pure (fin true g2 L2 es2 ep2 t2 (sb1.trans sb2) (pm2.trans pm1) R2)
    rcases cases2 with ⟨e1, e2⟩ | ⟨e1, e2⟩
    · exact wpAny_bind (go 31 (by rw [e2, size_20]) (.inr (.inl rfl)) (by rw [e2, size_20]; decide) (by omega) (by omega))
    · exact wpAny_bind (go 127 (by rw [e2, size_76]) (.inr (.inr rfl)) (by rw [e2, size_76]; decide) (by omega) (by omega))
  · rw [if_neg (by simp [z])]
    exact wpAny_pure (fin true g1 L1 es1 (ep + 1) t1 sb1 pm1 (whole z))
end

section
variable {P : Program} {w : World} {κ : Type} [DecidableEq κ] {A : Around} {E : Value → Shared → Prop} {s : Shared} {M : Mbr P w κ}
theorem NSet.carry {h g : Heap} {a : Addr} {L : List (Addr × κ)} {es : Array (Int × Value)} {ep : Nat} {t : SetTable} (R : NSet M h a L es ep t) (ha : ∀ o, h.get? a = some o → g.get? a = some o) (mb : ∀ p ∈ L, M.at_ g p.2 p.1) : NSet M g a L es ep t := by
  obtain ⟨o, e, z⟩ := R.here
  exact { R with here := ⟨o, ha o e, z⟩, mbr := mb }
theorem NSet.bare {h : Heap} {a : Addr} (e : h.get? a = some { cls := .type "set", dict := none, data := .set #[] 0 (.fresh 0 0 (!w.params.followText "set-order")) }) : NSet M h a [] #[] 0 (.fresh 0 0 (!w.params.followText "set-order")) :=
  { here := ⟨_, e, ⟨rfl, rfl, rfl⟩, rfl⟩
    laid := rfl
    tb := ⟨List.Pairwise.nil, rfl, rfl, .inl rfl, fun _ z => (nomatch z), fun i _ _ z => (by simp [Mbr.hash] at z)⟩
    dis := List.nodup_nil
    mbr := fun _ z => (nomatch z)
    plain := rfl
    led := by
      rcases Bool.eq_false_or_eq_true (w.params.followText "set-order") with z | z
      · exact .inl z
      · exact .inr (by
          show (!w.params.followText "set-order") = true
          rw [z]
          rfl)
    room := (by decide : 5 * 0 < 3 * 7)
    few := (by decide : 0 < 64) }
theorem take_step {α : Type} {l : List α} {i : Nat} {x : α} (e : l[i]? = some x) : (x :: l.take i).Perm (l.take (i + 1)) := by
  rw [take_next e]
  exact (List.perm_append_comm (l₁ := [x]))
/-- the walk that puts the items in, one after another; all are unlike -/
theorem Mbr.update (M : Mbr P w κ) {I : Addr} {fp wr : List Addr} {G : Array GenState → Array GenState → Prop} {n : Nat} {Pv : Nat → Value → Prop} {St : Nat → Shared → Prop} {R : Result → Shared → Prop} (W : WalksS P w A.in1 I fp wr G n Pv St)
    (S : Addr) (out : S ∉ fp) (ks : List (Addr × κ)) (en : n = ks.length) (dis : (ks.map Prod.snd).Nodup) (fw : ks.length < 64) (vals : ∀ i v, Pv i v → ∃ p, ks[i]? = some p ∧ v = .ref p.1)
    (h0 : Heap) (mb : ∀ p ∈ ks, M.at_ h0 p.2 p.1) (fr : h0.get? S = none) (fr2 : ∀ b ∈ wr, h0.get? b = none) (un : A.in1.units + 8 < cLine) :
    ∀ (k i : Nat) (s : Shared), n = i + k → St i s → (∀ b o, h0.get? b = some o → s.heap.get? b = some o) → (∃ L es ep t, L.Perm (ks.take i) ∧ NSet M s.heap S L es ep t) →
      (∀ z L es ep t, Moved (S :: wr) G s z → L.Perm ks → NSet M z.heap S L es ep t → (∀ b o, h0.get? b = some o → z.heap.get? b = some o) → R (.ok (.ret .none)) z) →
      codeAny (model P w) A (.builtin "set.update.loop" ⟨[.ref S, .ref I], []⟩) R s := by
  have outW : S ∉ wr := fun z => out (W.sub _ z)
  have kept : ∀ {s z : Shared}, Moved wr G s z → (∀ b o, h0.get? b = some o → s.heap.get? b = some o) → ∀ b o, h0.get? b = some o → z.heap.get? b = some o := fun mv kp b o e => by
    refine mv.heap b o (fun inW => ?_) (kp b o e)
    rw [fr2 b inW] at e
    cases e
  have later : ∀ {s : Shared} {p : Addr × κ}, p ∈ ks → (∀ b o, h0.get? b = some o → s.heap.get? b = some o) → M.at_ s.heap p.2 p.1 := fun hp kp => M.stay (mb _ hp) fun c o e _ => kp c o e
  intro k
  induction k with
  | zero =>
    intro i s ei st kp ⟨L, es, ep, t, pm, R1⟩ fin
    have full : ks.take i = ks := List.take_of_length_le (by omega)
    rw [full] at pm
    obtain rfl : i = n := by omega
    refine codeAny_builtin F.entry_set_update_loop ?_
    rw [Around.under_plainId (F.plain_set_update_loop) _]
    refine (?_ : wpAny _ A.in1 (pyNext (.ref I) >>= _) _ _ s)
    refine wpAny_bind (W.done s _ _ st fun z mv => ?_)
    have kp2 := kept mv kp
    exact wpAny_pure (fin z L es ep t (mv.mono fun b hb => List.mem_cons_of_mem _ hb) pm (R1.carry (fun o e => mv.heap S o outW e) fun p hp => later (pm.mem_iff.mp hp) kp2) kp2)
  | succ k ih =>
    intro i s ei st kp ⟨L, es, ep, t, pm, R1⟩ fin
    refine codeAny_builtin F.entry_set_update_loop ?_
    rw [Around.under_plainId (F.plain_set_update_loop) _]
    refine (?_ : wpAny _ A.in1 (pyNext (.ref I) >>= _) _ _ s)
    refine wpAny_bind (W.item i s _ _ (by omega) st fun v z iv st2 mv => ?_)
    obtain ⟨p, at_p, rfl⟩ := vals i v iv
    have kp2 := kept mv kp
    have mp : p ∈ ks := List.mem_of_getElem? at_p
    have R2 : NSet M z.heap S L es ep t := R1.carry (fun o e => mv.heap S o outW e) fun q hq => later (List.mem_of_mem_take (pm.mem_iff.mp hq)) kp2
    have new : p.2 ∉ L.map Prod.snd := fun hm => by
      obtain ⟨q, hq, eq⟩ := List.mem_map.mp hm
      obtain ⟨j, lj, ej⟩ := List.getElem_of_mem (pm.mem_iff.mp hq)
      rw [List.length_take] at lj
      have lj2 : j < ks.length := by omega
      have li := (List.getElem?_eq_some_iff.mp at_p)
      obtain ⟨li, ei2⟩ := li
      rw [List.getElem_take] at ej
      have z := (List.getElem_inj (xs := ks.map Prod.snd) (h₀ := by rw [List.length_map]; exact lj2) (h₁ := by rw [List.length_map]; exact li) dis).mp (by rw [List.getElem_map, List.getElem_map, ej, ei2, eq])
      omega
    refine (?_ : wpAny _ A.in1 (holding [Value.ref p.1] (setAdd S (.ref p.1)) >>= _) _ _ z)
    refine wpAny_bind (wpAny_holding ?_)
    unfold setAdd
    refine wpAny_holding (wpAny_bind (M.hash_ un (later mp kp2) ?_))
    refine R2.put (s := { z with toks := z.toks + M.tk p.2 }) (later mp kp2) new un (by rw [pm.length_eq, List.length_take]; omega) fun b g L2 es2 ep2 t2 sb pm2 R3 => ?_
    have kp3 : ∀ b o, h0.get? b = some o → g.get? b = some o := fun b o e => by
      refine (sb.2 b fun eb => ?_).trans (kp2 b o e)
      rw [eb, fr] at e
      cases e
    refine wpAny_pure ⟨plainId_quiet (F.plain_set_update_loop) _, ih (i + 1) _ (by omega) (W.frame _ z _ _ st2 (Nat.le_add_right _ _) fun b hb o e => ?_) kp3 ⟨L2, es2, ep2, t2, pm2.trans ((pm.cons p).trans (take_step at_p)), R3⟩ fun z2 L4 es4 ep4 t4 mv4 pm4 R4 kp4 => ?_⟩
    · refine (sb.2 b fun eb => out ?_).trans e
      rw [← eb]
      exact hb
    · refine fin z2 L4 es4 ep4 t4 (Moved.trans W.gtrans ((mv.mono fun b hb => List.mem_cons_of_mem _ hb).then_heap (Nat.le_add_right _ _) fun b o nb e => ?_) mv4) pm4 R4 kp4
      exact (sb.2 b fun eb => nb (by rw [eb]; exact List.mem_cons_self)).trans e
/-- set(t), t a tuple of members that are all unlike -/
theorem Mbr.made (M : Mbr P w κ) {l : Addr} {its : Array Value} (ks : List (Addr × κ)) {Q : Value → Shared → Prop} (quiet : A.handled = none) (isT : s.heap.IsTuple l its) (refs : its.toList = ks.map fun p => Value.ref p.1)
    (dis : (ks.map Prod.snd).Nodup) (mb : ∀ p ∈ ks, M.at_ s.heap p.2 p.1) (few : ks.length < 64) (un : A.units + 16 < cLine)
    (fin : ∀ (h2 : Heap) (tk : Nat) L es ep t, L.Perm ks → NSet M h2 s.heap.objs.size L es ep t → (∀ b o, s.heap.get? b = some o → h2.get? b = some o) → Q (.ref s.heap.objs.size) { s with heap := h2, toks := tk }) :
    wpAny (model P w) A (call (.type "set") [.ref l]) Q E s := by
  have size : its.size = ks.length := by
    rw [← Array.length_toList, refs, List.length_map]
  obtain ⟨cA, tA, mA⟩ := F.called_set.mro
  have f1 := F.called_set.made
  have f2 := F.called_set.sub
  refine wpAny_call (codeAny_of_tree (?_ : wpAny _ _ (callAny (.type "set") _) _ _ _))
  refine wpAny_pure (And.intro (Code.quiet_builtin _ (by decide +kernel)) (codeAny_builtin F.entry_type_call ?_))
  rw [Around.under_plain (weight_type_call_type "set" [Value.ref l] []) rfl]
  have f3 := F.called_set.notType
  have f4 := F.called_set.canCreate
  have f5 := F.typeCall_set_1 (Value.ref l)
  repeat any_goals first | assumption | wp_step
  refine codeAny_mono (code_set_led1 (.ref l) (E := E) (Q₁ := fun v s1 => v = .ref s.heap.objs.size ∧ s1 = { s with heap := s.heap.push (noSetT w) }) (And.intro rfl rfl)) fun r s1 h1 => ?_
  match r, h1 with
  | .error e, h1 => exact h1
  | .ok (.ret v), h1 =>
    obtain ⟨rfl, rfl⟩ := h1
    have at0 : (s.heap.push (noSetT w)).get? s.heap.objs.size = some (noSetT w) := Heap.get?_push_size _ rfl
    have ty0 : Shared.TypeIs { s with heap := s.heap.push (noSetT w) } (.ref s.heap.objs.size) "set" := Exists.intro _ (And.intro at0 rfl)
    have f6 := F.called_set.init.lookup
    have f7 := F.called_set.init.bind (Value.ref s.heap.objs.size)
    repeat any_goals first | assumption | wp_step
    let Z : Value → Shared → Prop := fun v s2 => v = .none ∧ ∃ h2 tk L es ep t, s2 = { s with heap := h2, toks := tk } ∧ L.Perm ks ∧ NSet M h2 s.heap.objs.size L es ep t ∧ ∀ b o, s.heap.get? b = some o → h2.get? b = some o
    refine codeAny_mono (codeAny_call_builtin (R := wants Z E) F.called_set.init.plain F.entry_set_init (check_set_init_1 ty0 ?_)) fun r2 s2 h2 => ?_
    · obtain ⟨o, eo, ec, k, ed⟩ := isT
      obtain ⟨oc, od, oD, oS⟩ := o
      simp only at ec ed
      subst ec ed
      have lt : l < s.heap.objs.size := Heap.lt_size eo
      have eo1 : (s.heap.push (noSetT w)).get? l = some { cls := .type "tuple", dict := od, data := .seq its k, slots := oS } := Heap.get?_push_of_some _ eo
      have g1 := F.sub_tuple_set
      have g2 := F.sub_tuple_frozenset
      have g3 : (Value.type "tuple" == Value.type "dict") = false := by decide
      have isT1 : (s.heap.push (noSetT w)).IsTuple l its := Exists.intro _ (And.intro eo1 (And.intro rfl (Exists.intro k rfl)))
      unfold Builtin.«set.__init__» Builtin.Frozenset.updateFrom noKeywords
      generalize keep : pyIter = itr
      wp_walk
      subst keep
      refine wpAny_pyIter_tuple isT1 (wpAny_bind (wpAny_runValue ?_))
      have quiet3 : A.in1.in1.in1.handled = none := by simp [quiet]
      have sz : (s.heap.push (noSetT w)).objs.size = s.heap.objs.size + 1 := Heap.size_push ..
      have lI : l ≠ (s.heap.push (noSetT w)).objs.size := by
        rw [sz]
        exact Nat.ne_of_lt (Nat.lt_succ_of_lt lt)
      have out : s.heap.objs.size ∉ [(s.heap.push (noSetT w)).objs.size, l] := by
        rw [sz]
        intro z
        rcases List.mem_cons.mp z with z | z
        · exact absurd z (Nat.ne_of_lt (Nat.lt_succ_self _))
        · exact absurd (List.mem_singleton.mp z) (Nat.ne_of_gt lt)
      have vals : ∀ (i : Nat) (v : Value), its[i]? = some v → ∃ p, ks[i]? = some p ∧ v = .ref p.1 := fun i v hv => by
        have z : its.toList[i]? = some v := by
          rw [Array.getElem?_toList]
          exact hv
        rw [refs, List.getElem?_map] at z
        obtain ⟨p, e1, e2⟩ := Option.map_eq_some_iff.mp z
        exact Exists.intro p (And.intro e1 e2.symm)
      have beyond : ∀ b, s.heap.objs.size ≤ b → s.heap.get? b = none := fun b hb => by
        cases z : s.heap.get? b with
        | none => rfl
        | some o => exact (Nat.lt_irrefl _ (Nat.lt_of_lt_of_le (Heap.lt_size z) hb)).elim
      refine M.update (Walks.tuple quiet3 _ l lI its).toS s.heap.objs.size out ks size dis few vals s.heap mb (beyond _ (Nat.le_refl _)) (fun b hb => beyond b ?_) ?un its.size 0 _ (Nat.zero_add _).symm (And.intro (Exists.intro _ (And.intro (Heap.get?_push_size _ rfl) (And.intro rfl rfl))) (isT1.push _)) (fun b o e => Heap.get?_push_of_some _ (Heap.get?_push_of_some _ e)) ?start ?last
      · rw [List.mem_singleton.mp hb, sz]
        exact Nat.le_succ _
      case un =>
        simp only [Around.in1_units]
        omega
      case start =>
        exact ⟨[], #[], 0, _, .refl _, NSet.bare (Heap.get?_push_of_some _ at0)⟩
      case last =>
        intro s3 L es ep t mv pm R kp
        obtain ⟨h3, g3', d3, tk3, o3⟩ := s3
        have m1 : g3' = s.gens := mv.gens
        have m2 : d3 = s.drawn := mv.drawn
        have m3 : o3 = s.os := mv.os
        subst m1 m2 m3
        refine wpAny_pure (?_ : wpAny _ _ (ret Value.none) _ _ _)
        exact wpAny_pure (And.intro rfl ⟨h3, tk3, L, es, ep, t, rfl, pm, R, kp⟩)
    · match r2, h2 with
      | .error e, h2 => exact h2
      | .ok (.ret v), h2 =>
        obtain ⟨rfl, h', tk, L, es, ep, t, rfl, pm, R, kp⟩ := h2
        repeat any_goals first | assumption | wp_step
        exact fin h' tk L es ep t pm R kp
      | .ok .next, h2 => exact h2
      | .ok .brk, h2 => exact h2
      | .ok .cont, h2 => exact h2
  | .ok .next, h1 => exact h1
  | .ok .brk, h1 => exact h1
  | .ok .cont, h1 => exact h1
end

/-! ### demands as members of a set: set(t), sorted(set) -/
section
variable {P : Program} {w : World}
def nkD (q : Tri) : NestedKey := .tup [.num q.1, .tup [.num q.2.1, .num q.2.2]]
theorem nkD_inj {x y : Tri} (h : nkD x = nkD y) : x = y := by
  obtain ⟨x1, x2, x3⟩ := x
  obtain ⟨y1, y2, y3⟩ := y
  unfold nkD at h
  simp only [NestedKey.tup.injEq, List.cons.injEq, NestedKey.num.injEq, and_true] at h
  obtain ⟨rfl, rfl, rfl⟩ := h
  rfl
theorem IsDem.key {h : Heap} {v : Value} {q : Tri} (d : IsDem h v q) : NestedIs h (nkD q) v := by
  obtain ⟨a, b, o, t, n, rfl, ho, hc, hd, b', o', t1, t2, m, eb, ho', hc', hd'⟩ := d
  injection eb with eb
  subst eb
  exact .tup ho hc hd (.cons (.int _ _) (.cons (.tup ho' hc' hd' (.cons (.int _ _) (.cons (.int _ _) .nil))) .nil))
theorem cls_int (n : Nat) (i : Int) (t : Tok) {A : Around} {E : Value → Shared → Prop} {s : Shared} {Q : Bool → Shared → Prop} (fin : Q false s) : wpAny (model P w) A (ofAClassStatement n (.int i t)) Q E s := by
  rw [ofAClass_int]
  exact wpAny_pure fin
theorem cls_seq {A : Around} {E : Value → Shared → Prop} {s : Shared} {b : Addr} {o : Obj} {vs : Array Value} {m n : Nat} {Q : Bool → Shared → Prop} (ho : s.heap.get? b = some o) (hc : o.cls = .type "tuple") (hd : o.data = .seq vs m)
    (each : ∀ v ∈ vs.toList, ∀ {Q : Bool → Shared → Prop}, Q false s → wpAny (model P w) A (ofAClassStatement n v) Q E s) (fin : Q false s) : wpAny (model P w) A (ofAClassStatement (n + 1) (.ref b)) Q E s := by
  unfold ofAClassStatement
  refine wpAny_bind (wpAny_typeOf ⟨o, ho, hc⟩ ?_)
  dsimp only
  simp only [show (("tuple" : String) == "tuple") = true by decide, if_true]
  refine wpAny_bind (wpAny_pure ?_)
  simp only [Bool.not_true, Bool.false_eq_true, if_false]
  refine wpAny_bind (m := seqItems? (.ref b)) (wpAny_seqItems ho hd ?_)
  dsimp only
  refine wpAny_bind (?_ : wpAny _ _ (forIn vs _ _) _ _ s)
  rw [← Array.forIn_toList]
  refine wpAny_forIn_list _ (fun left r z => (r.1 = none ∧ z = s) ∧ ∀ v ∈ left, v ∈ vs.toList) _ (fun v left r z I => ?_) (fun r z I => ?_) _ _ ⟨⟨rfl, rfl⟩, fun _ hv => hv⟩
  · obtain ⟨⟨_, rfl⟩, sub⟩ := I
    refine wpAny_bind (each v (sub v List.mem_cons_self) ?_)
    rw [if_neg (by decide)]
    exact wpAny_pure ⟨⟨rfl, rfl⟩, fun u hu => sub u (List.mem_cons_of_mem _ hu)⟩
  · obtain ⟨r1, r2⟩ := r
    obtain ⟨⟨er, rfl⟩, _⟩ := I
    cases er
    exact wpAny_pure fin
theorem val_seq {A : Around} {E : Value → Shared → Prop} {s : Shared} {b : Addr} {o : Obj} {vs : Array Value} {m n : Nat} {Q : Bool → Shared → Prop} (ho : s.heap.get? b = some o) (hc : o.cls = .type "tuple") (hd : o.data = .seq vs m)
    (each : ∀ v ∈ vs.toList, ∀ {Q : Bool → Shared → Prop}, Q true s → wpAny (model P w) A (hashByValue n v) Q E s) (fin : Q true s) : wpAny (model P w) A (hashByValue (n + 1) (.ref b)) Q E s := by
  unfold hashByValue
  refine wpAny_bind (wpAny_specialOf ⟨o, ho, hc⟩ (F.slot_tuple_hash.lookup) ?_)
  refine wpAny_bind (m := seqItems? (.ref b)) (wpAny_seqItems ho hd ?_)
  refine wpAny_bind (?_ : wpAny _ _ (forIn vs _ _) _ _ s)
  rw [← Array.forIn_toList]
  refine wpAny_forIn_list _ (fun left r z => (r.1 = none ∧ z = s) ∧ ∀ v ∈ left, v ∈ vs.toList) _ (fun v left r z I => ?_) (fun r z I => ?_) _ _ ⟨⟨rfl, rfl⟩, fun _ hv => hv⟩
  · obtain ⟨⟨_, rfl⟩, sub⟩ := I
    refine wpAny_bind (each v (sub v List.mem_cons_self) ?_)
    rw [if_neg (by decide)]
    exact wpAny_pure ⟨⟨rfl, rfl⟩, fun u hu => sub u (List.mem_cons_of_mem _ hu)⟩
  · obtain ⟨r1, r2⟩ := r
    obtain ⟨⟨er, rfl⟩, _⟩ := I
    cases er
    exact wpAny_pure fin
theorem of_two {x y : Value} {p : Value → Prop} (h1 : p x) (h2 : p y) : ∀ v ∈ (#[x, y] : Array Value).toList, p v := by
  intro v hv
  rcases List.mem_cons.mp hv with rfl | hv
  · exact h1
  · rw [List.mem_singleton.mp hv]
    exact h2
/-- demands as members -/
def dmMbr (P : Program) (w : World) : Mbr P w Tri where
  at_ h q b := IsDem h (.ref b) q
  hs q := (nkD q).hash w
  tk q := (nkD q).draws
  one h1 h2 := nkD_inj (NestedIs.inj _ _ _ h1.key h2.key)
  tup h := by
    obtain ⟨a, b, o, t, n, e, ho, hc, _⟩ := h
    injection e with e
    subst e
    exact ⟨o, ho, hc⟩
  stay h k := h.keeps k
  hash_ {A E s k b Q} un h fin := pyHash_key (nkD k) _ A s Q h.key (by
    have z : (nkD k).depth = 2 := rfl
    rw [z]
    omega) fin
  eq_ {A E s x y b c Q} un h1 h2 fin := by
    refine eqAt_key (nkD x) (nkD y) A s _ _ h1.key h2.key ?_ _ _ _ _ ?_
    · have z1 : (nkD x).depth = 2 := rfl
      have z2 : (nkD y).depth = 2 := rfl
      rw [z1, z2]
      show A.units + 2 < cLine
      omega
    · rw [← NestedKey.decide_eq]
      have z : decide (nkD x = nkD y) = decide (x = y) := decide_eq_decide.mpr ⟨nkD_inj, fun e => by rw [e]⟩
      rw [z]
      exact fin
  calm_ {A E s k b Q} h fin := quiet_key (nkD k) _ 8 s h.key (by
    have z : (nkD k).depth = 2 := rfl
    omega) A E Q fin
  cls_ {A E s k b Q} h fin := by
    obtain ⟨a, b, o, t, n, e, ho, hc, hd, b', o', t1, t2, m, eb, ho', hc', hd'⟩ := h
    injection e with e
    injection eb with eb
    subst e eb
    refine cls_seq (n := 7) ho hc hd (fun v hv Q fin => ?_) fin
    revert v
    refine of_two (cls_int 7 _ _ fin) ?_
    refine cls_seq (n := 6) ho' hc' hd' (fun v hv Q fin => ?_) fin
    revert v
    exact of_two (cls_int 6 _ _ fin) (cls_int 6 _ _ fin)
  val_ {A E s k b Q} h fin := by
    obtain ⟨a, b, o, t, n, e, ho, hc, hd, b', o', t1, t2, m, eb, ho', hc', hd'⟩ := h
    injection e with e
    injection eb with eb
    subst e eb
    have int : ∀ (n : Nat) (i : Int) (t : Tok) {Q : Bool → Shared → Prop}, Q true s → wpAny (model P w) A (hashByValue n (.int i t)) Q E s := fun n i t Q fin => by
      rw [hashBy_int]
      exact wpAny_pure fin
    refine val_seq (n := 7) ho hc hd (fun v hv Q fin => ?_) fin
    revert v
    refine of_two (int 7 _ _ fin) ?_
    refine val_seq (n := 6) ho' hc' hd' (fun v hv Q fin => ?_) fin
    revert v
    exact of_two (int 6 _ _ fin) (int 6 _ _ fin)
end

section
theorem perm_of_map {α β : Type} {f : α → β} {out ys : List β} (pm : out.Perm ys) : ∀ {L : List α}, ys = L.map f → ∃ L' : List α, L'.Perm L ∧ out = L'.map f := by
  induction pm with
  | nil =>
    intro L e
    exact ⟨[], by rw [List.map_eq_nil_iff.mp e.symm], rfl⟩
  | cons x _ ih =>
    intro L e
    cases L with
    | nil => cases e
    | cons p L =>
      obtain ⟨e1, e2⟩ := List.cons.inj e
      obtain ⟨L', pm, e3⟩ := ih e2
      exact ⟨p :: L', pm.cons p, by rw [e1, e3, List.map_cons]⟩
  | swap x y l =>
    intro L e
    match L, e with
    | p :: q :: L, e =>
      obtain ⟨e1, e⟩ := List.cons.inj e
      obtain ⟨e2, e3⟩ := List.cons.inj e
      exact ⟨q :: p :: L, .swap p q L, by rw [e1, e2, e3, List.map_cons, List.map_cons]⟩
  | trans _ _ ih1 ih2 =>
    intro L e
    obtain ⟨L2, p2, e2⟩ := ih2 e
    obtain ⟨L1, p1, e1⟩ := ih1 e2
    exact ⟨L1, p1.trans p2, e1⟩
variable {P : Program} {w : World} {A : Around} {E : Value → Shared → Prop} {s : Shared} {a : Addr} {L : List (Addr × Tri)} {es : Array (Int × Value)} {ep : Nat} {t : SetTable}
theorem sortedNSet (R : NSet (dmMbr P w) s.heap a L es ep t) (quiet : A.handled = none) (un : A.units + 8 < cLine) {Q : Value → Shared → Prop}
    (fin : ∀ z p (L' : List (Addr × Tri)), (∀ b o, s.heap.get? b = some o → z.heap.get? b = some o) → z.gens = s.gens → z.os = s.os → s.heap.objs.size ≤ p → L'.Perm L → L'.Pairwise (fun x y => lexT y.2 x.2 = false) →
      (∃ n, z.heap.get? p = some (seqObj "list" (L'.map fun q => Value.ref q.1).toArray n)) → Q (.ref p) z) : wpAny (model P w) A (call (.builtin "sorted") [.ref a]) Q E s := by
  obtain ⟨ob, gO, xO, dO⟩ := R.here
  refine Calls.call_function_entry kind_sorted (plain_sorted) entry_sorted (args_sorted1 _) ?_
  unfold Builtin.«sorted»
  refine wpAny_bind (m := checkCount "sorted" 1 1 _) (wpAny_pure (wpAny_bind ?_))
  refine collect_set (A := A.in1) (by simp [quiet]) ⟨ob, gO, xO.1, dO⟩ R.holds (by rw [R.count]; have z := R.few; unfold scanBound; omega) R.tb.ris R.led fun s1 vs k1 big g1 o1 pm => ?_
  have cells : es.toList.map (·.2) = L.map fun q => Value.ref q.1 := by
    rw [R.laid, Mbr.lay, List.map_map]
    rfl
  rw [cells] at pm
  obtain ⟨L1, pm1, e1⟩ := perm_of_map pm rfl
  have few1 : vs.length < 64 := by
    rw [e1, List.length_map, pm1.length_eq]
    exact R.few
  refine wpAny_bind (wpAny_newList ?_ (by rw [sizeLine_eq]; omega))
  have own : (s1.heap.push (seqObj "list" vs.toArray 0)).get? s1.heap.objs.size = some (seqObj "list" vs.toArray 0) := Heap.get?_push_size _ rfl
  have k2 : ∀ b o, s.heap.get? b = some o → b ≠ s1.heap.objs.size ∧ b < (s1.heap.push (seqObj "list" vs.toArray 0)).objs.size ∧ (s1.heap.push (seqObj "list" vs.toArray 0)).get? b = some o := fun b o e => by
    have lt : b < s1.heap.objs.size := Heap.lt_size (k1 b o e)
    exact ⟨Nat.ne_of_lt lt, by rw [Heap.size_push]; exact Nat.lt_succ_of_lt lt, Heap.get?_push_of_some _ (k1 b o e)⟩
  have key : ∃ k : Value → Tri, ∀ p ∈ L, k (.ref p.1) = p.2 := by
    refine ⟨fun v => Classical.epsilon fun q => IsDem s.heap v q, fun p hp => ?_⟩
    have d := R.mbr p hp
    exact (dmMbr P w).one (Classical.epsilon_spec (p := fun q => IsDem s.heap (.ref p.1) q) ⟨_, d⟩) d
  obtain ⟨k, ek⟩ := key
  have dem : ∀ v ∈ vs, IsDem (s1.heap.push (seqObj "list" vs.toArray 0)) v (k v) := fun v hv => by
    rw [e1] at hv
    obtain ⟨p, hp, rfl⟩ := List.mem_map.mp hv
    have hp := pm1.mem_iff.mp hp
    rw [ek p hp]
    exact IsDem.keeps (R.mbr p hp) fun b o e _ => (k2 b o e).2.2
  refine wpAny_bind (wpAny_holding (wpAny_call_entry slot_list_sort ⟨_, own, rfl⟩ entry_list_sort (SrtO.list_sort_ord (swo_lexT k) own (by rw [sizeLine_eq]; omega) (fun h2 => ?_) fun out hs hb => ⟨_, rfl, ?_⟩) (args_list_sort _)))
  · refine dems_sortable (s := { s1 with heap := s1.heap.push (seqObj "list" vs.toArray 0) }) (by simp only [Around.in1_units]; omega) (by omega) dem fun o' e' => ?_
    have z : some o' = some (seqObj "list" vs.toArray 0) := e'.symm.trans own
    cases z
    exact fun c => absurd (Value.type.inj c) (by decide)
  · obtain ⟨L2, pm2, e2⟩ := perm_of_map (hb.perm.trans (by rw [e1])) (rfl : L1.map (fun q => Value.ref q.1) = L1.map fun q => Value.ref q.1)
    have pm3 := pm2.trans pm1
    refine wpAny_pure ⟨_, rfl, fin _ _ L2 (fun b o e => ?_) g1 o1 big pm3 ?_ ?_⟩
    · have z := k2 b o e
      show (sortedHeap _ _ _ _).get? b = some o
      rw [sortedHeap_old z.1 z.2.1]
      exact z.2.2
    · rw [e2] at hs
      refine List.Pairwise.imp_of_mem (fun {x y} hx hy z => ?_) (List.pairwise_map.mp hs)
      have z : lexT (k (.ref y.1)) (k (.ref x.1)) = false := z
      rw [ek _ (pm3.mem_iff.mp hx), ek _ (pm3.mem_iff.mp hy)] at z
      exact z
    · rw [← e2]
      exact sortedHeap_at own
end

/-- the set at a, its members left to the tuples -/
def nsetAt {P : Program} {w : World} (M : Mbr P w Tri) (h : Heap) (a : Addr) (L : List (Addr × Tri)) : Prop := ∃ (es : Array (Int × Value)) (ep : Nat) (t : SetTable), (∃ o, h.get? a = some o ∧ o.ExactSet ∧ o.data = .set es ep t) ∧
  es.toList = M.lay L ∧ TabOk t (M.hash L) ∧ (L.map Prod.snd).Nodup ∧ t.plain = true ∧ (w.params.followText "set-order" = true ∨ t.led = true) ∧ 5 * L.length < 3 * t.mask ∧ L.length < 64
def setD (P : Program) (w : World) (a : Addr) (L : List (Addr × Tri)) : HO := .ext fun h => nsetAt (dmMbr P w) h a L
/-- a demand, as it is tracked -/
def DemH (H : Hp) (p : Addr × Tri) : Prop := ∃ u, H p.1 = some (.tup [.int p.2.1, .ref u]) ∧ H u = some (.tup [.int p.2.2.1, .int p.2.2.2])
section
variable {X : Cx}
theorem setD_ok {P : Program} {w : World} {H : Hp} {h : Heap} {a : Addr} {L : List (Addr × Tri)} {es : Array (Int × Value)} {ep : Nat} {t : SetTable} (R : NSet (dmMbr P w) h a L es ep t) : ObjOk P w H h a (setD P w a L) := by
  obtain ⟨o, ho, z⟩ := R.here
  refine ⟨⟨es, ep, t, R.here, R.laid, R.tb, R.dis, R.plain, R.led, R.room, R.few⟩, ⟨o, ho⟩, fun h1 h2 p k => ?_⟩
  obtain ⟨es', ep', t', ⟨o', ho', z'⟩, y⟩ := p
  exact ⟨es', ep', t', ⟨o', k o' ho', z'⟩, y⟩
theorem inv_dem {pins : List (Addr × Obj)} {σ : L2.St} {H : Hp} {s : Shared} {p : Addr × Tri} (I : Inv X pins σ H s) (d : DemH H p) : IsDem s.heap (.ref p.1) p.2 := by
  obtain ⟨u, ht, hu⟩ := d
  obtain ⟨_, its2, r2, o, ho, hc, n, hd⟩ := I.hok _ _ ht
  obtain ⟨u1, u2, rfl, ri, rj⟩ := vals2 r2
  obtain ⟨t1, rfl⟩ := ri
  obtain rfl : u2 = Value.ref u := rj
  obtain ⟨_, its3, r3, o3, ho3, hc3, n3, hd3⟩ := I.hok _ _ hu
  obtain ⟨v1, v2, rfl, rk, rl⟩ := vals2 r3
  obtain ⟨t3, rfl⟩ := rk
  obtain ⟨t4, rfl⟩ := rl
  exact ⟨_, u, o, t1, n, rfl, ho, hc, hd, u, o3, t3, t4, n3, rfl, ho3, hc3, hd3⟩
/-- set(t), t a tuple of demands, no two alike -/
def rSetD (K : PySem.W.Frag) (P : Program) (w : World) : List V → Hp → VK → Prop := fun xs H Q => ∃ (l : Addr) (ks : List (Addr × Tri)), xs = [V.ref l] ∧ SqT K H l (ks.map fun p => V.ref p.1) ∧ (∀ p ∈ ks, DemH H p) ∧ (ks.map Prod.snd).Nodup ∧ ks.length < 64 ∧
  ∀ a L, H a = none → L.Perm ks → Q (.ref a) (upd H a (setD P w a L))
theorem cr_setD (calm : X.calm = true) (un : X.A.units + 64 < cLine) : CallR X (.type "set") (rSetD X.K X.prog X.w) := by
  intro pins s σ H xs us Q I r h
  obtain ⟨l, ks, rfl, hl, hk, dis, few, q⟩ := h
  rw [Vals.ref1 r]
  obtain ⟨its, rv, pl, sz0⟩ := I.tuple hl
  have nn : H s.heap.objs.size = none := I.hok.fresh (Nat.le_refl _)
  have refs : its = ks.map fun p => Value.ref p.1 := by
    clear pl hl hk dis few q sz0
    induction ks generalizing its with
    | nil =>
      cases rv
      rfl
    | cons p ks ih =>
      cases rv with
      | cons e rv =>
        cases e
        rw [ih _ rv]
        rfl
  refine (dmMbr X.prog X.w).made (its := its.toArray) ks (I.ok.hd calm) pl (by rw [List.toList_toArray]; exact refs) dis (fun p hp => inv_dem I (hk p hp)) few (by omega) fun h2 tk L es ep t pm R kp => ?_
  exact ⟨.ref s.heap.objs.size, _, I.laid (t' := tk) kp (Nat.le_refl _) (setD_ok R), rfl, q _ L nn pm⟩
/-- sorted(set of demands) -/
def rSortD (P : Program) (w : World) : List V → Hp → VK → Prop := fun vs H Q => ∃ (a : Addr) (L : List (Addr × Tri)), vs = [V.ref a] ∧ H a = some (setD P w a L) ∧ (∀ p ∈ L, DemH H p) ∧
  ∀ (L' : List (Addr × Tri)) (p : Addr), L'.Perm L → L'.Pairwise (fun x y => lexT y.2 x.2 = false) → H p = none → Q (.ref p) (upd H p (.lst (L'.map fun q => V.ref q.1)))
theorem cr_sortD (calm : X.calm = true) (un : X.A.units + 64 < cLine) : CallR X (.builtin "sorted") (rSortD X.prog X.w) := by
  intro pins s σ H vs us Q I r h
  obtain ⟨a, L, rfl, ha, hk, q⟩ := h
  have here : nsetAt (dmMbr X.prog X.w) s.heap a L := (I.hok a _ ha).1
  obtain ⟨es, ep, t, ob, y1, y2, y3, y4, y5, y6, y7⟩ := here
  have R : NSet (dmMbr X.prog X.w) s.heap a L es ep t := ⟨ob, y1, y2, y3, fun p hp => inv_dem I (hk p hp), y4, y5, y6, y7⟩
  rw [Vals.ref1 r]
  refine sortedNSet R (I.ok.hd calm) (by omega) fun z p L' k g o big pm asc hn => ?_
  obtain ⟨c, hn⟩ := hn
  have fr : H p = none := I.hok.fresh big
  have few : (L'.map fun q => V.ref q.1).length ≤ sizeLine := by
    have z := R.few
    rw [List.length_map, pm.length_eq, sizeLine_eq]
    omega
  have vl : Vals (L'.map fun q => V.ref q.1) (L'.map fun q => Value.ref q.1) := by
    clear hn few asc pm
    induction L' with
    | nil => exact .nil
    | cons p L' ih => exact .cons rfl ih
  have J : Inv X pins σ (upd H p (.lst (L'.map fun q => V.ref q.1))) { s with heap := z.heap, gens := z.gens, drawn := z.drawn, toks := z.toks } :=
    I.call (ch := []) (Un.laid k big fr) (I.hok.laid k big ⟨few, _, c, vl, hn⟩) (by rw [g]; exact I.bare) (fun _ z => nomatch z)
  have e : z = { s with heap := z.heap, gens := z.gens, drawn := z.drawn, toks := z.toks } := by
    cases z
    cases s
    cases o
    rfl
  rw [e]
  exact ⟨.ref p, _, J, rfl, q L' p pm asc fr⟩
end
/-- demands of one strict order: two orders of the same are one -/
theorem lexT_asc {L L' : List (Addr × Tri)} (pm : L'.Perm L) (h : L.Pairwise fun x y => lexT x.2 y.2 = true) (h' : L'.Pairwise fun x y => lexT y.2 x.2 = false) : L' = L := by
  have no : ∀ {p q : Tri}, lexT p q = true → lexT q p = false := fun {p q} z => by
    unfold lexT at z ⊢
    rw [decide_eq_true_eq] at z
    rw [decide_eq_false_iff_not]
    omega
  have irr : ∀ p : Tri, lexT p p = false := fun p => by
    unfold lexT
    rw [decide_eq_false_iff_not]
    omega
  induction L generalizing L' with
  | nil => exact pm.eq_nil
  | cons p L ih =>
    obtain ⟨h1, h2⟩ := List.pairwise_cons.mp h
    cases L' with
    | nil => exact absurd pm.symm.eq_nil (by simp)
    | cons p' L' =>
      obtain ⟨g1, g2⟩ := List.pairwise_cons.mp h'
      have e : p' = p := by
        rcases List.mem_cons.mp (pm.mem_iff.mp List.mem_cons_self) with e | m
        · exact e
        · rcases List.mem_cons.mp (pm.mem_iff.mpr List.mem_cons_self) with e2 | m2
          · exact e2.symm
          · have z1 := g1 p m2
            rw [h1 p' m] at z1
            cases z1
      subst e
      rw [ih pm.cons_inv h2 g2]

def topS (i : Nat) : Stmt := PySem.Challenge.pw_fewspans_k78_numbers_needed.main.body.getD i (.Pass ⟨0, 0, 0, 0⟩)
abbrev s_is_number : Stmt := topS 19
abbrev N_is_number : List Str := ["value"]
theorem sc_is_number : FnScope N_is_number ["value"] (defScope s_is_number) := ⟨rfl, rfl, rfl, by decide +kernel, rfl, by decide +kernel, by decide +kernel⟩
abbrev s_is_position : Stmt := topS 20
abbrev N_is_position : List Str := ["value"]
theorem sc_is_position : FnScope N_is_position ["value"] (defScope s_is_position) := ⟨rfl, rfl, rfl, by decide +kernel, rfl, by decide +kernel, by decide +kernel⟩
abbrev s_is_tuple_of : Stmt := topS 21
abbrev N_is_tuple_of : List Str := ["value", "length"]
theorem sc_is_tuple_of : FnScope N_is_tuple_of ["value", "length"] (defScope s_is_tuple_of) := ⟨rfl, rfl, rfl, by decide +kernel, rfl, by decide +kernel, by decide +kernel⟩
abbrev s_is_interval : Stmt := topS 22
abbrev N_is_interval : List Str := ["value", "low", "high"]
theorem sc_is_interval : FnScope N_is_interval ["value"] (defScope s_is_interval) := ⟨rfl, rfl, rfl, by decide +kernel, rfl, by decide +kernel, by decide +kernel⟩
abbrev s_ascending_error : Stmt := topS 23
abbrev N_ascending_error : List Str := ["value", "most", "index", "item"]
theorem sc_ascending_error : FnScope N_ascending_error ["value", "most"] (defScope s_ascending_error) := ⟨rfl, rfl, rfl, by decide +kernel, rfl, by decide +kernel, by decide +kernel⟩
abbrev s_targets_error : Stmt := topS 24
abbrev N_targets_error : List Str := ["value"]
theorem sc_targets_error : FnScope N_targets_error ["value"] (defScope s_targets_error) := ⟨rfl, rfl, rfl, by decide +kernel, rfl, by decide +kernel, by decide +kernel⟩
abbrev s_is_pieces : Stmt := topS 25
abbrev N_is_pieces : List Str := ["value"]
theorem sc_is_pieces : FnScope N_is_pieces ["value"] (defScope s_is_pieces) := ⟨rfl, rfl, rfl, by decide +kernel, rfl, by decide +kernel, by decide +kernel⟩
abbrev s_has_position : Stmt := topS 26
abbrev N_has_position : List Str := ["interval", "position"]
theorem sc_has_position : FnScope N_has_position ["interval", "position"] (defScope s_has_position) := ⟨rfl, rfl, rfl, by decide +kernel, rfl, by decide +kernel, by decide +kernel⟩
abbrev s_contains : Stmt := topS 27
abbrev N_contains : List Str := ["outer", "inner"]
theorem sc_contains : FnScope N_contains ["outer", "inner"] (defScope s_contains) := ⟨rfl, rfl, rfl, by decide +kernel, rfl, by decide +kernel, by decide +kernel⟩
abbrev s_pieces_inside : Stmt := topS 29
abbrev N_pieces_inside : List Str := ["pieces", "target", "piece"]
theorem sc_pieces_inside : FnScope N_pieces_inside ["pieces", "target"] (defScope s_pieces_inside) := ⟨rfl, rfl, rfl, by decide +kernel, rfl, by decide +kernel, by decide +kernel⟩
abbrev s_first_gap : Stmt := topS 30
abbrev N_first_gap : List Str := ["pieces", "target", "position", "last", "low", "high"]
theorem sc_first_gap : FnScope N_first_gap ["pieces", "target"] (defScope s_first_gap) := ⟨rfl, rfl, rfl, by decide +kernel, rfl, by decide +kernel, by decide +kernel⟩
abbrev s_find_missing : Stmt := topS 31
abbrev N_find_missing : List Str := ["targets", "pieces", "target", "gap"]
theorem sc_find_missing : FnScope N_find_missing ["targets", "pieces"] (defScope s_find_missing) := ⟨rfl, rfl, rfl, by decide +kernel, rfl, by decide +kernel, by decide +kernel⟩
abbrev s_without_item : Stmt := topS 32
abbrev N_without_item : List Str := ["items", "item", "other"]
theorem sc_without_item : FnScope N_without_item ["items", "item"] (defScope s_without_item) := ⟨rfl, rfl, rfl, by decide +kernel, rfl, by decide +kernel, by decide +kernel⟩
abbrev s_with_interval : Stmt := topS 34
abbrev N_with_interval : List Str := ["intervals", "value", "bound"]
theorem sc_with_interval : FnScope N_with_interval ["intervals", "value", "bound"] (defScope s_with_interval) := ⟨rfl, rfl, rfl, by decide +kernel, rfl, by decide +kernel, by decide +kernel⟩
abbrev s_without_interval : Stmt := topS 35
abbrev N_without_interval : List Str := ["intervals", "value"]
theorem sc_without_interval : FnScope N_without_interval ["intervals", "value"] (defScope s_without_interval) := ⟨rfl, rfl, rfl, by decide +kernel, rfl, by decide +kernel, by decide +kernel⟩
abbrev s_edited_state : Stmt := topS 36
abbrev N_edited_state : List Str := ["state", "word", "value", "targets", "pieces"]
theorem sc_edited_state : FnScope N_edited_state ["state", "word", "value"] (defScope s_edited_state) := ⟨rfl, rfl, rfl, by decide +kernel, rfl, by decide +kernel, by decide +kernel⟩
abbrev s_depth_changes : Stmt := topS 38
abbrev N_depth_changes : List Str := ["intervals", "changes", "low", "high"]
theorem sc_depth_changes : FnScope N_depth_changes ["intervals"] (defScope s_depth_changes) := ⟨rfl, rfl, rfl, by decide +kernel, rfl, by decide +kernel, by decide +kernel⟩
abbrev s_find_blocks : Stmt := topS 39
abbrev N_find_blocks : List Str := ["intervals", "changes", "borders", "blocks", "depth", "low", "after"]
theorem sc_find_blocks : FnScope N_find_blocks ["intervals"] (defScope s_find_blocks) := ⟨rfl, rfl, rfl, by decide +kernel, rfl, by decide +kernel, by decide +kernel⟩
abbrev s_serves : Stmt := topS 41
abbrev N_serves : List Str := ["piece", "demand", "position", "target"]
theorem sc_serves : FnScope N_serves ["piece", "demand"] (defScope s_serves) := ⟨rfl, rfl, rfl, by decide +kernel, rfl, by decide +kernel, by decide +kernel⟩
abbrev s_conflict : Stmt := topS 42
abbrev N_conflict : List Str := ["first", "second"]
theorem sc_conflict : FnScope N_conflict ["first", "second"] (defScope s_conflict) := ⟨rfl, rfl, rfl, by decide +kernel, rfl, by decide +kernel, by decide +kernel⟩
abbrev s_demands_at_blocks : Stmt := topS 43
abbrev N_demands_at_blocks : List Str := ["targets", "blocks", "low", "high", "target"]
theorem sc_demands_at_blocks : FnScope N_demands_at_blocks ["targets", "blocks"] (defScope s_demands_at_blocks) := ⟨rfl, rfl, rfl, by decide +kernel, rfl, by decide +kernel, by decide +kernel⟩
abbrev s_is_open : Stmt := topS 44
abbrev N_is_open : List Str := ["pieces", "demand", "piece"]
theorem sc_is_open : FnScope N_is_open ["pieces", "demand"] (defScope s_is_open) := ⟨rfl, rfl, rfl, by decide +kernel, rfl, by decide +kernel, by decide +kernel⟩
abbrev s_open_demands : Stmt := topS 45
abbrev N_open_demands : List Str := ["targets", "pieces", "demands", "demand"]
theorem sc_open_demands : FnScope N_open_demands ["targets", "pieces"] (defScope s_open_demands) := ⟨rfl, rfl, rfl, by decide +kernel, rfl, by decide +kernel, by decide +kernel⟩
abbrev s_shadow_target : Stmt := topS 46
abbrev N_shadow_target : List Str := ["targets", "demand", "position", "whole", "target"]
theorem sc_shadow_target : FnScope N_shadow_target ["targets", "demand"] (defScope s_shadow_target) := ⟨rfl, rfl, rfl, by decide +kernel, rfl, by decide +kernel, by decide +kernel⟩
abbrev s_require_few_blocks : Stmt := topS 48
abbrev N_require_few_blocks : List Str := ["intervals"]
theorem sc_require_few_blocks : FnScope N_require_few_blocks ["intervals"] (defScope s_require_few_blocks) := ⟨rfl, rfl, rfl, by decide +kernel, rfl, by decide +kernel, by decide +kernel⟩
abbrev s_decisive_demands : Stmt := topS 49
abbrev N_decisive_demands : List Str := ["targets", "pieces", "demand"]
theorem sc_decisive_demands : FnScope N_decisive_demands ["targets", "pieces"] (defScope s_decisive_demands) := ⟨rfl, rfl, rfl, by decide +kernel, rfl, by decide +kernel, by decide +kernel⟩
abbrev s_largest_independent : Stmt := topS 50
abbrev N_largest_independent : List Str := ["demands", "first", "rest", "chosen", "demand", "position", "target"]
theorem sc_largest_independent : FnScope N_largest_independent ["demands"] (defScope s_largest_independent) := ⟨rfl, rfl, rfl, by decide +kernel, rfl, by decide +kernel, by decide +kernel⟩
abbrev s_unserved_demands : Stmt := topS 51
abbrev N_unserved_demands : List Str := ["demands", "piece", "demand"]
theorem sc_unserved_demands : FnScope N_unserved_demands ["demands", "piece"] (defScope s_unserved_demands) := ⟨rfl, rfl, rfl, by decide +kernel, rfl, by decide +kernel, by decide +kernel⟩
abbrev s_helpful_piece : Stmt := topS 52
abbrev N_helpful_piece : List Str := ["demands", "blocks", "pieces", "low", "end", "start", "high"]
theorem sc_helpful_piece : FnScope N_helpful_piece ["demands", "blocks"] (defScope s_helpful_piece) := ⟨rfl, rfl, rfl, by decide +kernel, rfl, by decide +kernel, by decide +kernel⟩
abbrev s_smallest_solution : Stmt := topS 53
abbrev N_smallest_solution : List Str := ["targets", "pieces", "blocks", "demands", "witnesses", "added", "piece"]
theorem sc_smallest_solution : FnScope N_smallest_solution ["targets", "pieces"] (defScope s_smallest_solution) := ⟨rfl, rfl, rfl, by decide +kernel, rfl, by decide +kernel, by decide +kernel⟩
abbrev s_count_needed : Stmt := topS 54
abbrev N_count_needed : List Str := ["targets", "pieces"]
theorem sc_count_needed : FnScope N_count_needed ["targets", "pieces"] (defScope s_count_needed) := ⟨rfl, rfl, rfl, by decide +kernel, rfl, by decide +kernel, by decide +kernel⟩
abbrev s_solve : Stmt := topS 55
abbrev N_solve : List Str := ["targets", "pieces"]
theorem sc_solve : FnScope N_solve ["targets", "pieces"] (defScope s_solve) := ⟨rfl, rfl, rfl, by decide +kernel, rfl, by decide +kernel, by decide +kernel⟩
abbrev s_law_deck : Stmt := topS 59
abbrev N_law_deck : List Str := ["_law_script", "_law_cell"]
theorem sc_law_deck : FnScope N_law_deck ["_law_script"] (defScope s_law_deck) := ⟨rfl, rfl, rfl, by decide +kernel, rfl, by decide +kernel, by decide +kernel⟩
abbrev s_law_draw : Stmt := topS 60
abbrev N_law_draw : List Str := ["_law_deck_here", "_law_many", "_law_cell", "_law_place"]
theorem sc_law_draw : FnScope N_law_draw ["_law_deck_here", "_law_many"] (defScope s_law_draw) := ⟨rfl, rfl, rfl, by decide +kernel, rfl, by decide +kernel, by decide +kernel⟩
abbrev s_law_line : Stmt := topS 61
abbrev N_law_line : List Str := ["_law_deck_here", "_law_most_here", "_law_low", "_law_found", "_law_k", "_law_size"]
theorem sc_law_line : FnScope N_law_line ["_law_deck_here", "_law_most_here"] (defScope s_law_line) := ⟨rfl, rfl, rfl, by decide +kernel, rfl, by decide +kernel, by decide +kernel⟩
abbrev s_law_interval : Stmt := topS 62
abbrev N_law_interval : List Str := ["_law_deck_here", "_law_line_here", "_law_first", "_law_last"]
theorem sc_law_interval : FnScope N_law_interval ["_law_deck_here", "_law_line_here"] (defScope s_law_interval) := ⟨rfl, rfl, rfl, by decide +kernel, rfl, by decide +kernel, by decide +kernel⟩
abbrev s_law_intervals : Stmt := topS 63
abbrev N_law_intervals : List Str := ["_law_deck_here", "_law_line_here", "_law_most_here", "_law_found", "_law_k"]
theorem sc_law_intervals : FnScope N_law_intervals ["_law_deck_here", "_law_line_here", "_law_most_here"] (defScope s_law_intervals) := ⟨rfl, rfl, rfl, by decide +kernel, rfl, by decide +kernel, by decide +kernel⟩
abbrev s_law_served : Stmt := topS 64
abbrev N_law_served : List Str := ["_law_pieces", "_law_position", "_law_target", "_law_low", "_law_high", "_law_piece"]
theorem sc_law_served : FnScope N_law_served ["_law_pieces", "_law_position", "_law_target"] (defScope s_law_served) := ⟨rfl, rfl, rfl, by decide +kernel, rfl, by decide +kernel, by decide +kernel⟩
abbrev s_law_options : Stmt := topS 65
abbrev N_law_options : List Str := ["_law_line_here", "_law_targets", "_law_pieces", "_law_found", "_law_position", "_law_end", "_law_some", "_law_one", "_law_least", "_law_low", "_law_high"]
theorem sc_law_options : FnScope N_law_options ["_law_line_here", "_law_targets", "_law_pieces"] (defScope s_law_options) := ⟨rfl, rfl, rfl, by decide +kernel, rfl, by decide +kernel, by decide +kernel⟩
abbrev s_law_conflict : Stmt := topS 66
abbrev N_law_conflict : List Str := ["_law_first", "_law_second", "_law_low", "_law_high"]
theorem sc_law_conflict : FnScope N_law_conflict ["_law_first", "_law_second"] (defScope s_law_conflict) := ⟨rfl, rfl, rfl, by decide +kernel, rfl, by decide +kernel, by decide +kernel⟩
abbrev s_law_most : Stmt := topS 67
abbrev N_law_most : List Str := ["_law_options_here", "_law_chosen", "_law_best", "_law_demand", "_law_one"]
theorem sc_law_most : FnScope N_law_most ["_law_options_here", "_law_chosen"] (defScope s_law_most) := ⟨rfl, rfl, rfl, by decide +kernel, rfl, by decide +kernel, by decide +kernel⟩
abbrev s_law_needed : Stmt := topS 68
abbrev N_law_needed : List Str := ["_law_line_here", "_law_targets", "_law_pieces"]
theorem sc_law_needed : FnScope N_law_needed ["_law_line_here", "_law_targets", "_law_pieces"] (defScope s_law_needed) := ⟨rfl, rfl, rfl, by decide +kernel, rfl, by decide +kernel, by decide +kernel⟩
abbrev s_law_edit : Stmt := topS 69
abbrev N_law_edit : List Str := ["_law_deck_here", "_law_line_here", "_law_state", "_law_way", "_law_side", "_law_words", "_law_value", "_law_there"]
theorem sc_law_edit : FnScope N_law_edit ["_law_deck_here", "_law_line_here", "_law_state"] (defScope s_law_edit) := ⟨rfl, rfl, rfl, by decide +kernel, rfl, by decide +kernel, by decide +kernel⟩
abbrev s_law_after : Stmt := topS 70
abbrev N_law_after : List Str := ["_law_state", "_law_edit_here", "_law_word", "_law_value", "_law_side", "_law_there", "_law_one", "_law_found"]
theorem sc_law_after : FnScope N_law_after ["_law_state", "_law_edit_here"] (defScope s_law_after) := ⟨rfl, rfl, rfl, by decide +kernel, rfl, by decide +kernel, by decide +kernel⟩
abbrev s_law_do : Stmt := topS 71
abbrev N_law_do : List Str := ["_law_plan", "_law_edit_here", "_law_word", "_law_value"]
theorem sc_law_do : FnScope N_law_do ["_law_plan", "_law_edit_here"] (defScope s_law_do) := ⟨rfl, rfl, rfl, by decide +kernel, rfl, by decide +kernel, by decide +kernel⟩
abbrev s_law_begun : Stmt := topS 72
abbrev N_law_begun : List Str := ["_law_deck_here", "_law_most_here", "_law_line_here"]
theorem sc_law_begun : FnScope N_law_begun ["_law_deck_here", "_law_most_here"] (defScope s_law_begun) := ⟨rfl, rfl, rfl, by decide +kernel, rfl, by decide +kernel, by decide +kernel⟩
abbrev s_law_generated : Stmt := topS 73
abbrev N_law_generated : List Str := ["_law_line_here", "_law_targets", "_law_pieces", "_law_low", "_law_high", "_law_covered", "_law_ends", "_law_one"]
theorem sc_law_generated : FnScope N_law_generated ["_law_line_here", "_law_targets", "_law_pieces"] (defScope s_law_generated) := ⟨rfl, rfl, rfl, by decide +kernel, rfl, by decide +kernel, by decide +kernel⟩
abbrev s_law_solution_right : Stmt := topS 74
abbrev N_law_solution_right : List Str := ["_law_line_here", "_law_targets", "_law_pieces", "_law_found", "_law_number", "_law_part", "_law_added", "_law_witnesses", "_law_k", "_law_position", "_law_target", "_law_j"]
theorem sc_law_solution_right : FnScope N_law_solution_right ["_law_line_here", "_law_targets", "_law_pieces", "_law_found", "_law_number"] (defScope s_law_solution_right) := ⟨rfl, rfl, rfl, by decide +kernel, rfl, by decide +kernel, by decide +kernel⟩
abbrev s_law : Stmt := topS 75
abbrev N_law : List Str := ["_law_script", "_law_deck_here", "_law_line_here", "_law_state", "_law_plan", "_law_turn", "_law_edit_here", "_law_number"]
theorem sc_law : FnScope N_law ["_law_script"] (defScope s_law) := ⟨rfl, rfl, rfl, by decide +kernel, rfl, by decide +kernel, by decide +kernel⟩
abbrev s_Plan_init : Stmt := inClass (topS 57) 0
abbrev N_Plan_init : List Str := ["self", "targets", "pieces", "error"]
theorem sc_Plan_init : FnScope N_Plan_init ["self", "targets", "pieces"] (defScope s_Plan_init) := ⟨rfl, rfl, rfl, by decide +kernel, rfl, by decide +kernel, by decide +kernel⟩
abbrev s_Plan_add_target : Stmt := inClass (topS 57) 1
abbrev N_Plan_add_target : List Str := ["self", "interval"]
theorem sc_Plan_add_target : FnScope N_Plan_add_target ["self", "interval"] (defScope s_Plan_add_target) := ⟨rfl, rfl, rfl, by decide +kernel, rfl, by decide +kernel, by decide +kernel⟩
abbrev s_Plan_add_piece : Stmt := inClass (topS 57) 2
abbrev N_Plan_add_piece : List Str := ["self", "interval"]
theorem sc_Plan_add_piece : FnScope N_Plan_add_piece ["self", "interval"] (defScope s_Plan_add_piece) := ⟨rfl, rfl, rfl, by decide +kernel, rfl, by decide +kernel, by decide +kernel⟩
abbrev s_Plan_remove_target : Stmt := inClass (topS 57) 3
abbrev N_Plan_remove_target : List Str := ["self", "interval"]
theorem sc_Plan_remove_target : FnScope N_Plan_remove_target ["self", "interval"] (defScope s_Plan_remove_target) := ⟨rfl, rfl, rfl, by decide +kernel, rfl, by decide +kernel, by decide +kernel⟩
abbrev s_Plan_remove_piece : Stmt := inClass (topS 57) 4
abbrev N_Plan_remove_piece : List Str := ["self", "interval"]
theorem sc_Plan_remove_piece : FnScope N_Plan_remove_piece ["self", "interval"] (defScope s_Plan_remove_piece) := ⟨rfl, rfl, rfl, by decide +kernel, rfl, by decide +kernel, by decide +kernel⟩
abbrev s_Plan_targets : Stmt := inClass (topS 57) 7
abbrev N_Plan_targets : List Str := ["self", "version"]
theorem sc_Plan_targets : FnScope N_Plan_targets ["self", "version"] (defScope s_Plan_targets) := ⟨rfl, rfl, rfl, by decide +kernel, rfl, by decide +kernel, by decide +kernel⟩
abbrev s_Plan_pieces : Stmt := inClass (topS 57) 8
abbrev N_Plan_pieces : List Str := ["self", "version"]
theorem sc_Plan_pieces : FnScope N_Plan_pieces ["self", "version"] (defScope s_Plan_pieces) := ⟨rfl, rfl, rfl, by decide +kernel, rfl, by decide +kernel, by decide +kernel⟩
abbrev s_Plan_needed : Stmt := inClass (topS 57) 9
abbrev N_Plan_needed : List Str := ["self", "version", "targets", "pieces"]
theorem sc_Plan_needed : FnScope N_Plan_needed ["self", "version"] (defScope s_Plan_needed) := ⟨rfl, rfl, rfl, by decide +kernel, rfl, by decide +kernel, by decide +kernel⟩
abbrev s_Plan_solution : Stmt := inClass (topS 57) 10
abbrev N_Plan_solution : List Str := ["self", "version", "targets", "pieces"]
theorem sc_Plan_solution : FnScope N_Plan_solution ["self", "version"] (defScope s_Plan_solution) := ⟨rfl, rfl, rfl, by decide +kernel, rfl, by decide +kernel, by decide +kernel⟩
abbrev s_Plan_missing : Stmt := inClass (topS 57) 11
abbrev N_Plan_missing : List Str := ["self", "version", "targets", "pieces"]
theorem sc_Plan_missing : FnScope N_Plan_missing ["self", "version"] (defScope s_Plan_missing) := ⟨rfl, rfl, rfl, by decide +kernel, rfl, by decide +kernel, by decide +kernel⟩
abbrev s_Plan_edit : Stmt := inClass (topS 57) 14
abbrev N_Plan_edit : List Str := ["self", "word", "value"]
theorem sc_Plan_edit : FnScope N_Plan_edit ["self", "word", "value"] (defScope s_Plan_edit) := ⟨rfl, rfl, rfl, by decide +kernel, rfl, by decide +kernel, by decide +kernel⟩
abbrev s_Plan_record : Stmt := inClass (topS 57) 15
abbrev N_Plan_record : List Str := ["self", "word", "value", "state"]
theorem sc_Plan_record : FnScope N_Plan_record ["self", "word", "value"] (defScope s_Plan_record) := ⟨rfl, rfl, rfl, by decide +kernel, rfl, by decide +kernel, by decide +kernel⟩
abbrev s_Plan_require_idle : Stmt := inClass (topS 57) 18
abbrev N_Plan_require_idle : List Str := ["self"]
theorem sc_Plan_require_idle : FnScope N_Plan_require_idle ["self"] (defScope s_Plan_require_idle) := ⟨rfl, rfl, rfl, by decide +kernel, rfl, by decide +kernel, by decide +kernel⟩
abbrev s_Plan_state_at : Stmt := inClass (topS 57) 19
abbrev N_Plan_state_at : List Str := ["self", "version"]
theorem sc_Plan_state_at : FnScope N_Plan_state_at ["self", "version"] (defScope s_Plan_state_at) := ⟨rfl, rfl, rfl, by decide +kernel, rfl, by decide +kernel, by decide +kernel⟩
abbrev s_Plan_len : Stmt := inClass (topS 57) 20
abbrev N_Plan_len : List Str := ["self"]
theorem sc_Plan_len : FnScope N_Plan_len ["self"] (defScope s_Plan_len) := ⟨rfl, rfl, rfl, by decide +kernel, rfl, by decide +kernel, by decide +kernel⟩
abbrev s_Plan_str : Stmt := inClass (topS 57) 21
abbrev N_Plan_str : List Str := ["self"]
theorem sc_Plan_str : FnScope N_Plan_str ["self"] (defScope s_Plan_str) := ⟨rfl, rfl, rfl, by decide +kernel, rfl, by decide +kernel, by decide +kernel⟩
abbrev s_Plan_eq : Stmt := inClass (topS 57) 22
abbrev N_Plan_eq : List Str := ["self", "other"]
theorem sc_Plan_eq : FnScope N_Plan_eq ["self", "other"] (defScope s_Plan_eq) := ⟨rfl, rfl, rfl, by decide +kernel, rfl, by decide +kernel, by decide +kernel⟩
/-! ### the deck and its draws -/
structure Dk1 (H : Hp) (d c : Addr) (n : Int) : Prop where
  top : H d = some (.lst [.ref c, .int n])
  cells : ∃ xs : List Int, H c = some (.lst (xs.map V.int)) ∧ xs.length ≤ 63 ∧ ∀ x ∈ xs, 0 ≤ x
theorem Dk1.ne {H : Hp} {d c : Addr} {n : Int} (h : Dk1 H d c n) : c ≠ d := by
  obtain ⟨xs, e, _⟩ := h.cells
  intro z
  subst z
  have q := e.symm.trans h.top
  cases xs with
  | nil => cases q
  | cons x r => cases q
/-- nothing but the deck has changed -/
def Kp1 (d c : Addr) (H H' : Hp) : Prop := ∀ b o, b ≠ d → b ≠ c → H b = some o → H' b = some o
theorem Kp1.trans {d c : Addr} {H H1 H2 : Hp} (h1 : Kp1 d c H H1) (h2 : Kp1 d c H1 H2) : Kp1 d c H H2 := fun b o n1 n2 e => h2 b o n1 n2 (h1 b o n1 n2 e)
theorem Kp1.same {d c : Addr} {H H1 : Hp} (h : Same H H1) : Kp1 d c H H1 := fun b o _ _ e => h b o e
theorem Kp1.none {d c : Addr} {H H' : Hp} (k : Kp1 d c H H') {n m : Int} (h : Dk1 H d c n) (h' : Dk1 H' d c m) {t : Addr} (e : H' t = none) : H t = none := by
  by_cases e1 : t = d
  · rw [e1, h'.top] at e
    cases e
  · by_cases e2 : t = c
    · obtain ⟨xs, z, _⟩ := h'.cells
      rw [e2, z] at e
      cases e
    · cases q : H t with
      | none => rfl
      | some o =>
        rw [k t o e1 e2 q] at e
        cases e
theorem Dk1.kept {H H' : Hp} {d c : Addr} {n : Int} (h : Dk1 H d c n) (s : Same H H') : Dk1 H' d c n :=
  let ⟨xs, e, a⟩ := h.cells
  ⟨s _ _ h.top, xs, s _ _ e, a⟩
theorem Dk1.eq {H : Hp} {d c : Addr} {n m : Int} (h : Dk1 H d c n) (e : n = m) : Dk1 H d c m := e ▸ h
def sp3_law_deck (K : PySem.W.Frag) : Sp := fun vs H Q _ => ∃ (a : Addr) (ns : List Int), vs = [.ref a] ∧ SqL K H a (ns.map V.int) ∧ ns.length ≤ 63 ∧
  ∀ H' d c, Same H H' → H d = none → H c = none → Dk1 H' d c 0 → Q (.ref d) H'
def sp3_law_draw : Sp := fun vs H Q _ => ∃ (d c : Addr) (n lim : Int), vs = [.ref d, .int lim] ∧ Dk1 H d c n ∧ 0 ≤ n ∧ n < 1000000 ∧ 0 < lim ∧ lim < 2 ^ 63 ∧
  ∀ H' r, Kp1 d c H H' → Dk1 H' d c (n + 1) → 0 ≤ r → r < lim → Q (.int r) H'
theorem same_new {H : Hp} {p : Addr} {o : HO} (h : H p = none) : Same H (upd H p o) := fun b x e => by
  rw [upd_ne (ne_of_none e h)]
  exact e
theorem cutTo (xs : List V) (j : Nat) : cutV xs none (some (j : Int)) = xs.take j := by
  unfold cutV
  rw [HT.sIx_none, show HT.sIx xs.length xs.length (some (j : Int)) = min j xs.length from HT.sIx_nat xs.length xs.length j]
  rw [Nat.sub_zero, List.drop_zero]
  rcases Nat.le_total j xs.length with h | h
  · rw [Nat.min_eq_left h]
  · rw [Nat.min_eq_right h, List.take_length, List.take_of_length_le h]
section
structure Tx (K : PySem.W.Frag) (mg : Str → Option Value) (f_is_number f_is_position f_is_tuple_of f_is_interval f_ascending_error f_targets_error f_is_pieces f_has_position f_contains f_pieces_inside f_first_gap f_find_missing f_without_item f_with_interval f_without_interval f_edited_state f_depth_changes f_find_blocks f_serves f_conflict f_demands_at_blocks f_is_open f_open_demands f_shadow_target f_require_few_blocks f_decisive_demands f_largest_independent f_unserved_demands f_helpful_piece f_smallest_solution f_count_needed f_solve f_law_deck f_law_draw f_law_line f_law_interval f_law_intervals f_law_served f_law_options f_law_conflict f_law_most f_law_needed f_law_edit f_law_after f_law_do f_law_begun f_law_generated f_law_solution_right f_law f_Plan_init f_Plan_add_target f_Plan_add_piece f_Plan_remove_target f_Plan_remove_piece f_Plan_targets f_Plan_pieces f_Plan_needed f_Plan_solution f_Plan_missing f_Plan_edit f_Plan_record f_Plan_require_idle f_Plan_state_at f_Plan_len f_Plan_str f_Plan_eq C_Plan : Addr) (d_is_number d_is_position d_is_tuple_of d_is_interval d_ascending_error d_targets_error d_is_pieces d_has_position d_contains d_pieces_inside d_first_gap d_find_missing d_without_item d_with_interval d_without_interval d_edited_state d_depth_changes d_find_blocks d_serves d_conflict d_demands_at_blocks d_is_open d_open_demands d_shadow_target d_require_few_blocks d_decisive_demands d_largest_independent d_unserved_demands d_helpful_piece d_smallest_solution d_count_needed d_solve d_law_deck d_law_draw d_law_line d_law_interval d_law_intervals d_law_served d_law_options d_law_conflict d_law_most d_law_needed d_law_edit d_law_after d_law_do d_law_begun d_law_generated d_law_solution_right d_law d_Plan_init d_Plan_add_target d_Plan_add_piece d_Plan_remove_target d_Plan_remove_piece d_Plan_targets d_Plan_pieces d_Plan_needed d_Plan_solution d_Plan_missing d_Plan_edit d_Plan_record d_Plan_require_idle d_Plan_state_at d_Plan_len d_Plan_str d_Plan_eq : FuncData) (t_LAST_POSITION t_MAX_TARGETS t_MAX_PIECES t_MAX_BLOCKS t_MAX_EDITS : Tok) : Prop where
  F_is_number : Fun K "is_number" "is_number" s_is_number f_is_number d_is_number
  b_is_number : Binds K d_is_number ["value"] []
  g_is_number : mg "is_number" = some (.ref f_is_number)
  F_is_position : Fun K "is_position" "is_position" s_is_position f_is_position d_is_position
  b_is_position : Binds K d_is_position ["value"] []
  g_is_position : mg "is_position" = some (.ref f_is_position)
  F_is_tuple_of : Fun K "is_tuple_of" "is_tuple_of" s_is_tuple_of f_is_tuple_of d_is_tuple_of
  b_is_tuple_of : Binds K d_is_tuple_of ["value", "length"] []
  g_is_tuple_of : mg "is_tuple_of" = some (.ref f_is_tuple_of)
  F_is_interval : Fun K "is_interval" "is_interval" s_is_interval f_is_interval d_is_interval
  b_is_interval : Binds K d_is_interval ["value"] []
  g_is_interval : mg "is_interval" = some (.ref f_is_interval)
  F_ascending_error : Fun K "ascending_error" "ascending_error" s_ascending_error f_ascending_error d_ascending_error
  b_ascending_error : Binds K d_ascending_error ["value", "most"] []
  g_ascending_error : mg "ascending_error" = some (.ref f_ascending_error)
  F_targets_error : Fun K "targets_error" "targets_error" s_targets_error f_targets_error d_targets_error
  b_targets_error : Binds K d_targets_error ["value"] []
  g_targets_error : mg "targets_error" = some (.ref f_targets_error)
  F_is_pieces : Fun K "is_pieces" "is_pieces" s_is_pieces f_is_pieces d_is_pieces
  b_is_pieces : Binds K d_is_pieces ["value"] []
  g_is_pieces : mg "is_pieces" = some (.ref f_is_pieces)
  F_has_position : Fun K "has_position" "has_position" s_has_position f_has_position d_has_position
  b_has_position : Binds K d_has_position ["interval", "position"] []
  g_has_position : mg "has_position" = some (.ref f_has_position)
  F_contains : Fun K "contains" "contains" s_contains f_contains d_contains
  b_contains : Binds K d_contains ["outer", "inner"] []
  g_contains : mg "contains" = some (.ref f_contains)
  F_pieces_inside : Fun K "pieces_inside" "pieces_inside" s_pieces_inside f_pieces_inside d_pieces_inside
  b_pieces_inside : Binds K d_pieces_inside ["pieces", "target"] []
  g_pieces_inside : mg "pieces_inside" = some (.ref f_pieces_inside)
  F_first_gap : Fun K "first_gap" "first_gap" s_first_gap f_first_gap d_first_gap
  b_first_gap : Binds K d_first_gap ["pieces", "target"] []
  g_first_gap : mg "first_gap" = some (.ref f_first_gap)
  F_find_missing : Fun K "find_missing" "find_missing" s_find_missing f_find_missing d_find_missing
  b_find_missing : Binds K d_find_missing ["targets", "pieces"] []
  g_find_missing : mg "find_missing" = some (.ref f_find_missing)
  F_without_item : Fun K "without_item" "without_item" s_without_item f_without_item d_without_item
  b_without_item : Binds K d_without_item ["items", "item"] []
  g_without_item : mg "without_item" = some (.ref f_without_item)
  F_with_interval : Fun K "with_interval" "with_interval" s_with_interval f_with_interval d_with_interval
  b_with_interval : Binds K d_with_interval ["intervals", "value", "bound"] []
  g_with_interval : mg "with_interval" = some (.ref f_with_interval)
  F_without_interval : Fun K "without_interval" "without_interval" s_without_interval f_without_interval d_without_interval
  b_without_interval : Binds K d_without_interval ["intervals", "value"] []
  g_without_interval : mg "without_interval" = some (.ref f_without_interval)
  F_edited_state : Fun K "edited_state" "edited_state" s_edited_state f_edited_state d_edited_state
  b_edited_state : Binds K d_edited_state ["state", "word", "value"] []
  g_edited_state : mg "edited_state" = some (.ref f_edited_state)
  F_depth_changes : Fun K "depth_changes" "depth_changes" s_depth_changes f_depth_changes d_depth_changes
  b_depth_changes : Binds K d_depth_changes ["intervals"] []
  g_depth_changes : mg "depth_changes" = some (.ref f_depth_changes)
  F_find_blocks : Fun K "find_blocks" "find_blocks" s_find_blocks f_find_blocks d_find_blocks
  b_find_blocks : Binds K d_find_blocks ["intervals"] []
  g_find_blocks : mg "find_blocks" = some (.ref f_find_blocks)
  F_serves : Fun K "serves" "serves" s_serves f_serves d_serves
  b_serves : Binds K d_serves ["piece", "demand"] []
  g_serves : mg "serves" = some (.ref f_serves)
  F_conflict : Fun K "conflict" "conflict" s_conflict f_conflict d_conflict
  b_conflict : Binds K d_conflict ["first", "second"] []
  g_conflict : mg "conflict" = some (.ref f_conflict)
  F_demands_at_blocks : Fun K "demands_at_blocks" "demands_at_blocks" s_demands_at_blocks f_demands_at_blocks d_demands_at_blocks
  b_demands_at_blocks : Binds K d_demands_at_blocks ["targets", "blocks"] []
  g_demands_at_blocks : mg "demands_at_blocks" = some (.ref f_demands_at_blocks)
  F_is_open : Fun K "is_open" "is_open" s_is_open f_is_open d_is_open
  b_is_open : Binds K d_is_open ["pieces", "demand"] []
  g_is_open : mg "is_open" = some (.ref f_is_open)
  F_open_demands : Fun K "open_demands" "open_demands" s_open_demands f_open_demands d_open_demands
  b_open_demands : Binds K d_open_demands ["targets", "pieces"] []
  g_open_demands : mg "open_demands" = some (.ref f_open_demands)
  F_shadow_target : Fun K "shadow_target" "shadow_target" s_shadow_target f_shadow_target d_shadow_target
  b_shadow_target : Binds K d_shadow_target ["targets", "demand"] []
  g_shadow_target : mg "shadow_target" = some (.ref f_shadow_target)
  F_require_few_blocks : Fun K "require_few_blocks" "require_few_blocks" s_require_few_blocks f_require_few_blocks d_require_few_blocks
  b_require_few_blocks : Binds K d_require_few_blocks ["intervals"] []
  g_require_few_blocks : mg "require_few_blocks" = some (.ref f_require_few_blocks)
  F_decisive_demands : Fun K "decisive_demands" "decisive_demands" s_decisive_demands f_decisive_demands d_decisive_demands
  b_decisive_demands : Binds K d_decisive_demands ["targets", "pieces"] []
  g_decisive_demands : mg "decisive_demands" = some (.ref f_decisive_demands)
  F_largest_independent : Fun K "largest_independent" "largest_independent" s_largest_independent f_largest_independent d_largest_independent
  b_largest_independent : Binds K d_largest_independent ["demands"] []
  g_largest_independent : mg "largest_independent" = some (.ref f_largest_independent)
  F_unserved_demands : Fun K "unserved_demands" "unserved_demands" s_unserved_demands f_unserved_demands d_unserved_demands
  b_unserved_demands : Binds K d_unserved_demands ["demands", "piece"] []
  g_unserved_demands : mg "unserved_demands" = some (.ref f_unserved_demands)
  F_helpful_piece : Fun K "helpful_piece" "helpful_piece" s_helpful_piece f_helpful_piece d_helpful_piece
  b_helpful_piece : Binds K d_helpful_piece ["demands", "blocks"] []
  g_helpful_piece : mg "helpful_piece" = some (.ref f_helpful_piece)
  F_smallest_solution : Fun K "smallest_solution" "smallest_solution" s_smallest_solution f_smallest_solution d_smallest_solution
  b_smallest_solution : Binds K d_smallest_solution ["targets", "pieces"] []
  g_smallest_solution : mg "smallest_solution" = some (.ref f_smallest_solution)
  F_count_needed : Fun K "count_needed" "count_needed" s_count_needed f_count_needed d_count_needed
  b_count_needed : Binds K d_count_needed ["targets", "pieces"] []
  g_count_needed : mg "count_needed" = some (.ref f_count_needed)
  F_solve : Fun K "solve" "solve" s_solve f_solve d_solve
  b_solve : Binds K d_solve ["targets", "pieces"] []
  g_solve : mg "solve" = some (.ref f_solve)
  F_law_deck : Fun K "_law_deck" "_law_deck" s_law_deck f_law_deck d_law_deck
  b_law_deck : Binds K d_law_deck ["_law_script"] []
  g_law_deck : mg "_law_deck" = some (.ref f_law_deck)
  F_law_draw : Fun K "_law_draw" "_law_draw" s_law_draw f_law_draw d_law_draw
  b_law_draw : Binds K d_law_draw ["_law_deck_here", "_law_many"] []
  g_law_draw : mg "_law_draw" = some (.ref f_law_draw)
  F_law_line : Fun K "_law_line" "_law_line" s_law_line f_law_line d_law_line
  b_law_line : Binds K d_law_line ["_law_deck_here", "_law_most_here"] []
  g_law_line : mg "_law_line" = some (.ref f_law_line)
  F_law_interval : Fun K "_law_interval" "_law_interval" s_law_interval f_law_interval d_law_interval
  b_law_interval : Binds K d_law_interval ["_law_deck_here", "_law_line_here"] []
  g_law_interval : mg "_law_interval" = some (.ref f_law_interval)
  F_law_intervals : Fun K "_law_intervals" "_law_intervals" s_law_intervals f_law_intervals d_law_intervals
  b_law_intervals : Binds K d_law_intervals ["_law_deck_here", "_law_line_here", "_law_most_here"] []
  g_law_intervals : mg "_law_intervals" = some (.ref f_law_intervals)
  F_law_served : Fun K "_law_served" "_law_served" s_law_served f_law_served d_law_served
  b_law_served : Binds K d_law_served ["_law_pieces", "_law_position", "_law_target"] []
  g_law_served : mg "_law_served" = some (.ref f_law_served)
  F_law_options : Fun K "_law_options" "_law_options" s_law_options f_law_options d_law_options
  b_law_options : Binds K d_law_options ["_law_line_here", "_law_targets", "_law_pieces"] []
  g_law_options : mg "_law_options" = some (.ref f_law_options)
  F_law_conflict : Fun K "_law_conflict" "_law_conflict" s_law_conflict f_law_conflict d_law_conflict
  b_law_conflict : Binds K d_law_conflict ["_law_first", "_law_second"] []
  g_law_conflict : mg "_law_conflict" = some (.ref f_law_conflict)
  F_law_most : Fun K "_law_most" "_law_most" s_law_most f_law_most d_law_most
  b_law_most : Binds K d_law_most ["_law_options_here", "_law_chosen"] []
  g_law_most : mg "_law_most" = some (.ref f_law_most)
  F_law_needed : Fun K "_law_needed" "_law_needed" s_law_needed f_law_needed d_law_needed
  b_law_needed : Binds K d_law_needed ["_law_line_here", "_law_targets", "_law_pieces"] []
  g_law_needed : mg "_law_needed" = some (.ref f_law_needed)
  F_law_edit : Fun K "_law_edit" "_law_edit" s_law_edit f_law_edit d_law_edit
  b_law_edit : Binds K d_law_edit ["_law_deck_here", "_law_line_here", "_law_state"] []
  g_law_edit : mg "_law_edit" = some (.ref f_law_edit)
  F_law_after : Fun K "_law_after" "_law_after" s_law_after f_law_after d_law_after
  b_law_after : Binds K d_law_after ["_law_state", "_law_edit_here"] []
  g_law_after : mg "_law_after" = some (.ref f_law_after)
  F_law_do : Fun K "_law_do" "_law_do" s_law_do f_law_do d_law_do
  b_law_do : Binds K d_law_do ["_law_plan", "_law_edit_here"] []
  g_law_do : mg "_law_do" = some (.ref f_law_do)
  F_law_begun : Fun K "_law_begun" "_law_begun" s_law_begun f_law_begun d_law_begun
  b_law_begun : Binds K d_law_begun ["_law_deck_here", "_law_most_here"] []
  g_law_begun : mg "_law_begun" = some (.ref f_law_begun)
  F_law_generated : Fun K "_law_generated" "_law_generated" s_law_generated f_law_generated d_law_generated
  b_law_generated : Binds K d_law_generated ["_law_line_here", "_law_targets", "_law_pieces"] []
  g_law_generated : mg "_law_generated" = some (.ref f_law_generated)
  F_law_solution_right : Fun K "_law_solution_right" "_law_solution_right" s_law_solution_right f_law_solution_right d_law_solution_right
  b_law_solution_right : Binds K d_law_solution_right ["_law_line_here", "_law_targets", "_law_pieces", "_law_found", "_law_number"] []
  g_law_solution_right : mg "_law_solution_right" = some (.ref f_law_solution_right)
  F_law : Fun K "law" "law" s_law f_law d_law
  b_law : Binds K d_law ["_law_script"] []
  g_law : mg "law" = some (.ref f_law)
  F_Plan_init : Fun K "__init__" "Plan.__init__" s_Plan_init f_Plan_init d_Plan_init
  b_Plan_init : Binds K d_Plan_init ["self", "targets", "pieces"] []
  m_Plan_init : Meth K C_Plan "__init__" f_Plan_init
  F_Plan_add_target : Fun K "add_target" "Plan.add_target" s_Plan_add_target f_Plan_add_target d_Plan_add_target
  b_Plan_add_target : Binds K d_Plan_add_target ["self", "interval"] []
  m_Plan_add_target : Meth K C_Plan "add_target" f_Plan_add_target
  F_Plan_add_piece : Fun K "add_piece" "Plan.add_piece" s_Plan_add_piece f_Plan_add_piece d_Plan_add_piece
  b_Plan_add_piece : Binds K d_Plan_add_piece ["self", "interval"] []
  m_Plan_add_piece : Meth K C_Plan "add_piece" f_Plan_add_piece
  F_Plan_remove_target : Fun K "remove_target" "Plan.remove_target" s_Plan_remove_target f_Plan_remove_target d_Plan_remove_target
  b_Plan_remove_target : Binds K d_Plan_remove_target ["self", "interval"] []
  m_Plan_remove_target : Meth K C_Plan "remove_target" f_Plan_remove_target
  F_Plan_remove_piece : Fun K "remove_piece" "Plan.remove_piece" s_Plan_remove_piece f_Plan_remove_piece d_Plan_remove_piece
  b_Plan_remove_piece : Binds K d_Plan_remove_piece ["self", "interval"] []
  m_Plan_remove_piece : Meth K C_Plan "remove_piece" f_Plan_remove_piece
  F_Plan_targets : FunD K "targets" "Plan.targets" (defArgs s_Plan_targets) (defBody s_Plan_targets) (defScope s_Plan_targets) [] [("version", V.non)] f_Plan_targets d_Plan_targets
  b_Plan_targets : ∃ ds, Vals [V.non] ds ∧ Binds K d_Plan_targets ["self", "version"] ds
  k_Plan_targets : KBn K d_Plan_targets ["self", "version"] 1 ["version"] (fun us ws => us ++ ws) (fun vs zs => vs ++ zs)
  m_Plan_targets : Meth K C_Plan "targets" f_Plan_targets
  F_Plan_pieces : FunD K "pieces" "Plan.pieces" (defArgs s_Plan_pieces) (defBody s_Plan_pieces) (defScope s_Plan_pieces) [] [("version", V.non)] f_Plan_pieces d_Plan_pieces
  b_Plan_pieces : ∃ ds, Vals [V.non] ds ∧ Binds K d_Plan_pieces ["self", "version"] ds
  k_Plan_pieces : KBn K d_Plan_pieces ["self", "version"] 1 ["version"] (fun us ws => us ++ ws) (fun vs zs => vs ++ zs)
  m_Plan_pieces : Meth K C_Plan "pieces" f_Plan_pieces
  F_Plan_needed : FunD K "needed" "Plan.needed" (defArgs s_Plan_needed) (defBody s_Plan_needed) (defScope s_Plan_needed) [] [("version", V.non)] f_Plan_needed d_Plan_needed
  b_Plan_needed : ∃ ds, Vals [V.non] ds ∧ Binds K d_Plan_needed ["self", "version"] ds
  k_Plan_needed : KBn K d_Plan_needed ["self", "version"] 1 ["version"] (fun us ws => us ++ ws) (fun vs zs => vs ++ zs)
  m_Plan_needed : Meth K C_Plan "needed" f_Plan_needed
  F_Plan_solution : FunD K "solution" "Plan.solution" (defArgs s_Plan_solution) (defBody s_Plan_solution) (defScope s_Plan_solution) [] [("version", V.non)] f_Plan_solution d_Plan_solution
  b_Plan_solution : ∃ ds, Vals [V.non] ds ∧ Binds K d_Plan_solution ["self", "version"] ds
  k_Plan_solution : KBn K d_Plan_solution ["self", "version"] 1 ["version"] (fun us ws => us ++ ws) (fun vs zs => vs ++ zs)
  m_Plan_solution : Meth K C_Plan "solution" f_Plan_solution
  F_Plan_missing : FunD K "missing" "Plan.missing" (defArgs s_Plan_missing) (defBody s_Plan_missing) (defScope s_Plan_missing) [] [("version", V.non)] f_Plan_missing d_Plan_missing
  b_Plan_missing : ∃ ds, Vals [V.non] ds ∧ Binds K d_Plan_missing ["self", "version"] ds
  k_Plan_missing : KBn K d_Plan_missing ["self", "version"] 1 ["version"] (fun us ws => us ++ ws) (fun vs zs => vs ++ zs)
  m_Plan_missing : Meth K C_Plan "missing" f_Plan_missing
  F_Plan_edit : Fun K "edit" "Plan.edit" s_Plan_edit f_Plan_edit d_Plan_edit
  b_Plan_edit : Binds K d_Plan_edit ["self", "word", "value"] []
  m_Plan_edit : Meth K C_Plan "edit" f_Plan_edit
  F_Plan_record : Fun K "record" "Plan.record" s_Plan_record f_Plan_record d_Plan_record
  b_Plan_record : Binds K d_Plan_record ["self", "word", "value"] []
  m_Plan_record : Meth K C_Plan "record" f_Plan_record
  F_Plan_require_idle : Fun K "require_idle" "Plan.require_idle" s_Plan_require_idle f_Plan_require_idle d_Plan_require_idle
  b_Plan_require_idle : Binds K d_Plan_require_idle ["self"] []
  m_Plan_require_idle : Meth K C_Plan "require_idle" f_Plan_require_idle
  F_Plan_state_at : Fun K "state_at" "Plan.state_at" s_Plan_state_at f_Plan_state_at d_Plan_state_at
  b_Plan_state_at : Binds K d_Plan_state_at ["self", "version"] []
  m_Plan_state_at : Meth K C_Plan "state_at" f_Plan_state_at
  F_Plan_len : Fun K "__len__" "Plan.__len__" s_Plan_len f_Plan_len d_Plan_len
  b_Plan_len : Binds K d_Plan_len ["self"] []
  m_Plan_len : Meth K C_Plan "__len__" f_Plan_len
  F_Plan_str : Fun K "__str__" "Plan.__str__" s_Plan_str f_Plan_str d_Plan_str
  b_Plan_str : Binds K d_Plan_str ["self"] []
  m_Plan_str : Meth K C_Plan "__str__" f_Plan_str
  F_Plan_eq : Fun K "__eq__" "Plan.__eq__" s_Plan_eq f_Plan_eq d_Plan_eq
  b_Plan_eq : Binds K d_Plan_eq ["self", "other"] []
  m_Plan_eq : Meth K C_Plan "__eq__" f_Plan_eq
  c_LAST_POSITION : mg "LAST_POSITION" = some (.int 1000000000000 t_LAST_POSITION)
  c_MAX_TARGETS : mg "MAX_TARGETS" = some (.int 24 t_MAX_TARGETS)
  c_MAX_PIECES : mg "MAX_PIECES" = some (.int 30 t_MAX_PIECES)
  c_MAX_BLOCKS : mg "MAX_BLOCKS" = some (.int 8 t_MAX_BLOCKS)
  c_MAX_EDITS : mg "MAX_EDITS" = some (.int 60 t_MAX_EDITS)
  z_abs : mg "abs" = none
  z_any : mg "any" = none
  z_bool : mg "bool" = none
  z_enumerate : mg "enumerate" = none
  z_int : mg "int" = none
  z_isinstance : mg "isinstance" = none
  z_len : mg "len" = none
  z_list : mg "list" = none
  z_max : mg "max" = none
  z_min : mg "min" = none
  z_piece : mg "piece" = none
  z_range : mg "range" = none
  z_repr : mg "repr" = none
  z_set : mg "set" = none
  z_sorted : mg "sorted" = none
  z_tuple : mg "tuple" = none
  z_zip : mg "zip" = none
  cl_Plan : Cls K C_Plan
  g_Plan : mg "Plan" = some (.ref C_Plan)
  mk_Plan : Mk K C_Plan f_Plan_init
  n_Plan_states : NoAttr K C_Plan "states"
  n_Plan_done : NoAttr K C_Plan "done"
  n_Plan_busy : NoAttr K C_Plan "busy"
  is_Plan : PySem.W.findIn K (.ref C_Plan) "__class__" = some (some (.builtin "object.__class__")) ∧ PySem.W.specialIn K (.builtin "object.__class__") "__get__" = some (some (.builtin "getset_descriptor.__get__")) ∧ PySem.W.takesIn K (.builtin "object.__class__") = some true ∧ PySem.W.mroIn K C_Plan (.type "object") = some true
variable {P : Program} {w : World} {K : PySem.W.Frag} {mg : Str → Option Value} {base : Heap} {f_is_number f_is_position f_is_tuple_of f_is_interval f_ascending_error f_targets_error f_is_pieces f_has_position f_contains f_pieces_inside f_first_gap f_find_missing f_without_item f_with_interval f_without_interval f_edited_state f_depth_changes f_find_blocks f_serves f_conflict f_demands_at_blocks f_is_open f_open_demands f_shadow_target f_require_few_blocks f_decisive_demands f_largest_independent f_unserved_demands f_helpful_piece f_smallest_solution f_count_needed f_solve f_law_deck f_law_draw f_law_line f_law_interval f_law_intervals f_law_served f_law_options f_law_conflict f_law_most f_law_needed f_law_edit f_law_after f_law_do f_law_begun f_law_generated f_law_solution_right f_law f_Plan_init f_Plan_add_target f_Plan_add_piece f_Plan_remove_target f_Plan_remove_piece f_Plan_targets f_Plan_pieces f_Plan_needed f_Plan_solution f_Plan_missing f_Plan_edit f_Plan_record f_Plan_require_idle f_Plan_state_at f_Plan_len f_Plan_str f_Plan_eq C_Plan : Addr} {d_is_number d_is_position d_is_tuple_of d_is_interval d_ascending_error d_targets_error d_is_pieces d_has_position d_contains d_pieces_inside d_first_gap d_find_missing d_without_item d_with_interval d_without_interval d_edited_state d_depth_changes d_find_blocks d_serves d_conflict d_demands_at_blocks d_is_open d_open_demands d_shadow_target d_require_few_blocks d_decisive_demands d_largest_independent d_unserved_demands d_helpful_piece d_smallest_solution d_count_needed d_solve d_law_deck d_law_draw d_law_line d_law_interval d_law_intervals d_law_served d_law_options d_law_conflict d_law_most d_law_needed d_law_edit d_law_after d_law_do d_law_begun d_law_generated d_law_solution_right d_law d_Plan_init d_Plan_add_target d_Plan_add_piece d_Plan_remove_target d_Plan_remove_piece d_Plan_targets d_Plan_pieces d_Plan_needed d_Plan_solution d_Plan_missing d_Plan_edit d_Plan_record d_Plan_require_idle d_Plan_state_at d_Plan_len d_Plan_str d_Plan_eq : FuncData} {t_LAST_POSITION t_MAX_TARGETS t_MAX_PIECES t_MAX_BLOCKS t_MAX_EDITS : Tok} {pT : Addr}
abbrev TxA (K : PySem.W.Frag) (mg : Str → Option Value) (f_is_number f_is_position f_is_tuple_of f_is_interval f_ascending_error f_targets_error f_is_pieces f_has_position f_contains f_pieces_inside f_first_gap f_find_missing f_without_item f_with_interval f_without_interval f_edited_state f_depth_changes f_find_blocks f_serves f_conflict f_demands_at_blocks f_is_open f_open_demands f_shadow_target f_require_few_blocks f_decisive_demands f_largest_independent f_unserved_demands f_helpful_piece f_smallest_solution f_count_needed f_solve f_law_deck f_law_draw f_law_line f_law_interval f_law_intervals f_law_served f_law_options f_law_conflict f_law_most f_law_needed f_law_edit f_law_after f_law_do f_law_begun f_law_generated f_law_solution_right f_law f_Plan_init f_Plan_add_target f_Plan_add_piece f_Plan_remove_target f_Plan_remove_piece f_Plan_targets f_Plan_pieces f_Plan_needed f_Plan_solution f_Plan_missing f_Plan_edit f_Plan_record f_Plan_require_idle f_Plan_state_at f_Plan_len f_Plan_str f_Plan_eq C_Plan : Addr) (d_is_number d_is_position d_is_tuple_of d_is_interval d_ascending_error d_targets_error d_is_pieces d_has_position d_contains d_pieces_inside d_first_gap d_find_missing d_without_item d_with_interval d_without_interval d_edited_state d_depth_changes d_find_blocks d_serves d_conflict d_demands_at_blocks d_is_open d_open_demands d_shadow_target d_require_few_blocks d_decisive_demands d_largest_independent d_unserved_demands d_helpful_piece d_smallest_solution d_count_needed d_solve d_law_deck d_law_draw d_law_line d_law_interval d_law_intervals d_law_served d_law_options d_law_conflict d_law_most d_law_needed d_law_edit d_law_after d_law_do d_law_begun d_law_generated d_law_solution_right d_law d_Plan_init d_Plan_add_target d_Plan_add_piece d_Plan_remove_target d_Plan_remove_piece d_Plan_targets d_Plan_pieces d_Plan_needed d_Plan_solution d_Plan_missing d_Plan_edit d_Plan_record d_Plan_require_idle d_Plan_state_at d_Plan_len d_Plan_str d_Plan_eq : FuncData) (t_LAST_POSITION t_MAX_TARGETS t_MAX_PIECES t_MAX_BLOCKS t_MAX_EDITS : Tok) := Tx K mg f_is_number f_is_position f_is_tuple_of f_is_interval f_ascending_error f_targets_error f_is_pieces f_has_position f_contains f_pieces_inside f_first_gap f_find_missing f_without_item f_with_interval f_without_interval f_edited_state f_depth_changes f_find_blocks f_serves f_conflict f_demands_at_blocks f_is_open f_open_demands f_shadow_target f_require_few_blocks f_decisive_demands f_largest_independent f_unserved_demands f_helpful_piece f_smallest_solution f_count_needed f_solve f_law_deck f_law_draw f_law_line f_law_interval f_law_intervals f_law_served f_law_options f_law_conflict f_law_most f_law_needed f_law_edit f_law_after f_law_do f_law_begun f_law_generated f_law_solution_right f_law f_Plan_init f_Plan_add_target f_Plan_add_piece f_Plan_remove_target f_Plan_remove_piece f_Plan_targets f_Plan_pieces f_Plan_needed f_Plan_solution f_Plan_missing f_Plan_edit f_Plan_record f_Plan_require_idle f_Plan_state_at f_Plan_len f_Plan_str f_Plan_eq C_Plan d_is_number d_is_position d_is_tuple_of d_is_interval d_ascending_error d_targets_error d_is_pieces d_has_position d_contains d_pieces_inside d_first_gap d_find_missing d_without_item d_with_interval d_without_interval d_edited_state d_depth_changes d_find_blocks d_serves d_conflict d_demands_at_blocks d_is_open d_open_demands d_shadow_target d_require_few_blocks d_decisive_demands d_largest_independent d_unserved_demands d_helpful_piece d_smallest_solution d_count_needed d_solve d_law_deck d_law_draw d_law_line d_law_interval d_law_intervals d_law_served d_law_options d_law_conflict d_law_most d_law_needed d_law_edit d_law_after d_law_do d_law_begun d_law_generated d_law_solution_right d_law d_Plan_init d_Plan_add_target d_Plan_add_piece d_Plan_remove_target d_Plan_remove_piece d_Plan_targets d_Plan_pieces d_Plan_needed d_Plan_solution d_Plan_missing d_Plan_edit d_Plan_record d_Plan_require_idle d_Plan_state_at d_Plan_len d_Plan_str d_Plan_eq t_LAST_POSITION t_MAX_TARGETS t_MAX_PIECES t_MAX_BLOCKS t_MAX_EDITS 
theorem ok3_law_deck (T : Tx K mg f_is_number f_is_position f_is_tuple_of f_is_interval f_ascending_error f_targets_error f_is_pieces f_has_position f_contains f_pieces_inside f_first_gap f_find_missing f_without_item f_with_interval f_without_interval f_edited_state f_depth_changes f_find_blocks f_serves f_conflict f_demands_at_blocks f_is_open f_open_demands f_shadow_target f_require_few_blocks f_decisive_demands f_largest_independent f_unserved_demands f_helpful_piece f_smallest_solution f_count_needed f_solve f_law_deck f_law_draw f_law_line f_law_interval f_law_intervals f_law_served f_law_options f_law_conflict f_law_most f_law_needed f_law_edit f_law_after f_law_do f_law_begun f_law_generated f_law_solution_right f_law f_Plan_init f_Plan_add_target f_Plan_add_piece f_Plan_remove_target f_Plan_remove_piece f_Plan_targets f_Plan_pieces f_Plan_needed f_Plan_solution f_Plan_missing f_Plan_edit f_Plan_record f_Plan_require_idle f_Plan_state_at f_Plan_len f_Plan_str f_Plan_eq C_Plan d_is_number d_is_position d_is_tuple_of d_is_interval d_ascending_error d_targets_error d_is_pieces d_has_position d_contains d_pieces_inside d_first_gap d_find_missing d_without_item d_with_interval d_without_interval d_edited_state d_depth_changes d_find_blocks d_serves d_conflict d_demands_at_blocks d_is_open d_open_demands d_shadow_target d_require_few_blocks d_decisive_demands d_largest_independent d_unserved_demands d_helpful_piece d_smallest_solution d_count_needed d_solve d_law_deck d_law_draw d_law_line d_law_interval d_law_intervals d_law_served d_law_options d_law_conflict d_law_most d_law_needed d_law_edit d_law_after d_law_do d_law_begun d_law_generated d_law_solution_right d_law d_Plan_init d_Plan_add_target d_Plan_add_piece d_Plan_remove_target d_Plan_remove_piece d_Plan_targets d_Plan_pieces d_Plan_needed d_Plan_solution d_Plan_missing d_Plan_edit d_Plan_record d_Plan_require_idle d_Plan_state_at d_Plan_len d_Plan_str d_Plan_eq t_LAST_POSITION t_MAX_TARGETS t_MAX_PIECES t_MAX_BLOCKS t_MAX_EDITS) : FnOk P w K mg base CX0 1 f_law_deck d_law_deck ["_law_script"] (sp3_law_deck K) := by
  refine T.F_law_deck.ok sc_law_deck (fun vs H Q E h => ?_) (fun cdv A outer s H vs Q E hr h => ?_)
  · obtain ⟨a, ns, rfl, _⟩ := h
    rfl
  · obtain ⟨a, ns0, rfl, hS, hlen, q⟩ := h
    refine ⟨_, (pss_one (ps_ret (pe_lst (pa_cons (pe_lc (own := [("_law_cell", 1)]) (g := (gName 1)) (tt := tYes) (by rfl) sc_law_deck.nd (pi_list (pe_slice sl_list (pv 0) po_none (po_some pe_int))) (blkOk_by (own := [("_law_cell", 1)]) (N := N_law_deck) (sc := defScope s_law_deck) (by decide +kernel)) (fun _ _ _ _ _ => (pg_name (i := 1) sc_law_deck.nd rfl (Or.inl rfl))) (fun _ _ _ _ _ => pts_nil) (fun _ _ _ _ _ => (pe_callB call_abs (by rfl) T.z_abs (by decide +kernel) (pa_cons (pv 1) pa_nil)))) (pa_cons pe_int pa_nil))))), ?_⟩
    refine ⟨.ref a, rfl, 63, rfl, a, ns0.map V.int, rfl, hS, fun p np => ?_⟩
    rw [show cutV (ns0.map V.int) none (some 63) = (ns0.take 63).map V.int by rw [List.map_take]; exact cutTo _ 63]
    have hlen : (ns0.take 63).length ≤ 63 := Nat.le_trans (List.length_take_le' _ _) hlen
    generalize ns0.take 63 = ns at *
    have s1 : Same H (upd H p (.lst (ns.map V.int))) := same_new np
    refine ⟨p, rfl, ⟨_, SqL.of upd_same⟩, fun D nD => ?_⟩
    have nDp : D ≠ p := fun e => by
      rw [e, upd_same] at nD
      cases nD
    have nD0 : H D = none := by
      rw [upd_ne nDp] at nD
      exact nD
    refine lc_list (K := K) (a := p) (xs := ns.map V.int) (fun i H' => Same (upd H p (.lst (ns.map V.int))) H' ∧ H' D = some (.lst (((ns.take i).map fun (x : Int) => if x < 0 then -x else x).map V.int))) ⟨same_new nD, upd_same⟩ (fun i H' _ h => h.1.seq (SqL.of upd_same)) ?_ ?_
    · rintro i x H' hi ⟨sm, eD⟩
      rw [List.getElem?_map] at hi
      obtain ⟨n, en, rfl⟩ := Option.map_eq_some_iff.mp hi
      refine ⟨rfl, .int n, rfl, n, rfl, _, eD, ?_, ?_, ?_⟩
      · have : (List.take i ns).length ≤ ns.length := List.length_take_le' i ns
        simp only [List.length_map]
        exact small1000 (by omega)
      · intro b o e
        have nb : b ≠ D := ne_of_none e nD
        rw [upd_ne nb]
        exact sm b o e
      · rw [upd_same, List.take_add_one, en]
        simp
    · rintro H' ⟨sm, eD⟩
      rw [List.length_map, List.take_length] at eD
      refine ⟨by show 2 ≤ sizeLine; decide, fun d nd => ?_⟩
      have nDd : D ≠ d := ne_of_none eD nd
      have nd0 : H d = none := s1.free (sm.free nd)
      refine q _ d D (s1.trans (sm.trans (same_new nd))) nd0 nD0 ⟨upd_same, _, by rw [upd_ne nDd]; exact eD, by rw [List.length_map]; exact hlen, fun x hx => ?_⟩
      obtain ⟨y, _, rfl⟩ := List.mem_map.mp hx
      split <;> omega
theorem ok3_law_draw (T : Tx K mg f_is_number f_is_position f_is_tuple_of f_is_interval f_ascending_error f_targets_error f_is_pieces f_has_position f_contains f_pieces_inside f_first_gap f_find_missing f_without_item f_with_interval f_without_interval f_edited_state f_depth_changes f_find_blocks f_serves f_conflict f_demands_at_blocks f_is_open f_open_demands f_shadow_target f_require_few_blocks f_decisive_demands f_largest_independent f_unserved_demands f_helpful_piece f_smallest_solution f_count_needed f_solve f_law_deck f_law_draw f_law_line f_law_interval f_law_intervals f_law_served f_law_options f_law_conflict f_law_most f_law_needed f_law_edit f_law_after f_law_do f_law_begun f_law_generated f_law_solution_right f_law f_Plan_init f_Plan_add_target f_Plan_add_piece f_Plan_remove_target f_Plan_remove_piece f_Plan_targets f_Plan_pieces f_Plan_needed f_Plan_solution f_Plan_missing f_Plan_edit f_Plan_record f_Plan_require_idle f_Plan_state_at f_Plan_len f_Plan_str f_Plan_eq C_Plan d_is_number d_is_position d_is_tuple_of d_is_interval d_ascending_error d_targets_error d_is_pieces d_has_position d_contains d_pieces_inside d_first_gap d_find_missing d_without_item d_with_interval d_without_interval d_edited_state d_depth_changes d_find_blocks d_serves d_conflict d_demands_at_blocks d_is_open d_open_demands d_shadow_target d_require_few_blocks d_decisive_demands d_largest_independent d_unserved_demands d_helpful_piece d_smallest_solution d_count_needed d_solve d_law_deck d_law_draw d_law_line d_law_interval d_law_intervals d_law_served d_law_options d_law_conflict d_law_most d_law_needed d_law_edit d_law_after d_law_do d_law_begun d_law_generated d_law_solution_right d_law d_Plan_init d_Plan_add_target d_Plan_add_piece d_Plan_remove_target d_Plan_remove_piece d_Plan_targets d_Plan_pieces d_Plan_needed d_Plan_solution d_Plan_missing d_Plan_edit d_Plan_record d_Plan_require_idle d_Plan_state_at d_Plan_len d_Plan_str d_Plan_eq t_LAST_POSITION t_MAX_TARGETS t_MAX_PIECES t_MAX_BLOCKS t_MAX_EDITS) : FnOk P w K mg base CX0 1 f_law_draw d_law_draw ["_law_deck_here", "_law_many"] sp3_law_draw := by
  refine T.F_law_draw.ok sc_law_draw (fun vs H Q E h => ?_) (fun cdv A outer s H vs Q E hr h => ?_)
  · obtain ⟨d, c, n, lim, rfl, _⟩ := h
    rfl
  · obtain ⟨d, c, n, lim, rfl, dk, n0, n1, l0, l1, q⟩ := h
    obtain ⟨xs, ec, xl, xp⟩ := dk.cells
    have ncd := dk.ne
    have ed := dk.top
    have l64 : lim.natAbs < 2 ^ 64 := by omega
    have n64 : (n + 1).natAbs < 2 ^ 64 := by omega
    refine ⟨_, (pss_cons (ps_asg (pe_op op_add (pe_ix ix_list (pv 0) pe_int (fun _ _ => rfl)) pe_int) (pg_sub (pv 0) pe_int set_list))
      (pss_cons (ps_set (i := 2) sc_law_draw.nd rfl (Or.inl rfl) pe_int)
      (pss_cons (ps_set (i := 3) sc_law_draw.nd rfl (Or.inl rfl) (pe_un un_neg pe_int))
      (pss_cons (ps_if (pt_cmpR op_gt (pe_callB call_len_seq (by rfl) T.z_len PySem.boot_len (pa_cons (pe_ix ix_list (pv 0) pe_int (fun _ _ => rfl)) pa_nil)) pe_int (nomark _))
      (pss_cons (ps_set (i := 3) sc_law_draw.nd rfl (Or.inl rfl) (pe_op op_mod (pe_ix ix_list (pv 0) pe_int (fun _ _ => rfl)) (pe_callB call_len_seq (by rfl) T.z_len PySem.boot_len (pa_cons (pe_ix ix_list (pv 0) pe_int (fun _ _ => rfl)) pa_nil))))
      (pss_one (ps_set (i := 2) sc_law_draw.nd rfl (Or.inl rfl) (pe_ix ix_list (pe_ix ix_list (pv 0) pe_int (fun _ _ => rfl)) (pv 3) (fun _ _ => rfl)))))
      pss_nil)
      (pss_cons (ps_if (pt_cmpR op_ge (pv 2) (pe_op op_pow pe_int pe_int) (nomark _))
      (pss_cons (ps_asg (pe_op op_fdivW (pv 2) (pv 1)) (pg_sub (pe_ix ix_list (pv 0) pe_int (fun _ _ => rfl)) (pv 3) set_list))
      (pss_one (ps_ret (pe_op op_mod (pv 2) (pv 1)))))
      pss_nil)
      (pss_one (ps_ret (pe_op op_mod (pe_op op_mod (pe_op op_pow (pe_op op_add (pe_op op_add (pe_op op_mod (pv 2) pe_int) (pe_op op_mulW pe_int (pe_ix ix_list (pv 0) pe_int (fun _ _ => rfl)))) pe_int) pe_int) pe_int) (pv 1))))))))), ?_⟩
    refine ⟨.ref d, rfl, d, _, 1, .int n, rfl, rfl, SqL.of ed, rfl, n, 1, rfl, rfl, .ref d, rfl, d, _, 1, 1, rfl, rfl, ed, rfl, ?_⟩
    generalize eH : upd H d (.lst ([V.ref c, V.int n].set 1 (.int (n + 1)))) = H1
    have ed1 : H1 d = some (.lst [.ref c, .int (n + 1)]) := by
      rw [← eH, upd_same]
      rfl
    have ec1 : H1 c = some (.lst (xs.map V.int)) := by
      rw [← eH, upd_ne ncd]
      exact ec
    have kp1 : Kp1 d c H H1 := fun b o nb _ e => by
      rw [← eH, upd_ne nb]
      exact e
    have dk1 : Dk1 H1 d c (n + 1) := ⟨ed1, xs, ec1, xl, xp⟩
    refine ⟨1, rfl, ?_⟩
    refine ⟨.ref d, rfl, d, _, 0, .ref c, rfl, rfl, SqL.of ed1, rfl, c, _, rfl, .inl (SqL.of ec1), _, _, rfl, rfl, _, rfl, ite2 (fun e => ?_) (fun e => ?_)⟩
    · have e1 := of_decide_eq_true e
      rw [List.length_map] at e1
      have lp : (0 : Int) < (xs.map V.int).length := by rw [List.length_map]; exact e1
      have rem0 : 0 ≤ (n + 1) % ((xs.map V.int).length : Int) := Int.emod_nonneg _ (by omega)
      have rem1 : (n + 1) % ((xs.map V.int).length : Int) < (xs.map V.int).length := Int.emod_lt_of_pos _ lp
      obtain ⟨j, ej⟩ : ∃ j : Nat, (n + 1) % ((xs.map V.int).length : Int) = j := ⟨_, (Int.toNat_of_nonneg rem0).symm⟩
      have hj : j < xs.length := by
        rw [ej, List.length_map] at rem1
        omega
      have gj : (xs.map V.int)[j]? = some (.int xs[j]) := by
        rw [List.getElem?_map, List.getElem?_eq_getElem hj]
        rfl
      have x0 : 0 ≤ xs[j] := xp _ (List.getElem_mem hj)
      refine ⟨.ref d, rfl, d, _, 1, .int (n + 1), rfl, rfl, SqL.of ed1, rfl, .ref d, rfl, d, _, 0, .ref c, rfl, rfl, SqL.of ed1, rfl, c, _, rfl, .inl (SqL.of ec1), _, _, rfl, rfl, lp, ?_⟩
      refine ⟨.ref d, rfl, d, _, 0, .ref c, rfl, rfl, SqL.of ed1, rfl, .int _, rfl, c, _, _, .int xs[j], rfl, rfl, SqL.of ec1, (by rw [ej]; exact atI_nat gj), ?_⟩
      refine ⟨.int xs[j], rfl, 10, 18, rfl, rfl, ⟨by decide, by decide, by decide⟩, _, _, rfl, rfl, _, rfl, ite2 (fun e2 => ?_) (fun e2 => ?_)⟩
      · refine ⟨.int xs[j], rfl, .int lim, rfl, _, _, rfl, rfl, wide_div l0 l64 (by decide) (by decide), .ref d, rfl, d, _, 0, .ref c, rfl, rfl, SqL.of ed1, rfl, .int _, rfl, c, _, _, j, rfl, rfl, ec1, ?_, ?_⟩
        · rw [ej]
          unfold ixN
          rw [if_pos (by omega), if_pos (by rw [List.length_map]; omega)]
          rfl
        · refine ⟨.int xs[j], rfl, .int lim, rfl, _, _, rfl, rfl, l0, ?_⟩
          refine q _ _ ?_ ⟨?_, xs.set j (xs[j] / lim), ?_, ?_, ?_⟩ (Int.emod_nonneg _ (by omega)) (Int.emod_lt_of_pos _ l0)
          · intro b o nb nc e
            rw [upd_ne nc]
            exact kp1 b o nb nc e
          · rw [upd_ne ncd.symm]
            exact ed1
          · rw [upd_same, List.map_set]
          · rw [List.length_set]
            exact xl
          · intro x hx
            rcases List.mem_or_eq_of_mem_set hx with hm | he
            · exact xp x hm
            · rw [he]
              exact Int.ediv_nonneg x0 (by omega)
      · refine ⟨.int xs[j], rfl, _, _, rfl, rfl, (by show (0 : Int) < 2147483587; decide), .ref d, rfl, d, _, 1, .int (n + 1), rfl, rfl, SqL.of ed1, rfl, _, _, rfl, rfl, wide_mul (a := 13) (b := 64) (by decide) n64 (by decide) (by decide) (by decide), _, _, rfl, rfl, _, _, rfl, rfl, _, _, rfl, rfl, ⟨by decide, by decide, ?_⟩, _, _, rfl, rfl, (by show (0 : Int) < 2147483647; decide), .int lim, rfl, _, _, rfl, rfl, l0, ?_⟩
        · have a0 := Int.emod_nonneg xs[j] (show (2147483587 : Int) ≠ 0 by decide)
          have a1 := Int.emod_lt_of_pos xs[j] (show (0 : Int) < 2147483587 by decide)
          omega
        · exact q _ _ kp1 dk1 (Int.emod_nonneg _ (by omega)) (Int.emod_lt_of_pos _ l0)
    · refine ⟨.int 0, rfl, 10, 18, rfl, rfl, ⟨by decide, by decide, by decide⟩, _, _, rfl, rfl, _, rfl, ite2 (fun e2 => ?_) (fun e2 => ?_)⟩
      · exact absurd e2 (by decide)
      · refine ⟨.int 0, rfl, _, _, rfl, rfl, (by show (0 : Int) < 2147483587; decide), .ref d, rfl, d, _, 1, .int (n + 1), rfl, rfl, SqL.of ed1, rfl, _, _, rfl, rfl, wide_mul (a := 13) (b := 64) (by decide) n64 (by decide) (by decide) (by decide), _, _, rfl, rfl, _, _, rfl, rfl, _, _, rfl, rfl, ⟨by decide, by decide, ?_⟩, _, _, rfl, rfl, (by show (0 : Int) < 2147483647; decide), .int lim, rfl, _, _, rfl, rfl, l0, ?_⟩
        · have a0 := Int.emod_nonneg 0 (show (2147483587 : Int) ≠ 0 by decide)
          have a1 := Int.emod_lt_of_pos 0 (show (0 : Int) < 2147483587 by decide)
          omega
        · exact q _ _ kp1 dk1 (Int.emod_nonneg _ (by omega)) (Int.emod_lt_of_pos _ l0)
theorem Kp1.keep {d c : Addr} {H H' : Hp} (k : Kp1 d c H H') {a : Addr} {o : HO} (n1 : a ≠ d ∧ a ≠ c) (h : H a = some o) : H' a = some o := k a o n1.1 n1.2 h
theorem Kp1.tup {d c : Addr} {n : Int} {H H' : Hp} (k : Kp1 d c H H') (dk : Dk1 H d c n) {a : Addr} {xs : List V} (h : H a = some (.tup xs)) : H' a = some (.tup xs) := by
  obtain ⟨ys, e, _⟩ := dk.cells
  exact k a _ (ne_of h dk.top (fun z => by cases z)) (ne_of h e (fun z => by cases z)) h
theorem Dk1.off {H : Hp} {d c : Addr} {n : Int} (h : Dk1 H d c n) {p : Addr} (e : H p = none) : p ≠ d ∧ p ≠ c := by
  obtain ⟨ys, z, _⟩ := h.cells
  exact ⟨(ne_of_none h.top e).symm, (ne_of_none z e).symm⟩
theorem Dk1.upd {H : Hp} {d c : Addr} {n : Int} (h : Dk1 H d c n) {p : Addr} {o : HO} (off : p ≠ d ∧ p ≠ c) : Dk1 (upd H p o) d c n := by
  obtain ⟨ys, z, w⟩ := h.cells
  exact ⟨by rw [upd_ne off.1.symm]; exact h.top, ys, by rw [upd_ne off.2.symm]; exact z, w⟩
/-! ### the deck, and the table of code objects of the def that makes a lambda: c.1 the cells, c.2 the table -/
def qLam : Str := (envOfC (Str.ofString "helpful_piece") (defScope s_helpful_piece) 0 0 .none).qual ++ "<lambda>"
structure Dk (H : Hp) (d : Addr) (c : Addr × Addr) (n : Int) : Prop where
  deck : Dk1 H d c.1 n
  tab : LamX.TabS H c.2 qLam
def Kp (d : Addr) (c : Addr × Addr) (H H' : Hp) : Prop := ∀ b o, b ≠ d → (b ≠ c.1 ∧ b ≠ c.2) → H b = some o → H' b = some o
theorem Kp.trans {d : Addr} {c : Addr × Addr} {H H1 H2 : Hp} (h1 : Kp d c H H1) (h2 : Kp d c H1 H2) : Kp d c H H2 := fun b o n1 n2 e => h2 b o n1 n2 (h1 b o n1 n2 e)
theorem Kp.same {d : Addr} {c : Addr × Addr} {H H1 : Hp} (h : Same H H1) : Kp d c H H1 := fun b o _ _ e => h b o e
theorem Dk.two {H : Hp} {d : Addr} {c : Addr × Addr} {n : Int} (h : Dk H d c n) : (∃ us, H d = some (.lst us)) ∧ (∃ us, H c.1 = some (.lst us)) ∧ ∃ ps, H c.2 = some (.tbl ps) := by
  obtain ⟨ys, e, _⟩ := h.deck.cells
  obtain ⟨ps, h4, _⟩ := h.tab
  exact ⟨⟨_, h.deck.top⟩, ⟨_, e⟩, ps, h4⟩
theorem Kp.none {d : Addr} {c : Addr × Addr} {H H' : Hp} (k : Kp d c H H') {n m : Int} (h : Dk H d c n) (h' : Dk H' d c m) {t : Addr} (e : H' t = none) : H t = none := by
  obtain ⟨⟨u1, e1⟩, ⟨u2, e2⟩, ps, e4⟩ := h'.two
  by_cases c1 : t = d
  · rw [c1, e1] at e
    cases e
  · by_cases c2 : t = c.1
    · rw [c2, e2] at e
      cases e
    · by_cases c4 : t = c.2
      · rw [c4, e4] at e
        cases e
      · cases q : H t with
        | none => rfl
        | some o =>
          rw [k t o c1 ⟨c2, c4⟩ q] at e
          cases e
theorem Dk.kept {H H' : Hp} {d : Addr} {c : Addr × Addr} {n : Int} (h : Dk H d c n) (s : Same H H') : Dk H' d c n := ⟨h.deck.kept s, h.tab.ext s⟩
theorem Dk.eq {H : Hp} {d : Addr} {c : Addr × Addr} {n m : Int} (h : Dk H d c n) (e : n = m) : Dk H d c m := e ▸ h
theorem Dk.but {H H' : Hp} {d : Addr} {c : Addr × Addr} {n : Int} (h : Dk H d c n) (k : ButAt c.2 H H') (t : LamX.TabS H' c.2 qLam) : Dk H' d c n := by
  obtain ⟨ps, h4, _⟩ := h.tab
  obtain ⟨ys, e, w⟩ := h.deck.cells
  have nt : ∀ {a : Addr} {ls : List V}, H a = some (.lst ls) → a ≠ c.2 := fun {a ls} e z => by
    rw [z, h4] at e
    cases e
  exact ⟨⟨k _ _ (nt h.deck.top) h.deck.top, ys, k _ _ (nt e) e, w⟩, t⟩
/-- p is no part of the deck -/
abbrev Off (d : Addr) (c : Addr × Addr) (p : Addr) : Prop := p ≠ d ∧ p ≠ c.1 ∧ p ≠ c.2
theorem Kp.keep {d : Addr} {c : Addr × Addr} {H H' : Hp} (k : Kp d c H H') {a : Addr} {o : HO} (n1 : Off d c a) (h : H a = some o) : H' a = some o := k a o n1.1 n1.2 h
theorem Kp.tup {d : Addr} {c : Addr × Addr} {n : Int} {H H' : Hp} (k : Kp d c H H') (dk : Dk H d c n) {a : Addr} {xs : List V} (h : H a = some (.tup xs)) : H' a = some (.tup xs) := by
  obtain ⟨⟨u1, e1⟩, ⟨u2, e2⟩, ps, e4⟩ := dk.two
  exact k a _ (ne_of h e1 (fun z => by cases z)) ⟨ne_of h e2 (fun z => by cases z), ne_of h e4 (fun z => by cases z)⟩ h
theorem Dk.off {H : Hp} {d : Addr} {c : Addr × Addr} {n : Int} (h : Dk H d c n) {p : Addr} (e : H p = none) : Off d c p := by
  obtain ⟨⟨u1, e1⟩, ⟨u2, e2⟩, ps, e4⟩ := h.two
  exact ⟨(ne_of_none e1 e).symm, (ne_of_none e2 e).symm, (ne_of_none e4 e).symm⟩
/-- p holds no code object -/
abbrev NoCode (H : Hp) (p : Addr) : Prop := ∀ q, H p ≠ some (LamX.CodeO p q)
theorem noCode_none {H : Hp} {p : Addr} (h : H p = none) : NoCode H p := fun q e => by
  rw [h] at e
  cases e
theorem noCode_lst {H : Hp} {p : Addr} {xs : List V} (h : H p = some (.lst xs)) : NoCode H p := fun q e => by
  rw [h] at e
  unfold LamX.CodeO at e
  cases e
theorem Dk.upd {H : Hp} {d : Addr} {c : Addr × Addr} {n : Int} (h : Dk H d c n) {p : Addr} {o : HO} (off : Off d c p) (nc : NoCode H p := by first | exact noCode_none (by assumption) | exact noCode_lst (by assumption)) : Dk (upd H p o) d c n := by
  refine ⟨h.deck.upd ⟨off.1, off.2.1⟩, ?_⟩
  obtain ⟨ps, h1, h2, h3⟩ := h.tab
  refine ⟨ps, by rw [upd_ne off.2.2.symm]; exact h1, h2, fun pos cv hc => ?_⟩
  obtain ⟨c', e1, e2⟩ := h3 pos cv hc
  refine ⟨c', e1, ?_⟩
  rw [upd_ne (fun z => ?_)]
  · exact e2
  · subst z
    exact nc _ e2
theorem TabS.kp1 {H H' : Hp} {d c : Addr} {n : Int} {P : Addr} {q : Str} (t : LamX.TabS H P q) (dk : Dk1 H d c n) (k : Kp1 d c H H') : LamX.TabS H' P q := by
  have e1 := dk.top
  obtain ⟨ys, e2, _⟩ := dk.cells
  obtain ⟨ps, h1, h2, h3⟩ := t
  refine ⟨ps, k _ _ (ne_of h1 e1 (fun z => by cases z)) (ne_of h1 e2 (fun z => by cases z)) h1, h2, fun pos cv hc => ?_⟩
  obtain ⟨c', z1, z2⟩ := h3 pos cv hc
  exact ⟨c', z1, k _ _ (fun z => noCode_lst (z ▸ e1) _ z2) (fun z => noCode_lst (z ▸ e2) _ z2) z2⟩
def sp_law_deck (K : PySem.W.Frag) (pT : Addr) : Sp := fun vs H Q _ => ∃ (a : Addr) (ns : List Int), vs = [.ref a] ∧ SqL K H a (ns.map V.int) ∧ ns.length ≤ 63 ∧ LamX.TabS H pT qLam ∧
  ∀ H' d c, Same H H' → H d = none → c.2 = pT → Dk H' d c 0 → Q (.ref d) H'
def sp_law_draw : Sp := fun vs H Q _ => ∃ (d : Addr) (c : Addr × Addr) (n lim : Int), vs = [.ref d, .int lim] ∧ Dk H d c n ∧ 0 ≤ n ∧ n < 1000000 ∧ 0 < lim ∧ lim < 2 ^ 63 ∧
  ∀ H' r, Kp d c H H' → Dk H' d c (n + 1) → 0 ≤ r → r < lim → Q (.int r) H'
theorem ok_law_deck (T : Tx K mg f_is_number f_is_position f_is_tuple_of f_is_interval f_ascending_error f_targets_error f_is_pieces f_has_position f_contains f_pieces_inside f_first_gap f_find_missing f_without_item f_with_interval f_without_interval f_edited_state f_depth_changes f_find_blocks f_serves f_conflict f_demands_at_blocks f_is_open f_open_demands f_shadow_target f_require_few_blocks f_decisive_demands f_largest_independent f_unserved_demands f_helpful_piece f_smallest_solution f_count_needed f_solve f_law_deck f_law_draw f_law_line f_law_interval f_law_intervals f_law_served f_law_options f_law_conflict f_law_most f_law_needed f_law_edit f_law_after f_law_do f_law_begun f_law_generated f_law_solution_right f_law f_Plan_init f_Plan_add_target f_Plan_add_piece f_Plan_remove_target f_Plan_remove_piece f_Plan_targets f_Plan_pieces f_Plan_needed f_Plan_solution f_Plan_missing f_Plan_edit f_Plan_record f_Plan_require_idle f_Plan_state_at f_Plan_len f_Plan_str f_Plan_eq C_Plan d_is_number d_is_position d_is_tuple_of d_is_interval d_ascending_error d_targets_error d_is_pieces d_has_position d_contains d_pieces_inside d_first_gap d_find_missing d_without_item d_with_interval d_without_interval d_edited_state d_depth_changes d_find_blocks d_serves d_conflict d_demands_at_blocks d_is_open d_open_demands d_shadow_target d_require_few_blocks d_decisive_demands d_largest_independent d_unserved_demands d_helpful_piece d_smallest_solution d_count_needed d_solve d_law_deck d_law_draw d_law_line d_law_interval d_law_intervals d_law_served d_law_options d_law_conflict d_law_most d_law_needed d_law_edit d_law_after d_law_do d_law_begun d_law_generated d_law_solution_right d_law d_Plan_init d_Plan_add_target d_Plan_add_piece d_Plan_remove_target d_Plan_remove_piece d_Plan_targets d_Plan_pieces d_Plan_needed d_Plan_solution d_Plan_missing d_Plan_edit d_Plan_record d_Plan_require_idle d_Plan_state_at d_Plan_len d_Plan_str d_Plan_eq t_LAST_POSITION t_MAX_TARGETS t_MAX_PIECES t_MAX_BLOCKS t_MAX_EDITS) : FnOk P w K mg base CX0 1 f_law_deck d_law_deck ["_law_script"] (sp_law_deck K pT) :=
  (ok3_law_deck T).imp fun vs H Q E h => by
    obtain ⟨a, ns, e, h1, h2, tab, q⟩ := h
    exact ⟨a, ns, e, h1, h2, fun H' d c s nd _ dk => q H' d (c, pT) s nd rfl ⟨dk, tab.ext s⟩⟩
theorem ok_law_draw (T : Tx K mg f_is_number f_is_position f_is_tuple_of f_is_interval f_ascending_error f_targets_error f_is_pieces f_has_position f_contains f_pieces_inside f_first_gap f_find_missing f_without_item f_with_interval f_without_interval f_edited_state f_depth_changes f_find_blocks f_serves f_conflict f_demands_at_blocks f_is_open f_open_demands f_shadow_target f_require_few_blocks f_decisive_demands f_largest_independent f_unserved_demands f_helpful_piece f_smallest_solution f_count_needed f_solve f_law_deck f_law_draw f_law_line f_law_interval f_law_intervals f_law_served f_law_options f_law_conflict f_law_most f_law_needed f_law_edit f_law_after f_law_do f_law_begun f_law_generated f_law_solution_right f_law f_Plan_init f_Plan_add_target f_Plan_add_piece f_Plan_remove_target f_Plan_remove_piece f_Plan_targets f_Plan_pieces f_Plan_needed f_Plan_solution f_Plan_missing f_Plan_edit f_Plan_record f_Plan_require_idle f_Plan_state_at f_Plan_len f_Plan_str f_Plan_eq C_Plan d_is_number d_is_position d_is_tuple_of d_is_interval d_ascending_error d_targets_error d_is_pieces d_has_position d_contains d_pieces_inside d_first_gap d_find_missing d_without_item d_with_interval d_without_interval d_edited_state d_depth_changes d_find_blocks d_serves d_conflict d_demands_at_blocks d_is_open d_open_demands d_shadow_target d_require_few_blocks d_decisive_demands d_largest_independent d_unserved_demands d_helpful_piece d_smallest_solution d_count_needed d_solve d_law_deck d_law_draw d_law_line d_law_interval d_law_intervals d_law_served d_law_options d_law_conflict d_law_most d_law_needed d_law_edit d_law_after d_law_do d_law_begun d_law_generated d_law_solution_right d_law d_Plan_init d_Plan_add_target d_Plan_add_piece d_Plan_remove_target d_Plan_remove_piece d_Plan_targets d_Plan_pieces d_Plan_needed d_Plan_solution d_Plan_missing d_Plan_edit d_Plan_record d_Plan_require_idle d_Plan_state_at d_Plan_len d_Plan_str d_Plan_eq t_LAST_POSITION t_MAX_TARGETS t_MAX_PIECES t_MAX_BLOCKS t_MAX_EDITS) : FnOk P w K mg base CX0 1 f_law_draw d_law_draw ["_law_deck_here", "_law_many"] sp_law_draw :=
  (ok3_law_draw T).imp fun vs H Q E h => by
    obtain ⟨d, c, n, lim, e, dk, n0, n1, l0, l1, q⟩ := h
    exact ⟨d, c.1, n, lim, e, dk.deck, n0, n1, l0, l1, fun H' r k dk' r0 r1 => q H' r (fun b o n1 n2 e => k b o n1 n2.1 e) ⟨dk', TabS.kp1 dk.tab dk.deck k⟩ r0 r1⟩

/-! ### what stays when the heap grows, or the deck is drawn from -/
theorem rd_same {H H' : Hp} (s : Same H H') {a : Addr} {u : HO} (h : Rd H a u) : Rd H' a u := by
  rcases h with h | ⟨o, h⟩
  · exact .inl (s _ _ h)
  · exact .inr ⟨o, s _ _ h⟩
theorem sqT_same {K : PySem.W.Frag} {H H' : Hp} (s : Same H H') {a : Addr} {xs : List V} (h : SqT K H a xs) : SqT K H' a xs := by
  rcases h with h | h
  · exact .inl (rd_same s h)
  · exact .inr h
theorem dp_same {K : PySem.W.Frag} {H H' : Hp} (s : Same H H') {v : V} {d : PyData} (h : Dp K H v d) : Dp K H' v d := by
  refine Dp.rec (K := K) (H := H) (motive_1 := fun v d _ => Dp K H' v d) (motive_2 := fun vs ds _ => DpAll K H' vs ds) .non (fun b => .bl b) (fun i => .int i) (fun x => .str x) (fun hs _ q => .lst (s.seq hs) q) (fun hs _ q => .tup (sqT_same s hs) q) .nil (fun _ _ a b => .cons a b) h
theorem dp2 {K : PySem.W.Frag} {H : Hp} {t : Addr} {x y : Int} (h : H t = some (.tup [.int x, .int y])) : Dp K H (.ref t) (.tuple [.int x, .int y]) := .tup (SqT.of h) (.cons (.int x) (.cons (.int y) .nil))
theorem sm2 {x y : Int} (h1 : x.natAbs < 10 ^ 30) (h2 : y.natAbs < 10 ^ 30) : Sm 202 1 (.tuple [.int x, .int y]) := by
  have h := Sm.tup (n := 100) (dp := 0) (ds := [.int x, .int y]) (fun d hd => by
    rcases List.mem_cons.mp hd with rfl | hd
    · exact Sm.int h1
    · rcases List.mem_cons.mp hd with rfl | hd
      · exact Sm.int h2
      · cases hd)
  exact h
/-- an interval, or None -/
def optD : Option (Int × Int) → PyData
  | none => .none
  | some (x, y) => .tuple [.int x, .int y]
def OV (H : Hp) (v : V) : Option (Int × Int) → Prop
  | none => v = .non
  | some (x, y) => ∃ t, v = .ref t ∧ H t = some (.tup [.int x, .int y])
theorem OV.same {H H' : Hp} (s : Same H H') {v : V} {o : Option (Int × Int)} (h : OV H v o) : OV H' v o := by
  match o, h with
  | none, h => exact h
  | some (x, y), h =>
    obtain ⟨t, e, z⟩ := h
    exact ⟨t, e, s _ _ z⟩
theorem OV.kp {d : Addr} {c : Addr × Addr} {n : Int} {H H' : Hp} (k : Kp d c H H') (dk : Dk H d c n) {v : V} {o : Option (Int × Int)} (h : OV H v o) : OV H' v o := by
  match o, h with
  | none, h => exact h
  | some (x, y), h =>
    obtain ⟨t, e, z⟩ := h
    exact ⟨t, e, k.tup dk z⟩
theorem OV.dp {K : PySem.W.Frag} {H : Hp} {v : V} {o : Option (Int × Int)} (h : OV H v o) : Dp K H v (optD o) := by
  match o, h with
  | none, h =>
    cases h
    exact .non
  | some (x, y), h =>
    obtain ⟨t, e, z⟩ := h
    subst e
    exact dp2 z

/-! ### rows of intervals -/
inductive Ivs (H : Hp) : List V → List (Int × Int) → Prop
  | nil : Ivs H [] []
  | cons {a : Addr} {x y : Int} {vs : List V} {ps : List (Int × Int)} : H a = some (.tup [.int x, .int y]) → Ivs H vs ps → Ivs H (.ref a :: vs) ((x, y) :: ps)
theorem Ivs.length {H : Hp} {vs : List V} {ps : List (Int × Int)} (h : Ivs H vs ps) : vs.length = ps.length := by
  induction h with
  | nil => rfl
  | cons _ _ ih => rw [List.length_cons, List.length_cons, ih]
theorem Ivs.same {H H' : Hp} (s : Same H H') {vs : List V} {ps : List (Int × Int)} (h : Ivs H vs ps) : Ivs H' vs ps := by
  induction h with
  | nil => exact .nil
  | cons e _ ih => exact .cons (s _ _ e) ih
theorem Ivs.kp {d : Addr} {c : Addr × Addr} {n : Int} {H H' : Hp} (k : Kp d c H H') (dk : Dk H d c n) {vs : List V} {ps : List (Int × Int)} (h : Ivs H vs ps) : Ivs H' vs ps := by
  induction h with
  | nil => exact .nil
  | cons e _ ih => exact .cons (k.tup dk e) ih
theorem Ivs.get {H : Hp} {vs : List V} {ps : List (Int × Int)} (h : Ivs H vs ps) : ∀ {i : Nat} {v : V}, vs[i]? = some v → ∃ a x y, v = .ref a ∧ ps[i]? = some (x, y) ∧ H a = some (.tup [.int x, .int y]) := by
  induction h with
  | nil =>
    intro i v e
    simp at e
  | cons e _ ih =>
    intro i v q
    cases i with
    | zero =>
      cases q
      exact ⟨_, _, _, rfl, rfl, e⟩
    | succ i => exact ih q
theorem Ivs.snoc {H : Hp} {vs : List V} {ps : List (Int × Int)} {a : Addr} {x y : Int} (h : Ivs H vs ps) (e : H a = some (.tup [.int x, .int y])) : Ivs H (vs ++ [.ref a]) (ps ++ [(x, y)]) := by
  induction h with
  | nil => exact .cons e .nil
  | cons z _ ih => exact .cons z ih
def pairD (p : Int × Int) : PyData := .tuple [.int p.1, .int p.2]
theorem Ivs.dp {K : PySem.W.Frag} {H : Hp} {vs : List V} {ps : List (Int × Int)} (h : Ivs H vs ps) : DpAll K H vs (ps.map pairD) := by
  induction h with
  | nil => exact .nil
  | cons e _ ih => exact .cons (dp2 e) ih

/-! ### comprehensions that change nothing but make new objects -/
/-- the tuples stay -/
def Tps (H H' : Hp) : Prop := ∀ b xs, H b = some (.tup xs) → H' b = some (.tup xs)
theorem Tps.refl (H : Hp) : Tps H H := fun _ _ e => e
theorem Tps.trans {H H1 H2 : Hp} (h : Tps H H1) (h2 : Tps H1 H2) : Tps H H2 := fun b xs e => h2 b xs (h b xs e)
theorem Tps.same {H H1 : Hp} (h : Same H H1) : Tps H H1 := fun b xs e => h b _ e
theorem Kp.tps {d : Addr} {c : Addr × Addr} {n : Int} {H H' : Hp} (k : Kp d c H H') (dk : Dk H d c n) : Tps H H' := fun _ _ e => k.tup dk e
theorem Tps.lst {H : Hp} {D : Addr} {ws vs : List V} (e : H D = some (.lst ws)) : Tps H (upd H D (.lst vs)) := fun b xs h => by
  rw [upd_ne (ne_of h e (fun z => by cases z))]
  exact h
theorem same_off {H0 H : Hp} {D : Addr} {o : HO} (n : H0 D = none) (s : Same H0 H) : Same H0 (upd H D o) := fun b u e => by
  rw [upd_ne (ne_of_none e n)]
  exact s b u e
theorem few_line {n : Nat} (h : n < 1000) : n < sizeLine := by
  rw [show sizeLine = 16777216 by decide]
  omega
theorem lcL {K : PySem.W.Frag} {a : Addr} {xs : List V} {g : TG} {tt : TT} {te : TE} {vs : List Nat} {σ : L2.St} {H1 : Hp} {D : Addr} {Qd : Hp → Prop} (R : Nat → Hp → List V → Prop) (nD : H1 D = none) (hl : ∀ H', Same H1 H' → SqL K H' a xs) (few : xs.length < 1000)
    (mono : ∀ i H' H'' ws, Tps H' H'' → R i H' ws → R i H'' ws) (len : ∀ i H' ws, R i H' ws → ws.length ≤ i) (r0 : ∀ H', R 0 H' [])
    (hs : ∀ i x H' (N : Hp → Prop) acc, xs[i]? = some x → Same H1 H' → H' D = some (.lst acc) → acc.length < sizeLine → R i H' acc → (∀ H'', Same H' H'' → R (i + 1) H'' acc → N H'') → (∀ H'' y, Same H' H'' → R (i + 1) H'' (acc ++ [y]) → ∃ acc', H'' D = some (.lst acc') ∧ acc'.length < sizeLine ∧ N (upd H'' D (.lst (acc' ++ [y])))) →
      g x (wipe σ vs) H' fun σ2 H2 => wipe σ2 vs = wipe σ vs ∧ tt σ2 H2 fun b H3 => if b = true then te σ2 H3 fun y H4 => ∃ acc, H4 D = some (.lst acc) ∧ acc.length < sizeLine ∧ N (upd H4 D (.lst (acc ++ [y]))) else N H3)
    (hd : ∀ H' ws, Same H1 H' → H' D = some (.lst ws) → R xs.length H' ws → Qd H') :
    ∃ W : Nat → Nat → Hp → Prop, (∃ m, W 0 m (upd H1 D (.lst []))) ∧ ∀ i m H, W i m H →
      ((Itl K a).stop i H ∧ Qd H) ∨ ((Itl K a).go i H ∧ ∃ Nx : Hp → Prop, (∀ H', Nx H' → ∃ m', m' < m ∧ W (i + 1) m' H') ∧ ∀ x H', (Itl K a).yld i H x H' → g x (wipe σ vs) H' fun σ2 H2 => wipe σ2 vs = wipe σ vs ∧ tt σ2 H2 fun b H3 =>
        if b = true then te σ2 H3 fun y H4 => ∃ acc, H4 D = some (.lst acc) ∧ acc.length < sizeLine ∧ Nx (upd H4 D (.lst (acc ++ [y]))) else Nx H3) := by
  refine lc_list (K := K) (a := a) (xs := xs) (fun i H' => Same H1 H' ∧ ∃ ws, H' D = some (.lst ws) ∧ R i H' ws) ⟨same_new nD, [], upd_same, r0 _⟩ (fun i H' _ h => hl H' h.1) ?_ ?_
  · rintro i x H' hi ⟨sm, ws, eD, r⟩
    have lt := (List.getElem?_eq_some_iff.mp hi).1
    have lw := len i H' ws r
    have sz : ws.length < sizeLine := few_line (by omega)
    refine hs i x H' _ ws hi sm eD sz r (fun H'' s r2 => ⟨sm.trans s, ws, s _ _ eD, r2⟩) (fun H'' y s r2 => ?_)
    exact ⟨ws, s _ _ eD, sz, same_off nD (sm.trans s), _, upd_same, mono _ _ _ _ (Tps.lst (s _ _ eD)) r2⟩
  · rintro H' ⟨sm, ws, eD, r⟩
    exact hd H' ws sm eD r
theorem lcT {K : PySem.W.Frag} {a : Addr} {xs : List V} {g : TG} {tt : TT} {te : TE} {vs : List Nat} {σ : L2.St} {H1 : Hp} {D : Addr} {Qd : Hp → Prop} (R : Nat → Hp → List V → Prop) (nD : H1 D = none) (hl : ∀ H', Same H1 H' → SqT K H' a xs) (few : xs.length < 1000)
    (mono : ∀ i H' H'' ws, Tps H' H'' → R i H' ws → R i H'' ws) (len : ∀ i H' ws, R i H' ws → ws.length ≤ i) (r0 : ∀ H', R 0 H' [])
    (hs : ∀ i x H' (N : Hp → Prop) acc, xs[i]? = some x → Same H1 H' → H' D = some (.lst acc) → acc.length < sizeLine → R i H' acc → (∀ H'', Same H' H'' → R (i + 1) H'' acc → N H'') → (∀ H'' y, Same H' H'' → R (i + 1) H'' (acc ++ [y]) → ∃ acc', H'' D = some (.lst acc') ∧ acc'.length < sizeLine ∧ N (upd H'' D (.lst (acc' ++ [y])))) →
      g x (wipe σ vs) H' fun σ2 H2 => wipe σ2 vs = wipe σ vs ∧ tt σ2 H2 fun b H3 => if b = true then te σ2 H3 fun y H4 => ∃ acc, H4 D = some (.lst acc) ∧ acc.length < sizeLine ∧ N (upd H4 D (.lst (acc ++ [y]))) else N H3)
    (hd : ∀ H' ws, Same H1 H' → H' D = some (.lst ws) → R xs.length H' ws → Qd H') :
    ∃ W : Nat → Nat → Hp → Prop, (∃ m, W 0 m (upd H1 D (.lst []))) ∧ ∀ i m H, W i m H →
      ((Itt K a).stop i H ∧ Qd H) ∨ ((Itt K a).go i H ∧ ∃ Nx : Hp → Prop, (∀ H', Nx H' → ∃ m', m' < m ∧ W (i + 1) m' H') ∧ ∀ x H', (Itt K a).yld i H x H' → g x (wipe σ vs) H' fun σ2 H2 => wipe σ2 vs = wipe σ vs ∧ tt σ2 H2 fun b H3 =>
        if b = true then te σ2 H3 fun y H4 => ∃ acc, H4 D = some (.lst acc) ∧ acc.length < sizeLine ∧ Nx (upd H4 D (.lst (acc ++ [y]))) else Nx H3) := by
  refine lc_tup (K := K) (a := a) (xs := xs) (fun i H' => Same H1 H' ∧ ∃ ws, H' D = some (.lst ws) ∧ R i H' ws) ⟨same_new nD, [], upd_same, r0 _⟩ (fun i H' _ h => hl H' h.1) ?_ ?_
  · rintro i x H' hi ⟨sm, ws, eD, r⟩
    have lt := (List.getElem?_eq_some_iff.mp hi).1
    have lw := len i H' ws r
    have sz : ws.length < sizeLine := few_line (by omega)
    refine hs i x H' _ ws hi sm eD sz r (fun H'' s r2 => ⟨sm.trans s, ws, s _ _ eD, r2⟩) (fun H'' y s r2 => ?_)
    exact ⟨ws, s _ _ eD, sz, same_off nD (sm.trans s), _, upd_same, mono _ _ _ _ (Tps.lst (s _ _ eD)) r2⟩
  · rintro H' ⟨sm, ws, eD, r⟩
    exact hd H' ws sm eD r
theorem map_filter_len {α : Type} {ns : List α} {p : α → Bool} {f : α → V} (i : Nat) : (((ns.take i).filter p).map f).length ≤ i := by
  rw [List.length_map]
  exact Nat.le_trans (List.length_filter_le _ _) (List.length_take_le _ _)
theorem take_filter {α : Type} {ns : List α} {i : Nat} {n : α} {p : α → Bool} (h : ns[i]? = some n) : (ns.take (i + 1)).filter p = (ns.take i).filter p ++ (if p n = true then [n] else []) := by
  rw [List.take_add_one, h, List.filter_append]
  congr 1
  show List.filter p [n] = _
  rw [List.filter_cons]
  split <;> rfl
theorem nodup_le {α : Type} [DecidableEq α] : ∀ {l m : List α}, l.Nodup → (∀ x ∈ l, x ∈ m) → l.length ≤ m.length
  | [], _, _, _ => Nat.zero_le _
  | a :: l, m, h, hs => by
    have hm := hs a List.mem_cons_self
    have h' := List.nodup_cons.mp h
    have ih := nodup_le (l := l) (m := m.erase a) h'.2 (fun x hx => (List.mem_erase_of_ne (fun e => h'.1 (by rw [← e]; exact hx))).mpr (hs x (List.mem_cons_of_mem _ hx)))
    rw [List.length_erase_of_mem hm] at ih
    have := List.length_pos_of_mem hm
    rw [List.length_cons]
    omega

/-! ### demands, and rows of them -/
structure Dm (H : Hp) (v : V) (p lo hi : Int) : Prop where
  ex : ∃ u t, v = .ref u ∧ H u = some (.tup [.int p, .ref t]) ∧ H t = some (.tup [.int lo, .int hi])
  low : lo ≤ p
  high : p ≤ hi
theorem Dm.tps {H H' : Hp} (s : Tps H H') {v : V} {p lo hi : Int} (h : Dm H v p lo hi) : Dm H' v p lo hi := by
  obtain ⟨u, t, rfl, e1, e2⟩ := h.ex
  exact ⟨⟨u, t, rfl, s _ _ e1, s _ _ e2⟩, h.low, h.high⟩
theorem Dm.same {H H' : Hp} (s : Same H H') {v : V} {p lo hi : Int} (h : Dm H v p lo hi) : Dm H' v p lo hi := h.tps (Tps.same s)
inductive Dms (H : Hp) : List V → List (Int × Int × Int) → Prop
  | nil : Dms H [] []
  | cons {v : V} {p lo hi : Int} {vs : List V} {ds : List (Int × Int × Int)} : Dm H v p lo hi → Dms H vs ds → Dms H (v :: vs) ((p, lo, hi) :: ds)
theorem Dms.length {H : Hp} {vs : List V} {ds : List (Int × Int × Int)} (h : Dms H vs ds) : vs.length = ds.length := by
  induction h with
  | nil => rfl
  | cons _ _ ih => rw [List.length_cons, List.length_cons, ih]
theorem Dms.tps {H H' : Hp} (s : Tps H H') {vs : List V} {ds : List (Int × Int × Int)} (h : Dms H vs ds) : Dms H' vs ds := by
  induction h with
  | nil => exact .nil
  | cons e _ ih => exact .cons (e.tps s) ih
theorem Dms.same {H H' : Hp} (s : Same H H') {vs : List V} {ds : List (Int × Int × Int)} (h : Dms H vs ds) : Dms H' vs ds := h.tps (Tps.same s)
theorem Dms.get {H : Hp} {vs : List V} {ds : List (Int × Int × Int)} (h : Dms H vs ds) : ∀ {i : Nat} {v : V}, vs[i]? = some v → ∃ p lo hi, ds[i]? = some (p, lo, hi) ∧ Dm H v p lo hi := by
  induction h with
  | nil =>
    intro i v e
    simp at e
  | cons e _ ih =>
    intro i v q
    cases i with
    | zero =>
      cases q
      exact ⟨_, _, _, rfl, e⟩
    | succ i => exact ih q
theorem Dms.append {H : Hp} {vs us : List V} {ds es : List (Int × Int × Int)} (h : Dms H vs ds) (h2 : Dms H us es) : Dms H (vs ++ us) (ds ++ es) := by
  induction h with
  | nil => exact h2
  | cons e _ ih => exact .cons e ih
theorem Dms.snoc {H : Hp} {vs : List V} {ds : List (Int × Int × Int)} {v : V} {p lo hi : Int} (h : Dms H vs ds) (e : Dm H v p lo hi) : Dms H (vs ++ [v]) (ds ++ [(p, lo, hi)]) := h.append (.cons e .nil)
theorem Dms.take {H : Hp} {vs : List V} {ds : List (Int × Int × Int)} (h : Dms H vs ds) : ∀ n : Nat, Dms H (vs.take n) (ds.take n) := by
  induction h with
  | nil =>
    intro n
    rw [List.take_nil, List.take_nil]
    exact .nil
  | cons e _ ih =>
    intro n
    cases n with
    | zero => exact .nil
    | succ n => exact .cons e (ih n)
theorem Dms.reverse {H : Hp} {vs : List V} {ds : List (Int × Int × Int)} (h : Dms H vs ds) : Dms H vs.reverse ds.reverse := by
  induction h with
  | nil => exact .nil
  | cons e _ ih =>
    rw [List.reverse_cons, List.reverse_cons]
    exact ih.snoc e
theorem Dms.isEmpty {H : Hp} {vs : List V} {ds : List (Int × Int × Int)} (h : Dms H vs ds) : vs.isEmpty = ds.isEmpty := by
  cases h <;> rfl
theorem Dms.ok {H : Hp} {vs : List V} {ds : List (Int × Int × Int)} (h : Dms H vs ds) : ∀ q ∈ ds, q.2.1 ≤ q.1 ∧ q.1 ≤ q.2.2 := by
  induction h with
  | nil =>
    intro q hq
    cases hq
  | cons e _ ih =>
    intro q hq
    rcases List.mem_cons.mp hq with rfl | hq
    · exact ⟨e.low, e.high⟩
    · exact ih q hq
/-! ### comprehensions over a range that draw -/
theorem lcK {d : Addr} {c : Addr × Addr} {n0 per : Int} {lo : Int} {n : Nat} {g : TG} {tt : TT} {te : TE} {vs : List Nat} {σ : L2.St} {H1 : Hp} {D : Addr} {Qd : Hp → Prop} (R : Nat → Hp → List V → Prop) (nD : H1 D = none) (dk : Dk H1 d c n0) (few : n < 1000)
    (mono : ∀ i H' H'' ws, Tps H' H'' → R i H' ws → R i H'' ws) (len : ∀ i H' ws, R i H' ws → ws.length ≤ i) (r0 : ∀ H', R 0 H' [])
    (hs : ∀ i H' (N : Hp → Prop) acc, i < n → Kp d c H1 H' → Dk H' d c (n0 + per * i) → H' D = some (.lst acc) → R i H' acc → (∀ H'' y, Kp d c H' H'' → Dk H'' d c (n0 + per * i + per) → R (i + 1) H'' (acc ++ [y]) → ∃ acc', H'' D = some (.lst acc') ∧ acc'.length < sizeLine ∧ N (upd H'' D (.lst (acc' ++ [y])))) →
      g (.int (lo + i)) (wipe σ vs) H' fun σ2 H2 => wipe σ2 vs = wipe σ vs ∧ tt σ2 H2 fun b H3 => if b = true then te σ2 H3 fun y H4 => ∃ acc, H4 D = some (.lst acc) ∧ acc.length < sizeLine ∧ N (upd H4 D (.lst (acc ++ [y]))) else N H3)
    (hd : ∀ H' ws, Kp d c H1 H' → Dk H' d c (n0 + per * n) → H' D = some (.lst ws) → R n H' ws → Qd H') :
    ∃ W : Nat → Nat → Hp → Prop, (∃ m, W 0 m (upd H1 D (.lst []))) ∧ ∀ i m H, W i m H →
      ((Itr lo n).stop i H ∧ Qd H) ∨ ((Itr lo n).go i H ∧ ∃ Nx : Hp → Prop, (∀ H', Nx H' → ∃ m', m' < m ∧ W (i + 1) m' H') ∧ ∀ x H', (Itr lo n).yld i H x H' → g x (wipe σ vs) H' fun σ2 H2 => wipe σ2 vs = wipe σ vs ∧ tt σ2 H2 fun b H3 =>
        if b = true then te σ2 H3 fun y H4 => ∃ acc, H4 D = some (.lst acc) ∧ acc.length < sizeLine ∧ Nx (upd H4 D (.lst (acc ++ [y]))) else Nx H3) := by
  have off := dk.off nD
  refine lc_range (lo := lo) (n := n) (fun i H' => Kp d c H1 H' ∧ Dk H' d c (n0 + per * i) ∧ ∃ ws, H' D = some (.lst ws) ∧ R i H' ws) ⟨Kp.same (same_new nD), (dk.upd off).eq (by simp), [], upd_same, r0 _⟩ ?_ ?_
  · rintro i H' hi ⟨kp, dk', ws, eD, r⟩
    have lw := len i H' ws r
    have sz : ws.length < sizeLine := few_line (by omega)
    refine hs i H' _ ws hi kp dk' eD r (fun H'' y kp2 dk2 r2 => ?_)
    have eD2 := kp2.keep off eD
    refine ⟨ws, eD2, sz, fun b o n1 n2 e => ?_, (dk2.upd off).eq ?_, _, upd_same, mono _ _ _ _ (Tps.lst eD2) r2⟩
    · rw [upd_ne (ne_of_none e nD)]
      exact kp2 b o n1 n2 (kp b o n1 n2 e)
    · rw [Int.natCast_succ, Int.mul_add, Int.mul_one]
      omega
  · rintro H' ⟨kp, dk', ws, eD, r⟩
    exact hd H' ws kp dk' eD r

theorem Ivs.tps {H H' : Hp} (s : Tps H H') {vs : List V} {ps : List (Int × Int)} (h : Ivs H vs ps) : Ivs H' vs ps := by
  induction h with
  | nil => exact .nil
  | cons e _ ih => exact .cons (s _ _ e) ih
theorem Ivs.append {H : Hp} {vs us : List V} {ps qs : List (Int × Int)} (h : Ivs H vs ps) (h2 : Ivs H us qs) : Ivs H (vs ++ us) (ps ++ qs) := by
  induction h with
  | nil => exact h2
  | cons e _ ih => exact .cons e ih
theorem Ivs.isEmpty {H : Hp} {vs : List V} {ps : List (Int × Int)} (h : Ivs H vs ps) : vs.isEmpty = ps.isEmpty := by
  cases h <;> rfl

/-! ### the program: contains, has_position, serves -/
def inI (x y u v : Int) : Bool := decide (x ≤ u) && decide (v ≤ y)
def atP (x y p : Int) : Bool := decide (x ≤ p) && decide (p ≤ y)
def sp_contains : Sp := fun vs H Q _ => ∃ (a b : Addr) (x y u v : Int), vs = [.ref a, .ref b] ∧ H a = some (.tup [.int x, .int y]) ∧ H b = some (.tup [.int u, .int v]) ∧ Q (.bl (inI x y u v)) H
theorem ok_contains (T : Tx K mg f_is_number f_is_position f_is_tuple_of f_is_interval f_ascending_error f_targets_error f_is_pieces f_has_position f_contains f_pieces_inside f_first_gap f_find_missing f_without_item f_with_interval f_without_interval f_edited_state f_depth_changes f_find_blocks f_serves f_conflict f_demands_at_blocks f_is_open f_open_demands f_shadow_target f_require_few_blocks f_decisive_demands f_largest_independent f_unserved_demands f_helpful_piece f_smallest_solution f_count_needed f_solve f_law_deck f_law_draw f_law_line f_law_interval f_law_intervals f_law_served f_law_options f_law_conflict f_law_most f_law_needed f_law_edit f_law_after f_law_do f_law_begun f_law_generated f_law_solution_right f_law f_Plan_init f_Plan_add_target f_Plan_add_piece f_Plan_remove_target f_Plan_remove_piece f_Plan_targets f_Plan_pieces f_Plan_needed f_Plan_solution f_Plan_missing f_Plan_edit f_Plan_record f_Plan_require_idle f_Plan_state_at f_Plan_len f_Plan_str f_Plan_eq C_Plan d_is_number d_is_position d_is_tuple_of d_is_interval d_ascending_error d_targets_error d_is_pieces d_has_position d_contains d_pieces_inside d_first_gap d_find_missing d_without_item d_with_interval d_without_interval d_edited_state d_depth_changes d_find_blocks d_serves d_conflict d_demands_at_blocks d_is_open d_open_demands d_shadow_target d_require_few_blocks d_decisive_demands d_largest_independent d_unserved_demands d_helpful_piece d_smallest_solution d_count_needed d_solve d_law_deck d_law_draw d_law_line d_law_interval d_law_intervals d_law_served d_law_options d_law_conflict d_law_most d_law_needed d_law_edit d_law_after d_law_do d_law_begun d_law_generated d_law_solution_right d_law d_Plan_init d_Plan_add_target d_Plan_add_piece d_Plan_remove_target d_Plan_remove_piece d_Plan_targets d_Plan_pieces d_Plan_needed d_Plan_solution d_Plan_missing d_Plan_edit d_Plan_record d_Plan_require_idle d_Plan_state_at d_Plan_len d_Plan_str d_Plan_eq t_LAST_POSITION t_MAX_TARGETS t_MAX_PIECES t_MAX_BLOCKS t_MAX_EDITS) : FnOk P w K mg base CX0 1 f_contains d_contains ["outer", "inner"] sp_contains := by
  refine T.F_contains.ok sc_contains (fun vs H Q E h => ?_) (fun cdv A outer s H vs Q E hr h => ?_)
  · obtain ⟨a, b, x, y, u, v, rfl, _⟩ := h
    rfl
  · obtain ⟨a, b, x, y, u, v, rfl, ha, hb, q⟩ := h
    refine ⟨_, (pss_one (ps_ret (pe_and (pe_cmpR op_le (pe_ix ix_tup (pv 0) pe_int (fun _ _ => rfl)) (pe_ix ix_tup (pv 1) pe_int (fun _ _ => rfl)) (nomark _)) (pe_one (pe_cmpR op_le (pe_ix ix_tup (pv 1) pe_int (fun _ _ => rfl)) (pe_ix ix_tup (pv 0) pe_int (fun _ _ => rfl)) (nomark _)))))), ?_⟩
    unfold inI at q
    refine ⟨.ref a, rfl, a, _, 0, .int x, rfl, rfl, SqT.of ha, rfl, .ref b, rfl, b, _, 0, .int u, rfl, rfl, SqT.of hb, rfl, _, _, rfl, rfl, _, rfl, ite2 (fun e => ?_) (fun e => ?_)⟩
    · refine ⟨.ref b, rfl, b, _, 1, .int v, rfl, rfl, SqT.of hb, rfl, .ref a, rfl, a, _, 1, .int y, rfl, rfl, SqT.of ha, rfl, _, _, rfl, rfl, ?_⟩
      rw [e] at q
      exact q
    · rw [Bool.not_eq_true] at e
      rw [e] at q
      exact q
def sp_has_position : Sp := fun vs H Q _ => ∃ (a : Addr) (x y p : Int), vs = [.ref a, .int p] ∧ H a = some (.tup [.int x, .int y]) ∧ Q (.bl (atP x y p)) H
theorem ok_has_position (T : Tx K mg f_is_number f_is_position f_is_tuple_of f_is_interval f_ascending_error f_targets_error f_is_pieces f_has_position f_contains f_pieces_inside f_first_gap f_find_missing f_without_item f_with_interval f_without_interval f_edited_state f_depth_changes f_find_blocks f_serves f_conflict f_demands_at_blocks f_is_open f_open_demands f_shadow_target f_require_few_blocks f_decisive_demands f_largest_independent f_unserved_demands f_helpful_piece f_smallest_solution f_count_needed f_solve f_law_deck f_law_draw f_law_line f_law_interval f_law_intervals f_law_served f_law_options f_law_conflict f_law_most f_law_needed f_law_edit f_law_after f_law_do f_law_begun f_law_generated f_law_solution_right f_law f_Plan_init f_Plan_add_target f_Plan_add_piece f_Plan_remove_target f_Plan_remove_piece f_Plan_targets f_Plan_pieces f_Plan_needed f_Plan_solution f_Plan_missing f_Plan_edit f_Plan_record f_Plan_require_idle f_Plan_state_at f_Plan_len f_Plan_str f_Plan_eq C_Plan d_is_number d_is_position d_is_tuple_of d_is_interval d_ascending_error d_targets_error d_is_pieces d_has_position d_contains d_pieces_inside d_first_gap d_find_missing d_without_item d_with_interval d_without_interval d_edited_state d_depth_changes d_find_blocks d_serves d_conflict d_demands_at_blocks d_is_open d_open_demands d_shadow_target d_require_few_blocks d_decisive_demands d_largest_independent d_unserved_demands d_helpful_piece d_smallest_solution d_count_needed d_solve d_law_deck d_law_draw d_law_line d_law_interval d_law_intervals d_law_served d_law_options d_law_conflict d_law_most d_law_needed d_law_edit d_law_after d_law_do d_law_begun d_law_generated d_law_solution_right d_law d_Plan_init d_Plan_add_target d_Plan_add_piece d_Plan_remove_target d_Plan_remove_piece d_Plan_targets d_Plan_pieces d_Plan_needed d_Plan_solution d_Plan_missing d_Plan_edit d_Plan_record d_Plan_require_idle d_Plan_state_at d_Plan_len d_Plan_str d_Plan_eq t_LAST_POSITION t_MAX_TARGETS t_MAX_PIECES t_MAX_BLOCKS t_MAX_EDITS) : FnOk P w K mg base CX0 1 f_has_position d_has_position ["interval", "position"] sp_has_position := by
  refine T.F_has_position.ok sc_has_position (fun vs H Q E h => ?_) (fun cdv A outer s H vs Q E hr h => ?_)
  · obtain ⟨a, x, y, p, rfl, _⟩ := h
    rfl
  · obtain ⟨a, x, y, p, rfl, ha, q⟩ := h
    refine ⟨_, (pss_one (ps_ret (pe_chain op_le op_le (pe_ix ix_tup (pv 0) pe_int (fun _ _ => rfl)) (pv 1) (pe_ix ix_tup (pv 0) pe_int (fun _ _ => rfl))))), ?_⟩
    unfold atP at q
    refine ⟨.ref a, rfl, a, _, 0, .int x, rfl, rfl, SqT.of ha, rfl, .int p, rfl, _, _, rfl, rfl, _, rfl, ite2 (fun e => ?_) (fun e => ?_)⟩
    · refine ⟨.ref a, rfl, a, _, 1, .int y, rfl, rfl, SqT.of ha, rfl, _, _, rfl, rfl, ?_⟩
      rw [e] at q
      exact q
    · rw [Bool.not_eq_true] at e
      rw [e] at q
      exact q
def svI (x y p lo hi : Int) : Bool := inI lo hi x y && atP x y p
def sp_serves : Sp := fun vs H Q _ => ∃ (a u t : Addr) (x y p lo hi : Int), vs = [.ref a, .ref u] ∧ H a = some (.tup [.int x, .int y]) ∧ H u = some (.tup [.int p, .ref t]) ∧ H t = some (.tup [.int lo, .int hi]) ∧ Q (.bl (svI x y p lo hi)) H
theorem ok_serves (T : Tx K mg f_is_number f_is_position f_is_tuple_of f_is_interval f_ascending_error f_targets_error f_is_pieces f_has_position f_contains f_pieces_inside f_first_gap f_find_missing f_without_item f_with_interval f_without_interval f_edited_state f_depth_changes f_find_blocks f_serves f_conflict f_demands_at_blocks f_is_open f_open_demands f_shadow_target f_require_few_blocks f_decisive_demands f_largest_independent f_unserved_demands f_helpful_piece f_smallest_solution f_count_needed f_solve f_law_deck f_law_draw f_law_line f_law_interval f_law_intervals f_law_served f_law_options f_law_conflict f_law_most f_law_needed f_law_edit f_law_after f_law_do f_law_begun f_law_generated f_law_solution_right f_law f_Plan_init f_Plan_add_target f_Plan_add_piece f_Plan_remove_target f_Plan_remove_piece f_Plan_targets f_Plan_pieces f_Plan_needed f_Plan_solution f_Plan_missing f_Plan_edit f_Plan_record f_Plan_require_idle f_Plan_state_at f_Plan_len f_Plan_str f_Plan_eq C_Plan d_is_number d_is_position d_is_tuple_of d_is_interval d_ascending_error d_targets_error d_is_pieces d_has_position d_contains d_pieces_inside d_first_gap d_find_missing d_without_item d_with_interval d_without_interval d_edited_state d_depth_changes d_find_blocks d_serves d_conflict d_demands_at_blocks d_is_open d_open_demands d_shadow_target d_require_few_blocks d_decisive_demands d_largest_independent d_unserved_demands d_helpful_piece d_smallest_solution d_count_needed d_solve d_law_deck d_law_draw d_law_line d_law_interval d_law_intervals d_law_served d_law_options d_law_conflict d_law_most d_law_needed d_law_edit d_law_after d_law_do d_law_begun d_law_generated d_law_solution_right d_law d_Plan_init d_Plan_add_target d_Plan_add_piece d_Plan_remove_target d_Plan_remove_piece d_Plan_targets d_Plan_pieces d_Plan_needed d_Plan_solution d_Plan_missing d_Plan_edit d_Plan_record d_Plan_require_idle d_Plan_state_at d_Plan_len d_Plan_str d_Plan_eq t_LAST_POSITION t_MAX_TARGETS t_MAX_PIECES t_MAX_BLOCKS t_MAX_EDITS) : FnOk P w K mg base CX0 2 f_serves d_serves ["piece", "demand"] sp_serves := by
  refine T.F_serves.ok sc_serves (fun vs H Q E h => ?_) (fun cdv A outer s H vs Q E hr h => ?_)
  · obtain ⟨a, u, t, x, y, p, lo, hi, rfl, _⟩ := h
    rfl
  · obtain ⟨a, u, t, x, y, p, lo, hi, rfl, ha, hu, ht, q⟩ := h
    refine ⟨_, (pss_cons (ps_asg (pv 1) (pg_tup rfl (pgs_cons (pg_name (i := 2) sc_serves.nd rfl (Or.inl rfl)) (pgs_cons (pg_name (i := 3) sc_serves.nd rfl (Or.inl rfl)) pgs_nil))))
      (pss_one (ps_ret (pe_and (pe_call (ok_contains T) (hr.mono (by decide)) (by rfl) T.g_contains T.F_contains.kp T.b_contains .nil pass0 (pa_cons (pv 3) (pa_cons (pv 0) pa_nil))) (pe_one (pe_call (ok_has_position T) (hr.mono (by decide)) (by rfl) T.g_has_position T.F_has_position.kp T.b_has_position .nil pass0 (pa_cons (pv 0) (pa_cons (pv 2) pa_nil)))))))), ?_⟩
    unfold svI at q
    refine ⟨.ref u, rfl, u, _, rfl, SqT.of hu, rfl, .int p, [.ref t], rfl, .ref t, [], rfl, rfl, ?_⟩
    refine ⟨.ref t, rfl, .ref a, rfl, t, a, lo, hi, x, y, rfl, ht, ha, _, rfl, ite2 (fun e => ?_) (fun e => ?_)⟩
    · refine ⟨.ref a, rfl, .int p, rfl, a, x, y, p, rfl, ha, ?_⟩
      rw [e] at q
      exact q
    · rw [Bool.not_eq_true] at e
      rw [e] at q
      exact q

def strI (f s : Int) (p : Int × Int) : Int × Int := (p.1 * f + s, p.2 * f + f - 1 + s)

/-! ### blocks, position by position -/
def depI (row : List (Int × Int)) (p : Int) : Int := (row.map fun q => if q.1 ≤ p ∧ p ≤ q.2 then (1 : Int) else 0).sum
def delI (row : List (Int × Int)) (p : Int) : Int := (row.map fun q => (if q.1 = p then (1 : Int) else 0) - (if q.2 + 1 = p then 1 else 0)).sum
def Bd (row : List (Int × Int)) (p : Int) : Prop := ∃ q ∈ row, q.1 = p ∨ q.2 + 1 = p
def Good (row : List (Int × Int)) : Prop := ∀ q ∈ row, 0 ≤ q.1 ∧ q.1 ≤ q.2
instance (row : List (Int × Int)) (p : Int) : Decidable (Bd row p) := by
  unfold Bd
  infer_instance
theorem Good.tail {q : Int × Int} {row : List (Int × Int)} (g : Good (q :: row)) : Good row := fun x hx => g x (List.mem_cons_of_mem _ hx)
theorem dep_step : ∀ {row : List (Int × Int)}, Good row → ∀ p : Int, depI row p = depI row (p - 1) + delI row p
  | [], _, _ => rfl
  | q :: row, g, p => by
    have ih := dep_step g.tail p
    have z := g q List.mem_cons_self
    unfold depI delI at *
    simp only [List.map_cons, List.sum_cons]
    rw [ih]
    split <;> split <;> split <;> split <;> omega
theorem del_zero : ∀ {row : List (Int × Int)} {p : Int}, ¬ Bd row p → delI row p = 0
  | [], _, _ => rfl
  | q :: row, p, h => by
    have ih := del_zero (row := row) (p := p) fun ⟨x, hx, e⟩ => h ⟨x, List.mem_cons_of_mem _ hx, e⟩
    have n1 : ¬ q.1 = p := fun e => h ⟨q, List.mem_cons_self, .inl e⟩
    have n2 : ¬ q.2 + 1 = p := fun e => h ⟨q, List.mem_cons_self, .inr e⟩
    unfold delI at *
    simp only [List.map_cons, List.sum_cons]
    rw [ih, if_neg n1, if_neg n2]
    rfl
theorem dep_nonneg : ∀ (row : List (Int × Int)) (p : Int), 0 ≤ depI row p
  | [], _ => Int.le_refl _
  | q :: row, p => by
    have ih := dep_nonneg row p
    unfold depI at *
    simp only [List.map_cons, List.sum_cons]
    split <;> omega
theorem dep_pos : ∀ {row : List (Int × Int)} {p : Int}, 0 < depI row p ↔ ∃ q ∈ row, q.1 ≤ p ∧ p ≤ q.2
  | [], p => by
    constructor
    · intro h
      exact absurd h (by show ¬ (0 : Int) < 0; decide)
    · rintro ⟨q, h, _⟩
      cases h
  | q :: row, p => by
    have ih := dep_pos (row := row) (p := p)
    have nn := dep_nonneg row p
    have e : depI (q :: row) p = (if q.1 ≤ p ∧ p ≤ q.2 then (1 : Int) else 0) + depI row p := by
      unfold depI
      rw [List.map_cons, List.sum_cons]
    rw [e]
    by_cases h : q.1 ≤ p ∧ p ≤ q.2
    · rw [if_pos h]
      constructor
      · intro _
        exact ⟨q, List.mem_cons_self, h⟩
      · intro _
        omega
    · rw [if_neg h]
      constructor
      · intro z
        obtain ⟨x, hx, w⟩ := ih.mp (by omega)
        exact ⟨x, List.mem_cons_of_mem _ hx, w⟩
      · rintro ⟨x, hx, w⟩
        rcases List.mem_cons.mp hx with rfl | hx
        · exact absurd w h
        · have := ih.mpr ⟨x, hx, w⟩
          omega
theorem dep_zero {row : List (Int × Int)} {p : Int} (h : ∀ q ∈ row, p < q.1 ∨ q.2 < p) : depI row p = 0 := by
  have nn := dep_nonneg row p
  by_cases z : 0 < depI row p
  · obtain ⟨q, hq, w⟩ := dep_pos.mp z
    have := h q hq
    omega
  · omega
theorem dep_const {row : List (Int × Int)} (g : Good row) {a : Int} : ∀ k : Nat, (∀ j : Int, a < j → j ≤ a + k → ¬ Bd row j) → depI row (a + k) = depI row a
  | 0, _ => by
    rw [show a + ((0 : Nat) : Int) = a by omega]
  | k + 1, h => by
    have ih := dep_const g k fun j h1 h2 => h j h1 (by omega)
    rw [dep_step g, del_zero (h _ (by omega) (Int.le_refl _)), show a + ((k + 1 : Nat) : Int) - 1 = a + (k : Int) by omega, ih]
    omega
def extl (l : List (Int × Int)) (p : Int) : List (Int × Int) := l.dropLast ++ (l.getLast?.map fun q => (q.1, p)).toList
theorem extl_snoc (l : List (Int × Int)) (q : Int × Int) (p : Int) : extl (l ++ [q]) p = l ++ [(q.1, p)] := by
  unfold extl
  rw [List.dropLast_concat, List.getLast?_concat]
  rfl
theorem extl_nil (p : Int) : extl [] p = [] := rfl
theorem extl_extl (l : List (Int × Int)) (p r : Int) : extl (extl l p) r = extl l r := by
  rcases List.eq_nil_or_concat l with rfl | ⟨m, q, rfl⟩
  · rfl
  · rw [List.concat_eq_append, extl_snoc, extl_snoc, extl_snoc]
theorem extl_ne {l : List (Int × Int)} (h : l ≠ []) (p : Int) : extl l p ≠ [] := by
  rcases List.eq_nil_or_concat l with rfl | ⟨m, q, rfl⟩
  · exact absurd rfl h
  · rw [List.concat_eq_append, extl_snoc]
    exact List.append_ne_nil_of_right_ne_nil _ (List.cons_ne_nil _ _)
theorem extl_map (f : Int × Int → Int × Int) {l : List (Int × Int)} {p r : Int} (h : ∀ q : Int × Int, f (q.1, p) = ((f q).1, r)) : extl (l.map f) r = (extl l p).map f := by
  rcases List.eq_nil_or_concat l with rfl | ⟨m, q, rfl⟩
  · rfl
  · rw [List.concat_eq_append, extl_snoc, List.map_append, List.map_singleton, extl_snoc, List.map_append, List.map_singleton, h]
/-- the blocks of the positions below n -/
def Cb (row : List (Int × Int)) : Nat → List (Int × Int)
  | 0 => []
  | n + 1 => if 0 < depI row n then (if Bd row n then Cb row n ++ [((n : Int), (n : Int))] else extl (Cb row n) n) else Cb row n
theorem Cb_succ (row : List (Int × Int)) (n : Nat) : Cb row (n + 1) = if 0 < depI row n then (if Bd row n then Cb row n ++ [((n : Int), (n : Int))] else extl (Cb row n) n) else Cb row n := rfl
theorem Cb_seg {row : List (Int × Int)} (g : Good row) {a : Nat} : ∀ k : Nat, (∀ j : Int, (a : Int) < j → j ≤ a + k → ¬ Bd row j) →
    Cb row (a + k + 1) = if 0 < depI row a then (if Bd row a then Cb row a ++ [((a : Int), (a : Int) + k)] else extl (Cb row a) (a + k)) else Cb row a
  | 0, _ => by
    rw [Nat.add_zero, Cb_succ, show (a : Int) + ((0 : Nat) : Int) = a by omega]
  | k + 1, h => by
    have ih := Cb_seg g k fun j h1 h2 => h j h1 (by omega)
    have dc := dep_const g (k + 1) h
    have cast : (((a + (k + 1)) : Nat) : Int) = (a : Int) + ((k + 1 : Nat) : Int) := by omega
    rw [Cb_succ, cast, dc]
    by_cases hd : 0 < depI row a
    · rw [if_pos hd, if_neg (h _ (by omega) (Int.le_refl _)), show a + (k + 1) = a + k + 1 by omega, ih, if_pos hd]
      by_cases hb : Bd row a
      · rw [if_pos hb, if_pos hb, if_pos hd, extl_snoc]
      · rw [if_neg hb, if_neg hb, if_pos hd, extl_extl]
    · rw [if_neg hd, if_neg hd, show a + (k + 1) = a + k + 1 by omega, ih, if_neg hd]
theorem Cb_top {row : List (Int × Int)} {N : Nat} (h : ∀ q ∈ row, q.2 + 1 ≤ N) : ∀ k : Nat, Cb row (N + k) = Cb row N
  | 0 => rfl
  | k + 1 => by
    have z : depI row ((N + k : Nat) : Int) = 0 := dep_zero fun q hq => by
      have := h q hq
      omega
    rw [show N + (k + 1) = (N + k) + 1 by omega, Cb_succ, z, if_neg (by omega)]
    exact Cb_top h k
theorem Cb_low {row : List (Int × Int)} : ∀ {N : Nat}, (∀ q ∈ row, (N : Int) ≤ q.1) → Cb row N = []
  | 0, _ => rfl
  | N + 1, h => by
    have z : depI row (N : Int) = 0 := dep_zero fun q hq => by
      have := h q hq
      omega
    rw [Cb_succ, z, if_neg (by omega)]
    exact Cb_low fun q hq => by
      have := h q hq
      omega
def topN : List (Int × Int) → Nat
  | [] => 0
  | q :: r => max (q.2 + 1).toNat (topN r)
theorem topN_le : ∀ {row : List (Int × Int)} {q : Int × Int}, q ∈ row → q.2 + 1 ≤ topN row
  | r :: row, q, h => by
    rcases List.mem_cons.mp h with rfl | h
    · show q.2 + 1 ≤ ((max (q.2 + 1).toNat (topN row) : Nat) : Int)
      omega
    · have := topN_le h
      show q.2 + 1 ≤ ((max (r.2 + 1).toNat (topN row) : Nat) : Int)
      omega
def blocksOf (row : List (Int × Int)) : List (Int × Int) := Cb row (topN row)
theorem Cb_all {row : List (Int × Int)} {N : Nat} (h : ∀ q ∈ row, q.2 + 1 ≤ N) : Cb row N = blocksOf row := by
  unfold blocksOf
  rcases Nat.le_total N (topN row) with z | z
  · obtain ⟨k, e⟩ := Nat.le.dest z
    rw [← e, Cb_top h k]
  · obtain ⟨k, e⟩ := Nat.le.dest z
    rw [← e, Cb_top (fun q hq => topN_le hq) k]
theorem Cb_ne {row : List (Int × Int)} (g : Good row) : ∀ n : Nat, 0 < depI row n → Cb row (n + 1) ≠ []
  | 0, h => by
    obtain ⟨q, hq, w⟩ := dep_pos.mp h
    have z := g q hq
    have hb : Bd row ((0 : Nat) : Int) := ⟨q, hq, .inl (by omega)⟩
    rw [Cb_succ, if_pos h, if_pos hb]
    exact List.append_ne_nil_of_right_ne_nil _ (List.cons_ne_nil _ _)
  | n + 1, h => by
    rw [Cb_succ, if_pos h]
    by_cases hb : Bd row ((n + 1 : Nat) : Int)
    · rw [if_pos hb]
      exact List.append_ne_nil_of_right_ne_nil _ (List.cons_ne_nil _ _)
    · rw [if_neg hb]
      have e := dep_step g ((n + 1 : Nat) : Int)
      rw [del_zero hb, show ((n + 1 : Nat) : Int) - 1 = (n : Int) by omega] at e
      exact extl_ne (Cb_ne g n (by omega)) _
/-- the blocks of stretched intervals -/
theorem bd_str {row : List (Int × Int)} {f s : Int} {j : Int} : Bd (row.map (strI f s)) j ↔ ∃ b, Bd row b ∧ j = b * f + s := by
  constructor
  · rintro ⟨q, hq, h⟩
    obtain ⟨r, hr, rfl⟩ := List.mem_map.mp hq
    rcases h with h | h
    · exact ⟨r.1, ⟨r, hr, .inl rfl⟩, h.symm⟩
    · refine ⟨r.2 + 1, ⟨r, hr, .inr rfl⟩, ?_⟩
      rw [← h, Int.add_mul]
      show r.2 * f + f - 1 + s + 1 = r.2 * f + 1 * f + s
      omega
  · rintro ⟨b, ⟨r, hr, h⟩, rfl⟩
    refine ⟨strI f s r, List.mem_map.mpr ⟨r, hr, rfl⟩, ?_⟩
    rcases h with h | h
    · exact .inl (by rw [← h]; rfl)
    · refine .inr ?_
      rw [← h, Int.add_mul]
      show r.2 * f + f - 1 + s + 1 = r.2 * f + 1 * f + s
      omega
theorem mul_le_iff {a b f : Int} (hf : 0 < f) : a * f ≤ b * f ↔ a ≤ b := ⟨fun h => Int.le_of_mul_le_mul_right h hf, fun h => Int.mul_le_mul_of_nonneg_right h (by omega)⟩
theorem dep_str {f s : Int} (hf : 0 < f) : ∀ {row : List (Int × Int)} {N : Int}, depI (row.map (strI f s)) (N * f + s) = depI row N
  | [], _ => rfl
  | q :: row, N => by
    have ih := dep_str (s := s) hf (row := row) (N := N)
    have e1 := mul_le_iff (a := q.1) (b := N) hf
    have e2 := mul_le_iff (a := N) (b := q.2) hf
    have e3 : N * f ≤ q.2 * f + f - 1 ↔ N ≤ q.2 := by
      constructor
      · intro h
        by_cases z : N ≤ q.2
        · exact z
        · have w := (mul_le_iff (a := q.2 + 1) (b := N) hf).mpr (by omega)
          rw [Int.add_mul] at w
          omega
      · intro h
        have := e2.mpr h
        omega
    have c : (q.1 * f + s ≤ N * f + s ∧ N * f + s ≤ q.2 * f + f - 1 + s) ↔ (q.1 ≤ N ∧ N ≤ q.2) := by
      rw [← e1, ← e3]
      constructor
      · rintro ⟨h1, h2⟩
        exact ⟨by omega, by omega⟩
      · rintro ⟨h1, h2⟩
        exact ⟨by omega, by omega⟩
    unfold depI at *
    simp only [List.map_cons, List.sum_cons]
    rw [ih]
    congr 1
    show (if q.1 * f + s ≤ N * f + s ∧ N * f + s ≤ q.2 * f + f - 1 + s then (1 : Int) else 0) = _
    by_cases z : q.1 ≤ N ∧ N ≤ q.2
    · rw [if_pos z, if_pos (c.mpr z)]
    · rw [if_neg z, if_neg (fun w => z (c.mp w))]
theorem good_str {row : List (Int × Int)} (g : Good row) {f s : Int} (hf : 0 < f) (hs : 0 ≤ s) : Good (row.map (strI f s)) := by
  intro q hq
  obtain ⟨r, hr, rfl⟩ := List.mem_map.mp hq
  have z := g r hr
  have m1 := (mul_le_iff (a := 0) (b := r.1) hf).mpr z.1
  have m2 := (mul_le_iff (a := r.1) (b := r.2) hf).mpr z.2
  constructor
  · show 0 ≤ r.1 * f + s
    omega
  · show r.1 * f + s ≤ r.2 * f + f - 1 + s
    omega
theorem Cb_str {row : List (Int × Int)} (g : Good row) {f s : Int} (hf : 0 < f) (hs : 0 ≤ s) : ∀ N : Nat, Cb (row.map (strI f s)) ((N : Int) * f + s).toNat = (Cb row N).map (strI f s)
  | 0 => by
    have e : ((0 : Nat) : Int) * f + s = s := by
      rw [show ((0 : Nat) : Int) = 0 from rfl, Int.zero_mul]
      omega
    rw [e, Cb_low]
    · rfl
    · intro q hq
      obtain ⟨r, hr, rfl⟩ := List.mem_map.mp hq
      have z := g r hr
      have m1 := (mul_le_iff (a := 0) (b := r.1) hf).mpr z.1
      show ((s.toNat : Nat) : Int) ≤ r.1 * f + s
      omega
  | N + 1 => by
    have ih := Cb_str g hf hs N
    have nn := (mul_le_iff (a := 0) (b := N) hf).mpr (by omega)
    have cast : (((N : Int) * f + s).toNat : Int) = (N : Int) * f + s := by omega
    have e : (((N + 1 : Nat) : Int) * f + s).toNat = ((N : Int) * f + s).toNat + (f - 1).toNat + 1 := by
      have : ((N + 1 : Nat) : Int) * f = (N : Int) * f + f := by
        rw [show ((N + 1 : Nat) : Int) = (N : Int) + 1 by omega, Int.add_mul, Int.one_mul]
      omega
    have seg := Cb_seg (good_str g hf hs) (a := ((N : Int) * f + s).toNat) (f - 1).toNat (fun j h1 h2 hb => by
      obtain ⟨b, _, ej⟩ := bd_str.mp hb
      rw [cast] at h1 h2
      have l1 : (N : Int) < b := by
        by_cases z : b ≤ N
        · have := (mul_le_iff (a := b) (b := N) hf).mpr z
          omega
        · omega
      have := (mul_le_iff (a := (N : Int) + 1) (b := b) hf).mpr (by omega)
      rw [Int.add_mul] at this
      omega)
    have eb : Bd (row.map (strI f s)) ((N : Int) * f + s) ↔ Bd row N := by
      constructor
      · intro h
        obtain ⟨b, hb, ej⟩ := bd_str.mp h
        have : b = N := by
          rcases Int.lt_trichotomy b N with z | z | z
          · have := (mul_le_iff (a := b + 1) (b := N) hf).mpr (by omega)
            rw [Int.add_mul] at this
            omega
          · exact z
          · have := (mul_le_iff (a := (N : Int) + 1) (b := b) hf).mpr (by omega)
            rw [Int.add_mul] at this
            omega
        rw [← this]
        exact hb
      · intro h
        exact bd_str.mpr ⟨N, h, rfl⟩
    rw [e, seg, cast, dep_str hf, ih, Cb_succ]
    by_cases hd : 0 < depI row N
    · rw [if_pos hd, if_pos hd]
      have last : (N : Int) * f + s + ((f - 1).toNat : Int) = (N : Int) * f + f - 1 + s := by omega
      by_cases hb : Bd row N
      · rw [if_pos hb, if_pos (eb.mpr hb), List.map_append, List.map_singleton, last]
        rfl
      · rw [if_neg hb, if_neg (fun z => hb (eb.mp z)), last]
        exact extl_map (strI f s) fun q => rfl
    · rw [if_neg hd, if_neg hd]
theorem blocks_str {row : List (Int × Int)} (g : Good row) {f s : Int} (hf : 0 < f) (hs : 0 ≤ s) : blocksOf (row.map (strI f s)) = (blocksOf row).map (strI f s) := by
  rw [← Cb_all (row := row.map (strI f s)) (N := ((topN row : Int) * f + s).toNat)]
  · exact Cb_str g hf hs _
  · intro q hq
    obtain ⟨r, hr, rfl⟩ := List.mem_map.mp hq
    have z := topN_le hr
    have m := (mul_le_iff (a := r.2 + 1) (b := topN row) hf).mpr z
    have nn := (mul_le_iff (a := 0) (b := topN row) hf).mpr (by omega)
    rw [Int.add_mul] at m
    show r.2 * f + f - 1 + s + 1 ≤ ((((topN row : Int) * f + s).toNat : Nat) : Int)
    omega

/-! ### what the blocks are: ascending, apart, covering, begun at the borders that are covered -/
theorem extl_fst (l : List (Int × Int)) (p : Int) : (extl l p).map (·.1) = l.map (·.1) := by
  rcases List.eq_nil_or_concat l with rfl | ⟨m, q, rfl⟩
  · rfl
  · rw [List.concat_eq_append, extl_snoc, List.map_append, List.map_append]
    rfl
def stB (row : List (Int × Int)) (p : Nat) : Bool := decide (0 < depI row p) && decide (Bd row p)
structure Bl (row : List (Int × Int)) (N : Nat) (l : List (Int × Int)) : Prop where
  asc : l.Pairwise (fun a b => a.2 < b.1)
  ok : ∀ q ∈ l, 0 ≤ q.1 ∧ q.1 ≤ q.2 ∧ q.2 < N
  cov : ∀ p : Nat, p < N → (0 < depI row p ↔ ∃ q ∈ l, q.1 ≤ p ∧ (p : Int) ≤ q.2)
  fst : l.map (·.1) = ((List.range N).filter (stB row)).map (fun n : Nat => (n : Int))
theorem Cb_bl {row : List (Int × Int)} (g : Good row) : ∀ N : Nat, Bl row N (Cb row N)
  | 0 => ⟨.nil, (fun q hq => nomatch hq), (fun p hp => absurd hp (Nat.not_lt_zero p)), rfl⟩
  | n + 1 => by
    have ih := Cb_bl g n
    have fr : ((List.range (n + 1)).filter (stB row)).map (fun n : Nat => (n : Int)) = ((List.range n).filter (stB row)).map (fun n : Nat => (n : Int)) ++ (if stB row n then [(n : Int)] else []) := by
      rw [List.range_succ, List.filter_append, List.map_append]
      congr 1
      cases h : stB row n <;> simp [List.filter_cons, h]
    rw [Cb_succ]
    by_cases hd : 0 < depI row n
    · rw [if_pos hd]
      by_cases hb : Bd row n
      · rw [if_pos hb]
        refine ⟨?_, fun q hq => ?_, fun p hp => ?_, ?_⟩
        · refine List.pairwise_append.mpr ⟨ih.asc, List.pairwise_singleton _ _, fun a ha b hb2 => ?_⟩
          rw [List.mem_singleton.mp hb2]
          exact (ih.ok a ha).2.2
        · rcases List.mem_append.mp hq with hq | hq
          · have := ih.ok q hq
            exact ⟨this.1, this.2.1, by omega⟩
          · rw [List.mem_singleton.mp hq]
            refine ⟨?_, ?_, ?_⟩
            · show (0 : Int) ≤ (n : Int)
              omega
            · show (n : Int) ≤ (n : Int)
              omega
            · show (n : Int) < ((n + 1 : Nat) : Int)
              omega
        · rcases Nat.lt_or_ge p n with h | h
          · rw [ih.cov p h]
            constructor
            · rintro ⟨q, hq, w⟩
              exact ⟨q, List.mem_append_left _ hq, w⟩
            · rintro ⟨q, hq, w⟩
              rcases List.mem_append.mp hq with hq | hq
              · exact ⟨q, hq, w⟩
              · rw [List.mem_singleton.mp hq] at w
                have w1 : (n : Int) ≤ (p : Int) := w.1
                omega
          · have e : p = n := by omega
            subst e
            exact ⟨fun _ => ⟨((p : Int), (p : Int)), List.mem_append_right _ (List.mem_singleton.mpr rfl), Int.le_refl _, Int.le_refl _⟩, fun _ => hd⟩
        · rw [List.map_append, ih.fst, fr]
          have : stB row n = true := Bool.and_eq_true_iff.mpr ⟨decide_eq_true hd, decide_eq_true hb⟩
          rw [this]
          rfl
      · rw [if_neg hb]
        have sf : stB row n = false := by
          unfold stB
          rw [decide_eq_false hb, Bool.and_false]
        -- the last block ends just before n
        have e := dep_step g (n : Int)
        rw [del_zero hb] at e
        have n0 : 0 < n := by
          rcases Nat.eq_zero_or_pos n with z | z
          · subst z
            obtain ⟨q, hq, w⟩ := dep_pos.mp hd
            have := g q hq
            exact absurd ⟨q, hq, .inl (by omega)⟩ hb
          · exact z
        obtain ⟨k, rfl⟩ : ∃ k, n = k + 1 := ⟨n - 1, by omega⟩
        have dk : 0 < depI row k := by
          rw [show ((k + 1 : Nat) : Int) - 1 = (k : Int) by omega] at e
          omega
        obtain ⟨q, hq, w1, w2⟩ := (ih.cov k (by omega)).mp dk
        have oq := ih.ok q hq
        generalize Cb row (k + 1) = l at *
        rcases List.eq_nil_or_concat l with rfl | ⟨m, z, rfl⟩
        · cases hq
        · rw [List.concat_eq_append] at *
          rw [extl_snoc]
          have pa := List.pairwise_append.mp ih.asc
          have oz := ih.ok z (List.mem_append_right _ (List.mem_singleton.mpr rfl))
          have qz : q = z := by
            rcases List.mem_append.mp hq with h | h
            · have := pa.2.2 q h z (List.mem_singleton.mpr rfl)
              omega
            · exact List.mem_singleton.mp h
          subst qz
          have q2 : q.2 = (k : Int) := by omega
          refine ⟨?_, fun r hr => ?_, fun p hp => ?_, ?_⟩
          · refine List.pairwise_append.mpr ⟨pa.1, List.pairwise_singleton _ _, fun a ha b hb2 => ?_⟩
            rw [List.mem_singleton.mp hb2]
            exact pa.2.2 a ha q (List.mem_singleton.mpr rfl)
          · rcases List.mem_append.mp hr with hr | hr
            · have := ih.ok r (List.mem_append_left _ hr)
              exact ⟨this.1, this.2.1, by omega⟩
            · rw [List.mem_singleton.mp hr]
              refine ⟨oq.1, ?_, ?_⟩
              · show q.1 ≤ ((k + 1 : Nat) : Int)
                omega
              · show ((k + 1 : Nat) : Int) < ((k + 1 + 1 : Nat) : Int)
                omega
          · rcases Nat.lt_or_ge p (k + 1) with h | h
            · rw [ih.cov p h]
              constructor
              · rintro ⟨r, hr, w⟩
                rcases List.mem_append.mp hr with hr | hr
                · exact ⟨r, List.mem_append_left _ hr, w⟩
                · rw [List.mem_singleton.mp hr] at w
                  refine ⟨_, List.mem_append_right _ (List.mem_singleton.mpr rfl), w.1, ?_⟩
                  show (p : Int) ≤ ((k + 1 : Nat) : Int)
                  omega
              · rintro ⟨r, hr, w⟩
                rcases List.mem_append.mp hr with hr | hr
                · exact ⟨r, List.mem_append_left _ hr, w⟩
                · rw [List.mem_singleton.mp hr] at w
                  exact ⟨q, List.mem_append_right _ (List.mem_singleton.mpr rfl), w.1, by omega⟩
            · have e : p = k + 1 := by omega
              subst e
              refine ⟨fun _ => ⟨_, List.mem_append_right _ (List.mem_singleton.mpr rfl), ?_, ?_⟩, fun _ => hd⟩
              · show q.1 ≤ ((k + 1 : Nat) : Int)
                omega
              · exact Int.le_refl _
          · rw [fr, sf, ← ih.fst, List.map_append, List.map_append]
            simp
    · rw [if_neg hd]
      have sf : stB row n = false := by
        unfold stB
        rw [decide_eq_false hd, Bool.false_and]
      refine ⟨ih.asc, fun q hq => ?_, fun p hp => ?_, ?_⟩
      · have := ih.ok q hq
        exact ⟨this.1, this.2.1, by omega⟩
      · rcases Nat.lt_or_ge p n with h | h
        · exact ih.cov p h
        · have e : p = n := by omega
          subst e
          refine ⟨fun z => absurd z hd, ?_⟩
          rintro ⟨q, hq, w⟩
          have := (ih.ok q hq).2.2
          omega
      · rw [fr, sf, ih.fst]
        simp
theorem blocks_bl {row : List (Int × Int)} (g : Good row) : Bl row (topN row) (blocksOf row) := Cb_bl g _
def lowsOf (row : List (Int × Int)) : List Int := (blocksOf row).map (·.1)
def ixI (row : List (Int × Int)) (pos : Int) : Int := (((lowsOf row).filter fun c => decide (c ≤ pos)).length : Int) - 1
theorem cnt_at {pos : Int} : ∀ {l : List (Int × Int)} {j : Nat} {q : Int × Int}, l.Pairwise (fun a b => a.2 < b.1) → (∀ q ∈ l, q.1 ≤ q.2) → l[j]? = some q → q.1 ≤ pos → pos ≤ q.2 → ((l.map (·.1)).filter fun c => decide (c ≤ pos)).length = j + 1
  | [], _, _, _, _, e, _, _ => by simp at e
  | x :: r, 0, q, asc, ok, e, h1, h2 => by
    cases e
    have p := List.pairwise_cons.mp asc
    rw [List.map_cons, List.filter_cons, if_pos (decide_eq_true h1), List.length_cons]
    have nil : (r.map (·.1)).filter (fun c => decide (c ≤ pos)) = [] := by
      apply List.filter_eq_nil_iff.mpr
      intro c hc
      obtain ⟨y, hy, rfl⟩ := List.mem_map.mp hc
      have := p.1 y hy
      rw [decide_eq_true_eq]
      omega
    rw [nil]
    rfl
  | x :: r, j + 1, q, asc, ok, e, h1, h2 => by
    have p := List.pairwise_cons.mp asc
    have e' : r[j]? = some q := e
    have := p.1 q (List.mem_of_getElem? e')
    have := ok x List.mem_cons_self
    rw [List.map_cons, List.filter_cons, if_pos (decide_eq_true (by omega)), List.length_cons, cnt_at p.2 (fun z hz => ok z (List.mem_cons_of_mem _ hz)) e' h1 h2]
theorem ix_at {row : List (Int × Int)} (g : Good row) {pos : Int} {j : Nat} {q : Int × Int} (e : (blocksOf row)[j]? = some q) (h1 : q.1 ≤ pos) (h2 : pos ≤ q.2) : ixI row pos = j ∧ 0 < depI row pos := by
  have B := blocks_bl g
  have mq := List.mem_of_getElem? e
  have oq := B.ok q mq
  refine ⟨?_, ?_⟩
  · unfold ixI lowsOf
    rw [cnt_at B.asc (fun z hz => (B.ok z hz).2.1) e h1 h2]
    omega
  · obtain ⟨p, rfl⟩ : ∃ p : Nat, pos = p := ⟨pos.toNat, by omega⟩
    exact (B.cov p (by omega)).mpr ⟨q, mq, h1, h2⟩
theorem dep_in {row : List (Int × Int)} (g : Good row) {pos : Int} (h : 0 < depI row pos) : ∃ q ∈ blocksOf row, q.1 ≤ pos ∧ pos ≤ q.2 := by
  obtain ⟨r, hr, w⟩ := dep_pos.mp h
  have := g r hr
  have := topN_le hr
  obtain ⟨p, rfl⟩ : ∃ p : Nat, pos = p := ⟨pos.toNat, by omega⟩
  exact ((blocks_bl g).cov p (by omega)).mp h
theorem Bl.idx {row : List (Int × Int)} {N : Nat} {l : List (Int × Int)} (B : Bl row N l) {i j : Nat} {a b : Int × Int} (ij : i < j) (ea : l[i]? = some a) (eb : l[j]? = some b) : a.2 < b.1 := by
  obtain ⟨hi, rfl⟩ := List.getElem?_eq_some_iff.mp ea
  obtain ⟨hj, rfl⟩ := List.getElem?_eq_some_iff.mp eb
  exact List.pairwise_iff_getElem.mp B.asc i j hi hj ij
theorem low_at {row : List (Int × Int)} (g : Good row) {q : Int × Int} (hq : q ∈ row) : ∃ (j : Nat) (b : Int × Int), (blocksOf row)[j]? = some b ∧ b.1 = q.1 := by
  have B := blocks_bl g
  have gq := g q hq
  have tq := topN_le hq
  have d : 0 < depI row q.1 := dep_pos.mpr ⟨q, hq, Int.le_refl _, gq.2⟩
  have bd : Bd row q.1 := ⟨q, hq, .inl rfl⟩
  have m : q.1 ∈ (blocksOf row).map (·.1) := by
    rw [B.fst]
    refine List.mem_map.mpr ⟨q.1.toNat, List.mem_filter.mpr ⟨List.mem_range.mpr (by omega), ?_⟩, by omega⟩
    have c : ((q.1.toNat : Nat) : Int) = q.1 := by omega
    unfold stB
    rw [c]
    exact Bool.and_eq_true_iff.mpr ⟨decide_eq_true d, decide_eq_true bd⟩
  obtain ⟨b, hb, e⟩ := List.mem_map.mp m
  obtain ⟨j, ej⟩ := List.getElem?_of_mem hb
  exact ⟨j, b, ej, e⟩
/-- no border lies within a block -/
theorem Bl.inner {row : List (Int × Int)} {N : Nat} {l : List (Int × Int)} (B : Bl row N l) {q : Int × Int} (hq : q ∈ l) {p : Int} (h1 : q.1 < p) (h2 : p ≤ q.2) : ¬ Bd row p := by
  intro bd
  have oq := B.ok q hq
  have c : ((p.toNat : Nat) : Int) = p := by omega
  have d : 0 < depI row p := by
    have z := (B.cov p.toNat (by omega)).mpr ⟨q, hq, by omega, by omega⟩
    rw [c] at z
    exact z
  have m : p ∈ l.map (·.1) := by
    rw [B.fst]
    refine List.mem_map.mpr ⟨p.toNat, List.mem_filter.mpr ⟨List.mem_range.mpr (by omega), ?_⟩, by omega⟩
    unfold stB
    rw [c]
    exact Bool.and_eq_true_iff.mpr ⟨decide_eq_true d, decide_eq_true bd⟩
  obtain ⟨r, hr, e⟩ := List.mem_map.mp m
  obtain ⟨i, ei⟩ := List.getElem?_of_mem hq
  obtain ⟨j, ej⟩ := List.getElem?_of_mem hr
  rcases Nat.lt_trichotomy i j with z | z | z
  · have := B.idx z ei ej
    omega
  · subst z
    rw [ei] at ej
    cases ej
    omega
  · have := B.idx z ej ei
    have := B.ok r hr
    omega
theorem high_at {row : List (Int × Int)} (g : Good row) {q : Int × Int} (hq : q ∈ row) : ∃ (j : Nat) (b : Int × Int), (blocksOf row)[j]? = some b ∧ b.2 = q.2 ∧ b.1 ≤ q.2 := by
  have B := blocks_bl g
  have gq := g q hq
  obtain ⟨b, hb, w1, w2⟩ := dep_in g (dep_pos.mpr ⟨q, hq, gq.2, Int.le_refl _⟩)
  obtain ⟨j, ej⟩ := List.getElem?_of_mem hb
  refine ⟨j, b, ej, ?_, w1⟩
  rcases Int.lt_or_le q.2 b.2 with z | z
  · exact absurd ⟨q, hq, .inr rfl⟩ (B.inner hb (p := q.2 + 1) (by omega) (by omega))
  · omega
theorem nodup_sub {α : Type} [DecidableEq α] : ∀ {l m : List α}, l.Nodup → (∀ x ∈ l, x ∈ m) → l.length ≤ m.length
  | [], _, _, _ => Nat.zero_le _
  | a :: l, m, h, hs => by
    have hm := hs a List.mem_cons_self
    have h' := List.nodup_cons.mp h
    have ih := nodup_sub (l := l) (m := m.erase a) h'.2 (fun x hx => (List.mem_erase_of_ne (fun e => h'.1 (by rw [← e]; exact hx))).mpr (hs x (List.mem_cons_of_mem _ hx)))
    rw [List.length_erase_of_mem hm] at ih
    have := List.length_pos_of_mem hm
    rw [List.length_cons]
    omega
theorem blocks_few {row : List (Int × Int)} (g : Good row) : (blocksOf row).length ≤ 2 * row.length := by
  have B := blocks_bl g
  have nd : ((blocksOf row).map (·.1)).Nodup := by
    rw [B.fst]
    refine List.Pairwise.map _ (fun a b h e => h (Int.ofNat.inj e)) ((List.nodup_range).filter _)
  have z := nodup_sub (m := row.map (·.1) ++ row.map (fun q => q.2 + 1)) nd (fun c hc => by
    rw [B.fst] at hc
    obtain ⟨n, hn, rfl⟩ := List.mem_map.mp hc
    obtain ⟨q, hq, w⟩ := of_decide_eq_true (Bool.and_eq_true_iff.mp (List.mem_filter.mp hn).2).2
    rcases w with w | w
    · exact List.mem_append_left _ (List.mem_map.mpr ⟨q, hq, w⟩)
    · exact List.mem_append_right _ (List.mem_map.mpr ⟨q, hq, w⟩))
  rw [List.length_map, List.length_append, List.length_map, List.length_map] at z
  omega


/-! ### the program's find_blocks -/
structure Dd (row : List (Int × Int)) (kvs : List (Key × V)) : Prop where
  val : ∀ k : Int, valV kvs (Sum.inl k) = if Bd row k then some (.int (delI row k)) else none
  nd : (kvs.map (·.1)).Nodup
  keys : ∃ ks : List Int, kvs.map (·.1) = ks.map Sum.inl
  len : kvs.length ≤ 2 * row.length
theorem keys_put (kvs : List (Key × V)) (k : Key) (v : V) : ((putK kvs k v).map (·.1) = kvs.map (·.1) ∧ k ∈ kvs.map (·.1)) ∨ ((putK kvs k v).map (·.1) = kvs.map (·.1) ++ [k] ∧ k ∉ kvs.map (·.1)) := by
  cases e : valV kvs k with
  | none =>
    refine .inr ⟨?_, valV_not e⟩
    rw [putK_new v e, List.map_append]
    rfl
  | some u =>
    refine .inl ⟨?_, valV_in e⟩
    have h : (kvs.any fun kv => decide (kv.1 = k)) = true := by
      rw [valV_any, e]
      rfl
    unfold putK
    rw [if_pos h, List.map_map]
    apply List.map_congr_left
    intro p _
    show (if p.1 = k then (p.1, v) else p).1 = p.1
    split <;> rfl
theorem put_parts {kvs : List (Key × V)} {k : Int} {v : V} (nd : (kvs.map (·.1)).Nodup) (keys : ∃ ks : List Int, kvs.map (·.1) = ks.map Sum.inl) :
    ((putK kvs (Sum.inl k) v).map (·.1)).Nodup ∧ (∃ ks : List Int, (putK kvs (Sum.inl k) v).map (·.1) = ks.map Sum.inl) ∧ (putK kvs (Sum.inl k) v).length ≤ kvs.length + 1 := by
  obtain ⟨ks, ek⟩ := keys
  rcases keys_put kvs (Sum.inl k) v with ⟨e, _⟩ | ⟨e, hn⟩
  · refine ⟨by rw [e]; exact nd, ⟨ks, by rw [e, ek]⟩, ?_⟩
    have l := congrArg List.length e
    rw [List.length_map, List.length_map] at l
    omega
  · refine ⟨?_, ⟨ks ++ [k], by rw [e, ek, List.map_append]; rfl⟩, ?_⟩
    · rw [e]
      exact List.nodup_append.mpr ⟨nd, by simp, fun a ha b hb z => hn (by rw [List.mem_singleton.mp hb] at z; rw [← z]; exact ha)⟩
    · have l := congrArg List.length e
      rw [List.length_map, List.length_append, List.length_map] at l
      simp at l
      omega
theorem bd_snoc {row : List (Int × Int)} {q : Int × Int} {k : Int} : Bd (row ++ [q]) k ↔ Bd row k ∨ q.1 = k ∨ q.2 + 1 = k := by
  constructor
  · rintro ⟨x, hx, h⟩
    rcases List.mem_append.mp hx with hx | hx
    · exact .inl ⟨x, hx, h⟩
    · rw [List.mem_singleton.mp hx] at h
      exact .inr h
  · rintro (⟨x, hx, h⟩ | h)
    · exact ⟨x, List.mem_append_left _ hx, h⟩
    · exact ⟨q, List.mem_append_right _ (List.mem_singleton.mpr rfl), h⟩
theorem del_snoc (row : List (Int × Int)) (q : Int × Int) (k : Int) : delI (row ++ [q]) k = delI row k + ((if q.1 = k then (1 : Int) else 0) - (if q.2 + 1 = k then 1 else 0)) := by
  unfold delI
  rw [List.map_append, List.sum_append, List.map_singleton, List.sum_singleton]
theorem Dd.get {row : List (Int × Int)} {kvs : List (Key × V)} (h : Dd row kvs) (k : Int) : (valV kvs (Sum.inl k)).getD (.int 0) = .int (delI row k) := by
  rw [h.val]
  by_cases b : Bd row k
  · rw [if_pos b]
    rfl
  · rw [if_neg b, del_zero b]
    rfl
theorem Dd.step {row : List (Int × Int)} {kvs : List (Key × V)} (h : Dd row kvs) {x y : Int} (xy : x ≤ y) :
    Dd (row ++ [(x, y)]) (putK (putK kvs (Sum.inl x) (.int (delI row x + 1))) (Sum.inl (y + 1)) (.int (delI row (y + 1) - 1))) := by
  obtain ⟨n1, k1, l1⟩ := put_parts (k := x) (v := .int (delI row x + 1)) h.nd h.keys
  obtain ⟨n2, k2, l2⟩ := put_parts (k := y + 1) (v := .int (delI row (y + 1) - 1)) n1 k1
  refine ⟨fun k => ?_, n2, k2, ?_⟩
  · rw [valV_put, valV_put, h.val]
    by_cases e1 : k = y + 1
    · have b : Bd (row ++ [(x, y)]) k := bd_snoc.mpr (.inr (.inr e1.symm))
      rw [if_pos (by rw [e1]), if_pos b, del_snoc, e1, if_neg (show ¬ x = y + 1 by omega), if_pos rfl]
      congr 2
    · rw [if_neg (fun z => e1 (Sum.inl.inj z))]
      by_cases e2 : k = x
      · have b : Bd (row ++ [(x, y)]) k := bd_snoc.mpr (.inr (.inl e2.symm))
        rw [if_pos (by rw [e2]), if_pos b, del_snoc, e2, if_pos rfl, if_neg (show ¬ y + 1 = x by omega)]
        congr 2
      · rw [if_neg (fun z => e2 (Sum.inl.inj z))]
        have same : delI (row ++ [(x, y)]) k = delI row k := by
          rw [del_snoc, if_neg (fun z => e2 z.symm), if_neg (fun z => e1 z.symm)]
          omega
        by_cases b : Bd row k
        · rw [if_pos b, if_pos (bd_snoc.mpr (.inl b)), same]
        · rw [if_neg b, if_neg (fun z => (bd_snoc.mp z).elim b (fun w => w.elim (fun w => e2 w.symm) (fun w => e1 w.symm)))]
  · rw [List.length_append, List.length_singleton]
    have := h.len
    omega
def sp_depth_changes : Sp := fun vs H Q _ => ∃ (a : Addr) (us : List V) (row : List (Int × Int)), vs = [.ref a] ∧ H a = some (.tup us) ∧ Ivs H us row ∧ (∀ q ∈ row, q.1 ≤ q.2) ∧ row.length ≤ 100 ∧
  ∀ H' p kvs, Same H H' → H p = none → H' p = some (.dK kvs) → Dd row kvs → Q (.ref p) H'
theorem ok_depth_changes (T : Tx K mg f_is_number f_is_position f_is_tuple_of f_is_interval f_ascending_error f_targets_error f_is_pieces f_has_position f_contains f_pieces_inside f_first_gap f_find_missing f_without_item f_with_interval f_without_interval f_edited_state f_depth_changes f_find_blocks f_serves f_conflict f_demands_at_blocks f_is_open f_open_demands f_shadow_target f_require_few_blocks f_decisive_demands f_largest_independent f_unserved_demands f_helpful_piece f_smallest_solution f_count_needed f_solve f_law_deck f_law_draw f_law_line f_law_interval f_law_intervals f_law_served f_law_options f_law_conflict f_law_most f_law_needed f_law_edit f_law_after f_law_do f_law_begun f_law_generated f_law_solution_right f_law f_Plan_init f_Plan_add_target f_Plan_add_piece f_Plan_remove_target f_Plan_remove_piece f_Plan_targets f_Plan_pieces f_Plan_needed f_Plan_solution f_Plan_missing f_Plan_edit f_Plan_record f_Plan_require_idle f_Plan_state_at f_Plan_len f_Plan_str f_Plan_eq C_Plan d_is_number d_is_position d_is_tuple_of d_is_interval d_ascending_error d_targets_error d_is_pieces d_has_position d_contains d_pieces_inside d_first_gap d_find_missing d_without_item d_with_interval d_without_interval d_edited_state d_depth_changes d_find_blocks d_serves d_conflict d_demands_at_blocks d_is_open d_open_demands d_shadow_target d_require_few_blocks d_decisive_demands d_largest_independent d_unserved_demands d_helpful_piece d_smallest_solution d_count_needed d_solve d_law_deck d_law_draw d_law_line d_law_interval d_law_intervals d_law_served d_law_options d_law_conflict d_law_most d_law_needed d_law_edit d_law_after d_law_do d_law_begun d_law_generated d_law_solution_right d_law d_Plan_init d_Plan_add_target d_Plan_add_piece d_Plan_remove_target d_Plan_remove_piece d_Plan_targets d_Plan_pieces d_Plan_needed d_Plan_solution d_Plan_missing d_Plan_edit d_Plan_record d_Plan_require_idle d_Plan_state_at d_Plan_len d_Plan_str d_Plan_eq t_LAST_POSITION t_MAX_TARGETS t_MAX_PIECES t_MAX_BLOCKS t_MAX_EDITS) : FnOk P w K mg base CX0 1 f_depth_changes d_depth_changes ["intervals"] sp_depth_changes := by
  refine T.F_depth_changes.ok sc_depth_changes (fun vs H Q E h => ?_) (fun cdv A outer s H vs Q E hr h => ?_)
  · obtain ⟨a, us, row, rfl, _⟩ := h
    rfl
  · obtain ⟨a, us, row, rfl, ha, iv, xy, few, q⟩ := h
    refine ⟨_, (pss_cons (ps_set (i := 1) sc_depth_changes.nd rfl (Or.inl rfl) pe_dnewK)
      (pss_cons (ps_for PassesOwn.never rfl (pi_tup (pv 0)) (pg_tup rfl (pgs_cons (pg_name (i := 2) sc_depth_changes.nd rfl (Or.inl rfl)) (pgs_cons (pg_name (i := 3) sc_depth_changes.nd rfl (Or.inl rfl)) pgs_nil)))
      (pss_cons (ps_dput (hu_of hr) (pv 1) (pv 2) (pe_op op_add (pe_dget2 (hu_of hr) (pv 1) (pv 2) pe_int ⟨rfl, rfl, rfl, rfl⟩) pe_int) rfl)
      (pss_one (ps_dput (hu_of hr) (pv 1) (pe_op op_add (pv 3) pe_int) (pe_op op_sub (pe_dget2 (hu_of hr) (pv 1) (pe_op op_add (pv 3) pe_int) pe_int ⟨rfl, rfl, rfl, rfl⟩) pe_int) rfl))))
      (pss_one (ps_ret (pv 1))))), ?_⟩
    refine fun p np => ?_
    refine ⟨.ref a, rfl, a, rfl, ⟨_, SqT.of (same_new np _ _ ha)⟩, for_tup (K := K) (a := a) (xs := us) (fun i σ H' => Same H H' ∧ (∃ kvs, H' p = some (.dK kvs) ∧ Dd (row.take i) kvs) ∧ ∃ y2 y3, σ = [some (.ref a), some (.ref p), y2, y3])
      ⟨same_new np, ⟨[], upd_same, ⟨fun k => rfl, List.nodup_nil, ⟨[], rfl⟩, Nat.zero_le _⟩⟩, _, _, rfl⟩ (fun i σ H' _ h => SqT.of (h.1 _ _ ha)) ?_ ?_⟩
    · rintro i v σ H1 hi ⟨sm, ⟨kvs, ep, dd⟩, y2, y3, rfl⟩
      obtain ⟨b, x, y, rfl, er, eb⟩ := iv.get hi
      have le := xy _ (List.mem_of_getElem? er)
      have lt := List.length_take_le' i row
      have len := dd.len
      refine ⟨b, _, rfl, SqT.of (sm _ _ eb), rfl, .int x, [.int y], rfl, .int y, [], rfl, rfl, ?_⟩
      refine ⟨.ref p, rfl, p, rfl, .inl ⟨kvs, .inl ep⟩, .int x, rfl, _, DGet.k (k := Sum.inl x) ep, _, _, dd.get x, rfl, .ref p, rfl, .int x, rfl, p, _, rfl, DPut.k (k := Sum.inl x) ep (small1000 (by omega)), ?_⟩
      have e1 := upd_same (H := H1) (a := p) (o := .dK (putK kvs (Sum.inl x) (.int (delI (row.take i) x + 1))))
      have g1 : (valV (putK kvs (Sum.inl x) (.int (delI (row.take i) x + 1))) (Sum.inl (y + 1))).getD (.int 0) = .int (delI (row.take i) (y + 1)) := by
        rw [valV_put, if_neg (fun z => by
          have z' := Sum.inl.inj z
          have le' : x ≤ y := le
          omega)]
        exact dd.get (y + 1)
      obtain ⟨_, _, l1⟩ := put_parts (k := x) (v := .int (delI (row.take i) x + 1)) dd.nd dd.keys
      refine ⟨.ref p, rfl, p, rfl, .inl ⟨_, .inl e1⟩, .int y, rfl, _, _, rfl, rfl, _, DGet.k (k := Sum.inl (y + 1)) e1, _, _, g1, rfl, .ref p, rfl, .int y, rfl, _, _, rfl, rfl, p, _, rfl, DPut.k (k := Sum.inl (y + 1)) e1 (small1000 (by omega)), ?_⟩
      refine ⟨fun b' o eb' => ?_, ⟨_, upd_same, ?_⟩, _, _, rfl⟩
      · have nb := ne_of_none eb' np
        rw [upd_ne nb, upd_ne nb]
        exact sm _ _ eb'
      · rw [List.take_add_one, er]
        exact dd.step le
    · rintro σ H1 ⟨sm, ⟨kvs, ep, dd⟩, y2, y3, rfl⟩
      rw [iv.length, List.take_length] at dd
      exact ⟨.ref p, rfl, q _ p kvs sm np ep dd⟩

structure Bs (row : List (Int × Int)) (bs : List Int) : Prop where
  mem : ∀ k, k ∈ bs ↔ Bd row k
  srt : bs.Pairwise (· < ·)
theorem Bs.lt {row : List (Int × Int)} {bs : List Int} (h : Bs row bs) {i j : Nat} {a b : Int} (ij : i < j) (ea : bs[i]? = some a) (eb : bs[j]? = some b) : a < b := by
  obtain ⟨hi, rfl⟩ := List.getElem?_eq_some_iff.mp ea
  obtain ⟨hj, rfl⟩ := List.getElem?_eq_some_iff.mp eb
  exact List.pairwise_iff_getElem.mp h.srt i j hi hj ij
theorem Bs.gap {row : List (Int × Int)} {bs : List Int} (h : Bs row bs) {i : Nat} {a b : Int} (ea : bs[i]? = some a) (eb : bs[i + 1]? = some b) : ∀ j : Int, a < j → j < b → ¬ Bd row j := by
  intro j h1 h2 hb
  obtain ⟨m, hm⟩ := List.getElem?_of_mem ((h.mem j).mpr hb)
  rcases Nat.lt_trichotomy m i with z | z | z
  · have := h.lt z hm ea
    omega
  · subst z
    rw [ea] at hm
    cases hm
    omega
  · rcases Nat.lt_or_ge (i + 1) m with z2 | z2
    · have := h.lt z2 eb hm
      omega
    · have z3 : m = i + 1 := by omega
      subst z3
      rw [eb] at hm
      cases hm
      omega
theorem Bs.first {row : List (Int × Int)} {bs : List Int} (h : Bs row bs) {a : Int} (ea : bs[0]? = some a) {k : Int} (hb : Bd row k) : a ≤ k := by
  obtain ⟨m, hm⟩ := List.getElem?_of_mem ((h.mem k).mpr hb)
  rcases Nat.lt_or_ge 0 m with z | z
  · have := h.lt z ea hm
    omega
  · have z2 : m = 0 := by omega
    subst z2
    rw [ea] at hm
    cases hm
    exact Int.le_refl _
theorem Bs.last {row : List (Int × Int)} {bs : List Int} (h : Bs row bs) {i : Nat} {a : Int} (ea : bs[i]? = some a) (hi : i + 1 = bs.length) {k : Int} (hb : Bd row k) : k ≤ a := by
  obtain ⟨m, hm⟩ := List.getElem?_of_mem ((h.mem k).mpr hb)
  have hl := (List.getElem?_eq_some_iff.mp hm).1
  rcases Nat.lt_or_ge m i with z | z
  · have := h.lt z hm ea
    omega
  · have z2 : m = i := by omega
    subst z2
    rw [ea] at hm
    cases hm
    exact Int.le_refl _
theorem Dd.bs {row : List (Int × Int)} {kvs : List (Key × V)} (dd : Dd row kvs) {ks bs : List Int} (ek : kvs.map (·.1) = ks.map Sum.inl) (perm : bs.Perm ks) (srt : bs.Pairwise (· ≤ ·)) : Bs row bs := by
  have ndk : ks.Nodup := by
    have z := dd.nd
    rw [ek] at z
    exact List.Pairwise.of_map Sum.inl (fun a b h e => h (by rw [e])) z
  have ndb : bs.Nodup := perm.nodup_iff.mpr ndk
  refine ⟨fun k => ?_, ?_⟩
  · rw [perm.mem_iff]
    constructor
    · intro hk
      have hm : (Sum.inl k : Key) ∈ kvs.map (·.1) := by
        rw [ek]
        exact List.mem_map.mpr ⟨k, hk, rfl⟩
      by_cases b : Bd row k
      · exact b
      · have v := dd.val k
        rw [if_neg b] at v
        exact absurd hm (valV_not v)
    · intro b
      have v := dd.val k
      rw [if_pos b] at v
      have hm := valV_in v
      rw [ek] at hm
      obtain ⟨j, hj, e⟩ := List.mem_map.mp hm
      rw [← Sum.inl.inj e]
      exact hj
  · refine (srt.and ndb).imp fun {a b} h => ?_
    have h1 := h.1
    have h2 := h.2
    omega
theorem Cb_next {row : List (Int × Int)} (g : Good row) {bs : List Int} (h : Bs row bs) {i : Nat} {a b : Int} (ea : bs[i]? = some a) (eb : bs[i + 1]? = some b) (a0 : 0 ≤ a) :
    Cb row b.toNat = (if 0 < depI row a then Cb row a.toNat ++ [(a, b - 1)] else Cb row a.toNat) ∧ depI row (b - 1) = depI row a := by
  have ab := h.lt (Nat.lt_succ_self i) ea eb
  have gap := h.gap ea eb
  have hb : Bd row a := (h.mem a).mp (List.mem_of_getElem? ea)
  have ca : ((a.toNat : Nat) : Int) = a := by omega
  have seg := Cb_seg g (a := a.toNat) (b - a - 1).toNat (fun j h1 h2 => gap j (by omega) (by omega))
  have e : a.toNat + (b - a - 1).toNat + 1 = b.toNat := by omega
  rw [e, ca, if_pos hb, show a + ((b - a - 1).toNat : Int) = b - 1 by omega] at seg
  refine ⟨seg, ?_⟩
  have dc := dep_const g (a := a) (b - a - 1).toNat (fun j h1 h2 => gap j h1 (by omega))
  rw [show a + ((b - a - 1).toNat : Int) = b - 1 by omega] at dc
  exact dc
def atB (row : List (Int × Int)) (bs : List Int) (i : Nat) : List (Int × Int) := match bs[i]? with
  | some b => Cb row b.toNat
  | none => []
def depB (row : List (Int × Int)) (bs : List Int) (i : Nat) : Int := match bs[i]? with
  | some b => depI row (b - 1)
  | none => 0
theorem atB_some {row : List (Int × Int)} {bs : List Int} {i : Nat} {b : Int} (e : bs[i]? = some b) : atB row bs i = Cb row b.toNat := by
  unfold atB
  rw [e]
theorem depB_some {row : List (Int × Int)} {bs : List Int} {i : Nat} {b : Int} (e : bs[i]? = some b) : depB row bs i = depI row (b - 1) := by
  unfold depB
  rw [e]
theorem atB_start {row : List (Int × Int)} (g : Good row) {bs : List Int} (h : Bs row bs) : atB row bs 0 = [] ∧ depB row bs 0 = 0 := by
  cases e : bs[0]? with
  | none =>
    unfold atB depB
    rw [e]
    exact ⟨rfl, rfl⟩
  | some b =>
    rw [atB_some e, depB_some e]
    have low : ∀ q ∈ row, b ≤ q.1 := fun q hq => h.first e ⟨q, hq, .inl rfl⟩
    have b0 : 0 ≤ b := by
      obtain ⟨q, hq, w⟩ := (h.mem b).mp (List.mem_of_getElem? e)
      have := g q hq
      omega
    refine ⟨Cb_low fun q hq => ?_, dep_zero fun q hq => .inl ?_⟩
    · have := low q hq
      omega
    · have := low q hq
      omega
theorem atB_end {row : List (Int × Int)} (g : Good row) {bs : List Int} (h : Bs row bs) {i : Nat} (hi : i = bs.length - 1) : atB row bs i = blocksOf row := by
  cases e : bs[i]? with
  | none =>
    have le := List.getElem?_eq_none_iff.mp e
    have nil : bs = [] := by
      cases bs with
      | nil => rfl
      | cons x r =>
        rw [List.length_cons] at hi le
        omega
    have rn : row = [] := by
      cases row with
      | nil => rfl
      | cons q r =>
        have z := (h.mem q.1).mpr ⟨q, List.mem_cons_self, .inl rfl⟩
        rw [nil] at z
        cases z
    unfold atB
    rw [e, rn]
    rfl
  | some b =>
    have lt := (List.getElem?_eq_some_iff.mp e).1
    rw [atB_some e]
    apply Cb_all
    intro q hq
    have := h.last e (by omega) ⟨q, hq, .inr rfl⟩
    omega
/-- few enough keys -/
def FewK (row : List (Int × Int)) : Prop := row.length ≤ 31 ∨ (row.length ≤ 60 ∧ ∃ L : List Int, L.length < 64 ∧ ∀ q ∈ row, q.1 ∈ L ∧ q.2 + 1 ∈ L)
theorem FewK.le {row : List (Int × Int)} (h : FewK row) : row.length ≤ 60 := by
  rcases h with h | h
  · omega
  · exact h.1
theorem FewK.ks {row : List (Int × Int)} (h : FewK row) {kvs : List (Key × V)} (dd : Dd row kvs) {ks : List Int} (ek : kvs.map (·.1) = ks.map Sum.inl) : ks.length < 64 := by
  rcases h with h | ⟨_, L, hl, h⟩
  · have dl := dd.len
    have z := congrArg List.length ek
    rw [List.length_map, List.length_map] at z
    omega
  · have ndk : ks.Nodup := by
      have z := dd.nd
      rw [ek] at z
      exact List.Pairwise.of_map Sum.inl (fun a b h e => h (by rw [e])) z
    refine Nat.lt_of_le_of_lt (nodup_le ndk fun k hk => ?_) hl
    have hm : (Sum.inl k : Key) ∈ kvs.map (·.1) := by
      rw [ek]
      exact List.mem_map.mpr ⟨k, hk, rfl⟩
    by_cases b : Bd row k
    · obtain ⟨q, hq, e⟩ := b
      rcases e with e | e
      · rw [← e]
        exact (h q hq).1
      · rw [← e]
        exact (h q hq).2
    · have v := dd.val k
      rw [if_neg b] at v
      exact absurd hm (valV_not v)
def sp_find_blocks : Sp := fun vs H Q _ => ∃ (a : Addr) (us : List V) (row : List (Int × Int)), vs = [.ref a] ∧ H a = some (.tup us) ∧ Ivs H us row ∧ Good row ∧ FewK row ∧
  ∀ H' p ws, Same H H' → H' p = some (.tup ws) → Ivs H' ws (blocksOf row) → Q (.ref p) H'
theorem cutFrom1 (xs : List V) : cutV xs (some 1) none = xs.drop 1 := by
  unfold cutV
  rw [show HT.sIx xs.length 0 (some 1) = min 1 xs.length from HT.sIx_nat xs.length 0 1, HT.sIx_none]
  cases xs with
  | nil => rfl
  | cons x r =>
    rw [List.length_cons, show min 1 (r.length + 1) = 1 by omega]
    show List.take (r.length + 1 - 1) r = r
    rw [Nat.add_sub_cancel]
    exact List.take_length
theorem ok_find_blocks (T : Tx K mg f_is_number f_is_position f_is_tuple_of f_is_interval f_ascending_error f_targets_error f_is_pieces f_has_position f_contains f_pieces_inside f_first_gap f_find_missing f_without_item f_with_interval f_without_interval f_edited_state f_depth_changes f_find_blocks f_serves f_conflict f_demands_at_blocks f_is_open f_open_demands f_shadow_target f_require_few_blocks f_decisive_demands f_largest_independent f_unserved_demands f_helpful_piece f_smallest_solution f_count_needed f_solve f_law_deck f_law_draw f_law_line f_law_interval f_law_intervals f_law_served f_law_options f_law_conflict f_law_most f_law_needed f_law_edit f_law_after f_law_do f_law_begun f_law_generated f_law_solution_right f_law f_Plan_init f_Plan_add_target f_Plan_add_piece f_Plan_remove_target f_Plan_remove_piece f_Plan_targets f_Plan_pieces f_Plan_needed f_Plan_solution f_Plan_missing f_Plan_edit f_Plan_record f_Plan_require_idle f_Plan_state_at f_Plan_len f_Plan_str f_Plan_eq C_Plan d_is_number d_is_position d_is_tuple_of d_is_interval d_ascending_error d_targets_error d_is_pieces d_has_position d_contains d_pieces_inside d_first_gap d_find_missing d_without_item d_with_interval d_without_interval d_edited_state d_depth_changes d_find_blocks d_serves d_conflict d_demands_at_blocks d_is_open d_open_demands d_shadow_target d_require_few_blocks d_decisive_demands d_largest_independent d_unserved_demands d_helpful_piece d_smallest_solution d_count_needed d_solve d_law_deck d_law_draw d_law_line d_law_interval d_law_intervals d_law_served d_law_options d_law_conflict d_law_most d_law_needed d_law_edit d_law_after d_law_do d_law_begun d_law_generated d_law_solution_right d_law d_Plan_init d_Plan_add_target d_Plan_add_piece d_Plan_remove_target d_Plan_remove_piece d_Plan_targets d_Plan_pieces d_Plan_needed d_Plan_solution d_Plan_missing d_Plan_edit d_Plan_record d_Plan_require_idle d_Plan_state_at d_Plan_len d_Plan_str d_Plan_eq t_LAST_POSITION t_MAX_TARGETS t_MAX_PIECES t_MAX_BLOCKS t_MAX_EDITS) : FnOk P w K mg base CX0 2 f_find_blocks d_find_blocks ["intervals"] sp_find_blocks := by
  refine T.F_find_blocks.ok sc_find_blocks (fun vs H Q E h => ?_) (fun cdv A outer s H vs Q E hr h => ?_)
  · obtain ⟨a, us, row, rfl, _⟩ := h
    rfl
  · obtain ⟨a, us, row, rfl, ha, iv, good, few, q⟩ := h
    refine ⟨_, (pss_cons (ps_set (i := 1) sc_find_blocks.nd rfl (Or.inl rfl) (pe_call (ok_depth_changes T) (hr.mono (by decide)) (by rfl) T.g_depth_changes T.F_depth_changes.kp T.b_depth_changes .nil pass0 (pa_cons (pv 0) pa_nil)))
      (pss_cons (ps_set (i := 2) sc_find_blocks.nd rfl (Or.inl rfl) (pe_callB (call_sortedDI rfl) (by rfl) T.z_sorted (by decide +kernel) (pa_cons (pv 1) pa_nil)))
      (pss_cons (ps_set (i := 3) sc_find_blocks.nd rfl (Or.inl rfl) (pe_lst pa_nil))
      (pss_cons (ps_set (i := 4) sc_find_blocks.nd rfl (Or.inl rfl) pe_int)
      (pss_cons (ps_for PassesOwn.never rfl (pi_zip (by rfl) T.z_zip (pa_cons (pv 2) (pa_cons (pe_slice sl_list (pv 2) (po_some pe_int) po_none) pa_nil))) (pg_tup rfl (pgs_cons (pg_name (i := 5) sc_find_blocks.nd rfl (Or.inl rfl)) (pgs_cons (pg_name (i := 6) sc_find_blocks.nd rfl (Or.inl rfl)) pgs_nil)))
      (pss_cons (ps_aug (i := 4) sc_find_blocks.nd rfl (Or.inl rfl) (pe_dget (hu_of hr) (pv 1) (pv 5) (fun _ _ => rfl)) ip_add)
      (pss_one (ps_if (pt_cmpR op_gt (pv 4) pe_int (nomark _))
      (pss_one (ps_expr (pe_bm PySem.F.plainAttrs_list PySem.F.slot_list_append PySem.F.type_list_append mt_append (pv 3) (pa_cons (pe_tup (pa_cons (pv 5) (pa_cons (pe_op op_sub (pv 6) pe_int) pa_nil))) pa_nil))))
      pss_nil))))
      (pss_one (ps_ret (pe_callTy call_tuple_of (by rfl) T.z_tuple (by decide +kernel) (pa_cons (pv 3) pa_nil))))))))), ?_⟩
    refine ⟨.ref a, rfl, a, us, row, rfl, ha, iv, fun x hx => (good x hx).2, Nat.le_trans few.le (by decide), fun H1 pc kvs s1 npc ec dd => ?_⟩
    obtain ⟨ks, ek⟩ := dd.keys
    have lk : kvs.length = ks.length := by
      have z := congrArg List.length ek
      rw [List.length_map, List.length_map] at z
      exact z
    have dl := dd.len
    have few60 := few.le
    refine ⟨.ref pc, rfl, pc, kvs, ks, rfl, .inl ec, ek, few.ks dd ek, fun bs pb perm srt npb => ?_⟩
    have hB := dd.bs ek perm srt
    have lb : bs.length = ks.length := perm.length_eq
    have s2 := same_new (o := .lst (bs.map V.int)) npb
    have eb := upd_same (H := H1) (a := pb) (o := .lst (bs.map V.int))
    generalize upd H1 pb (.lst (bs.map V.int)) = H2 at *
    refine ⟨by show 0 ≤ sizeLine; decide, fun pl npl => ?_⟩
    have nbl : pb ≠ pl := ne_of_none eb npl
    have ncl : pc ≠ pl := ne_of_none (s2 _ _ ec) npl
    have npl0 : H pl = none := (s1.trans s2).free npl
    have s3 := same_new (o := .lst []) npl
    have el := upd_same (H := H2) (a := pl) (o := .lst [])
    generalize upd H2 pl (.lst []) = H3 at *
    refine ⟨.ref pb, rfl, .ref pb, rfl, 1, rfl, pb, _, rfl, SqL.of (s3 _ _ eb), fun pz npz => ?_⟩
    rw [cutFrom1]
    have nlz : pl ≠ pz := ne_of_none el npz
    have s4 := same_new (o := .lst ((bs.map V.int).drop 1)) npz
    have ez := upd_same (H := H3) (a := pz) (o := .lst ((bs.map V.int).drop 1))
    generalize upd H3 pz (.lst ((bs.map V.int).drop 1)) = H4 at *
    replace eb := s4 _ _ (s3 _ _ eb)
    replace ec := s4 _ _ (s3 _ _ (s2 _ _ ec))
    replace el := s4 _ _ el
    have sm4 : Same H H4 := s1.trans (s2.trans (s3.trans s4))
    obtain ⟨st1, st2⟩ := atB_start good hB
    refine ⟨pb, pz, bs.map V.int, (bs.map V.int).drop 1, rfl, SqL.of eb, SqL.of ez, ?_⟩
    refine ⟨fun i m σ H' => i + m = bs.length - 1 ∧ Same H H' ∧ H' pb = some (.lst (bs.map V.int)) ∧ H' pz = some (.lst ((bs.map V.int).drop 1)) ∧ H' pc = some (.dK kvs) ∧ (∃ ws, H' pl = some (.lst ws) ∧ ws.length ≤ i ∧ Ivs H' ws (atB row bs i)) ∧
        ∃ y5 y6, σ = [some (.ref a), some (.ref pc), some (.ref pb), some (.ref pl), some (.int (depB row bs i)), y5, y6],
      ⟨bs.length - 1, by omega, sm4, eb, ez, ec, ⟨[], el, Nat.zero_le _, by rw [st1]; exact .nil⟩, none, none, by rw [st2]; rfl⟩, fun i m σ H5 hW => ?_⟩
    obtain ⟨em, sm, fb, fz, fc, ⟨ws, fl, wl, ivw⟩, y5, y6, rfl⟩ := hW
    by_cases hi : i < bs.length - 1
    · obtain ⟨x, ex⟩ : ∃ x, bs[i]? = some x := ⟨bs[i], List.getElem?_eq_getElem (by omega)⟩
      obtain ⟨y, ey⟩ : ∃ y, bs[i + 1]? = some y := ⟨bs[i + 1], List.getElem?_eq_getElem (by omega)⟩
      have g1 : (bs.map V.int)[i]? = some (.int x) := by
        rw [List.getElem?_map, ex]
        rfl
      have g2 : ((bs.map V.int).drop 1)[i]? = some (.int y) := by
        rw [List.getElem?_drop, Nat.add_comm 1 i, List.getElem?_map, ey]
        rfl
      have hbx : Bd row x := (hB.mem x).mp (List.mem_of_getElem? ex)
      have x0 : 0 ≤ x := by
        obtain ⟨r, hr1, w1⟩ := hbx
        have := good r hr1
        omega
      obtain ⟨cn, dn⟩ := Cb_next good hB ex ey x0
      have hval : valV kvs (Sum.inl x) = some (.int (delI row x)) := by
        rw [dd.val, if_pos hbx]
      refine .inr ⟨⟨_, _, _, _, SqL.of fb, SqL.of fz, g1, g2⟩, fun σ' H' => Same H H' ∧ H' pb = some (.lst (bs.map V.int)) ∧ H' pz = some (.lst ((bs.map V.int).drop 1)) ∧ H' pc = some (.dK kvs) ∧ (∃ ws, H' pl = some (.lst ws) ∧ ws.length ≤ i + 1 ∧ Ivs H' ws (atB row bs (i + 1))) ∧
          ∃ y5 y6, σ' = [some (.ref a), some (.ref pc), some (.ref pb), some (.ref pl), some (.int (depB row bs (i + 1))), y5, y6], fun σ' H' hN => ?_, fun z H' hy => ?_⟩
      · obtain ⟨n1, n2, n3, n4, n5, n6⟩ := hN
        exact ⟨m - 1, by omega, by omega, n1, n2, n3, n4, n5, n6⟩
      · obtain ⟨tt, x1, x2, rfl, nT, rfl, f1, f2⟩ := hy
        have ex1 : x1 = .int x := Option.some.inj ((f1 _ (SqL.of fb)).symm.trans g1)
        have ex2 : x2 = .int y := Option.some.inj ((f2 _ (SqL.of fz)).symm.trans g2)
        subst ex1 ex2
        have sT := same_new (o := .tup [.int x, .int y]) nT
        have eT := upd_same (H := H5) (a := tt) (o := .tup [.int x, .int y])
        generalize upd H5 tt (.tup [.int x, .int y]) = H6 at *
        refine ⟨tt, _, rfl, SqT.of eT, rfl, .int x, [.int y], rfl, .int y, [], rfl, rfl, ?_⟩
        have dg := DGet.k (k := Sum.inl x) (sT _ _ fc)
        rw [hval] at dg
        refine ⟨_, rfl, .ref pc, rfl, .int x, rfl, pc, _, rfl, dg, _, _, rfl, rfl, ?_⟩
        have ed : depB row bs i + delI row x = depI row x := by
          rw [depB_some ex]
          exact (dep_step good x).symm
        have ed2 : depB row bs (i + 1) = depI row x := by
          rw [depB_some ey]
          exact dn
        have ea2 : atB row bs (i + 1) = if 0 < depI row x then atB row bs i ++ [(x, y - 1)] else atB row bs i := by
          rw [atB_some ey, atB_some ex]
          exact cn
        refine ⟨_, rfl, _, _, rfl, rfl, _, rfl, ite2 (fun e => ?_) (fun e => ?_)⟩
        · have e1 : 0 < depB row bs i + delI row x := of_decide_eq_true e
          rw [ed] at e1
          refine ⟨.ref pl, rfl, .inl ⟨rfl, _, SqL.of (sT _ _ fl)⟩, .int x, rfl, .int y, rfl, _, _, rfl, rfl, by show 2 ≤ sizeLine; decide, fun t nt => ?_⟩
          have st := same_new (o := .tup [.int x, .int (y - 1)]) nt
          have et := upd_same (H := H6) (a := t) (o := .tup [.int x, .int (y - 1)])
          generalize upd H6 t (.tup [.int x, .int (y - 1)]) = H7 at *
          have fl7 := st _ _ (sT _ _ fl)
          refine ⟨pl, ws, _, rfl, rfl, fl7, small1000 (by omega), ?_⟩
          have up : ∀ {b' : Addr} {o' : HO}, b' ≠ pl → H5 b' = some o' → (upd H7 pl (.lst (ws ++ [.ref t]))) b' = some o' := fun nb e' => by
            rw [upd_ne nb]
            exact st _ _ (sT _ _ e')
          have upI : ∀ {vs : List V} {qs : List (Int × Int)}, Ivs H5 vs qs → Ivs (upd H7 pl (.lst (ws ++ [.ref t]))) vs qs := by
            intro vs qs hv
            induction hv with
            | nil => exact .nil
            | cons e' _ ih => exact .cons (up (ne_of e' fl (fun z => by cases z)) e') ih
          refine ⟨fun b' o' e' => up (ne_of_none e' npl0) (sm _ _ e'), up nbl fb, up nlz.symm fz, up ncl fc, ⟨_, upd_same, ?_, ?_⟩, some (.int x), some (.int y), ?_⟩
          · rw [List.length_append, List.length_singleton]
            omega
          · rw [ea2, if_pos e1]
            refine (upI ivw).snoc ?_
            rw [upd_ne (ne_of et fl7 (fun z => by cases z))]
            exact et
          · rw [ed2, ← ed]
            rfl
        · have e1 : ¬ 0 < depI row x := fun z => e (by
            rw [← ed] at z
            exact decide_eq_true z)
          refine ⟨sm.trans sT, sT _ _ fb, sT _ _ fz, sT _ _ fc, ⟨ws, sT _ _ fl, by omega, ?_⟩, some (.int x), some (.int y), ?_⟩
          · rw [ea2, if_neg e1]
            exact ivw.same sT
          · rw [ed2, ← ed]
            rfl
    · refine .inl ⟨⟨_, _, SqL.of fb, SqL.of fz, .inr ?_⟩, ?_⟩
      · rw [List.length_drop, List.length_map]
        omega
      · have ei : i = bs.length - 1 := by omega
        rw [atB_end good hB ei] at ivw
        refine ⟨.ref pl, rfl, pl, ws, rfl, .inl ⟨SqL.of fl, fun p np => ?_⟩⟩
        exact q _ p ws (sm.trans (same_new np)) upd_same (ivw.same (same_new np))

/-! ### tuples joined and cut, whichever object comes out -/
theorem catA_any {K : PySem.W.Frag} {H : Hp} {a b : Addr} {xs ys : List V} {Q : VK} (h1 : H a = some (.tup xs)) (h2 : H b = some (.tup ys)) (sz : xs.length + ys.length ≤ sizeLine) (k : ∀ H' p, Same H H' → H' p = some (.tup (xs ++ ys)) → Q (.ref p) H') : rCatA K (.ref a) (.ref b) H Q := by
  refine ⟨a, b, xs, ys, rfl, rfl, SqT.of h1, SqT.of h2, sz, fun e => k H b (Same.refl _) ?_, fun _ e => k H a (Same.refl _) ?_, fun _ _ p np => k _ p (same_new np) upd_same⟩
  · rw [e]
    exact h2
  · rw [e, List.append_nil]
    exact h1
theorem slA_any {K : PySem.W.Frag} {H : Hp} {a : Addr} {xs : List V} {lo hi : Option Int} {Q : VK} (h1 : H a = some (.tup xs)) (k : ∀ H' p, Same H H' → H' p = some (.tup (cutV xs lo hi)) → Q (.ref p) H') : rSlA K (.ref a) lo hi H Q := by
  refine ⟨a, xs, rfl, SqT.of h1, fun e => k H a (Same.refl _) ?_, fun _ p np => k _ p (same_new np) upd_same⟩
  have e2 : cutV xs lo hi = xs := by
    unfold cutV
    rw [e.1, e.2]
    simp
  rw [e2]
  exact h1
theorem Ivs.take {H : Hp} {vs : List V} {ps : List (Int × Int)} (h : Ivs H vs ps) : ∀ n : Nat, Ivs H (vs.take n) (ps.take n) := by
  induction h with
  | nil =>
    intro n
    rw [List.take_nil, List.take_nil]
    exact .nil
  | cons e _ ih =>
    intro n
    cases n with
    | zero => exact .nil
    | succ n => exact .cons e (ih n)

/-! ### demands at the beginnings of blocks; open demands -/
def dabT (ts : List (Int × Int)) (x : Int) : List (Int × Int × Int) := (ts.filter fun t => atP t.1 t.2 x).map fun t => (x, t.1, t.2)
def dab (ts bs : List (Int × Int)) : List (Int × Int × Int) := bs.flatMap fun b => dabT ts b.1
theorem dab_snoc {ts bs : List (Int × Int)} {b : Int × Int} : dab ts (bs ++ [b]) = dab ts bs ++ dabT ts b.1 := by
  unfold dab
  rw [List.flatMap_append]
  simp
theorem dab_len {ts : List (Int × Int)} : ∀ {bs : List (Int × Int)}, (dab ts bs).length ≤ bs.length * ts.length
  | [] => Nat.zero_le _
  | b :: bs => by
    have ih := dab_len (ts := ts) (bs := bs)
    unfold dab at ih ⊢
    rw [List.flatMap_cons, List.length_append, List.length_cons, Nat.add_mul]
    have : (dabT ts b.1).length ≤ ts.length := by
      unfold dabT
      rw [List.length_map]
      exact List.length_filter_le _ _
    omega
def sp_demands_at_blocks : Sp := fun vs H Q _ => ∃ (a b : Addr) (us ws : List V) (ts bs : List (Int × Int)), vs = [.ref a, .ref b] ∧ H a = some (.tup us) ∧ H b = some (.tup ws) ∧ Ivs H us ts ∧ Ivs H ws bs ∧ ts.length ≤ 30 ∧ bs.length ≤ 200 ∧
  ∀ H' p zs, Same H H' → H' p = some (.lst zs) → Dms H' zs (dab ts bs) → Q (.ref p) H'
theorem ok_demands_at_blocks (T : Tx K mg f_is_number f_is_position f_is_tuple_of f_is_interval f_ascending_error f_targets_error f_is_pieces f_has_position f_contains f_pieces_inside f_first_gap f_find_missing f_without_item f_with_interval f_without_interval f_edited_state f_depth_changes f_find_blocks f_serves f_conflict f_demands_at_blocks f_is_open f_open_demands f_shadow_target f_require_few_blocks f_decisive_demands f_largest_independent f_unserved_demands f_helpful_piece f_smallest_solution f_count_needed f_solve f_law_deck f_law_draw f_law_line f_law_interval f_law_intervals f_law_served f_law_options f_law_conflict f_law_most f_law_needed f_law_edit f_law_after f_law_do f_law_begun f_law_generated f_law_solution_right f_law f_Plan_init f_Plan_add_target f_Plan_add_piece f_Plan_remove_target f_Plan_remove_piece f_Plan_targets f_Plan_pieces f_Plan_needed f_Plan_solution f_Plan_missing f_Plan_edit f_Plan_record f_Plan_require_idle f_Plan_state_at f_Plan_len f_Plan_str f_Plan_eq C_Plan d_is_number d_is_position d_is_tuple_of d_is_interval d_ascending_error d_targets_error d_is_pieces d_has_position d_contains d_pieces_inside d_first_gap d_find_missing d_without_item d_with_interval d_without_interval d_edited_state d_depth_changes d_find_blocks d_serves d_conflict d_demands_at_blocks d_is_open d_open_demands d_shadow_target d_require_few_blocks d_decisive_demands d_largest_independent d_unserved_demands d_helpful_piece d_smallest_solution d_count_needed d_solve d_law_deck d_law_draw d_law_line d_law_interval d_law_intervals d_law_served d_law_options d_law_conflict d_law_most d_law_needed d_law_edit d_law_after d_law_do d_law_begun d_law_generated d_law_solution_right d_law d_Plan_init d_Plan_add_target d_Plan_add_piece d_Plan_remove_target d_Plan_remove_piece d_Plan_targets d_Plan_pieces d_Plan_needed d_Plan_solution d_Plan_missing d_Plan_edit d_Plan_record d_Plan_require_idle d_Plan_state_at d_Plan_len d_Plan_str d_Plan_eq t_LAST_POSITION t_MAX_TARGETS t_MAX_PIECES t_MAX_BLOCKS t_MAX_EDITS) : FnOk P w K mg base CX0 2 f_demands_at_blocks d_demands_at_blocks ["targets", "blocks"] sp_demands_at_blocks := by
  refine T.F_demands_at_blocks.ok sc_demands_at_blocks (fun vs H Q E h => ?_) (fun cdv A outer s H vs Q E hr h => ?_)
  · obtain ⟨a, b, us, ws, ts, bs, rfl, _⟩ := h
    rfl
  · obtain ⟨a, b, us, ws, ts, bs, rfl, ha, hb, ivt, ivb, lt, lb, q⟩ := h
    have lu := ivt.length
    have lw := ivb.length
    refine ⟨_, (pss_one (ps_ret (pe_lc2 (own := [("low", 2), ("high", 3), ("target", 4)]) (vs1 := [4]) (g := (gTup K 2 (gCons (gName 2) (gCons (gName 3) gNil)))) (g1 := (gName 4)) (tt := tYes) (by rfl) sc_demands_at_blocks.nd (pi_tup (pv 1)) (blkOk_by (own := [("low", 2), ("high", 3), ("target", 4)]) (N := N_demands_at_blocks) (sc := defScope s_demands_at_blocks) (by decide +kernel)) (by decide) (fun _ _ _ _ _ => (pg_tup rfl (pgs_cons (pg_name (i := 2) sc_demands_at_blocks.nd rfl (Or.inl rfl)) (pgs_cons (pg_name (i := 3) sc_demands_at_blocks.nd rfl (Or.inl rfl)) pgs_nil)))) (fun _ _ _ _ _ => pts_nil) (fun _ _ _ _ _ => (pi_tupK (K := K) rfl (pv 0))) (fun _ _ _ _ _ => (pg_name (i := 4) sc_demands_at_blocks.nd rfl (Or.inl rfl))) (fun _ _ _ _ _ => pts_one (pt_val (pe_call (ok_has_position T) (hr.mono (by decide)) (by rfl) T.g_has_position T.F_has_position.kp T.b_has_position .nil pass0 (pa_cons (pv 4) (pa_cons (pv 2) pa_nil))))) (fun _ _ _ _ _ => (pe_tup (pa_cons (pv 2) (pa_cons (pv 4) pa_nil))))))), ?_⟩
    refine ⟨.ref b, rfl, b, rfl, ⟨_, SqT.of hb⟩, fun D nD => ?_⟩
    refine walkT (K := K) (a := b) (xs := ws) (fun i H' => Same H H' ∧ ∃ zs, H' D = some (.lst zs) ∧ Dms H' zs (dab ts (bs.take i))) ⟨same_new nD, [], upd_same, .nil⟩ (fun i H' _ h => SqT.of (h.1 _ _ hb)) ?_ ?_
    · rintro i v H1 hi ⟨s1, zs, eD, dm⟩
      obtain ⟨bb, x, y, rfl, ep, hbb⟩ := ivb.get hi
      have hil := (List.getElem?_eq_some_iff.mp ep).1
      refine ⟨bb, _, rfl, SqT.of (s1 _ _ hbb), rfl, .int x, [.int y], rfl, .int y, [], rfl, rfl, rfl, ?_⟩
      refine ⟨.ref a, rfl, a, rfl, ⟨_, SqT.of (s1 _ _ ha)⟩, ?_⟩
      refine walkT (K := K) (a := a) (xs := us) (fun j H' => Same H H' ∧ ∃ zs, H' D = some (.lst zs) ∧ Dms H' zs (dab ts (bs.take i) ++ dabT (ts.take j) x)) ⟨s1, zs, eD, by show Dms H1 zs (_ ++ []); rw [List.append_nil]; exact dm⟩ (fun j H' _ h => SqT.of (h.1 _ _ ha)) ?_ ?_
      · rintro j v H2 hj ⟨s2, zs2, eD2, dm2⟩
        obtain ⟨tt, lo, hi2, rfl, et, htt⟩ := ivt.get hj
        have hjl := (List.getElem?_eq_some_iff.mp et).1
        have sz : zs2.length < sizeLine := by
          have h1 := dm2.length
          have h2 := dab_len (ts := ts) (bs := bs.take i)
          have h3 : (dabT (ts.take j) x).length ≤ 30 := by
            unfold dabT
            rw [List.length_map]
            exact Nat.le_trans (List.length_filter_le _ _) (Nat.le_trans (List.length_take_le' _ _) lt)
          have h4 : (bs.take i).length ≤ 200 := Nat.le_trans (List.length_take_le' _ _) lb
          have h5 : (bs.take i).length * ts.length ≤ 200 * 30 := Nat.mul_le_mul h4 lt
          rw [List.length_append] at h1
          rw [show sizeLine = 16777216 by decide]
          omega
        refine ⟨rfl, .ref tt, rfl, .int x, rfl, tt, lo, hi2, x, rfl, s2 _ _ htt, _, rfl, ite2 (fun c => ?_) (fun c => ?_)⟩
        · refine ⟨.int x, rfl, .ref tt, rfl, by show 2 ≤ sizeLine; decide, fun t nt => ?_⟩
          have s3 := same_new (o := .tup [.int x, .ref tt]) nt
          have et3 := upd_same (H := H2) (a := t) (o := .tup [.int x, .ref tt])
          have eD3 := s3 _ _ eD2
          have dm3 := dm2.same s3
          have s23 := s2.trans s3
          generalize upd H2 t (.tup [.int x, .ref tt]) = H3 at *
          refine ⟨zs2, eD3, sz, same_off nD s23, _, upd_same, ?_⟩
          have cc : lo ≤ x ∧ x ≤ hi2 := by
            have z := Bool.and_eq_true_iff.mp c
            exact ⟨of_decide_eq_true z.1, of_decide_eq_true z.2⟩
          have e : dabT (ts.take (j + 1)) x = dabT (ts.take j) x ++ [(x, lo, hi2)] := by
            unfold dabT
            rw [take_filter et, if_pos c, List.map_append]
            rfl
          rw [e, ← List.append_assoc]
          exact (dm3.snoc ⟨⟨t, tt, rfl, et3, s23 _ _ htt⟩, cc.1, cc.2⟩).tps (Tps.lst eD3)
        · refine ⟨s2, zs2, eD2, ?_⟩
          have e : dabT (ts.take (j + 1)) x = dabT (ts.take j) x := by
            unfold dabT
            rw [take_filter et, if_neg c, List.append_nil]
          rw [e]
          exact dm2
      · rintro H2 ⟨s2, zs2, eD2, dm2⟩
        refine ⟨s2, zs2, eD2, ?_⟩
        rw [lu, List.take_length] at dm2
        rw [List.take_add_one, ep]
        show Dms H2 zs2 (dab ts (bs.take i ++ [(x, y)]))
        rw [dab_snoc]
        exact dm2
    · rintro H1 ⟨s1, zs, eD, dm⟩
      rw [lw, List.take_length] at dm
      exact q H1 D zs s1 eD dm
def opB (ps : List (Int × Int)) (d : Int × Int × Int) : Bool := !((ps.map fun q => svI q.1 q.2 d.1 d.2.1 d.2.2).any id)
def sp_is_open : Sp := fun vs H Q _ => ∃ (a : Addr) (v : V) (us : List V) (ps : List (Int × Int)) (p lo hi : Int), vs = [.ref a, v] ∧ H a = some (.tup us) ∧ Ivs H us ps ∧ ps.length < 1000 ∧ Dm H v p lo hi ∧
  ∀ H', Same H H' → Q (.bl (opB ps (p, lo, hi))) H'
theorem ok_is_open (T : Tx K mg f_is_number f_is_position f_is_tuple_of f_is_interval f_ascending_error f_targets_error f_is_pieces f_has_position f_contains f_pieces_inside f_first_gap f_find_missing f_without_item f_with_interval f_without_interval f_edited_state f_depth_changes f_find_blocks f_serves f_conflict f_demands_at_blocks f_is_open f_open_demands f_shadow_target f_require_few_blocks f_decisive_demands f_largest_independent f_unserved_demands f_helpful_piece f_smallest_solution f_count_needed f_solve f_law_deck f_law_draw f_law_line f_law_interval f_law_intervals f_law_served f_law_options f_law_conflict f_law_most f_law_needed f_law_edit f_law_after f_law_do f_law_begun f_law_generated f_law_solution_right f_law f_Plan_init f_Plan_add_target f_Plan_add_piece f_Plan_remove_target f_Plan_remove_piece f_Plan_targets f_Plan_pieces f_Plan_needed f_Plan_solution f_Plan_missing f_Plan_edit f_Plan_record f_Plan_require_idle f_Plan_state_at f_Plan_len f_Plan_str f_Plan_eq C_Plan d_is_number d_is_position d_is_tuple_of d_is_interval d_ascending_error d_targets_error d_is_pieces d_has_position d_contains d_pieces_inside d_first_gap d_find_missing d_without_item d_with_interval d_without_interval d_edited_state d_depth_changes d_find_blocks d_serves d_conflict d_demands_at_blocks d_is_open d_open_demands d_shadow_target d_require_few_blocks d_decisive_demands d_largest_independent d_unserved_demands d_helpful_piece d_smallest_solution d_count_needed d_solve d_law_deck d_law_draw d_law_line d_law_interval d_law_intervals d_law_served d_law_options d_law_conflict d_law_most d_law_needed d_law_edit d_law_after d_law_do d_law_begun d_law_generated d_law_solution_right d_law d_Plan_init d_Plan_add_target d_Plan_add_piece d_Plan_remove_target d_Plan_remove_piece d_Plan_targets d_Plan_pieces d_Plan_needed d_Plan_solution d_Plan_missing d_Plan_edit d_Plan_record d_Plan_require_idle d_Plan_state_at d_Plan_len d_Plan_str d_Plan_eq t_LAST_POSITION t_MAX_TARGETS t_MAX_PIECES t_MAX_BLOCKS t_MAX_EDITS) : FnOk P w K mg base CX0 3 f_is_open d_is_open ["pieces", "demand"] sp_is_open := by
  refine T.F_is_open.ok sc_is_open (fun vs H Q E h => ?_) (fun cdv A outer s H vs Q E hr h => ?_)
  · obtain ⟨a, v, us, ps, p, lo, hi, rfl, _⟩ := h
    rfl
  · obtain ⟨a, v, us, ps, p, lo, hi, rfl, ha, iv, few, dm, q⟩ := h
    have lu := iv.length
    obtain ⟨u, t, rfl, e1, e2⟩ := dm.ex
    refine ⟨_, (pss_one (ps_ret (pe_not (pe_callB (cr_any rfl) (by rfl) T.z_any (by decide +kernel) (pa_cons (pe_lc (own := [("piece", 2)]) (g := (gName 2)) (tt := tYes) (by rfl) sc_is_open.nd (pi_tup (pv 0)) (blkOk_by (own := [("piece", 2)]) (N := N_is_open) (sc := defScope s_is_open) (by decide +kernel)) (fun _ _ _ _ _ => (pg_name (i := 2) sc_is_open.nd rfl (Or.inl rfl))) (fun _ _ _ _ _ => pts_nil) (fun _ _ _ _ _ => (pe_call (ok_serves T) (hr.mono (by decide)) (by rfl) T.g_serves T.F_serves.kp T.b_serves .nil pass0 (pa_cons (pv 2) (pa_cons (pv 1) pa_nil))))) pa_nil))))), ?_⟩
    refine ⟨.ref a, rfl, a, rfl, ⟨_, SqT.of ha⟩, fun D nD => ?_⟩
    refine lcT (K := K) (a := a) (xs := us) (fun i H' ws => ws = ((ps.take i).map fun q : Int × Int => svI q.1 q.2 p lo hi).map V.bl) nD (fun H' s => SqT.of (s _ _ ha)) (by omega) (fun _ _ _ _ _ r => r) (fun i H' ws r => by rw [r, List.length_map, List.length_map]; exact List.length_take_le _ _) (fun _ => rfl) ?_ ?_
    · rintro i z H' N acc hi2 sm eD sz r no yes
      obtain ⟨bb, x, y, rfl, ep, hb⟩ := iv.get hi2
      refine ⟨rfl, .ref bb, rfl, .ref u, rfl, bb, u, t, x, y, p, lo, hi, rfl, sm _ _ hb, sm _ _ e1, sm _ _ e2, yes H' _ (Same.refl _) ?_⟩
      rw [r, List.take_add_one, ep, List.map_append, List.map_append]
      rfl
    · intro H1 ws s1 eD r
      rw [lu, List.take_length] at r
      subst r
      exact ⟨D, _, rfl, SqL.of eD, _, rfl, q H1 s1⟩
def sp_open_demands : Sp := fun vs H Q _ => ∃ (a b : Addr) (us ws : List V) (ts ps : List (Int × Int)), vs = [.ref a, .ref b] ∧ H a = some (.tup us) ∧ H b = some (.tup ws) ∧ Ivs H us ts ∧ Ivs H ws ps ∧ Good (ts ++ ps) ∧ ts.length ≤ 30 ∧ FewK (ts ++ ps) ∧
  ∀ H' p zs, Same H H' → H' p = some (.tup zs) → Dms H' zs ((dab ts (blocksOf (ts ++ ps))).filter (opB ps)) → Q (.ref p) H'
theorem ok_open_demands (T : Tx K mg f_is_number f_is_position f_is_tuple_of f_is_interval f_ascending_error f_targets_error f_is_pieces f_has_position f_contains f_pieces_inside f_first_gap f_find_missing f_without_item f_with_interval f_without_interval f_edited_state f_depth_changes f_find_blocks f_serves f_conflict f_demands_at_blocks f_is_open f_open_demands f_shadow_target f_require_few_blocks f_decisive_demands f_largest_independent f_unserved_demands f_helpful_piece f_smallest_solution f_count_needed f_solve f_law_deck f_law_draw f_law_line f_law_interval f_law_intervals f_law_served f_law_options f_law_conflict f_law_most f_law_needed f_law_edit f_law_after f_law_do f_law_begun f_law_generated f_law_solution_right f_law f_Plan_init f_Plan_add_target f_Plan_add_piece f_Plan_remove_target f_Plan_remove_piece f_Plan_targets f_Plan_pieces f_Plan_needed f_Plan_solution f_Plan_missing f_Plan_edit f_Plan_record f_Plan_require_idle f_Plan_state_at f_Plan_len f_Plan_str f_Plan_eq C_Plan d_is_number d_is_position d_is_tuple_of d_is_interval d_ascending_error d_targets_error d_is_pieces d_has_position d_contains d_pieces_inside d_first_gap d_find_missing d_without_item d_with_interval d_without_interval d_edited_state d_depth_changes d_find_blocks d_serves d_conflict d_demands_at_blocks d_is_open d_open_demands d_shadow_target d_require_few_blocks d_decisive_demands d_largest_independent d_unserved_demands d_helpful_piece d_smallest_solution d_count_needed d_solve d_law_deck d_law_draw d_law_line d_law_interval d_law_intervals d_law_served d_law_options d_law_conflict d_law_most d_law_needed d_law_edit d_law_after d_law_do d_law_begun d_law_generated d_law_solution_right d_law d_Plan_init d_Plan_add_target d_Plan_add_piece d_Plan_remove_target d_Plan_remove_piece d_Plan_targets d_Plan_pieces d_Plan_needed d_Plan_solution d_Plan_missing d_Plan_edit d_Plan_record d_Plan_require_idle d_Plan_state_at d_Plan_len d_Plan_str d_Plan_eq t_LAST_POSITION t_MAX_TARGETS t_MAX_PIECES t_MAX_BLOCKS t_MAX_EDITS) : FnOk P w K mg base CX0 4 f_open_demands d_open_demands ["targets", "pieces"] sp_open_demands := by
  refine T.F_open_demands.ok sc_open_demands (fun vs H Q E h => ?_) (fun cdv A outer s H vs Q E hr h => ?_)
  · obtain ⟨a, b, us, ws, ts, ps, rfl, _⟩ := h
    rfl
  · obtain ⟨a, b, us, ws, ts, ps, rfl, ha, hb, ivt, ivp, g, lt, fk, q⟩ := h
    have lu := ivt.length
    have lw := ivp.length
    have ll : (ts ++ ps).length ≤ 60 := fk.le
    have ll2 : ts.length + ps.length ≤ 60 := by rw [← List.length_append]; exact ll
    refine ⟨_, (pss_cons (ps_set (i := 2) sc_open_demands.nd rfl (Or.inl rfl) (pe_call (ok_demands_at_blocks T) (hr.mono (by decide)) (by rfl) T.g_demands_at_blocks T.F_demands_at_blocks.kp T.b_demands_at_blocks .nil pass0 (pa_cons (pv 0) (pa_cons (pe_call (ok_find_blocks T) (hr.mono (by decide)) (by rfl) T.g_find_blocks T.F_find_blocks.kp T.b_find_blocks .nil pass0 (pa_cons (pe_op op_catA (pv 0) (pv 1)) pa_nil)) pa_nil))))
      (pss_one (ps_ret (pe_callTy call_tuple_of (by rfl) T.z_tuple (by decide +kernel) (pa_cons (pe_lc (own := [("demand", 3)]) (g := (gName 3)) (by rfl) sc_open_demands.nd (pi_list (pv 2)) (blkOk_by (own := [("demand", 3)]) (N := N_open_demands) (sc := defScope s_open_demands) (by decide +kernel)) (fun _ _ _ _ _ => (pg_name (i := 3) sc_open_demands.nd rfl (Or.inl rfl))) (fun _ _ _ _ _ => pts_one (pt_val (pe_call (ok_is_open T) (hr.mono (by decide)) (by rfl) T.g_is_open T.F_is_open.kp T.b_is_open .nil pass0 (pa_cons (pv 1) (pa_cons (pv 3) pa_nil))))) (fun _ _ _ _ _ => (pv 3))) pa_nil))))), ?_⟩
    refine ⟨.ref a, rfl, .ref a, rfl, .ref b, rfl, catA_any ha hb (by rw [show sizeLine = 16777216 by decide]; omega) (fun H1 c s1 ec => ?_)⟩
    refine ⟨c, us ++ ws, ts ++ ps, rfl, ec, (ivt.same s1).append (ivp.same s1), g, fk, fun H2 bl bws s2 ebl ivb => ?_⟩
    have s12 := s1.trans s2
    have few := blocks_few g
    refine ⟨a, bl, us, bws, ts, _, rfl, s12 _ _ ha, ebl, ivt.same s12, ivb, by omega, by omega, fun H3 D zs s3 eD dm => ?_⟩
    have s13 := s12.trans s3
    obtain ⟨ds, eds⟩ : ∃ ds, ds = dab ts (blocksOf (ts ++ ps)) := ⟨_, rfl⟩
    rw [← eds] at dm q
    have lds : ds.length ≤ 6000 := by
      have h1 := dab_len (ts := ts) (bs := blocksOf (ts ++ ps))
      have h2 : (blocksOf (ts ++ ps)).length * ts.length ≤ 200 * 30 := Nat.mul_le_mul (by omega) (by omega)
      rw [eds]
      omega
    have lz := dm.length
    refine ⟨.ref D, rfl, D, rfl, ⟨_, SqL.of eD⟩, fun D2 nD2 => ?_⟩
    refine lc_list (K := K) (a := D) (xs := zs) (fun i H' => Same H3 H' ∧ ∃ ys, H' D2 = some (.lst ys) ∧ Dms H' ys ((ds.take i).filter (opB ps))) ⟨same_new nD2, [], upd_same, .nil⟩ (fun i H' _ h => SqL.of (h.1 _ _ eD)) ?_ ?_
    · rintro i v H4 hi ⟨s4, ys, eD2, dmy⟩
      obtain ⟨p, lo, hi2, ed, dmv⟩ := dm.get hi
      have hb4 := s4 _ _ (s13 _ _ hb)
      have dv4 := dmv.same s4
      refine ⟨rfl, .ref b, rfl, v, rfl, b, v, ws, ps, p, lo, hi2, rfl, hb4, ivp.same (s13.trans s4), by omega, dv4, fun H5 s5 => ?_⟩
      have ly : ys.length < sizeLine := by
        have h1 := dmy.length
        have h2 := List.length_filter_le (opB ps) (ds.take i)
        have h3 := List.length_take_le' i ds
        rw [show sizeLine = 16777216 by decide]
        omega
      refine ⟨_, rfl, ite2 (fun c => ?_) (fun c => ?_)⟩
      · refine ⟨v, rfl, ys, s5 _ _ eD2, ly, same_off nD2 (s4.trans s5), _, upd_same, ?_⟩
        rw [take_filter ed, if_pos c]
        exact ((dmy.same s5).snoc (dv4.same s5)).tps (Tps.lst (s5 _ _ eD2))
      · refine ⟨s4.trans s5, ys, s5 _ _ eD2, ?_⟩
        rw [take_filter ed, if_neg c, List.append_nil]
        exact dmy.same s5
    · rintro H4 ⟨s4, ys, eD2, dmy⟩
      rw [lz, List.take_length] at dmy
      refine ⟨D2, ys, rfl, .inl ⟨SqL.of eD2, fun l nl => ?_⟩⟩
      have s5 := same_new (o := .tup ys) nl
      exact q _ l ys (s13.trans (s4.trans s5)) upd_same (dmy.same s5)

abbrev lgN : Nat := 192
theorem cutFrom (xs : List V) (j : Nat) : cutV xs (some (j : Int)) none = xs.drop j := by
  unfold cutV
  rw [show HT.sIx xs.length 0 (some (j : Int)) = min j xs.length from HT.sIx_nat xs.length 0 j, HT.sIx_none]
  rcases Nat.le_total j xs.length with h | h
  · rw [Nat.min_eq_left h]
    exact List.take_of_length_le (by rw [List.length_drop]; exact Nat.le_refl _)
  · rw [Nat.min_eq_right h, List.drop_of_length_le (Nat.le_refl _), List.drop_of_length_le h]
    exact List.take_nil

/-! ### {e for x in xs}, e an int -/
section
variable {X : Cx}
/-- D: the new set; it holds S, n of them -/
def tScI (w : World) (wi : TI) (g : TG) (tt : TT) (te : TE) (us : List Nat) : TE := fun σ H Q => wi σ H fun J Ha => ∀ D, Ha D = none → ∃ W : Nat → Nat → Hp → Prop, (∃ k, W 0 k (upd Ha D (SetO w D (fun _ => false) 0))) ∧ ∀ j k Hb, W j k Hb →
  (J.stop j Hb ∧ Q (.ref D) Hb) ∨ (J.go j Hb ∧ ∃ Nx : Hp → Prop, (∀ Hc, Nx Hc → ∃ k', k' < k ∧ W (j + 1) k' Hc) ∧ ∀ x Hc, J.yld j Hb x Hc → g x (wipe σ us) Hc fun τ Hd => wipe τ us = wipe σ us ∧ tt τ Hd fun b He =>
    if b = true then te τ He fun y Hf => ∃ (c : Int) (S : Int → Bool) (n : Nat), y = .int c ∧ Hf D = some (SetO w D S n) ∧ n + 1 < scanBound ∧ Nx (upd Hf D (SetO w D (fun i => S i || decide (i = c)) (if S c = true then n else n + 1))) else Nx He)
theorem addI_ok {ps : List (Addr × Obj)} {τ : L2.St} {H : Hp} {s : Shared} {E : Value → Shared → Prop} {D : Addr} {S : Int → Bool} {n : Nat} {y : Int} {t : Tok} {Z : Value → Shared → Prop} (J : Inv X ps τ H s) (eD : H D = some (SetO X.w D S n)) (few : n + 1 < scanBound)
    (nx : ∀ s', Inv X ps τ (upd H D (SetO X.w D (fun i => S i || decide (i = y)) (if S y = true then n else n + 1))) s' → Z .none s') : wpAny (model X.prog X.w) X.A (call (.builtin "set.add") [.ref D, .int y t]) Z E s := by
  refine setR_add (setO_get J eD) few fun h' sb new => nx _ ?_
  obtain ⟨o, r1, r2, r3, eo, r4⟩ := id new
  exact J.write (e := D) (t' := s.toks + 1) (by rw [eD]; trivial) (.inl rfl) (fun b u hb hu => (sb.2 b hb).trans hu) ⟨o, eo⟩ (setO_new new)
theorem scI_core {ps : List (Addr × Obj)} {s : Shared} {σ : L2.St} {H : Hp} {Q : VK} {elt tg iter : Expr} {ifs : List Expr} {sc : Scope} {own : List (PySem.Str × Nat)} {pos pos' : Pos} {wi : TI} {g : TG} {tt : TT} {te : TE} {Qf : Value → Shared → Prop}
    (calm : X.calm = true) (nd : X.N.Nodup) (I : Inv X ps σ H s) (hi : PI X tg iter wi) (ok : BlkOk X.N X.env.scope sc own)
    (hg : ∀ (s : Shared) (H : Hp) (C : Addr) (cl : List (Str × Addr)) (fp : List Addr), PG (X.blk s H sc (compEnvC sc cl C X.env) fp) tg g)
    (ht : ∀ (s : Shared) (H : Hp) (C : Addr) (cl : List (Str × Addr)) (fp : List Addr), PTs (X.blk s H sc (compEnvC sc cl C X.env) fp) ifs tt)
    (he : ∀ (s : Shared) (H : Hp) (C : Addr) (cl : List (Str × Addr)) (fp : List Addr), PE (X.blk s H sc (compEnvC sc cl C X.env) fp) elt te) (hs : ∀ x, foldedSetIterable iter X.env x = pure x)
    (h : tScI X.w wi g tt te (own.map (·.2)) σ H Q)
    (back : ∀ D C s' m H', Inv X ps σ H' s' → Q (.ref D) H' → s'.heap.Ns C m → FpOk X ps H' C → compPost (model X.prog X.w) X.A X.xe none Qf (.ref D) C (.ok .next) s') :
    wpAny (model X.prog X.w) X.A (comprehension (.SetComp elt [⟨tg, iter, ifs, 0⟩] sc pos) sc X.env pos' (newSet (.type "set")) false (eval iter X.env) none) Qf X.xe s := by
  have frees : ∀ y ∈ sc.names, y.2 = .free → ∃ c, X.env.cells.lookup y.1 = some c := fun y hy e => (ok.free y hy e).elim (fun k => I.ok.has _ (.inl k)) (fun k => I.ok.has _ (.inr k))
  refine wpAny_comprehension_free (use := none) rfl hs (closure_ok frees) ok.kind (fun y hy e => by rw [ok.uniq y hy, e]) ?_
  refine thn (hi.run ps s σ H _ I h) fun xv sa ha => thn ha fun itv sb hb => ?_
  obtain ⟨it, fp, tn, J, Hb, rfl, Ib, T, stb, fb, q⟩ := hb
  refine PpSet.newSet_ok (newEnv_comp ?_)
  have Dn : Hb sb.heap.objs.size = none := Ib.hok.fresh (Nat.le_refl _)
  obtain ⟨W, ⟨k0, w0⟩, turn⟩ := q _ Dn
  have old : ∀ b ∈ fp, b < sb.heap.objs.size := fun b hb => let ⟨_, e, _⟩ := T.obj _ _ stb b hb; Heap.lt_size e
  obtain ⟨Hc, eHc⟩ : ∃ Hc, upd Hb sb.heap.objs.size (SetO X.w sb.heap.objs.size (fun _ => false) 0) = Hc := ⟨_, rfl⟩
  obtain ⟨sc3, es3⟩ : ∃ s3 : Shared, ({ sb with heap := sb.heap.push { cls := .type "set", dict := none, data := .set #[] 0 (.fresh 0 0 (!X.w.params.followText "set-order")) } } : Shared) = s3 := ⟨_, rfl⟩
  have Ic : Inv X ps σ Hc sc3 := by
    rw [← es3, ← eHc]
    exact Ib.laid (t' := sb.toks) (fun b o e => Heap.get?_push_of_some _ e) (Nat.le_refl _) (setO_new (setR_fresh X.w))
  have grown : ∀ b o, sb.heap.get? b = some o → sc3.heap.get? b = some o := fun b o e => by
    rw [← es3]
    exact Heap.get?_push_of_some _ e
  have fc : ∀ b ∈ fp, FpOk X ps Hc b ∧ b < sc3.heap.objs.size := fun b hb => by
    refine ⟨⟨?_, (fb b hb).2⟩, ?_⟩
    · rw [← eHc, upd_ne (Nat.ne_of_lt (old b hb))]
      exact (fb b hb).1
    · obtain ⟨_, e, _⟩ := T.obj _ _ stb b hb
      exact Heap.lt_size (grown _ _ e)
  have stc : tn 0 sc3.heap := T.keep _ _ _ stb fun b _ o e => grown b o e
  have Id := block_start Ic ok nd fc
  rw [eHc] at w0
  generalize eD : sb.heap.objs.size = D at *
  rw [es3]
  generalize eC : sc3.heap.objs.size = C at *
  have pg := hg sc3 Hc C (cellsFrom (C + 1) sc.names (cloFrom X.env.cells sc.names [])) fp
  have pt := ht sc3 Hc C (cellsFrom (C + 1) sc.names (cloFrom X.env.cells sc.names [])) fp
  have pe := he sc3 Hc C (cellsFrom (C + 1) sc.names (cloFrom X.env.cells sc.names [])) fp
  have cL : (compEnvC sc (cellsFrom (C + 1) sc.names (cloFrom X.env.cells sc.names [])) C X.env).locals = C := rfl
  show codeAny _ _ (.compStart (.SetComp elt [⟨tg, iter, ifs, 0⟩] sc pos) 0 (.ref it) (.ref D) (compEnvC sc (cellsFrom (C + 1) sc.names (cloFrom X.env.cells sc.names [])) C X.env)) (compPost (model X.prog X.w) X.A X.xe none Qf (.ref D) C) { sc3 with heap := pushCells (sc3.heap.push { cls := .type "dict", data := .dict #[] }) sc.names }
  generalize compEnvC sc (cellsFrom (C + 1) sc.names (cloFrom X.env.cells sc.names [])) C X.env = ce at *
  have ste : tn 0 ({ sc3 with heap := pushCells (sc3.heap.push { cls := .type "dict", data := .dict #[] }) sc.names } : Shared).heap := T.keep _ _ _ stc fun b _ o e => pushCells_keeps _ _ _ _ (Heap.get?_push_of_some _ e)
  generalize ({ sc3 with heap := pushCells (sc3.heap.push { cls := .type "dict", data := .dict #[] }) sc.names } : Shared) = se at *
  have Id : Inv (X.blk sc3 Hc sc ce fp) [] (wipe σ (own.map (·.2))) Hc se := Id
  have stat : ∀ {τ : L2.St} {H' : Hp} {s' : Shared}, Inv (X.blk sc3 Hc sc ce fp) [] τ H' s' → (∀ b ∈ fp, H' b = none) → ∀ b ∈ fp, FpOk (X.blk sc3 Hc sc ce fp) [] H' b := fun {τ H' s'} J hn b hb =>
    ⟨hn b hb, (J.ok.exf b hb).1, J.ok.exfs b hb, .inl hb, (J.ok.exf b hb).2, fun p hp => absurd (show p ∈ ([] : List (Addr × Obj)) ++ [] from hp) (by simp)⟩
  have loop : codeAny (model X.prog X.w) X.A (.compLoop (.SetComp elt [⟨tg, iter, ifs, 0⟩] sc pos) 0 (.ref it) (.ref D) ce) (compPost (model X.prog X.w) X.A X.xe none Qf (.ref D) C) se := by
    refine PpSet.compLoopS_any (fun k s' => ∃ j H', Inv (X.blk sc3 Hc sc ce fp) [] (wipe σ (own.map (·.2))) H' s' ∧ tn j s'.heap ∧ (∀ b ∈ fp, H' b = none) ∧ W j k H') ?_ k0 ⟨0, Hc, Id, ste, fun b hb => (fc b hb).1.1, w0⟩
    rintro k s5 ⟨j, H5, I5, st5, n5, w5⟩
    rcases turn j k H5 w5 with ⟨stop, qq⟩ | ⟨go, Nx, less, step⟩
    · refine thnF (T.done (X.blk sc3 Hc sc ce fp) rfl rfl rfl calm j [] s5 _ H5 (fun _ _ => False) I5 (stat I5 n5) st5 stop) fun r s6 ⟨er, I6⟩ => ?_
      subst er
      have I7 : Inv X ps σ H5 s6 := Ic.call' (ch := fp) I6.os I6.base I6.hok I6.bare fun b hb => ⟨(fc b hb).1.2.2.2.1, (fc b hb).1.2.1, (fc b hb).1.2.2.2.2.1, (fc b hb).1.2.2.2.2.2⟩
      have nC : H5 C = none := by
        have z : H5 ce.locals = none := I6.free
        rwa [cL] at z
      obtain ⟨m, hn, _⟩ := I6.loc
      have hn : s6.heap.Ns ce.locals m := hn
      rw [cL] at hn
      exact back D C s6 m H5 I7 qq hn (Ic.fpOk (Nat.le_of_eq eC) nC)
    · refine thnF (T.item (X.blk sc3 Hc sc ce fp) rfl rfl rfl calm j [] s5 _ H5 (fun _ _ => False) I5 (stat I5 n5) st5 go) fun r s6 ⟨u, er, h6⟩ => ?_
      subst er
      refine thnF h6 fun _ s7 ⟨x, H7, I7, r7, y7, st7, n7⟩ => ?_
      have P7 := I7.pinned (stat I7 n7) (T.obj _ _ st7)
      refine thnF (pg.run _ s7 _ H7 x u _ P7 r7 (step x H7 y7)) fun _ s8 ⟨τ, H8, I8, hw, q8⟩ => thnF (pt.run _ s8 τ H8 _ I8 q8) fun b s9 ⟨H9, I9, q9⟩ => ?_
      have next : ∀ {s' : Shared} {H' : Hp}, Inv (X.blk sc3 Hc sc ce fp) ([] ++ pinsAt fp s7.heap) τ H' s' → Nx H' → ∃ m, m < k ∧ ∃ j H', Inv (X.blk sc3 Hc sc ce fp) [] (wipe σ (own.map (·.2))) H' s' ∧ tn j s'.heap ∧ (∀ b ∈ fp, H' b = none) ∧ W j m H' := fun {s' H'} J nx => by
        obtain ⟨m', lt, w'⟩ := less H' nx
        have kept : ∀ b ∈ fp, ∀ o, s7.heap.get? b = some o → s'.heap.get? b = some o ∧ H' b = none := fun b hb o e =>
          let z := J.pin (b, o) (List.mem_append_right _ (List.mem_append_right _ (mem_pinsAt hb e)))
          ⟨z.1, z.2.1⟩
        refine ⟨m', lt, j + 1, H', (J.unpinned (pins := [])).weak (by rw [← hw, wipe_length]) (fun i v e => (wipe_some (by rw [hw]; exact e)).1), T.keep _ _ _ st7 fun b hb o e => (kept b hb o e).1, fun b hb => ?_, w'⟩
        obtain ⟨o, e, _⟩ := T.obj _ _ st7 b hb
        exact (kept b hb o e).2
      cases b with
      | false =>
        simp only [Bool.false_eq_true, if_false] at q9 ⊢
        exact next I9 q9
      | true =>
        simp only [if_true] at q9 ⊢
        refine thnF (pe.run _ s9 τ H9 _ I9 q9) fun z s10 ⟨yv, H10, I10, r10, c, S, n, ey, eS, few, nx⟩ => ?_
        subst ey
        obtain ⟨t, rfl⟩ := (show ∃ t, z = Value.int c t from r10)
        exact addI_ok (X := X.blk sc3 Hc sc ce fp) I10 eS few fun s11 I11 => next I11 nx
  exact PpSet.codeAny_compStart_set loop (T.self X.A 0 _ _ _ ste loop)
theorem pe_scI {elt tg iter : Expr} {ifs : List Expr} {sc : Scope} {own : List (PySem.Str × Nat)} {pos : Pos} {wi : TI} {g : TG} {tt : TT} {te : TE} (calm : X.calm = true) (nd : X.N.Nodup) (hi : PI X tg iter wi) (ok : BlkOk X.N X.env.scope sc own)
    (hg : ∀ (s : Shared) (H : Hp) (C : Addr) (cl : List (Str × Addr)) (fp : List Addr), PG (X.blk s H sc (compEnvC sc cl C X.env) fp) tg g)
    (ht : ∀ (s : Shared) (H : Hp) (C : Addr) (cl : List (Str × Addr)) (fp : List Addr), PTs (X.blk s H sc (compEnvC sc cl C X.env) fp) ifs tt)
    (he : ∀ (s : Shared) (H : Hp) (C : Addr) (cl : List (Str × Addr)) (fp : List Addr), PE (X.blk s H sc (compEnvC sc cl C X.env) fp) elt te) (hs : ∀ x, foldedSetIterable iter X.env x = pure x := by intro _; rfl) :
    PE X (.SetComp elt [⟨tg, iter, ifs, 0⟩] sc pos) (tScI X.w wi g tt te (own.map (·.2))) := by
  refine ⟨fun ps s σ H Q I h => ?_⟩
  rw [PpSet.eval_SetComp]
  refine scI_core calm nd I hi ok hg ht he hs h fun D C s' m H' J q hn f => ⟨m, hn, fun h'' sb => ?_⟩
  obtain ⟨f0, f1, f2, f3, f4, f5⟩ := f
  exact ⟨.ref D, H', J.turned (t' := s'.toks) (fun b o hb e => (sb.2 b hb).trans e) f0 f1 f3 f4 f5, rfl, q⟩
end
/-! ### len(s), s a set of ints -/
def rLenSet (w : World) : List V → Hp → VK → Prop := fun xs H Q => ∃ (a : Addr) (S : Int → Bool) (n : Nat), xs = [.ref a] ∧ H a = some (SetO w a S n) ∧ Q (.int n) H
theorem cr_lenSet {X : Cx} : CallR X (.builtin "len") (rLenSet X.w) := by
  intro ps s σ H xs us Q I r h
  obtain ⟨a, S, n, rfl, ha, q⟩ := h
  rw [Vals.ref1 r]
  obtain ⟨o, es, ep, t, ho, hex, hd, _, _, _, lim, fits, rfl, _⟩ := setO_get I ha
  refine call_len_set ho hex hd fits ?_ ⟨.int es.size, H, I.tok _, ⟨_, rfl⟩, q⟩
  unfold scanBound at lim
  omega
def kinds (l : List Int) : List Int := l.foldl (fun acc x => if x ∈ acc then acc else acc ++ [x]) []
theorem kinds_snoc (l : List Int) (a : Int) : kinds (l ++ [a]) = if a ∈ kinds l then kinds l else kinds l ++ [a] := by
  unfold kinds
  rw [List.foldl_append]
  rfl
theorem mem_kinds {l : List Int} : ∀ {x : Int}, x ∈ l → x ∈ kinds l := by
  have h : ∀ n, ∀ l : List Int, l.length = n → ∀ x ∈ l, x ∈ kinds l := by
    intro n
    induction n with
    | zero =>
      intro l e x hx
      rw [List.length_eq_zero_iff.mp e] at hx
      cases hx
    | succ n ih =>
      intro l e x hx
      rcases List.eq_nil_or_concat l with rfl | ⟨m, a, rfl⟩
      · cases hx
      · rw [List.concat_eq_append] at *
        rw [kinds_snoc]
        rw [List.length_append, List.length_singleton] at e
        rcases List.mem_append.mp hx with h | h
        · have := ih m (by omega) x h
          split
          · exact this
          · exact List.mem_append_left _ this
        · rw [List.mem_singleton.mp h]
          split
          · assumption
          · exact List.mem_append_right _ (List.mem_singleton.mpr rfl)
  exact fun {x} hx => h _ l rfl x hx
theorem kinds_len (l : List Int) : (kinds l).length ≤ l.length := by
  have h : ∀ n, ∀ l : List Int, l.length = n → (kinds l).length ≤ n := by
    intro n
    induction n with
    | zero =>
      intro l e
      rw [List.length_eq_zero_iff.mp e]
      exact Nat.le_refl _
    | succ n ih =>
      intro l e
      rcases List.eq_nil_or_concat l with rfl | ⟨m, a, rfl⟩
      · exact Nat.zero_le _
      · rw [List.concat_eq_append] at *
        rw [kinds_snoc]
        rw [List.length_append, List.length_singleton] at e
        have := ih m (by omega)
        split
        · omega
        · rw [List.length_append, List.length_singleton]
          omega
  exact h _ l rfl
/-- over a list: the set of the made ints, and how many they are -/
theorem scL {w : World} {K : PySem.W.Frag} {a : Addr} {xs : List V} {g : TG} {tt : TT} {te : TE} {us : List Nat} {σ : L2.St} {Ha : Hp} {D : Addr} {Qd : Hp → Prop} (ns : List Int) (nD : Ha D = none) (hl : ∀ H', Same Ha H' → SqL K H' a xs) (ln : xs.length = ns.length) (few : ns.length < 1000)
    (hs : ∀ (i : Nat) (x : V) (y : Int) (H' : Hp) (N : Hp → Prop) (S : Int → Bool) (n : Nat), xs[i]? = some x → ns[i]? = some y → Same Ha H' → H' D = some (SetO w D S n) → n + 1 < scanBound → N (upd H' D (SetO w D (fun i => S i || decide (i = y)) (if S y = true then n else n + 1))) → g x (wipe σ us) H' fun τ Hd => wipe τ us = wipe σ us ∧ tt τ Hd fun b He =>
      if b = true then te τ He fun v Hf => ∃ (c : Int) (S : Int → Bool) (n : Nat), v = .int c ∧ Hf D = some (SetO w D S n) ∧ n + 1 < scanBound ∧ N (upd Hf D (SetO w D (fun i => S i || decide (i = c)) (if S c = true then n else n + 1))) else N He)
    (hd : ∀ H' (S : Int → Bool), Same Ha H' → H' D = some (SetO w D S (kinds ns).length) → Qd H') :
    ∃ W : Nat → Nat → Hp → Prop, (∃ k, W 0 k (upd Ha D (SetO w D (fun _ => false) 0))) ∧ ∀ j k Hb, W j k Hb →
      ((Itl K a).stop j Hb ∧ Qd Hb) ∨ ((Itl K a).go j Hb ∧ ∃ Nx : Hp → Prop, (∀ Hc, Nx Hc → ∃ k', k' < k ∧ W (j + 1) k' Hc) ∧ ∀ x Hc, (Itl K a).yld j Hb x Hc → g x (wipe σ us) Hc fun τ Hd => wipe τ us = wipe σ us ∧ tt τ Hd fun b He =>
        if b = true then te τ He fun y Hf => ∃ (c : Int) (S : Int → Bool) (n : Nat), y = .int c ∧ Hf D = some (SetO w D S n) ∧ n + 1 < scanBound ∧ Nx (upd Hf D (SetO w D (fun i => S i || decide (i = c)) (if S c = true then n else n + 1))) else Nx He) := by
  refine ⟨fun j k H => k = xs.length - j ∧ j ≤ xs.length ∧ Same Ha H ∧ ∃ S, H D = some (SetO w D S (kinds (ns.take j)).length) ∧ ∀ i, S i = true ↔ i ∈ kinds (ns.take j), ⟨xs.length, by simp, Nat.zero_le _, same_new nD, _, upd_same, fun i => by simp [kinds]⟩, ?_⟩
  rintro j k Hb ⟨rfl, hj, sm, S, eD, hS⟩
  have q := hl Hb sm
  by_cases lt : j < xs.length
  · refine .inr ⟨⟨xs, xs[j], q, by simp [lt]⟩, fun H => j + 1 ≤ xs.length ∧ Same Ha H ∧ ∃ S, H D = some (SetO w D S (kinds (ns.take (j + 1))).length) ∧ ∀ i, S i = true ↔ i ∈ kinds (ns.take (j + 1)), fun H' p => ⟨xs.length - (j + 1), by omega, rfl, p⟩, fun x Hc yl => ?_⟩
    obtain ⟨e, yl⟩ := yl
    subst e
    have ey : ns[j]? = some (ns[j]'(by omega)) := List.getElem?_eq_getElem _
    generalize ns[j]'(by omega) = y at ey
    have ek : kinds (ns.take (j + 1)) = if y ∈ kinds (ns.take j) then kinds (ns.take j) else kinds (ns.take j) ++ [y] := by
      rw [List.take_add_one, ey]
      exact kinds_snoc _ _
    have kl := kinds_len (ns.take j)
    have tl := List.length_take_le' j ns
    refine hs j x y Hc _ S _ (yl xs q) ey sm eD (by unfold scanBound; omega) ⟨lt, same_off nD sm, fun i => S i || decide (i = y), upd_same.trans ?_, fun i => ?_⟩
    · have : (if S y = true then (kinds (ns.take j)).length else (kinds (ns.take j)).length + 1) = (kinds (ns.take (j + 1))).length := by
        rw [ek]
        by_cases c : y ∈ kinds (ns.take j)
        · rw [if_pos c, if_pos ((hS y).mpr c)]
        · rw [if_neg c, if_neg (fun z => c ((hS y).mp z)), List.length_append]
          rfl
      rw [this]
    · rw [ek, Bool.or_eq_true, hS i, decide_eq_true_eq]
      by_cases c : y ∈ kinds (ns.take j)
      · rw [if_pos c]
        exact ⟨fun h => h.elim id fun e => e ▸ c, .inl⟩
      · rw [if_neg c, List.mem_append, List.mem_singleton]
  · have e : j = xs.length := by omega
    subst e
    rw [ln, List.take_length] at eD
    exact .inl ⟨⟨xs, q, by omega⟩, hd Hb S sm eD⟩

/-! ### a largest selection: what the program's search returns -/
def lg : Nat → List Dem → List Dem
  | 0, _ => []
  | _ + 1, [] => []
  | n + 1, d :: R =>
    if (kinds (R.map (·.1))).length ≤ (d :: lg n (R.filter fun e => !cf d e)).length then d :: lg n (R.filter fun e => !cf d e)
    else if (d :: lg n (R.filter fun e => !cf d e)).length < (lg n R).length then lg n R else d :: lg n (R.filter fun e => !cf d e)
theorem lg_cons (n : Nat) (d : Dem) (R : List Dem) : lg (n + 1) (d :: R) = if (kinds (R.map (·.1))).length ≤ (d :: lg n (R.filter fun e => !cf d e)).length then d :: lg n (R.filter fun e => !cf d e)
    else if (d :: lg n (R.filter fun e => !cf d e)).length < (lg n R).length then lg n R else d :: lg n (R.filter fun e => !cf d e) := rfl
theorem lg_same : ∀ (n m : Nat) (L : List Dem), L.length ≤ n → L.length ≤ m → lg n L = lg m L
  | 0, 0, _, _, _ => rfl
  | 0, m + 1, L, h, _ => by
    rw [List.length_eq_zero_iff.mp (Nat.le_zero.mp h)]
    rfl
  | n + 1, 0, L, _, h => by
    rw [List.length_eq_zero_iff.mp (Nat.le_zero.mp h)]
    rfl
  | n + 1, m + 1, [], _, _ => rfl
  | n + 1, m + 1, d :: R, h1, h2 => by
    have f := List.length_filter_le (fun e => !cf d e) R
    rw [List.length_cons] at h1 h2
    rw [lg_cons, lg_cons, lg_same n m R (by omega) (by omega), lg_same n m (R.filter fun e => !cf d e) (by omega) (by omega)]
theorem lg_sub : ∀ (n : Nat) (L : List Dem), (lg n L).Sublist L
  | 0, _ => List.nil_sublist _
  | _ + 1, [] => List.Sublist.refl _
  | n + 1, d :: R => by
    have h1 : (d :: lg n (R.filter fun e => !cf d e)).Sublist (d :: R) := ((lg_sub n _).trans List.filter_sublist).cons_cons d
    rw [lg_cons]
    split
    · exact h1
    · split
      · exact (lg_sub n R).cons d
      · exact h1
theorem lg_ind : ∀ (n : Nat) (L : List Dem), Ind (lg n L)
  | 0, _ => List.Pairwise.nil
  | _ + 1, [] => List.Pairwise.nil
  | n + 1, d :: R => by
    have h1 : Ind (d :: lg n (R.filter fun e => !cf d e)) := by
      refine List.pairwise_cons.mpr ⟨fun e he => ?_, lg_ind n _⟩
      have := (List.mem_filter.mp ((lg_sub n _).mem he)).2
      rwa [Bool.not_eq_true'] at this
    rw [lg_cons]
    split
    · exact h1
    · split
      · exact lg_ind n R
      · exact h1
theorem lg_max : ∀ (n : Nat) (L : List Dem), (∀ d ∈ L, Vd d) → L.length ≤ n → ∀ I, Ind I → (∀ d ∈ I, d ∈ L) → I.length ≤ (lg n L).length
  | n, [], _, _, I, _, hI => by
    cases I with
    | nil => exact Nat.zero_le _
    | cons d I => exact absurd (hI d List.mem_cons_self) (fun z => nomatch z)
  | 0, d :: R, _, h, _, _, _ => absurd h (by simp)
  | n + 1, d :: R, hv, hn, I, ii, hI => by
    have f := List.length_filter_le (fun e => !cf d e) R
    rw [List.length_cons] at hn
    have vd := hv d List.mem_cons_self
    have vR : ∀ e ∈ R, Vd e := fun e he => hv e (List.mem_cons_of_mem _ he)
    rw [lg_cons]
    by_cases hd : d ∈ I
    · have pm := List.perm_cons_erase hd
      have ij : Ind (d :: I.erase d) := (pm.pairwise_iff (fun {a b} h => by rw [cf_comm]; exact h)).mp ii
      have pj := List.pairwise_cons.mp ij
      have le := lg_max n (R.filter fun e => !cf d e) (fun e he => vR e (List.mem_filter.mp he).1) (by omega) (I.erase d) pj.2 fun e he => by
        have no := pj.1 e he
        have me := hI e (List.mem_of_mem_erase he)
        rcases List.mem_cons.mp me with rfl | me
        · rw [cf_self vd] at no
          cases no
        · exact List.mem_filter.mpr ⟨me, by rw [no]; rfl⟩
      have l1 := pm.length_eq
      rw [List.length_cons] at l1
      split
      · rw [List.length_cons]
        omega
      · next c =>
        rw [List.length_cons] at *
        split <;> (try rw [List.length_cons]) <;> omega
    · have sub : ∀ e ∈ I, e ∈ R := fun e he => by
        rcases List.mem_cons.mp (hI e he) with rfl | h
        · exact absurd he hd
        · exact h
      split
      · next c =>
        refine Nat.le_trans ?_ c
        have nd : (I.map (·.1)).Nodup := by
          rw [List.Nodup, List.pairwise_map]
          refine List.Pairwise.imp_of_mem (fun {a b} ha hb no e => ?_) ii
          have va := vR a (sub a ha)
          have vb := vR b (sub b hb)
          unfold Vd at va vb
          have : cf a b = true := cf_iff.mpr (by omega)
          rw [this] at no
          cases no
        have := nodup_le nd (m := kinds (R.map (·.1))) fun x hx => by
          obtain ⟨e, he, rfl⟩ := List.mem_map.mp hx
          exact mem_kinds (List.mem_map.mpr ⟨e, sub e he, rfl⟩)
        rwa [List.length_map] at this
      · have le := lg_max n R vR (by omega) I ii sub
        split <;> omega

def sp_conflict : Sp := fun vs H Q _ => ∃ (v1 v2 : V) (p1 lo1 hi1 p2 lo2 hi2 : Int), vs = [v1, v2] ∧ Dm H v1 p1 lo1 hi1 ∧ Dm H v2 p2 lo2 hi2 ∧ Q (.bl (cf (p1, lo1, hi1) (p2, lo2, hi2))) H
theorem cf_at {p1 lo1 hi1 p2 lo2 hi2 : Int} : cf (p1, lo1, hi1) (p2, lo2, hi2) = (atP lo2 hi2 p1 && atP lo1 hi1 p2) := by
  rw [Bool.eq_iff_iff, cf_iff, Bool.and_eq_true]
  unfold atP
  rw [Bool.and_eq_true, Bool.and_eq_true, decide_eq_true_eq, decide_eq_true_eq, decide_eq_true_eq, decide_eq_true_eq]
theorem ok_conflict (T : Tx K mg f_is_number f_is_position f_is_tuple_of f_is_interval f_ascending_error f_targets_error f_is_pieces f_has_position f_contains f_pieces_inside f_first_gap f_find_missing f_without_item f_with_interval f_without_interval f_edited_state f_depth_changes f_find_blocks f_serves f_conflict f_demands_at_blocks f_is_open f_open_demands f_shadow_target f_require_few_blocks f_decisive_demands f_largest_independent f_unserved_demands f_helpful_piece f_smallest_solution f_count_needed f_solve f_law_deck f_law_draw f_law_line f_law_interval f_law_intervals f_law_served f_law_options f_law_conflict f_law_most f_law_needed f_law_edit f_law_after f_law_do f_law_begun f_law_generated f_law_solution_right f_law f_Plan_init f_Plan_add_target f_Plan_add_piece f_Plan_remove_target f_Plan_remove_piece f_Plan_targets f_Plan_pieces f_Plan_needed f_Plan_solution f_Plan_missing f_Plan_edit f_Plan_record f_Plan_require_idle f_Plan_state_at f_Plan_len f_Plan_str f_Plan_eq C_Plan d_is_number d_is_position d_is_tuple_of d_is_interval d_ascending_error d_targets_error d_is_pieces d_has_position d_contains d_pieces_inside d_first_gap d_find_missing d_without_item d_with_interval d_without_interval d_edited_state d_depth_changes d_find_blocks d_serves d_conflict d_demands_at_blocks d_is_open d_open_demands d_shadow_target d_require_few_blocks d_decisive_demands d_largest_independent d_unserved_demands d_helpful_piece d_smallest_solution d_count_needed d_solve d_law_deck d_law_draw d_law_line d_law_interval d_law_intervals d_law_served d_law_options d_law_conflict d_law_most d_law_needed d_law_edit d_law_after d_law_do d_law_begun d_law_generated d_law_solution_right d_law d_Plan_init d_Plan_add_target d_Plan_add_piece d_Plan_remove_target d_Plan_remove_piece d_Plan_targets d_Plan_pieces d_Plan_needed d_Plan_solution d_Plan_missing d_Plan_edit d_Plan_record d_Plan_require_idle d_Plan_state_at d_Plan_len d_Plan_str d_Plan_eq t_LAST_POSITION t_MAX_TARGETS t_MAX_PIECES t_MAX_BLOCKS t_MAX_EDITS) : FnOk P w K mg base CX0 2 f_conflict d_conflict ["first", "second"] sp_conflict := by
  refine T.F_conflict.ok sc_conflict (fun vs H Q E h => ?_) (fun cdv A outer s H vs Q E hr h => ?_)
  · obtain ⟨v1, v2, p1, lo1, hi1, p2, lo2, hi2, rfl, _⟩ := h
    rfl
  · obtain ⟨v1, v2, p1, lo1, hi1, p2, lo2, hi2, rfl, d1, d2, q⟩ := h
    refine ⟨_, (pss_one (ps_ret (pe_and (pe_call (ok_has_position T) (hr.mono (by decide)) (by rfl) T.g_has_position T.F_has_position.kp T.b_has_position .nil pass0 (pa_cons (pe_ix ix_tup (pv 1) pe_int (fun _ _ => rfl)) (pa_cons (pe_ix ix_tup (pv 0) pe_int (fun _ _ => rfl)) pa_nil))) (pe_one (pe_call (ok_has_position T) (hr.mono (by decide)) (by rfl) T.g_has_position T.F_has_position.kp T.b_has_position .nil pass0 (pa_cons (pe_ix ix_tup (pv 0) pe_int (fun _ _ => rfl)) (pa_cons (pe_ix ix_tup (pv 1) pe_int (fun _ _ => rfl)) pa_nil))))))), ?_⟩
    obtain ⟨u1, t1, rfl, e11, e12⟩ := d1.ex
    obtain ⟨u2, t2, rfl, e21, e22⟩ := d2.ex
    rw [cf_at] at q
    refine ⟨.ref u2, rfl, u2, _, 1, .ref t2, rfl, rfl, SqT.of e21, rfl, .ref u1, rfl, u1, _, 0, .int p1, rfl, rfl, SqT.of e11, rfl, t2, lo2, hi2, p1, rfl, e22, _, rfl, ite2 (fun c => ?_) (fun c => ?_)⟩
    · refine ⟨.ref u1, rfl, u1, _, 1, .ref t1, rfl, rfl, SqT.of e11, rfl, .ref u2, rfl, u2, _, 0, .int p2, rfl, rfl, SqT.of e21, rfl, t1, lo1, hi1, p2, rfl, e12, ?_⟩
      rw [c] at q
      exact q
    · rw [Bool.not_eq_true] at c
      rw [c] at q
      exact q
def sp_lg (n : Nat) : Sp := fun vs H Q _ => ∃ (D : Addr) (zs : List V) (ds : List Dem), vs = [.ref D] ∧ H D = some (.lst zs) ∧ Dms H zs ds ∧ ds.length ≤ n ∧ ds.length < 1000 ∧
  ∀ H' p ws, Same H H' → H' p = some (.tup ws) → Dms H' ws (lg ds.length ds) → Q (.ref p) H'
def sp_lgP : Nat → Sp
  | 0 => fun _ _ _ _ => False
  | n + 1 => sp_lg n
theorem Dms.sub {H : Hp} {vs : List V} {ds : List Dem} (h : Dms H vs ds) : ∀ {v : V} {d : Dem} {us : List V} {es : List Dem}, vs = v :: us → ds = d :: es → Dm H v d.1 d.2.1 d.2.2 ∧ Dms H us es := by
  intro v d us es e1 e2
  cases h with
  | nil => cases e1
  | cons x y =>
    cases e1
    cases e2
    exact ⟨x, y⟩
theorem lg_step (T : Tx K mg f_is_number f_is_position f_is_tuple_of f_is_interval f_ascending_error f_targets_error f_is_pieces f_has_position f_contains f_pieces_inside f_first_gap f_find_missing f_without_item f_with_interval f_without_interval f_edited_state f_depth_changes f_find_blocks f_serves f_conflict f_demands_at_blocks f_is_open f_open_demands f_shadow_target f_require_few_blocks f_decisive_demands f_largest_independent f_unserved_demands f_helpful_piece f_smallest_solution f_count_needed f_solve f_law_deck f_law_draw f_law_line f_law_interval f_law_intervals f_law_served f_law_options f_law_conflict f_law_most f_law_needed f_law_edit f_law_after f_law_do f_law_begun f_law_generated f_law_solution_right f_law f_Plan_init f_Plan_add_target f_Plan_add_piece f_Plan_remove_target f_Plan_remove_piece f_Plan_targets f_Plan_pieces f_Plan_needed f_Plan_solution f_Plan_missing f_Plan_edit f_Plan_record f_Plan_require_idle f_Plan_state_at f_Plan_len f_Plan_str f_Plan_eq C_Plan d_is_number d_is_position d_is_tuple_of d_is_interval d_ascending_error d_targets_error d_is_pieces d_has_position d_contains d_pieces_inside d_first_gap d_find_missing d_without_item d_with_interval d_without_interval d_edited_state d_depth_changes d_find_blocks d_serves d_conflict d_demands_at_blocks d_is_open d_open_demands d_shadow_target d_require_few_blocks d_decisive_demands d_largest_independent d_unserved_demands d_helpful_piece d_smallest_solution d_count_needed d_solve d_law_deck d_law_draw d_law_line d_law_interval d_law_intervals d_law_served d_law_options d_law_conflict d_law_most d_law_needed d_law_edit d_law_after d_law_do d_law_begun d_law_generated d_law_solution_right d_law d_Plan_init d_Plan_add_target d_Plan_add_piece d_Plan_remove_target d_Plan_remove_piece d_Plan_targets d_Plan_pieces d_Plan_needed d_Plan_solution d_Plan_missing d_Plan_edit d_Plan_record d_Plan_require_idle d_Plan_state_at d_Plan_len d_Plan_str d_Plan_eq t_LAST_POSITION t_MAX_TARGETS t_MAX_PIECES t_MAX_BLOCKS t_MAX_EDITS) (n : Nat) (ih : FnOk P w K mg base CX0 (n + 3) f_largest_independent d_largest_independent ["demands"] (sp_lgP n)) : FnOk P w K mg base CX0 (n + 4) f_largest_independent d_largest_independent ["demands"] (sp_lg n) := by
  refine T.F_largest_independent.ok sc_largest_independent (fun vs H Q E h => ?_) (fun cdv A outer s H vs Q E hr h => ?_)
  · obtain ⟨D, zs, ds, rfl, _⟩ := h
    rfl
  · obtain ⟨D, zs, ds, rfl, hD, dm, ln, few, q⟩ := h
    refine ⟨_, (pss_cons (ps_if (pt_not (pt_truth (pv 0) (by intro _; rfl)))
      (pss_one (ps_ret (pe_tup pa_nil)))
      pss_nil)
      (pss_cons (ps_asg (pe_tup (pa_cons (pe_ix ix_list (pv 0) pe_int (fun _ _ => rfl)) (pa_cons (pe_slice sl_list (pv 0) (po_some pe_int) po_none) pa_nil))) (pg_tup rfl (pgs_cons (pg_name (i := 1) sc_largest_independent.nd rfl (Or.inr rfl)) (pgs_cons (pg_name (i := 2) sc_largest_independent.nd rfl (Or.inl rfl)) pgs_nil))))
      (pss_cons (ps_set (i := 3) sc_largest_independent.nd rfl (Or.inl rfl) (pe_op op_catA (pe_tup (pa_cons (pv 1) pa_nil)) (pe_call ih (hr.mono (by omega)) (by rfl) T.g_largest_independent T.F_largest_independent.kp T.b_largest_independent .nil pass0 (pa_cons (pe_lc (own := [("demand", 4)]) (g := (gName 4)) (by rfl) sc_largest_independent.nd (pi_list (pv 2)) (blkOk_by (own := [("demand", 4)]) (N := N_largest_independent) (sc := defScope s_largest_independent) (by decide +kernel)) (fun _ _ _ _ _ => (pg_name (i := 4) sc_largest_independent.nd rfl (Or.inl rfl))) (fun _ _ _ _ _ => pts_one (pt_not (pt_val (pe_call (ok_conflict T) (hr.mono (by omega)) (by rfl) T.g_conflict T.F_conflict.kp T.b_conflict .nil pass0 (pa_cons (pv 1) (pa_cons (pv 4) pa_nil)))))) (fun _ _ _ _ _ => (pv 4))) pa_nil))))
      (pss_cons (ps_if (pt_cmpR op_ge (pe_callB call_len_seq (by rfl) T.z_len PySem.boot_len (pa_cons (pv 3) pa_nil)) (pe_callB cr_lenSet (by rfl) T.z_len PySem.boot_len (pa_cons (pe_scI (own := [("position", 5), ("target", 6)]) (g := (gTup K 2 (gCons (gName 5) (gCons (gName 6) gNil)))) (tt := tYes) (by rfl) sc_largest_independent.nd (pi_list (pv 2)) (blkOk_by (own := [("position", 5), ("target", 6)]) (N := N_largest_independent) (sc := defScope s_largest_independent) (by decide +kernel)) (fun _ _ _ _ _ => (pg_tup rfl (pgs_cons (pg_name (i := 5) sc_largest_independent.nd rfl (Or.inl rfl)) (pgs_cons (pg_name (i := 6) sc_largest_independent.nd rfl (Or.inl rfl)) pgs_nil)))) (fun _ _ _ _ _ => pts_nil) (fun _ _ _ _ _ => (pv 5))) pa_nil)) (nomark _))
      (pss_one (ps_ret (pv 3)))
      pss_nil)
      (pss_one (ps_ret (pe_maxLen rfl (by rfl) T.z_max (by rfl) T.z_len (pa_cons (pe_lst (pa_cons (pv 3) (pa_cons (pe_call ih (hr.mono (by omega)) (by rfl) T.g_largest_independent T.F_largest_independent.kp T.b_largest_independent .nil pass0 (pa_cons (pv 2) pa_nil)) pa_nil))) pa_nil)))))))), ?_⟩
    have lz := dm.length
    refine ⟨.ref D, rfl, !zs.isEmpty, .inl ⟨_, SqL.of hD, rfl⟩, ?_⟩
    match zs, ds, dm with
    | [], [], _ =>
      refine iteT ⟨by show 0 ≤ sizeLine; decide, fun p np => ?_⟩
      exact q _ p [] (same_new np) upd_same .nil
    | v :: zs, d :: ds, dm =>
    obtain ⟨dv, dr⟩ := dm.sub rfl rfl
    refine iteF ?_
    rw [List.length_cons] at ln few
    obtain ⟨m, rfl⟩ : ∃ m, n = m + 1 := ⟨n - 1, by omega⟩
    have lz2 := dr.length
    refine ⟨.ref D, rfl, D, _, 0, v, rfl, rfl, SqL.of hD, (show atI (v :: zs) ((0 : Nat) : Int) = some v from atI_nat rfl), .ref D, rfl, 1, rfl, D, _, rfl, SqL.of hD, fun R nR => ?_⟩
    rw [show cutV (v :: zs) (some 1) none = zs from cutFrom (v :: zs) 1]
    have s1 := same_new (o := .lst zs) nR
    have eR := upd_same (H := H) (a := R) (o := .lst zs)
    generalize upd H R (.lst zs) = H1 at *
    refine ⟨by show 2 ≤ sizeLine; decide, fun tp ntp => ?_⟩
    have s2 := same_new (o := .tup [v, .ref R]) ntp
    have etp := upd_same (H := H1) (a := tp) (o := .tup [v, .ref R])
    generalize upd H1 tp (.tup [v, .ref R]) = H2 at *
    refine ⟨tp, _, rfl, SqT.of etp, rfl, v, [.ref R], rfl, .ref R, [], rfl, rfl, ?_⟩
    have s12 := s1.trans s2
    have eR2 := s2 _ _ eR
    have dv2 := dv.same s12
    have dr2 := dr.same s12
    -- (first,)
    refine ⟨v, rfl, by show 1 ≤ sizeLine; decide, fun u nu => ?_⟩
    have s3 := same_new (o := .tup [v]) nu
    have eu := upd_same (H := H2) (a := u) (o := .tup [v])
    generalize upd H2 u (.tup [v]) = H3 at *
    have eR3 := s3 _ _ eR2
    have dv3 := dv2.same s3
    have dr3 := dr2.same s3
    refine ⟨.ref R, rfl, R, rfl, ⟨_, SqL.of eR3⟩, fun D2 nD2 => ?_⟩
    refine lcL (K := K) (a := R) (xs := zs) (fun j H' ws => Dms H' ws ((ds.take j).filter fun e => !cf d e)) nD2 (fun H' s => SqL.of (s _ _ (eR3))) (by omega) (fun _ _ _ _ t r => r.tps t) (fun j H' ws r => (by rw [r.length]; exact Nat.le_trans (List.length_filter_le _ _) (List.length_take_le _ _))) (fun _ => .nil) ?_ ?_
    · rintro j z H' N acc hj sj eA sz r no yes
      obtain ⟨p, lo, hi, ed, dz⟩ := dr3.get hj
      refine ⟨rfl, v, rfl, z, rfl, v, z, d.1, d.2.1, d.2.2, p, lo, hi, rfl, dv3.same sj, dz.same sj, _, rfl, ite2 (fun c => ?_) (fun c => ?_)⟩
      · refine ⟨z, rfl, yes H' _ (Same.refl _) ?_⟩
        rw [take_filter ed, if_pos c]
        exact r.snoc (dz.same sj)
      · refine no H' (Same.refl _) ?_
        rw [take_filter ed, if_neg c, List.append_nil]
        exact r
    intro H4 ws s4 eD2 r
    rw [lz2, List.take_length] at r
    have fl := List.length_filter_le (fun e => !cf d e) ds
    refine ⟨D2, ws, _, rfl, eD2, r, Nat.le_trans fl (by omega), Nat.lt_of_le_of_lt fl (by omega), fun H5 cp cws s5 ecp dmc => ?_⟩
    rw [lg_same _ ds.length _ (Nat.le_refl _) fl] at dmc
    have s35 := s4.trans s5
    have llg := (lg_sub ds.length (ds.filter fun e => !cf d e)).length_le
    have lcw := dmc.length
    refine catA_any (s35 _ _ eu) ecp (by rw [show sizeLine = 16777216 by decide]; show 1 + _ ≤ _; omega) (fun H6 ch s6 ech => ?_)
    have s36 := s35.trans s6
    have dch : Dms H6 ([v] ++ cws) (d :: lg ds.length (ds.filter fun e => !cf d e)) := .cons (dv3.same s36) (dmc.same s6)
    have eR6 := s36 _ _ eR3
    have dr6 := dr3.same s36
    have s06 := s12.trans (s3.trans s36)
    have lch := dch.length
    generalize [v] ++ cws = vch at *
    have eq := lg_cons ds.length d ds
    generalize hch : d :: lg ds.length (ds.filter fun e => !cf d e) = och at *
    refine ⟨.ref ch, rfl, ch, vch, rfl, .inr (SqT.of ech), ?_⟩
    refine ⟨.ref R, rfl, R, rfl, ⟨_, SqL.of eR6⟩, fun D3 nD3 => ?_⟩
    refine scL (K := K) (a := R) (xs := zs) (ds.map (·.1)) nD3 (fun H' s => SqL.of (s _ _ eR6)) (by rw [List.length_map]; exact lz2) (by rw [List.length_map]; omega) ?_ ?_
    · rintro i z y H' N S k hz hy sj eS lim nx
      obtain ⟨p, lo, hi, ed, dz⟩ := dr6.get hz
      rw [List.getElem?_map, ed] at hy
      cases hy
      obtain ⟨uz, tz, rfl, h1, h2⟩ := (dz.same sj).ex
      exact ⟨uz, _, rfl, SqT.of h1, rfl, .int p, [.ref tz], rfl, .ref tz, [], rfl, rfl, rfl, .int p, rfl, p, S, k, rfl, eS, lim, nx⟩
    intro H7 S s7 eD3
    dsimp only [tNil]
    refine ⟨D3, S, _, rfl, eD3, ?_⟩
    have s07 := s06.trans s7
    refine ⟨_, _, rfl, rfl, _, rfl, ite2 (fun c => ?_) (fun c => ?_)⟩
    · have c := of_decide_eq_true c
      have c2 : (kinds (ds.map (·.1))).length ≤ och.length := by
        rw [← lch]
        exact Int.ofNat_le.mp c
      refine ⟨.ref ch, rfl, ?_⟩
      refine q H7 ch vch s07 (s7 _ _ ech) ?_
      show Dms H7 vch (lg (ds.length + 1) (d :: ds))
      rw [eq, if_pos c2]
      exact dch.same s7
    · have c := of_decide_eq_false (Bool.not_eq_true _ ▸ c)
      have c2 : ¬ (kinds (ds.map (·.1))).length ≤ och.length := fun z => c (by
        rw [← lch] at z
        exact Int.ofNat_le.mpr z)
      refine ⟨.ref ch, rfl, .ref R, rfl, R, zs, ds, rfl, s7 _ _ eR6, dr6.same s7, by omega, by omega, fun H8 o wo s8 eo dmo => ?_⟩
      have lo2 := dmo.length
      refine ⟨by show 2 ≤ sizeLine; decide, fun ml nml => ?_⟩
      have s9 := same_new (o := .lst [.ref ch, .ref o]) nml
      have eml := upd_same (H := H8) (a := ml) (o := .lst [.ref ch, .ref o])
      generalize upd H8 ml (.lst [.ref ch, .ref o]) = H9 at *
      dsimp only [tNil]
      have s79 := s8.trans s9
      refine ⟨ml, ch, o, vch, wo, rfl, SqL.of eml, SqT.of (s79 _ _ (s7 _ _ ech)), SqT.of (s9 _ _ eo), ?_⟩
      have fin : Dms H9 (if vch.length < wo.length then wo else vch) (lg (ds.length + 1) (d :: ds)) := by
        rw [eq, if_neg c2, lch, lo2]
        split
        · exact dmo.same s9
        · exact dch.same (s7.trans s79)
      refine q H9 _ _ (s07.trans s79) ?_ fin
      split
      · exact s9 _ _ eo
      · exact s79 _ _ (s7 _ _ ech)
theorem lg_all (T : Tx K mg f_is_number f_is_position f_is_tuple_of f_is_interval f_ascending_error f_targets_error f_is_pieces f_has_position f_contains f_pieces_inside f_first_gap f_find_missing f_without_item f_with_interval f_without_interval f_edited_state f_depth_changes f_find_blocks f_serves f_conflict f_demands_at_blocks f_is_open f_open_demands f_shadow_target f_require_few_blocks f_decisive_demands f_largest_independent f_unserved_demands f_helpful_piece f_smallest_solution f_count_needed f_solve f_law_deck f_law_draw f_law_line f_law_interval f_law_intervals f_law_served f_law_options f_law_conflict f_law_most f_law_needed f_law_edit f_law_after f_law_do f_law_begun f_law_generated f_law_solution_right f_law f_Plan_init f_Plan_add_target f_Plan_add_piece f_Plan_remove_target f_Plan_remove_piece f_Plan_targets f_Plan_pieces f_Plan_needed f_Plan_solution f_Plan_missing f_Plan_edit f_Plan_record f_Plan_require_idle f_Plan_state_at f_Plan_len f_Plan_str f_Plan_eq C_Plan d_is_number d_is_position d_is_tuple_of d_is_interval d_ascending_error d_targets_error d_is_pieces d_has_position d_contains d_pieces_inside d_first_gap d_find_missing d_without_item d_with_interval d_without_interval d_edited_state d_depth_changes d_find_blocks d_serves d_conflict d_demands_at_blocks d_is_open d_open_demands d_shadow_target d_require_few_blocks d_decisive_demands d_largest_independent d_unserved_demands d_helpful_piece d_smallest_solution d_count_needed d_solve d_law_deck d_law_draw d_law_line d_law_interval d_law_intervals d_law_served d_law_options d_law_conflict d_law_most d_law_needed d_law_edit d_law_after d_law_do d_law_begun d_law_generated d_law_solution_right d_law d_Plan_init d_Plan_add_target d_Plan_add_piece d_Plan_remove_target d_Plan_remove_piece d_Plan_targets d_Plan_pieces d_Plan_needed d_Plan_solution d_Plan_missing d_Plan_edit d_Plan_record d_Plan_require_idle d_Plan_state_at d_Plan_len d_Plan_str d_Plan_eq t_LAST_POSITION t_MAX_TARGETS t_MAX_PIECES t_MAX_BLOCKS t_MAX_EDITS) : ∀ n : Nat, FnOk P w K mg base CX0 (n + 4) f_largest_independent d_largest_independent ["demands"] (sp_lg n)
  | 0 => lg_step T 0 ⟨fun _ _ _ _ h => h.elim, fun _ _ _ _ _ _ _ _ _ _ _ _ _ h => h.elim⟩
  | n + 1 => lg_step T (n + 1) (lg_all T n)
theorem ok_largest_independent (T : Tx K mg f_is_number f_is_position f_is_tuple_of f_is_interval f_ascending_error f_targets_error f_is_pieces f_has_position f_contains f_pieces_inside f_first_gap f_find_missing f_without_item f_with_interval f_without_interval f_edited_state f_depth_changes f_find_blocks f_serves f_conflict f_demands_at_blocks f_is_open f_open_demands f_shadow_target f_require_few_blocks f_decisive_demands f_largest_independent f_unserved_demands f_helpful_piece f_smallest_solution f_count_needed f_solve f_law_deck f_law_draw f_law_line f_law_interval f_law_intervals f_law_served f_law_options f_law_conflict f_law_most f_law_needed f_law_edit f_law_after f_law_do f_law_begun f_law_generated f_law_solution_right f_law f_Plan_init f_Plan_add_target f_Plan_add_piece f_Plan_remove_target f_Plan_remove_piece f_Plan_targets f_Plan_pieces f_Plan_needed f_Plan_solution f_Plan_missing f_Plan_edit f_Plan_record f_Plan_require_idle f_Plan_state_at f_Plan_len f_Plan_str f_Plan_eq C_Plan d_is_number d_is_position d_is_tuple_of d_is_interval d_ascending_error d_targets_error d_is_pieces d_has_position d_contains d_pieces_inside d_first_gap d_find_missing d_without_item d_with_interval d_without_interval d_edited_state d_depth_changes d_find_blocks d_serves d_conflict d_demands_at_blocks d_is_open d_open_demands d_shadow_target d_require_few_blocks d_decisive_demands d_largest_independent d_unserved_demands d_helpful_piece d_smallest_solution d_count_needed d_solve d_law_deck d_law_draw d_law_line d_law_interval d_law_intervals d_law_served d_law_options d_law_conflict d_law_most d_law_needed d_law_edit d_law_after d_law_do d_law_begun d_law_generated d_law_solution_right d_law d_Plan_init d_Plan_add_target d_Plan_add_piece d_Plan_remove_target d_Plan_remove_piece d_Plan_targets d_Plan_pieces d_Plan_needed d_Plan_solution d_Plan_missing d_Plan_edit d_Plan_record d_Plan_require_idle d_Plan_state_at d_Plan_len d_Plan_str d_Plan_eq t_LAST_POSITION t_MAX_TARGETS t_MAX_PIECES t_MAX_BLOCKS t_MAX_EDITS) : FnOk P w K mg base CX0 (lgN + 4) f_largest_independent d_largest_independent ["demands"] (sp_lg lgN) := lg_all T lgN

theorem find_step {f : Int × Int → Bool} {ps : List (Int × Int)} {i : Nat} {q : Int × Int} (e : ps[i]? = some q) : (ps.drop i).find? f = if f q = true then some q else (ps.drop (i + 1)).find? f := by
  obtain ⟨hi, rfl⟩ := List.getElem?_eq_some_iff.mp e
  rw [List.drop_eq_getElem_cons hi, List.find?_cons]
  cases f ps[i] <;> rfl
theorem eqv_pair (x y u v : Int) : PyData.eqv (.tuple [.int x, .int y]) (.tuple [.int u, .int v]) = decide ((x, y) = (u, v)) := by
  show ((x == u) && ((y == v) && true)) = decide ((x, y) = (u, v))
  rw [Bool.and_true, Bool.eq_iff_iff, Bool.and_eq_true, beq_iff_eq, beq_iff_eq, decide_eq_true_eq, Prod.mk.injEq]
def shB (p lo hi : Int) (q : Int × Int) : Bool := !decide (q = (lo, hi)) && (inI lo hi q.1 q.2 && atP q.1 q.2 p)
def sp_shadow_target : Sp := fun vs H Q _ => ∃ (a : Addr) (us : List V) (ps : List (Int × Int)) (v : V) (p lo hi : Int), vs = [.ref a, v] ∧ H a = some (.tup us) ∧ Ivs H us ps ∧ Dm H v p lo hi ∧ ∀ r, OV H r (ps.find? (shB p lo hi)) → Q r H
theorem ok_shadow_target (T : Tx K mg f_is_number f_is_position f_is_tuple_of f_is_interval f_ascending_error f_targets_error f_is_pieces f_has_position f_contains f_pieces_inside f_first_gap f_find_missing f_without_item f_with_interval f_without_interval f_edited_state f_depth_changes f_find_blocks f_serves f_conflict f_demands_at_blocks f_is_open f_open_demands f_shadow_target f_require_few_blocks f_decisive_demands f_largest_independent f_unserved_demands f_helpful_piece f_smallest_solution f_count_needed f_solve f_law_deck f_law_draw f_law_line f_law_interval f_law_intervals f_law_served f_law_options f_law_conflict f_law_most f_law_needed f_law_edit f_law_after f_law_do f_law_begun f_law_generated f_law_solution_right f_law f_Plan_init f_Plan_add_target f_Plan_add_piece f_Plan_remove_target f_Plan_remove_piece f_Plan_targets f_Plan_pieces f_Plan_needed f_Plan_solution f_Plan_missing f_Plan_edit f_Plan_record f_Plan_require_idle f_Plan_state_at f_Plan_len f_Plan_str f_Plan_eq C_Plan d_is_number d_is_position d_is_tuple_of d_is_interval d_ascending_error d_targets_error d_is_pieces d_has_position d_contains d_pieces_inside d_first_gap d_find_missing d_without_item d_with_interval d_without_interval d_edited_state d_depth_changes d_find_blocks d_serves d_conflict d_demands_at_blocks d_is_open d_open_demands d_shadow_target d_require_few_blocks d_decisive_demands d_largest_independent d_unserved_demands d_helpful_piece d_smallest_solution d_count_needed d_solve d_law_deck d_law_draw d_law_line d_law_interval d_law_intervals d_law_served d_law_options d_law_conflict d_law_most d_law_needed d_law_edit d_law_after d_law_do d_law_begun d_law_generated d_law_solution_right d_law d_Plan_init d_Plan_add_target d_Plan_add_piece d_Plan_remove_target d_Plan_remove_piece d_Plan_targets d_Plan_pieces d_Plan_needed d_Plan_solution d_Plan_missing d_Plan_edit d_Plan_record d_Plan_require_idle d_Plan_state_at d_Plan_len d_Plan_str d_Plan_eq t_LAST_POSITION t_MAX_TARGETS t_MAX_PIECES t_MAX_BLOCKS t_MAX_EDITS) : FnOk P w K mg base CX0 2 f_shadow_target d_shadow_target ["targets", "demand"] sp_shadow_target := by
  refine T.F_shadow_target.ok sc_shadow_target (fun vs H Q E h => ?_) (fun cdv A outer s H vs Q E hr h => ?_)
  · obtain ⟨a, us, ps, v, p, lo, hi, rfl, _⟩ := h
    rfl
  · obtain ⟨a, us, ps, v, p, lo, hi, rfl, ha, iv, dm, q⟩ := h
    obtain ⟨u, t, rfl, e1, e2⟩ := dm.ex
    refine ⟨_, (pss_cons (ps_asg (pv 1) (pg_tup rfl (pgs_cons (pg_name (i := 2) sc_shadow_target.nd rfl (Or.inl rfl)) (pgs_cons (pg_name (i := 3) sc_shadow_target.nd rfl (Or.inl rfl)) pgs_nil))))
      (pss_cons (ps_for PassesOwn.never rfl (pi_tup (pv 0)) (pg_name (i := 4) sc_shadow_target.nd rfl (Or.inl rfl))
      (pss_one (ps_if (PW.pt (pw_and (pt_cmpR (op_neD hr.units) (pv 4) (pv 3) (nomark _)) (pw_and (pt_val (pe_call (ok_contains T) (hr.mono (by decide)) (by rfl) T.g_contains T.F_contains.kp T.b_contains .nil pass0 (pa_cons (pv 3) (pa_cons (pv 4) pa_nil)))) (pw_and1 (pt_val (pe_call (ok_has_position T) (hr.mono (by decide)) (by rfl) T.g_has_position T.F_has_position.kp T.b_has_position .nil pass0 (pa_cons (pv 4) (pa_cons (pv 2) pa_nil))))))))
      (pss_one (ps_ret (pv 4)))
      pss_nil)))
      (pss_one (ps_ret pe_non)))), ?_⟩
    refine ⟨.ref u, rfl, u, _, rfl, SqT.of e1, rfl, .int p, [.ref t], rfl, .ref t, [], rfl, rfl, ?_⟩
    refine ⟨.ref a, rfl, a, rfl, ⟨_, SqT.of ha⟩, for_tup (K := K) (a := a) (xs := us) (fun i σ H' => H' = H ∧ ps.find? (shB p lo hi) = (ps.drop i).find? (shB p lo hi) ∧ ∃ y, σ = [some (.ref a), some (.ref u), some (.int p), some (.ref t), y]) ⟨rfl, rfl, _, rfl⟩ (fun i σ H' _ h => by rw [h.1]; exact SqT.of ha) ?_ ?_⟩
    · rintro i x σ H' hi2 ⟨rfl, ef, y, rfl⟩
      obtain ⟨b, x, z, rfl, ep, hb⟩ := iv.get hi2
      rw [find_step ep] at ef
      have no : ¬ shB p lo hi (x, z) = true → ps.find? (shB p lo hi) = (ps.drop (i + 1)).find? (shB p lo hi) := fun e => by
        rw [if_neg e] at ef
        exact ef
      refine ⟨.ref b, rfl, .ref t, rfl, _, _, dp2 hb, dp2 e2, rfl, rfl, _, rfl, ?_⟩
      rw [eqv_pair]
      refine ite2 (fun c1 => ?_) (fun c1 => ?_)
      · refine ⟨.ref t, rfl, .ref b, rfl, t, b, lo, hi, x, z, rfl, e2, hb, _, rfl, ite2 (fun c2 => ?_) (fun c2 => ?_)⟩
        · refine ⟨.ref b, rfl, .int p, rfl, b, x, z, p, rfl, hb, _, rfl, ite2 (fun c3 => ?_) (fun c3 => ?_)⟩
          · refine ⟨.ref b, rfl, q _ ?_⟩
            have e : shB p lo hi (x, z) = true := by
              unfold shB
              rw [c1, c2, c3]
              rfl
            rw [ef, if_pos e]
            exact ⟨b, rfl, hb⟩
          · refine ⟨rfl, no fun e => c3 ?_, _, rfl⟩
            unfold shB at e
            exact (Bool.and_eq_true_iff.mp (Bool.and_eq_true_iff.mp e).2).2
        · refine iteF ⟨rfl, no fun e => c2 ?_, _, rfl⟩
          unfold shB at e
          exact (Bool.and_eq_true_iff.mp (Bool.and_eq_true_iff.mp e).2).1
      · refine iteF ⟨rfl, no fun e => c1 ?_, _, rfl⟩
        unfold shB at e
        exact (Bool.and_eq_true_iff.mp e).1
    · rintro σ H' ⟨rfl, ef, y, rfl⟩
      refine q _ ?_
      rw [ef, iv.length, List.drop_length]
      rfl

/-! ### the demands that decide -/
def decO (ts ps : List (Int × Int)) : List Dem := ((dab ts (blocksOf (ts ++ ps))).filter (opB ps)).filter fun d => (ts.find? (shB d.1 d.2.1 d.2.2)).isNone
def needO (ts ps : List (Int × Int)) : Nat := (lg (decO ts ps).length (decO ts ps)).length
theorem OV.isN {H : Hp} {r : V} {o : Option (Int × Int)} (h : OV H r o) : decide (r = .non) = o.isNone := by
  match o, h with
  | none, h =>
    cases h
    rfl
  | some (x, y), h =>
    obtain ⟨t, e, _⟩ := h
    rw [e]
    exact decide_eq_false (fun z => by cases z)
theorem decO_len {ts ps : List (Int × Int)} : (decO ts ps).length ≤ (blocksOf (ts ++ ps)).length * ts.length := by
  unfold decO
  exact Nat.le_trans (List.length_filter_le _ _) (Nat.le_trans (List.length_filter_le _ _) dab_len)
def sp_decisive : Sp := fun vs H Q _ => ∃ (a b : Addr) (us ws : List V) (ts ps : List (Int × Int)), vs = [.ref a, .ref b] ∧ H a = some (.tup us) ∧ H b = some (.tup ws) ∧ Ivs H us ts ∧ Ivs H ws ps ∧ Good (ts ++ ps) ∧ ts.length ≤ 30 ∧ FewK (ts ++ ps) ∧ (blocksOf (ts ++ ps)).length ≤ 8 ∧
  ∀ H' p zs, Same H H' → H p = none → H' p = some (.lst zs) → Dms H' zs (decO ts ps) → Q (.ref p) H'
theorem ok_decisive_demands (T : Tx K mg f_is_number f_is_position f_is_tuple_of f_is_interval f_ascending_error f_targets_error f_is_pieces f_has_position f_contains f_pieces_inside f_first_gap f_find_missing f_without_item f_with_interval f_without_interval f_edited_state f_depth_changes f_find_blocks f_serves f_conflict f_demands_at_blocks f_is_open f_open_demands f_shadow_target f_require_few_blocks f_decisive_demands f_largest_independent f_unserved_demands f_helpful_piece f_smallest_solution f_count_needed f_solve f_law_deck f_law_draw f_law_line f_law_interval f_law_intervals f_law_served f_law_options f_law_conflict f_law_most f_law_needed f_law_edit f_law_after f_law_do f_law_begun f_law_generated f_law_solution_right f_law f_Plan_init f_Plan_add_target f_Plan_add_piece f_Plan_remove_target f_Plan_remove_piece f_Plan_targets f_Plan_pieces f_Plan_needed f_Plan_solution f_Plan_missing f_Plan_edit f_Plan_record f_Plan_require_idle f_Plan_state_at f_Plan_len f_Plan_str f_Plan_eq C_Plan d_is_number d_is_position d_is_tuple_of d_is_interval d_ascending_error d_targets_error d_is_pieces d_has_position d_contains d_pieces_inside d_first_gap d_find_missing d_without_item d_with_interval d_without_interval d_edited_state d_depth_changes d_find_blocks d_serves d_conflict d_demands_at_blocks d_is_open d_open_demands d_shadow_target d_require_few_blocks d_decisive_demands d_largest_independent d_unserved_demands d_helpful_piece d_smallest_solution d_count_needed d_solve d_law_deck d_law_draw d_law_line d_law_interval d_law_intervals d_law_served d_law_options d_law_conflict d_law_most d_law_needed d_law_edit d_law_after d_law_do d_law_begun d_law_generated d_law_solution_right d_law d_Plan_init d_Plan_add_target d_Plan_add_piece d_Plan_remove_target d_Plan_remove_piece d_Plan_targets d_Plan_pieces d_Plan_needed d_Plan_solution d_Plan_missing d_Plan_edit d_Plan_record d_Plan_require_idle d_Plan_state_at d_Plan_len d_Plan_str d_Plan_eq t_LAST_POSITION t_MAX_TARGETS t_MAX_PIECES t_MAX_BLOCKS t_MAX_EDITS) : FnOk P w K mg base CX0 5 f_decisive_demands d_decisive_demands ["targets", "pieces"] sp_decisive := by
  refine T.F_decisive_demands.ok sc_decisive_demands (fun vs H Q E h => ?_) (fun cdv A outer s H vs Q E hr h => ?_)
  · obtain ⟨a, b, us, ws, ts, ps, rfl, _⟩ := h
    rfl
  · obtain ⟨a, b, us, ws, ts, ps, rfl, ha, hb, ivt, ivp, g, lt, fk, few, q⟩ := h
    refine ⟨_, (pss_one (ps_ret (pe_lc (own := [("demand", 2)]) (g := (gName 2)) (by rfl) sc_decisive_demands.nd (pi_tup (pe_call (ok_open_demands T) (hr.mono (by decide)) (by rfl) T.g_open_demands T.F_open_demands.kp T.b_open_demands .nil pass0 (pa_cons (pv 0) (pa_cons (pv 1) pa_nil)))) (blkOk_by (own := [("demand", 2)]) (N := N_decisive_demands) (sc := defScope s_decisive_demands) (by decide +kernel)) (fun _ _ _ _ _ => (pg_name (i := 2) sc_decisive_demands.nd rfl (Or.inl rfl))) (fun _ _ _ _ _ => pts_one (pt_cmpR op_isN (pe_call (ok_shadow_target T) (hr.mono (by decide)) (by rfl) T.g_shadow_target T.F_shadow_target.kp T.b_shadow_target .nil pass0 (pa_cons (pv 0) (pa_cons (pv 2) pa_nil))) pe_non (nomark _))) (fun _ _ _ _ _ => (pv 2))))), ?_⟩
    have lu := ivt.length
    refine ⟨.ref a, rfl, .ref b, rfl, a, b, us, ws, ts, ps, rfl, ha, hb, ivt, ivp, g, lt, fk, fun H1 D zs s1 eD dm => ?_⟩
    have lo : ((dab ts (blocksOf (ts ++ ps))).filter (opB ps)).length < 1000 := by
      have h1 := dab_len (ts := ts) (bs := blocksOf (ts ++ ps))
      have h2 := List.length_filter_le (opB ps) (dab ts (blocksOf (ts ++ ps)))
      have h3 : (blocksOf (ts ++ ps)).length * ts.length ≤ 8 * 30 := Nat.mul_le_mul few (by omega)
      omega
    unfold decO at q
    generalize (dab ts (blocksOf (ts ++ ps))).filter (opB ps) = ds at *
    have lz := dm.length
    refine ⟨D, rfl, ⟨_, SqT.of eD⟩, fun D2 nD2 => ?_⟩
    refine lcT (K := K) (a := D) (xs := zs) (fun j H' ws => Dms H' ws ((ds.take j).filter fun d => (ts.find? (shB d.1 d.2.1 d.2.2)).isNone)) nD2 (fun H' s => SqT.of (s _ _ (eD))) (by omega) (fun _ _ _ _ t r => r.tps t) (fun j H' ws r => (by rw [r.length]; exact Nat.le_trans (List.length_filter_le _ _) (List.length_take_le _ _))) (fun _ => .nil) ?_ ?_
    · rintro j z H' N acc hj sj eA sz r no yes
      obtain ⟨p, lo, hi, ed, dz⟩ := dm.get hj
      have s1j := s1.trans sj
      refine ⟨rfl, .ref a, rfl, z, rfl, a, us, ts, z, p, lo, hi, rfl, s1j _ _ ha, ivt.same s1j, dz.same sj, fun rv ov => ?_⟩
      refine ⟨rfl, ?_⟩
      rw [ov.isN]
      refine ⟨_, rfl, ?_⟩
      refine ite2 (fun c => ?_) (fun c => ?_)
      · refine ⟨z, rfl, yes H' _ (Same.refl _) ?_⟩
        rw [take_filter ed, if_pos c]
        exact r.snoc (dz.same sj)
      · refine no H' (Same.refl _) ?_
        rw [take_filter ed, if_neg c, List.append_nil]
        exact r
    intro H2 ws2 s2 eD2 r
    rw [lz, List.take_length] at r
    exact q H2 D2 ws2 (s1.trans s2) (s1.free nD2) eD2 r
def sp_few : Sp := fun vs H Q _ => ∃ (a : Addr) (us : List V) (row : List (Int × Int)), vs = [.ref a] ∧ H a = some (.tup us) ∧ Ivs H us row ∧ Good row ∧ FewK row ∧ (blocksOf row).length ≤ 8 ∧ ∀ H', Same H H' → Q .non H'
theorem ok_require_few_blocks (T : Tx K mg f_is_number f_is_position f_is_tuple_of f_is_interval f_ascending_error f_targets_error f_is_pieces f_has_position f_contains f_pieces_inside f_first_gap f_find_missing f_without_item f_with_interval f_without_interval f_edited_state f_depth_changes f_find_blocks f_serves f_conflict f_demands_at_blocks f_is_open f_open_demands f_shadow_target f_require_few_blocks f_decisive_demands f_largest_independent f_unserved_demands f_helpful_piece f_smallest_solution f_count_needed f_solve f_law_deck f_law_draw f_law_line f_law_interval f_law_intervals f_law_served f_law_options f_law_conflict f_law_most f_law_needed f_law_edit f_law_after f_law_do f_law_begun f_law_generated f_law_solution_right f_law f_Plan_init f_Plan_add_target f_Plan_add_piece f_Plan_remove_target f_Plan_remove_piece f_Plan_targets f_Plan_pieces f_Plan_needed f_Plan_solution f_Plan_missing f_Plan_edit f_Plan_record f_Plan_require_idle f_Plan_state_at f_Plan_len f_Plan_str f_Plan_eq C_Plan d_is_number d_is_position d_is_tuple_of d_is_interval d_ascending_error d_targets_error d_is_pieces d_has_position d_contains d_pieces_inside d_first_gap d_find_missing d_without_item d_with_interval d_without_interval d_edited_state d_depth_changes d_find_blocks d_serves d_conflict d_demands_at_blocks d_is_open d_open_demands d_shadow_target d_require_few_blocks d_decisive_demands d_largest_independent d_unserved_demands d_helpful_piece d_smallest_solution d_count_needed d_solve d_law_deck d_law_draw d_law_line d_law_interval d_law_intervals d_law_served d_law_options d_law_conflict d_law_most d_law_needed d_law_edit d_law_after d_law_do d_law_begun d_law_generated d_law_solution_right d_law d_Plan_init d_Plan_add_target d_Plan_add_piece d_Plan_remove_target d_Plan_remove_piece d_Plan_targets d_Plan_pieces d_Plan_needed d_Plan_solution d_Plan_missing d_Plan_edit d_Plan_record d_Plan_require_idle d_Plan_state_at d_Plan_len d_Plan_str d_Plan_eq t_LAST_POSITION t_MAX_TARGETS t_MAX_PIECES t_MAX_BLOCKS t_MAX_EDITS) : FnOk P w K mg base CX0 3 f_require_few_blocks d_require_few_blocks ["intervals"] sp_few := by
  refine T.F_require_few_blocks.ok sc_require_few_blocks (fun vs H Q E h => ?_) (fun cdv A outer s H vs Q E hr h => ?_)
  · obtain ⟨a, us, row, rfl, _⟩ := h
    rfl
  · obtain ⟨a, us, row, rfl, ha, iv, g, lr, few, q⟩ := h
    refine ⟨_, (pss_one (ps_if (pt_cmpR op_gt (pe_callB call_len_seq (by rfl) T.z_len PySem.boot_len (pa_cons (pe_call (ok_find_blocks T) (hr.mono (by decide)) (by rfl) T.g_find_blocks T.F_find_blocks.kp T.b_find_blocks .nil pass0 (pa_cons (pv 0) pa_nil)) pa_nil)) (pe_glob (v := .int 8) (by rfl) T.c_MAX_BLOCKS ⟨_, rfl⟩) (nomark _))
      (pss_one ps_never)
      pss_nil)), ?_⟩
    refine ⟨.ref a, rfl, a, us, row, rfl, ha, iv, g, lr, fun H1 b ws s1 eb ivb => ?_⟩
    refine ⟨b, ws, rfl, .inr (SqT.of eb), _, _, rfl, rfl, _, rfl, ite2 (fun c => ?_) (fun _ => ?_)⟩
    · have c := of_decide_eq_true c
      rw [ivb.length] at c
      exact absurd c (by omega)
    · exact q H1 s1
def sp_count : Sp := fun vs H Q _ => ∃ (a b : Addr) (us ws : List V) (ts ps : List (Int × Int)), vs = [.ref a, .ref b] ∧ H a = some (.tup us) ∧ H b = some (.tup ws) ∧ Ivs H us ts ∧ Ivs H ws ps ∧ Good (ts ++ ps) ∧ ts.length ≤ 30 ∧ FewK (ts ++ ps) ∧ (blocksOf (ts ++ ps)).length ≤ 8 ∧ 8 * ts.length ≤ lgN ∧
  ∀ H', Same H H' → Q (.int (needO ts ps)) H'
theorem ok_count_needed (T : Tx K mg f_is_number f_is_position f_is_tuple_of f_is_interval f_ascending_error f_targets_error f_is_pieces f_has_position f_contains f_pieces_inside f_first_gap f_find_missing f_without_item f_with_interval f_without_interval f_edited_state f_depth_changes f_find_blocks f_serves f_conflict f_demands_at_blocks f_is_open f_open_demands f_shadow_target f_require_few_blocks f_decisive_demands f_largest_independent f_unserved_demands f_helpful_piece f_smallest_solution f_count_needed f_solve f_law_deck f_law_draw f_law_line f_law_interval f_law_intervals f_law_served f_law_options f_law_conflict f_law_most f_law_needed f_law_edit f_law_after f_law_do f_law_begun f_law_generated f_law_solution_right f_law f_Plan_init f_Plan_add_target f_Plan_add_piece f_Plan_remove_target f_Plan_remove_piece f_Plan_targets f_Plan_pieces f_Plan_needed f_Plan_solution f_Plan_missing f_Plan_edit f_Plan_record f_Plan_require_idle f_Plan_state_at f_Plan_len f_Plan_str f_Plan_eq C_Plan d_is_number d_is_position d_is_tuple_of d_is_interval d_ascending_error d_targets_error d_is_pieces d_has_position d_contains d_pieces_inside d_first_gap d_find_missing d_without_item d_with_interval d_without_interval d_edited_state d_depth_changes d_find_blocks d_serves d_conflict d_demands_at_blocks d_is_open d_open_demands d_shadow_target d_require_few_blocks d_decisive_demands d_largest_independent d_unserved_demands d_helpful_piece d_smallest_solution d_count_needed d_solve d_law_deck d_law_draw d_law_line d_law_interval d_law_intervals d_law_served d_law_options d_law_conflict d_law_most d_law_needed d_law_edit d_law_after d_law_do d_law_begun d_law_generated d_law_solution_right d_law d_Plan_init d_Plan_add_target d_Plan_add_piece d_Plan_remove_target d_Plan_remove_piece d_Plan_targets d_Plan_pieces d_Plan_needed d_Plan_solution d_Plan_missing d_Plan_edit d_Plan_record d_Plan_require_idle d_Plan_state_at d_Plan_len d_Plan_str d_Plan_eq t_LAST_POSITION t_MAX_TARGETS t_MAX_PIECES t_MAX_BLOCKS t_MAX_EDITS) : FnOk P w K mg base CX0 (lgN+5) f_count_needed d_count_needed ["targets", "pieces"] sp_count := by
  refine T.F_count_needed.ok sc_count_needed (fun vs H Q E h => ?_) (fun cdv A outer s H vs Q E hr h => ?_)
  · obtain ⟨a, b, us, ws, ts, ps, rfl, _⟩ := h
    rfl
  · obtain ⟨a, b, us, ws, ts, ps, rfl, ha, hb, ivt, ivp, g, lt, fk, few, ll, q⟩ := h
    refine ⟨_, (pss_cons (ps_expr (pe_call (ok_require_few_blocks T) (hr.mono (by decide)) (by rfl) T.g_require_few_blocks T.F_require_few_blocks.kp T.b_require_few_blocks .nil pass0 (pa_cons (pe_op op_catA (pv 0) (pv 1)) pa_nil)))
      (pss_one (ps_ret (pe_callB call_len_seq (by rfl) T.z_len PySem.boot_len (pa_cons (pe_call (ok_largest_independent T) (hr.mono (by decide)) (by rfl) T.g_largest_independent T.F_largest_independent.kp T.b_largest_independent .nil pass0 (pa_cons (pe_call (ok_decisive_demands T) (hr.mono (by decide)) (by rfl) T.g_decisive_demands T.F_decisive_demands.kp T.b_decisive_demands .nil pass0 (pa_cons (pv 0) (pa_cons (pv 1) pa_nil))) pa_nil)) pa_nil))))), ?_⟩
    have l60 : ts.length + ps.length ≤ 60 := by rw [← List.length_append]; exact fk.le
    have lu := ivt.length
    have lw := ivp.length
    refine ⟨.ref a, rfl, .ref b, rfl, catA_any ha hb (by rw [show sizeLine = 16777216 by decide]; omega) (fun H1 c s1 ec => ?_)⟩
    refine ⟨c, us ++ ws, ts ++ ps, rfl, ec, (ivt.same s1).append (ivp.same s1), g, fk, few, fun H2 s2 => ?_⟩
    have s12 := s1.trans s2
    refine ⟨.ref a, rfl, .ref b, rfl, a, b, us, ws, ts, ps, rfl, s12 _ _ ha, s12 _ _ hb, ivt.same s12, ivp.same s12, g, lt, fk, few, fun H3 D zs s3 _ eD dm => ?_⟩
    have dl := decO_len (ts := ts) (ps := ps)
    have d2 : (blocksOf (ts ++ ps)).length * ts.length ≤ 8 * ts.length := Nat.mul_le_mul_right _ few
    refine ⟨D, zs, _, rfl, eD, dm, by omega, by omega, fun H4 p ws4 s4 ep dm4 => ?_⟩
    refine ⟨p, ws4, rfl, .inr (SqT.of ep), ?_⟩
    rw [dm4.length]
    exact q H4 (s12.trans (s3.trans s4))

theorem mem_dab {ts bs : List (Int × Int)} {d : (Int × Int × Int)} : d ∈ dab ts bs ↔ ∃ t ∈ ts, ∃ x ∈ bs.map (·.1), atP t.1 t.2 x = true ∧ d = (x, t.1, t.2) := by
  unfold dab dabT
  rw [List.mem_flatMap]
  constructor
  · rintro ⟨b, hb, h⟩
    obtain ⟨t, ht, e⟩ := List.mem_map.mp h
    have z := List.mem_filter.mp ht
    exact ⟨t, z.1, b.1, List.mem_map.mpr ⟨b, hb, rfl⟩, z.2, e.symm⟩
  · rintro ⟨t, ht, x, hx, c, e⟩
    obtain ⟨b, hb, rfl⟩ := List.mem_map.mp hx
    exact ⟨b, hb, List.mem_map.mpr ⟨t, List.mem_filter.mpr ⟨ht, c⟩, e.symm⟩⟩

/-! ### what the targets need: the program's number is right -/
def Com (ts ps S : List (Int × Int)) : Prop := ∀ t ∈ ts, ∀ p, t.1 ≤ p → p ≤ t.2 → ∃ q ∈ ps ++ S, t.1 ≤ q.1 ∧ q.1 ≤ p ∧ p ≤ q.2 ∧ q.2 ≤ t.2
def OpenD (ts ps : List (Int × Int)) (d : Dem) : Prop := d.2 ∈ ts ∧ Vd d ∧ ∀ q ∈ ps, sv q d = false
theorem sv_svI (q : Int × Int) (d : Dem) : svI q.1 q.2 d.1 d.2.1 d.2.2 = sv q d := by
  rw [Bool.eq_iff_iff, sv_iff']
  unfold svI inI atP
  simp only [Bool.and_eq_true, decide_eq_true_eq]
  omega
theorem opB_iff {ps : List (Int × Int)} {d : Dem} : opB ps d = true ↔ ∀ q ∈ ps, sv q d = false := by
  unfold opB
  rw [Bool.not_eq_true', List.any_eq_false]
  constructor
  · intro h q hq
    have := h _ (List.mem_map.mpr ⟨q, hq, rfl⟩)
    rw [← sv_svI, ← Bool.not_eq_true]
    exact this
  · intro h b hb
    obtain ⟨q, hq, rfl⟩ := List.mem_map.mp hb
    have := h q hq
    rw [← sv_svI] at this
    rw [Bool.not_eq_true]
    exact this
def Shd (d : Dem) (t : Int × Int) : Prop := t ≠ d.2 ∧ d.2.1 ≤ t.1 ∧ t.2 ≤ d.2.2 ∧ t.1 ≤ d.1 ∧ d.1 ≤ t.2
theorem mem_dec {ts ps : List (Int × Int)} {d : Dem} : d ∈ decO ts ps ↔ OpenD ts ps d ∧ d.1 ∈ lowsOf (ts ++ ps) ∧ ∀ t ∈ ts, ¬ Shd d t := by
  unfold decO
  rw [List.mem_filter, List.mem_filter, opB_iff, mem_dab, Option.isNone_iff_eq_none, List.find?_eq_none]
  have sh : (∀ t ∈ ts, ¬ shB d.1 d.2.1 d.2.2 t = true) ↔ ∀ t ∈ ts, ¬ Shd d t := by
    have : ∀ t : Int × Int, shB d.1 d.2.1 d.2.2 t = true ↔ Shd d t := fun t => by
      unfold shB inI atP Shd
      simp only [Bool.and_eq_true, decide_eq_true_eq, Bool.not_eq_true', decide_eq_false_iff_not]
      constructor
      · rintro ⟨a, ⟨b, c⟩, e, f⟩
        exact ⟨a, b, c, e, f⟩
      · rintro ⟨a, b, c, e, f⟩
        exact ⟨a, ⟨b, c⟩, e, f⟩
    exact ⟨fun h t ht s => h t ht ((this t).mpr s), fun h t ht s => h t ht ((this t).mp s)⟩
  rw [sh]
  constructor
  · rintro ⟨⟨⟨t, ht, x, hx, at1, rfl⟩, op⟩, n⟩
    have z := Bool.and_eq_true_iff.mp at1
    exact ⟨⟨ht, ⟨of_decide_eq_true z.1, of_decide_eq_true z.2⟩, op⟩, hx, n⟩
  · rintro ⟨⟨ht, v, op⟩, hx, n⟩
    exact ⟨⟨⟨d.2, ht, d.1, hx, Bool.and_eq_true_iff.mpr ⟨decide_eq_true v.1, decide_eq_true v.2⟩, rfl⟩, op⟩, n⟩
theorem dec_fam {ts ps : List (Int × Int)} (g : Good (ts ++ ps)) : Fam (decO ts ps) := by
  refine ⟨fun d hd => ?_, fun d hd e he h1 h2 h3 c => ?_, fun d hd e he c => ?_⟩
  · have m := mem_dec.mp hd
    exact ⟨(g _ (List.mem_append_left _ m.1.1)).1, m.1.2.1⟩
  · have md := mem_dec.mp hd
    have me := mem_dec.mp he
    have c := cf_iff.mp c
    have vd := md.1.2.1
    have ve := me.1.2.1
    unfold Vd at vd ve
    have ex : ∀ q ∈ ps, sv q (d.1, e.2) = false ∧ sv q (e.1, d.2) = false := fun q hq => by
      have x := sv_exch (z := q) h1 h2 h3 (cf_iff.mpr c)
      rw [md.1.2.2 q hq, me.1.2.2 q hq] at x
      simp at x
      exact x
    constructor
    · refine mem_dec.mpr ⟨⟨me.1.1, ⟨c.1.1, c.1.2⟩, fun q hq => (ex q hq).1⟩, md.2.1, fun t ht s => ?_⟩
      obtain ⟨s1, s2, s3, s4, s5⟩ := s
      have s1 : t ≠ e.2 := s1
      have s2 : e.2.1 ≤ t.1 := s2
      have s3 : t.2 ≤ e.2.2 := s3
      have s4 : t.1 ≤ d.1 := s4
      have s5 : d.1 ≤ t.2 := s5
      by_cases k : e.1 ≤ t.2
      · exact me.2.2 t ht ⟨s1, s2, s3, by omega, k⟩
      · exact md.2.2 t ht ⟨fun z => by rw [z] at s2; omega, by omega, by omega, s4, s5⟩
    · refine mem_dec.mpr ⟨⟨md.1.1, ⟨c.2.1, c.2.2⟩, fun q hq => (ex q hq).2⟩, me.2.1, fun t ht s => ?_⟩
      obtain ⟨s1, s2, s3, s4, s5⟩ := s
      have s1 : t ≠ d.2 := s1
      have s2 : d.2.1 ≤ t.1 := s2
      have s3 : t.2 ≤ d.2.2 := s3
      have s4 : t.1 ≤ e.1 := s4
      have s5 : e.1 ≤ t.2 := s5
      by_cases k : t.1 ≤ d.1
      · exact md.2.2 t ht ⟨s1, s2, s3, k, by omega⟩
      · exact me.2.2 t ht ⟨fun z => by rw [z] at s3; omega, by omega, by omega, s4, s5⟩
  · have md := mem_dec.mp hd
    have me := mem_dec.mp he
    have c := cf_iff.mp c
    by_cases q : d.2 = e.2
    · exact .inl q
    · have n1 := md.2.2 e.2 me.1.1
      have n2 := me.2.2 d.2 md.1.1
      unfold Shd at n1 n2
      have q' : ¬ e.2 = d.2 := fun z => q z.symm
      have n1 : ¬ (d.2.1 ≤ e.2.1 ∧ e.2.2 ≤ d.2.2) := fun z => n1 ⟨q', z.1, z.2, c.1.1, c.1.2⟩
      have n2 : ¬ (e.2.1 ≤ d.2.1 ∧ d.2.2 ≤ e.2.2) := fun z => n2 ⟨q, z.1, z.2, c.2.1, c.2.2⟩
      have w := (mem_dec.mp hd).1.2.1
      omega
theorem sum_served {S : List (Int × Int)} : ∀ {D : List Dem}, (∀ d ∈ D, ∃ z ∈ S, sv z d = true) → D.length ≤ (S.map fun z => cov D z).sum := by
  intro D
  induction D with
  | nil => exact fun _ => Nat.zero_le _
  | cons d D ih =>
    intro h
    have r := ih fun e he => h e (List.mem_cons_of_mem _ he)
    obtain ⟨z, hz, s⟩ := h d List.mem_cons_self
    have step : ∀ T : List (Int × Int), (T.map fun z => cov (d :: D) z).sum = (T.map fun z => cov D z).sum + T.countP (fun z => sv z d) := by
      intro T
      induction T with
      | nil => rfl
      | cons w T it =>
        rw [List.map_cons, List.map_cons, List.sum_cons, List.sum_cons, it, cov_cons, List.countP_cons]
        omega
    rw [step, List.length_cons]
    have : 0 < S.countP (fun z => sv z d) := List.countP_pos_iff.mpr ⟨z, hz, s⟩
    omega
theorem sum_one {α : Type} {f : α → Nat} : ∀ {S : List α}, (∀ x ∈ S, f x ≤ 1) → (S.map f).sum ≤ S.length
  | [], _ => Nat.le_refl _
  | x :: S, h => by
    have r := sum_one (S := S) fun y hy => h y (List.mem_cons_of_mem _ hy)
    have := h x List.mem_cons_self
    rw [List.map_cons, List.sum_cons, List.length_cons]
    omega
/-- no fewer pieces than independent open demands -/
theorem weak_dual {ts ps S : List (Int × Int)} {D : List Dem} (c : Com ts ps S) (i : Ind D) (o : ∀ d ∈ D, OpenD ts ps d) : D.length ≤ S.length := by
  refine Nat.le_trans (sum_served (S := S) fun d hd => ?_) (sum_one fun z _ => i.cov_le z)
  obtain ⟨h1, h2, h3⟩ := o d hd
  obtain ⟨q, hq, k1, k2, k3, k4⟩ := c d.2 h1 d.1 h2.1 h2.2
  have s : sv q d = true := sv_iff'.mpr ⟨k1, k2, k3, k4⟩
  rcases List.mem_append.mp hq with hq | hq
  · rw [h3 q hq] at s
    cases s
  · exact ⟨q, hq, s⟩
theorem block_const {row : List (Int × Int)} (g : Good row) {b q : Int × Int} (hb : b ∈ blocksOf row) (hq : q ∈ row) {x : Int} (h1 : b.1 ≤ x) (h2 : x ≤ b.2) : (q.1 ≤ x ∧ x ≤ q.2) ↔ (q.1 ≤ b.1 ∧ b.2 ≤ q.2) := by
  have B := blocks_bl g
  have gq := g q hq
  constructor
  · rintro ⟨k1, k2⟩
    constructor
    · by_cases z : q.1 ≤ b.1
      · exact z
      · exact absurd ⟨q, hq, .inl rfl⟩ (B.inner hb (p := q.1) (by omega) (by omega))
    · by_cases z : b.2 ≤ q.2
      · exact z
      · exact absurd ⟨q, hq, .inr rfl⟩ (B.inner hb (p := q.2 + 1) (by omega) (by omega))
  · omega
theorem need_ok {ts ps : List (Int × Int)} (g : Good (ts ++ ps)) : (∃ D, Ind D ∧ (∀ d ∈ D, OpenD ts ps d) ∧ D.length = needO ts ps) ∧
    ∃ S, S.length ≤ needO ts ps ∧ Com ts ps S ∧ ∀ z ∈ S, ∃ t ∈ ts, t.1 ≤ z.1 ∧ z.1 ≤ z.2 ∧ z.2 ≤ t.2 := by
  have fam := dec_fam g
  have sub := lg_sub (decO ts ps).length (decO ts ps)
  refine ⟨⟨_, lg_ind _ _, fun d hd => (mem_dec.mp (sub.mem hd)).1, rfl⟩, ?_⟩
  obtain ⟨S, s1, s2⟩ := min_max (needO ts ps) fam fun I i1 i2 => lg_max _ _ (fun d hd => (fam.ok d hd).2) (Nat.le_refl _) I i1 i2
  have inn : ∀ d ∈ decO ts ps, d.2 ∈ ts ++ ps := fun d hd => List.mem_append_left _ (mem_dec.mp hd).1.1
  -- stretched to whole blocks
  have wide : ∀ z : Int × Int, (∃ d ∈ decO ts ps, sv z d = true) → ∃ w : Int × Int, (∀ d ∈ decO ts ps, sv z d = true → sv w d = true) ∧ ∃ b ∈ blocksOf (ts ++ ps), w.2 = b.2 := by
    rintro z ⟨d, hd, s⟩
    have s := sv_iff'.mp s
    have p1 : 0 < depI (ts ++ ps) z.1 := dep_pos.mpr ⟨d.2, inn d hd, s.1, by omega⟩
    have p2 : 0 < depI (ts ++ ps) z.2 := dep_pos.mpr ⟨d.2, inn d hd, by omega, s.2.2.2⟩
    obtain ⟨b, hb, b1, b2⟩ := dep_in g p1
    obtain ⟨c, hc, c1, c2⟩ := dep_in g p2
    refine ⟨(b.1, c.2), fun e he se => ?_, c, hc, rfl⟩
    have se := sv_iff'.mp se
    have k1 := (block_const g hb (inn e he) b1 b2).mp ⟨se.1, by omega⟩
    have k2 := (block_const g hc (inn e he) c1 c2).mp ⟨by omega, se.2.2.2⟩
    refine sv_iff'.mpr ⟨k1.1, ?_, ?_, k2.2⟩
    · show b.1 ≤ e.1
      omega
    · show e.1 ≤ c.2
      omega
  have ch : ∀ z : Int × Int, ∃ w : Int × Int, (∃ d ∈ decO ts ps, sv z d = true) → (∀ d ∈ decO ts ps, sv z d = true → sv w d = true) ∧ ∃ b ∈ blocksOf (ts ++ ps), w.2 = b.2 := fun z => by
    by_cases h : ∃ d ∈ decO ts ps, sv z d = true
    · obtain ⟨w, hw⟩ := wide z h
      exact ⟨w, fun _ => hw⟩
    · exact ⟨z, fun k => absurd k h⟩
  obtain ⟨f, hf⟩ := Classical.axiomOfChoice ch
  let use : Int × Int → Bool := fun z => (decO ts ps).any fun d => sv z d
  have useI : ∀ z, use z = true ↔ ∃ d ∈ decO ts ps, sv z d = true := fun z => List.any_eq_true
  refine ⟨(S.filter use).map f, ?_, fun t ht p h1 h2 => ?_, fun w hw => ?_⟩
  · rw [List.length_map]
    exact Nat.le_trans (List.length_filter_le _ _) s1
  · by_cases pc : ∃ q ∈ ps, t.1 ≤ q.1 ∧ q.1 ≤ p ∧ p ≤ q.2 ∧ q.2 ≤ t.2
    · obtain ⟨q, hq, k⟩ := pc
      exact ⟨q, List.mem_append_left _ hq, k⟩
    · have mt : t ∈ ts ++ ps := List.mem_append_left _ ht
      obtain ⟨b, hb, b1, b2⟩ := dep_in g (dep_pos.mpr ⟨t, mt, h1, h2⟩)
      have kt := (block_const g hb mt b1 b2).mp ⟨h1, h2⟩
      have bb : b.1 ≤ b.2 := by omega
      -- a shortest target inside t that contains the block
      have short : ∀ (n : Nat) (u : Int × Int), u ∈ ts → t.1 ≤ u.1 → u.2 ≤ t.2 → u.1 ≤ b.1 → b.1 ≤ u.2 → (u.2 - u.1).toNat ≤ n → ∃ v ∈ ts, t.1 ≤ v.1 ∧ v.2 ≤ t.2 ∧ v.1 ≤ b.1 ∧ b.1 ≤ v.2 ∧ ∀ x ∈ ts, ¬ Shd (b.1, v) x := by
        intro n
        induction n with
        | zero =>
          intro u hu a1 a2 a3 a4 a5
          refine ⟨u, hu, a1, a2, a3, a4, fun x hx s => ?_⟩
          obtain ⟨z1, z2, z3, z4, z5⟩ := s
          have z2 : u.1 ≤ x.1 := z2
          have z3 : x.2 ≤ u.2 := z3
          have z4 : x.1 ≤ b.1 := z4
          have z5 : b.1 ≤ x.2 := z5
          exact z1 (Prod.ext (by show x.1 = u.1; omega) (by show x.2 = u.2; omega))
        | succ n ih =>
          intro u hu a1 a2 a3 a4 a5
          by_cases k : ∀ x ∈ ts, ¬ Shd (b.1, u) x
          · exact ⟨u, hu, a1, a2, a3, a4, k⟩
          · have ⟨x, hx, s⟩ : ∃ x ∈ ts, Shd (b.1, u) x := Classical.byContradiction fun z => k fun x hx s => z ⟨x, hx, s⟩
            obtain ⟨z1, z2, z3, z4, z5⟩ := s
            have z2 : u.1 ≤ x.1 := z2
            have z3 : x.2 ≤ u.2 := z3
            have z4 : x.1 ≤ b.1 := z4
            have z5 : b.1 ≤ x.2 := z5
            have ne : ¬ (x.1 = u.1 ∧ x.2 = u.2) := fun e => z1 (Prod.ext e.1 e.2)
            exact ih x hx (by omega) (by omega) z4 z5 (by omega)
      obtain ⟨v, hv, v1, v2, v3, v4, v5⟩ := short _ t ht (Int.le_refl _) (Int.le_refl _) kt.1 (by omega) (Nat.le_refl _)
      have md : (b.1, v) ∈ decO ts ps := by
        refine mem_dec.mpr ⟨⟨hv, ⟨v3, v4⟩, fun q hq => ?_⟩, List.mem_map.mpr ⟨b, hb, rfl⟩, v5⟩
        rw [← Bool.not_eq_true]
        intro s
        have s := sv_iff'.mp s
        have s1 : v.1 ≤ q.1 := s.1
        have s2 : q.1 ≤ b.1 := s.2.1
        have s3 : b.1 ≤ q.2 := s.2.2.1
        have s4 : q.2 ≤ v.2 := s.2.2.2
        have kq := (block_const g hb (List.mem_append_right _ hq) (Int.le_refl _) bb).mp ⟨s2, s3⟩
        exact pc ⟨q, hq, by omega, by omega, by omega, by omega⟩
      obtain ⟨z, hz, sz⟩ := s2 _ md
      obtain ⟨fw, c, hc, ec⟩ := hf z ⟨_, md, sz⟩
      have sw := sv_iff'.mp (fw _ md sz)
      have w1 : v.1 ≤ (f z).1 := sw.1
      have w2 : (f z).1 ≤ b.1 := sw.2.1
      have w3 : b.1 ≤ (f z).2 := sw.2.2.1
      have w4 : (f z).2 ≤ v.2 := sw.2.2.2
      refine ⟨f z, List.mem_append_right _ (List.mem_map.mpr ⟨z, List.mem_filter.mpr ⟨hz, (useI z).mpr ⟨_, md, sz⟩⟩, rfl⟩), by omega, by omega, ?_, by omega⟩
      obtain ⟨i, ei⟩ := List.getElem?_of_mem hb
      obtain ⟨j, ej⟩ := List.getElem?_of_mem hc
      have B := blocks_bl g
      have cc : c.1 ≤ c.2 := by
        have := B.ok c hc
        omega
      rcases Nat.lt_trichotomy i j with l | l | l
      · have := B.idx l ei ej
        omega
      · subst l
        rw [ei] at ej
        cases ej
        omega
      · have := B.idx l ej ei
        omega
  · obtain ⟨z, hz, rfl⟩ := List.mem_map.mp hw
    obtain ⟨d, hd, s⟩ := (useI z).mp (List.mem_filter.mp hz).2
    have sw := sv_iff'.mp ((hf z ⟨d, hd, s⟩).1 d hd s)
    exact ⟨d.2, (mem_dec.mp hd).1.1, sw.1, by omega, sw.2.2.2⟩

/-! ### sorted(set(pairs)) -/
def ltP (a b : Int × Int) : Prop := a.1 < b.1 ∨ (a.1 = b.1 ∧ a.2 < b.2)
def prL (q : Int × Int) : List Int := [q.1, q.2]
theorem prL_inj {a b : Int × Int} (h : prL a = prL b) : a = b := by
  unfold prL at h
  cases a
  cases b
  simp at h
  rw [h.1, h.2]
theorem mem_prL {q : Int × Int} {ps : List (Int × Int)} : prL q ∈ ps.map prL ↔ q ∈ ps := by
  rw [List.mem_map]
  exact ⟨fun ⟨a, ha, e⟩ => prL_inj e ▸ ha, fun h => ⟨q, h, rfl⟩⟩
theorem Ivs.keys {H : Hp} {us : List V} {ps : List (Int × Int)} (h : Ivs H us ps) : ∃ ks : List (Addr × List Int), us = ks.map (fun p => V.ref p.1) ∧ ks.map (·.2) = ps.map prL ∧ ∀ p ∈ ks, ∃ x y : Int, p.2 = [x, y] ∧ H p.1 = some (.tup [.int x, .int y]) := by
  induction h with
  | nil => exact ⟨[], rfl, rfl, fun p hp => nomatch hp⟩
  | cons e _ ih =>
    obtain ⟨ks, e1, e2, e3⟩ := ih
    refine ⟨(_, [_, _]) :: ks, by rw [List.map_cons, e1], by rw [List.map_cons, List.map_cons, e2]; rfl, fun p hp => ?_⟩
    rcases List.mem_cons.mp hp with rfl | hp
    · exact ⟨_, _, rfl, e⟩
    · exact e3 p hp
theorem Ivs.ofKeys {H : Hp} : ∀ {L : List (Addr × List Int)}, (∀ p ∈ L, ∃ x y : Int, p.2 = [x, y] ∧ H p.1 = some (.tup [.int x, .int y])) → ∃ ps, Ivs H (L.map fun p => V.ref p.1) ps ∧ L.map (·.2) = ps.map prL
  | [], _ => ⟨[], .nil, rfl⟩
  | p :: L, h => by
    obtain ⟨x, y, e, e1⟩ := h p List.mem_cons_self
    obtain ⟨ps, i, e2⟩ := Ivs.ofKeys (L := L) fun q hq => h q (List.mem_cons_of_mem _ hq)
    exact ⟨(x, y) :: ps, .cons e1 i, by rw [List.map_cons, List.map_cons, e2, e]; rfl⟩
theorem Ivs.tpsMem {H : Hp} {us : List V} {ps : List (Int × Int)} (h : Ivs H us ps) {q : Int × Int} (hq : q ∈ ps) : ∃ a, V.ref a ∈ us ∧ H a = some (.tup [.int q.1, .int q.2]) := by
  induction h with
  | nil => cases hq
  | cons e _ ih =>
    rcases List.mem_cons.mp hq with rfl | hq
    · exact ⟨_, List.mem_cons_self, e⟩
    · obtain ⟨a, h1, h2⟩ := ih hq
      exact ⟨a, List.mem_cons_of_mem _ h1, h2⟩
theorem sorted_keys {K : PySem.W.Frag} {P : Program} {w : World} {H : Hp} {ps : List (Int × Int)} {Q : VK} {ks L : List (Addr × List Int)} {a : Addr} (e2 : ks.map (·.2) = ps.map prL) (e3 : ∀ p ∈ ks, ∃ x y : Int, p.2 = [x, y] ∧ H p.1 = some (.tup [.int x, .int y])) (na : H a = none) (h1 : ∀ p ∈ L, p ∈ ks) (h2 : ∀ p ∈ ks, p.2 ∈ L.map (·.2)) (bd : ∀ q ∈ ps, (0 ≤ q.1 ∧ q.1 < 10 ^ 13) ∧ 0 ≤ q.2 ∧ q.2 < 10 ^ 13)
    (fin : ∀ H' p us' ps', Same H H' → H p = none → H' p = some (.lst us') → Ivs H' us' ps' → ps'.Pairwise ltP → (∀ q, q ∈ ps' ↔ q ∈ ps) → Q (.ref p) H') :
    rSortedT K P w [.ref a] (upd H a (SetTO P w a L)) Q := by
  have s1 : Same H (upd H a (SetTO P w a L)) := same_new na
  refine ⟨a, L, 2, 10 ^ 13, rfl, upd_same, fun p hp => ?_, by decide, fun p hp => ?_, fun L' p pm nd fw pw np => ?_⟩
  · obtain ⟨x, y, e, e1⟩ := e3 p (h1 p hp)
    rw [e]
    exact SqT.of (s1 _ _ e1)
  · have m : p.2 ∈ ks.map (·.2) := List.mem_map.mpr ⟨p, h1 p hp, rfl⟩
    rw [e2] at m
    obtain ⟨q, hq, e⟩ := List.mem_map.mp m
    have b := bd q hq
    rw [← e]
    refine ⟨rfl, fun m hm => ?_⟩
    unfold prL at hm
    rcases List.mem_cons.mp hm with rfl | hm
    · exact b.1
    · rw [List.mem_singleton.mp hm]
      exact b.2
  · have s2 : Same (upd H a (SetTO P w a L)) (upd (upd H a (SetTO P w a L)) p (.lst (L'.map fun q => V.ref q.1))) := same_new np
    obtain ⟨ps', i, e4⟩ := Ivs.ofKeys (H := H) (L := L') fun q hq => e3 q (h1 q (pm.mem_iff.mp hq))
    have mem : ∀ q, q ∈ ps' ↔ q ∈ ps := fun q => by
      rw [← mem_prL, ← e4, ← mem_prL (ps := ps), ← e2, (pm.map (·.2)).mem_iff]
      constructor
      · intro h
        obtain ⟨p, hp, e⟩ := List.mem_map.mp h
        exact List.mem_map.mpr ⟨p, h1 p hp, e⟩
      · intro h
        obtain ⟨p, hp, e⟩ := List.mem_map.mp h
        rw [← e]
        exact h2 p hp
    refine fin _ p _ ps' (s1.trans s2) (s1.free np) upd_same (i.same (s1.trans s2)) ?_ mem
    have pw2 : (L'.map (·.2)).Pairwise (fun q r => TS.code (10 ^ 13) q ≤ TS.code (10 ^ 13) r) := List.pairwise_map.mpr pw
    have both := pw2.and nd
    rw [e4] at both
    refine (List.pairwise_map.mp both).imp_of_mem fun {x y} hx hy h => ?_
    have bx := bd x ((mem x).mp hx)
    have bY := bd y ((mem y).mp hy)
    have tb : ∀ {z : Int × Int}, ((0 ≤ z.1 ∧ z.1 < 10 ^ 13) ∧ 0 ≤ z.2 ∧ z.2 < 10 ^ 13) → TS.Bd (10 ^ 13) [z.1, z.2] := fun b m hm => by
      rcases List.mem_cons.mp hm with rfl | hm
      · exact b.1
      · rw [List.mem_singleton.mp hm]
        exact b.2
    rcases code_lex (tb bx) (tb bY) h.1 with c | ⟨c1, c2⟩
    · exact .inl c
    · refine .inr ⟨c1, ?_⟩
      rcases Int.lt_or_eq_of_le c2 with z | z
      · exact z
      · exact absurd (show prL x = prL y by unfold prL; rw [c1, z]) h.2
theorem sorted_set_pairs {K : PySem.W.Frag} {P : Program} {w : World} {H : Hp} {l : Addr} {us : List V} {ps : List (Int × Int)} {Q : VK} (hl : SqL K H l us) (iv : Ivs H us ps) (few : ps.length < 64) (bd : ∀ q ∈ ps, (0 ≤ q.1 ∧ q.1 < 10 ^ 13) ∧ 0 ≤ q.2 ∧ q.2 < 10 ^ 13)
    (fin : ∀ H' p us' ps', Same H H' → H p = none → H' p = some (.lst us') → Ivs H' us' ps' → ps'.Pairwise ltP → (∀ q, q ∈ ps' ↔ q ∈ ps) → Q (.ref p) H') :
    rSetOfT K P w [.ref l] H (fun x H1 => rSortedT K P w [x] H1 Q) := by
  obtain ⟨ks, rfl, e2, e3⟩ := iv.keys
  have lk : ks.length = ps.length := by
    have z := congrArg List.length e2
    rw [List.length_map, List.length_map] at z
    exact z
  refine ⟨l, ks, rfl, hl, fun p hp => ?_, by omega, fun a L na h1 h2 => ?_⟩
  · obtain ⟨x, y, e, e1⟩ := e3 p hp
    rw [e]
    exact SqT.of e1
  exact sorted_keys e2 e3 na h1 h2 bd fin

def leP (a b : Int × Int) : Prop := a.1 < b.1 ∨ (a.1 = b.1 ∧ a.2 ≤ b.2)
theorem leP_of_lt {ps : List (Int × Int)} (h : ps.Pairwise ltP) : ps.Pairwise leP := h.imp fun {a b} h => by
  rcases h with h | h
  · exact .inl h
  · exact .inr ⟨h.1, by omega⟩
theorem leP_uniq {ps qs : List (Int × Int)} (h1 : ps.Pairwise leP) (h2 : qs.Pairwise leP) (pm : ps.Perm qs) : ps = qs := by
  refine pm.eq_of_pairwise (le := leP) (fun a b _ _ x y => ?_) h1 h2
  have : a.1 = b.1 ∧ a.2 = b.2 := by
    unfold leP at x y
    omega
  exact Prod.ext this.1 this.2

theorem sorted_set_pairsT {K : PySem.W.Frag} {P : Program} {w : World} {H : Hp} {l : Addr} {us : List V} {ps : List (Int × Int)} {Q : VK} (hl : H l = some (.tup us)) (iv : Ivs H us ps) (few : ps.length < 64) (bd : ∀ q ∈ ps, (0 ≤ q.1 ∧ q.1 < 10 ^ 13) ∧ 0 ≤ q.2 ∧ q.2 < 10 ^ 13)
    (fin : ∀ H' p us' ps', Same H H' → H p = none → H' p = some (.lst us') → Ivs H' us' ps' → ps'.Pairwise ltP → (∀ q, q ∈ ps' ↔ q ∈ ps) → Q (.ref p) H') :
    rSetOfTT K P w [.ref l] H (fun x H1 => rSortedT K P w [x] H1 Q) := by
  obtain ⟨ks, rfl, e2, e3⟩ := iv.keys
  -- the same keys, in a list that nobody holds: what follows is as there
  have lk : ks.length = ps.length := by
    have z := congrArg List.length e2
    rw [List.length_map, List.length_map] at z
    exact z
  refine ⟨l, ks, rfl, SqT.of hl, fun p hp => ?_, by omega, fun a L na h1 h2 => ?_⟩
  · obtain ⟨x, y, e, e1⟩ := e3 p hp
    rw [e]
    exact SqT.of e1
  exact sorted_keys e2 e3 na h1 h2 bd fin

/-! ### sorted(t), t a tuple of pairs of ints -/
section
variable {prog : Program} {w : World} {A : Around} {E : Value → Shared → Prop} {s : Shared}
/-- the items of a tuple, gathered in a new list -/
theorem collectT {Q : List Value → Shared → Prop} {t : Addr} {o : Obj} {xs : Array Value} {n : Nat} (ho : s.heap.get? t = some o) (hc : o.cls = .type "tuple") (hd : o.data = .seq xs n) (sz : xs.size ≤ sizeLine)
    (fin : ∀ g, s.heap.objs.size ≤ g.objs.size → (∀ b u, s.heap.get? b = some u → g.get? b = some u) → Q xs.toList { s with heap := g }) : wpAny (model prog w) A (collect (.ref t)) Q E s := by
  obtain ⟨g0, eg0⟩ : ∃ g0, s.heap.push { cls := .type "list", data := .seq ([] : List Value).toArray } = g0 := ⟨_, rfl⟩
  have n0 : g0.get? s.heap.objs.size = some { cls := .type "list", data := .seq #[] 0 } := by
    rw [← eg0]
    exact Heap.get?_push_size _ rfl
  have z0 : g0.objs.size = s.heap.objs.size + 1 := by
    rw [← eg0]
    exact Heap.size_push ..
  have k0 : ∀ b u, s.heap.get? b = some u → g0.get? b = some u := fun b u e => by
    rw [← eg0]
    exact Heap.get?_push_of_some _ e
  have n1 := Heap.get?_update_self (Obj.mapSeq (· ++ xs)) n0 rfl
  have last : ∀ s' : Shared, s' = { s with heap := g0.update s.heap.objs.size (Obj.mapSeq (· ++ xs)) } → wpAny (model prog w) A (match Value.ref s.heap.objs.size with
      | Value.ref a => do
        match (← load a).data with
          | Data.seq ys _ => pure ys.toList
          | _ => unsupported "internal:collect"
      | _ => unsupported "internal:collect") Q E s' := fun s' es => by
    rw [es]
    refine wpAny_bind (m := load s.heap.objs.size) (wpAny_load n1 (wpAny_pure ?_))
    show Q ((#[] : Array Value) ++ xs).toList _
    rw [show ((#[] : Array Value) ++ xs).toList = xs.toList by simp]
    refine fin _ (by rw [Heap.size_update, z0]; omega) fun b u e => ?_
    exact (Heap.get?_update_other _ _ (Nat.ne_of_gt (Heap.lt_size e))).trans (k0 b u e)
  unfold collect
  refine wpAny_bind (wpAny_runValue (codeAny_builtin (b := _) F.entry_proto_collect ?_))
  rw [Around.under_plainId (F.plain_proto_collect) _]
  show wpAny _ A.in1 (newList [] >>= fun l => again (.builtin "list.__iadd__" ⟨[l, .ref t], []⟩)) _ _ s
  refine wpAny_bind (wpAny_newObj_type (wpAny_pure ⟨plainId_quiet (F.plain_list_iadd) _, codeAny_builtin (b := _) F.entry_list_iadd ?_⟩))
  rw [Around.under_plainId (F.plain_list_iadd) _, eg0]
  show wpAny _ A.in1 (Builtin.List.listExtendWith (Value.ref s.heap.objs.size) (.ref t) (.ref s.heap.objs.size)) _ _ _
  refine wpAny_mono (wpAny_extend_seq (hsz := sz) (A := A) (R := fun r s' => r = .ok (.ret (.ref s.heap.objs.size)) ∧ s' = { s with heap := g0.update s.heap.objs.size (Obj.mapSeq (· ++ xs)) }) (s := { s with heap := g0 }) _ t _ 0 (.inr rfl) n0 (k0 _ _ ho) hc hd ⟨rfl, rfl⟩) (fun f s' h => ?_) (fun e s' h => absurd h.1 (by simp))
  cases f with
  | done f =>
    obtain ⟨e, h2⟩ := h
    cases e
    exact last s' h2
  | again c => exact ⟨h.1, codeAny_mono h.2 fun r s2 hr => by obtain ⟨rfl, h2⟩ := hr; exact last s2 h2⟩
theorem sortedTup {l : Addr} {vs : List Value} {k : Value → Int × Int} {Q : Value → Shared → Prop} (isT : IsTup s.heap l vs.toArray) (sz : vs.length ≤ sizeLine) (prs : ∀ v ∈ vs, Srt.IsPair s.heap v (k v).1 (k v).2)
    (fin : ∀ (h' : Heap) (d : Addr) (out : List Value), SrtO.Srtd (fun v u => SrtO.lexB (k v) (k u)) out → out.Perm vs → (∀ b o, s.heap.get? b = some o → h'.get? b = some o) → s.heap.objs.size ≤ d → (∃ n, h'.get? d = some (seqObj "list" out.toArray n)) → Q (.ref d) { s with heap := h' }) :
    wpAny (model prog w) A (call (.builtin "sorted") [.ref l]) Q E s := by
  refine Calls.call_function_entry kind_sorted (plain_sorted) entry_sorted (args_sorted1 _) ?_
  unfold Builtin.«sorted»
  refine wpAny_bind (m := checkCount "sorted" 1 1 _) (wpAny_pure (wpAny_bind ?_))
  obtain ⟨o, ho, hc, n, hd⟩ := isT
  refine collectT ho hc hd (by rw [List.size_toArray]; exact sz) (fun h1 big k1 => ?_)
  rw [List.toList_toArray]
  refine wpAny_bind (wpAny_newList ?_ sz)
  have own : (h1.push (seqObj "list" vs.toArray 0)).get? h1.objs.size = some (seqObj "list" vs.toArray 0) := Heap.get?_push_size _ rfl
  have keep : ∀ b o, s.heap.get? b = some o → b ≠ h1.objs.size ∧ b < (h1.push (seqObj "list" vs.toArray 0)).objs.size ∧ (h1.push (seqObj "list" vs.toArray 0)).get? b = some o := fun b o e => by
    have lt : b < h1.objs.size := Heap.lt_size (k1 b o e)
    exact ⟨Nat.ne_of_lt lt, by rw [Heap.size_push]; exact Nat.lt_succ_of_lt lt, Heap.get?_push_of_some _ (k1 b o e)⟩
  show wpAny _ _ _ _ _ { s with heap := h1.push (seqObj "list" vs.toArray 0) }
  refine wpAny_bind (wpAny_holding (wpAny_call_entry slot_list_sort ⟨_, own, rfl⟩ entry_list_sort (SrtO.list_sort_ord (SrtO.swo_lex k) own sz (fun h2 => ?_) fun out hs hb => ⟨_, rfl, ?_⟩) (args_list_sort _)))
  · refine SrtO.pairs_sortableO (s := { s with heap := h1.push (seqObj "list" vs.toArray 0) }) (by omega) (fun v hm => (prs v hm).keeps fun b o e _ => (keep b o e).2.2) fun o' e' => ?_
    have z : some o' = some (seqObj "list" vs.toArray 0) := e'.symm.trans own
    cases z
    exact fun c => absurd (Value.type.inj c) (by decide)
  · refine wpAny_pure ⟨_, rfl, fin _ _ out hs hb.perm (fun b o e => ?_) big (sortedHeap_at own)⟩
    have z := keep b o e
    rw [sortedHeap_old z.1 z.2.1]
    exact z.2.2
end
def rSortTP (K : PySem.W.Frag) : List V → Hp → VK → Prop := fun vs H Q => ∃ (a : Addr) (us : List V) (ps : List (Int × Int)), vs = [V.ref a] ∧ SqT K H a us ∧ Ivs H us ps ∧
  ∀ H' p us' ps', Same H H' → H p = none → H' p = some (.lst us') → Ivs H' us' ps' → ps'.Pairwise leP → ps'.Perm ps → Q (.ref p) H'
theorem Ivs.mem1 {H : Hp} {vs : List V} {ps : List (Int × Int)} (h : Ivs H vs ps) {v : V} (hv : v ∈ vs) : ∃ a q, q ∈ ps ∧ v = .ref a ∧ H a = some (.tup [.int q.1, .int q.2]) := by
  obtain ⟨i, ei⟩ := List.getElem?_of_mem hv
  obtain ⟨a, x, y, e, ep, ea⟩ := h.get ei
  exact ⟨a, (x, y), List.mem_of_getElem? ep, e, ea⟩
noncomputable def pairAt (H : Hp) (v : V) : Int × Int := Classical.epsilon fun q => ∃ a, v = .ref a ∧ H a = some (.tup [.int q.1, .int q.2])
theorem pairAt_eq {H : Hp} {a : Addr} {x y : Int} (h : H a = some (.tup [.int x, .int y])) : pairAt H (.ref a) = (x, y) := by
  have e : ∃ q : Int × Int, ∃ b, V.ref a = .ref b ∧ H b = some (.tup [.int q.1, .int q.2]) := ⟨(x, y), a, rfl, h⟩
  obtain ⟨b, e1, e2⟩ := Classical.epsilon_spec e
  cases e1
  have e2 : H a = some (.tup [.int (pairAt H (.ref a)).1, .int (pairAt H (.ref a)).2]) := e2
  rw [h] at e2
  have z := Option.some.inj e2
  injection z with z
  injection z with z1 z2
  injection z2 with z2 _
  injection z1 with z1
  injection z2 with z2
  exact Prod.ext z1.symm z2.symm
theorem Ivs.pairAt {H : Hp} {vs : List V} {ps : List (Int × Int)} (h : Ivs H vs ps) : vs.map (pairAt H) = ps := by
  induction h with
  | nil => rfl
  | cons e _ ih => rw [List.map_cons, ih, pairAt_eq e]
theorem Ivs.perm1 {H : Hp} {xs ys : List V} (pm : ys.Perm xs) : ∀ {ps : List (Int × Int)}, Ivs H xs ps → ∃ ps', Ivs H ys ps' ∧ ps'.Perm ps := by
  induction pm with
  | nil =>
    intro ps h
    exact ⟨ps, h, .refl _⟩
  | cons x _ ih =>
    intro ps h
    cases h with
    | cons e h =>
      obtain ⟨ps', h', p'⟩ := ih h
      exact ⟨_ :: ps', .cons e h', p'.cons _⟩
  | swap x y l =>
    intro ps h
    cases h with
    | cons e h =>
      cases h with
      | cons e2 h => exact ⟨_, .cons e2 (.cons e h), .swap _ _ _⟩
  | trans _ _ ih1 ih2 =>
    intro ps h
    obtain ⟨p2, h2, q2⟩ := ih2 h
    obtain ⟨p1, h1, q1⟩ := ih1 h2
    exact ⟨p1, h1, q1.trans q2⟩
theorem cr_sortTP {X : Cx} : CallR X (.builtin "sorted") (rSortTP X.K) := by
  intro pins s σ H vs us0 Q I r h
  obtain ⟨a, us, ps, rfl, hs, iv, q⟩ := h
  obtain ⟨its, rv, isT, sz⟩ := I.tuple hs
  obtain ⟨u, rfl, ru⟩ := vals1 r
  obtain rfl : u = Value.ref a := ru
  obtain ⟨e1, e2⟩ := refs_back rv fun x m => by
    obtain ⟨t, q, _, e, _⟩ := iv.mem1 m
    exact ⟨t, e⟩
  refine sortedTup (k := fun u => pairAt H (backV u)) isT (by rw [← rv.length]; exact sz) (fun v hv => ?_) fun h' d out h1 pmo kp hd hn => ?_
  · obtain ⟨t, rfl⟩ := e2 v hv
    have hm : V.ref t ∈ us := by rw [e1]; exact List.mem_map.mpr ⟨_, hv, rfl⟩
    obtain ⟨t', pq, _, e, ht⟩ := iv.mem1 hm
    cases e
    obtain ⟨_, its2, r2, o, ho, hc, n, hd⟩ := I.hok _ _ ht
    obtain ⟨u1, u2, rfl, ri, rj⟩ := vals2 r2
    obtain ⟨t1, rfl⟩ := ri
    obtain ⟨t2, rfl⟩ := rj
    show Srt.IsPair _ _ (pairAt H (.ref t)).1 (pairAt H (.ref t)).2
    rw [pairAt_eq ht]
    exact ⟨t, o, t1, t2, n, rfl, ho, hc, hd⟩
  · have h3 : ∀ u ∈ out, ∃ a, u = Value.ref a := fun u hu => e2 u (pmo.mem_iff.mp hu)
    obtain ⟨n, hn⟩ := hn
    have pm : (out.map backV).Perm us := by
      rw [e1]
      exact pmo.map backV
    obtain ⟨qs, ivq, pmq⟩ := Ivs.perm1 pm iv
    have fr : H d = none := I.hok.fresh hd
    have s1 : Same H (upd H d (.lst (out.map backV))) := same_new fr
    have asc : qs.Pairwise leP := by
      rw [← ivq.pairAt]
      refine List.pairwise_map.mpr (List.pairwise_map.mpr (List.Pairwise.imp (fun {x y} z => ?_) h1))
      have z := SrtO.lexB_no.mp z
      unfold leP
      omega
    refine ⟨.ref d, upd H d (.lst (out.map backV)), I.laid (t' := s.toks) kp hd ⟨?_, out, n, vals_back h3, hn⟩, rfl, q _ d _ qs s1 fr upd_same (ivq.same s1) asc pmq⟩
    rw [pm.length_eq]
    exact sz

/-! ### comprehensions over a range that change nothing but make new objects -/
theorem lcR {lo : Int} {n : Nat} {g : TG} {tt : TT} {te : TE} {vs : List Nat} {σ : L2.St} {H1 : Hp} {D : Addr} {Qd : Hp → Prop} (R : Nat → Hp → List V → Prop) (nD : H1 D = none) (few : n < 1000)
    (mono : ∀ i H' H'' ws, Tps H' H'' → R i H' ws → R i H'' ws) (len : ∀ i H' ws, R i H' ws → ws.length ≤ i) (r0 : ∀ H', R 0 H' [])
    (hs : ∀ i H' (N : Hp → Prop) acc, i < n → Same H1 H' → H' D = some (.lst acc) → acc.length < sizeLine → R i H' acc → (∀ H'', Same H' H'' → R (i + 1) H'' acc → N H'') → (∀ H'' y, Same H' H'' → R (i + 1) H'' (acc ++ [y]) → ∃ acc', H'' D = some (.lst acc') ∧ acc'.length < sizeLine ∧ N (upd H'' D (.lst (acc' ++ [y])))) →
      g (.int (lo + i)) (wipe σ vs) H' fun σ2 H2 => wipe σ2 vs = wipe σ vs ∧ tt σ2 H2 fun b H3 => if b = true then te σ2 H3 fun y H4 => ∃ acc, H4 D = some (.lst acc) ∧ acc.length < sizeLine ∧ N (upd H4 D (.lst (acc ++ [y]))) else N H3)
    (hd : ∀ H' ws, Same H1 H' → H' D = some (.lst ws) → R n H' ws → Qd H') :
    ∃ W : Nat → Nat → Hp → Prop, (∃ m, W 0 m (upd H1 D (.lst []))) ∧ ∀ i m H, W i m H →
      ((Itr lo n).stop i H ∧ Qd H) ∨ ((Itr lo n).go i H ∧ ∃ Nx : Hp → Prop, (∀ H', Nx H' → ∃ m', m' < m ∧ W (i + 1) m' H') ∧ ∀ x H', (Itr lo n).yld i H x H' → g x (wipe σ vs) H' fun σ2 H2 => wipe σ2 vs = wipe σ vs ∧ tt σ2 H2 fun b H3 =>
        if b = true then te σ2 H3 fun y H4 => ∃ acc, H4 D = some (.lst acc) ∧ acc.length < sizeLine ∧ Nx (upd H4 D (.lst (acc ++ [y]))) else Nx H3) := by
  refine lc_range (lo := lo) (n := n) (fun i H' => Same H1 H' ∧ ∃ ws, H' D = some (.lst ws) ∧ R i H' ws) ⟨same_new nD, [], upd_same, r0 _⟩ ?_ ?_
  · rintro i H' hi ⟨sm, ws, eD, r⟩
    have lw := len i H' ws r
    have sz : ws.length < sizeLine := few_line (by omega)
    refine hs i H' _ ws hi sm eD sz r (fun H'' s r2 => ⟨sm.trans s, ws, s _ _ eD, r2⟩) (fun H'' y s r2 => ?_)
    exact ⟨ws, s _ _ eD, sz, same_off nD (sm.trans s), _, upd_same, mono _ _ _ _ (Tps.lst (s _ _ eD)) r2⟩
  · rintro H' ⟨sm, ws, eD, r⟩
    exact hd H' ws sm eD r

/-! ### the number needed depends on the members alone -/
theorem need_le_of {ts ps ts' ps' : List (Int × Int)} (g : Good (ts ++ ps)) (g' : Good (ts' ++ ps')) (h1 : ∀ t ∈ ts, t ∈ ts') (h2 : ∀ p ∈ ps', p ∈ ps) : needO ts ps ≤ needO ts' ps' := by
  obtain ⟨⟨D, d1, d2, d3⟩, _⟩ := need_ok g
  obtain ⟨_, S, s1, s2, _⟩ := need_ok g'
  have c : Com ts ps S := fun t ht p k1 k2 => by
    obtain ⟨q, hq, k⟩ := s2 t (h1 t ht) p k1 k2
    rcases List.mem_append.mp hq with hq | hq
    · exact ⟨q, List.mem_append_left _ (h2 q hq), k⟩
    · exact ⟨q, List.mem_append_right _ hq, k⟩
  have := weak_dual c d1 d2
  omega
theorem need_mem {ts ps ts' ps' : List (Int × Int)} (g : Good (ts ++ ps)) (h1 : ∀ t, t ∈ ts ↔ t ∈ ts') (h2 : ∀ p, p ∈ ps ↔ p ∈ ps') : needO ts ps = needO ts' ps' := by
  have g' : Good (ts' ++ ps') := fun q hq => g q (by
    rcases List.mem_append.mp hq with hq | hq
    · exact List.mem_append_left _ ((h1 q).mpr hq)
    · exact List.mem_append_right _ ((h2 q).mpr hq))
  exact Nat.le_antisymm (need_le_of g g' (fun t => (h1 t).mp) (fun p => (h2 p).mpr)) (need_le_of g' g (fun t => (h1 t).mpr) (fun p => (h2 p).mp))
theorem good0 {ts : List (Int × Int)} (g : Good ts) : Good (ts ++ []) := by
  rw [List.append_nil]
  exact g

/-! ### one further interval -/
def helpB (ts ps : List (Int × Int)) (q : Int × Int) : Bool := decide (((needO ts (ps ++ [q]) : Nat) : Int) < ((needO ts ps : Nat) : Int))
theorem good_left {ts ps : List (Int × Int)} {q : Int × Int} (g : Good (ts ++ (ps ++ [q]))) : Good (ts ++ ps) := fun r hr => g r (by
  rcases List.mem_append.mp hr with hr | hr
  · exact List.mem_append_left _ hr
  · exact List.mem_append_right _ (List.mem_append_left _ hr))
theorem com_mono {ts ps S qs T : List (Int × Int)} (c : Com ts ps S) (h : ∀ q, q ∈ ps ++ S → q ∈ qs ++ T) : Com ts qs T := fun t ht p h1 h2 => by
  obtain ⟨q, hq, k⟩ := c t ht p h1 h2
  exact ⟨q, h q hq, k⟩
theorem need_add {ts ps : List (Int × Int)} {z : Int × Int} (g : Good (ts ++ (ps ++ [z]))) : needO ts (ps ++ [z]) ≤ needO ts ps ∧ needO ts ps ≤ needO ts (ps ++ [z]) + 1 := by
  obtain ⟨⟨D, d1, d2, d3⟩, S, s1, s2, _⟩ := need_ok (good_left g)
  obtain ⟨⟨D', e1, e2, e3⟩, S', t1, t2, _⟩ := need_ok g
  constructor
  · have := weak_dual (com_mono (qs := ps ++ [z]) (T := S) s2 (fun q hq => by
      rcases List.mem_append.mp hq with hq | hq
      · exact List.mem_append_left _ (List.mem_append_left _ hq)
      · exact List.mem_append_right _ hq)) e1 e2
    omega
  · have := weak_dual (com_mono (qs := ps) (T := z :: S') t2 (fun q hq => by
      rcases List.mem_append.mp hq with hq | hq
      · rcases List.mem_append.mp hq with hq | hq
        · exact List.mem_append_left _ hq
        · rw [List.mem_singleton.mp hq]
          exact List.mem_append_right _ List.mem_cons_self
      · exact List.mem_append_right _ (List.mem_cons_of_mem _ hq))) d1 d2
    rw [List.length_cons] at this
    omega
theorem need_zero {ts ps : List (Int × Int)} (g : Good (ts ++ ps)) (h : needO ts ps = 0) : Com ts ps [] := by
  obtain ⟨_, S, s1, s2, _⟩ := need_ok g
  rw [h] at s1
  rw [List.length_eq_zero_iff.mp (Nat.le_zero.mp s1)] at s2
  exact s2
theorem need_of_com {ts ps : List (Int × Int)} (g : Good (ts ++ ps)) {S : List (Int × Int)} (h : Com ts ps S) : needO ts ps ≤ S.length := by
  obtain ⟨⟨D, d1, d2, d3⟩, _⟩ := need_ok g
  have := weak_dual h d1 d2
  omega
theorem com_self (ts ps : List (Int × Int)) : Com ts ps ts := fun t ht p h1 h2 => ⟨t, List.mem_append_right _ ht, Int.le_refl _, h1, h2, Int.le_refl _⟩
theorem need_help {ts ps : List (Int × Int)} {w : Int} (g : Good (ts ++ ps)) (ht : ∀ q ∈ ts, 0 ≤ q.1 ∧ q.1 ≤ q.2 ∧ q.2 < w) (h : 0 < needO ts ps) : ∃ z : Int × Int, (0 ≤ z.1 ∧ z.1 ≤ z.2 ∧ z.2 < w) ∧ helpB ts ps z = true := by
  obtain ⟨⟨D, d1, d2, d3⟩, S, s1, s2, s3⟩ := need_ok g
  cases S with
  | nil =>
    have := weak_dual s2 d1 d2
    simp at this
    rw [this] at d3
    simp at d3
    omega
  | cons z S =>
    obtain ⟨t, mt, a1, a2, a3⟩ := s3 z List.mem_cons_self
    have ot := ht t mt
    have oz : 0 ≤ z.1 ∧ z.1 ≤ z.2 ∧ z.2 < w := by omega
    have g2 : Good (ts ++ (ps ++ [z])) := fun q hq => by
      rcases List.mem_append.mp hq with hq | hq
      · exact g q (List.mem_append_left _ hq)
      · rcases List.mem_append.mp hq with hq | hq
        · exact g q (List.mem_append_right _ hq)
        · rw [List.mem_singleton.mp hq]
          exact ⟨oz.1, oz.2.1⟩
    have := need_of_com g2 (S := S) (com_mono s2 (fun q hq => by
      rcases List.mem_append.mp hq with hq | hq
      · exact List.mem_append_left _ (List.mem_append_left _ hq)
      · rcases List.mem_cons.mp hq with rfl | hq
        · exact List.mem_append_left _ (List.mem_append_right _ (List.mem_singleton.mpr rfl))
        · exact List.mem_append_right _ hq))
    rw [List.length_cons] at s1
    exact ⟨z, oz, decide_eq_true (by omega)⟩

theorem blocks_in {row : List (Int × Int)} {w : Int} (h : ∀ q ∈ row, 0 ≤ q.1 ∧ q.1 ≤ q.2 ∧ q.2 < w) : (blocksOf row).length ≤ w.toNat := by
  have len : ∀ n : Nat, (Cb row n).length ≤ n := by
    intro n
    induction n with
    | zero => exact Nat.le_refl _
    | succ n ih =>
      have el : ∀ (l : List (Int × Int)) (p : Int), (extl l p).length = l.length := fun l p => by
        rcases List.eq_nil_or_concat l with rfl | ⟨m, r, rfl⟩
        · rfl
        · rw [List.concat_eq_append, extl_snoc, List.length_append, List.length_append]
          rfl
      rw [Cb_succ]
      split
      · split
        · rw [List.length_append, List.length_singleton]
          omega
        · rw [el]
          omega
      · omega
  rw [← Cb_all (N := w.toNat) fun q hq => by
    have := h q hq
    omega]
  exact len _

theorem fewk_str {row : List (Int × Int)} {w f s : Int} (h : ∀ q ∈ row, 0 ≤ q.1 ∧ q.1 ≤ q.2 ∧ q.2 < w) (hw : w ≤ 60) (l : row.length ≤ 60) : FewK (row.map (strI f s)) := by
  refine .inr ⟨by rw [List.length_map]; exact l, (List.range (w.toNat + 1)).map fun k : Nat => (k : Int) * f + s, by rw [List.length_map, List.length_range]; omega, fun q hq => ?_⟩
  obtain ⟨p, hp, rfl⟩ := List.mem_map.mp hq
  have o := h p hp
  constructor
  · refine List.mem_map.mpr ⟨p.1.toNat, List.mem_range.mpr (by omega), ?_⟩
    show ((p.1.toNat : Nat) : Int) * f + s = p.1 * f + s
    rw [Int.toNat_of_nonneg o.1]
  · refine List.mem_map.mpr ⟨(p.2 + 1).toNat, List.mem_range.mpr (by omega), ?_⟩
    show (((p.2 + 1).toNat : Nat) : Int) * f + s = p.2 * f + f - 1 + s + 1
    rw [Int.toNat_of_nonneg (by omega), Int.add_mul]
    omega
theorem fewk_in {row : List (Int × Int)} {w : Int} (h : ∀ q ∈ row, 0 ≤ q.1 ∧ q.1 ≤ q.2 ∧ q.2 < w) (hw : w ≤ 60) (l : row.length ≤ 60) : FewK row := by
  have := fewk_str (f := 1) (s := 0) h hw l
  rw [show row.map (strI 1 0) = row by
    conv => rhs; rw [← List.map_id row]
    refine List.map_congr_left fun q _ => ?_
    show (q.1 * 1 + 0, q.2 * 1 + 1 - 1 + 0) = q
    exact Prod.ext (by show q.1 * 1 + 0 = q.1; omega) (by show q.2 * 1 + 1 - 1 + 0 = q.2; omega)] at this
  exact this

theorem in_two {w : Int} {ts ps : List (Int × Int)} (h1 : ∀ q ∈ ts, 0 ≤ q.1 ∧ q.1 ≤ q.2 ∧ q.2 < w) (h2 : ∀ q ∈ ps, 0 ≤ q.1 ∧ q.1 ≤ q.2 ∧ q.2 < w) : ∀ q ∈ ts ++ ps, 0 ≤ q.1 ∧ q.1 ≤ q.2 ∧ q.2 < w := fun q hq => by
  rcases List.mem_append.mp hq with hq | hq
  · exact h1 q hq
  · exact h2 q hq
theorem good_in {w : Int} {ts : List (Int × Int)} (h : ∀ q ∈ ts, 0 ≤ q.1 ∧ q.1 ≤ q.2 ∧ q.2 < w) : Good ts := fun q hq => ⟨(h q hq).1, (h q hq).2.1⟩
theorem in_one {w : Int} {q : Int × Int} (h : 0 ≤ q.1 ∧ q.1 ≤ q.2 ∧ q.2 < w) : ∀ p ∈ [q], 0 ≤ p.1 ∧ p.1 ≤ p.2 ∧ p.2 < w := fun p hp => by
  rw [List.mem_singleton.mp hp]
  exact h
theorem in_up {w v : Int} {ts : List (Int × Int)} (h : ∀ q ∈ ts, 0 ≤ q.1 ∧ q.1 ≤ q.2 ∧ q.2 < w) (hv : w ≤ v) : ∀ q ∈ ts, 0 ≤ q.1 ∧ q.1 ≤ q.2 ∧ q.2 < v := fun q hq => by
  have := h q hq
  omega
theorem in_take {w : Int} {ts : List (Int × Int)} (h : ∀ q ∈ ts, 0 ≤ q.1 ∧ q.1 ≤ q.2 ∧ q.2 < w) (n : Nat) : ∀ q ∈ ts.take n, 0 ≤ q.1 ∧ q.1 ≤ q.2 ∧ q.2 < w := fun q hq => h q (List.mem_of_mem_take hq)
theorem need_ge {ts ps : List (Int × Int)} {D : List Dem} (g : Good (ts ++ ps)) (h1 : Ind D) (h2 : ∀ d ∈ D, OpenD ts ps d) : D.length ≤ needO ts ps := by
  obtain ⟨_, S, s1, s2, _⟩ := need_ok g
  have := weak_dual s2 h1 h2
  omega
theorem blocks_strIn {row : List (Int × Int)} {w : Int} (h : ∀ q ∈ row, 0 ≤ q.1 ∧ q.1 ≤ q.2 ∧ q.2 < w) {f s : Int} (hf : 0 < f) (hs : 0 ≤ s) : (blocksOf (row.map (strI f s))).length ≤ w.toNat := by
  rw [blocks_str (fun q hq => ⟨(h q hq).1, (h q hq).2.1⟩) hf hs, List.length_map]
  exact blocks_in h

theorem any_pair (x y : Int) : ∀ ps : List (Int × Int), ((ps.map pairD).any fun z => PyData.eqv z (.tuple [.int x, .int y])) = decide ((x, y) ∈ ps)
  | [] => rfl
  | q :: ps => by
    rw [List.map_cons, List.any_cons, any_pair x y ps]
    show (PyData.eqv (.tuple [.int q.1, .int q.2]) (.tuple [.int x, .int y]) || _) = _
    rw [eqv_pair, Bool.eq_iff_iff, Bool.or_eq_true, decide_eq_true_iff, decide_eq_true_iff, decide_eq_true_iff, List.mem_cons]
    exact ⟨fun h => h.imp (fun z => z.symm) id, fun h => h.imp (fun z => z.symm) id⟩

/-! ### what a block is; blocks under changes of the row -/
structure IsBlk (row : List (Int × Int)) (b : Int × Int) : Prop where
  dep : ∃ q ∈ row, q.1 ≤ b.1 ∧ b.1 ≤ q.2
  le : b.1 ≤ b.2
  lo : Bd row b.1
  hi : Bd row (b.2 + 1)
  gap : ∀ k, b.1 < k → k ≤ b.2 → ¬ Bd row k
theorem bl_one {row : List (Int × Int)} {N : Nat} {l : List (Int × Int)} (B : Bl row N l) {p q : Int × Int} (hp : p ∈ l) (hq : q ∈ l) {x : Int} (p1 : p.1 ≤ x) (p2 : x ≤ p.2) (q1 : q.1 ≤ x) (q2 : x ≤ q.2) : p = q := by
  obtain ⟨i, ei⟩ := List.getElem?_of_mem hp
  obtain ⟨j, ej⟩ := List.getElem?_of_mem hq
  rcases Nat.lt_trichotomy i j with h | h | h
  · have := B.idx h ei ej
    omega
  · subst h
    rw [ei] at ej
    cases ej
    rfl
  · have := B.idx h ej ei
    omega
theorem blk_of {row : List (Int × Int)} (g : Good row) {b : Int × Int} (h : b ∈ blocksOf row) : IsBlk row b := by
  have B := blocks_bl g
  have ok := B.ok b h
  have st : b.1 ∈ ((List.range (topN row)).filter (stB row)).map (fun n : Nat => (n : Int)) := by
    rw [← B.fst]
    exact List.mem_map.mpr ⟨b, h, rfl⟩
  obtain ⟨n, hn, en⟩ := List.mem_map.mp st
  have z := Bool.and_eq_true_iff.mp (List.mem_filter.mp hn).2
  have z1 := of_decide_eq_true z.1
  have z2 := of_decide_eq_true z.2
  rw [en] at z1 z2
  have gap : ∀ k, b.1 < k → k ≤ b.2 → ¬ Bd row k := fun k k1 k2 => B.inner h k1 k2
  refine ⟨dep_pos.mp z1, ok.2.1, z2, ?_, gap⟩
  refine Decidable.byContradiction fun nb => ?_
  have d2 : 0 < depI row b.2 := by
    have := (B.cov b.2.toNat (by omega)).mpr ⟨b, h, by omega, by omega⟩
    rw [show ((b.2.toNat : Nat) : Int) = b.2 by omega] at this
    exact this
  have e := dep_step g (b.2 + 1)
  rw [del_zero nb, show b.2 + 1 - 1 = b.2 by omega] at e
  obtain ⟨q, hq, q1, q2⟩ := dep_in g (pos := b.2 + 1) (by omega)
  have ne : q.1 ≠ b.2 + 1 := by
    intro z
    have st : q.1 ∈ ((List.range (topN row)).filter (stB row)).map (fun n : Nat => (n : Int)) := by
      rw [← B.fst]
      exact List.mem_map.mpr ⟨q, hq, rfl⟩
    obtain ⟨n, hn, en⟩ := List.mem_map.mp st
    have z2 := of_decide_eq_true (Bool.and_eq_true_iff.mp (List.mem_filter.mp hn).2).2
    rw [en, z] at z2
    exact nb z2
  have := bl_one B hq h (x := b.2) (by omega) (by omega) (by omega) (by omega)
  rw [this] at q2
  omega
theorem blk_mem {row : List (Int × Int)} (g : Good row) {b : Int × Int} (h : IsBlk row b) : b ∈ blocksOf row := by
  have B := blocks_bl g
  obtain ⟨q, hq, q1, q2⟩ := dep_in g (dep_pos.mpr h.dep)
  have k := blk_of g hq
  have e1 : q.1 = b.1 := by
    rcases Int.lt_or_eq_of_le q1 with z | z
    · exact absurd h.lo (k.gap b.1 z q2)
    · exact z
  have e2 : q.2 = b.2 := by
    have := h.le
    rcases Int.lt_trichotomy q.2 b.2 with z | z | z
    · exact absurd k.hi (h.gap (q.2 + 1) (by omega) (by omega))
    · exact z
    · exact absurd h.hi (k.gap (b.2 + 1) (by omega) (by omega))
  have : q = b := by
    obtain ⟨x, y⟩ := q
    obtain ⟨u, v⟩ := b
    cases e1
    cases e2
    rfl
  rw [← this]
  exact hq
theorem blk_iff {row : List (Int × Int)} (g : Good row) {b : Int × Int} : b ∈ blocksOf row ↔ IsBlk row b := ⟨blk_of g, blk_mem g⟩
theorem asc_uniq : ∀ {l m : List (Int × Int)}, l.Pairwise (fun a b => a.1 < b.1) → m.Pairwise (fun a b => a.1 < b.1) → (∀ x, x ∈ l ↔ x ∈ m) → l = m
  | [], [], _, _, _ => rfl
  | [], b :: m, _, _, h => nomatch (h b).mpr List.mem_cons_self
  | a :: l, [], _, _, h => nomatch (h a).mp List.mem_cons_self
  | a :: l, b :: m, h1, h2, h => by
    have p1 := List.pairwise_cons.mp h1
    have p2 := List.pairwise_cons.mp h2
    have ab : a = b := by
      rcases List.mem_cons.mp ((h a).mp List.mem_cons_self) with e | e
      · exact e
      · rcases List.mem_cons.mp ((h b).mpr List.mem_cons_self) with f | f
        · exact f.symm
        · have := p1.1 b f
          have := p2.1 a e
          omega
    subst ab
    congr 1
    refine asc_uniq p1.2 p2.2 fun x => ⟨fun hx => ?_, fun hx => ?_⟩
    · rcases List.mem_cons.mp ((h x).mp (List.mem_cons_of_mem _ hx)) with e | e
      · subst e
        have := p1.1 x hx
        omega
      · exact e
    · rcases List.mem_cons.mp ((h x).mpr (List.mem_cons_of_mem _ hx)) with e | e
      · subst e
        have := p2.1 x hx
        omega
      · exact e
theorem blk_asc {row : List (Int × Int)} (g : Good row) : (blocksOf row).Pairwise (fun a b => a.1 < b.1) :=
  (blocks_bl g).asc.imp_of_mem fun {a b} ha hb h => by
    have := (blk_of g ha).le
    omega
theorem blk_eq {r1 r2 : List (Int × Int)} (g1 : Good r1) (g2 : Good r2) (h : ∀ b, IsBlk r1 b ↔ IsBlk r2 b) : blocksOf r1 = blocksOf r2 :=
  asc_uniq (blk_asc g1) (blk_asc g2) fun x => by rw [blk_iff g1, blk_iff g2, h]
theorem bd_mem {r1 r2 : List (Int × Int)} (h : ∀ q, q ∈ r1 ↔ q ∈ r2) (k : Int) : Bd r1 k ↔ Bd r2 k :=
  ⟨fun ⟨q, hq, e⟩ => ⟨q, (h q).mp hq, e⟩, fun ⟨q, hq, e⟩ => ⟨q, (h q).mpr hq, e⟩⟩
theorem isBlk_mem {r1 r2 : List (Int × Int)} (h : ∀ q, q ∈ r1 ↔ q ∈ r2) {b : Int × Int} (k : IsBlk r1 b) : IsBlk r2 b := by
  obtain ⟨q, hq, e⟩ := k.dep
  exact ⟨⟨q, (h q).mp hq, e⟩, k.le, (bd_mem h _).mp k.lo, (bd_mem h _).mp k.hi, fun x x1 x2 z => k.gap x x1 x2 ((bd_mem h x).mpr z)⟩
/-- order and repetitions do not matter -/
theorem blocks_mem {r1 r2 : List (Int × Int)} (g1 : Good r1) (g2 : Good r2) (h : ∀ q, q ∈ r1 ↔ q ∈ r2) : blocksOf r1 = blocksOf r2 :=
  blk_eq g1 g2 fun _ => ⟨isBlk_mem h, isBlk_mem fun q => (h q).symm⟩
/-- one of the blocks as one more interval changes nothing -/
theorem blocks_own {row : List (Int × Int)} (g : Good row) {b : Int × Int} (hb : b ∈ blocksOf row) : blocksOf (row ++ [b]) = blocksOf row := by
  have k := blk_of g hb
  have b0 := ((blocks_bl g).ok b hb)
  have g2 : Good (row ++ [b]) := fun q hq => by
    rcases List.mem_append.mp hq with hq | hq
    · exact g q hq
    · rw [List.mem_singleton.mp hq]
      exact ⟨b0.1, b0.2.1⟩
  have bd : ∀ x, Bd (row ++ [b]) x ↔ Bd row x := fun x => by
    constructor
    · rintro ⟨q, hq, e⟩
      rcases List.mem_append.mp hq with hq | hq
      · exact ⟨q, hq, e⟩
      · rw [List.mem_singleton.mp hq] at e
        rcases e with e | e
        · rw [← e]
          exact k.lo
        · rw [← e]
          exact k.hi
    · rintro ⟨q, hq, e⟩
      exact ⟨q, List.mem_append_left _ hq, e⟩
  refine blk_eq g2 g fun c => ⟨fun h => ?_, fun h => ?_⟩
  · refine ⟨?_, h.le, (bd _).mp h.lo, (bd _).mp h.hi, fun x x1 x2 z => h.gap x x1 x2 ((bd x).mpr z)⟩
    obtain ⟨q, hq, e⟩ := h.dep
    rcases List.mem_append.mp hq with hq | hq
    · exact ⟨q, hq, e⟩
    · rw [List.mem_singleton.mp hq] at e
      have p : 0 < depI row c.1 := by
        have := ((blocks_bl g).cov c.1.toNat (by omega)).mpr ⟨b, hb, by omega, by omega⟩
        rw [show ((c.1.toNat : Nat) : Int) = c.1 by omega] at this
        exact this
      exact dep_pos.mp p
  · obtain ⟨q, hq, e⟩ := h.dep
    exact ⟨⟨q, List.mem_append_left _ hq, e⟩, h.le, (bd _).mpr h.lo, (bd _).mpr h.hi, fun x x1 x2 z => h.gap x x1 x2 ((bd x).mp z)⟩
/-- reflected -/
def refI (L : Int) (q : Int × Int) : Int × Int := (L - 1 - q.2, L - 1 - q.1)
theorem refI_refI (L : Int) (q : Int × Int) : refI L (refI L q) = q := by
  unfold refI
  ext
  · show L - 1 - (L - 1 - q.1) = q.1
    omega
  · show L - 1 - (L - 1 - q.2) = q.2
    omega
theorem bd_ref {L : Int} {row : List (Int × Int)} {k : Int} : Bd (row.map (refI L)) k ↔ Bd row (L - k) := by
  constructor
  · rintro ⟨q, hq, e⟩
    obtain ⟨r, hr, rfl⟩ := List.mem_map.mp hq
    rcases e with e | e
    · have e : L - 1 - r.2 = k := e
      exact ⟨r, hr, .inr (by omega)⟩
    · have e : L - 1 - r.1 + 1 = k := e
      exact ⟨r, hr, .inl (by omega)⟩
  · rintro ⟨r, hr, e⟩
    refine ⟨refI L r, List.mem_map.mpr ⟨r, hr, rfl⟩, ?_⟩
    rcases e with e | e
    · exact .inr (by show L - 1 - r.1 + 1 = k; omega)
    · exact .inl (by show L - 1 - r.2 = k; omega)
theorem good_ref {L : Int} {row : List (Int × Int)} (g : Good row) (h : ∀ q ∈ row, q.2 < L) : Good (row.map (refI L)) := fun q hq => by
  obtain ⟨r, hr, rfl⟩ := List.mem_map.mp hq
  have := g r hr
  have := h r hr
  exact ⟨by show 0 ≤ L - 1 - r.2; omega, by show L - 1 - r.2 ≤ L - 1 - r.1; omega⟩
theorem isBlk_ref {L : Int} {row : List (Int × Int)} (g : Good row) {b : Int × Int} (k : IsBlk row b) : IsBlk (row.map (refI L)) (refI L b) := by
  have kl := k.le
  refine ⟨?_, by show L - 1 - b.2 ≤ L - 1 - b.1; omega, bd_ref.mpr ?_, bd_ref.mpr ?_, fun x x1 x2 => ?_⟩
  · -- the last position is covered too
    have hb := blk_mem g k
    have ok := (blocks_bl g).ok b hb
    have d2 : 0 < depI row b.2 := by
      have := ((blocks_bl g).cov b.2.toNat (by omega)).mpr ⟨b, hb, by omega, by omega⟩
      rw [show ((b.2.toNat : Nat) : Int) = b.2 by omega] at this
      exact this
    obtain ⟨q, hq, e⟩ := dep_pos.mp d2
    exact ⟨refI L q, List.mem_map.mpr ⟨q, hq, rfl⟩, by show L - 1 - q.2 ≤ L - 1 - b.2; omega, by show L - 1 - b.2 ≤ L - 1 - q.1; omega⟩
  · show Bd row (L - (L - 1 - b.2))
    rw [show L - (L - 1 - b.2) = b.2 + 1 by omega]
    exact k.hi
  · show Bd row (L - (L - 1 - b.1 + 1))
    rw [show L - (L - 1 - b.1 + 1) = b.1 by omega]
    exact k.lo
  · have x1 : L - 1 - b.2 < x := x1
    have x2 : x ≤ L - 1 - b.1 := x2
    rw [bd_ref]
    exact k.gap (L - x) (by omega) (by omega)
theorem blocks_ref {L : Int} {row : List (Int × Int)} (g : Good row) (h : ∀ q ∈ row, q.2 < L) : blocksOf (row.map (refI L)) = ((blocksOf row).reverse).map (refI L) := by
  have g2 := good_ref g h
  refine asc_uniq (blk_asc g2) ?_ fun x => ?_
  · refine List.pairwise_map.mpr (List.pairwise_reverse.mpr ((blocks_bl g).asc.imp_of_mem fun {a b} ha hb ab => ?_))
    have := (blk_of g hb).le
    show L - 1 - b.2 < L - 1 - a.2
    omega
  · rw [blk_iff g2, List.mem_map]
    constructor
    · intro k
      have z := isBlk_ref (L := L) g2 k
      have e : (row.map (refI L)).map (refI L) = row := by
        rw [List.map_map]
        have : ∀ l : List (Int × Int), l.map (refI L ∘ refI L) = l := fun l => by
          induction l with
          | nil => rfl
          | cons q r ih =>
            rw [List.map_cons, ih]
            show refI L (refI L q) :: r = _
            rw [refI_refI]
        exact this row
      rw [e] at z
      exact ⟨refI L x, List.mem_reverse.mpr (blk_mem g z), refI_refI L x⟩
    · rintro ⟨b, hb, rfl⟩
      exact isBlk_ref g (blk_of g (List.mem_reverse.mp hb))
/-- with one more interval each block lies inside an old one or outside all -/
theorem blocks_more {row : List (Int × Int)} (g : Good row) {p : Int × Int} (gp : 0 ≤ p.1 ∧ p.1 ≤ p.2) {b c : Int × Int} (hb : b ∈ blocksOf (row ++ [p])) (hc : c ∈ blocksOf row) (m1 : c.1 ≤ b.2) (m2 : b.1 ≤ c.2) : c.1 ≤ b.1 ∧ b.2 ≤ c.2 := by
  have g2 : Good (row ++ [p]) := fun q hq => by
    rcases List.mem_append.mp hq with hq | hq
    · exact g q hq
    · rw [List.mem_singleton.mp hq]
      exact gp
  have k := blk_of g2 hb
  have z := blk_of g hc
  have up : ∀ x, Bd row x → Bd (row ++ [p]) x := fun x ⟨q, hq, e⟩ => ⟨q, List.mem_append_left _ hq, e⟩
  constructor
  · refine Int.not_lt.mp fun lt => k.gap c.1 lt m1 (up _ z.lo)
  · refine Int.not_lt.mp fun lt => k.gap (c.2 + 1) (by omega) (by omega) (up _ z.hi)

/-! ### sorted(list of pairs) -/
theorem Ivs.perm {H : Hp} {xs ys : List V} (pm : ys.Perm xs) : ∀ {ps : List (Int × Int)}, Ivs H xs ps → ∃ ps', Ivs H ys ps' ∧ ps'.Perm ps := by
  induction pm with
  | nil =>
    intro ps h
    exact ⟨ps, h, .refl _⟩
  | cons x _ ih =>
    intro ps h
    cases h with
    | cons e h =>
      obtain ⟨ps', h', p'⟩ := ih h
      exact ⟨_ :: ps', .cons e h', p'.cons _⟩
  | swap x y l =>
    intro ps h
    cases h with
    | cons e h =>
      cases h with
      | cons e2 h => exact ⟨_, .cons e2 (.cons e h), .swap _ _ _⟩
  | trans _ _ ih1 ih2 =>
    intro ps h
    obtain ⟨p2, h2, q2⟩ := ih2 h
    obtain ⟨p1, h1, q1⟩ := ih1 h2
    exact ⟨p1, h1, q1.trans q2⟩
theorem Ivs.pair {H : Hp} {R : V → V → Prop} {S : Int × Int → Int × Int → Prop} (rs : ∀ a b x y u v, H a = some (.tup [.int x, .int y]) → H b = some (.tup [.int u, .int v]) → R (.ref a) (.ref b) → S (x, y) (u, v)) {vs : List V} {ps : List (Int × Int)} (h : Ivs H vs ps) (pw : vs.Pairwise R) : ps.Pairwise S := by
  induction h with
  | nil => exact .nil
  | cons e h ih =>
    have p := List.pairwise_cons.mp pw
    refine List.pairwise_cons.mpr ⟨fun q hq => ?_, ih p.2⟩
    obtain ⟨b, hb, eb⟩ := h.tpsMem hq
    exact rs _ b _ _ q.1 q.2 e eb (p.1 _ hb)
theorem Ivs.mem {H : Hp} {vs : List V} {ps : List (Int × Int)} (h : Ivs H vs ps) {v : V} (hv : v ∈ vs) : ∃ a q, q ∈ ps ∧ v = .ref a ∧ H a = some (.tup [.int q.1, .int q.2]) := by
  obtain ⟨i, ei⟩ := List.getElem?_of_mem hv
  obtain ⟨a, x, y, e, ep, ea⟩ := h.get ei
  exact ⟨a, (x, y), List.mem_of_getElem? ep, e, ea⟩
theorem bd2 {z : Int × Int} (b : (0 ≤ z.1 ∧ z.1 < 10 ^ 13) ∧ 0 ≤ z.2 ∧ z.2 < 10 ^ 13) : TS.Bd (10 ^ 13) [z.1, z.2] := fun m hm => by
  rcases List.mem_cons.mp hm with rfl | hm
  · exact b.1
  · rw [List.mem_singleton.mp hm]
    exact b.2
theorem sort_pairs {K : PySem.W.Frag} {H : Hp} {l : Addr} {us : List V} {ps : List (Int × Int)} {Q : VK} (hl : SqL K H l us) (iv : Ivs H us ps) (few : ps.length < 64) (bd : ∀ q ∈ ps, (0 ≤ q.1 ∧ q.1 < 10 ^ 13) ∧ 0 ≤ q.2 ∧ q.2 < 10 ^ 13)
    (fin : ∀ H' p us' ps', Same H H' → H p = none → H' p = some (.lst us') → Ivs H' us' ps' → ps'.Pairwise leP → ps'.Perm ps → Q (.ref p) H') :
    rSortU K 2 (10 ^ 13) [.ref l] H Q := by
  refine ⟨l, us, rfl, hl, by rw [iv.length]; exact few, fun x hx => ?_, fun ys p2 pm pw np2 => ?_⟩
  · obtain ⟨b, qq, hqq, e, eb⟩ := iv.mem hx
    exact ⟨[qq.1, qq.2], ⟨b, e, SqT.of eb⟩, rfl, bd2 (bd qq hqq)⟩
  obtain ⟨gs, ivg, pmg⟩ := Ivs.perm pm iv
  have z : gs.Pairwise (fun a b => TS.code (10 ^ 13) [a.1, a.2] ≤ TS.code (10 ^ 13) [b.1, b.2]) := Ivs.pair (S := fun a b => TS.code (10 ^ 13) [a.1, a.2] ≤ TS.code (10 ^ 13) [b.1, b.2]) (fun a b x y u v ea eb h => h [x, y] [u, v] ⟨a, rfl, SqT.of ea⟩ ⟨b, rfl, SqT.of eb⟩) ivg pw
  have s2 := same_new (o := .lst ys) np2
  refine fin _ p2 ys gs s2 np2 upd_same (ivg.same s2) (z.imp_of_mem fun {x y} hx hy h => ?_) pmg
  exact code_lex (bd2 (bd x (pmg.mem_iff.mp hx))) (bd2 (bd y (pmg.mem_iff.mp hy))) h

/-! ### a smallest solution: the mathematics -/
/-- q begins and ends where blocks do, within an interval of the row -/
structure Fits (row : List (Int × Int)) (q : Int × Int) : Prop where
  lo : Bd row q.1
  hi : Bd row (q.2 + 1)
  le : q.1 ≤ q.2
  inn : ∃ t ∈ row, t.1 ≤ q.1 ∧ q.2 ≤ t.2
theorem Fits.good {row : List (Int × Int)} (g : Good row) {q : Int × Int} (f : Fits row q) : Good (row ++ [q]) := fun z hz => by
  rcases List.mem_append.mp hz with h | h
  · exact g z h
  · rw [List.mem_singleton.mp h]
    obtain ⟨t, ht, h1, h2⟩ := f.inn
    have := g t ht
    exact ⟨by omega, f.le⟩
theorem bd_fit {row : List (Int × Int)} {q : Int × Int} (f : Fits row q) (x : Int) : Bd (row ++ [q]) x ↔ Bd row x := by
  constructor
  · rintro ⟨z, hz, e⟩
    rcases List.mem_append.mp hz with h | h
    · exact ⟨z, h, e⟩
    · rw [List.mem_singleton.mp h] at e
      rcases e with e | e
      · exact e ▸ f.lo
      · exact e ▸ f.hi
  · rintro ⟨z, hz, e⟩
    exact ⟨z, List.mem_append_left _ hz, e⟩
theorem blocks_fit {row : List (Int × Int)} (g : Good row) {q : Int × Int} (f : Fits row q) : blocksOf (row ++ [q]) = blocksOf row := by
  have bd := bd_fit f
  refine blk_eq (f.good g) g fun c => ⟨fun h => ?_, fun h => ?_⟩
  · refine ⟨?_, h.le, (bd _).mp h.lo, (bd _).mp h.hi, fun x x1 x2 z => h.gap x x1 x2 ((bd x).mpr z)⟩
    obtain ⟨z, hz, e1, e2⟩ := h.dep
    rcases List.mem_append.mp hz with hz | hz
    · exact ⟨z, hz, e1, e2⟩
    · rw [List.mem_singleton.mp hz] at e1 e2
      obtain ⟨t, ht, k1, k2⟩ := f.inn
      exact ⟨t, ht, by omega, by omega⟩
  · obtain ⟨z, hz, e⟩ := h.dep
    exact ⟨⟨z, List.mem_append_left _ hz, e⟩, h.le, (bd _).mpr h.lo, (bd _).mpr h.hi, fun x x1 x2 z => h.gap x x1 x2 ((bd x).mp z)⟩
theorem opB_snoc (ps : List (Int × Int)) (q : Int × Int) (d : Dem) : opB (ps ++ [q]) d = (opB ps d && !sv q d) := by
  unfold opB
  rw [List.map_append, List.any_append, Bool.not_or, ← sv_svI]
  simp
theorem dec_fit {ts ps : List (Int × Int)} (g : Good (ts ++ ps)) {q : Int × Int} (f : Fits (ts ++ ps) q) : decO ts (ps ++ [q]) = (decO ts ps).filter fun d => !sv q d := by
  have e : blocksOf (ts ++ (ps ++ [q])) = blocksOf (ts ++ ps) := by
    rw [← List.append_assoc]
    exact blocks_fit g f
  unfold decO
  rw [e, List.filter_filter, List.filter_filter, List.filter_filter]
  congr 1
  funext d
  rw [opB_snoc]
  cases opB ps d <;> cases sv q d <;> cases (ts.find? (shB d.1 d.2.1 d.2.2)).isNone <;> rfl
/-- the pieces that helpful_piece looks at -/
def candI (bs : List (Int × Int)) (d : Dem) : List (Int × Int) := bs.flatMap fun b => (bs.map fun e => (b.1, e.2)).filter fun z => sv z d
theorem mem_cand {bs : List (Int × Int)} {d : Dem} {q : Int × Int} : q ∈ candI bs d ↔ (∃ b ∈ bs, q.1 = b.1) ∧ (∃ e ∈ bs, q.2 = e.2) ∧ sv q d = true := by
  unfold candI
  rw [List.mem_flatMap]
  constructor
  · rintro ⟨b, hb, h⟩
    obtain ⟨h1, h2⟩ := List.mem_filter.mp h
    obtain ⟨e, he, rfl⟩ := List.mem_map.mp h1
    exact ⟨⟨b, hb, rfl⟩, ⟨e, he, rfl⟩, h2⟩
  · rintro ⟨⟨b, hb, e1⟩, ⟨e, he, e2⟩, h⟩
    refine ⟨b, hb, List.mem_filter.mpr ⟨List.mem_map.mpr ⟨e, he, ?_⟩, h⟩⟩
    exact Prod.ext e1.symm e2.symm
theorem cand_fits {row : List (Int × Int)} (g : Good row) {d : Dem} {q : Int × Int} (h : q ∈ candI (blocksOf row) d) (ht : d.2 ∈ row) : Fits row q := by
  obtain ⟨⟨b, hb, e1⟩, ⟨e, he, e2⟩, s⟩ := mem_cand.mp h
  have s := sv_iff'.mp s
  refine ⟨?_, ?_, by omega, d.2, ht, s.1, s.2.2.2⟩
  · rw [e1]
    exact (blk_of g hb).lo
  · rw [e2]
    exact (blk_of g he).hi
theorem least_low : ∀ {L : List (Int × Int)} {x : Int}, (∃ c ∈ L, x ≤ c.1) → ∃ b ∈ L, x ≤ b.1 ∧ ∀ c ∈ L, x ≤ c.1 → b.1 ≤ c.1
  | [], _, h => by
    obtain ⟨c, hc, _⟩ := h
    cases hc
  | a :: L, x, h => by
    by_cases r : ∃ c ∈ L, x ≤ c.1
    · obtain ⟨b, hb, b1, b2⟩ := least_low r
      by_cases z : x ≤ a.1 ∧ a.1 ≤ b.1
      · refine ⟨a, List.mem_cons_self, z.1, fun c hc c1 => ?_⟩
        rcases List.mem_cons.mp hc with rfl | hc
        · exact Int.le_refl _
        · exact Int.le_trans z.2 (b2 c hc c1)
      · refine ⟨b, List.mem_cons_of_mem _ hb, b1, fun c hc c1 => ?_⟩
        rcases List.mem_cons.mp hc with rfl | hc
        · omega
        · exact b2 c hc c1
    · obtain ⟨c, hc, c1⟩ := h
      rcases List.mem_cons.mp hc with rfl | hc
      · refine ⟨c, List.mem_cons_self, c1, fun e he e1 => ?_⟩
        rcases List.mem_cons.mp he with rfl | he
        · exact Int.le_refl _
        · exact absurd ⟨e, he, e1⟩ r
      · exact absurd ⟨c, hc, c1⟩ r
theorem good_snoc {ts ps : List (Int × Int)} (g : Good (ts ++ ps)) {q : Int × Int} (f : Fits (ts ++ ps) q) : Good (ts ++ (ps ++ [q])) := by
  rw [← List.append_assoc]
  exact f.good g
/-- one of these pieces helps -/
theorem help_ex {ts ps : List (Int × Int)} (g : Good (ts ++ ps)) {d0 : Dem} (h0 : d0 ∈ decO ts ps) : ∃ q ∈ candI (blocksOf (ts ++ ps)) d0, needO ts (ps ++ [q]) + 1 ≤ needO ts ps := by
  obtain ⟨_, S, s1, com, _⟩ := need_ok g
  obtain ⟨⟨tm, vd, op⟩, low, _⟩ := mem_dec.mp h0
  have tmr : d0.2 ∈ ts ++ ps := List.mem_append_left _ tm
  obtain ⟨s, hs, k1, k2, k3, k4⟩ := com d0.2 tm d0.1 vd.1 vd.2
  have s0 : sv s d0 = true := sv_iff'.mpr ⟨k1, k2, k3, k4⟩
  have hS : s ∈ S := by
    rcases List.mem_append.mp hs with h | h
    · rw [op s h] at s0
      cases s0
    · exact h
  obtain ⟨e, he, e1, e2⟩ := dep_in g (dep_pos.mpr ⟨d0.2, tmr, show d0.2.1 ≤ s.2 by omega, k4⟩)
  obtain ⟨c0, hc0, ec0⟩ := List.mem_map.mp low
  obtain ⟨b, hb, b1, b2⟩ := least_low (x := s.1) ⟨c0, hc0, by omega⟩
  have up : ∀ d : Dem, d.2 ∈ ts → d.1 ∈ lowsOf (ts ++ ps) → sv s d = true → sv (b.1, e.2) d = true := by
    intro d hd hl hsv
    obtain ⟨c, hc, ec⟩ := List.mem_map.mp hl
    have ec : c.1 = d.1 := ec
    have z := sv_iff'.mp hsv
    have z1 := b2 c hc (by omega)
    have z2 := (block_const g he (List.mem_append_left ps hd) e1 e2).mp ⟨by omega, z.2.2.2⟩
    exact sv_iff'.mpr ⟨by show d.2.1 ≤ b.1; omega, by show b.1 ≤ d.1; omega, by show d.1 ≤ e.2; omega, z2.2⟩
  have hq : (b.1, e.2) ∈ candI (blocksOf (ts ++ ps)) d0 := mem_cand.mpr ⟨⟨b, hb, rfl⟩, ⟨e, he, rfl⟩, up d0 tm low s0⟩
  have f := cand_fits g hq tmr
  refine ⟨_, hq, ?_⟩
  have le : needO ts (ps ++ [(b.1, e.2)]) ≤ (S.erase s).length := by
    refine Nat.le_trans (sum_served (S := S.erase s) (D := lg (decO ts (ps ++ [(b.1, e.2)])).length (decO ts (ps ++ [(b.1, e.2)]))) fun d hd => ?_) (sum_one fun z _ => (lg_ind _ _).cov_le z)
    have hd := (lg_sub _ _).mem hd
    rw [dec_fit g f] at hd
    obtain ⟨h1, h2⟩ := List.mem_filter.mp hd
    obtain ⟨⟨dm, dv, dop⟩, dlow, _⟩ := mem_dec.mp h1
    obtain ⟨z, hz, m1, m2, m3, m4⟩ := com d.2 dm d.1 dv.1 dv.2
    have zs : sv z d = true := sv_iff'.mpr ⟨m1, m2, m3, m4⟩
    rcases List.mem_append.mp hz with h | h
    · rw [dop z h] at zs
      cases zs
    · refine ⟨z, (List.mem_erase_of_ne fun w => ?_).mpr h, zs⟩
      subst w
      rw [up d dm dlow zs] at h2
      cases h2
  rw [List.length_erase_of_mem hS] at le
  have := List.length_pos_of_mem hS
  omega
/-! ### the first of the least -/
def argm {α : Type} (kf : α → Nat) : List α → Option α
  | [] => none
  | x :: xs => match argm kf xs with
    | none => some x
    | some y => if kf y < kf x then some y else some x
theorem argm_ne {α : Type} {kf : α → Nat} {x : α} {xs : List α} : argm kf (x :: xs) ≠ none := by
  unfold argm
  split
  · simp
  · split <;> simp
theorem argm_ok {α : Type} {kf : α → Nat} : ∀ {l : List α} {y : α}, argm kf l = some y → y ∈ l ∧ ∀ z ∈ l, kf y ≤ kf z
  | [], y, h => nomatch h
  | x :: xs, y, h => by
    unfold argm at h
    split at h
    · rename_i e
      cases h
      have : xs = [] := by
        cases xs with
        | nil => rfl
        | cons a b => exact absurd e argm_ne
      subst this
      exact ⟨List.mem_cons_self, fun z hz => by rw [List.mem_singleton.mp hz]; exact Nat.le_refl _⟩
    · rename_i w e
      have ih := argm_ok e
      split at h
      · rename_i c
        cases h
        refine ⟨List.mem_cons_of_mem _ ih.1, fun z hz => ?_⟩
        rcases List.mem_cons.mp hz with rfl | hz
        · omega
        · exact ih.2 z hz
      · rename_i c
        cases h
        refine ⟨List.mem_cons_self, fun z hz => ?_⟩
        rcases List.mem_cons.mp hz with rfl | hz
        · exact Nat.le_refl _
        · have := ih.2 z hz
          omega
theorem argm_low {α : Type} {kf : α → Nat} : ∀ {l : List α} {j : Nat} {y : α}, l[j]? = some y → (∀ i z, l[i]? = some z → kf y ≤ kf z ∧ (i < j → kf y < kf z)) → argm kf l = some y
  | [], j, y, e, _ => by simp at e
  | x :: xs, 0, y, e, h => by
    cases e
    unfold argm
    split
    · rfl
    · rename_i w ew
      have m := (argm_ok ew).1
      obtain ⟨i, ei⟩ := List.getElem?_of_mem m
      have := (h (i + 1) w ei).1
      rw [if_neg (by omega)]
  | x :: xs, j + 1, y, e, h => by
    have ih := argm_low (l := xs) (j := j) (y := y) e fun i z ez => ⟨(h (i + 1) z ez).1, fun c => (h (i + 1) z ez).2 (by omega)⟩
    have h0 := (h 0 x rfl).2 (by omega)
    unfold argm
    rw [ih]
    exact if_pos h0
/-! ### what the program picks -/
def keyO (ds : List Dem) (q : Int × Int) : Nat := (lg ds.length (ds.filter fun d => !sv q d)).length
def pickO (bs : List (Int × Int)) : List Dem → Int × Int
  | [] => (0, 0)
  | d :: ds => (argm (keyO (d :: ds)) (candI bs d)).getD (0, 0)
def runO (bs : List (Int × Int)) : Nat → List Dem → List (Int × Int)
  | 0, _ => []
  | _ + 1, [] => []
  | n + 1, d :: ds => pickO bs (d :: ds) :: runO bs n ((d :: ds).filter fun e => !sv (pickO bs (d :: ds)) e)
/-- the pieces that are added for targets and pieces, in the order in which they are found -/
def addO (ts ps : List (Int × Int)) : List (Int × Int) := runO (blocksOf (ts ++ ps)) (decO ts ps).length (decO ts ps)
theorem key_need {ts ps : List (Int × Int)} (g : Good (ts ++ ps)) {q : Int × Int} (f : Fits (ts ++ ps) q) : keyO (decO ts ps) q = needO ts (ps ++ [q]) := by
  unfold keyO needO
  rw [dec_fit g f, lg_same _ _ _ (List.length_filter_le _ _) (Nat.le_refl _)]
theorem pick_ok {ts ps : List (Int × Int)} (g : Good (ts ++ ps)) {d : Dem} {ds : List Dem} (e : decO ts ps = d :: ds) : pickO (blocksOf (ts ++ ps)) (decO ts ps) ∈ candI (blocksOf (ts ++ ps)) d ∧ Fits (ts ++ ps) (pickO (blocksOf (ts ++ ps)) (decO ts ps)) ∧
    needO ts (ps ++ [pickO (blocksOf (ts ++ ps)) (decO ts ps)]) + 1 = needO ts ps := by
  have h0 : d ∈ decO ts ps := by
    rw [e]
    exact List.mem_cons_self
  have tm : d.2 ∈ ts ++ ps := List.mem_append_left _ (mem_dec.mp h0).1.1
  obtain ⟨z, hz, hl⟩ := help_ex g h0
  have pe : pickO (blocksOf (ts ++ ps)) (decO ts ps) = (argm (keyO (decO ts ps)) (candI (blocksOf (ts ++ ps)) d)).getD (0, 0) := by
    rw [e]
    rfl
  rw [pe]
  cases ea : argm (keyO (decO ts ps)) (candI (blocksOf (ts ++ ps)) d) with
  | none =>
    cases ec : candI (blocksOf (ts ++ ps)) d with
    | nil =>
      rw [ec] at hz
      cases hz
    | cons a b =>
      rw [ec] at ea
      exact absurd ea argm_ne
  | some y =>
    obtain ⟨m, least⟩ := argm_ok ea
    have f := cand_fits g m tm
    have fz := cand_fits g hz tm
    have k := least z hz
    rw [key_need g f, key_need g fz] at k
    refine ⟨m, f, ?_⟩
    have := (need_add (good_snoc g f)).2
    show needO ts (ps ++ [y]) + 1 = needO ts ps
    omega
theorem filter_len {α : Type} {p : α → Bool} {x : α} {xs : List α} (h : p x = false) : ((x :: xs).filter p).length ≤ xs.length := by
  rw [List.filter_cons, if_neg (by rw [h]; exact Bool.false_ne_true)]
  exact List.length_filter_le _ _
/-- what was added: as many as are needed, they complete the pieces; each fits, is new, and they differ -/
structure AddOk (ts ps A : List (Int × Int)) : Prop where
  len : A.length = needO ts ps
  com : Com ts ps A
  inn : ∀ q ∈ A, Fits (ts ++ ps) q ∧ ∃ t ∈ ts, t.1 ≤ q.1 ∧ q.2 ≤ t.2
  new : ∀ q ∈ A, q ∉ ps
  nd : A.Nodup
theorem run_ok {ts : List (Int × Int)} : ∀ (n : Nat) (ps : List (Int × Int)), Good (ts ++ ps) → (decO ts ps).length ≤ n → AddOk ts ps (runO (blocksOf (ts ++ ps)) n (decO ts ps)) := by
  have base : ∀ ps, Good (ts ++ ps) → decO ts ps = [] → AddOk ts ps [] := fun ps g e => by
    have z : needO ts ps = 0 := by
      unfold needO
      rw [e]
      rfl
    exact ⟨z.symm, need_zero g z, (fun q hq => nomatch hq), (fun q hq => nomatch hq), .nil⟩
  intro n
  induction n with
  | zero =>
    intro ps g l
    exact base ps g (List.length_eq_zero_iff.mp (by omega))
  | succ n ih =>
    intro ps g l
    cases e : decO ts ps with
    | nil => exact base ps g e
    | cons d ds =>
      obtain ⟨pm, pf, pn⟩ := pick_ok g e
      have h0 : d ∈ decO ts ps := by
        rw [e]
        exact List.mem_cons_self
      have tm := (mem_dec.mp h0).1
      show AddOk ts ps (pickO (blocksOf (ts ++ ps)) (d :: ds) :: runO (blocksOf (ts ++ ps)) n ((d :: ds).filter fun e => !sv (pickO (blocksOf (ts ++ ps)) (d :: ds)) e))
      have e' := e
      rw [← e']
      generalize eq : pickO (blocksOf (ts ++ ps)) (decO ts ps) = q at *
      have s0 := (mem_cand.mp pm).2.2
      have g' := good_snoc g pf
      have df := dec_fit g pf
      have bf : blocksOf (ts ++ (ps ++ [q])) = blocksOf (ts ++ ps) := by
        rw [← List.append_assoc]
        exact blocks_fit g pf
      have ll : (decO ts (ps ++ [q])).length ≤ n := by
        rw [df, e]
        have := filter_len (p := fun d => !sv q d) (x := d) (xs := ds) (by rw [s0]; rfl)
        rw [e, List.length_cons] at l
        omega
      have r := ih (ps ++ [q]) g' ll
      rw [bf, df] at r
      have qs := sv_iff'.mp s0
      have qin : ∃ t ∈ ts, t.1 ≤ q.1 ∧ q.2 ≤ t.2 := ⟨d.2, tm.1, qs.1, qs.2.2.2⟩
      have qn : q ∉ ps := fun z => by
        rw [tm.2.2 q z] at s0
        cases s0
      refine ⟨?_, ?_, fun z hz => ?_, fun z hz => ?_, ?_⟩
      · rw [List.length_cons, r.len]
        exact pn
      · refine com_mono r.com fun z hz => ?_
        rcases List.mem_append.mp hz with h | h
        · rcases List.mem_append.mp h with h | h
          · exact List.mem_append_left _ h
          · rw [List.mem_singleton.mp h]
            exact List.mem_append_right _ List.mem_cons_self
        · exact List.mem_append_right _ (List.mem_cons_of_mem _ h)
      · rcases List.mem_cons.mp hz with rfl | hz
        · exact ⟨pf, qin⟩
        · obtain ⟨f2, t, ht, t1, t2⟩ := r.inn z hz
          have bd := bd_fit pf
          rw [← List.append_assoc] at f2
          exact ⟨⟨(bd _).mp f2.lo, (bd _).mp f2.hi, f2.le, t, List.mem_append_left _ ht, t1, t2⟩, t, ht, t1, t2⟩
      · rcases List.mem_cons.mp hz with rfl | hz
        · exact qn
        · exact fun w => r.new z hz (List.mem_append_left _ w)
      · refine List.nodup_cons.mpr ⟨fun z => r.new q z (List.mem_append_right _ (List.mem_singleton.mpr rfl)), r.nd⟩
theorem add_ok {ts ps : List (Int × Int)} (g : Good (ts ++ ps)) : AddOk ts ps (addO ts ps) := run_ok _ ps g (Nat.le_refl _)

def rLenS (K : PySem.W.Frag) : List V → Hp → VK → Prop := fun xs H Q => ∃ p ys, xs = [.ref p] ∧ (SqL K H p ys ∨ SqT K H p ys) ∧ Q (.int (ys.length : Nat)) H
theorem call_lenS {X : Cx} : CallR X (.builtin "len") (rLenS X.K) := call_len_seq
theorem pe_bmK {X : Cx} {K : PySem.W.Frag} {e : Expr} {T : String} {r : V → List V → Hp → VK → Prop} {to : TE} {t : TA} (hK : X.K = K) (h : PE X e (tBM X.K T r to t)) : PE X e (tBM K T r to t) := hK ▸ h

/-! ### the program's search for a piece that helps -/
def sp_unserved : Sp := fun vs H Q _ => ∃ (D q : Addr) (zs : List V) (ds : List Dem) (x y : Int), vs = [.ref D, .ref q] ∧ H D = some (.lst zs) ∧ Dms H zs ds ∧ ds.length < 1000 ∧ H q = some (.tup [.int x, .int y]) ∧
  ∀ H' E es, Same H H' → H E = none → H' E = some (.lst es) → Dms H' es (ds.filter fun d => !sv (x, y) d) → Q (.ref E) H'
theorem ok_unserved_demands (T : Tx K mg f_is_number f_is_position f_is_tuple_of f_is_interval f_ascending_error f_targets_error f_is_pieces f_has_position f_contains f_pieces_inside f_first_gap f_find_missing f_without_item f_with_interval f_without_interval f_edited_state f_depth_changes f_find_blocks f_serves f_conflict f_demands_at_blocks f_is_open f_open_demands f_shadow_target f_require_few_blocks f_decisive_demands f_largest_independent f_unserved_demands f_helpful_piece f_smallest_solution f_count_needed f_solve f_law_deck f_law_draw f_law_line f_law_interval f_law_intervals f_law_served f_law_options f_law_conflict f_law_most f_law_needed f_law_edit f_law_after f_law_do f_law_begun f_law_generated f_law_solution_right f_law f_Plan_init f_Plan_add_target f_Plan_add_piece f_Plan_remove_target f_Plan_remove_piece f_Plan_targets f_Plan_pieces f_Plan_needed f_Plan_solution f_Plan_missing f_Plan_edit f_Plan_record f_Plan_require_idle f_Plan_state_at f_Plan_len f_Plan_str f_Plan_eq C_Plan d_is_number d_is_position d_is_tuple_of d_is_interval d_ascending_error d_targets_error d_is_pieces d_has_position d_contains d_pieces_inside d_first_gap d_find_missing d_without_item d_with_interval d_without_interval d_edited_state d_depth_changes d_find_blocks d_serves d_conflict d_demands_at_blocks d_is_open d_open_demands d_shadow_target d_require_few_blocks d_decisive_demands d_largest_independent d_unserved_demands d_helpful_piece d_smallest_solution d_count_needed d_solve d_law_deck d_law_draw d_law_line d_law_interval d_law_intervals d_law_served d_law_options d_law_conflict d_law_most d_law_needed d_law_edit d_law_after d_law_do d_law_begun d_law_generated d_law_solution_right d_law d_Plan_init d_Plan_add_target d_Plan_add_piece d_Plan_remove_target d_Plan_remove_piece d_Plan_targets d_Plan_pieces d_Plan_needed d_Plan_solution d_Plan_missing d_Plan_edit d_Plan_record d_Plan_require_idle d_Plan_state_at d_Plan_len d_Plan_str d_Plan_eq t_LAST_POSITION t_MAX_TARGETS t_MAX_PIECES t_MAX_BLOCKS t_MAX_EDITS) : FnOk P w K mg base CX0 3 f_unserved_demands d_unserved_demands ["demands", "piece"] sp_unserved := by
  refine T.F_unserved_demands.ok sc_unserved_demands (fun vs H Q E h => ?_) (fun cdv A outer s H vs Q E hr h => ?_)
  · obtain ⟨D, q, zs, ds, x, y, rfl, _⟩ := h
    rfl
  · obtain ⟨D, q, zs, ds, x, y, rfl, hD, dm, few, hq, k⟩ := h
    refine ⟨_, (pss_one (ps_ret (pe_lc (own := [("demand", 2)]) (g := (gName 2)) (by rfl) sc_unserved_demands.nd (pi_list (pv 0)) (blkOk_by (own := [("demand", 2)]) (N := N_unserved_demands) (sc := defScope s_unserved_demands) (by decide +kernel)) (fun _ _ _ _ _ => (pg_name (i := 2) sc_unserved_demands.nd rfl (Or.inl rfl))) (fun _ _ _ _ _ => pts_one (pt_not (pt_val (pe_call (ok_serves T) (hr.mono (by decide)) (by rfl) T.g_serves T.F_serves.kp T.b_serves .nil pass0 (pa_cons (pv 1) (pa_cons (pv 2) pa_nil)))))) (fun _ _ _ _ _ => (pv 2))))), ?_⟩
    have lz := dm.length
    refine ⟨.ref D, rfl, D, rfl, ⟨_, SqL.of hD⟩, fun E nE => ?_⟩
    refine lcL (K := K) (a := D) (xs := zs) (fun j H' ws => Dms H' ws ((ds.take j).filter fun d => !sv (x, y) d)) nE (fun H' s => SqL.of (s _ _ (hD))) (by omega) (fun _ _ _ _ t r => r.tps t) (fun j H' ws r => (by rw [r.length]; exact Nat.le_trans (List.length_filter_le _ _) (List.length_take_le _ _))) (fun _ => .nil) ?_ ?_
    · rintro j z H' N acc hj sj eA sz r no yes
      obtain ⟨p, lo, hi, ed, dz⟩ := dm.get hj
      have dz2 := dz.same sj
      obtain ⟨uz, tz, rfl, h1, h2⟩ := dz2.ex
      refine ⟨rfl, .ref q, rfl, .ref uz, rfl, q, uz, tz, x, y, p, lo, hi, rfl, sj _ _ hq, h1, h2, _, rfl, ?_⟩
      rw [show svI x y p lo hi = sv (x, y) (p, lo, hi) from sv_svI (x, y) (p, lo, hi)]
      refine ite2 (fun c => ?_) (fun c => ?_)
      · refine ⟨.ref uz, rfl, yes H' _ (Same.refl _) ?_⟩
        rw [take_filter ed, if_pos c]
        exact r.snoc dz2
      · refine no H' (Same.refl _) ?_
        rw [take_filter ed, if_neg c, List.append_nil]
        exact r
    intro H1 ws s1 eE r
    rw [lz, List.take_length] at r
    exact k H1 E ws s1 nE eE r
def candJ (as bs : List (Int × Int)) (d : Dem) : List (Int × Int) := as.flatMap fun b => (bs.map fun e => (b.1, e.2)).filter fun z => sv z d
theorem candJ_snoc (as bs : List (Int × Int)) (b : Int × Int) (d : Dem) : candJ (as ++ [b]) bs d = candJ as bs d ++ (bs.map fun e => (b.1, e.2)).filter fun z => sv z d := by
  unfold candJ
  rw [List.flatMap_append]
  simp
theorem candJ_len {bs : List (Int × Int)} {d : Dem} : ∀ {as : List (Int × Int)}, (candJ as bs d).length ≤ as.length * bs.length
  | [] => Nat.zero_le _
  | b :: as => by
    have ih := candJ_len (bs := bs) (d := d) (as := as)
    have h := List.length_filter_le (fun z => sv z d) (bs.map fun e => (b.1, e.2))
    rw [List.length_map] at h
    show (((bs.map fun e => (b.1, e.2)).filter fun z => sv z d) ++ candJ as bs d).length ≤ (as.length + 1) * bs.length
    rw [List.length_append, Nat.add_mul]
    omega
theorem Ivs.refs {H : Hp} {vs : List V} {ps : List (Int × Int)} (h : Ivs H vs ps) : ∃ as : List Addr, vs = as.map V.ref ∧ as.length = ps.length ∧ ∀ (j : Nat) (a : Addr), as[j]? = some a → ∃ q, ps[j]? = some q ∧ H a = some (.tup [.int q.1, .int q.2]) := by
  induction h with
  | nil => exact ⟨[], rfl, rfl, fun j a e => by simp at e⟩
  | cons e _ ih =>
    obtain ⟨as, e1, e2, e3⟩ := ih
    refine ⟨_ :: as, by rw [List.map_cons, e1], by rw [List.length_cons, List.length_cons, e2], fun j a ej => ?_⟩
    cases j with
    | zero =>
      cases ej
      exact ⟨_, rfl, e⟩
    | succ j => exact e3 j a ej
def sp_helpful (pT : Addr) : Sp := fun vs H Q _ => ∃ (d : Addr) (c : Addr × Addr) (n : Int) (D b : Addr) (zs ws : List V) (d0 : Dem) (ds : List Dem) (bs : List (Int × Int)), vs = [.ref D, .ref b] ∧ c.2 = pT ∧ Dk H d c n ∧ H D = some (.lst zs) ∧ Dms H zs (d0 :: ds) ∧ H b = some (.tup ws) ∧ Ivs H ws bs ∧ bs.length ≤ 16 ∧ (d0 :: ds).length ≤ lgN ∧ (d0 :: ds).length < 1000 ∧ 0 < (candI bs d0).length ∧
  ∀ H' r, Kp d c H H' → Dk H' d c n → H' r = some (.tup [.int (pickO bs (d0 :: ds)).1, .int (pickO bs (d0 :: ds)).2]) → Q (.ref r) H'
theorem ok_helpful_piece (T : Tx K mg f_is_number f_is_position f_is_tuple_of f_is_interval f_ascending_error f_targets_error f_is_pieces f_has_position f_contains f_pieces_inside f_first_gap f_find_missing f_without_item f_with_interval f_without_interval f_edited_state f_depth_changes f_find_blocks f_serves f_conflict f_demands_at_blocks f_is_open f_open_demands f_shadow_target f_require_few_blocks f_decisive_demands f_largest_independent f_unserved_demands f_helpful_piece f_smallest_solution f_count_needed f_solve f_law_deck f_law_draw f_law_line f_law_interval f_law_intervals f_law_served f_law_options f_law_conflict f_law_most f_law_needed f_law_edit f_law_after f_law_do f_law_begun f_law_generated f_law_solution_right f_law f_Plan_init f_Plan_add_target f_Plan_add_piece f_Plan_remove_target f_Plan_remove_piece f_Plan_targets f_Plan_pieces f_Plan_needed f_Plan_solution f_Plan_missing f_Plan_edit f_Plan_record f_Plan_require_idle f_Plan_state_at f_Plan_len f_Plan_str f_Plan_eq C_Plan d_is_number d_is_position d_is_tuple_of d_is_interval d_ascending_error d_targets_error d_is_pieces d_has_position d_contains d_pieces_inside d_first_gap d_find_missing d_without_item d_with_interval d_without_interval d_edited_state d_depth_changes d_find_blocks d_serves d_conflict d_demands_at_blocks d_is_open d_open_demands d_shadow_target d_require_few_blocks d_decisive_demands d_largest_independent d_unserved_demands d_helpful_piece d_smallest_solution d_count_needed d_solve d_law_deck d_law_draw d_law_line d_law_interval d_law_intervals d_law_served d_law_options d_law_conflict d_law_most d_law_needed d_law_edit d_law_after d_law_do d_law_begun d_law_generated d_law_solution_right d_law d_Plan_init d_Plan_add_target d_Plan_add_piece d_Plan_remove_target d_Plan_remove_piece d_Plan_targets d_Plan_pieces d_Plan_needed d_Plan_solution d_Plan_missing d_Plan_edit d_Plan_record d_Plan_require_idle d_Plan_state_at d_Plan_len d_Plan_str d_Plan_eq t_LAST_POSITION t_MAX_TARGETS t_MAX_PIECES t_MAX_BLOCKS t_MAX_EDITS) (hT : TabH base mg d_helpful_piece pT) : FnOk P w K mg base CX0 (lgN+9) f_helpful_piece d_helpful_piece ["demands", "blocks"] (sp_helpful pT) := by
  obtain ⟨c0, TB, hc0⟩ := hT
  refine okC T.F_helpful_piece sc_helpful_piece (fun vs H Q E h => ?_) (fun cdv hcd A outer s H vs Q E hr h => ?_)
  · obtain ⟨d, c, n, D, b, zs, ws, d0, ds, bs, rfl, _⟩ := h
    rfl
  · obtain ⟨d, c, n, D, b, zs, ws, d0, ds, bs, rfl, ct, dk, hD, dm, hb, ivb, lb, ln, few, some1, k⟩ := h
    refine ⟨_, (pss_cons (ps_setLc2 (i := 2) (own := [("low", 3), ("end", 4), ("start", 5), ("high", 6)]) (vs1 := [5, 6]) (g := (gTup K 2 (gCons (gName 3) (gCons (gName 4) gNil)))) (g1 := (gTup K 2 (gCons (gName 5) (gCons (gName 6) gNil)))) (tt := tYes) (by rfl) sc_helpful_piece.nd rfl rfl (sw_true rfl rfl rfl (by decide +kernel)) (pi_tup (pv 1)) (blkOk_by (own := [("low", 3), ("end", 4), ("start", 5), ("high", 6)]) (N := N_helpful_piece) (sc := defScope s_helpful_piece) (by decide +kernel)) (by decide) (fun _ _ _ _ _ => (pg_tup rfl (pgs_cons (pg_name (i := 3) sc_helpful_piece.nd rfl (Or.inl rfl)) (pgs_cons (pg_name (i := 4) sc_helpful_piece.nd rfl (Or.inl rfl)) pgs_nil)))) (fun _ _ _ _ _ => pts_nil) (fun _ _ _ _ _ => (pi_tupK (K := K) rfl (pv 1))) (fun _ _ _ _ _ => (pg_tup rfl (pgs_cons (pg_name (i := 5) sc_helpful_piece.nd rfl (Or.inl rfl)) (pgs_cons (pg_name (i := 6) sc_helpful_piece.nd rfl (Or.inl rfl)) pgs_nil)))) (fun _ _ _ _ _ => pts_one (pt_val (pe_call (ok_serves T) (hr.mono (by decide)) (by rfl) T.g_serves T.F_serves.kp T.b_serves .nil pass0 (pa_cons (pe_tup (pa_cons (pv 3) (pa_cons (pv 6) pa_nil))) (pa_cons (pe_ix (show IxR _ (rIxL K) from ix_list) (pv 0) pe_int (fun _ _ => rfl)) pa_nil))))) (fun _ _ _ _ _ => (pe_tup (pa_cons (pv 3) (pa_cons (pv 6) pa_nil)))))
      (pss_one (ps_ret (pe_minLam (cap := "demands") (par := "piece") (P := pT) 0 rfl (by rfl) T.z_min hr TB (hcd.symm.trans hc0) (lam1_by (sc := defScope s_helpful_piece) (by decide +kernel)) rfl rfl (fun _ _ _ _ _ _ => rfl) (pa_cons (pv 2) pa_nil) (fun _ _ _ _ _ hr => (pe_callB (show CallR _ (.builtin "len") (rLenS K) from call_lenS) (by rfl) T.z_len PySem.boot_len (pa_cons (pe_call (ok_largest_independent T) (hr.mono (by decide)) (by rfl) T.g_largest_independent T.F_largest_independent.kp T.b_largest_independent .nil pass0 (pa_cons (pe_call (ok_unserved_demands T) (hr.mono (by decide)) (by rfl) T.g_unserved_demands T.F_unserved_demands.kp T.b_unserved_demands .nil pass0 (pa_cons (pv 0) (pa_cons (pv 1) pa_nil))) pa_nil)) pa_nil))))))), ?_⟩
    have lz := dm.length
    have lw := ivb.length
    obtain ⟨v0, zr, rfl⟩ : ∃ v r, zs = v :: r := by
      cases dm
      exact ⟨_, _, rfl⟩
    obtain ⟨dv, _⟩ := dm.sub rfl rfl
    obtain ⟨u0, t0, rfl, h1, h2⟩ := dv.ex
    refine ⟨.ref b, rfl, b, rfl, ⟨_, SqT.of hb⟩, fun L nL => ?_⟩
    refine walkT (K := K) (a := b) (xs := ws) (fun i H' => Same H H' ∧ ∃ cs, H' L = some (.lst cs) ∧ Ivs H' cs (candJ (bs.take i) bs d0)) ⟨same_new nL, [], upd_same, .nil⟩ (fun i H' _ h => SqT.of (h.1 _ _ hb)) ?_ ?_
    · rintro i v H1 hi ⟨s1, cs, eL, iv⟩
      obtain ⟨bb, x, x9, rfl, ep, hbb⟩ := ivb.get hi
      refine ⟨bb, _, rfl, SqT.of (s1 _ _ hbb), rfl, .int x, [.int x9], rfl, .int x9, [], rfl, rfl, rfl, ?_⟩
      refine ⟨.ref b, rfl, b, rfl, ⟨_, SqT.of (s1 _ _ hb)⟩, ?_⟩
      refine walkT (K := K) (a := b) (xs := ws) (fun j H' => Same H H' ∧ ∃ cs, H' L = some (.lst cs) ∧ Ivs H' cs (candJ (bs.take i) bs d0 ++ ((bs.take j).map fun e => (x, e.2)).filter fun z => sv z d0)) ⟨s1, cs, eL, by show Ivs H1 cs (_ ++ []); rw [List.append_nil]; exact iv⟩ (fun j H' _ h => SqT.of (h.1 _ _ hb)) ?_ ?_
      · rintro j v H2 hj ⟨s2, cs2, eL2, iv2⟩
        obtain ⟨b2, y9, y, rfl, et, hb2⟩ := ivb.get hj
        have step : ((bs.take (j + 1)).map fun e => (x, e.2)).filter (fun z => sv z d0) = ((bs.take j).map fun e => (x, e.2)).filter (fun z => sv z d0) ++ if sv (x, y) d0 = true then [(x, y)] else [] := by
          rw [List.take_add_one, et, List.map_append, List.filter_append]
          congr 1
          show ([(x, y)].filter fun z => sv z d0) = _
          by_cases z : sv (x, y) d0 = true
          · rw [if_pos z, List.filter_cons, if_pos z]
            rfl
          · rw [if_neg z, List.filter_cons, if_neg z]
            rfl
        have sz : cs2.length < sizeLine := by
          have h1 := iv2.length
          have h2 := candJ_len (bs := bs) (d := d0) (as := bs.take i)
          have h3 : (((bs.take j).map fun e => (x, e.2)).filter fun z => sv z d0).length ≤ 16 := by
            refine Nat.le_trans (List.length_filter_le _ _) ?_
            rw [List.length_map]
            exact Nat.le_trans (List.length_take_le' _ _) lb
          have h4 : (bs.take i).length ≤ 16 := Nat.le_trans (List.length_take_le' _ _) lb
          have h5 : (bs.take i).length * bs.length ≤ 16 * 16 := Nat.mul_le_mul h4 lb
          rw [List.length_append] at h1
          rw [show sizeLine = 16777216 by decide]
          omega
        refine ⟨b2, _, rfl, SqT.of (s2 _ _ hb2), rfl, .int y9, [.int y], rfl, .int y, [], rfl, rfl, rfl, ?_⟩
        refine ⟨.int x, rfl, .int y, rfl, by show 2 ≤ sizeLine; decide, fun t1 nt1 => ?_⟩
        have s3 := same_new (o := .tup [.int x, .int y]) nt1
        have et1 := upd_same (H := H2) (a := t1) (o := .tup [.int x, .int y])
        generalize upd H2 t1 (.tup [.int x, .int y]) = H3 at *
        have s23 := s2.trans s3
        refine ⟨.ref D, rfl, D, _, 0, .ref u0, rfl, rfl, SqL.of (s23 _ _ hD), (show atI (V.ref u0 :: zr) ((0 : Nat) : Int) = some (.ref u0) from atI_nat rfl), t1, u0, t0, x, y, d0.1, d0.2.1, d0.2.2, rfl, et1, s23 _ _ h1, s23 _ _ h2, _, rfl, ?_⟩
        rw [show svI x y d0.1 d0.2.1 d0.2.2 = sv (x, y) d0 from sv_svI (x, y) d0]
        refine ite2 (fun cc => ?_) (fun cc => ?_)
        · refine ⟨.int x, rfl, .int y, rfl, by show 2 ≤ sizeLine; decide, fun t nt => ?_⟩
          have s4 := same_new (o := .tup [.int x, .int y]) nt
          have et4 := upd_same (H := H3) (a := t) (o := .tup [.int x, .int y])
          generalize upd H3 t (.tup [.int x, .int y]) = H4 at *
          have s24 := s23.trans s4
          have eL4 := (s3.trans s4) _ _ eL2
          refine ⟨cs2, eL4, sz, same_off nL s24, _, upd_same, ?_⟩
          rw [step, if_pos cc, ← List.append_assoc]
          exact ((iv2.same (s3.trans s4)).snoc et4).tps (Tps.lst eL4)
        · refine ⟨s23, cs2, s3 _ _ eL2, ?_⟩
          rw [step, if_neg cc, List.append_nil]
          exact iv2.same s3
      · rintro H2 ⟨s2, cs2, eL2, iv2⟩
        refine ⟨s2, cs2, eL2, ?_⟩
        rw [lw, List.take_length] at iv2
        rw [List.take_add_one, ep]
        show Ivs H2 cs2 (candJ (bs.take i ++ [(x, x9)]) bs d0)
        rw [candJ_snoc]
        exact iv2
    rintro H2 ⟨s2, cs, eL, iv⟩
    rw [lw, List.take_length] at iv
    have iv : Ivs H2 cs (candI bs d0) := iv
    obtain ⟨as, rfl, la, at_⟩ := iv.refs
    have dk2 := dk.kept s2
    refine ⟨.ref L, rfl, L, as, fun j => keyO (d0 :: ds) ((candI bs d0).getD j (0, 0)), .ref D, rfl, eL, by rw [la]; exact some1, ct ▸ dk2.tab, rfl, fun H3 but tab3 => ⟨fun j a H4 ea s4 => ?_, fun j a H4 ea low s4 => ?_⟩⟩
    · obtain ⟨q, eq, hq⟩ := at_ j a ea
      have kp4 : Kp d c H2 H4 := Kp.trans (fun b o _ n2 e => but b o (fun z => n2.2 (z.trans ct.symm)) e) (Kp.same s4)
      have tp4 : Tps H H4 := (Tps.same s2).trans (kp4.tps dk2)
      have hD4 : H4 D = some (.lst (V.ref u0 :: zr)) := s4 _ _ (but _ _ (fun z => by
        obtain ⟨ps, h4, _⟩ := dk.tab
        rw [ct, ← z, hD] at h4
        cases h4) (s2 _ _ hD))
      refine ⟨.ref D, rfl, .ref a, rfl, D, a, _, _, q.1, q.2, rfl, hD4, dm.tps tp4, few, kp4.tup dk2 hq, fun H5 E es s5 nE eE dmE => ?_⟩
      have fl := List.length_filter_le (fun d => !sv (q.1, q.2) d) (d0 :: ds)
      refine ⟨E, es, _, rfl, eE, dmE, Nat.le_trans fl ln, Nat.lt_of_le_of_lt fl few, fun H6 p ws6 s6 ep dmp => ?_⟩
      refine ⟨p, ws6, rfl, .inr (SqT.of ep), ?_, s5.trans s6⟩
      rw [dmp.length, lg_same _ (d0 :: ds).length _ (Nat.le_refl _) fl]
      have gd : (candI bs d0).getD j (0, 0) = q := by rw [List.getD_eq_getElem?_getD, eq]; rfl
      show V.int _ = V.int ((keyO (d0 :: ds) ((candI bs d0).getD j (0, 0)) : Nat) : Int)
      rw [gd]
      rfl
    · obtain ⟨q, eq, hq⟩ := at_ j a ea
      have kp4 : Kp d c H2 H4 := Kp.trans (fun b o _ n2 e => but b o (fun z => n2.2 (z.trans ct.symm)) e) (Kp.same s4)
      have am : argm (keyO (d0 :: ds)) (candI bs d0) = some q := argm_low eq fun i z ez => by
        have il := (List.getElem?_eq_some_iff.mp ez).1
        have w := low i (by rw [la]; exact il)
        simp only [List.getD_eq_getElem?_getD, eq, ez, Option.getD_some] at w
        omega
      have pk : pickO bs (d0 :: ds) = q := congrArg (fun o => Option.getD o (0, 0)) am
      refine k H4 a ((Kp.same s2).trans kp4) ((dk2.but (ct ▸ but) (ct ▸ tab3)).kept s4) ?_
      rw [pk]
      exact kp4.tup dk2 hq

/-! ### smallest_solution, solve -/
def witO (ts ps : List (Int × Int)) : List Dem := lg (decO ts ps).length (decO ts ps)
def msD (σ : L2.St) (H : Hp) : Nat := match σ[3]? with
  | some (some (V.ref D)) => (match H D with
    | some (HO.lst zs) => zs.length
    | _ => 0)
  | _ => 0
theorem msD_at {H : Hp} {v0 v1 v2 v4 v5 v6 : Option V} {D : Addr} {zs : List V} (h : H D = some (.lst zs)) : msD [v0, v1, v2, some (.ref D), v4, v5, v6] H = zs.length := by
  show (match H D with | some (.lst zs) => zs.length | _ => 0) = zs.length
  rw [h]
/-- where the loop stands: A found, ds to be served, ps' the pieces with those found -/
structure AtS (ts ps A : List (Int × Int)) (ds : List Dem) : Prop where
  good : Good (ts ++ (ps ++ A))
  blk : blocksOf (ts ++ (ps ++ A)) = blocksOf (ts ++ ps)
  dec : ds = decO ts (ps ++ A)
  run : ∃ m, ds.length ≤ m ∧ A ++ runO (blocksOf (ts ++ ps)) m ds = addO ts ps
theorem AtS.start {ts ps : List (Int × Int)} (g : Good (ts ++ ps)) : AtS ts ps [] (decO ts ps) :=
  ⟨by rw [List.append_nil]; exact g, by rw [List.append_nil], by rw [List.append_nil], _, Nat.le_refl _, rfl⟩
theorem AtS.step {ts ps A : List (Int × Int)} {d : Dem} {ds : List Dem} (h : AtS ts ps A (d :: ds)) : pickO (blocksOf (ts ++ ps)) (d :: ds) ∈ candI (blocksOf (ts ++ ps)) d ∧ sv (pickO (blocksOf (ts ++ ps)) (d :: ds)) d = true ∧
    AtS ts ps (A ++ [pickO (blocksOf (ts ++ ps)) (d :: ds)]) ((d :: ds).filter fun e => !sv (pickO (blocksOf (ts ++ ps)) (d :: ds)) e) := by
  have p := pick_ok h.good h.dec.symm
  rw [h.blk, ← h.dec] at p
  obtain ⟨p1, p2, _⟩ := p
  have s := (mem_cand.mp p1).2.2
  refine ⟨p1, s, ?_⟩
  generalize hq : pickO (blocksOf (ts ++ ps)) (d :: ds) = q at *
  have e1 : ps ++ (A ++ [q]) = (ps ++ A) ++ [q] := (List.append_assoc _ _ _).symm
  obtain ⟨m, m1, m2⟩ := h.run
  refine ⟨by rw [e1]; exact good_snoc h.good p2, ?_, ?_, ?_⟩
  · rw [e1, ← List.append_assoc]
    exact (blocks_fit h.good p2).trans h.blk
  · rw [e1, dec_fit h.good p2, ← h.dec]
  · rw [List.length_cons] at m1
    obtain ⟨n, rfl⟩ : ∃ n, m = n + 1 := ⟨m - 1, by omega⟩
    refine ⟨n, Nat.le_trans (filter_len (by rw [s]; rfl)) (by omega), ?_⟩
    rw [List.append_assoc, ← m2]
    congr 1
    show [q] ++ _ = pickO (blocksOf (ts ++ ps)) (d :: ds) :: runO (blocksOf (ts ++ ps)) n ((d :: ds).filter fun e => !sv (pickO (blocksOf (ts ++ ps)) (d :: ds)) e)
    rw [hq]
    rfl
theorem AtS.fin {ts ps A : List (Int × Int)} (h : AtS ts ps A []) : A = addO ts ps := by
  obtain ⟨m, _, m2⟩ := h.run
  rw [← m2]
  cases m with
  | zero => exact (List.append_nil _).symm
  | succ m => exact (List.append_nil _).symm
/-- the bounds under which the searches end -/
structure SolB (ts ps : List (Int × Int)) : Prop where
  good : Good (ts ++ ps)
  top : ∀ q ∈ ts, q.2 < 10 ^ 13
  lt : ts.length ≤ 30
  fk : FewK (ts ++ ps)
  few : (blocksOf (ts ++ ps)).length ≤ 8
  lg : 8 * ts.length ≤ lgN
  lg1 : lgN < 1000
theorem SolB.dec {ts ps : List (Int × Int)} (B : SolB ts ps) : (decO ts ps).length ≤ lgN := by
  have h1 := decO_len (ts := ts) (ps := ps)
  have h2 := Nat.mul_le_mul B.few (Nat.le_refl ts.length)
  have := B.lg
  omega
theorem need_le_ts {ts ps : List (Int × Int)} (g : Good (ts ++ ps)) : needO ts ps ≤ ts.length := need_of_com g (com_self ts ps)
theorem add_bd {ts ps : List (Int × Int)} (B : SolB ts ps) : (addO ts ps).length ≤ 30 ∧ ∀ q ∈ addO ts ps, (0 ≤ q.1 ∧ q.1 < 10 ^ 13) ∧ 0 ≤ q.2 ∧ q.2 < 10 ^ 13 := by
  have ok := add_ok B.good
  refine ⟨by rw [ok.len]; exact Nat.le_trans (need_le_ts B.good) B.lt, fun q hq => ?_⟩
  obtain ⟨f, t, ht, h1, h2⟩ := ok.inn q hq
  have g := B.good t (List.mem_append_left _ ht)
  have := f.le
  have := B.top t ht
  omega
theorem leP_nd {ps : List (Int × Int)} (h : ps.Pairwise leP) (nd : ps.Nodup) : ps.Pairwise ltP := by
  refine (h.and nd).imp fun {a b} z => ?_
  rcases z.1 with k | ⟨k1, k2⟩
  · exact .inl k
  · refine .inr ⟨k1, ?_⟩
    rcases Int.lt_or_eq_of_le k2 with w | w
    · exact w
    · exact absurd (Prod.ext k1 w) z.2
/-- what solve returns for targets and pieces -/
structure SolH (H : Hp) (r : Addr) (ts ps A : List (Int × Int)) : Prop where
  ex : ∃ (x y : Addr) (zs vs : List V), H r = some (.tup [.ref x, .ref y]) ∧ H x = some (.tup zs) ∧ Ivs H zs A ∧ H y = some (.tup vs) ∧ Dms H vs (witO ts ps)
  perm : A.Perm (addO ts ps)
  asc : A.Pairwise ltP
def sp_smallest (pT : Addr) : Sp := fun vs H Q _ => ∃ (d : Addr) (c : Addr × Addr) (n : Int) (a b : Addr) (us ws : List V) (ts ps : List (Int × Int)), vs = [.ref a, .ref b] ∧ c.2 = pT ∧ Dk H d c n ∧ H a = some (.tup us) ∧ H b = some (.tup ws) ∧ Ivs H us ts ∧ Ivs H ws ps ∧ SolB ts ps ∧
  ∀ H' r A, Kp d c H H' → Dk H' d c n → SolH H' r ts ps A → Q (.ref r) H'
theorem ok_smallest_solution (T : Tx K mg f_is_number f_is_position f_is_tuple_of f_is_interval f_ascending_error f_targets_error f_is_pieces f_has_position f_contains f_pieces_inside f_first_gap f_find_missing f_without_item f_with_interval f_without_interval f_edited_state f_depth_changes f_find_blocks f_serves f_conflict f_demands_at_blocks f_is_open f_open_demands f_shadow_target f_require_few_blocks f_decisive_demands f_largest_independent f_unserved_demands f_helpful_piece f_smallest_solution f_count_needed f_solve f_law_deck f_law_draw f_law_line f_law_interval f_law_intervals f_law_served f_law_options f_law_conflict f_law_most f_law_needed f_law_edit f_law_after f_law_do f_law_begun f_law_generated f_law_solution_right f_law f_Plan_init f_Plan_add_target f_Plan_add_piece f_Plan_remove_target f_Plan_remove_piece f_Plan_targets f_Plan_pieces f_Plan_needed f_Plan_solution f_Plan_missing f_Plan_edit f_Plan_record f_Plan_require_idle f_Plan_state_at f_Plan_len f_Plan_str f_Plan_eq C_Plan d_is_number d_is_position d_is_tuple_of d_is_interval d_ascending_error d_targets_error d_is_pieces d_has_position d_contains d_pieces_inside d_first_gap d_find_missing d_without_item d_with_interval d_without_interval d_edited_state d_depth_changes d_find_blocks d_serves d_conflict d_demands_at_blocks d_is_open d_open_demands d_shadow_target d_require_few_blocks d_decisive_demands d_largest_independent d_unserved_demands d_helpful_piece d_smallest_solution d_count_needed d_solve d_law_deck d_law_draw d_law_line d_law_interval d_law_intervals d_law_served d_law_options d_law_conflict d_law_most d_law_needed d_law_edit d_law_after d_law_do d_law_begun d_law_generated d_law_solution_right d_law d_Plan_init d_Plan_add_target d_Plan_add_piece d_Plan_remove_target d_Plan_remove_piece d_Plan_targets d_Plan_pieces d_Plan_needed d_Plan_solution d_Plan_missing d_Plan_edit d_Plan_record d_Plan_require_idle d_Plan_state_at d_Plan_len d_Plan_str d_Plan_eq t_LAST_POSITION t_MAX_TARGETS t_MAX_PIECES t_MAX_BLOCKS t_MAX_EDITS) (hT : TabH base mg d_helpful_piece pT) : FnOk P w K mg base CX0 (lgN+10) f_smallest_solution d_smallest_solution ["targets", "pieces"] (sp_smallest pT) := by
  refine T.F_smallest_solution.ok sc_smallest_solution (fun vs H Q E h => ?_) (fun cdv A outer s H vs Q E hr h => ?_)
  · obtain ⟨d, c, n, a, b, us, ws, ts, ps, rfl, _⟩ := h
    rfl
  · obtain ⟨d, c, n, a, b, us, ws, ts, ps, rfl, ct, dk, ha, hb, ivt, ivp, B, k⟩ := h
    refine ⟨_, (pss_cons (ps_set (i := 2) sc_smallest_solution.nd rfl (Or.inl rfl) (pe_call (ok_find_blocks T) (hr.mono (by decide)) (by rfl) T.g_find_blocks T.F_find_blocks.kp T.b_find_blocks .nil pass0 (pa_cons (pe_op op_catA (pv 0) (pv 1)) pa_nil)))
      (pss_cons (ps_set (i := 3) sc_smallest_solution.nd rfl (Or.inl rfl) (pe_call (ok_decisive_demands T) (hr.mono (by decide)) (by rfl) T.g_decisive_demands T.F_decisive_demands.kp T.b_decisive_demands .nil pass0 (pa_cons (pv 0) (pa_cons (pv 1) pa_nil))))
      (pss_cons (ps_set (i := 4) sc_smallest_solution.nd rfl (Or.inl rfl) (pe_call (ok_largest_independent T) (hr.mono (by decide)) (by rfl) T.g_largest_independent T.F_largest_independent.kp T.b_largest_independent .nil pass0 (pa_cons (pv 3) pa_nil)))
      (pss_cons (ps_set (i := 5) sc_smallest_solution.nd rfl (Or.inl rfl) (pe_lst pa_nil))
      (pss_cons (ps_while PassesOwn.never (pt_truth (pv 3) (by intro _; rfl))
      (pss_cons (ps_set (i := 6) sc_smallest_solution.nd rfl (Or.inl rfl) (pe_call (ok_helpful_piece T hT) (hr.mono (by decide)) (by rfl) T.g_helpful_piece T.F_helpful_piece.kp T.b_helpful_piece .nil pass0 (pa_cons (pv 3) (pa_cons (pv 2) pa_nil))))
      (pss_cons (ps_expr (pe_bm PySem.F.plainAttrs_list PySem.F.slot_list_append PySem.F.type_list_append mt_append (pv 5) (pa_cons (pv 6) pa_nil)))
      (pss_one (ps_set (i := 3) sc_smallest_solution.nd rfl (Or.inl rfl) (pe_call (ok_unserved_demands T) (hr.mono (by decide)) (by rfl) T.g_unserved_demands T.F_unserved_demands.kp T.b_unserved_demands .nil pass0 (pa_cons (pv 3) (pa_cons (pv 6) pa_nil))))))))
      (pss_one (ps_ret (pe_tup (pa_cons (pe_callTy call_tuple_of (by rfl) T.z_tuple (by decide +kernel) (pa_cons (pe_callB (cr_sortT (d := 2) (B := 10 ^ 13) (by decide)) (by rfl) T.z_sorted (by decide +kernel) (pa_cons (pv 5) pa_nil)) pa_nil)) (pa_cons (pv 4) pa_nil)))))))))), ?_⟩
    have lu := ivt.length
    have lw := ivp.length
    have lk := B.fk.le
    rw [List.length_append] at lk
    refine ⟨.ref a, rfl, .ref b, rfl, catA_any ha hb (by rw [show sizeLine = 16777216 by decide]; omega) (fun H1 ab s1 eab => ?_)⟩
    refine ⟨ab, us ++ ws, ts ++ ps, rfl, eab, (ivt.same s1).append (ivp.same s1), B.good, B.fk, fun H2 bl bs s2 ebl ivb => ?_⟩
    have s12 := s1.trans s2
    refine ⟨.ref a, rfl, .ref b, rfl, a, b, us, ws, ts, ps, rfl, s12 _ _ ha, s12 _ _ hb, ivt.same s12, ivp.same s12, B.good, B.lt, B.fk, B.few, fun H3 D zs s3 nD eD dm => ?_⟩
    have offD : Off d c D := (dk.kept s12).off nD
    have s13 := s12.trans s3
    have few := B.lg1
    have ld := B.dec
    refine ⟨.ref D, rfl, D, zs, _, rfl, eD, dm, ld, by omega, fun H4 wi vs4 s4 ewi dmw => ?_⟩
    have s14 := s13.trans s4
    refine ⟨by show 0 ≤ sizeLine; decide, fun l nl => ?_⟩
    have s5 := same_new (o := .lst []) nl
    have el := upd_same (H := H4) (a := l) (o := .lst [])
    generalize upd H4 l (.lst []) = H5 at *
    have dk4 := dk.kept s14
    have dk5 := dk4.kept s5
    have offl : Off d c l := (dk.kept s14).off nl
    have eD5 := s5 _ _ (s4 _ _ eD)
    have lD : l ≠ D := (ne_of_none (s4 _ _ eD) nl).symm
    dsimp only [gName, tSeq]
    refine while_by (fun σ H' => (Kp d c H4 H' ∧ Dk H' d c n) ∧ ∃ (A : List (Int × Int)) (ls : List V) (D' : Addr) (zs' : List V) (ds : List Dem) (y6 : Option V), AtS ts ps A ds ∧ (H' l = some (.lst ls) ∧ Ivs H' ls A) ∧ (H' D' = some (.lst zs') ∧ Dms H' zs' ds ∧ (l ≠ D' ∧ Off d c D') ∧ ds.length ≤ lgN) ∧ σ = [some (.ref a), some (.ref b), some (.ref bl), some (.ref D'), some (.ref wi), some (.ref l), y6]) msD
      ⟨⟨Kp.same s5, dk5⟩, [], [], D, zs, _, _, AtS.start B.good, ⟨el, .nil⟩, ⟨eD5, dm.same (s4.trans s5), ⟨lD, offD⟩, ld⟩, rfl⟩ ?_ ?_
    rotate_left
    · rintro σ H Q Q' imp ⟨v, hv, kk, tr, q⟩
      exact ⟨v, hv, kk, tr, imp _ _ q⟩
    rintro σ H6 ⟨⟨kp6, dk6⟩, A, ls, D', zs', ds, y6, at_, ⟨el6, ivl⟩, ⟨eD6, dm6, ⟨lD6, offD6⟩, ld6⟩, rfl⟩
    rw [msD_at eD6]
    refine ⟨.ref D', rfl, !zs'.isEmpty, .inl ⟨_, SqL.of eD6, rfl⟩, ?_⟩
    have t5 : Tps H H6 := (Tps.same s14).trans (kp6.tps dk4)
    cases ds with
    | nil =>
      cases dm6
      refine iteF ?_
      have eA := at_.fin
      have bd := add_bd B
      have ok := add_ok B.good
      rw [← eA] at bd ok
      refine ⟨.ref l, rfl, ?_⟩
      dsimp only [tNil]
      refine sort_pairs (SqL.of el6) ivl (by omega) bd.2 (fun H7 p us' A' s7 np ep iv' srt pm => ?_)
      refine ⟨p, us', rfl, .inl ⟨SqL.of ep, fun t nt => ?_⟩⟩
      have s8 := same_new (o := .tup us') nt
      have et := upd_same (H := H7) (a := t) (o := .tup us')
      generalize upd H7 t (.tup us') = H8 at *
      have s68 := s7.trans s8
      refine ⟨.ref wi, rfl, by show 2 ≤ sizeLine; decide, fun r nr => ?_⟩
      have s9 := same_new (o := .tup [.ref t, .ref wi]) nr
      have T4 : Tps H4 H6 := kp6.tps dk4
      refine k _ r A' ((Kp.same s14).trans (kp6.trans (Kp.same (s68.trans s9)))) (dk6.kept (s68.trans s9)) ⟨⟨t, wi, us', vs4, upd_same, s9 _ _ et, iv'.same (s8.trans s9), (s68.trans s9) _ _ (T4 _ _ ewi), (dmw.tps T4).same (s68.trans s9)⟩, ?_, leP_nd srt (pm.nodup_iff.mpr ok.nd)⟩
      rw [← eA]
      exact pm
    | cons d0 ds =>
      obtain ⟨v0, zr, rfl⟩ : ∃ v r, zs' = v :: r := by
        cases dm6
        exact ⟨_, _, rfl⟩
      refine iteT ?_
      obtain ⟨pm, ps0, at2⟩ := at_.step
      have lb := B.few
      have ivb6 : Ivs H6 bs (blocksOf (ts ++ ps)) := (ivb.same (s3.trans s4)).tps (kp6.tps dk4)
      refine ⟨.ref D', rfl, .ref bl, rfl, d, c, n, D', bl, _, bs, d0, ds, blocksOf (ts ++ ps), rfl, ct, dk6, eD6, dm6, kp6.tup dk4 ((s3.trans s4) _ _ ebl), ivb6, by omega, ld6, by omega, List.length_pos_of_mem pm, fun H7 r kp7 dk7 er => ?_⟩
      generalize hq : pickO (blocksOf (ts ++ ps)) (d0 :: ds) = q at *
      have el7 := kp7.keep offl el6
      have ivl7 := ivl.tps (kp7.tps dk6)
      have eD7 := kp7.keep offD6 eD6
      have dm7 := dm6.tps (kp7.tps dk6)
      refine ⟨.ref l, rfl, .inl ⟨rfl, _, SqL.of el7⟩, .ref r, rfl, l, ls, _, rfl, rfl, el7, ?_, ?_⟩
      · have h1 := ivl7.length
        have h2 := at2.run
        obtain ⟨m, _, h3⟩ := h2
        have h4 := (add_bd B).1
        rw [← h3, List.length_append, List.length_append] at h4
        exact small1000 (by omega)
      have tl := Tps.lst (vs := ls ++ [V.ref r]) el7
      have dk8 := dk7.upd (o := .lst (ls ++ [V.ref r])) offl
      have kp8 : Kp d c H4 (upd H7 l (.lst (ls ++ [V.ref r]))) := fun b o n1 n2 e => by
        rw [upd_ne (ne_of_none e nl)]
        exact kp7 b o n1 n2 (kp6 b o n1 n2 e)
      have el8 := upd_same (H := H7) (a := l) (o := .lst (ls ++ [V.ref r]))
      have eD8 : upd H7 l (.lst (ls ++ [V.ref r])) D' = some (.lst (v0 :: zr)) := by rw [upd_ne lD6.symm]; exact eD7
      have er8 := tl _ _ er
      have dm8 := dm7.tps tl
      have ivl8 := (ivl7.snoc er).tps tl
      generalize upd H7 l (.lst (ls ++ [V.ref r])) = H8 at *
      have fl : ((d0 :: ds).filter fun e => !sv q e).length ≤ ds.length := filter_len (by rw [ps0]; rfl)
      have lz := dm7.length
      rw [List.length_cons, List.length_cons] at lz
      rw [List.length_cons] at ld6
      refine ⟨.ref D', rfl, .ref r, rfl, D', r, _, _, q.1, q.2, rfl, eD8, dm8, by rw [List.length_cons]; omega, er8, fun H9 E es s9 nE eE dmE => ⟨⟨⟨kp8.trans (Kp.same s9), dk8.kept s9⟩, A ++ [q], ls ++ [.ref r], E, es, _, _, at2, ⟨s9 _ _ el8, ivl8.same s9⟩, ⟨eE, dmE, ⟨(ne_of_none el8 nE), dk8.off nE⟩, by omega⟩, rfl⟩, ?_⟩⟩
      refine Nat.lt_of_le_of_lt (Nat.le_of_eq (msD_at eE)) ?_
      have le : es.length ≤ ds.length := by
        rw [dmE.length]
        exact fl
      rw [List.length_cons]
      omega
def sp_solve (pT : Addr) : Sp := sp_smallest pT
theorem ok_solve (T : Tx K mg f_is_number f_is_position f_is_tuple_of f_is_interval f_ascending_error f_targets_error f_is_pieces f_has_position f_contains f_pieces_inside f_first_gap f_find_missing f_without_item f_with_interval f_without_interval f_edited_state f_depth_changes f_find_blocks f_serves f_conflict f_demands_at_blocks f_is_open f_open_demands f_shadow_target f_require_few_blocks f_decisive_demands f_largest_independent f_unserved_demands f_helpful_piece f_smallest_solution f_count_needed f_solve f_law_deck f_law_draw f_law_line f_law_interval f_law_intervals f_law_served f_law_options f_law_conflict f_law_most f_law_needed f_law_edit f_law_after f_law_do f_law_begun f_law_generated f_law_solution_right f_law f_Plan_init f_Plan_add_target f_Plan_add_piece f_Plan_remove_target f_Plan_remove_piece f_Plan_targets f_Plan_pieces f_Plan_needed f_Plan_solution f_Plan_missing f_Plan_edit f_Plan_record f_Plan_require_idle f_Plan_state_at f_Plan_len f_Plan_str f_Plan_eq C_Plan d_is_number d_is_position d_is_tuple_of d_is_interval d_ascending_error d_targets_error d_is_pieces d_has_position d_contains d_pieces_inside d_first_gap d_find_missing d_without_item d_with_interval d_without_interval d_edited_state d_depth_changes d_find_blocks d_serves d_conflict d_demands_at_blocks d_is_open d_open_demands d_shadow_target d_require_few_blocks d_decisive_demands d_largest_independent d_unserved_demands d_helpful_piece d_smallest_solution d_count_needed d_solve d_law_deck d_law_draw d_law_line d_law_interval d_law_intervals d_law_served d_law_options d_law_conflict d_law_most d_law_needed d_law_edit d_law_after d_law_do d_law_begun d_law_generated d_law_solution_right d_law d_Plan_init d_Plan_add_target d_Plan_add_piece d_Plan_remove_target d_Plan_remove_piece d_Plan_targets d_Plan_pieces d_Plan_needed d_Plan_solution d_Plan_missing d_Plan_edit d_Plan_record d_Plan_require_idle d_Plan_state_at d_Plan_len d_Plan_str d_Plan_eq t_LAST_POSITION t_MAX_TARGETS t_MAX_PIECES t_MAX_BLOCKS t_MAX_EDITS) (hT : TabH base mg d_helpful_piece pT) : FnOk P w K mg base CX0 (lgN+11) f_solve d_solve ["targets", "pieces"] (sp_solve pT) := by
  refine T.F_solve.ok sc_solve (fun vs H Q E h => ?_) (fun cdv A outer s H vs Q E hr h => ?_)
  · obtain ⟨d, c, n, a, b, us, ws, ts, ps, rfl, _⟩ := h
    rfl
  · obtain ⟨d, c, n, a, b, us, ws, ts, ps, rfl, ct, dk, ha, hb, ivt, ivp, B, k⟩ := h
    refine ⟨_, (pss_cons (ps_expr (pe_call (ok_require_few_blocks T) (hr.mono (by decide)) (by rfl) T.g_require_few_blocks T.F_require_few_blocks.kp T.b_require_few_blocks .nil pass0 (pa_cons (pe_op op_catA (pv 0) (pv 1)) pa_nil)))
      (pss_one (ps_ret (pe_call (ok_smallest_solution T hT) (hr.mono (by decide)) (by rfl) T.g_smallest_solution T.F_smallest_solution.kp T.b_smallest_solution .nil pass0 (pa_cons (pv 0) (pa_cons (pv 1) pa_nil)))))), ?_⟩
    have lu := ivt.length
    have lw := ivp.length
    have lk := B.fk.le
    rw [List.length_append] at lk
    refine ⟨.ref a, rfl, .ref b, rfl, catA_any ha hb (by rw [show sizeLine = 16777216 by decide]; omega) (fun H1 ab s1 eab => ?_)⟩
    refine ⟨ab, us ++ ws, ts ++ ps, rfl, eab, (ivt.same s1).append (ivp.same s1), B.good, B.fk, B.few, fun H2 s2 => ?_⟩
    have s12 := s1.trans s2
    exact ⟨.ref a, rfl, .ref b, rfl, d, c, n, a, b, us, ws, ts, ps, rfl, ct, dk.kept s12, s12 _ _ ha, s12 _ _ hb, ivt.same s12, ivp.same s12, B, fun H' r A kp dk' sol => k H' r A ((Kp.same s12).trans kp) dk' sol⟩

theorem shaped_pairs (ps : List (Int × Int)) : SeqAt.shaped (.tuple (ps.map pairD)) = true := by
  have h1 : ∀ ps : List (Int × Int), PyData.canLayAll0 (ps.map pairD) = true := by
    intro ps
    induction ps with
    | nil => rfl
    | cons n r ih => exact ih
  have h2 : ∀ ps : List (Int × Int), PyData.depthAll (ps.map pairD) ≤ 1 := by
    intro ps
    induction ps with
    | nil => exact Nat.zero_le _
    | cons n r ih =>
      show max 1 (PyData.depthAll (r.map pairD)) ≤ 1
      omega
  unfold SeqAt.shaped
  rw [show PyData.canLay0 (.tuple (ps.map pairD)) = PyData.canLayAll0 (ps.map pairD) from rfl, h1 ps]
  show decide (PyData.depthAll (ps.map pairD) + 1 ≤ 64) = true
  exact decide_eq_true (by have := h2 ps; omega)
theorem eqv_self (ps : List (Int × Int)) : PyData.eqv (.tuple (ps.map pairD)) (.tuple (ps.map pairD)) = true := by
  show PyData.eqvAll (ps.map pairD) (ps.map pairD) = true
  induction ps with
  | nil => rfl
  | cons q r ih =>
    show (((q.1 == q.1) && ((q.2 == q.2) && true)) && PyData.eqvAll (r.map pairD) (r.map pairD)) = true
    rw [ih, beq_self_eq_true, beq_self_eq_true]
    rfl

/-! ### <, >= of data at any depth that are alike -/
section
variable {X : Cx}
def rGeDt (K : PySem.W.Frag) : R2 := fun x y H Q => ∃ d e, Dp K H x d ∧ Dp K H y e ∧ PySem.W.alike d e = true ∧ d ≠ .none ∧ d.depth ≤ 60 ∧ Q (.bl (!PySem.W.dataLt d e)) H
def rLtDt (K : PySem.W.Frag) : R2 := fun x y H Q => ∃ d e, Dp K H x d ∧ Dp K H y e ∧ PySem.W.alike d e = true ∧ d ≠ .none ∧ d.depth ≤ 60 ∧ Q (.bl (PySem.W.dataLt d e)) H
theorem op_geDt (hu : X.A.units + 64 < cLine) : OpR X (compareOp .GtE) (rGeDt X.K) := by
  intro pins s σ H x y v u Q I rx ry ⟨d, e, hd, he, al, nn, dp, q⟩
  obtain ⟨as, r1⟩ := Dp.reads I d x v hd rx
  obtain ⟨bs, r2⟩ := Dp.reads I e y u he ry
  exact PySem.W.ge_data r1 r2 al nn (by omega) ⟨.bl _, H, I, rfl, q⟩
theorem op_ltDt (hu : X.A.units + 64 < cLine) : OpR X (compareOp .Lt) (rLtDt X.K) := by
  intro pins s σ H x y v u Q I rx ry ⟨d, e, hd, he, al, nn, dp, q⟩
  obtain ⟨as, r1⟩ := Dp.reads I d x v hd rx
  obtain ⟨bs, r2⟩ := Dp.reads I e y u he ry
  exact PySem.W.lt_data r1 r2 al nn (by omega) ⟨.bl _, H, I, rfl, q⟩
end
theorem dlt_first {x u : Int} (h : x < u) (r s : List PyData) : PySem.W.dataLt (.tuple (.int x :: r)) (.tuple (.int u :: s)) = true := by
  have e : PyData.eqv (.int x) (.int u) = false := by
    show (x == u) = false
    rw [beq_eq_false_iff_ne]
    omega
  rw [PySem.W.dataLt_tuple, PySem.W.dataLt_all_no rfl e, PySem.W.dataLt_int]
  exact decide_eq_true h
theorem dlt_second {x y v : Int} (h : y < v) : PySem.W.dataLt (.tuple [.int x, .int y]) (.tuple [.int x, .int v]) = true := by
  have e1 : PyData.eqv (.int x) (.int x) = true := by
    show (x == x) = true
    exact beq_self_eq_true x
  have e : PyData.eqv (.int y) (.int v) = false := by
    show (y == v) = false
    rw [beq_eq_false_iff_ne]
    omega
  rw [PySem.W.dataLt_tuple, PySem.W.dataLt_all_yes rfl e1, PySem.W.dataLt_all_no rfl e, PySem.W.dataLt_int]
  exact decide_eq_true h
theorem dlt_pair {p q : Int × Int} (h : ltP p q) : PySem.W.dataLt (pairD p) (pairD q) = true := by
  rcases h with h | ⟨h1, h2⟩
  · exact dlt_first h _ _
  · unfold pairD
    rw [h1]
    exact dlt_second h2
/-! ### for i, x in enumerate(t) -/
theorem for_enumT {K : PySem.W.Frag} {a : Addr} {xs : List V} {g : TG} {tb : TS} {D : Ends} {σ : L2.St} {H : Hp} (Pv : Nat → L2.St → Hp → Prop) (h0 : Pv 0 σ H) (hq : ∀ i σ H, Pv i σ H → SqT K H a xs)
    (hs : ∀ (i : Nat) (x : V) (t : Addr) (σ : L2.St) (H : Hp), xs[i]? = some x → Pv i σ H → H t = none → g (.ref t) σ (upd H t (.tup [.int (i : Nat), x])) fun σ2 H2 => tb { D with nx := Pv (i + 1), ct := Pv (i + 1), bk := D.nx } σ2 H2) (hd : ∀ σ H, Pv xs.length σ H → D.nx σ H) :
    ∃ W : Nat → Nat → L2.St → Hp → Prop, (∃ m, W 0 m σ H) ∧ ∀ i m σ H, W i m σ H →
      ((IteT K a xs.length).stop i H ∧ D.nx σ H) ∨ ((IteT K a xs.length).go i H ∧ ∃ N : L2.St → Hp → Prop, (∀ σ' H', N σ' H' → ∃ m', m' < m ∧ W (i + 1) m' σ' H') ∧ ∀ v H', (IteT K a xs.length).yld i H v H' → g v σ H' fun σ2 H2 => tb { D with nx := N, ct := N, bk := D.nx } σ2 H2) := by
  refine ⟨fun i m σ H => i + m = xs.length ∧ Pv i σ H, ⟨xs.length, by omega, h0⟩, ?_⟩
  rintro i m σ H ⟨im, p⟩
  have hx := hq i σ H p
  by_cases c : i < xs.length
  · refine .inr ⟨⟨xs, xs[i], hx, List.getElem?_eq_getElem c, rfl⟩, Pv (i + 1), fun σ' H' p' => ⟨m - 1, by omega, by omega, p'⟩, ?_⟩
    rintro v H' ⟨t, x, rfl, nt, rfl, at_⟩
    exact hs i x t σ H (at_ xs hx) p nt
  · refine .inl ⟨⟨xs, hx, rfl, by omega⟩, hd σ H ?_⟩
    have : i = xs.length := by omega
    rw [← this]
    exact p

theorem kit_tupT {K : PySem.W.Frag} : PySem.W.kitOne K (.type "tuple") (.type "tuple") = some true := kit_ty (a := "tuple") (b := "tuple") (r := true) (by decide +kernel)
theorem kit_intI {K : PySem.W.Frag} : PySem.W.kitOne K (.type "int") (.type "int") = some true := kit_ty (a := "int") (b := "int") (r := true) (by decide +kernel)
theorem kit_intB {K : PySem.W.Frag} : PySem.W.kitOne K (.type "int") (.type "bool") = some false := kit_ty (a := "int") (b := "bool") (r := false) (by decide +kernel)
theorem dpAll_at {K : PySem.W.Frag} {H : Hp} : ∀ {vs : List V} {ds : List PyData}, DpAll K H vs ds → ∀ {i : Nat} {v : V}, vs[i]? = some v → ∃ d, ds[i]? = some d ∧ Dp K H v d
  | _, _, .nil, _, _, e => by simp at e
  | _, _, .cons a b, 0, _, e => by
    cases e
    exact ⟨_, rfl, a⟩
  | _, _, .cons a b, i + 1, _, e => dpAll_at b (i := i) e
theorem dpAll_n {K : PySem.W.Frag} {H : Hp} : ∀ {vs : List V} {ds : List PyData}, DpAll K H vs ds → vs.length = ds.length
  | _, _, .nil => rfl
  | _, _, .cons _ h => by rw [List.length_cons, List.length_cons, dpAll_n h]
def Ris (d e : PyData) : Prop := PySem.W.alike d e = true ∧ d ≠ .none ∧ d.depth ≤ 60 ∧ PySem.W.dataLt d e = true
theorem svI_chain (x y p lo hi : Int) : svI x y p lo hi = (decide (lo ≤ x) && (decide (x ≤ p) && (decide (p ≤ y) && decide (y ≤ hi)))) := by
  rw [show svI x y p lo hi = sv (x, y) (p, lo, hi) from sv_svI (x, y) (p, lo, hi), Bool.eq_iff_iff, sv_iff']
  simp only [Bool.and_eq_true, decide_eq_true_eq]
def dmD (d : Dem) : PyData := .tuple [.int d.1, .tuple [.int d.2.1, .int d.2.2]]
theorem Dms.dp {K : PySem.W.Frag} {H : Hp} {vs : List V} {ds : List Dem} (h : Dms H vs ds) : DpAll K H vs (ds.map dmD) := by
  induction h with
  | nil => exact .nil
  | cons e _ ih =>
    obtain ⟨u, t, rfl, e1, e2⟩ := e.ex
    exact .cons (.tup (SqT.of e1) (.cons (.int _) (.cons (dp2 e2) .nil))) ih
/-- right witnesses -/
structure WitOk (ts ps : List (Int × Int)) (W : List Dem) : Prop where
  ok : ∀ d ∈ W, d.2 ∈ ts ∧ (0 ≤ d.2.1 ∧ d.2.1 ≤ d.1 ∧ d.1 ≤ d.2.2 ∧ d.2.2 ≤ 1000000000000) ∧ ∀ q ∈ ps, sv q d = false
  ind : Ind W
  asc : W.Pairwise fun d e => d.1 < e.1
theorem dab_asc {ts bs : List (Int × Int)} (h : bs.Pairwise fun a b => a.1 < b.1) : (dab ts bs).Pairwise fun d e => d.1 ≤ e.1 := by
  induction bs with
  | nil => exact .nil
  | cons b bs ih =>
    have p := List.pairwise_cons.mp h
    show (dabT ts b.1 ++ dab ts bs).Pairwise _
    refine List.pairwise_append.mpr ⟨?_, ih p.2, fun d hd e he => ?_⟩
    · unfold dabT
      exact List.pairwise_map.mpr (List.pairwise_of_forall fun _ _ => Int.le_refl _)
    · unfold dabT at hd
      obtain ⟨t, _, rfl⟩ := List.mem_map.mp hd
      obtain ⟨t2, _, x, hx, _, rfl⟩ := mem_dab.mp he
      obtain ⟨c, hc, rfl⟩ := List.mem_map.mp hx
      exact Int.le_of_lt (p.1 c hc)
theorem wit_ok {ts ps : List (Int × Int)} (g : Good (ts ++ ps)) (top : ∀ q ∈ ts, q.2 ≤ 1000000000000) : WitOk ts ps (witO ts ps) := by
  have sub := lg_sub (decO ts ps).length (decO ts ps)
  have ind : Ind (witO ts ps) := lg_ind _ _
  refine ⟨fun d hd => ?_, ind, ?_⟩
  · obtain ⟨⟨h1, h2, h3⟩, _⟩ := mem_dec.mp (sub.mem hd)
    have g1 := g d.2 (List.mem_append_left _ h1)
    exact ⟨h1, ⟨g1.1, h2.1, h2.2, top _ h1⟩, h3⟩
  · have pw : (decO ts ps).Pairwise fun d e => d.1 ≤ e.1 := ((dab_asc (blk_asc g)).filter _).filter _
    have both := (pw.sublist sub).and ind
    refine both.imp_of_mem fun {d e} hd he h => ?_
    have vd := (mem_dec.mp (sub.mem hd)).1.2.1
    have ve := (mem_dec.mp (sub.mem he)).1.2.1
    rcases Int.lt_or_eq_of_le h.1 with z | z
    · exact z
    · have c : cf d e = true := cf_iff.mpr ⟨⟨by have := ve.1; omega, by have := ve.2; omega⟩, by have := vd.1; omega, by have := vd.2; omega⟩
      rw [c] at h
      cases h.2
theorem pair_ris {A : List (Int × Int)} (h : A.Pairwise ltP) : (A.map pairD).Pairwise Ris :=
  List.pairwise_map.mpr (h.imp fun {p q} h => ⟨rfl, (fun z => nomatch z), by show 1 ≤ 60; decide, dlt_pair h⟩)

def mxI (i j : Int) : Int := if j > i then j else i
/-! ### the first gap of a target -/
def covI (ps : List (Int × Int)) (lo hi p : Int) : Prop := ∃ q ∈ ps, (lo ≤ q.1 ∧ q.2 ≤ hi) ∧ q.1 ≤ p ∧ p ≤ q.2
def IsGap (ps : List (Int × Int)) (lo hi : Int) : Option Int → Prop
  | none => ∀ p, lo ≤ p → p ≤ hi → covI ps lo hi p
  | some g => (lo ≤ g ∧ g ≤ hi) ∧ ¬ covI ps lo hi g ∧ ∀ p, lo ≤ p → p < g → covI ps lo hi p
theorem IsGap.uniq {ps : List (Int × Int)} {lo hi : Int} : ∀ {o o' : Option Int}, IsGap ps lo hi o → IsGap ps lo hi o' → o = o'
  | none, none, _, _ => rfl
  | none, some g, h, h' => absurd (h g h'.1.1 h'.1.2) h'.2.1
  | some g, none, h, h' => absurd (h' g h.1.1 h.1.2) h.2.1
  | some g, some g', h, h' => by
    rcases Int.lt_trichotomy g g' with z | z | z
    · exact absurd (h'.2.2 g h.1.1 z) h.2.1
    · rw [z]
    · exact absurd (h.2.2 g' h'.1.1 z) h'.2.1
noncomputable def gapO (ps : List (Int × Int)) (q : Int × Int) : Option Int := by
  classical
  exact if h : ∃ o, IsGap ps q.1 q.2 o then Classical.choose h else none
theorem gapO_eq {ps : List (Int × Int)} {q : Int × Int} {o : Option Int} (h : IsGap ps q.1 q.2 o) : gapO ps q = o := by
  unfold gapO
  rw [dif_pos ⟨o, h⟩]
  exact IsGap.uniq (Classical.choose_spec ⟨o, h⟩) h
def gv : Option Int → V
  | none => .non
  | some g => .int g
/-- pieces: pairs of positions in order -/
def Pc (ps : List (Int × Int)) : Prop := ∀ q ∈ ps, (0 ≤ q.1 ∧ q.1 ≤ q.2) ∧ q.2 < 10 ^ 13
def sp_pieces_inside : Sp := fun vs H Q _ => ∃ (a t : Addr) (us : List V) (ps : List (Int × Int)) (lo hi : Int), vs = [.ref a, .ref t] ∧ H a = some (.tup us) ∧ Ivs H us ps ∧ ps.length < 1000 ∧ H t = some (.tup [.int lo, .int hi]) ∧
  ∀ H' p ws, Same H H' → H' p = some (.lst ws) → Ivs H' ws (ps.filter fun q => inI lo hi q.1 q.2) → Q (.ref p) H'
theorem ok_pieces_inside (T : Tx K mg f_is_number f_is_position f_is_tuple_of f_is_interval f_ascending_error f_targets_error f_is_pieces f_has_position f_contains f_pieces_inside f_first_gap f_find_missing f_without_item f_with_interval f_without_interval f_edited_state f_depth_changes f_find_blocks f_serves f_conflict f_demands_at_blocks f_is_open f_open_demands f_shadow_target f_require_few_blocks f_decisive_demands f_largest_independent f_unserved_demands f_helpful_piece f_smallest_solution f_count_needed f_solve f_law_deck f_law_draw f_law_line f_law_interval f_law_intervals f_law_served f_law_options f_law_conflict f_law_most f_law_needed f_law_edit f_law_after f_law_do f_law_begun f_law_generated f_law_solution_right f_law f_Plan_init f_Plan_add_target f_Plan_add_piece f_Plan_remove_target f_Plan_remove_piece f_Plan_targets f_Plan_pieces f_Plan_needed f_Plan_solution f_Plan_missing f_Plan_edit f_Plan_record f_Plan_require_idle f_Plan_state_at f_Plan_len f_Plan_str f_Plan_eq C_Plan d_is_number d_is_position d_is_tuple_of d_is_interval d_ascending_error d_targets_error d_is_pieces d_has_position d_contains d_pieces_inside d_first_gap d_find_missing d_without_item d_with_interval d_without_interval d_edited_state d_depth_changes d_find_blocks d_serves d_conflict d_demands_at_blocks d_is_open d_open_demands d_shadow_target d_require_few_blocks d_decisive_demands d_largest_independent d_unserved_demands d_helpful_piece d_smallest_solution d_count_needed d_solve d_law_deck d_law_draw d_law_line d_law_interval d_law_intervals d_law_served d_law_options d_law_conflict d_law_most d_law_needed d_law_edit d_law_after d_law_do d_law_begun d_law_generated d_law_solution_right d_law d_Plan_init d_Plan_add_target d_Plan_add_piece d_Plan_remove_target d_Plan_remove_piece d_Plan_targets d_Plan_pieces d_Plan_needed d_Plan_solution d_Plan_missing d_Plan_edit d_Plan_record d_Plan_require_idle d_Plan_state_at d_Plan_len d_Plan_str d_Plan_eq t_LAST_POSITION t_MAX_TARGETS t_MAX_PIECES t_MAX_BLOCKS t_MAX_EDITS) : FnOk P w K mg base CX0 2 f_pieces_inside d_pieces_inside ["pieces", "target"] sp_pieces_inside := by
  refine T.F_pieces_inside.ok sc_pieces_inside (fun vs H Q E h => ?_) (fun cdv A outer s H vs Q E hr h => ?_)
  · obtain ⟨a, t, us, ps, lo, hi, rfl, _⟩ := h
    rfl
  · obtain ⟨a, t, us, ps, lo, hi, rfl, ha, iv, few, ht, q⟩ := h
    have lu := iv.length
    refine ⟨_, (pss_one (ps_ret (pe_lc (own := [("piece", 2)]) (g := (gName 2)) (by rfl) sc_pieces_inside.nd (pi_tup (pv 0)) (blkOk_by (own := [("piece", 2)]) (N := N_pieces_inside) (sc := defScope s_pieces_inside) (by decide +kernel)) (fun _ _ _ _ _ => (pg_name (i := 2) sc_pieces_inside.nd rfl (Or.inl rfl))) (fun _ _ _ _ _ => pts_one (pt_val (pe_call (ok_contains T) (hr.mono (by decide)) (by rfl) T.g_contains T.F_contains.kp T.b_contains .nil pass0 (pa_cons (pv 1) (pa_cons (pv 2) pa_nil))))) (fun _ _ _ _ _ => (pv 2))))), ?_⟩
    refine ⟨.ref a, rfl, a, rfl, ⟨_, SqT.of ha⟩, fun D nD => ?_⟩
    refine lcT (K := K) (a := a) (xs := us) (fun j H' ws => Ivs H' ws ((ps.take j).filter fun q => inI lo hi q.1 q.2)) nD (fun H' s => SqT.of (s _ _ ha)) (by omega) (fun _ _ _ _ t r => r.tps t) (fun j H' ws r => ?_) (fun _ => .nil) ?_ ?_
    · rw [r.length]
      exact Nat.le_trans (List.length_filter_le _ _) (List.length_take_le _ _)
    · rintro j z H' N acc hj sj eA sz r no yes
      obtain ⟨b, x, y, rfl, exy, hb⟩ := iv.get hj
      refine ⟨rfl, .ref t, rfl, .ref b, rfl, t, b, lo, hi, x, y, rfl, sj _ _ ht, sj _ _ hb, _, rfl, ite2 (fun c => ?_) (fun c => ?_)⟩
      · refine ⟨.ref b, rfl, yes H' _ (Same.refl _) ?_⟩
        rw [take_filter exy, if_pos c]
        exact r.snoc (sj _ _ hb)
      · refine no H' (Same.refl _) ?_
        rw [take_filter exy, if_neg c, List.append_nil]
        exact r
    · intro H' ws s' eD r
      rw [lu, List.take_length] at r
      exact q H' D ws s' eD r
theorem mem_inI {ps : List (Int × Int)} {lo hi : Int} {q : Int × Int} : q ∈ (ps.filter fun q => inI lo hi q.1 q.2) ↔ q ∈ ps ∧ lo ≤ q.1 ∧ q.2 ≤ hi := by
  rw [List.mem_filter]
  unfold inI
  simp only [Bool.and_eq_true, decide_eq_true_eq]
def sp_first_gap : Sp := fun vs H Q _ => ∃ (a t : Addr) (us : List V) (ps : List (Int × Int)) (lo hi : Int), vs = [.ref a, .ref t] ∧ H a = some (.tup us) ∧ Ivs H us ps ∧ Pc ps ∧ ps.length ≤ 63 ∧ H t = some (.tup [.int lo, .int hi]) ∧ lo ≤ hi ∧
  ∀ H', Same H H' → Q (gv (gapO ps (lo, hi))) H'
theorem ok_first_gap (T : Tx K mg f_is_number f_is_position f_is_tuple_of f_is_interval f_ascending_error f_targets_error f_is_pieces f_has_position f_contains f_pieces_inside f_first_gap f_find_missing f_without_item f_with_interval f_without_interval f_edited_state f_depth_changes f_find_blocks f_serves f_conflict f_demands_at_blocks f_is_open f_open_demands f_shadow_target f_require_few_blocks f_decisive_demands f_largest_independent f_unserved_demands f_helpful_piece f_smallest_solution f_count_needed f_solve f_law_deck f_law_draw f_law_line f_law_interval f_law_intervals f_law_served f_law_options f_law_conflict f_law_most f_law_needed f_law_edit f_law_after f_law_do f_law_begun f_law_generated f_law_solution_right f_law f_Plan_init f_Plan_add_target f_Plan_add_piece f_Plan_remove_target f_Plan_remove_piece f_Plan_targets f_Plan_pieces f_Plan_needed f_Plan_solution f_Plan_missing f_Plan_edit f_Plan_record f_Plan_require_idle f_Plan_state_at f_Plan_len f_Plan_str f_Plan_eq C_Plan d_is_number d_is_position d_is_tuple_of d_is_interval d_ascending_error d_targets_error d_is_pieces d_has_position d_contains d_pieces_inside d_first_gap d_find_missing d_without_item d_with_interval d_without_interval d_edited_state d_depth_changes d_find_blocks d_serves d_conflict d_demands_at_blocks d_is_open d_open_demands d_shadow_target d_require_few_blocks d_decisive_demands d_largest_independent d_unserved_demands d_helpful_piece d_smallest_solution d_count_needed d_solve d_law_deck d_law_draw d_law_line d_law_interval d_law_intervals d_law_served d_law_options d_law_conflict d_law_most d_law_needed d_law_edit d_law_after d_law_do d_law_begun d_law_generated d_law_solution_right d_law d_Plan_init d_Plan_add_target d_Plan_add_piece d_Plan_remove_target d_Plan_remove_piece d_Plan_targets d_Plan_pieces d_Plan_needed d_Plan_solution d_Plan_missing d_Plan_edit d_Plan_record d_Plan_require_idle d_Plan_state_at d_Plan_len d_Plan_str d_Plan_eq t_LAST_POSITION t_MAX_TARGETS t_MAX_PIECES t_MAX_BLOCKS t_MAX_EDITS) : FnOk P w K mg base CX0 3 f_first_gap d_first_gap ["pieces", "target"] sp_first_gap := by
  refine T.F_first_gap.ok sc_first_gap (fun vs H Q E h => ?_) (fun cdv A outer s H vs Q E hr h => ?_)
  · obtain ⟨a, t, us, ps, lo, hi, rfl, _⟩ := h
    rfl
  · obtain ⟨a, t, us, ps, lo, hi, rfl, ha, iv, pc, few, ht, lh, q⟩ := h
    refine ⟨_, (pss_cons (ps_asg (pv 1) (pg_tup rfl (pgs_cons (pg_name (i := 2) sc_first_gap.nd rfl (Or.inl rfl)) (pgs_cons (pg_name (i := 3) sc_first_gap.nd rfl (Or.inl rfl)) pgs_nil))))
      (pss_cons (ps_for PassesOwn.never rfl (pi_list (pe_callB (cr_sortT (d := 2) (B := 10 ^ 13) (by decide)) (by rfl) T.z_sorted (by decide +kernel) (pa_cons (pe_call (ok_pieces_inside T) (hr.mono (by decide)) (by rfl) T.g_pieces_inside T.F_pieces_inside.kp T.b_pieces_inside .nil pass0 (pa_cons (pv 0) (pa_cons (pv 1) pa_nil))) pa_nil))) (pg_tup rfl (pgs_cons (pg_name (i := 4) sc_first_gap.nd rfl (Or.inl rfl)) (pgs_cons (pg_name (i := 5) sc_first_gap.nd rfl (Or.inl rfl)) pgs_nil)))
      (pss_cons (ps_if (pt_cmpR op_gt (pv 4) (pv 2) (nomark _))
      (pss_one (ps_ret (pv 2)))
      pss_nil)
      (pss_one (ps_set (i := 2) sc_first_gap.nd rfl (Or.inl rfl) (pe_callB (call_max2 rfl) (by rfl) T.z_max (by decide +kernel) (pa_cons (pv 2) (pa_cons (pe_op op_add (pv 5) pe_int) pa_nil)))))))
      (pss_one (ps_ret (pe_ifExp (pt_cmpR op_le (pv 2) (pv 3) (nomark _)) (pv 2) pe_non))))), ?_⟩
    refine ⟨.ref t, rfl, t, _, rfl, SqT.of ht, rfl, .int lo, [.int hi], rfl, .int hi, [], rfl, rfl, ?_⟩
    refine ⟨.ref a, rfl, .ref t, rfl, a, t, us, ps, lo, hi, rfl, ha, iv, by omega, ht, fun H1 p ws s1 ep iv1 => ?_⟩
    obtain ⟨fs, efs⟩ : ∃ fs, fs = ps.filter fun q => inI lo hi q.1 q.2 := ⟨_, rfl⟩
    have mf : ∀ q, q ∈ fs ↔ q ∈ ps ∧ lo ≤ q.1 ∧ q.2 ≤ hi := fun q => by
      rw [efs]
      exact mem_inI
    have lf : fs.length ≤ ps.length := by
      rw [efs]
      exact List.length_filter_le _ _
    rw [← efs] at iv1
    have lw := iv1.length
    have bdp : ∀ q ∈ fs, TS.Bd (10 ^ 13) [q.1, q.2] := fun q hq m hm => by
      have z := pc q ((mf q).mp hq).1
      rcases List.mem_cons.mp hm with rfl | hm
      · exact ⟨z.1.1, Int.lt_of_le_of_lt z.1.2 z.2⟩
      · rw [List.mem_singleton.mp hm]
        exact ⟨Int.le_trans z.1.1 z.1.2, z.2⟩
    refine ⟨p, ws, rfl, SqL.of ep, by omega, fun x hx => ?_, fun ys p2 pm pw np2 => ?_⟩
    · obtain ⟨b, qq, hqq, e, eb⟩ := iv1.mem hx
      exact ⟨[qq.1, qq.2], ⟨b, e, SqT.of eb⟩, rfl, bdp qq hqq⟩
    obtain ⟨gs, ivg, pmg⟩ := Ivs.perm pm iv1
    have mg : ∀ q, q ∈ gs ↔ q ∈ ps ∧ lo ≤ q.1 ∧ q.2 ≤ hi := fun q => by rw [pmg.mem_iff, mf]
    have asc : gs.Pairwise (fun a b => a.1 ≤ b.1) := by
      have z : gs.Pairwise (fun a b => TS.code (10 ^ 13) [a.1, a.2] ≤ TS.code (10 ^ 13) [b.1, b.2]) := Ivs.pair (S := fun a b => TS.code (10 ^ 13) [a.1, a.2] ≤ TS.code (10 ^ 13) [b.1, b.2]) (fun a b x y u v ea eb h => h [x, y] [u, v] ⟨a, rfl, SqT.of ea⟩ ⟨b, rfl, SqT.of eb⟩) ivg pw
      refine z.imp_of_mem fun {x y} hx hy h => ?_
      exact code_first (bdp x (pmg.mem_iff.mp hx)) (bdp y (pmg.mem_iff.mp hy)) h
    have s2 := same_new (o := .lst ys) np2
    have ep2 := upd_same (H := H1) (a := p2) (o := .lst ys)
    replace ivg := ivg.same s2
    generalize upd H1 p2 (.lst ys) = H2 at *
    have lg := ivg.length
    refine ⟨p2, rfl, ⟨_, SqL.of ep2⟩, for_list (K := K) (a := p2) (xs := ys) (fun i σ H' => H' = H2 ∧ ∃ (pos : Int) (y4 y5 : Option V), (lo ≤ pos ∧ pos ≤ hi + 1) ∧ (∀ z, lo ≤ z → z < pos → covI ps lo hi z) ∧ (∀ q ∈ gs.take i, q.2 < pos) ∧ σ = [some (.ref a), some (.ref t), some (.int pos), some (.int hi), y4, y5])
      ⟨rfl, lo, _, _, by omega, (fun z h1 h2 => absurd h1 (by omega)), (fun q hq => nomatch hq), rfl⟩ (fun i σ H' _ h => by rw [h.1]; exact SqL.of ep2) ?_ ?_⟩
    · rintro i v σ H' hi2 ⟨rfl, pos, y4, y5, b1, cv, dn, rfl⟩
      obtain ⟨b, x, y, rfl, exy, hb⟩ := ivg.get hi2
      have inq := (mg (x, y)).mp (List.mem_of_getElem? exy)
      have pq := pc _ inq.1
      simp only at inq pq
      refine ⟨b, _, rfl, SqT.of hb, rfl, .int x, [.int y], rfl, .int y, [], rfl, rfl, ?_⟩
      refine ⟨.int x, rfl, .int pos, rfl, _, _, rfl, rfl, _, rfl, ite2 (fun c => ?_) (fun c => ?_)⟩
      · have c := of_decide_eq_true c
        refine ⟨.int pos, rfl, ?_⟩
        have g : IsGap ps lo hi (some pos) := by
          refine ⟨by omega, fun ⟨q, hq, hin, h1, h2⟩ => ?_, cv⟩
          obtain ⟨j, ej⟩ := List.getElem?_of_mem ((mg q).mpr ⟨hq, hin⟩)
          rcases Nat.lt_or_ge j i with z | z
          · have := dn q (List.mem_of_getElem? (show (gs.take i)[j]? = some q by rw [List.getElem?_take_of_lt z]; exact ej))
            omega
          · have : x ≤ q.1 := by
              obtain ⟨hj', rfl⟩ := List.getElem?_eq_some_iff.mp ej
              obtain ⟨hi', e'⟩ := List.getElem?_eq_some_iff.mp exy
              rcases Nat.eq_or_lt_of_le z with z | z
              · subst z
                rw [e']
                exact Int.le_refl _
              · have := List.pairwise_iff_getElem.mp asc i j hi' hj' z
                rw [e'] at this
                exact this
            omega
        have z := q _ (s1.trans s2)
        rw [gapO_eq (q := (lo, hi)) g] at z
        exact z
      · have c : ¬ (pos < x) := fun z => c (decide_eq_true z)
        refine ⟨.int pos, rfl, .int y, rfl, _, _, rfl, rfl, _, _, rfl, rfl, mxI pos (y + 1), _, _, ?_, fun z h1 h2 => ?_, fun q hq => ?_, rfl⟩
        · unfold mxI
          split <;> omega
        · rcases Int.lt_or_le z pos with h | h
          · exact cv z h1 h
          · refine ⟨(x, y), inq.1, inq.2, ?_, ?_⟩
            · show x ≤ z
              omega
            · show z ≤ y
              unfold mxI at h2
              split at h2 <;> omega
        · rw [List.take_add_one, exy] at hq
          have m1 : pos ≤ mxI pos (y + 1) ∧ y + 1 ≤ mxI pos (y + 1) := by
            unfold mxI
            split <;> omega
          rcases List.mem_append.mp hq with hq | hq
          · have := dn q hq
            omega
          · rw [List.mem_singleton.mp hq]
            show y < _
            omega
    · rintro σ H' ⟨rfl, pos, y4, y5, b1, cv, dn, rfl⟩
      rw [lg, List.take_length] at dn
      have z := q _ (s1.trans s2)
      refine ⟨.int pos, rfl, .int hi, rfl, _, _, rfl, rfl, _, rfl, ite2 (fun c => ?_) (fun c => ?_)⟩
      · have c := of_decide_eq_true c
        have g : IsGap ps lo hi (some pos) := by
          refine ⟨by omega, fun ⟨q, hq, hin, h1, h2⟩ => ?_, cv⟩
          have := dn q ((mg q).mpr ⟨hq, hin⟩)
          omega
        rw [gapO_eq (q := (lo, hi)) g] at z
        exact ⟨.int pos, rfl, z⟩
      · have c : ¬ (pos ≤ hi) := fun z => c (decide_eq_true z)
        have g : IsGap ps lo hi none := fun p h1 h2 => cv p h1 (by omega)
        rw [gapO_eq (q := (lo, hi)) g] at z
        exact z

/-! ### the first missing demand -/
theorem iteND {c A B : Prop} [Decidable c] (hc : ¬ c) (h : A) : if (!decide c) = true then A else B := by
  rw [decide_eq_false hc]
  exact iteT h
theorem gap_upto (ps : List (Int × Int)) (lo hi : Int) : ∀ k : Nat, (∀ p, lo ≤ p → p < lo + k → covI ps lo hi p) ∨ ∃ g, (lo ≤ g ∧ g < lo + k) ∧ ¬ covI ps lo hi g ∧ ∀ p, lo ≤ p → p < g → covI ps lo hi p
  | 0 => .inl fun p h1 h2 => absurd h1 (by omega)
  | k + 1 => by
    rcases gap_upto ps lo hi k with h | ⟨g, h1, h2⟩
    · by_cases c : covI ps lo hi (lo + k)
      · refine .inl fun p h1 h2 => ?_
        rcases Int.lt_or_le p (lo + k) with z | z
        · exact h p h1 z
        · have : p = lo + k := by omega
          rw [this]
          exact c
      · exact .inr ⟨lo + k, by omega, c, fun p h1 h2 => h p h1 h2⟩
    · exact .inr ⟨g, by omega, h2⟩
theorem gapO_spec (ps : List (Int × Int)) (q : Int × Int) : IsGap ps q.1 q.2 (gapO ps q) := by
  have ex : ∃ o, IsGap ps q.1 q.2 o := by
    rcases gap_upto ps q.1 q.2 (q.2 + 1 - q.1).toNat with h | ⟨g, h1, h2, h3⟩
    · exact ⟨none, fun p h1 h2 => h p h1 (by omega)⟩
    · exact ⟨some g, ⟨h1.1, by omega⟩, h2, h3⟩
  obtain ⟨o, h⟩ := ex
  rw [gapO_eq h]
  exact h
noncomputable def misF (ps : List (Int × Int)) (t : Int × Int) : Option (Int × Int × Int) := (gapO ps t).map fun g => (g, t.1, t.2)
noncomputable def missO (ps ts : List (Int × Int)) : Option (Int × Int × Int) := ts.findSome? (misF ps)
theorem miss_step {f : Int × Int → Option (Int × Int × Int)} {ps : List (Int × Int)} {i : Nat} {q : Int × Int} (e : ps[i]? = some q) : (ps.drop i).findSome? f = match f q with
    | some r => some r
    | none => (ps.drop (i + 1)).findSome? f := by
  obtain ⟨hi, rfl⟩ := List.getElem?_eq_some_iff.mp e
  rw [List.drop_eq_getElem_cons hi, List.findSome?_cons]
  cases f ps[i] <;> rfl
theorem missO_some {ps ts : List (Int × Int)} {g lo hi : Int} (h : missO ps ts = some (g, lo, hi)) : (lo, hi) ∈ ts ∧ gapO ps (lo, hi) = some g := by
  unfold missO at h
  obtain ⟨t, ht, e⟩ := List.exists_of_findSome?_eq_some h
  unfold misF at e
  obtain ⟨g', e1, e2⟩ := Option.map_eq_some_iff.mp e
  cases e2
  exact ⟨ht, e1⟩
theorem missO_none {ps ts : List (Int × Int)} : missO ps ts = none ↔ ∀ t ∈ ts, gapO ps t = none := by
  unfold missO misF
  rw [List.findSome?_eq_none_iff]
  constructor
  · intro h t ht
    have z := h t ht
    rw [Option.map_eq_none_iff] at z
    exact z
  · intro h t ht
    rw [h t ht]
    rfl
theorem gap_self {ps : List (Int × Int)} {t : Int × Int} (h : t ∈ ps) : gapO ps t = none := gapO_eq (show IsGap ps t.1 t.2 none from fun p h1 h2 => ⟨t, h, ⟨Int.le_refl _, Int.le_refl _⟩, h1, h2⟩)
def demD : Option (Int × Int × Int) → PyData
  | none => .none
  | some (g, lo, hi) => .tuple [.int g, .tuple [.int lo, .int hi]]
def DV (H : Hp) (v : V) : Option (Int × Int × Int) → Prop
  | none => v = .non
  | some (g, lo, hi) => ∃ u t, v = .ref u ∧ H u = some (.tup [.int g, .ref t]) ∧ H t = some (.tup [.int lo, .int hi])
theorem DV.tps {H H' : Hp} (s : Tps H H') {v : V} {o : Option (Int × Int × Int)} (h : DV H v o) : DV H' v o := by
  match o, h with
  | none, h => exact h
  | some (g, lo, hi), h =>
    obtain ⟨u, t, e, e1, e2⟩ := h
    exact ⟨u, t, e, s _ _ e1, s _ _ e2⟩
theorem DV.dp {K : PySem.W.Frag} {H : Hp} {v : V} {o : Option (Int × Int × Int)} (h : DV H v o) : Dp K H v (demD o) := by
  match o, h with
  | none, h =>
    cases h
    exact .non
  | some (g, lo, hi), h =>
    obtain ⟨u, t, e, e1, e2⟩ := h
    subst e
    exact .tup (SqT.of e1) (.cons (.int g) (.cons (dp2 e2) .nil))
theorem sm_dem {o : Option (Int × Int × Int)} (h : ∀ g lo hi, o = some (g, lo, hi) → g.natAbs < 10 ^ 30 ∧ lo.natAbs < 10 ^ 30 ∧ hi.natAbs < 10 ^ 30) : Sm 406 2 (demD o) := by
  match o, h with
  | none, _ => exact Sm.none.mono (by decide) (by decide)
  | some (g, lo, hi), h =>
    obtain ⟨h1, h2, h3⟩ := h g lo hi rfl
    exact Sm.tup (n := 202) (dp := 1) (ds := [.int g, .tuple [.int lo, .int hi]]) (fun d hd => by
      rcases List.mem_cons.mp hd with rfl | hd
      · exact (Sm.int h1).mono (by decide) (by decide)
      · rcases List.mem_cons.mp hd with rfl | hd
        · exact sm2 h2 h3
        · cases hd)
def Tg (ts : List (Int × Int)) : Prop := ∀ t ∈ ts, t.1 ≤ t.2
def sp_find_missing : Sp := fun vs H Q _ => ∃ (a b : Addr) (tus us : List V) (ts ps : List (Int × Int)), vs = [.ref a, .ref b] ∧ H a = some (.tup tus) ∧ Ivs H tus ts ∧ Tg ts ∧ H b = some (.tup us) ∧ Ivs H us ps ∧ Pc ps ∧ ps.length ≤ 63 ∧
  ∀ H' r, Same H H' → DV H' r (missO ps ts) → Q r H'
theorem ok_find_missing (T : Tx K mg f_is_number f_is_position f_is_tuple_of f_is_interval f_ascending_error f_targets_error f_is_pieces f_has_position f_contains f_pieces_inside f_first_gap f_find_missing f_without_item f_with_interval f_without_interval f_edited_state f_depth_changes f_find_blocks f_serves f_conflict f_demands_at_blocks f_is_open f_open_demands f_shadow_target f_require_few_blocks f_decisive_demands f_largest_independent f_unserved_demands f_helpful_piece f_smallest_solution f_count_needed f_solve f_law_deck f_law_draw f_law_line f_law_interval f_law_intervals f_law_served f_law_options f_law_conflict f_law_most f_law_needed f_law_edit f_law_after f_law_do f_law_begun f_law_generated f_law_solution_right f_law f_Plan_init f_Plan_add_target f_Plan_add_piece f_Plan_remove_target f_Plan_remove_piece f_Plan_targets f_Plan_pieces f_Plan_needed f_Plan_solution f_Plan_missing f_Plan_edit f_Plan_record f_Plan_require_idle f_Plan_state_at f_Plan_len f_Plan_str f_Plan_eq C_Plan d_is_number d_is_position d_is_tuple_of d_is_interval d_ascending_error d_targets_error d_is_pieces d_has_position d_contains d_pieces_inside d_first_gap d_find_missing d_without_item d_with_interval d_without_interval d_edited_state d_depth_changes d_find_blocks d_serves d_conflict d_demands_at_blocks d_is_open d_open_demands d_shadow_target d_require_few_blocks d_decisive_demands d_largest_independent d_unserved_demands d_helpful_piece d_smallest_solution d_count_needed d_solve d_law_deck d_law_draw d_law_line d_law_interval d_law_intervals d_law_served d_law_options d_law_conflict d_law_most d_law_needed d_law_edit d_law_after d_law_do d_law_begun d_law_generated d_law_solution_right d_law d_Plan_init d_Plan_add_target d_Plan_add_piece d_Plan_remove_target d_Plan_remove_piece d_Plan_targets d_Plan_pieces d_Plan_needed d_Plan_solution d_Plan_missing d_Plan_edit d_Plan_record d_Plan_require_idle d_Plan_state_at d_Plan_len d_Plan_str d_Plan_eq t_LAST_POSITION t_MAX_TARGETS t_MAX_PIECES t_MAX_BLOCKS t_MAX_EDITS) : FnOk P w K mg base CX0 4 f_find_missing d_find_missing ["targets", "pieces"] sp_find_missing := by
  refine T.F_find_missing.ok sc_find_missing (fun vs H Q E h => ?_) (fun cdv A outer s H vs Q E hr h => ?_)
  · obtain ⟨a, b, tus, us, ts, ps, rfl, _⟩ := h
    rfl
  · obtain ⟨a, b, tus, us, ts, ps, rfl, ha, tiv, tg, hb, iv, pc, few, q⟩ := h
    refine ⟨_, (pss_cons (ps_for PassesOwn.never rfl (pi_tup (pv 0)) (pg_name (i := 2) sc_find_missing.nd rfl (Or.inl rfl))
      (pss_cons (ps_set (i := 3) sc_find_missing.nd rfl (Or.inl rfl) (pe_call (ok_first_gap T) (hr.mono (by decide)) (by rfl) T.g_first_gap T.F_first_gap.kp T.b_first_gap .nil pass0 (pa_cons (pv 1) (pa_cons (pv 2) pa_nil))))
      (pss_one (ps_if (pt_cmpR op_notN (pv 3) pe_non (nomark _))
      (pss_one (ps_ret (pe_tup (pa_cons (pv 3) (pa_cons (pv 2) pa_nil)))))
      pss_nil))))
      (pss_one (ps_ret pe_non))), ?_⟩
    refine ⟨.ref a, rfl, a, rfl, ⟨_, SqT.of ha⟩, for_tup (K := K) (a := a) (xs := tus) (fun i σ H' => Same H H' ∧ missO ps ts = (ts.drop i).findSome? (misF ps) ∧ ∃ y2 y3, σ = [some (.ref a), some (.ref b), y2, y3]) ⟨Same.refl _, rfl, _, _, rfl⟩ (fun i σ H' _ h => SqT.of (h.1 _ _ ha)) ?_ ?_⟩
    · rintro i x σ H1 hi ⟨s1, ef, y2, y3, rfl⟩
      obtain ⟨t, lo, hi2, rfl, et, ht⟩ := tiv.get hi
      have lh := tg _ (List.mem_of_getElem? et)
      rw [miss_step et] at ef
      unfold misF at ef
      refine ⟨.ref b, rfl, .ref t, rfl, b, t, us, ps, lo, hi2, rfl, s1 _ _ hb, iv.same s1, pc, few, s1 _ _ ht, lh, fun H2 s2 => ?_⟩
      have s12 := s1.trans s2
      cases eg : gapO ps (lo, hi2) with
      | none =>
        rw [eg] at ef
        exact ⟨_, rfl, rfl, _, rfl, iteF ⟨s12, ef, _, _, rfl⟩⟩
      | some g =>
        rw [eg] at ef
        refine ⟨_, rfl, rfl, _, rfl, ?_⟩
        refine iteND (fun z : V.int g = V.non => by cases z) ⟨_, rfl, .ref t, rfl, by show 2 ≤ sizeLine; decide, fun u nu => q _ _ (s12.trans (same_new nu)) ?_⟩
        rw [ef]
        exact ⟨u, t, rfl, upd_same, same_new nu _ _ (s12 _ _ ht)⟩
    · rintro σ H1 ⟨s1, ef, y2, y3, rfl⟩
      refine q _ _ s1 ?_
      rw [ef, tiv.length, List.drop_length]
      rfl

/-! ### a line of cells, intervals of whole cells -/
structure Cells (cs : List (Int × Int)) : Prop where
  ok : ∀ q ∈ cs, 0 ≤ q.1 ∧ q.1 ≤ q.2
  nxt : ∀ (i : Nat) (q r : Int × Int), cs[i]? = some q → cs[i + 1]? = some r → r.1 = q.2 + 1
theorem Cells.snoc {cs : List (Int × Int)} {low s : Int} (h : Cells cs) (last : ∀ q, cs[cs.length - 1]? = some q → low = q.2 + 1) (l0 : 0 ≤ low) (s1 : 1 ≤ s) : Cells (cs ++ [(low, low + s - 1)]) := by
  refine ⟨fun q hq => ?_, fun i q r h1 h2 => ?_⟩
  · rcases List.mem_append.mp hq with hq | hq
    · exact h.ok q hq
    · rw [List.mem_singleton.mp hq]
      exact ⟨l0, by show low ≤ low + s - 1; omega⟩
  · have il := (List.getElem?_eq_some_iff.mp h2).1
    rw [List.length_append] at il
    have il : i + 1 < cs.length + 1 := il
    rw [List.getElem?_append_left (by omega)] at h1
    rcases Nat.lt_or_ge (i + 1) cs.length with z | z
    · rw [List.getElem?_append_left z] at h2
      exact h.nxt i q r h1 h2
    · have e : i = cs.length - 1 := by omega
      rw [List.getElem?_append_right z, show i + 1 - cs.length = 0 by omega] at h2
      cases h2
      rw [e] at h1
      exact last q h1
theorem low3 {r : Int} (h0 : 0 ≤ r) (h1 : r < 3) : ∃ L : Int, atI [V.int 0, .int 3, .int ((10 : Int) ^ (6 : Int).toNat)] r = some (.int L) ∧ 0 ≤ L ∧ L ≤ 1000000 := by
  have : r = 0 ∨ r = 1 ∨ r = 2 := by omega
  rcases this with rfl | rfl | rfl
  · exact ⟨0, rfl, by decide, by decide⟩
  · exact ⟨3, rfl, by decide, by decide⟩
  · exact ⟨_, rfl, by decide, by decide⟩
theorem size5 {r : Int} (h0 : 0 ≤ r) (h1 : r < 5) : ∃ L : Int, atI [V.int 1, .int 1, .int 2, .int 5, .int ((10 : Int) ^ (11 : Int).toNat)] r = some (.int L) ∧ 1 ≤ L ∧ L ≤ 100000000000 := by
  have : r = 0 ∨ r = 1 ∨ r = 2 ∨ r = 3 ∨ r = 4 := by omega
  rcases this with rfl | rfl | rfl | rfl | rfl
  · exact ⟨1, rfl, by decide, by decide⟩
  · exact ⟨1, rfl, by decide, by decide⟩
  · exact ⟨2, rfl, by decide, by decide⟩
  · exact ⟨5, rfl, by decide, by decide⟩
  · exact ⟨_, rfl, by decide, by decide⟩
def sp_law_line : Sp := fun vs H Q _ => ∃ (d : Addr) (c : Addr × Addr) (n most : Int), vs = [.ref d, .int most] ∧ Dk H d c n ∧ 0 ≤ n ∧ n < 900000 ∧ 1 ≤ most ∧ most ≤ 9 ∧
  ∀ H' l us cs m, Kp d c H H' → Dk H' d c m → n ≤ m → m ≤ n + 2 + most → H' l = some (.lst us) → Ivs H' us cs → Cells cs → 0 < cs.length → (cs.length : Int) ≤ most → (∀ q ∈ cs, q.2 < 1000000 + 100000000000 * most) → Off d c l → Q (.ref l) H'
theorem ok_law_line (T : Tx K mg f_is_number f_is_position f_is_tuple_of f_is_interval f_ascending_error f_targets_error f_is_pieces f_has_position f_contains f_pieces_inside f_first_gap f_find_missing f_without_item f_with_interval f_without_interval f_edited_state f_depth_changes f_find_blocks f_serves f_conflict f_demands_at_blocks f_is_open f_open_demands f_shadow_target f_require_few_blocks f_decisive_demands f_largest_independent f_unserved_demands f_helpful_piece f_smallest_solution f_count_needed f_solve f_law_deck f_law_draw f_law_line f_law_interval f_law_intervals f_law_served f_law_options f_law_conflict f_law_most f_law_needed f_law_edit f_law_after f_law_do f_law_begun f_law_generated f_law_solution_right f_law f_Plan_init f_Plan_add_target f_Plan_add_piece f_Plan_remove_target f_Plan_remove_piece f_Plan_targets f_Plan_pieces f_Plan_needed f_Plan_solution f_Plan_missing f_Plan_edit f_Plan_record f_Plan_require_idle f_Plan_state_at f_Plan_len f_Plan_str f_Plan_eq C_Plan d_is_number d_is_position d_is_tuple_of d_is_interval d_ascending_error d_targets_error d_is_pieces d_has_position d_contains d_pieces_inside d_first_gap d_find_missing d_without_item d_with_interval d_without_interval d_edited_state d_depth_changes d_find_blocks d_serves d_conflict d_demands_at_blocks d_is_open d_open_demands d_shadow_target d_require_few_blocks d_decisive_demands d_largest_independent d_unserved_demands d_helpful_piece d_smallest_solution d_count_needed d_solve d_law_deck d_law_draw d_law_line d_law_interval d_law_intervals d_law_served d_law_options d_law_conflict d_law_most d_law_needed d_law_edit d_law_after d_law_do d_law_begun d_law_generated d_law_solution_right d_law d_Plan_init d_Plan_add_target d_Plan_add_piece d_Plan_remove_target d_Plan_remove_piece d_Plan_targets d_Plan_pieces d_Plan_needed d_Plan_solution d_Plan_missing d_Plan_edit d_Plan_record d_Plan_require_idle d_Plan_state_at d_Plan_len d_Plan_str d_Plan_eq t_LAST_POSITION t_MAX_TARGETS t_MAX_PIECES t_MAX_BLOCKS t_MAX_EDITS) : FnOk P w K mg base CX0 2 f_law_line d_law_line ["_law_deck_here", "_law_most_here"] sp_law_line := by
  refine T.F_law_line.ok sc_law_line (fun vs H Q E h => ?_) (fun cdv A outer s H vs Q E hr h => ?_)
  · obtain ⟨d, c, n, most, rfl, _⟩ := h
    rfl
  · obtain ⟨d, c, n, most, rfl, dk, n0, n1, m0, m1, q⟩ := h
    refine ⟨_, (pss_cons (ps_set (i := 2) sc_law_line.nd rfl (Or.inl rfl) (pe_ix ix_list (pe_lst (pa_cons pe_int (pa_cons pe_int (pa_cons (pe_op op_pow pe_int pe_int) pa_nil)))) (pe_call (ok_law_draw T) (hr.mono (by decide)) (by rfl) T.g_law_draw T.F_law_draw.kp T.b_law_draw .nil pass0 (pa_cons (pv 0) (pa_cons pe_int pa_nil))) (fun _ _ => rfl)))
      (pss_cons (ps_set (i := 3) sc_law_line.nd rfl (Or.inl rfl) (pe_lst pa_nil))
      (pss_cons (ps_for PassesOwn.never rfl (pi_range1 (by rfl) T.z_range (pa_cons (pe_op op_add pe_int (pe_call (ok_law_draw T) (hr.mono (by decide)) (by rfl) T.g_law_draw T.F_law_draw.kp T.b_law_draw .nil pass0 (pa_cons (pv 0) (pa_cons (pv 1) pa_nil)))) pa_nil)) (pg_name (i := 4) sc_law_line.nd rfl (Or.inl rfl))
      (pss_cons (ps_set (i := 5) sc_law_line.nd rfl (Or.inl rfl) (pe_ix ix_list (pe_lst (pa_cons pe_int (pa_cons pe_int (pa_cons pe_int (pa_cons pe_int (pa_cons (pe_op op_pow pe_int pe_int) pa_nil)))))) (pe_call (ok_law_draw T) (hr.mono (by decide)) (by rfl) T.g_law_draw T.F_law_draw.kp T.b_law_draw .nil pass0 (pa_cons (pv 0) (pa_cons pe_int pa_nil))) (fun _ _ => rfl)))
      (pss_cons (ps_expr (pe_bm PySem.F.plainAttrs_list PySem.F.slot_list_append PySem.F.type_list_append mt_append (pv 3) (pa_cons (pe_tup (pa_cons (pv 2) (pa_cons (pe_op op_sub (pe_op op_add (pv 2) (pv 5)) pe_int) pa_nil))) pa_nil)))
      (pss_one (ps_set (i := 2) sc_law_line.nd rfl (Or.inl rfl) (pe_op op_add (pv 2) (pv 5)))))))
      (pss_one (ps_ret (pv 3)))))), ?_⟩
    refine ⟨10, 6, rfl, rfl, ⟨by decide, by decide, by decide⟩, by show 3 ≤ sizeLine; decide, fun p np => ?_⟩
    have off := dk.off np
    refine ⟨.ref d, rfl, d, c, _, 3, rfl, dk.kept (same_new np), by omega, by omega, by decide, by decide, fun H2 r2 kp2 dk2 a0 a1 => ?_⟩
    obtain ⟨L0, eL0, hL0, hL1⟩ := low3 a0 a1
    refine ⟨p, _, r2, _, rfl, rfl, SqL.of (kp2.keep off upd_same), eL0, ?_⟩
    have kp02 : Kp d c H H2 := (Kp.same (same_new np)).trans kp2
    refine ⟨by show 0 ≤ sizeLine; decide, fun l nl => ?_⟩
    have offl := dk2.off nl
    have nl0 : H l = none := kp02.none dk dk2 nl
    refine ⟨.ref d, rfl, .int most, rfl, d, c, _, most, rfl, dk2.kept (same_new nl), by omega, by omega, by omega, by omega, fun H3 r3 kp3 dk3 b0 b1 => ?_⟩
    have el3 := kp3.keep offl upd_same
    have kp03 : Kp d c H H3 := kp02.trans ((Kp.same (same_new nl)).trans kp3)
    refine ⟨_, _, rfl, rfl, 1 + r3, rfl, by omega, by omega, for_range (n := (1 + r3).toNat) (fun i σ H' => (Kp d c H H' ∧ Dk H' d c (n + 2 + i)) ∧ (∃ (us : List V) (cs : List (Int × Int)) (low : Int), H' l = some (.lst us) ∧ Ivs H' us cs ∧ cs.length = i ∧ Cells cs ∧ (∀ q, cs[cs.length - 1]? = some q → low = q.2 + 1) ∧ (0 ≤ low ∧ low ≤ 1000000 + 100000000000 * i) ∧ (∀ q ∈ cs, q.2 < 1000000 + 100000000000 * i) ∧ ∃ y4 y5, σ = [some (.ref d), some (.int most), some (.int low), some (.ref l), y4, y5]))
      ⟨⟨kp03, dk3.eq (by simp; omega)⟩, [], [], L0, el3, .nil, rfl, ⟨(fun q hq => nomatch hq), (fun i q r h1 _ => by simp at h1)⟩, (fun q h => by simp at h), ⟨by omega, by omega⟩, (fun q hq => nomatch hq), _, _, rfl⟩ ?_ ?_⟩
    · rintro i σ H4 hi ⟨⟨kp4, dk4⟩, us, cs, low, el, iv, cl, cells, last, ⟨lo0, lo1⟩, topc, y4, y5, rfl⟩
      have i9 : i < 9 := by omega
      refine ⟨10, 11, rfl, rfl, ⟨by decide, by decide, by decide⟩, by show 5 ≤ sizeLine; decide, fun p5 np5 => ?_⟩
      have off5 := dk4.off np5
      refine ⟨.ref d, rfl, d, c, _, 5, rfl, dk4.kept (same_new np5), by omega, by omega, by decide, by decide, fun H5 r5 kp5 dk5 c0 c1 => ?_⟩
      obtain ⟨S, eS, hS0, hS1⟩ := size5 c0 c1
      refine ⟨p5, _, r5, _, rfl, rfl, SqL.of (kp5.keep off5 upd_same), eS, ?_⟩
      have kp45 : Kp d c H4 H5 := (Kp.same (same_new np5)).trans kp5
      have el5 := kp45.keep offl el
      have iv5 := iv.tps (kp45.tps dk4)
      refine ⟨.ref l, rfl, .inl ⟨rfl, _, SqL.of el5⟩, .int low, rfl, .int low, rfl, .int S, rfl, _, _, rfl, rfl, _, _, rfl, rfl, by show 2 ≤ sizeLine; decide, fun t nt => ?_⟩
      have s6 := same_new (o := .tup [.int low, .int (low + S - 1)]) nt
      have et := upd_same (H := H5) (a := t) (o := .tup [.int low, .int (low + S - 1)])
      generalize upd H5 t (.tup [.int low, .int (low + S - 1)]) = H6 at *
      have el6 := s6 _ _ el5
      refine ⟨l, _, _, rfl, rfl, el6, by rw [iv.length]; exact small1000 (by omega), ?_⟩
      refine ⟨.int low, rfl, .int S, rfl, _, _, rfl, rfl, ⟨?_, ?_⟩, us ++ [.ref t], cs ++ [(low, low + S - 1)], low + S, upd_same, ?_, by rw [List.length_append, cl]; rfl, cells.snoc last lo0 hS0, fun q h => ?_, ⟨by omega, by omega⟩, fun q hq => ?_, _, _, rfl⟩
      · intro b o n1 n2 e
        rw [upd_ne (ne_of_none e nl0)]
        exact s6 _ _ (kp45 b o n1 n2 (kp4 b o n1 n2 e))
      · exact ((dk5.kept s6).upd offl).eq (by omega)
      · exact ((iv5.same s6).snoc et).tps (Tps.lst el6)
      · rw [List.length_append, show cs.length + [(low, low + S - 1)].length - 1 = cs.length from rfl, List.getElem?_append_right (Nat.le_refl _), Nat.sub_self] at h
        cases h
        show low + S = low + S - 1 + 1
        omega
      · rcases List.mem_append.mp hq with hq | hq
        · have := topc q hq
          omega
        · rw [List.mem_singleton.mp hq]
          show low + S - 1 < _
          omega
    · rintro σ H4 ⟨⟨kp4, dk4⟩, us, cs, low, el, iv, cl, cells, last, ⟨lo0, lo1⟩, topc, y4, y5, rfl⟩
      refine ⟨.ref l, rfl, q H4 l us cs _ kp4 dk4 (by omega) (by omega) el iv cells (by omega) (by omega) (fun z hz => ?_) offl⟩
      have := topc z hz
      omega
/-- an interval of whole cells -/
def OfCells (cs : List (Int × Int)) (q : Int × Int) : Prop := ∃ (i j : Nat) (a b : Int × Int), i ≤ j ∧ cs[i]? = some a ∧ cs[j]? = some b ∧ q.1 = a.1 ∧ q.2 = b.2
theorem Cells.mono {cs : List (Int × Int)} (h : Cells cs) {i : Nat} {a : Int × Int} (ha : cs[i]? = some a) : ∀ (k : Nat) (b : Int × Int), cs[i + k]? = some b → a.1 ≤ b.1 ∧ a.2 ≤ b.2
  | 0, b, hb => by
    rw [Nat.add_zero, ha] at hb
    cases hb
    exact ⟨Int.le_refl _, Int.le_refl _⟩
  | k + 1, b, hb => by
    have il := (List.getElem?_eq_some_iff.mp hb).1
    have e := List.getElem?_eq_getElem (l := cs) (i := i + k) (by omega)
    have ih := h.mono ha k _ e
    have n := h.nxt (i + k) _ b e hb
    have o1 := h.ok _ (List.mem_of_getElem? e)
    have o2 := h.ok b (List.mem_of_getElem? hb)
    generalize cs[i + k] = z at *
    omega
theorem OfCells.ok {cs : List (Int × Int)} (h : Cells cs) {q : Int × Int} (o : OfCells cs q) {m : Int} (top : ∀ z ∈ cs, z.2 < m) : 0 ≤ q.1 ∧ q.1 ≤ q.2 ∧ q.2 < m := by
  obtain ⟨i, j, a, b, ij, ha, hb, e1, e2⟩ := o
  obtain ⟨k, rfl⟩ := Nat.le.dest ij
  have m := h.mono ha k b hb
  have oa := h.ok a (List.mem_of_getElem? ha)
  have tb := top b (List.mem_of_getElem? hb)
  omega
def sp_law_interval : Sp := fun vs H Q _ => ∃ (d : Addr) (c : Addr × Addr) (n : Int) (l : Addr) (us : List V) (cs : List (Int × Int)), vs = [.ref d, .ref l] ∧ Dk H d c n ∧ 0 ≤ n ∧ n < 990000 ∧ Off d c l ∧ H l = some (.lst us) ∧ Ivs H us cs ∧ 0 < cs.length ∧ cs.length ≤ 9 ∧
  ∀ H' p x y, Kp d c H H' → Dk H' d c (n + 2) → H' p = some (.tup [.int x, .int y]) → OfCells cs (x, y) → Q (.ref p) H'
theorem ok_law_interval (T : Tx K mg f_is_number f_is_position f_is_tuple_of f_is_interval f_ascending_error f_targets_error f_is_pieces f_has_position f_contains f_pieces_inside f_first_gap f_find_missing f_without_item f_with_interval f_without_interval f_edited_state f_depth_changes f_find_blocks f_serves f_conflict f_demands_at_blocks f_is_open f_open_demands f_shadow_target f_require_few_blocks f_decisive_demands f_largest_independent f_unserved_demands f_helpful_piece f_smallest_solution f_count_needed f_solve f_law_deck f_law_draw f_law_line f_law_interval f_law_intervals f_law_served f_law_options f_law_conflict f_law_most f_law_needed f_law_edit f_law_after f_law_do f_law_begun f_law_generated f_law_solution_right f_law f_Plan_init f_Plan_add_target f_Plan_add_piece f_Plan_remove_target f_Plan_remove_piece f_Plan_targets f_Plan_pieces f_Plan_needed f_Plan_solution f_Plan_missing f_Plan_edit f_Plan_record f_Plan_require_idle f_Plan_state_at f_Plan_len f_Plan_str f_Plan_eq C_Plan d_is_number d_is_position d_is_tuple_of d_is_interval d_ascending_error d_targets_error d_is_pieces d_has_position d_contains d_pieces_inside d_first_gap d_find_missing d_without_item d_with_interval d_without_interval d_edited_state d_depth_changes d_find_blocks d_serves d_conflict d_demands_at_blocks d_is_open d_open_demands d_shadow_target d_require_few_blocks d_decisive_demands d_largest_independent d_unserved_demands d_helpful_piece d_smallest_solution d_count_needed d_solve d_law_deck d_law_draw d_law_line d_law_interval d_law_intervals d_law_served d_law_options d_law_conflict d_law_most d_law_needed d_law_edit d_law_after d_law_do d_law_begun d_law_generated d_law_solution_right d_law d_Plan_init d_Plan_add_target d_Plan_add_piece d_Plan_remove_target d_Plan_remove_piece d_Plan_targets d_Plan_pieces d_Plan_needed d_Plan_solution d_Plan_missing d_Plan_edit d_Plan_record d_Plan_require_idle d_Plan_state_at d_Plan_len d_Plan_str d_Plan_eq t_LAST_POSITION t_MAX_TARGETS t_MAX_PIECES t_MAX_BLOCKS t_MAX_EDITS) : FnOk P w K mg base CX0 2 f_law_interval d_law_interval ["_law_deck_here", "_law_line_here"] sp_law_interval := by
  refine T.F_law_interval.ok sc_law_interval (fun vs H Q E h => ?_) (fun cdv A outer s H vs Q E hr h => ?_)
  · obtain ⟨d, c, n, l, us, cs, rfl, _⟩ := h
    rfl
  · obtain ⟨d, c, n, l, us, cs, rfl, dk, n0, n1, off, el, iv, l0, l1, q⟩ := h
    refine ⟨_, (pss_cons (ps_asg (pe_callB cr_sortedI (by rfl) T.z_sorted (by decide +kernel) (pa_cons (pe_lst (pa_cons (pe_call (ok_law_draw T) (hr.mono (by decide)) (by rfl) T.g_law_draw T.F_law_draw.kp T.b_law_draw .nil pass0 (pa_cons (pv 0) (pa_cons (pe_callB call_len_seq (by rfl) T.z_len PySem.boot_len (pa_cons (pv 1) pa_nil)) pa_nil))) (pa_cons (pe_call (ok_law_draw T) (hr.mono (by decide)) (by rfl) T.g_law_draw T.F_law_draw.kp T.b_law_draw .nil pass0 (pa_cons (pv 0) (pa_cons (pe_callB call_len_seq (by rfl) T.z_len PySem.boot_len (pa_cons (pv 1) pa_nil)) pa_nil))) pa_nil))) pa_nil)) (pg_unl rfl (pgs_cons (pg_name (i := 2) sc_law_interval.nd rfl (Or.inl rfl)) (pgs_cons (pg_name (i := 3) sc_law_interval.nd rfl (Or.inl rfl)) pgs_nil))))
      (pss_one (ps_ret (pe_tup (pa_cons (pe_ix ix_tup (pe_ix ix_list (pv 1) (pv 2) (fun _ _ => rfl)) pe_int (fun _ _ => rfl)) (pa_cons (pe_ix ix_tup (pe_ix ix_list (pv 1) (pv 3) (fun _ _ => rfl)) pe_int (fun _ _ => rfl)) pa_nil)))))), ?_⟩
    have lu := iv.length
    refine ⟨.ref d, rfl, .ref l, rfl, l, us, rfl, .inl (SqL.of el), d, c, n, (us.length : Int), rfl, dk, n0, by omega, by omega, by omega, fun H1 r1 kp1 dk1 a0 a1 => ?_⟩
    have el1 := kp1.keep off el
    refine ⟨.ref d, rfl, .ref l, rfl, l, us, rfl, .inl (SqL.of el1), d, c, n + 1, (us.length : Int), rfl, dk1, by omega, by omega, by omega, by omega, fun H2 r2 kp2 dk2 b0 b1 => ?_⟩
    have el2 := kp2.keep off el1
    have iv2 := iv.tps ((kp1.trans kp2).tps dk)
    refine ⟨by show 2 ≤ sizeLine; decide, fun p np => ?_⟩
    have s3 := same_new (o := .lst [.int r1, .int r2]) np
    have ep := upd_same (H := H2) (a := p) (o := .lst [.int r1, .int r2])
    generalize upd H2 p (.lst [.int r1, .int r2]) = H3 at *
    dsimp only [tNil]
    refine ⟨p, [r1, r2], rfl, SqL.of ep, fun ms p2 pm srt np2 => ?_⟩
    have s4 := same_new (o := .lst (ms.map V.int)) np2
    have ep2 := upd_same (H := H3) (a := p2) (o := .lst (ms.map V.int))
    generalize upd H3 p2 (.lst (ms.map V.int)) = H4 at *
    have s24 := s3.trans s4
    obtain ⟨i, j, rfl, ij, jl⟩ : ∃ i j : Nat, ms = [(i : Int), (j : Int)] ∧ i ≤ j ∧ j < cs.length := by
      have lm := pm.length_eq
      match ms, lm, srt, pm with
      | [x, y], _, srt, pm =>
        have xy : x ≤ y := (List.pairwise_cons.mp srt).1 y List.mem_cons_self
        have bx : ∀ z ∈ [x, y], 0 ≤ z ∧ z < (us.length : Int) := fun z hz => by
          have := pm.mem_iff.mp hz
          rcases List.mem_cons.mp this with rfl | this
          · exact ⟨a0, a1⟩
          · rw [List.mem_singleton.mp this]
            exact ⟨b0, b1⟩
        have x0 := bx x List.mem_cons_self
        have y0 := bx y (List.mem_cons_of_mem _ List.mem_cons_self)
        exact ⟨x.toNat, y.toNat, by rw [Int.toNat_of_nonneg x0.1, Int.toNat_of_nonneg y0.1], by omega, by omega⟩
    refine ⟨p2, _, rfl, SqL.of ep2, rfl, .int i, [.int j], rfl, .int j, [], rfl, rfl, ?_⟩
    have el4 := s24 _ _ el2
    have iv4 := iv2.same s24
    have ui := List.getElem?_eq_getElem (l := us) (i := i) (by omega)
    have uj := List.getElem?_eq_getElem (l := us) (i := j) (by omega)
    obtain ⟨ai, xi, yi, ei, ci, hi⟩ := iv4.get ui
    obtain ⟨aj, xj, yj, ej, cj, hj⟩ := iv4.get uj
    refine ⟨.ref l, rfl, .int i, rfl, l, us, (i : Int), .ref ai, rfl, rfl, SqL.of el4, (by rw [← ei]; exact atI_nat ui), ai, _, 0, .int xi, rfl, rfl, SqT.of hi, rfl, .ref l, rfl, .int j, rfl, l, us, (j : Int), .ref aj, rfl, rfl, SqL.of el4, (by rw [← ej]; exact atI_nat uj), aj, _, 1, .int yj, rfl, rfl, SqT.of hj, rfl, by show 2 ≤ sizeLine; decide, fun t nt => ?_⟩
    have s5 := same_new (o := .tup [.int xi, .int yj]) nt
    exact q _ t xi yj ((kp1.trans kp2).trans (Kp.same (s24.trans s5))) ((dk2.kept (s24.trans s5)).eq (by omega)) upd_same ⟨i, j, (xi, yi), (xj, yj), ij, ci, cj, rfl, rfl⟩
def sp_law_intervals : Sp := fun vs H Q _ => ∃ (d : Addr) (c : Addr × Addr) (n : Int) (l : Addr) (us : List V) (cs : List (Int × Int)) (most : Int), vs = [.ref d, .ref l, .int most] ∧ Dk H d c n ∧ 0 ≤ n ∧ n < 900000 ∧ Off d c l ∧ H l = some (.lst us) ∧ Ivs H us cs ∧ Cells cs ∧ 0 < cs.length ∧ cs.length ≤ 9 ∧ (∀ q ∈ cs, q.2 < 1000000000000) ∧ 0 ≤ most ∧ most ≤ 30 ∧
  ∀ H' t ws ps m, Kp d c H H' → Dk H' d c m → n ≤ m → m ≤ n + 1 + 2 * most → H' t = some (.tup ws) → Ivs H' ws ps → ps.Pairwise ltP → (∀ q ∈ ps, OfCells cs q) → (ps.length : Int) ≤ most → Q (.ref t) H'
theorem ltP_nd6 {ps : List (Int × Int)} (h : ps.Pairwise ltP) : ps.Nodup := h.imp fun {a b} h e => by
  subst e
  rcases h with h | h <;> omega
theorem ok_law_intervals (T : Tx K mg f_is_number f_is_position f_is_tuple_of f_is_interval f_ascending_error f_targets_error f_is_pieces f_has_position f_contains f_pieces_inside f_first_gap f_find_missing f_without_item f_with_interval f_without_interval f_edited_state f_depth_changes f_find_blocks f_serves f_conflict f_demands_at_blocks f_is_open f_open_demands f_shadow_target f_require_few_blocks f_decisive_demands f_largest_independent f_unserved_demands f_helpful_piece f_smallest_solution f_count_needed f_solve f_law_deck f_law_draw f_law_line f_law_interval f_law_intervals f_law_served f_law_options f_law_conflict f_law_most f_law_needed f_law_edit f_law_after f_law_do f_law_begun f_law_generated f_law_solution_right f_law f_Plan_init f_Plan_add_target f_Plan_add_piece f_Plan_remove_target f_Plan_remove_piece f_Plan_targets f_Plan_pieces f_Plan_needed f_Plan_solution f_Plan_missing f_Plan_edit f_Plan_record f_Plan_require_idle f_Plan_state_at f_Plan_len f_Plan_str f_Plan_eq C_Plan d_is_number d_is_position d_is_tuple_of d_is_interval d_ascending_error d_targets_error d_is_pieces d_has_position d_contains d_pieces_inside d_first_gap d_find_missing d_without_item d_with_interval d_without_interval d_edited_state d_depth_changes d_find_blocks d_serves d_conflict d_demands_at_blocks d_is_open d_open_demands d_shadow_target d_require_few_blocks d_decisive_demands d_largest_independent d_unserved_demands d_helpful_piece d_smallest_solution d_count_needed d_solve d_law_deck d_law_draw d_law_line d_law_interval d_law_intervals d_law_served d_law_options d_law_conflict d_law_most d_law_needed d_law_edit d_law_after d_law_do d_law_begun d_law_generated d_law_solution_right d_law d_Plan_init d_Plan_add_target d_Plan_add_piece d_Plan_remove_target d_Plan_remove_piece d_Plan_targets d_Plan_pieces d_Plan_needed d_Plan_solution d_Plan_missing d_Plan_edit d_Plan_record d_Plan_require_idle d_Plan_state_at d_Plan_len d_Plan_str d_Plan_eq t_LAST_POSITION t_MAX_TARGETS t_MAX_PIECES t_MAX_BLOCKS t_MAX_EDITS) : FnOk P w K mg base CX0 3 f_law_intervals d_law_intervals ["_law_deck_here", "_law_line_here", "_law_most_here"] sp_law_intervals := by
  refine T.F_law_intervals.ok sc_law_intervals (fun vs H Q E h => ?_) (fun cdv A outer s H vs Q E hr h => ?_)
  · obtain ⟨d, c, n, l, us, cs, most, rfl, _⟩ := h
    rfl
  · obtain ⟨d, c, n, l, us, cs, most, rfl, dk, n0, n1, off, el, iv, cells, l0, l1, top, m0, m1, q⟩ := h
    refine ⟨_, (pss_cons (ps_setLc (i := 3) (own := [("_law_k", 4)]) (g := (gName 4)) (tt := tYes) (by rfl) sc_law_intervals.nd rfl rfl (sw_true rfl rfl rfl (by decide +kernel)) (pi_range1 (by rfl) T.z_range (pa_cons (pe_call (ok_law_draw T) (hr.mono (by decide)) (by rfl) T.g_law_draw T.F_law_draw.kp T.b_law_draw .nil pass0 (pa_cons (pv 0) (pa_cons (pe_op op_add (pv 2) pe_int) pa_nil))) pa_nil)) (blkOk_by (own := [("_law_k", 4)]) (N := N_law_intervals) (sc := defScope s_law_intervals) (by decide +kernel)) (fun _ _ _ _ _ => (pg_name (i := 4) sc_law_intervals.nd rfl (Or.inl rfl))) (fun _ _ _ _ _ => pts_nil) (fun _ _ _ _ _ => (pe_call (ok_law_interval T) (hr.mono (by decide)) (by rfl) T.g_law_interval T.F_law_interval.kp T.b_law_interval .nil pass0 (pa_cons (pv 0) (pa_cons (pv 1) pa_nil)))))
      (pss_one (ps_ret (pe_callTy call_tuple_of (by rfl) T.z_tuple (by decide +kernel) (pa_cons (pe_callB (cr_sortedT rfl) (by rfl) T.z_sorted (by decide +kernel) (pa_cons (pe_callTy (cr_setOfT rfl hr.units) (by rfl) T.z_set (by decide +kernel) (pa_cons (pv 3) pa_nil)) pa_nil)) pa_nil))))), ?_⟩
    refine ⟨.ref d, rfl, .int most, rfl, _, _, rfl, rfl, d, c, n, most + 1, rfl, dk, n0, by omega, by omega, by omega, fun H1 r kp1 dk1 r0 r1 => ?_⟩
    refine ⟨r, rfl, by omega, by omega, fun D nD => ?_⟩
    have el1 := kp1.keep off el
    have iv1 := iv.tps (kp1.tps dk)
    refine lcK (per := 2) (lo := 0) (n := r.toNat) (fun j H' ws => ∃ ps, Ivs H' ws ps ∧ ps.length = j ∧ ∀ z ∈ ps, OfCells cs z) nD dk1 (by omega) (fun _ _ _ _ t ⟨ps, h1, h2⟩ => ⟨ps, h1.tps t, h2⟩) (fun j H' ws ⟨ps, h1, h2, _⟩ => by rw [h1.length, h2]; exact Nat.le_refl _) (fun _ => ⟨[], .nil, rfl, fun z hz => nomatch hz⟩) ?_ ?_
    · rintro k H5 N acc hk kp5 dk5 eD ⟨ps, h1, h2, h3⟩ yes
      refine ⟨rfl, .ref d, rfl, .ref l, rfl, d, c, _, l, us, cs, rfl, dk5, by omega, by omega, off, kp5.keep off el1, iv1.tps (kp5.tps dk1), l0, l1, fun H6 p x y kp6 dk6 ep oc => ?_⟩
      refine yes H6 _ kp6 dk6 ⟨ps ++ [(x, y)], (h1.tps (kp6.tps dk5)).snoc ep, by rw [List.length_append, h2]; rfl, fun z hz => ?_⟩
      rcases List.mem_append.mp hz with hz | hz
      · exact h3 z hz
      · rw [List.mem_singleton.mp hz]
        exact oc
    rintro H5 ws kp5 dk5 eD ⟨ps, ivp, pl, oc⟩
    refine ⟨.ref D, rfl, ?_⟩
    dsimp only [tNil]
    refine sorted_set_pairs (SqL.of eD) ivp (by omega) (fun z hz => ?_) (fun H6 p us' ps' s6 np ep iv' asc mem => ?_)
    · have := (oc z hz).ok cells top
      have : z.2 < 10000000000000 := by omega
      exact ⟨⟨by omega, by show z.1 < 10000000000000; omega⟩, by omega, this⟩
    refine ⟨p, us', rfl, .inl ⟨SqL.of ep, fun t nt => ?_⟩⟩
    have s7 := same_new (o := .tup us') nt
    have nd := nodup_le (ltP_nd6 asc) fun z hz => (mem z).mp hz
    exact q _ t us' ps' _ (kp1.trans (kp5.trans (Kp.same (s6.trans s7)))) (dk5.kept (s6.trans s7)) (by omega) (by omega) upd_same (iv'.same s7) asc (fun z hz => oc z ((mem z).mp hz)) (by omega)

/-! ### rows of whole cells: few numbers, no more blocks than cells (after line6, chg, fb2w's FewK) -/
theorem OfCells.good {cs : List (Int × Int)} (h : Cells cs) {q : Int × Int} (o : OfCells cs q) : 0 ≤ q.1 ∧ q.1 ≤ q.2 := by
  obtain ⟨i, j, a, b, ij, ha, hb, e1, e2⟩ := o
  obtain ⟨k, rfl⟩ := Nat.le.dest ij
  have m := h.mono ha k b hb
  have oa := h.ok a (List.mem_of_getElem? ha)
  omega
theorem cells_fewk {cs row : List (Int × Int)} (o : ∀ q ∈ row, OfCells cs q) (lc : cs.length ≤ 9) (lr : row.length ≤ 60) : FewK row := by
  refine .inr ⟨lr, cs.map (·.1) ++ cs.map (fun z => z.2 + 1), by rw [List.length_append, List.length_map, List.length_map]; omega, fun q hq => ?_⟩
  obtain ⟨i, j, a, b, ij, ha, hb, e1, e2⟩ := o q hq
  exact ⟨List.mem_append_left _ (List.mem_map.mpr ⟨a, List.mem_of_getElem? ha, e1.symm⟩), List.mem_append_right _ (List.mem_map.mpr ⟨b, List.mem_of_getElem? hb, by show b.2 + 1 = q.2 + 1; omega⟩)⟩
theorem cells_blocks {cs row : List (Int × Int)} (h : Cells cs) (o : ∀ q ∈ row, OfCells cs q) : (blocksOf row).length ≤ cs.length := by
  have g : Good row := fun q hq => (o q hq).good h
  have nd : ((blocksOf row).map (·.1)).Nodup := List.pairwise_map.mpr ((blk_asc g).imp fun {a b} k e => by
    have e : a.1 = b.1 := e
    omega)
  have le := nodup_le (m := cs.map (·.1)) nd fun x hx => by
    obtain ⟨b, hb, rfl⟩ := List.mem_map.mp hx
    have k := blk_of g hb
    obtain ⟨q, hq, e⟩ := k.lo
    rcases e with e | e
    · obtain ⟨i, j, a, c, ij, ha, hc, e1, e2⟩ := o q hq
      exact List.mem_map.mpr ⟨a, List.mem_of_getElem? ha, by show a.1 = b.1; omega⟩
    · obtain ⟨q', hq', d1, d2⟩ := k.dep
      obtain ⟨i, j, a, c, ij, ha, hc, e1, e2⟩ := o q hq
      obtain ⟨i', j', a', c', ij', ha', hc', e1', e2'⟩ := o q' hq'
      have jj : j < j' := by
        rcases Nat.lt_or_ge j j' with z | z
        · exact z
        · obtain ⟨m, rfl⟩ := Nat.le.dest z
          have := (h.mono hc' m c hc).2
          omega
      have jl := (List.getElem?_eq_some_iff.mp hc').1
      have en := List.getElem?_eq_getElem (l := cs) (i := j + 1) (by omega)
      have nx := h.nxt j c _ hc en
      exact List.mem_map.mpr ⟨_, List.mem_of_getElem? en, by show (cs[j + 1]).1 = b.1; omega⟩
  rw [List.length_map, List.length_map] at le
  exact le

theorem ltP_uniq {ps qs : List (Int × Int)} (h1 : ps.Pairwise ltP) (h2 : qs.Pairwise ltP) (m : ∀ q, q ∈ ps ↔ q ∈ qs) : ps = qs := by
  have nd : ∀ {l : List (Int × Int)}, l.Pairwise ltP → l.Nodup := fun h => h.imp fun {a b} h e => by
    subst e
    rcases h with h | h <;> omega
  have le : ∀ {l : List (Int × Int)}, l.Pairwise ltP → l.Pairwise leP := fun h => h.imp fun {a b} h => by
    rcases h with h | ⟨h, k⟩
    · exact .inl h
    · exact .inr ⟨h, by omega⟩
  exact leP_uniq (le h1) (le h2) ((List.perm_ext_iff_of_nodup (nd h1) (nd h2)).mpr m)
theorem atI_end {xs : List V} {v : V} (h : xs[xs.length - 1]? = some v) : atI xs (-1) = some v := by
  have ne : xs ≠ [] := fun e => by
    rw [e] at h
    cases h
  have e := List.dropLast_concat_getLast ne
  rw [List.getLast_eq_getElem] at e
  rw [List.getElem?_eq_getElem (by have := List.length_pos_iff.mpr ne; omega)] at h
  rw [Option.some.inj h] at e
  rw [← e]
  exact atI_last _ _

def wo (ps : List (Int × Int)) (q : Int × Int) : List (Int × Int) := ps.filter fun x => !decide (x = q)
theorem wo_len (ps : List (Int × Int)) (q : Int × Int) : (wo ps q).length ≤ ps.length := List.length_filter_le _ _
theorem wo_sub {ps : List (Int × Int)} {q x : Int × Int} (h : x ∈ wo ps q) : x ∈ ps := (List.mem_filter.mp h).1
def sp_without_item : Sp := fun vs H Q _ => ∃ (a t : Addr) (us : List V) (ps : List (Int × Int)) (x y : Int), vs = [.ref a, .ref t] ∧ H a = some (.tup us) ∧ Ivs H us ps ∧ ps.length < 1000 ∧ H t = some (.tup [.int x, .int y]) ∧
  ∀ H' p ws, Same H H' → H' p = some (.tup ws) → Ivs H' ws (wo ps (x, y)) → Q (.ref p) H'
theorem ok_without_item (T : Tx K mg f_is_number f_is_position f_is_tuple_of f_is_interval f_ascending_error f_targets_error f_is_pieces f_has_position f_contains f_pieces_inside f_first_gap f_find_missing f_without_item f_with_interval f_without_interval f_edited_state f_depth_changes f_find_blocks f_serves f_conflict f_demands_at_blocks f_is_open f_open_demands f_shadow_target f_require_few_blocks f_decisive_demands f_largest_independent f_unserved_demands f_helpful_piece f_smallest_solution f_count_needed f_solve f_law_deck f_law_draw f_law_line f_law_interval f_law_intervals f_law_served f_law_options f_law_conflict f_law_most f_law_needed f_law_edit f_law_after f_law_do f_law_begun f_law_generated f_law_solution_right f_law f_Plan_init f_Plan_add_target f_Plan_add_piece f_Plan_remove_target f_Plan_remove_piece f_Plan_targets f_Plan_pieces f_Plan_needed f_Plan_solution f_Plan_missing f_Plan_edit f_Plan_record f_Plan_require_idle f_Plan_state_at f_Plan_len f_Plan_str f_Plan_eq C_Plan d_is_number d_is_position d_is_tuple_of d_is_interval d_ascending_error d_targets_error d_is_pieces d_has_position d_contains d_pieces_inside d_first_gap d_find_missing d_without_item d_with_interval d_without_interval d_edited_state d_depth_changes d_find_blocks d_serves d_conflict d_demands_at_blocks d_is_open d_open_demands d_shadow_target d_require_few_blocks d_decisive_demands d_largest_independent d_unserved_demands d_helpful_piece d_smallest_solution d_count_needed d_solve d_law_deck d_law_draw d_law_line d_law_interval d_law_intervals d_law_served d_law_options d_law_conflict d_law_most d_law_needed d_law_edit d_law_after d_law_do d_law_begun d_law_generated d_law_solution_right d_law d_Plan_init d_Plan_add_target d_Plan_add_piece d_Plan_remove_target d_Plan_remove_piece d_Plan_targets d_Plan_pieces d_Plan_needed d_Plan_solution d_Plan_missing d_Plan_edit d_Plan_record d_Plan_require_idle d_Plan_state_at d_Plan_len d_Plan_str d_Plan_eq t_LAST_POSITION t_MAX_TARGETS t_MAX_PIECES t_MAX_BLOCKS t_MAX_EDITS) : FnOk P w K mg base CX0 1 f_without_item d_without_item ["items", "item"] sp_without_item := by
  refine T.F_without_item.ok sc_without_item (fun vs H Q E h => ?_) (fun cdv A outer s H vs Q E hr h => ?_)
  · obtain ⟨a, t, us, ps, x, y, rfl, _⟩ := h
    rfl
  · obtain ⟨a, t, us, ps, x, y, rfl, ha, iv, few, ht, q⟩ := h
    have lu := iv.length
    refine ⟨_, (pss_one (ps_ret (pe_callTy call_tuple_of (by rfl) T.z_tuple (by decide +kernel) (pa_cons (pe_lc (own := [("other", 2)]) (g := (gName 2)) (by rfl) sc_without_item.nd (pi_tup (pv 0)) (blkOk_by (own := [("other", 2)]) (N := N_without_item) (sc := defScope s_without_item) (by decide +kernel)) (fun _ _ _ _ _ => (pg_name (i := 2) sc_without_item.nd rfl (Or.inl rfl))) (fun _ _ _ _ _ => pts_one (pt_cmpR (show OpR _ (compareOp .NotEq) (rNeD K) from (op_neD hr.units)) (pv 2) (pv 1) (nomark _))) (fun _ _ _ _ _ => (pv 2))) pa_nil)))), ?_⟩
    refine ⟨.ref a, rfl, a, rfl, ⟨_, SqT.of ha⟩, fun D nD => ?_⟩
    refine lcT (K := K) (a := a) (xs := us) (fun j H' ws => Ivs H' ws ((ps.take j).filter fun z => !decide (z = (x, y)))) nD (fun H' s => SqT.of (s _ _ ha)) (by omega) (fun _ _ _ _ t r => r.tps t) (fun j H' ws r => ?_) (fun _ => .nil) ?_ ?_
    · rw [r.length]
      exact Nat.le_trans (List.length_filter_le _ _) (List.length_take_le _ _)
    · rintro j z H' N acc hj sj eA sz r no yes
      obtain ⟨b, u, v, rfl, exy, hb⟩ := iv.get hj
      refine ⟨rfl, .ref b, rfl, .ref t, rfl, _, _, dp2 (sj _ _ hb), dp2 (sj _ _ ht), rfl, rfl, _, rfl, ?_⟩
      rw [eqv_pair]
      refine ite2 (fun c => ?_) (fun c => ?_)
      · refine ⟨.ref b, rfl, yes H' _ (Same.refl _) ?_⟩
        rw [take_filter exy, if_pos c]
        exact r.snoc (sj _ _ hb)
      · refine no H' (Same.refl _) ?_
        rw [take_filter exy, if_neg c, List.append_nil]
        exact r
    · intro H1 ws s1 eD r
      rw [lu, List.take_length] at r
      refine ⟨D, ws, rfl, .inl ⟨SqL.of eD, fun p np => ?_⟩⟩
      exact q _ p ws (s1.trans (same_new np)) upd_same (r.same (same_new np))

/-! ### plans: states, edits -/
abbrev St2 := List (Int × Int) × List (Int × Int)
/-- an edit: added or removed; a piece or a target; the interval -/
structure Ed where
  add : Bool
  pc : Bool
  q : Int × Int
def wordOf (add pc : Bool) : Str := match add, pc with
  | true, false => "add_target"
  | true, true => "add_piece"
  | false, false => "remove_target"
  | false, true => "remove_piece"
def wordE (e : Ed) : Str := wordOf e.add e.pc
instance (a b : Int × Int) : Decidable (ltP a b) := by unfold ltP; infer_instance
def insI (q : Int × Int) : List (Int × Int) → List (Int × Int)
  | [] => [q]
  | p :: ps => if ltP q p then q :: p :: ps else p :: insI q ps
theorem mem_insI {q x : Int × Int} : ∀ {ps : List (Int × Int)}, x ∈ insI q ps ↔ x = q ∨ x ∈ ps
  | [] => by
    show x ∈ [q] ↔ _
    rw [List.mem_singleton]
    exact ⟨.inl, fun h => h.elim id fun h => nomatch h⟩
  | p :: ps => by
    show x ∈ (if ltP q p then q :: p :: ps else p :: insI q ps) ↔ _
    split
    · rw [List.mem_cons]
    · rw [List.mem_cons, mem_insI (ps := ps), List.mem_cons]
      constructor
      · rintro (h | h | h)
        · exact .inr (.inl h)
        · exact .inl h
        · exact .inr (.inr h)
      · rintro (h | h | h)
        · exact .inr (.inl h)
        · exact .inl h
        · exact .inr (.inr h)
theorem len_insI {q : Int × Int} : ∀ {ps : List (Int × Int)}, (insI q ps).length = ps.length + 1
  | [] => rfl
  | p :: ps => by
    show (if ltP q p then q :: p :: ps else p :: insI q ps).length = _
    split
    · rfl
    · rw [List.length_cons, len_insI (ps := ps), List.length_cons]
theorem ltP_trans {a b c : Int × Int} (h1 : ltP a b) (h2 : ltP b c) : ltP a c := by
  unfold ltP at *
  omega
theorem asc_insI {q : Int × Int} : ∀ {ps : List (Int × Int)}, ps.Pairwise ltP → q ∉ ps → (insI q ps).Pairwise ltP
  | [], _, _ => List.pairwise_cons.mpr ⟨(fun _ h => nomatch h), .nil⟩
  | p :: ps, h, n => by
    have h' := List.pairwise_cons.mp h
    show (if ltP q p then q :: p :: ps else p :: insI q ps).Pairwise ltP
    split
    · rename_i c
      refine List.pairwise_cons.mpr ⟨fun x hx => ?_, h⟩
      rcases List.mem_cons.mp hx with rfl | hx
      · exact c
      · exact ltP_trans c (h'.1 x hx)
    · rename_i c
      refine List.pairwise_cons.mpr ⟨fun x hx => ?_, asc_insI h'.2 fun z => n (List.mem_cons_of_mem _ z)⟩
      rcases mem_insI.mp hx with rfl | hx
      · have ne : x ≠ p := fun e => n (e ▸ List.mem_cons_self)
        unfold ltP at c ⊢
        rcases Int.lt_trichotomy p.1 x.1 with z | z | z
        · exact .inl z
        · rcases Int.lt_trichotomy p.2 x.2 with y | y | y
          · exact .inr ⟨z, y⟩
          · exact absurd (Prod.ext z y).symm ne
          · exact absurd (.inr ⟨z.symm, y⟩) c
        · exact absurd (.inl z) c
      · exact h'.1 x hx
def upI (add : Bool) (q : Int × Int) (ps : List (Int × Int)) : List (Int × Int) := if add = true then insI q ps else wo ps q
def stepS (S : St2) (e : Ed) : St2 := if e.pc = true then (S.1, upI e.add e.q S.2) else (upI e.add e.q S.1, S.2)
def sideS (pc : Bool) (S : St2) : List (Int × Int) := if pc = true then S.2 else S.1
/-- intervals as a plan holds them -/
structure SideOk (n : Nat) (ps : List (Int × Int)) : Prop where
  asc : ps.Pairwise ltP
  ok : ∀ q ∈ ps, (0 ≤ q.1 ∧ q.1 ≤ q.2) ∧ q.2 ≤ 1000000000000
  few : ps.length ≤ n
structure StOk (S : St2) : Prop where
  t : SideOk 24 S.1
  p : SideOk 30 S.2
/-- an edit that can be done -/
structure Can (S : St2) (e : Ed) : Prop where
  ok : (0 ≤ e.q.1 ∧ e.q.1 ≤ e.q.2) ∧ e.q.2 ≤ 1000000000000
  no : e.add = true → e.q ∉ sideS e.pc S ∧ (sideS e.pc S).length < (if e.pc = true then 30 else 24)
  yes : e.add = false → e.q ∈ sideS e.pc S
theorem ltP_ndp {ps : List (Int × Int)} (h : ps.Pairwise ltP) : ps.Nodup := h.imp fun {a b} h e => by
  subst e
  rcases h with h | h <;> omega
theorem SideOk.ins {n : Nat} {ps : List (Int × Int)} {q : Int × Int} (h : SideOk n ps) (ok : (0 ≤ q.1 ∧ q.1 ≤ q.2) ∧ q.2 ≤ 1000000000000) (nq : q ∉ ps) (l : ps.length < n) : SideOk n (insI q ps) :=
  ⟨asc_insI h.asc nq, fun x hx => (mem_insI.mp hx).elim (fun e => e ▸ ok) fun m => h.ok x m, by rw [len_insI]; exact l⟩
theorem SideOk.wo {n : Nat} {ps : List (Int × Int)} (h : SideOk n ps) (q : Int × Int) : SideOk n (wo ps q) :=
  ⟨h.asc.filter _, fun x hx => h.ok x (wo_sub hx), Nat.le_trans (wo_len ps q) h.few⟩
theorem StOk.step {S : St2} {e : Ed} (h : StOk S) (c : Can S e) : StOk (stepS S e) := by
  obtain ⟨add, pc, q⟩ := e
  cases pc with
  | true =>
    refine ⟨h.t, ?_⟩
    cases add with
    | true => exact h.p.ins c.ok (c.no rfl).1 (c.no rfl).2
    | false => exact h.p.wo q
  | false =>
    refine ⟨?_, h.p⟩
    cases add with
    | true => exact h.t.ins c.ok (c.no rfl).1 (c.no rfl).2
    | false => exact h.t.wo q
/-! ### plans in the heap -/
inductive Sts (H : Hp) : List V → List St2 → Prop where
  | nil : Sts H [] []
  | cons {t x y : Addr} {xs ys us : List V} {S : St2} {Ss : List St2} (e : H t = some (.tup [.ref x, .ref y])) (ex : H x = some (.tup xs)) (ix : Ivs H xs S.1) (ey : H y = some (.tup ys)) (iy : Ivs H ys S.2) (r : Sts H us Ss) : Sts H (.ref t :: us) (S :: Ss)
theorem Sts.tps {H H' : Hp} (s : Tps H H') {us : List V} {Ss : List St2} (h : Sts H us Ss) : Sts H' us Ss := by
  induction h with
  | nil => exact .nil
  | cons e ex ix ey iy _ ih => exact .cons (s _ _ e) (s _ _ ex) (ix.tps s) (s _ _ ey) (iy.tps s) ih
theorem Sts.length {H : Hp} {us : List V} {Ss : List St2} (h : Sts H us Ss) : us.length = Ss.length := by
  induction h with
  | nil => rfl
  | cons e ex ix ey iy _ ih => rw [List.length_cons, List.length_cons, ih]
theorem Sts.get {H : Hp} {us : List V} {Ss : List St2} (h : Sts H us Ss) : ∀ {i : Nat} {S : St2}, Ss[i]? = some S → ∃ t x y xs ys, us[i]? = some (.ref t) ∧ H t = some (.tup [.ref x, .ref y]) ∧ H x = some (.tup xs) ∧ Ivs H xs S.1 ∧ H y = some (.tup ys) ∧ Ivs H ys S.2 := by
  induction h with
  | nil => intro i S e; cases e
  | @cons t x y xs ys us S0 Ss e ex ix ey iy _ ih =>
    intro i S h
    cases i with
    | zero =>
      cases h
      exact ⟨t, x, y, xs, ys, rfl, e, ex, ix, ey, iy⟩
    | succ i => exact ih h
theorem Sts.snoc {H : Hp} {us : List V} {Ss : List St2} (h : Sts H us Ss) {t x y : Addr} {xs ys : List V} {S : St2} (e : H t = some (.tup [.ref x, .ref y])) (ex : H x = some (.tup xs)) (ix : Ivs H xs S.1) (ey : H y = some (.tup ys)) (iy : Ivs H ys S.2) : Sts H (us ++ [.ref t]) (Ss ++ [S]) := by
  induction h with
  | nil => exact .cons e ex ix ey iy .nil
  | cons e1 ex1 ix1 ey1 iy1 _ ih => exact .cons e1 ex1 ix1 ey1 iy1 ih
theorem Sts.init {H : Hp} {us : List V} {Ss : List St2} (h : Sts H us Ss) : Sts H us.dropLast Ss.dropLast := by
  induction h with
  | nil => exact .nil
  | cons e ex ix ey iy r ih =>
    cases r with
    | nil => exact .nil
    | cons e2 ex2 ix2 ey2 iy2 r2 => exact .cons e ex ix ey iy ih
inductive Eds (H : Hp) : List V → List Ed → Prop where
  | nil : Eds H [] []
  | cons {t a : Addr} {vs : List V} {e : Ed} {es : List Ed} (h : H t = some (.tup [.str (wordE e), .ref a])) (ha : H a = some (.tup [.int e.q.1, .int e.q.2])) (r : Eds H vs es) : Eds H (.ref t :: vs) (e :: es)
theorem Eds.tps {H H' : Hp} (s : Tps H H') {us : List V} {es : List Ed} (h : Eds H us es) : Eds H' us es := by
  induction h with
  | nil => exact .nil
  | cons e ex _ ih => exact .cons (s _ _ e) (s _ _ ex) ih
theorem Eds.length {H : Hp} {us : List V} {es : List Ed} (h : Eds H us es) : us.length = es.length := by
  induction h with
  | nil => rfl
  | cons e ex _ ih => rw [List.length_cons, List.length_cons, ih]
theorem Eds.snoc {H : Hp} {us : List V} {es : List Ed} (h : Eds H us es) {t a : Addr} {e : Ed} (h1 : H t = some (.tup [.str (wordE e), .ref a])) (h2 : H a = some (.tup [.int e.q.1, .int e.q.2])) : Eds H (us ++ [.ref t]) (es ++ [e]) := by
  induction h with
  | nil => exact .cons h1 h2 .nil
  | cons e1 ex1 _ ih => exact .cons e1 ex1 ih
theorem Eds.init {H : Hp} {us : List V} {es : List Ed} (h : Eds H us es) : Eds H us.dropLast es.dropLast := by
  induction h with
  | nil => exact .nil
  | cons e ex r ih =>
    cases r with
    | nil => exact .nil
    | cons e2 ex2 r2 => exact .cons e ex ih
theorem Eds.get {H : Hp} {us : List V} {es : List Ed} (h : Eds H us es) : ∀ {i : Nat} {v : V}, us[i]? = some v → ∃ t a e, v = .ref t ∧ es[i]? = some e ∧ H t = some (.tup [.str (wordE e), .ref a]) ∧ H a = some (.tup [.int e.q.1, .int e.q.2]) := by
  induction h with
  | nil => intro i v e; cases e
  | @cons t a vs e es h1 h2 _ ih =>
    intro i v hv
    cases i with
    | zero =>
      cases hv
      exact ⟨t, a, e, rfl, rfl, h1, h2⟩
    | succ i => exact ih hv
def edD (e : Ed) : PyData := .tuple [.str (wordE e), .tuple [.int e.q.1, .int e.q.2]]
theorem Eds.dp {K : PySem.W.Frag} {H : Hp} {us : List V} {es : List Ed} (h : Eds H us es) : DpAll K H us (es.map edD) := by
  induction h with
  | nil => exact .nil
  | cons e ex _ ih => exact .cons (.tup (SqT.of e) (.cons (.str _) (.cons (dp2 ex) .nil))) ih
/-- the attributes of a plan, in the order in which they are stored -/
def flP (a b : Addr) (z : Bool) : List (Str × V) := [("states", .ref a), ("done", .ref b), ("busy", .bl z)]
theorem kSD : ¬ (("states" : Str) = "done") := by decide +kernel
theorem kSB : ¬ (("states" : Str) = "busy") := by decide +kernel
theorem kDB : ¬ (("done" : Str) = "busy") := by decide +kernel
theorem flP_new (a b : Addr) (z : Bool) : putF "busy" (.bl z) (putF "done" (.ref b) (putF "states" (.ref a) [])) = flP a b z := by
  show putF "busy" (.bl z) (if ("states" : Str) = "done" then [(("states" : Str), V.ref b)] else (("states" : Str), V.ref a) :: putF "done" (V.ref b) []) = _
  rw [if_neg kSD]
  show (if ("states" : Str) = "busy" then _ else (("states" : Str), V.ref a) :: (if ("done" : Str) = "busy" then _ else (("done" : Str), V.ref b) :: putF "busy" (V.bl z) [])) = _
  rw [if_neg kSB, if_neg kDB]
  rfl
theorem flP_states (a b a' : Addr) (z : Bool) : putF "states" (.ref a') (flP a b z) = flP a' b z := by
  show (if ("states" : Str) = "states" then _ else _) = _
  rw [if_pos rfl]
  rfl
theorem flP_done (a b b' : Addr) (z : Bool) : putF "done" (.ref b') (flP a b z) = flP a b' z := by
  show (if ("states" : Str) = "done" then _ else (("states" : Str), V.ref a) :: (if ("done" : Str) = "done" then _ else _)) = _
  rw [if_neg kSD, if_pos rfl]
  rfl
theorem lk_states (a b : Addr) (z : Bool) : (flP a b z).lookup ("states" : Str) = some (.ref a) := by rw [← flP_new, lookup_putF, if_neg kSB, lookup_putF, if_neg kSD, lookup_putF, if_pos rfl]
theorem lk_done (a b : Addr) (z : Bool) : (flP a b z).lookup ("done" : Str) = some (.ref b) := by rw [← flP_new, lookup_putF, if_neg kDB, lookup_putF, if_pos rfl]
theorem lk_busy (a b : Addr) (z : Bool) : (flP a b z).lookup ("busy" : Str) = some (.bl z) := by rw [← flP_new, lookup_putF, if_pos rfl]
theorem lk_no (a b : Addr) (z : Bool) {m : Str} (h : (decide (m = "states") || decide (m = "done") || decide (m = "busy")) = false) : (flP a b z).lookup m = none := by
  rw [Bool.or_eq_false_iff, Bool.or_eq_false_iff] at h
  rw [← flP_new, lookup_putF, if_neg (of_decide_eq_false h.2), lookup_putF, if_neg (of_decide_eq_false h.1.2), lookup_putF, if_neg (of_decide_eq_false h.1.1)]
  rfl
/-- a plan stands at p, with the states Ss behind the edits Es -/
structure PlanAt (C : Addr) (H : Hp) (p : Addr) (Ss : List St2) (Es : List Ed) : Prop where
  ex : ∃ dx a b us vs, H p = some (.ins C dx (flP a b false)) ∧ H a = some (.tup us) ∧ Sts H us Ss ∧ H b = some (.tup vs) ∧ Eds H vs Es
  len : Ss.length = Es.length + 1
/-- nothing but p has changed -/
def But (p : Addr) (H H' : Hp) : Prop := ∀ b o, b ≠ p → H b = some o → H' b = some o
theorem But.trans {p : Addr} {H H1 H2 : Hp} (h1 : But p H H1) (h2 : But p H1 H2) : But p H H2 := fun b o n e => h2 b o n (h1 b o n e)
theorem But.same {p : Addr} {H H1 : Hp} (s : Same H H1) : But p H H1 := fun b o _ e => s b o e
theorem But.upd {p : Addr} {H : Hp} {o : HO} : But p H (upd H p o) := fun b u n e => by
  rw [upd_ne n]
  exact e
theorem But.tps {p C dx : Addr} {fs : List (Str × V)} {H H' : Hp} (h : But p H H') (e : H p = some (.ins C dx fs)) : Tps H H' := fun b xs hb => h b _ (ne_of hb e (fun z => by cases z)) hb
theorem PlanAt.tps {C p : Addr} {H H' : Hp} {Ss : List St2} {Es : List Ed} (P : PlanAt C H p Ss Es) (b : But p H H') : Tps H H' := by
  obtain ⟨dx, _, _, _, _, e, _⟩ := P.ex
  exact b.tps e
theorem PlanAt.lst {C p : Addr} {H H' : Hp} {Ss : List St2} {Es : List Ed} (P : PlanAt C H p Ss Es) (b : But p H H') {l : Addr} {us : List V} (h : H l = some (.lst us)) : H' l = some (.lst us) := by
  obtain ⟨dx, _, _, _, _, e, _⟩ := P.ex
  exact b l _ (ne_of h e (fun z => by cases z)) h
/-- carried over a change that keeps the instance and the tuples -/
theorem PlanAt.keep {C p : Addr} {H H' : Hp} {Ss : List St2} {Es : List Ed} (P : PlanAt C H p Ss Es) (t : Tps H H') (k : ∀ C dx fs, H p = some (.ins C dx fs) → H' p = some (.ins C dx fs)) : PlanAt C H' p Ss Es := by
  obtain ⟨⟨dx, a, b, us, vs, e, ea, sa, eb, sb⟩, l⟩ := P
  exact ⟨⟨dx, a, b, us, vs, k _ _ _ e, t _ _ ea, sa.tps t, t _ _ eb, sb.tps t⟩, l⟩
theorem PlanAt.same {C p : Addr} {H H' : Hp} {Ss : List St2} {Es : List Ed} (P : PlanAt C H p Ss Es) (s : Same H H') : PlanAt C H' p Ss Es := P.keep (Tps.same s) fun _ _ _ e => s _ _ e
/-! ### checks of intervals -/
def sp_is_number : Sp := fun vs H Q _ => ∃ i : Int, vs = [.int i] ∧ Q (.bl true) H
theorem ok_is_number (T : Tx K mg f_is_number f_is_position f_is_tuple_of f_is_interval f_ascending_error f_targets_error f_is_pieces f_has_position f_contains f_pieces_inside f_first_gap f_find_missing f_without_item f_with_interval f_without_interval f_edited_state f_depth_changes f_find_blocks f_serves f_conflict f_demands_at_blocks f_is_open f_open_demands f_shadow_target f_require_few_blocks f_decisive_demands f_largest_independent f_unserved_demands f_helpful_piece f_smallest_solution f_count_needed f_solve f_law_deck f_law_draw f_law_line f_law_interval f_law_intervals f_law_served f_law_options f_law_conflict f_law_most f_law_needed f_law_edit f_law_after f_law_do f_law_begun f_law_generated f_law_solution_right f_law f_Plan_init f_Plan_add_target f_Plan_add_piece f_Plan_remove_target f_Plan_remove_piece f_Plan_targets f_Plan_pieces f_Plan_needed f_Plan_solution f_Plan_missing f_Plan_edit f_Plan_record f_Plan_require_idle f_Plan_state_at f_Plan_len f_Plan_str f_Plan_eq C_Plan d_is_number d_is_position d_is_tuple_of d_is_interval d_ascending_error d_targets_error d_is_pieces d_has_position d_contains d_pieces_inside d_first_gap d_find_missing d_without_item d_with_interval d_without_interval d_edited_state d_depth_changes d_find_blocks d_serves d_conflict d_demands_at_blocks d_is_open d_open_demands d_shadow_target d_require_few_blocks d_decisive_demands d_largest_independent d_unserved_demands d_helpful_piece d_smallest_solution d_count_needed d_solve d_law_deck d_law_draw d_law_line d_law_interval d_law_intervals d_law_served d_law_options d_law_conflict d_law_most d_law_needed d_law_edit d_law_after d_law_do d_law_begun d_law_generated d_law_solution_right d_law d_Plan_init d_Plan_add_target d_Plan_add_piece d_Plan_remove_target d_Plan_remove_piece d_Plan_targets d_Plan_pieces d_Plan_needed d_Plan_solution d_Plan_missing d_Plan_edit d_Plan_record d_Plan_require_idle d_Plan_state_at d_Plan_len d_Plan_str d_Plan_eq t_LAST_POSITION t_MAX_TARGETS t_MAX_PIECES t_MAX_BLOCKS t_MAX_EDITS) : FnOk P w K mg base CX0 1 f_is_number d_is_number ["value"] sp_is_number := by
  refine T.F_is_number.ok sc_is_number (fun vs H Q E h => ?_) (fun cdv A outer s H vs Q E hr h => ?_)
  · obtain ⟨i, rfl, _⟩ := h
    rfl
  · obtain ⟨i, rfl, q⟩ := h
    refine ⟨_, (pss_one (ps_ret (pe_and (pe_callB call_isi (by rfl) T.z_isinstance (by decide +kernel) (pa_cons (pv 0) (pa_cons (pe_bltn (v := .ty "int") (u := .type "int") (by rfl) T.z_int (by decide +kernel) rfl) pa_nil))) (pe_one (pe_not (pe_callB call_isi (by rfl) T.z_isinstance (by decide +kernel) (pa_cons (pv 0) (pa_cons (pe_bltn (v := .ty "bool") (u := .type "bool") (by rfl) T.z_bool (by decide +kernel) rfl) pa_nil)))))))), ?_⟩
    refine ⟨.int i, rfl, .int i, .ty "int", _, _, _, rfl, .ty "int", .base (.int i), kit_intI, _, rfl, iteT ?_⟩
    exact ⟨.int i, rfl, .int i, .ty "bool", _, _, _, rfl, .ty "bool", .base (.int i), kit_intB, _, rfl, q⟩
def sp_is_position : Sp := fun vs H Q _ => ∃ i : Int, vs = [.int i] ∧ (0 ≤ i ∧ i ≤ 1000000000000) ∧ Q (.bl true) H
theorem ok_is_position (T : Tx K mg f_is_number f_is_position f_is_tuple_of f_is_interval f_ascending_error f_targets_error f_is_pieces f_has_position f_contains f_pieces_inside f_first_gap f_find_missing f_without_item f_with_interval f_without_interval f_edited_state f_depth_changes f_find_blocks f_serves f_conflict f_demands_at_blocks f_is_open f_open_demands f_shadow_target f_require_few_blocks f_decisive_demands f_largest_independent f_unserved_demands f_helpful_piece f_smallest_solution f_count_needed f_solve f_law_deck f_law_draw f_law_line f_law_interval f_law_intervals f_law_served f_law_options f_law_conflict f_law_most f_law_needed f_law_edit f_law_after f_law_do f_law_begun f_law_generated f_law_solution_right f_law f_Plan_init f_Plan_add_target f_Plan_add_piece f_Plan_remove_target f_Plan_remove_piece f_Plan_targets f_Plan_pieces f_Plan_needed f_Plan_solution f_Plan_missing f_Plan_edit f_Plan_record f_Plan_require_idle f_Plan_state_at f_Plan_len f_Plan_str f_Plan_eq C_Plan d_is_number d_is_position d_is_tuple_of d_is_interval d_ascending_error d_targets_error d_is_pieces d_has_position d_contains d_pieces_inside d_first_gap d_find_missing d_without_item d_with_interval d_without_interval d_edited_state d_depth_changes d_find_blocks d_serves d_conflict d_demands_at_blocks d_is_open d_open_demands d_shadow_target d_require_few_blocks d_decisive_demands d_largest_independent d_unserved_demands d_helpful_piece d_smallest_solution d_count_needed d_solve d_law_deck d_law_draw d_law_line d_law_interval d_law_intervals d_law_served d_law_options d_law_conflict d_law_most d_law_needed d_law_edit d_law_after d_law_do d_law_begun d_law_generated d_law_solution_right d_law d_Plan_init d_Plan_add_target d_Plan_add_piece d_Plan_remove_target d_Plan_remove_piece d_Plan_targets d_Plan_pieces d_Plan_needed d_Plan_solution d_Plan_missing d_Plan_edit d_Plan_record d_Plan_require_idle d_Plan_state_at d_Plan_len d_Plan_str d_Plan_eq t_LAST_POSITION t_MAX_TARGETS t_MAX_PIECES t_MAX_BLOCKS t_MAX_EDITS) : FnOk P w K mg base CX0 2 f_is_position d_is_position ["value"] sp_is_position := by
  refine T.F_is_position.ok sc_is_position (fun vs H Q E h => ?_) (fun cdv A outer s H vs Q E hr h => ?_)
  · obtain ⟨i, rfl, _⟩ := h
    rfl
  · obtain ⟨i, rfl, b, q⟩ := h
    refine ⟨_, (pss_one (ps_ret (pe_and (pe_call (ok_is_number T) (hr.mono (by decide)) (by rfl) T.g_is_number T.F_is_number.kp T.b_is_number .nil pass0 (pa_cons (pv 0) pa_nil)) (pe_one (pe_chain op_le op_le pe_int (pv 0) (pe_glob (v := .int 1000000000000) (by rfl) T.c_LAST_POSITION ⟨_, rfl⟩)))))), ?_⟩
    refine ⟨.int i, rfl, i, rfl, _, rfl, iteT ?_⟩
    refine ⟨.int i, rfl, _, _, rfl, rfl, _, rfl, ?_⟩
    rw [decide_eq_true b.1]
    refine iteT ⟨_, _, rfl, rfl, ?_⟩
    have q' : Q (.bl (decide (i ≤ 1000000000000))) H := by
      rw [decide_eq_true b.2]
      exact q
    exact q'
def sp_is_tuple_of : Sp := fun vs H Q _ => ∃ (a : Addr) (x y : V), vs = [.ref a, .int 2] ∧ H a = some (.tup [x, y]) ∧ Q (.bl true) H
theorem ok_is_tuple_of (T : Tx K mg f_is_number f_is_position f_is_tuple_of f_is_interval f_ascending_error f_targets_error f_is_pieces f_has_position f_contains f_pieces_inside f_first_gap f_find_missing f_without_item f_with_interval f_without_interval f_edited_state f_depth_changes f_find_blocks f_serves f_conflict f_demands_at_blocks f_is_open f_open_demands f_shadow_target f_require_few_blocks f_decisive_demands f_largest_independent f_unserved_demands f_helpful_piece f_smallest_solution f_count_needed f_solve f_law_deck f_law_draw f_law_line f_law_interval f_law_intervals f_law_served f_law_options f_law_conflict f_law_most f_law_needed f_law_edit f_law_after f_law_do f_law_begun f_law_generated f_law_solution_right f_law f_Plan_init f_Plan_add_target f_Plan_add_piece f_Plan_remove_target f_Plan_remove_piece f_Plan_targets f_Plan_pieces f_Plan_needed f_Plan_solution f_Plan_missing f_Plan_edit f_Plan_record f_Plan_require_idle f_Plan_state_at f_Plan_len f_Plan_str f_Plan_eq C_Plan d_is_number d_is_position d_is_tuple_of d_is_interval d_ascending_error d_targets_error d_is_pieces d_has_position d_contains d_pieces_inside d_first_gap d_find_missing d_without_item d_with_interval d_without_interval d_edited_state d_depth_changes d_find_blocks d_serves d_conflict d_demands_at_blocks d_is_open d_open_demands d_shadow_target d_require_few_blocks d_decisive_demands d_largest_independent d_unserved_demands d_helpful_piece d_smallest_solution d_count_needed d_solve d_law_deck d_law_draw d_law_line d_law_interval d_law_intervals d_law_served d_law_options d_law_conflict d_law_most d_law_needed d_law_edit d_law_after d_law_do d_law_begun d_law_generated d_law_solution_right d_law d_Plan_init d_Plan_add_target d_Plan_add_piece d_Plan_remove_target d_Plan_remove_piece d_Plan_targets d_Plan_pieces d_Plan_needed d_Plan_solution d_Plan_missing d_Plan_edit d_Plan_record d_Plan_require_idle d_Plan_state_at d_Plan_len d_Plan_str d_Plan_eq t_LAST_POSITION t_MAX_TARGETS t_MAX_PIECES t_MAX_BLOCKS t_MAX_EDITS) : FnOk P w K mg base CX0 1 f_is_tuple_of d_is_tuple_of ["value", "length"] sp_is_tuple_of := by
  refine T.F_is_tuple_of.ok sc_is_tuple_of (fun vs H Q E h => ?_) (fun cdv A outer s H vs Q E hr h => ?_)
  · obtain ⟨a, x, y, rfl, _⟩ := h
    rfl
  · obtain ⟨a, x, y, rfl, ha, q⟩ := h
    refine ⟨_, (pss_one (ps_ret (pe_and (pe_callB call_isi (by rfl) T.z_isinstance (by decide +kernel) (pa_cons (pv 0) (pa_cons (pe_bltn (v := .ty "tuple") (u := .type "tuple") (by rfl) T.z_tuple (by decide +kernel) rfl) pa_nil))) (pe_one (pe_cmpR op_eq (pe_callB call_len_seq (by rfl) T.z_len PySem.boot_len (pa_cons (pv 0) pa_nil)) (pv 1) (nomark _)))))), ?_⟩
    refine ⟨.ref a, rfl, .ref a, .ty "tuple", _, _, _, rfl, .ty "tuple", .base (.tup ha), kit_tupT, _, rfl, iteT ?_⟩
    exact ⟨.ref a, rfl, a, _, rfl, .inr (SqT.of ha), .int 2, rfl, rfl, q⟩
def sp_is_interval : Sp := fun vs H Q _ => ∃ (a : Addr) (x y : Int), vs = [.ref a] ∧ H a = some (.tup [.int x, .int y]) ∧ ((0 ≤ x ∧ x ≤ y) ∧ y ≤ 1000000000000) ∧ Q (.bl true) H
theorem ok_is_interval (T : Tx K mg f_is_number f_is_position f_is_tuple_of f_is_interval f_ascending_error f_targets_error f_is_pieces f_has_position f_contains f_pieces_inside f_first_gap f_find_missing f_without_item f_with_interval f_without_interval f_edited_state f_depth_changes f_find_blocks f_serves f_conflict f_demands_at_blocks f_is_open f_open_demands f_shadow_target f_require_few_blocks f_decisive_demands f_largest_independent f_unserved_demands f_helpful_piece f_smallest_solution f_count_needed f_solve f_law_deck f_law_draw f_law_line f_law_interval f_law_intervals f_law_served f_law_options f_law_conflict f_law_most f_law_needed f_law_edit f_law_after f_law_do f_law_begun f_law_generated f_law_solution_right f_law f_Plan_init f_Plan_add_target f_Plan_add_piece f_Plan_remove_target f_Plan_remove_piece f_Plan_targets f_Plan_pieces f_Plan_needed f_Plan_solution f_Plan_missing f_Plan_edit f_Plan_record f_Plan_require_idle f_Plan_state_at f_Plan_len f_Plan_str f_Plan_eq C_Plan d_is_number d_is_position d_is_tuple_of d_is_interval d_ascending_error d_targets_error d_is_pieces d_has_position d_contains d_pieces_inside d_first_gap d_find_missing d_without_item d_with_interval d_without_interval d_edited_state d_depth_changes d_find_blocks d_serves d_conflict d_demands_at_blocks d_is_open d_open_demands d_shadow_target d_require_few_blocks d_decisive_demands d_largest_independent d_unserved_demands d_helpful_piece d_smallest_solution d_count_needed d_solve d_law_deck d_law_draw d_law_line d_law_interval d_law_intervals d_law_served d_law_options d_law_conflict d_law_most d_law_needed d_law_edit d_law_after d_law_do d_law_begun d_law_generated d_law_solution_right d_law d_Plan_init d_Plan_add_target d_Plan_add_piece d_Plan_remove_target d_Plan_remove_piece d_Plan_targets d_Plan_pieces d_Plan_needed d_Plan_solution d_Plan_missing d_Plan_edit d_Plan_record d_Plan_require_idle d_Plan_state_at d_Plan_len d_Plan_str d_Plan_eq t_LAST_POSITION t_MAX_TARGETS t_MAX_PIECES t_MAX_BLOCKS t_MAX_EDITS) : FnOk P w K mg base CX0 3 f_is_interval d_is_interval ["value"] sp_is_interval := by
  refine T.F_is_interval.ok sc_is_interval (fun vs H Q E h => ?_) (fun cdv A outer s H vs Q E hr h => ?_)
  · obtain ⟨a, x, y, rfl, _⟩ := h
    rfl
  · obtain ⟨a, x, y, rfl, ha, b, q⟩ := h
    refine ⟨_, (pss_cons (ps_if (pt_not (pt_val (pe_call (ok_is_tuple_of T) (hr.mono (by decide)) (by rfl) T.g_is_tuple_of T.F_is_tuple_of.kp T.b_is_tuple_of .nil pass0 (pa_cons (pv 0) (pa_cons pe_int pa_nil)))))
      (pss_one (ps_ret pe_bl))
      pss_nil)
      (pss_cons (ps_asg (pv 0) (pg_tup rfl (pgs_cons (pg_name (i := 1) sc_is_interval.nd rfl (Or.inl rfl)) (pgs_cons (pg_name (i := 2) sc_is_interval.nd rfl (Or.inl rfl)) pgs_nil))))
      (pss_one (ps_ret (pe_and (pe_call (ok_is_position T) (hr.mono (by decide)) (by rfl) T.g_is_position T.F_is_position.kp T.b_is_position .nil pass0 (pa_cons (pv 1) pa_nil)) (pe_and (pe_call (ok_is_position T) (hr.mono (by decide)) (by rfl) T.g_is_position T.F_is_position.kp T.b_is_position .nil pass0 (pa_cons (pv 2) pa_nil)) (pe_one (pe_cmpR op_le (pv 1) (pv 2) (nomark _))))))))), ?_⟩
    refine ⟨.ref a, rfl, a, .int x, .int y, rfl, ha, _, rfl, iteF ?_⟩
    refine ⟨.ref a, rfl, a, _, rfl, SqT.of ha, rfl, .int x, [.int y], rfl, .int y, [], rfl, rfl, ?_⟩
    refine ⟨.int x, rfl, x, rfl, by omega, _, rfl, iteT ?_⟩
    refine ⟨.int y, rfl, y, rfl, by omega, _, rfl, iteT ?_⟩
    refine ⟨.int x, rfl, .int y, rfl, _, _, rfl, rfl, ?_⟩
    have q' : Q (.bl (decide (x ≤ y))) H := by
      rw [decide_eq_true b.1.2]
      exact q
    exact q'
def sp_asc : Sp := fun vs H Q _ => ∃ (a : Addr) (us : List V) (ps : List (Int × Int)) (n : Nat), vs = [.ref a, .int n] ∧ H a = some (.tup us) ∧ Ivs H us ps ∧ SideOk n ps ∧ n ≤ 30 ∧ ∀ H', Same H H' → Q .non H'
theorem ok_ascending_error (T : Tx K mg f_is_number f_is_position f_is_tuple_of f_is_interval f_ascending_error f_targets_error f_is_pieces f_has_position f_contains f_pieces_inside f_first_gap f_find_missing f_without_item f_with_interval f_without_interval f_edited_state f_depth_changes f_find_blocks f_serves f_conflict f_demands_at_blocks f_is_open f_open_demands f_shadow_target f_require_few_blocks f_decisive_demands f_largest_independent f_unserved_demands f_helpful_piece f_smallest_solution f_count_needed f_solve f_law_deck f_law_draw f_law_line f_law_interval f_law_intervals f_law_served f_law_options f_law_conflict f_law_most f_law_needed f_law_edit f_law_after f_law_do f_law_begun f_law_generated f_law_solution_right f_law f_Plan_init f_Plan_add_target f_Plan_add_piece f_Plan_remove_target f_Plan_remove_piece f_Plan_targets f_Plan_pieces f_Plan_needed f_Plan_solution f_Plan_missing f_Plan_edit f_Plan_record f_Plan_require_idle f_Plan_state_at f_Plan_len f_Plan_str f_Plan_eq C_Plan d_is_number d_is_position d_is_tuple_of d_is_interval d_ascending_error d_targets_error d_is_pieces d_has_position d_contains d_pieces_inside d_first_gap d_find_missing d_without_item d_with_interval d_without_interval d_edited_state d_depth_changes d_find_blocks d_serves d_conflict d_demands_at_blocks d_is_open d_open_demands d_shadow_target d_require_few_blocks d_decisive_demands d_largest_independent d_unserved_demands d_helpful_piece d_smallest_solution d_count_needed d_solve d_law_deck d_law_draw d_law_line d_law_interval d_law_intervals d_law_served d_law_options d_law_conflict d_law_most d_law_needed d_law_edit d_law_after d_law_do d_law_begun d_law_generated d_law_solution_right d_law d_Plan_init d_Plan_add_target d_Plan_add_piece d_Plan_remove_target d_Plan_remove_piece d_Plan_targets d_Plan_pieces d_Plan_needed d_Plan_solution d_Plan_missing d_Plan_edit d_Plan_record d_Plan_require_idle d_Plan_state_at d_Plan_len d_Plan_str d_Plan_eq t_LAST_POSITION t_MAX_TARGETS t_MAX_PIECES t_MAX_BLOCKS t_MAX_EDITS) : FnOk P w K mg base CX0 4 f_ascending_error d_ascending_error ["value", "most"] sp_asc := by
  refine T.F_ascending_error.ok sc_ascending_error (fun vs H Q E h => ?_) (fun cdv A outer s H vs Q E hr h => ?_)
  · obtain ⟨a, us, ps, n, rfl, _⟩ := h
    rfl
  · obtain ⟨a, us, ps, n, rfl, ha, iv, sd, ln, q⟩ := h
    refine ⟨_, (pss_cons (ps_if (PW.pt (pw_or (pt_not (pt_val (pe_callB call_isi (by rfl) T.z_isinstance (by decide +kernel) (pa_cons (pv 0) (pa_cons (pe_bltn (v := .ty "tuple") (u := .type "tuple") (by rfl) T.z_tuple (by decide +kernel) rfl) pa_nil))))) (pw_or1 (pt_cmpR op_gt (pe_callB call_len_seq (by rfl) T.z_len PySem.boot_len (pa_cons (pv 0) pa_nil)) (pv 1) (nomark _)))))
      (pss_one (ps_ret (pe_tup (pa_cons pe_non (pa_cons pe_str pa_nil)))))
      pss_nil)
      (pss_cons (ps_for PassesOwn.never rfl (pi_enumT (by rfl) T.z_enumerate (pa_cons (pv 0) pa_nil)) (pg_tup rfl (pgs_cons (pg_name (i := 2) sc_ascending_error.nd rfl (Or.inl rfl)) (pgs_cons (pg_name (i := 3) sc_ascending_error.nd rfl (Or.inl rfl)) pgs_nil)))
      (pss_cons (ps_if (pt_not (pt_val (pe_call (ok_is_interval T) (hr.mono (by decide)) (by rfl) T.g_is_interval T.F_is_interval.kp T.b_is_interval .nil pass0 (pa_cons (pv 3) pa_nil))))
      (pss_one (ps_ret (pe_tup (pa_cons (pv 2) (pa_cons pe_str pa_nil)))))
      pss_nil)
      (pss_one (ps_if (PW.pt (pw_and (pt_cmpR op_gt (pv 2) pe_int (nomark _)) (pw_and1 (pt_cmpR (op_leT hr.units0) (pv 3) (pe_ix ix_tup (pv 0) (pe_op op_sub (pv 2) pe_int) (fun _ _ => rfl)) (nomark _)))))
      (pss_one (ps_ret (pe_tup (pa_cons (pv 2) (pa_cons pe_str pa_nil)))))
      pss_nil))))
      (pss_one (ps_ret pe_non)))), ?_⟩
    have lu := iv.length
    have few := sd.few
    refine ⟨.ref a, rfl, .ref a, .ty "tuple", _, _, _, rfl, .ty "tuple", .base (.tup ha), kit_tupT, _, rfl, iteF ?_⟩
    refine ⟨.ref a, rfl, a, us, rfl, .inr (SqT.of ha), .int n, rfl, _, _, rfl, rfl, _, rfl, ite2 (fun z => absurd (of_decide_eq_true z) (by omega)) (fun _ => ?_)⟩
    refine ⟨.ref a, rfl, a, us, rfl, SqT.of ha, ?_⟩
    refine for_enumT (K := K) (a := a) (xs := us) (D := ⟨_, _, fun _ _ => True, fun _ _ => True⟩) (fun j σ H' => Same H H' ∧ ∃ y1 y2, σ = [some (.ref a), some (.int n), y1, y2])
      ⟨Same.refl _, _, _, rfl⟩ (fun j σ H' h => SqT.of (h.1 _ _ ha)) ?_ ?_
    · rintro k z TT σ H3 hz ⟨s3, y1, y2, rfl⟩ nT
      obtain ⟨b, x, y, rfl, ep, hb⟩ := iv.get hz
      have sT := same_new (o := .tup [.int (k : Nat), .ref b]) nT
      have eT := upd_same (H := H3) (a := TT) (o := .tup [.int (k : Nat), .ref b])
      generalize upd H3 TT (.tup [.int (k : Nat), .ref b]) = H4 at *
      have s4 := s3.trans sT
      have hb4 := s4 _ _ hb
      have ok := sd.ok _ (List.mem_of_getElem? ep)
      refine ⟨TT, _, rfl, SqT.of eT, rfl, .int (k : Nat), [.ref b], rfl, .ref b, [], rfl, rfl, ?_⟩
      refine ⟨.ref b, rfl, b, x, y, rfl, hb4, ok, _, rfl, iteF ?_⟩
      refine ⟨.int (k : Nat), rfl, _, _, rfl, rfl, _, rfl, ite2 (fun k0 => ?_) (fun _ => ⟨s4, _, _, rfl⟩)⟩
      have k1 := of_decide_eq_true k0
      have zl := (List.getElem?_eq_some_iff.mp hz).1
      have up := List.getElem?_eq_getElem (l := us) (i := k - 1) (by omega)
      obtain ⟨c, u, v, ec, ec2, hc⟩ := iv.get up
      rw [ec] at up
      have lt : ltP (u, v) (x, y) := by
        obtain ⟨z1, w1⟩ := List.getElem?_eq_some_iff.mp ec2
        obtain ⟨z2, w2⟩ := List.getElem?_eq_some_iff.mp ep
        have z := List.pairwise_iff_getElem.mp sd.asc (k - 1) k z1 z2 (by omega)
        rw [w1, w2] at z
        exact z
      refine ⟨.ref b, rfl, .ref a, rfl, .int (k : Nat), rfl, _, _, rfl, rfl, a, us, _, .ref c, rfl, rfl, SqT.of (s4 _ _ ha), (by rw [show (k : Int) - 1 = ((k - 1 : Nat) : Int) by omega]; exact atI_nat up), b, c, [x, y], [u, v], rfl, rfl, SqT.of hb4, SqT.of (s4 _ _ hc), _, rfl, ite2 (fun e => ?_) (fun _ => ⟨s4, _, _, rfl⟩)⟩
      exfalso
      have e : (if decide (x = u) = true then (if decide (y = v) = true then true else decide (y ≤ v)) else decide (x ≤ u)) = true := e
      unfold ltP at lt
      by_cases c1 : x = u
      · rw [if_pos (decide_eq_true c1)] at e
        by_cases c2 : y = v
        · omega
        · rw [if_neg (by rw [decide_eq_false c2]; decide)] at e
          have := of_decide_eq_true e
          omega
      · rw [if_neg (by rw [decide_eq_false c1]; decide)] at e
        have := of_decide_eq_true e
        omega
    · rintro σ H3 ⟨s3, y1, y2, rfl⟩
      exact q H3 s3
def sp_terr : Sp := fun vs H Q _ => ∃ (a : Addr) (us : List V) (ps : List (Int × Int)), vs = [.ref a] ∧ H a = some (.tup us) ∧ Ivs H us ps ∧ SideOk 24 ps ∧ ∀ H', Same H H' → Q .non H'
theorem ok_targets_error (T : Tx K mg f_is_number f_is_position f_is_tuple_of f_is_interval f_ascending_error f_targets_error f_is_pieces f_has_position f_contains f_pieces_inside f_first_gap f_find_missing f_without_item f_with_interval f_without_interval f_edited_state f_depth_changes f_find_blocks f_serves f_conflict f_demands_at_blocks f_is_open f_open_demands f_shadow_target f_require_few_blocks f_decisive_demands f_largest_independent f_unserved_demands f_helpful_piece f_smallest_solution f_count_needed f_solve f_law_deck f_law_draw f_law_line f_law_interval f_law_intervals f_law_served f_law_options f_law_conflict f_law_most f_law_needed f_law_edit f_law_after f_law_do f_law_begun f_law_generated f_law_solution_right f_law f_Plan_init f_Plan_add_target f_Plan_add_piece f_Plan_remove_target f_Plan_remove_piece f_Plan_targets f_Plan_pieces f_Plan_needed f_Plan_solution f_Plan_missing f_Plan_edit f_Plan_record f_Plan_require_idle f_Plan_state_at f_Plan_len f_Plan_str f_Plan_eq C_Plan d_is_number d_is_position d_is_tuple_of d_is_interval d_ascending_error d_targets_error d_is_pieces d_has_position d_contains d_pieces_inside d_first_gap d_find_missing d_without_item d_with_interval d_without_interval d_edited_state d_depth_changes d_find_blocks d_serves d_conflict d_demands_at_blocks d_is_open d_open_demands d_shadow_target d_require_few_blocks d_decisive_demands d_largest_independent d_unserved_demands d_helpful_piece d_smallest_solution d_count_needed d_solve d_law_deck d_law_draw d_law_line d_law_interval d_law_intervals d_law_served d_law_options d_law_conflict d_law_most d_law_needed d_law_edit d_law_after d_law_do d_law_begun d_law_generated d_law_solution_right d_law d_Plan_init d_Plan_add_target d_Plan_add_piece d_Plan_remove_target d_Plan_remove_piece d_Plan_targets d_Plan_pieces d_Plan_needed d_Plan_solution d_Plan_missing d_Plan_edit d_Plan_record d_Plan_require_idle d_Plan_state_at d_Plan_len d_Plan_str d_Plan_eq t_LAST_POSITION t_MAX_TARGETS t_MAX_PIECES t_MAX_BLOCKS t_MAX_EDITS) : FnOk P w K mg base CX0 5 f_targets_error d_targets_error ["value"] sp_terr := by
  refine T.F_targets_error.ok sc_targets_error (fun vs H Q E h => ?_) (fun cdv A outer s H vs Q E hr h => ?_)
  · obtain ⟨a, us, ps, rfl, _⟩ := h
    rfl
  · obtain ⟨a, us, ps, rfl, ha, iv, sd, q⟩ := h
    refine ⟨_, (pss_one (ps_ret (pe_call (ok_ascending_error T) (hr.mono (by decide)) (by rfl) T.g_ascending_error T.F_ascending_error.kp T.b_ascending_error .nil pass0 (pa_cons (pv 0) (pa_cons (pe_glob (v := .int 24) (by rfl) T.c_MAX_TARGETS ⟨_, rfl⟩) pa_nil))))), ?_⟩
    exact ⟨.ref a, rfl, a, us, ps, 24, rfl, ha, iv, sd, by decide, q⟩
def sp_isp : Sp := fun vs H Q _ => ∃ (a : Addr) (us : List V) (ps : List (Int × Int)), vs = [.ref a] ∧ H a = some (.tup us) ∧ Ivs H us ps ∧ SideOk 30 ps ∧ ∀ H', Same H H' → Q (.bl true) H'
theorem ok_is_pieces (T : Tx K mg f_is_number f_is_position f_is_tuple_of f_is_interval f_ascending_error f_targets_error f_is_pieces f_has_position f_contains f_pieces_inside f_first_gap f_find_missing f_without_item f_with_interval f_without_interval f_edited_state f_depth_changes f_find_blocks f_serves f_conflict f_demands_at_blocks f_is_open f_open_demands f_shadow_target f_require_few_blocks f_decisive_demands f_largest_independent f_unserved_demands f_helpful_piece f_smallest_solution f_count_needed f_solve f_law_deck f_law_draw f_law_line f_law_interval f_law_intervals f_law_served f_law_options f_law_conflict f_law_most f_law_needed f_law_edit f_law_after f_law_do f_law_begun f_law_generated f_law_solution_right f_law f_Plan_init f_Plan_add_target f_Plan_add_piece f_Plan_remove_target f_Plan_remove_piece f_Plan_targets f_Plan_pieces f_Plan_needed f_Plan_solution f_Plan_missing f_Plan_edit f_Plan_record f_Plan_require_idle f_Plan_state_at f_Plan_len f_Plan_str f_Plan_eq C_Plan d_is_number d_is_position d_is_tuple_of d_is_interval d_ascending_error d_targets_error d_is_pieces d_has_position d_contains d_pieces_inside d_first_gap d_find_missing d_without_item d_with_interval d_without_interval d_edited_state d_depth_changes d_find_blocks d_serves d_conflict d_demands_at_blocks d_is_open d_open_demands d_shadow_target d_require_few_blocks d_decisive_demands d_largest_independent d_unserved_demands d_helpful_piece d_smallest_solution d_count_needed d_solve d_law_deck d_law_draw d_law_line d_law_interval d_law_intervals d_law_served d_law_options d_law_conflict d_law_most d_law_needed d_law_edit d_law_after d_law_do d_law_begun d_law_generated d_law_solution_right d_law d_Plan_init d_Plan_add_target d_Plan_add_piece d_Plan_remove_target d_Plan_remove_piece d_Plan_targets d_Plan_pieces d_Plan_needed d_Plan_solution d_Plan_missing d_Plan_edit d_Plan_record d_Plan_require_idle d_Plan_state_at d_Plan_len d_Plan_str d_Plan_eq t_LAST_POSITION t_MAX_TARGETS t_MAX_PIECES t_MAX_BLOCKS t_MAX_EDITS) : FnOk P w K mg base CX0 5 f_is_pieces d_is_pieces ["value"] sp_isp := by
  refine T.F_is_pieces.ok sc_is_pieces (fun vs H Q E h => ?_) (fun cdv A outer s H vs Q E hr h => ?_)
  · obtain ⟨a, us, ps, rfl, _⟩ := h
    rfl
  · obtain ⟨a, us, ps, rfl, ha, iv, sd, q⟩ := h
    refine ⟨_, (pss_one (ps_ret (pe_cmpR op_isN (pe_call (ok_ascending_error T) (hr.mono (by decide)) (by rfl) T.g_ascending_error T.F_ascending_error.kp T.b_ascending_error .nil pass0 (pa_cons (pv 0) (pa_cons (pe_glob (v := .int 30) (by rfl) T.c_MAX_PIECES ⟨_, rfl⟩) pa_nil))) pe_non (nomark _)))), ?_⟩
    exact ⟨.ref a, rfl, a, us, ps, 30, rfl, ha, iv, sd, by decide, fun H' s => ⟨rfl, q H' s⟩⟩
/-! ### edits -/
theorem perm_leP_lt {ps ps' : List (Int × Int)} (h : ps'.Pairwise leP) (pm : ps'.Perm ps) (nd : ps.Nodup) : ps'.Pairwise ltP := leP_nd h (pm.nodup_iff.mpr nd)
def sp_with : Sp := fun vs H Q _ => ∃ (a t : Addr) (us : List V) (ps : List (Int × Int)) (x y : Int) (n : Nat), vs = [.ref a, .ref t, .int n] ∧ H a = some (.tup us) ∧ Ivs H us ps ∧ SideOk n ps ∧ n ≤ 30 ∧ H t = some (.tup [.int x, .int y]) ∧ ((0 ≤ x ∧ x ≤ y) ∧ y ≤ 1000000000000) ∧ (x, y) ∉ ps ∧ ps.length < n ∧
  ∀ H' p ws, Same H H' → H' p = some (.tup ws) → Ivs H' ws (insI (x, y) ps) → Q (.ref p) H'
theorem ok_with_interval (T : Tx K mg f_is_number f_is_position f_is_tuple_of f_is_interval f_ascending_error f_targets_error f_is_pieces f_has_position f_contains f_pieces_inside f_first_gap f_find_missing f_without_item f_with_interval f_without_interval f_edited_state f_depth_changes f_find_blocks f_serves f_conflict f_demands_at_blocks f_is_open f_open_demands f_shadow_target f_require_few_blocks f_decisive_demands f_largest_independent f_unserved_demands f_helpful_piece f_smallest_solution f_count_needed f_solve f_law_deck f_law_draw f_law_line f_law_interval f_law_intervals f_law_served f_law_options f_law_conflict f_law_most f_law_needed f_law_edit f_law_after f_law_do f_law_begun f_law_generated f_law_solution_right f_law f_Plan_init f_Plan_add_target f_Plan_add_piece f_Plan_remove_target f_Plan_remove_piece f_Plan_targets f_Plan_pieces f_Plan_needed f_Plan_solution f_Plan_missing f_Plan_edit f_Plan_record f_Plan_require_idle f_Plan_state_at f_Plan_len f_Plan_str f_Plan_eq C_Plan d_is_number d_is_position d_is_tuple_of d_is_interval d_ascending_error d_targets_error d_is_pieces d_has_position d_contains d_pieces_inside d_first_gap d_find_missing d_without_item d_with_interval d_without_interval d_edited_state d_depth_changes d_find_blocks d_serves d_conflict d_demands_at_blocks d_is_open d_open_demands d_shadow_target d_require_few_blocks d_decisive_demands d_largest_independent d_unserved_demands d_helpful_piece d_smallest_solution d_count_needed d_solve d_law_deck d_law_draw d_law_line d_law_interval d_law_intervals d_law_served d_law_options d_law_conflict d_law_most d_law_needed d_law_edit d_law_after d_law_do d_law_begun d_law_generated d_law_solution_right d_law d_Plan_init d_Plan_add_target d_Plan_add_piece d_Plan_remove_target d_Plan_remove_piece d_Plan_targets d_Plan_pieces d_Plan_needed d_Plan_solution d_Plan_missing d_Plan_edit d_Plan_record d_Plan_require_idle d_Plan_state_at d_Plan_len d_Plan_str d_Plan_eq t_LAST_POSITION t_MAX_TARGETS t_MAX_PIECES t_MAX_BLOCKS t_MAX_EDITS) : FnOk P w K mg base CX0 4 f_with_interval d_with_interval ["intervals", "value", "bound"] sp_with := by
  refine T.F_with_interval.ok sc_with_interval (fun vs H Q E h => ?_) (fun cdv A outer s H vs Q E hr h => ?_)
  · obtain ⟨a, t, us, ps, x, y, n, rfl, _⟩ := h
    rfl
  · obtain ⟨a, t, us, ps, x, y, n, rfl, ha, iv, sd, ln, ht, ok, nin, lt, q⟩ := h
    refine ⟨_, (pss_cons (ps_if (pt_not (pt_val (pe_call (ok_is_interval T) (hr.mono (by decide)) (by rfl) T.g_is_interval T.F_is_interval.kp T.b_is_interval .nil pass0 (pa_cons (pv 1) pa_nil))))
      (pss_one ps_never)
      pss_nil)
      (pss_cons (ps_if (pt_cmpR (op_inT (units65 hr)) (pv 1) (pv 0) (by rfl))
      (pss_one ps_never)
      pss_nil)
      (pss_cons (ps_if (pt_cmpR op_ge (pe_callB call_len_seq (by rfl) T.z_len PySem.boot_len (pa_cons (pv 0) pa_nil)) (pv 2) (nomark _))
      (pss_one ps_never)
      pss_nil)
      (pss_one (ps_ret (pe_callTy call_tuple_of (by rfl) T.z_tuple (by decide +kernel) (pa_cons (pe_callB cr_sortTP (by rfl) T.z_sorted (by decide +kernel) (pa_cons (pe_op op_catA (pv 0) (pe_tup (pa_cons (pv 1) pa_nil))) pa_nil)) pa_nil))))))), ?_⟩
    have lu := iv.length
    refine ⟨.ref t, rfl, t, x, y, rfl, ht, ok, _, rfl, iteF ?_⟩
    refine ⟨.ref t, rfl, .ref a, rfl, _, ps.map pairD, dp2 ht, .tup (SqT.of ha) iv.dp, rfl, shaped_pairs _, _, rfl, ?_⟩
    rw [any_pair, decide_eq_false nin]
    refine iteF ?_
    refine ⟨.ref a, rfl, a, us, rfl, .inr (SqT.of ha), .int n, rfl, _, _, rfl, rfl, _, rfl, ite2 (fun z => absurd (of_decide_eq_true z) (by omega)) (fun _ => ?_)⟩
    refine ⟨.ref a, rfl, .ref t, rfl, by show 1 ≤ sizeLine; decide, fun e ne => ?_⟩
    have s1 := same_new (o := .tup [.ref t]) ne
    have ee := upd_same (H := H) (a := e) (o := .tup [.ref t])
    generalize upd H e (.tup [.ref t]) = H1 at *
    refine catA_any (s1 _ _ ha) ee (by rw [show sizeLine = 16777216 by decide]; show us.length + 1 ≤ _; omega) (fun H2 c s2 ec => ?_)
    have s12 := s1.trans s2
    refine ⟨c, _, _, rfl, SqT.of ec, (iv.same s12).append (.cons (s12 _ _ ht) .nil), fun H3 l us' ps' s3 nl el ivl srt pm => ?_⟩
    refine ⟨l, us', rfl, .inl ⟨SqL.of el, fun p np => ?_⟩⟩
    have s4 := same_new (o := .tup us') np
    have nd : (ps ++ [(x, y)]).Nodup := List.nodup_append.mpr ⟨ltP_ndp sd.asc, List.nodup_cons.mpr ⟨(fun h => nomatch h), List.nodup_nil⟩, fun z hz w hw e => nin (by
      rw [List.mem_singleton.mp hw] at e
      exact e ▸ hz)⟩
    have eq : ps' = insI (x, y) ps := ltP_uniq (perm_leP_lt srt pm nd) (asc_insI sd.asc nin) fun z => by
      rw [pm.mem_iff, mem_insI, List.mem_append, List.mem_singleton]
      exact or_comm
    refine q _ p us' ((s12.trans s3).trans s4) upd_same ?_
    rw [← eq]
    exact ivl.same s4
def sp_without : Sp := fun vs H Q _ => ∃ (a t : Addr) (us : List V) (ps : List (Int × Int)) (x y : Int), vs = [.ref a, .ref t] ∧ H a = some (.tup us) ∧ Ivs H us ps ∧ ps.length < 1000 ∧ H t = some (.tup [.int x, .int y]) ∧ ((0 ≤ x ∧ x ≤ y) ∧ y ≤ 1000000000000) ∧ (x, y) ∈ ps ∧
  ∀ H' p ws, Same H H' → H' p = some (.tup ws) → Ivs H' ws (wo ps (x, y)) → Q (.ref p) H'
theorem ok_without_interval (T : Tx K mg f_is_number f_is_position f_is_tuple_of f_is_interval f_ascending_error f_targets_error f_is_pieces f_has_position f_contains f_pieces_inside f_first_gap f_find_missing f_without_item f_with_interval f_without_interval f_edited_state f_depth_changes f_find_blocks f_serves f_conflict f_demands_at_blocks f_is_open f_open_demands f_shadow_target f_require_few_blocks f_decisive_demands f_largest_independent f_unserved_demands f_helpful_piece f_smallest_solution f_count_needed f_solve f_law_deck f_law_draw f_law_line f_law_interval f_law_intervals f_law_served f_law_options f_law_conflict f_law_most f_law_needed f_law_edit f_law_after f_law_do f_law_begun f_law_generated f_law_solution_right f_law f_Plan_init f_Plan_add_target f_Plan_add_piece f_Plan_remove_target f_Plan_remove_piece f_Plan_targets f_Plan_pieces f_Plan_needed f_Plan_solution f_Plan_missing f_Plan_edit f_Plan_record f_Plan_require_idle f_Plan_state_at f_Plan_len f_Plan_str f_Plan_eq C_Plan d_is_number d_is_position d_is_tuple_of d_is_interval d_ascending_error d_targets_error d_is_pieces d_has_position d_contains d_pieces_inside d_first_gap d_find_missing d_without_item d_with_interval d_without_interval d_edited_state d_depth_changes d_find_blocks d_serves d_conflict d_demands_at_blocks d_is_open d_open_demands d_shadow_target d_require_few_blocks d_decisive_demands d_largest_independent d_unserved_demands d_helpful_piece d_smallest_solution d_count_needed d_solve d_law_deck d_law_draw d_law_line d_law_interval d_law_intervals d_law_served d_law_options d_law_conflict d_law_most d_law_needed d_law_edit d_law_after d_law_do d_law_begun d_law_generated d_law_solution_right d_law d_Plan_init d_Plan_add_target d_Plan_add_piece d_Plan_remove_target d_Plan_remove_piece d_Plan_targets d_Plan_pieces d_Plan_needed d_Plan_solution d_Plan_missing d_Plan_edit d_Plan_record d_Plan_require_idle d_Plan_state_at d_Plan_len d_Plan_str d_Plan_eq t_LAST_POSITION t_MAX_TARGETS t_MAX_PIECES t_MAX_BLOCKS t_MAX_EDITS) : FnOk P w K mg base CX0 4 f_without_interval d_without_interval ["intervals", "value"] sp_without := by
  refine T.F_without_interval.ok sc_without_interval (fun vs H Q E h => ?_) (fun cdv A outer s H vs Q E hr h => ?_)
  · obtain ⟨a, t, us, ps, x, y, rfl, _⟩ := h
    rfl
  · obtain ⟨a, t, us, ps, x, y, rfl, ha, iv, few, ht, ok, hin, q⟩ := h
    refine ⟨_, (pss_cons (ps_if (PW.pt (pw_or (pt_not (pt_val (pe_call (ok_is_interval T) (hr.mono (by decide)) (by rfl) T.g_is_interval T.F_is_interval.kp T.b_is_interval .nil pass0 (pa_cons (pv 1) pa_nil)))) (pw_or1 (pt_cmpR (op_notInT (units65 hr)) (pv 1) (pv 0) (by rfl)))))
      (pss_one ps_never)
      pss_nil)
      (pss_one (ps_ret (pe_call (ok_without_item T) (hr.mono (by decide)) (by rfl) T.g_without_item T.F_without_item.kp T.b_without_item .nil pass0 (pa_cons (pv 0) (pa_cons (pv 1) pa_nil)))))), ?_⟩
    refine ⟨.ref t, rfl, t, x, y, rfl, ht, ok, _, rfl, iteF ?_⟩
    refine ⟨.ref t, rfl, .ref a, rfl, _, ps.map pairD, dp2 ht, .tup (SqT.of ha) iv.dp, rfl, shaped_pairs _, _, rfl, ?_⟩
    rw [any_pair, decide_eq_true hin]
    refine iteF ?_
    exact ⟨.ref a, rfl, .ref t, rfl, a, t, us, ps, x, y, rfl, ha, iv, few, ht, q⟩
theorem wneq {a b : Str} (h : a ≠ b) : ¬ (decide (V.str a = V.str b) = true) := fun e => h (V.str.inj (of_decide_eq_true e))
def sp_edited : Sp := fun vs H Q _ => ∃ (s t x y : Addr) (xs ys : List V) (S : St2) (e : Ed), vs = [.ref s, .str (wordE e), .ref t] ∧ H s = some (.tup [.ref x, .ref y]) ∧ H x = some (.tup xs) ∧ Ivs H xs S.1 ∧ H y = some (.tup ys) ∧ Ivs H ys S.2 ∧ StOk S ∧ H t = some (.tup [.int e.q.1, .int e.q.2]) ∧ Can S e ∧
  ∀ H' r x' y' xs' ys', Same H H' → H' r = some (.tup [.ref x', .ref y']) → H' x' = some (.tup xs') → Ivs H' xs' (stepS S e).1 → H' y' = some (.tup ys') → Ivs H' ys' (stepS S e).2 → Q (.ref r) H'
theorem ok_edited_state (T : Tx K mg f_is_number f_is_position f_is_tuple_of f_is_interval f_ascending_error f_targets_error f_is_pieces f_has_position f_contains f_pieces_inside f_first_gap f_find_missing f_without_item f_with_interval f_without_interval f_edited_state f_depth_changes f_find_blocks f_serves f_conflict f_demands_at_blocks f_is_open f_open_demands f_shadow_target f_require_few_blocks f_decisive_demands f_largest_independent f_unserved_demands f_helpful_piece f_smallest_solution f_count_needed f_solve f_law_deck f_law_draw f_law_line f_law_interval f_law_intervals f_law_served f_law_options f_law_conflict f_law_most f_law_needed f_law_edit f_law_after f_law_do f_law_begun f_law_generated f_law_solution_right f_law f_Plan_init f_Plan_add_target f_Plan_add_piece f_Plan_remove_target f_Plan_remove_piece f_Plan_targets f_Plan_pieces f_Plan_needed f_Plan_solution f_Plan_missing f_Plan_edit f_Plan_record f_Plan_require_idle f_Plan_state_at f_Plan_len f_Plan_str f_Plan_eq C_Plan d_is_number d_is_position d_is_tuple_of d_is_interval d_ascending_error d_targets_error d_is_pieces d_has_position d_contains d_pieces_inside d_first_gap d_find_missing d_without_item d_with_interval d_without_interval d_edited_state d_depth_changes d_find_blocks d_serves d_conflict d_demands_at_blocks d_is_open d_open_demands d_shadow_target d_require_few_blocks d_decisive_demands d_largest_independent d_unserved_demands d_helpful_piece d_smallest_solution d_count_needed d_solve d_law_deck d_law_draw d_law_line d_law_interval d_law_intervals d_law_served d_law_options d_law_conflict d_law_most d_law_needed d_law_edit d_law_after d_law_do d_law_begun d_law_generated d_law_solution_right d_law d_Plan_init d_Plan_add_target d_Plan_add_piece d_Plan_remove_target d_Plan_remove_piece d_Plan_targets d_Plan_pieces d_Plan_needed d_Plan_solution d_Plan_missing d_Plan_edit d_Plan_record d_Plan_require_idle d_Plan_state_at d_Plan_len d_Plan_str d_Plan_eq t_LAST_POSITION t_MAX_TARGETS t_MAX_PIECES t_MAX_BLOCKS t_MAX_EDITS) : FnOk P w K mg base CX0 5 f_edited_state d_edited_state ["state", "word", "value"] sp_edited := by
  refine T.F_edited_state.ok sc_edited_state (fun vs H Q E h => ?_) (fun cdv A outer s H vs Q E hr h => ?_)
  · obtain ⟨s, t, x, y, xs, ys, S, e, rfl, _⟩ := h
    rfl
  · obtain ⟨s, t, x, y, xs, ys, S, e, rfl, hs, hx, ix, hy, iy, so, ht, can, q⟩ := h
    refine ⟨_, (pss_cons (ps_asg (pv 0) (pg_tup rfl (pgs_cons (pg_name (i := 3) sc_edited_state.nd rfl (Or.inl rfl)) (pgs_cons (pg_name (i := 4) sc_edited_state.nd rfl (Or.inl rfl)) pgs_nil))))
      (pss_cons (ps_if (pt_cmpR op_eq (pv 1) pe_str (nomark _))
      (pss_one (ps_ret (pe_tup (pa_cons (pe_call (ok_with_interval T) (hr.mono (by decide)) (by rfl) T.g_with_interval T.F_with_interval.kp T.b_with_interval .nil pass0 (pa_cons (pv 3) (pa_cons (pv 2) (pa_cons (pe_glob (v := .int 24) (by rfl) T.c_MAX_TARGETS ⟨_, rfl⟩) pa_nil)))) (pa_cons (pv 4) pa_nil)))))
      pss_nil)
      (pss_cons (ps_if (pt_cmpR op_eq (pv 1) pe_str (nomark _))
      (pss_one (ps_ret (pe_tup (pa_cons (pv 3) (pa_cons (pe_call (ok_with_interval T) (hr.mono (by decide)) (by rfl) T.g_with_interval T.F_with_interval.kp T.b_with_interval .nil pass0 (pa_cons (pv 4) (pa_cons (pv 2) (pa_cons (pe_glob (v := .int 30) (by rfl) T.c_MAX_PIECES ⟨_, rfl⟩) pa_nil)))) pa_nil)))))
      pss_nil)
      (pss_cons (ps_if (pt_cmpR op_eq (pv 1) pe_str (nomark _))
      (pss_one (ps_ret (pe_tup (pa_cons (pe_call (ok_without_interval T) (hr.mono (by decide)) (by rfl) T.g_without_interval T.F_without_interval.kp T.b_without_interval .nil pass0 (pa_cons (pv 3) (pa_cons (pv 2) pa_nil))) (pa_cons (pv 4) pa_nil)))))
      pss_nil)
      (pss_one (ps_ret (pe_tup (pa_cons (pv 3) (pa_cons (pe_call (ok_without_interval T) (hr.mono (by decide)) (by rfl) T.g_without_interval T.F_without_interval.kp T.b_without_interval .nil pass0 (pa_cons (pv 4) (pa_cons (pv 2) pa_nil))) pa_nil))))))))), ?_⟩
    refine ⟨.ref s, rfl, s, _, rfl, SqT.of hs, rfl, .ref x, [.ref y], rfl, .ref y, [], rfl, rfl, ?_⟩
    obtain ⟨add, pc, qq⟩ := e
    have ft := so.t.few
    have fp := so.p.few
    have w1 : ¬ (("add_piece" : Str) = "add_target") := by decide +kernel
    have w2 : ¬ (("remove_target" : Str) = "add_target") := by decide +kernel
    have w3 : ¬ (("remove_piece" : Str) = "add_target") := by decide +kernel
    have w4 : ¬ (("remove_target" : Str) = "add_piece") := by decide +kernel
    have w5 : ¬ (("remove_piece" : Str) = "add_piece") := by decide +kernel
    have w6 : ¬ (("remove_piece" : Str) = "remove_target") := by decide +kernel
    cases add with
    | true =>
      have no := can.no rfl
      cases pc with
      | false =>
        refine ⟨_, rfl, rfl, _, rfl, ite2 (fun _ => ?_) (fun z => absurd (decide_eq_true rfl) z)⟩
        refine ⟨.ref x, rfl, .ref t, rfl, x, t, xs, S.1, qq.1, qq.2, 24, rfl, hx, ix, so.t, by decide, ht, can.ok, no.1, no.2, fun H1 p ws s1 ep iv => ?_⟩
        refine ⟨.ref y, rfl, by show 2 ≤ sizeLine; decide, fun r nr => ?_⟩
        have s2 := same_new (o := .tup [.ref p, .ref y]) nr
        have s12 := s1.trans s2
        exact q _ r p y ws ys s12 upd_same (s2 _ _ ep) (iv.same s2) (s12 _ _ hy) (iy.same s12)
      | true =>
        refine ⟨_, rfl, rfl, _, rfl, ite2 (fun z => absurd z (wneq w1)) (fun _ => ?_)⟩
        refine ⟨_, rfl, rfl, _, rfl, ite2 (fun _ => ?_) (fun z => absurd (decide_eq_true rfl) z)⟩
        refine ⟨.ref x, rfl, .ref y, rfl, .ref t, rfl, y, t, ys, S.2, qq.1, qq.2, 30, rfl, hy, iy, so.p, by decide, ht, can.ok, no.1, no.2, fun H1 p ws s1 ep iv => ?_⟩
        refine ⟨by show 2 ≤ sizeLine; decide, fun r nr => ?_⟩
        have s2 := same_new (o := .tup [.ref x, .ref p]) nr
        have s12 := s1.trans s2
        exact q _ r x p xs ws s12 upd_same (s12 _ _ hx) (ix.same s12) (s2 _ _ ep) (iv.same s2)
    | false =>
      have yes := can.yes rfl
      cases pc with
      | false =>
        refine ⟨_, rfl, rfl, _, rfl, ite2 (fun z => absurd z (wneq w2)) (fun _ => ?_)⟩
        refine ⟨_, rfl, rfl, _, rfl, ite2 (fun z => absurd z (wneq w4)) (fun _ => ?_)⟩
        refine ⟨_, rfl, rfl, _, rfl, ite2 (fun _ => ?_) (fun z => absurd (decide_eq_true rfl) z)⟩
        refine ⟨.ref x, rfl, .ref t, rfl, x, t, xs, S.1, qq.1, qq.2, rfl, hx, ix, by omega, ht, can.ok, yes, fun H1 p ws s1 ep iv => ?_⟩
        refine ⟨.ref y, rfl, by show 2 ≤ sizeLine; decide, fun r nr => ?_⟩
        have s2 := same_new (o := .tup [.ref p, .ref y]) nr
        have s12 := s1.trans s2
        exact q _ r p y ws ys s12 upd_same (s2 _ _ ep) (iv.same s2) (s12 _ _ hy) (iy.same s12)
      | true =>
        refine ⟨_, rfl, rfl, _, rfl, ite2 (fun z => absurd z (wneq w3)) (fun _ => ?_)⟩
        refine ⟨_, rfl, rfl, _, rfl, ite2 (fun z => absurd z (wneq w5)) (fun _ => ?_)⟩
        refine ⟨_, rfl, rfl, _, rfl, ite2 (fun z => absurd z (wneq w6)) (fun _ => ?_)⟩
        refine ⟨.ref x, rfl, .ref y, rfl, .ref t, rfl, y, t, ys, S.2, qq.1, qq.2, rfl, hy, iy, by omega, ht, can.ok, yes, fun H1 p ws s1 ep iv => ?_⟩
        refine ⟨by show 2 ≤ sizeLine; decide, fun r nr => ?_⟩
        have s2 := same_new (o := .tup [.ref x, .ref p]) nr
        have s12 := s1.trans s2
        exact q _ r x p xs ws s12 upd_same (s12 _ _ hx) (ix.same s12) (s2 _ _ ep) (iv.same s2)
/-! ### the methods -/
def sp_init (C : Addr) : Sp := fun vs H Q _ => ∃ (p dx x y : Addr) (xs ys : List V) (S : St2), vs = [.ref p, .ref x, .ref y] ∧ H p = some (.ins C dx []) ∧ H x = some (.tup xs) ∧ Ivs H xs S.1 ∧ H y = some (.tup ys) ∧ Ivs H ys S.2 ∧ StOk S ∧
  ∀ H', But p H H' → PlanAt C H' p [S] [] → Q .non H'
theorem ok_Plan_init (T : Tx K mg f_is_number f_is_position f_is_tuple_of f_is_interval f_ascending_error f_targets_error f_is_pieces f_has_position f_contains f_pieces_inside f_first_gap f_find_missing f_without_item f_with_interval f_without_interval f_edited_state f_depth_changes f_find_blocks f_serves f_conflict f_demands_at_blocks f_is_open f_open_demands f_shadow_target f_require_few_blocks f_decisive_demands f_largest_independent f_unserved_demands f_helpful_piece f_smallest_solution f_count_needed f_solve f_law_deck f_law_draw f_law_line f_law_interval f_law_intervals f_law_served f_law_options f_law_conflict f_law_most f_law_needed f_law_edit f_law_after f_law_do f_law_begun f_law_generated f_law_solution_right f_law f_Plan_init f_Plan_add_target f_Plan_add_piece f_Plan_remove_target f_Plan_remove_piece f_Plan_targets f_Plan_pieces f_Plan_needed f_Plan_solution f_Plan_missing f_Plan_edit f_Plan_record f_Plan_require_idle f_Plan_state_at f_Plan_len f_Plan_str f_Plan_eq C_Plan d_is_number d_is_position d_is_tuple_of d_is_interval d_ascending_error d_targets_error d_is_pieces d_has_position d_contains d_pieces_inside d_first_gap d_find_missing d_without_item d_with_interval d_without_interval d_edited_state d_depth_changes d_find_blocks d_serves d_conflict d_demands_at_blocks d_is_open d_open_demands d_shadow_target d_require_few_blocks d_decisive_demands d_largest_independent d_unserved_demands d_helpful_piece d_smallest_solution d_count_needed d_solve d_law_deck d_law_draw d_law_line d_law_interval d_law_intervals d_law_served d_law_options d_law_conflict d_law_most d_law_needed d_law_edit d_law_after d_law_do d_law_begun d_law_generated d_law_solution_right d_law d_Plan_init d_Plan_add_target d_Plan_add_piece d_Plan_remove_target d_Plan_remove_piece d_Plan_targets d_Plan_pieces d_Plan_needed d_Plan_solution d_Plan_missing d_Plan_edit d_Plan_record d_Plan_require_idle d_Plan_state_at d_Plan_len d_Plan_str d_Plan_eq t_LAST_POSITION t_MAX_TARGETS t_MAX_PIECES t_MAX_BLOCKS t_MAX_EDITS) : FnOk P w K mg base CX0 6 f_Plan_init d_Plan_init ["self", "targets", "pieces"] (sp_init C_Plan) := by
  refine T.F_Plan_init.ok sc_Plan_init (fun vs H Q E h => ?_) (fun cdv A outer s H vs Q E hr h => ?_)
  · obtain ⟨p, dx, x, y, xs, ys, S, rfl, _⟩ := h
    rfl
  · obtain ⟨p, dx, x, y, xs, ys, S, rfl, hp, hx, ix, hy, iy, so, q⟩ := h
    refine ⟨_, (pss_cons (ps_set (i := 3) sc_Plan_init.nd rfl (Or.inl rfl) (pe_call (ok_targets_error T) (hr.mono (by decide)) (by rfl) T.g_targets_error T.F_targets_error.kp T.b_targets_error .nil pass0 (pa_cons (pv 1) pa_nil)))
      (pss_cons (ps_if (pt_cmpR op_notN (pv 3) pe_non (nomark _))
      (pss_one ps_never)
      pss_nil)
      (pss_cons (ps_if (pt_not (pt_val (pe_call (ok_is_pieces T) (hr.mono (by decide)) (by rfl) T.g_is_pieces T.F_is_pieces.kp T.b_is_pieces .nil pass0 (pa_cons (pv 2) pa_nil))))
      (pss_one ps_never)
      pss_nil)
      (pss_cons (ps_fld (pv 0) (pe_tup (pa_cons (pe_tup (pa_cons (pv 1) (pa_cons (pv 2) pa_nil))) pa_nil)) rfl)
      (pss_cons (ps_fld (pv 0) (pe_tup pa_nil) rfl)
      (pss_one (ps_fld (pv 0) pe_bl rfl))))))), ?_⟩
    refine ⟨.ref x, rfl, x, xs, S.1, rfl, hx, ix, so.t, fun H1 s1 => ?_⟩
    refine ⟨_, rfl, rfl, _, rfl, iteNS rfl ?_⟩
    refine ⟨.ref y, rfl, y, ys, S.2, rfl, s1 _ _ hy, iy.same s1, so.p, fun H2 s2 => ⟨_, rfl, iteF ?_⟩⟩
    have s12 := s1.trans s2
    refine ⟨.ref x, rfl, .ref y, rfl, by show 2 ≤ sizeLine; decide, fun t nt => ?_⟩
    have s3 := same_new (o := .tup [.ref x, .ref y]) nt
    have et := upd_same (H := H2) (a := t) (o := .tup [.ref x, .ref y])
    generalize upd H2 t (.tup [.ref x, .ref y]) = H3 at *
    refine ⟨by show 1 ≤ sizeLine; decide, fun a na => ?_⟩
    have s4 := same_new (o := .tup [.ref t]) na
    have ea := upd_same (H := H3) (a := a) (o := .tup [.ref t])
    generalize upd H3 a (.tup [.ref t]) = H4 at *
    have s24 := s3.trans s4
    have s14 := s12.trans s24
    have hp4 := s14 _ _ hp
    refine ⟨.ref p, rfl, p, C_Plan, dx, [], rfl, hp4, T.cl_Plan, T.n_Plan_states, by show 0 < 1000; decide, ?_⟩
    refine ⟨by show 0 ≤ sizeLine; decide, fun b nb => ?_⟩
    have nbp : b ≠ p := fun e => by
      rw [e, upd_same] at nb
      cases nb
    refine ⟨.ref p, rfl, p, C_Plan, dx, _, rfl, by rw [upd_ne nbp.symm, upd_same], T.cl_Plan, T.n_Plan_done, by show 1 < 1000; decide, ?_⟩
    refine ⟨.ref p, rfl, p, C_Plan, dx, _, rfl, upd_same, T.cl_Plan, T.n_Plan_busy, by rw [show putF "done" (V.ref b) (putF "states" (V.ref a) []) = [(("states" : Str), V.ref a), ("done", V.ref b)] from if_neg kSD]; show 2 < 1000; decide, ?_⟩
    rw [flP_new]
    have nb4 : H4 b = none := by
      rw [upd_ne nbp] at nb
      exact nb
    have fin : ∀ {c : Addr} {o : HO}, c ≠ p → H4 c = some o → upd (upd (upd (upd H4 p (.ins C_Plan dx (putF "states" (.ref a) []))) b (.tup [])) p (.ins C_Plan dx (putF "done" (.ref b) (putF "states" (.ref a) [])))) p (.ins C_Plan dx (flP a b false)) c = some o := fun {c o} n e => by
      rw [upd_ne n, upd_ne n, upd_ne (ne_of_none e nb4), upd_ne n]
      exact e
    have tp : Tps H4 (upd (upd (upd (upd H4 p (.ins C_Plan dx (putF "states" (.ref a) []))) b (.tup [])) p (.ins C_Plan dx (putF "done" (.ref b) (putF "states" (.ref a) [])))) p (.ins C_Plan dx (flP a b false))) := fun c us e => fin (ne_of e hp4 (fun z => by cases z)) e
    refine q _ (fun c o n e => fin n (s14 _ _ e)) ⟨⟨dx, a, b, _, _, upd_same, tp _ _ ea, ?_, by rw [upd_ne nbp, upd_ne nbp, upd_same], .nil⟩, rfl⟩
    exact .cons (tp _ _ (s4 _ _ et)) (tp _ _ (s14 _ _ hx)) ((ix.same s14).tps tp) (tp _ _ (s14 _ _ hy)) ((iy.same s14).tps tp) .nil
def sp_idle (C : Addr) : Sp := fun vs H Q _ => ∃ (p dx a b : Addr), vs = [.ref p] ∧ H p = some (.ins C dx (flP a b false)) ∧ Q .non H
theorem ok_Plan_require_idle (T : Tx K mg f_is_number f_is_position f_is_tuple_of f_is_interval f_ascending_error f_targets_error f_is_pieces f_has_position f_contains f_pieces_inside f_first_gap f_find_missing f_without_item f_with_interval f_without_interval f_edited_state f_depth_changes f_find_blocks f_serves f_conflict f_demands_at_blocks f_is_open f_open_demands f_shadow_target f_require_few_blocks f_decisive_demands f_largest_independent f_unserved_demands f_helpful_piece f_smallest_solution f_count_needed f_solve f_law_deck f_law_draw f_law_line f_law_interval f_law_intervals f_law_served f_law_options f_law_conflict f_law_most f_law_needed f_law_edit f_law_after f_law_do f_law_begun f_law_generated f_law_solution_right f_law f_Plan_init f_Plan_add_target f_Plan_add_piece f_Plan_remove_target f_Plan_remove_piece f_Plan_targets f_Plan_pieces f_Plan_needed f_Plan_solution f_Plan_missing f_Plan_edit f_Plan_record f_Plan_require_idle f_Plan_state_at f_Plan_len f_Plan_str f_Plan_eq C_Plan d_is_number d_is_position d_is_tuple_of d_is_interval d_ascending_error d_targets_error d_is_pieces d_has_position d_contains d_pieces_inside d_first_gap d_find_missing d_without_item d_with_interval d_without_interval d_edited_state d_depth_changes d_find_blocks d_serves d_conflict d_demands_at_blocks d_is_open d_open_demands d_shadow_target d_require_few_blocks d_decisive_demands d_largest_independent d_unserved_demands d_helpful_piece d_smallest_solution d_count_needed d_solve d_law_deck d_law_draw d_law_line d_law_interval d_law_intervals d_law_served d_law_options d_law_conflict d_law_most d_law_needed d_law_edit d_law_after d_law_do d_law_begun d_law_generated d_law_solution_right d_law d_Plan_init d_Plan_add_target d_Plan_add_piece d_Plan_remove_target d_Plan_remove_piece d_Plan_targets d_Plan_pieces d_Plan_needed d_Plan_solution d_Plan_missing d_Plan_edit d_Plan_record d_Plan_require_idle d_Plan_state_at d_Plan_len d_Plan_str d_Plan_eq t_LAST_POSITION t_MAX_TARGETS t_MAX_PIECES t_MAX_BLOCKS t_MAX_EDITS) : FnOk P w K mg base CX0 1 f_Plan_require_idle d_Plan_require_idle ["self"] (sp_idle C_Plan) := by
  refine T.F_Plan_require_idle.ok sc_Plan_require_idle (fun vs H Q E h => ?_) (fun cdv A outer s H vs Q E hr h => ?_)
  · obtain ⟨p, dx, a, b, rfl, _⟩ := h
    rfl
  · obtain ⟨p, dx, a, b, rfl, hp, q⟩ := h
    refine ⟨_, (pss_one (ps_if (pt_val (pe_fld (pv 0) rfl))
      (pss_one ps_never)
      pss_nil)), ?_⟩
    exact ⟨.ref p, rfl, p, C_Plan, dx, _, _, rfl, hp, T.cl_Plan, T.n_Plan_busy, lk_busy _ _ _, _, rfl, iteF q⟩
def sp_edit (C : Addr) (R : Nat → V) (ws : Ed → List V) : Sp := fun vs H Q _ => ∃ (p t : Addr) (Ls : List St2) (S : St2) (Es : List Ed) (e : Ed), vs = (.ref p :: ws e) ++ [.ref t] ∧ PlanAt C H p (Ls ++ [S]) Es ∧ Es.length < 60 ∧ StOk S ∧ H t = some (.tup [.int e.q.1, .int e.q.2]) ∧ Can S e ∧
  ∀ H', But p H H' → PlanAt C H' p (Ls ++ [S] ++ [stepS S e]) (Es ++ [e]) → Q (R (Es.length + 1)) H'
def wE (e : Ed) : List V := [.str (wordE e)]
def sp_record (C : Addr) : Sp := sp_edit C (fun _ => .non) wE
theorem ok_Plan_record (T : Tx K mg f_is_number f_is_position f_is_tuple_of f_is_interval f_ascending_error f_targets_error f_is_pieces f_has_position f_contains f_pieces_inside f_first_gap f_find_missing f_without_item f_with_interval f_without_interval f_edited_state f_depth_changes f_find_blocks f_serves f_conflict f_demands_at_blocks f_is_open f_open_demands f_shadow_target f_require_few_blocks f_decisive_demands f_largest_independent f_unserved_demands f_helpful_piece f_smallest_solution f_count_needed f_solve f_law_deck f_law_draw f_law_line f_law_interval f_law_intervals f_law_served f_law_options f_law_conflict f_law_most f_law_needed f_law_edit f_law_after f_law_do f_law_begun f_law_generated f_law_solution_right f_law f_Plan_init f_Plan_add_target f_Plan_add_piece f_Plan_remove_target f_Plan_remove_piece f_Plan_targets f_Plan_pieces f_Plan_needed f_Plan_solution f_Plan_missing f_Plan_edit f_Plan_record f_Plan_require_idle f_Plan_state_at f_Plan_len f_Plan_str f_Plan_eq C_Plan d_is_number d_is_position d_is_tuple_of d_is_interval d_ascending_error d_targets_error d_is_pieces d_has_position d_contains d_pieces_inside d_first_gap d_find_missing d_without_item d_with_interval d_without_interval d_edited_state d_depth_changes d_find_blocks d_serves d_conflict d_demands_at_blocks d_is_open d_open_demands d_shadow_target d_require_few_blocks d_decisive_demands d_largest_independent d_unserved_demands d_helpful_piece d_smallest_solution d_count_needed d_solve d_law_deck d_law_draw d_law_line d_law_interval d_law_intervals d_law_served d_law_options d_law_conflict d_law_most d_law_needed d_law_edit d_law_after d_law_do d_law_begun d_law_generated d_law_solution_right d_law d_Plan_init d_Plan_add_target d_Plan_add_piece d_Plan_remove_target d_Plan_remove_piece d_Plan_targets d_Plan_pieces d_Plan_needed d_Plan_solution d_Plan_missing d_Plan_edit d_Plan_record d_Plan_require_idle d_Plan_state_at d_Plan_len d_Plan_str d_Plan_eq t_LAST_POSITION t_MAX_TARGETS t_MAX_PIECES t_MAX_BLOCKS t_MAX_EDITS) : FnOk P w K mg base CX0 6 f_Plan_record d_Plan_record ["self", "word", "value"] (sp_record C_Plan) := by
  refine T.F_Plan_record.ok sc_Plan_record (fun vs H Q E h => ?_) (fun cdv A outer s H vs Q E hr h => ?_)
  · obtain ⟨p, t, Ls, S, Es, e, rfl, _⟩ := h
    rfl
  · obtain ⟨p, t, Ls, S, Es, e, rfl, P, few, so, ht, can, q⟩ := h
    refine ⟨_, (pss_cons (ps_if (pt_cmpR op_ge (pe_callB call_len_seq (by rfl) T.z_len PySem.boot_len (pa_cons (pe_fld (pv 0) rfl) pa_nil)) (pe_glob (v := .int 60) (by rfl) T.c_MAX_EDITS ⟨_, rfl⟩) (nomark _))
      (pss_one ps_never)
      pss_nil)
      (pss_cons (ps_set (i := 3) sc_Plan_record.nd rfl (Or.inl rfl) (pe_call (ok_edited_state T) (hr.mono (by decide)) (by rfl) T.g_edited_state T.F_edited_state.kp T.b_edited_state .nil pass0 (pa_cons (pe_ix ix_tup (pe_fld (pv 0) rfl) (pe_un un_neg pe_int) (fun _ _ => rfl)) (pa_cons (pv 1) (pa_cons (pv 2) pa_nil)))))
      (pss_cons (ps_fldaug (pv 0) (pe_tup (pa_cons (pv 3) pa_nil)) in_catA)
      (pss_one (ps_fldaug (pv 0) (pe_tup (pa_cons (pe_tup (pa_cons (pv 1) (pa_cons (pv 2) pa_nil))) pa_nil)) in_catA))))), ?_⟩
    obtain ⟨⟨dx, a, b, us, vs, hp, ha, sts, hb, eds⟩, pl⟩ := id P
    have lv := eds.length
    have lu := sts.length
    refine ⟨.ref p, rfl, p, C_Plan, dx, _, _, rfl, hp, T.cl_Plan, T.n_Plan_done, lk_done _ _ _, b, vs, rfl, .inr (SqT.of hb), _, _, rfl, rfl, _, rfl, ite2 (fun z => absurd (of_decide_eq_true z) (by omega)) (fun _ => ?_)⟩
    rw [List.length_append] at lu pl
    obtain ⟨s, x, y, xs, ys, eu, hs, hx, ix, hy, iy⟩ := sts.get (i := Ls.length) (S := S) (by rw [List.getElem?_append_right (Nat.le_refl _), Nat.sub_self]; rfl)
    have lu : us.length = Ls.length + 1 := lu
    refine ⟨.ref p, rfl, p, C_Plan, dx, _, _, rfl, hp, T.cl_Plan, T.n_Plan_states, lk_states _ _ _, 1, rfl, a, us, -1, .ref s, rfl, rfl, SqT.of ha, atI_end (by rw [lu]; exact eu), _, rfl, .ref t, rfl, ?_⟩
    refine ⟨s, t, x, y, xs, ys, S, e, rfl, hs, hx, ix, hy, iy, so, ht, can, fun H1 r x' y' xs' ys' s1 er ex' ix' ey' iy' => ?_⟩
    refine ⟨.ref p, rfl, p, C_Plan, dx, _, _, rfl, s1 _ _ hp, T.cl_Plan, T.n_Plan_states, lk_states _ _ _, .ref r, rfl, by show 1 ≤ sizeLine; decide, fun u nu => ?_⟩
    have s2 := same_new (o := .tup [.ref r]) nu
    have eu2 := upd_same (H := H1) (a := u) (o := .tup [.ref r])
    generalize upd H1 u (.tup [.ref r]) = H2 at *
    have s12 := s1.trans s2
    refine catA_any (s12 _ _ ha) eu2 (by rw [show sizeLine = 16777216 by decide]; show us.length + 1 ≤ _; omega) (fun H3 a2 s3 ea2 => ?_)
    have s13 := s12.trans s3
    refine ⟨dx, _, s13 _ _ hp, by show 3 < 1000; decide, ?_⟩
    rw [flP_states]
    have np3 : ∀ {c : Addr} {xs : List V}, H3 c = some (.tup xs) → c ≠ p := fun {c xs} h => ne_of h (s13 _ _ hp) (fun z => by cases z)
    generalize eH4 : upd H3 p (.ins C_Plan dx (flP a2 b false)) = H4
    have t4 : Tps H3 H4 := fun c xs h => by
      rw [← eH4, upd_ne (np3 h)]
      exact h
    have b4 : But p H3 H4 := eH4 ▸ But.upd
    have hp4 : H4 p = some (.ins C_Plan dx (flP a2 b false)) := by rw [← eH4, upd_same]
    refine ⟨.ref p, rfl, p, C_Plan, dx, _, _, rfl, hp4, T.cl_Plan, T.n_Plan_done, lk_done _ _ _, _, rfl, .ref t, rfl, by show 2 ≤ sizeLine; decide, fun w nw => ?_⟩
    have s5 := same_new (o := .tup [.str (wordE e), .ref t]) nw
    have ew := upd_same (H := H4) (a := w) (o := .tup [.str (wordE e), .ref t])
    generalize upd H4 w (.tup [.str (wordE e), .ref t]) = H5 at *
    refine ⟨by show 1 ≤ sizeLine; decide, fun w2 nw2 => ?_⟩
    have s6 := same_new (o := .tup [.ref w]) nw2
    have ew2 := upd_same (H := H5) (a := w2) (o := .tup [.ref w])
    generalize upd H5 w2 (.tup [.ref w]) = H6 at *
    have s46 := s5.trans s6
    have hb6 := s46 _ _ (t4 _ _ (s13 _ _ hb))
    refine catA_any hb6 ew2 (by rw [show sizeLine = 16777216 by decide]; show vs.length + 1 ≤ _; omega) (fun H7 b2 s7 eb2 => ?_)
    have s47 := s46.trans s7
    refine ⟨dx, _, s47 _ _ hp4, by show 3 < 1000; decide, ?_⟩
    rw [flP_done]
    have t7 : Tps H7 (upd H7 p (.ins C_Plan dx (flP a2 b2 false))) := fun c xs h => by
      rw [upd_ne (ne_of h (s47 _ _ hp4) (fun z => by cases z))]
      exact h
    have t37 : Tps H3 H7 := t4.trans (Tps.same s47)
    have t17 : Tps H1 H7 := (Tps.same (s2.trans s3)).trans t37
    have t07 : Tps H H7 := (Tps.same s1).trans t17
    refine q _ ((But.same s13).trans (b4.trans ((But.same s47).trans But.upd))) ⟨⟨dx, a2, b2, _, _, upd_same, t7 _ _ (t37 _ _ ea2), (sts.tps (t07.trans t7)).snoc (t7 _ _ (t17 _ _ er)) (t7 _ _ (t17 _ _ ex')) (ix'.tps (t17.trans t7)) (t7 _ _ (t17 _ _ ey')) (iy'.tps (t17.trans t7)), t7 _ _ eb2, (eds.tps (t07.trans t7)).snoc (t7 _ _ (s7 _ _ (s6 _ _ ew))) (t7 _ _ (t07 _ _ ht))⟩, ?_⟩
    rw [List.length_append, List.length_append, List.length_append, show [stepS S e].length = 1 from rfl, show [S].length = 1 from rfl, show [e].length = 1 from rfl]
    have pl : Ls.length + 1 = Es.length + 1 := pl
    omega
def sp_Plan_edit (C : Addr) : Sp := sp_edit C (fun n => .int n) wE
theorem ok_Plan_edit (T : Tx K mg f_is_number f_is_position f_is_tuple_of f_is_interval f_ascending_error f_targets_error f_is_pieces f_has_position f_contains f_pieces_inside f_first_gap f_find_missing f_without_item f_with_interval f_without_interval f_edited_state f_depth_changes f_find_blocks f_serves f_conflict f_demands_at_blocks f_is_open f_open_demands f_shadow_target f_require_few_blocks f_decisive_demands f_largest_independent f_unserved_demands f_helpful_piece f_smallest_solution f_count_needed f_solve f_law_deck f_law_draw f_law_line f_law_interval f_law_intervals f_law_served f_law_options f_law_conflict f_law_most f_law_needed f_law_edit f_law_after f_law_do f_law_begun f_law_generated f_law_solution_right f_law f_Plan_init f_Plan_add_target f_Plan_add_piece f_Plan_remove_target f_Plan_remove_piece f_Plan_targets f_Plan_pieces f_Plan_needed f_Plan_solution f_Plan_missing f_Plan_edit f_Plan_record f_Plan_require_idle f_Plan_state_at f_Plan_len f_Plan_str f_Plan_eq C_Plan d_is_number d_is_position d_is_tuple_of d_is_interval d_ascending_error d_targets_error d_is_pieces d_has_position d_contains d_pieces_inside d_first_gap d_find_missing d_without_item d_with_interval d_without_interval d_edited_state d_depth_changes d_find_blocks d_serves d_conflict d_demands_at_blocks d_is_open d_open_demands d_shadow_target d_require_few_blocks d_decisive_demands d_largest_independent d_unserved_demands d_helpful_piece d_smallest_solution d_count_needed d_solve d_law_deck d_law_draw d_law_line d_law_interval d_law_intervals d_law_served d_law_options d_law_conflict d_law_most d_law_needed d_law_edit d_law_after d_law_do d_law_begun d_law_generated d_law_solution_right d_law d_Plan_init d_Plan_add_target d_Plan_add_piece d_Plan_remove_target d_Plan_remove_piece d_Plan_targets d_Plan_pieces d_Plan_needed d_Plan_solution d_Plan_missing d_Plan_edit d_Plan_record d_Plan_require_idle d_Plan_state_at d_Plan_len d_Plan_str d_Plan_eq t_LAST_POSITION t_MAX_TARGETS t_MAX_PIECES t_MAX_BLOCKS t_MAX_EDITS) : FnOk P w K mg base CX0 7 f_Plan_edit d_Plan_edit ["self", "word", "value"] (sp_Plan_edit C_Plan) := by
  refine T.F_Plan_edit.ok sc_Plan_edit (fun vs H Q E h => ?_) (fun cdv A outer s H vs Q E hr h => ?_)
  · obtain ⟨p, t, Ls, S, Es, e, rfl, _⟩ := h
    rfl
  · obtain ⟨p, t, Ls, S, Es, e, rfl, P, few, so, ht, can, q⟩ := h
    refine ⟨_, (pss_cons (ps_expr (pe_meth0 (pv 0) T.cl_Plan T.m_Plan_require_idle (ok_Plan_require_idle T) (hr.mono (by decide)) T.b_Plan_require_idle .nil pass0))
      (pss_cons (ps_expr (pe_meth (pv 0) T.cl_Plan T.m_Plan_record (ok_Plan_record T) (hr.mono (by decide)) T.b_Plan_record .nil pass0 (pa_cons (pv 1) (pa_cons (pv 2) pa_nil))))
      (pss_one (ps_ret (pe_callB call_len_seq (by rfl) T.z_len PySem.boot_len (pa_cons (pe_fld (pv 0) rfl) pa_nil)))))), ?_⟩
    obtain ⟨dx, a, b, us, vs, hp, _⟩ := id P.ex
    refine ⟨.ref p, rfl, p, dx, _, rfl, hp, lk_no _ _ _ (by decide +kernel), p, dx, a, b, rfl, hp, ?_⟩
    refine ⟨.ref p, rfl, p, dx, _, rfl, hp, lk_no _ _ _ (by decide +kernel), _, rfl, .ref t, rfl, p, t, Ls, S, Es, e, rfl, P, few, so, ht, can, fun H1 b1 P1 => ?_⟩
    obtain ⟨dx', a', b', us', vs', hp', ha', sts', hb', eds'⟩ := id P1.ex
    have lv := eds'.length
    refine ⟨.ref p, rfl, p, C_Plan, dx', _, _, rfl, hp', T.cl_Plan, T.n_Plan_done, lk_done _ _ _, b', vs', rfl, .inr (SqT.of hb'), ?_⟩
    have z := q H1 b1 P1
    rw [lv, List.length_append]
    exact z
def sp_do (C : Addr) (add pc : Bool) : Sp := fun vs H Q _ => ∃ (p t : Addr) (Ls : List St2) (S : St2) (Es : List Ed) (q : Int × Int), vs = [.ref p, .ref t] ∧ PlanAt C H p (Ls ++ [S]) Es ∧ Es.length < 60 ∧ StOk S ∧ H t = some (.tup [.int q.1, .int q.2]) ∧ Can S ⟨add, pc, q⟩ ∧
  ∀ H', But p H H' → PlanAt C H' p (Ls ++ [S] ++ [stepS S ⟨add, pc, q⟩]) (Es ++ [⟨add, pc, q⟩]) → Q (.int (Es.length + 1 : Nat)) H'
theorem ok_Plan_add_target (T : Tx K mg f_is_number f_is_position f_is_tuple_of f_is_interval f_ascending_error f_targets_error f_is_pieces f_has_position f_contains f_pieces_inside f_first_gap f_find_missing f_without_item f_with_interval f_without_interval f_edited_state f_depth_changes f_find_blocks f_serves f_conflict f_demands_at_blocks f_is_open f_open_demands f_shadow_target f_require_few_blocks f_decisive_demands f_largest_independent f_unserved_demands f_helpful_piece f_smallest_solution f_count_needed f_solve f_law_deck f_law_draw f_law_line f_law_interval f_law_intervals f_law_served f_law_options f_law_conflict f_law_most f_law_needed f_law_edit f_law_after f_law_do f_law_begun f_law_generated f_law_solution_right f_law f_Plan_init f_Plan_add_target f_Plan_add_piece f_Plan_remove_target f_Plan_remove_piece f_Plan_targets f_Plan_pieces f_Plan_needed f_Plan_solution f_Plan_missing f_Plan_edit f_Plan_record f_Plan_require_idle f_Plan_state_at f_Plan_len f_Plan_str f_Plan_eq C_Plan d_is_number d_is_position d_is_tuple_of d_is_interval d_ascending_error d_targets_error d_is_pieces d_has_position d_contains d_pieces_inside d_first_gap d_find_missing d_without_item d_with_interval d_without_interval d_edited_state d_depth_changes d_find_blocks d_serves d_conflict d_demands_at_blocks d_is_open d_open_demands d_shadow_target d_require_few_blocks d_decisive_demands d_largest_independent d_unserved_demands d_helpful_piece d_smallest_solution d_count_needed d_solve d_law_deck d_law_draw d_law_line d_law_interval d_law_intervals d_law_served d_law_options d_law_conflict d_law_most d_law_needed d_law_edit d_law_after d_law_do d_law_begun d_law_generated d_law_solution_right d_law d_Plan_init d_Plan_add_target d_Plan_add_piece d_Plan_remove_target d_Plan_remove_piece d_Plan_targets d_Plan_pieces d_Plan_needed d_Plan_solution d_Plan_missing d_Plan_edit d_Plan_record d_Plan_require_idle d_Plan_state_at d_Plan_len d_Plan_str d_Plan_eq t_LAST_POSITION t_MAX_TARGETS t_MAX_PIECES t_MAX_BLOCKS t_MAX_EDITS) : FnOk P w K mg base CX0 8 f_Plan_add_target d_Plan_add_target ["self", "interval"] (sp_do C_Plan true false) := by
  refine T.F_Plan_add_target.ok sc_Plan_add_target (fun vs H Q E h => ?_) (fun cdv A outer s H vs Q E hr h => ?_)
  · obtain ⟨p, t, Ls, S, Es, z, rfl, _⟩ := h
    rfl
  · obtain ⟨p, t, Ls, S, Es, z, rfl, P, few, so, ht, can, q⟩ := h
    refine ⟨_, (pss_one (ps_ret (pe_meth (pv 0) T.cl_Plan T.m_Plan_edit (ok_Plan_edit T) (hr.mono (by decide)) T.b_Plan_edit .nil pass0 (pa_cons pe_str (pa_cons (pv 1) pa_nil))))), ?_⟩
    obtain ⟨dx, a, b, us, vs, hp, _⟩ := id P.ex
    exact ⟨.ref p, rfl, p, dx, _, rfl, hp, lk_no _ _ _ (by decide +kernel), .ref t, rfl, p, t, Ls, S, Es, _, rfl, P, few, so, ht, can, q⟩
theorem ok_Plan_add_piece (T : Tx K mg f_is_number f_is_position f_is_tuple_of f_is_interval f_ascending_error f_targets_error f_is_pieces f_has_position f_contains f_pieces_inside f_first_gap f_find_missing f_without_item f_with_interval f_without_interval f_edited_state f_depth_changes f_find_blocks f_serves f_conflict f_demands_at_blocks f_is_open f_open_demands f_shadow_target f_require_few_blocks f_decisive_demands f_largest_independent f_unserved_demands f_helpful_piece f_smallest_solution f_count_needed f_solve f_law_deck f_law_draw f_law_line f_law_interval f_law_intervals f_law_served f_law_options f_law_conflict f_law_most f_law_needed f_law_edit f_law_after f_law_do f_law_begun f_law_generated f_law_solution_right f_law f_Plan_init f_Plan_add_target f_Plan_add_piece f_Plan_remove_target f_Plan_remove_piece f_Plan_targets f_Plan_pieces f_Plan_needed f_Plan_solution f_Plan_missing f_Plan_edit f_Plan_record f_Plan_require_idle f_Plan_state_at f_Plan_len f_Plan_str f_Plan_eq C_Plan d_is_number d_is_position d_is_tuple_of d_is_interval d_ascending_error d_targets_error d_is_pieces d_has_position d_contains d_pieces_inside d_first_gap d_find_missing d_without_item d_with_interval d_without_interval d_edited_state d_depth_changes d_find_blocks d_serves d_conflict d_demands_at_blocks d_is_open d_open_demands d_shadow_target d_require_few_blocks d_decisive_demands d_largest_independent d_unserved_demands d_helpful_piece d_smallest_solution d_count_needed d_solve d_law_deck d_law_draw d_law_line d_law_interval d_law_intervals d_law_served d_law_options d_law_conflict d_law_most d_law_needed d_law_edit d_law_after d_law_do d_law_begun d_law_generated d_law_solution_right d_law d_Plan_init d_Plan_add_target d_Plan_add_piece d_Plan_remove_target d_Plan_remove_piece d_Plan_targets d_Plan_pieces d_Plan_needed d_Plan_solution d_Plan_missing d_Plan_edit d_Plan_record d_Plan_require_idle d_Plan_state_at d_Plan_len d_Plan_str d_Plan_eq t_LAST_POSITION t_MAX_TARGETS t_MAX_PIECES t_MAX_BLOCKS t_MAX_EDITS) : FnOk P w K mg base CX0 8 f_Plan_add_piece d_Plan_add_piece ["self", "interval"] (sp_do C_Plan true true) := by
  refine T.F_Plan_add_piece.ok sc_Plan_add_piece (fun vs H Q E h => ?_) (fun cdv A outer s H vs Q E hr h => ?_)
  · obtain ⟨p, t, Ls, S, Es, z, rfl, _⟩ := h
    rfl
  · obtain ⟨p, t, Ls, S, Es, z, rfl, P, few, so, ht, can, q⟩ := h
    refine ⟨_, (pss_one (ps_ret (pe_meth (pv 0) T.cl_Plan T.m_Plan_edit (ok_Plan_edit T) (hr.mono (by decide)) T.b_Plan_edit .nil pass0 (pa_cons pe_str (pa_cons (pv 1) pa_nil))))), ?_⟩
    obtain ⟨dx, a, b, us, vs, hp, _⟩ := id P.ex
    exact ⟨.ref p, rfl, p, dx, _, rfl, hp, lk_no _ _ _ (by decide +kernel), .ref t, rfl, p, t, Ls, S, Es, _, rfl, P, few, so, ht, can, q⟩
theorem ok_Plan_remove_target (T : Tx K mg f_is_number f_is_position f_is_tuple_of f_is_interval f_ascending_error f_targets_error f_is_pieces f_has_position f_contains f_pieces_inside f_first_gap f_find_missing f_without_item f_with_interval f_without_interval f_edited_state f_depth_changes f_find_blocks f_serves f_conflict f_demands_at_blocks f_is_open f_open_demands f_shadow_target f_require_few_blocks f_decisive_demands f_largest_independent f_unserved_demands f_helpful_piece f_smallest_solution f_count_needed f_solve f_law_deck f_law_draw f_law_line f_law_interval f_law_intervals f_law_served f_law_options f_law_conflict f_law_most f_law_needed f_law_edit f_law_after f_law_do f_law_begun f_law_generated f_law_solution_right f_law f_Plan_init f_Plan_add_target f_Plan_add_piece f_Plan_remove_target f_Plan_remove_piece f_Plan_targets f_Plan_pieces f_Plan_needed f_Plan_solution f_Plan_missing f_Plan_edit f_Plan_record f_Plan_require_idle f_Plan_state_at f_Plan_len f_Plan_str f_Plan_eq C_Plan d_is_number d_is_position d_is_tuple_of d_is_interval d_ascending_error d_targets_error d_is_pieces d_has_position d_contains d_pieces_inside d_first_gap d_find_missing d_without_item d_with_interval d_without_interval d_edited_state d_depth_changes d_find_blocks d_serves d_conflict d_demands_at_blocks d_is_open d_open_demands d_shadow_target d_require_few_blocks d_decisive_demands d_largest_independent d_unserved_demands d_helpful_piece d_smallest_solution d_count_needed d_solve d_law_deck d_law_draw d_law_line d_law_interval d_law_intervals d_law_served d_law_options d_law_conflict d_law_most d_law_needed d_law_edit d_law_after d_law_do d_law_begun d_law_generated d_law_solution_right d_law d_Plan_init d_Plan_add_target d_Plan_add_piece d_Plan_remove_target d_Plan_remove_piece d_Plan_targets d_Plan_pieces d_Plan_needed d_Plan_solution d_Plan_missing d_Plan_edit d_Plan_record d_Plan_require_idle d_Plan_state_at d_Plan_len d_Plan_str d_Plan_eq t_LAST_POSITION t_MAX_TARGETS t_MAX_PIECES t_MAX_BLOCKS t_MAX_EDITS) : FnOk P w K mg base CX0 8 f_Plan_remove_target d_Plan_remove_target ["self", "interval"] (sp_do C_Plan false false) := by
  refine T.F_Plan_remove_target.ok sc_Plan_remove_target (fun vs H Q E h => ?_) (fun cdv A outer s H vs Q E hr h => ?_)
  · obtain ⟨p, t, Ls, S, Es, z, rfl, _⟩ := h
    rfl
  · obtain ⟨p, t, Ls, S, Es, z, rfl, P, few, so, ht, can, q⟩ := h
    refine ⟨_, (pss_one (ps_ret (pe_meth (pv 0) T.cl_Plan T.m_Plan_edit (ok_Plan_edit T) (hr.mono (by decide)) T.b_Plan_edit .nil pass0 (pa_cons pe_str (pa_cons (pv 1) pa_nil))))), ?_⟩
    obtain ⟨dx, a, b, us, vs, hp, _⟩ := id P.ex
    exact ⟨.ref p, rfl, p, dx, _, rfl, hp, lk_no _ _ _ (by decide +kernel), .ref t, rfl, p, t, Ls, S, Es, _, rfl, P, few, so, ht, can, q⟩
theorem ok_Plan_remove_piece (T : Tx K mg f_is_number f_is_position f_is_tuple_of f_is_interval f_ascending_error f_targets_error f_is_pieces f_has_position f_contains f_pieces_inside f_first_gap f_find_missing f_without_item f_with_interval f_without_interval f_edited_state f_depth_changes f_find_blocks f_serves f_conflict f_demands_at_blocks f_is_open f_open_demands f_shadow_target f_require_few_blocks f_decisive_demands f_largest_independent f_unserved_demands f_helpful_piece f_smallest_solution f_count_needed f_solve f_law_deck f_law_draw f_law_line f_law_interval f_law_intervals f_law_served f_law_options f_law_conflict f_law_most f_law_needed f_law_edit f_law_after f_law_do f_law_begun f_law_generated f_law_solution_right f_law f_Plan_init f_Plan_add_target f_Plan_add_piece f_Plan_remove_target f_Plan_remove_piece f_Plan_targets f_Plan_pieces f_Plan_needed f_Plan_solution f_Plan_missing f_Plan_edit f_Plan_record f_Plan_require_idle f_Plan_state_at f_Plan_len f_Plan_str f_Plan_eq C_Plan d_is_number d_is_position d_is_tuple_of d_is_interval d_ascending_error d_targets_error d_is_pieces d_has_position d_contains d_pieces_inside d_first_gap d_find_missing d_without_item d_with_interval d_without_interval d_edited_state d_depth_changes d_find_blocks d_serves d_conflict d_demands_at_blocks d_is_open d_open_demands d_shadow_target d_require_few_blocks d_decisive_demands d_largest_independent d_unserved_demands d_helpful_piece d_smallest_solution d_count_needed d_solve d_law_deck d_law_draw d_law_line d_law_interval d_law_intervals d_law_served d_law_options d_law_conflict d_law_most d_law_needed d_law_edit d_law_after d_law_do d_law_begun d_law_generated d_law_solution_right d_law d_Plan_init d_Plan_add_target d_Plan_add_piece d_Plan_remove_target d_Plan_remove_piece d_Plan_targets d_Plan_pieces d_Plan_needed d_Plan_solution d_Plan_missing d_Plan_edit d_Plan_record d_Plan_require_idle d_Plan_state_at d_Plan_len d_Plan_str d_Plan_eq t_LAST_POSITION t_MAX_TARGETS t_MAX_PIECES t_MAX_BLOCKS t_MAX_EDITS) : FnOk P w K mg base CX0 8 f_Plan_remove_piece d_Plan_remove_piece ["self", "interval"] (sp_do C_Plan false true) := by
  refine T.F_Plan_remove_piece.ok sc_Plan_remove_piece (fun vs H Q E h => ?_) (fun cdv A outer s H vs Q E hr h => ?_)
  · obtain ⟨p, t, Ls, S, Es, z, rfl, _⟩ := h
    rfl
  · obtain ⟨p, t, Ls, S, Es, z, rfl, P, few, so, ht, can, q⟩ := h
    refine ⟨_, (pss_one (ps_ret (pe_meth (pv 0) T.cl_Plan T.m_Plan_edit (ok_Plan_edit T) (hr.mono (by decide)) T.b_Plan_edit .nil pass0 (pa_cons pe_str (pa_cons (pv 1) pa_nil))))), ?_⟩
    obtain ⟨dx, a, b, us, vs, hp, _⟩ := id P.ex
    exact ⟨.ref p, rfl, p, dx, _, rfl, hp, lk_no _ _ _ (by decide +kernel), .ref t, rfl, p, t, Ls, S, Es, _, rfl, P, few, so, ht, can, q⟩
/-! ### queries -/
/-- a version: None, or a number; i the state's place -/
def IsVer (v : V) (n i : Nat) : Prop := (v = .non ∧ i = n) ∨ (v = .int i ∧ i ≤ n)
def sp_state_at (C : Addr) : Sp := fun vs H Q _ => ∃ (p : Addr) (v : V) (Ss : List St2) (Es : List Ed) (S : St2) (i : Nat), vs = [.ref p, v] ∧ PlanAt C H p Ss Es ∧ IsVer v Es.length i ∧ Ss[i]? = some S ∧
  ∀ t x y xs ys, H t = some (.tup [.ref x, .ref y]) → H x = some (.tup xs) → Ivs H xs S.1 → H y = some (.tup ys) → Ivs H ys S.2 → Q (.ref t) H
theorem ok_Plan_state_at (T : Tx K mg f_is_number f_is_position f_is_tuple_of f_is_interval f_ascending_error f_targets_error f_is_pieces f_has_position f_contains f_pieces_inside f_first_gap f_find_missing f_without_item f_with_interval f_without_interval f_edited_state f_depth_changes f_find_blocks f_serves f_conflict f_demands_at_blocks f_is_open f_open_demands f_shadow_target f_require_few_blocks f_decisive_demands f_largest_independent f_unserved_demands f_helpful_piece f_smallest_solution f_count_needed f_solve f_law_deck f_law_draw f_law_line f_law_interval f_law_intervals f_law_served f_law_options f_law_conflict f_law_most f_law_needed f_law_edit f_law_after f_law_do f_law_begun f_law_generated f_law_solution_right f_law f_Plan_init f_Plan_add_target f_Plan_add_piece f_Plan_remove_target f_Plan_remove_piece f_Plan_targets f_Plan_pieces f_Plan_needed f_Plan_solution f_Plan_missing f_Plan_edit f_Plan_record f_Plan_require_idle f_Plan_state_at f_Plan_len f_Plan_str f_Plan_eq C_Plan d_is_number d_is_position d_is_tuple_of d_is_interval d_ascending_error d_targets_error d_is_pieces d_has_position d_contains d_pieces_inside d_first_gap d_find_missing d_without_item d_with_interval d_without_interval d_edited_state d_depth_changes d_find_blocks d_serves d_conflict d_demands_at_blocks d_is_open d_open_demands d_shadow_target d_require_few_blocks d_decisive_demands d_largest_independent d_unserved_demands d_helpful_piece d_smallest_solution d_count_needed d_solve d_law_deck d_law_draw d_law_line d_law_interval d_law_intervals d_law_served d_law_options d_law_conflict d_law_most d_law_needed d_law_edit d_law_after d_law_do d_law_begun d_law_generated d_law_solution_right d_law d_Plan_init d_Plan_add_target d_Plan_add_piece d_Plan_remove_target d_Plan_remove_piece d_Plan_targets d_Plan_pieces d_Plan_needed d_Plan_solution d_Plan_missing d_Plan_edit d_Plan_record d_Plan_require_idle d_Plan_state_at d_Plan_len d_Plan_str d_Plan_eq t_LAST_POSITION t_MAX_TARGETS t_MAX_PIECES t_MAX_BLOCKS t_MAX_EDITS) : FnOk P w K mg base CX0 2 f_Plan_state_at d_Plan_state_at ["self", "version"] (sp_state_at C_Plan) := by
  refine T.F_Plan_state_at.ok sc_Plan_state_at (fun vs H Q E h => ?_) (fun cdv A outer s H vs Q E hr h => ?_)
  · obtain ⟨p, v, Ss, Es, S, i, rfl, _⟩ := h
    rfl
  · obtain ⟨p, v, Ss, Es, S, i, rfl, P, ver, eS, q⟩ := h
    refine ⟨_, (pss_cons (ps_if (pt_cmpR op_isN (pv 1) pe_non (nomark _))
      (pss_one (ps_ret (pe_ix ix_tup (pe_fld (pv 0) rfl) (pe_un un_neg pe_int) (fun _ _ => rfl))))
      pss_nil)
      (pss_cons (ps_if (PW.pt (pw_or (pt_not (pt_val (pe_call (ok_is_number T) (hr.mono (by decide)) (by rfl) T.g_is_number T.F_is_number.kp T.b_is_number .nil pass0 (pa_cons (pv 1) pa_nil)))) (pw_or1 (pt_not (pt_chain op_le op_le pe_int (pv 1) (pe_callB call_len_seq (by rfl) T.z_len PySem.boot_len (pa_cons (pe_fld (pv 0) rfl) pa_nil)))))))
      (pss_one ps_never)
      pss_nil)
      (pss_one (ps_ret (pe_ix ix_tup (pe_fld (pv 0) rfl) (pv 1) (fun _ _ => rfl)))))), ?_⟩
    obtain ⟨⟨dx, a, b, us, vs, hp, ha, sts, hb, eds⟩, pl⟩ := id P
    have lv := eds.length
    have lu := sts.length
    obtain ⟨s, x, y, xs, ys, eu, hs, hx, ix, hy, iy⟩ := sts.get eS
    have q := q s x y xs ys hs hx ix hy iy
    rcases ver with ⟨rfl, rfl⟩ | ⟨rfl, li⟩
    · refine ⟨_, rfl, rfl, _, rfl, iteT ?_⟩
      exact ⟨.ref p, rfl, p, C_Plan, dx, _, _, rfl, hp, T.cl_Plan, T.n_Plan_states, lk_states _ _ _, 1, rfl, a, us, -1, .ref s, rfl, rfl, SqT.of ha, atI_end (by rw [lu, pl]; exact eu), q⟩
    · refine ⟨_, rfl, rfl, _, rfl, iteF ?_⟩
      refine ⟨_, rfl, i, rfl, _, rfl, iteF ?_⟩
      refine ⟨_, rfl, _, _, rfl, rfl, _, rfl, ?_⟩
      rw [decide_eq_true (show (0 : Int) ≤ (i : Int) by omega)]
      refine iteT ⟨.ref p, rfl, p, C_Plan, dx, _, _, rfl, hp, T.cl_Plan, T.n_Plan_done, lk_done _ _ _, b, vs, rfl, .inr (SqT.of hb), _, _, rfl, rfl, _, rfl, ?_⟩
      rw [decide_eq_true (show (i : Int) ≤ (vs.length : Int) by omega)]
      refine iteF ?_
      exact ⟨.ref p, rfl, p, C_Plan, dx, _, _, rfl, hp, T.cl_Plan, T.n_Plan_states, lk_states _ _ _, _, rfl, a, us, i, .ref s, rfl, rfl, SqT.of ha, atI_nat eu, q⟩
def sp_side (C : Addr) (pc : Bool) : Sp := fun vs H Q _ => ∃ (p : Addr) (v : V) (Ss : List St2) (Es : List Ed) (S : St2) (i : Nat), vs = [.ref p, v] ∧ PlanAt C H p Ss Es ∧ IsVer v Es.length i ∧ Ss[i]? = some S ∧
  ∀ x xs, H x = some (.tup xs) → Ivs H xs (sideS pc S) → Q (.ref x) H
theorem ok_Plan_targets (T : Tx K mg f_is_number f_is_position f_is_tuple_of f_is_interval f_ascending_error f_targets_error f_is_pieces f_has_position f_contains f_pieces_inside f_first_gap f_find_missing f_without_item f_with_interval f_without_interval f_edited_state f_depth_changes f_find_blocks f_serves f_conflict f_demands_at_blocks f_is_open f_open_demands f_shadow_target f_require_few_blocks f_decisive_demands f_largest_independent f_unserved_demands f_helpful_piece f_smallest_solution f_count_needed f_solve f_law_deck f_law_draw f_law_line f_law_interval f_law_intervals f_law_served f_law_options f_law_conflict f_law_most f_law_needed f_law_edit f_law_after f_law_do f_law_begun f_law_generated f_law_solution_right f_law f_Plan_init f_Plan_add_target f_Plan_add_piece f_Plan_remove_target f_Plan_remove_piece f_Plan_targets f_Plan_pieces f_Plan_needed f_Plan_solution f_Plan_missing f_Plan_edit f_Plan_record f_Plan_require_idle f_Plan_state_at f_Plan_len f_Plan_str f_Plan_eq C_Plan d_is_number d_is_position d_is_tuple_of d_is_interval d_ascending_error d_targets_error d_is_pieces d_has_position d_contains d_pieces_inside d_first_gap d_find_missing d_without_item d_with_interval d_without_interval d_edited_state d_depth_changes d_find_blocks d_serves d_conflict d_demands_at_blocks d_is_open d_open_demands d_shadow_target d_require_few_blocks d_decisive_demands d_largest_independent d_unserved_demands d_helpful_piece d_smallest_solution d_count_needed d_solve d_law_deck d_law_draw d_law_line d_law_interval d_law_intervals d_law_served d_law_options d_law_conflict d_law_most d_law_needed d_law_edit d_law_after d_law_do d_law_begun d_law_generated d_law_solution_right d_law d_Plan_init d_Plan_add_target d_Plan_add_piece d_Plan_remove_target d_Plan_remove_piece d_Plan_targets d_Plan_pieces d_Plan_needed d_Plan_solution d_Plan_missing d_Plan_edit d_Plan_record d_Plan_require_idle d_Plan_state_at d_Plan_len d_Plan_str d_Plan_eq t_LAST_POSITION t_MAX_TARGETS t_MAX_PIECES t_MAX_BLOCKS t_MAX_EDITS) : FnOk P w K mg base CX0 3 f_Plan_targets d_Plan_targets ["self", "version"] (sp_side C_Plan false) := by
  refine T.F_Plan_targets.ok sc_Plan_targets (fun vs H Q E h => ?_) (fun cdv A outer s H vs Q E hr h => ?_)
  · obtain ⟨p, v, Ss, Es, S, i, rfl, _⟩ := h
    rfl
  · obtain ⟨p, v, Ss, Es, S, i, rfl, P, ver, eS, q⟩ := h
    refine ⟨_, (pss_one (ps_ret (pe_ix ix_tup (pe_meth (pv 0) T.cl_Plan T.m_Plan_state_at (ok_Plan_state_at T) (hr.mono (by decide)) T.b_Plan_state_at .nil pass0 (pa_cons (pv 1) pa_nil)) pe_int (fun _ _ => rfl)))), ?_⟩
    obtain ⟨dx, a, b, us, vs, hp, _⟩ := id P.ex
    refine ⟨.ref p, rfl, p, dx, _, rfl, hp, lk_no _ _ _ (by decide +kernel), _, rfl, p, v, Ss, Es, S, i, rfl, P, ver, eS, fun t x y xs ys ht hx ix hy iy => ?_⟩
    exact ⟨t, _, 0, .ref x, rfl, rfl, SqT.of ht, rfl, q x xs hx ix⟩
theorem ok_Plan_pieces (T : Tx K mg f_is_number f_is_position f_is_tuple_of f_is_interval f_ascending_error f_targets_error f_is_pieces f_has_position f_contains f_pieces_inside f_first_gap f_find_missing f_without_item f_with_interval f_without_interval f_edited_state f_depth_changes f_find_blocks f_serves f_conflict f_demands_at_blocks f_is_open f_open_demands f_shadow_target f_require_few_blocks f_decisive_demands f_largest_independent f_unserved_demands f_helpful_piece f_smallest_solution f_count_needed f_solve f_law_deck f_law_draw f_law_line f_law_interval f_law_intervals f_law_served f_law_options f_law_conflict f_law_most f_law_needed f_law_edit f_law_after f_law_do f_law_begun f_law_generated f_law_solution_right f_law f_Plan_init f_Plan_add_target f_Plan_add_piece f_Plan_remove_target f_Plan_remove_piece f_Plan_targets f_Plan_pieces f_Plan_needed f_Plan_solution f_Plan_missing f_Plan_edit f_Plan_record f_Plan_require_idle f_Plan_state_at f_Plan_len f_Plan_str f_Plan_eq C_Plan d_is_number d_is_position d_is_tuple_of d_is_interval d_ascending_error d_targets_error d_is_pieces d_has_position d_contains d_pieces_inside d_first_gap d_find_missing d_without_item d_with_interval d_without_interval d_edited_state d_depth_changes d_find_blocks d_serves d_conflict d_demands_at_blocks d_is_open d_open_demands d_shadow_target d_require_few_blocks d_decisive_demands d_largest_independent d_unserved_demands d_helpful_piece d_smallest_solution d_count_needed d_solve d_law_deck d_law_draw d_law_line d_law_interval d_law_intervals d_law_served d_law_options d_law_conflict d_law_most d_law_needed d_law_edit d_law_after d_law_do d_law_begun d_law_generated d_law_solution_right d_law d_Plan_init d_Plan_add_target d_Plan_add_piece d_Plan_remove_target d_Plan_remove_piece d_Plan_targets d_Plan_pieces d_Plan_needed d_Plan_solution d_Plan_missing d_Plan_edit d_Plan_record d_Plan_require_idle d_Plan_state_at d_Plan_len d_Plan_str d_Plan_eq t_LAST_POSITION t_MAX_TARGETS t_MAX_PIECES t_MAX_BLOCKS t_MAX_EDITS) : FnOk P w K mg base CX0 3 f_Plan_pieces d_Plan_pieces ["self", "version"] (sp_side C_Plan true) := by
  refine T.F_Plan_pieces.ok sc_Plan_pieces (fun vs H Q E h => ?_) (fun cdv A outer s H vs Q E hr h => ?_)
  · obtain ⟨p, v, Ss, Es, S, i, rfl, _⟩ := h
    rfl
  · obtain ⟨p, v, Ss, Es, S, i, rfl, P, ver, eS, q⟩ := h
    refine ⟨_, (pss_one (ps_ret (pe_ix ix_tup (pe_meth (pv 0) T.cl_Plan T.m_Plan_state_at (ok_Plan_state_at T) (hr.mono (by decide)) T.b_Plan_state_at .nil pass0 (pa_cons (pv 1) pa_nil)) pe_int (fun _ _ => rfl)))), ?_⟩
    obtain ⟨dx, a, b, us, vs, hp, _⟩ := id P.ex
    refine ⟨.ref p, rfl, p, dx, _, rfl, hp, lk_no _ _ _ (by decide +kernel), _, rfl, p, v, Ss, Es, S, i, rfl, P, ver, eS, fun t x y xs ys ht hx ix hy iy => ?_⟩
    exact ⟨t, _, 1, .ref y, rfl, rfl, SqT.of ht, rfl, q y ys hy iy⟩
def sp_edits (C : Addr) : Sp := fun vs H Q _ => ∃ (p : Addr) (Ss : List St2) (Es : List Ed), vs = [.ref p] ∧ PlanAt C H p Ss Es ∧ ∀ b vs, H b = some (.tup vs) → Eds H vs Es → Q (.ref b) H
def sp_plen (C : Addr) : Sp := fun vs H Q _ => ∃ (p : Addr) (Ss : List St2) (Es : List Ed), vs = [.ref p] ∧ PlanAt C H p Ss Es ∧ Q (.int (Es.length : Nat)) H
theorem ok_Plan_len (T : Tx K mg f_is_number f_is_position f_is_tuple_of f_is_interval f_ascending_error f_targets_error f_is_pieces f_has_position f_contains f_pieces_inside f_first_gap f_find_missing f_without_item f_with_interval f_without_interval f_edited_state f_depth_changes f_find_blocks f_serves f_conflict f_demands_at_blocks f_is_open f_open_demands f_shadow_target f_require_few_blocks f_decisive_demands f_largest_independent f_unserved_demands f_helpful_piece f_smallest_solution f_count_needed f_solve f_law_deck f_law_draw f_law_line f_law_interval f_law_intervals f_law_served f_law_options f_law_conflict f_law_most f_law_needed f_law_edit f_law_after f_law_do f_law_begun f_law_generated f_law_solution_right f_law f_Plan_init f_Plan_add_target f_Plan_add_piece f_Plan_remove_target f_Plan_remove_piece f_Plan_targets f_Plan_pieces f_Plan_needed f_Plan_solution f_Plan_missing f_Plan_edit f_Plan_record f_Plan_require_idle f_Plan_state_at f_Plan_len f_Plan_str f_Plan_eq C_Plan d_is_number d_is_position d_is_tuple_of d_is_interval d_ascending_error d_targets_error d_is_pieces d_has_position d_contains d_pieces_inside d_first_gap d_find_missing d_without_item d_with_interval d_without_interval d_edited_state d_depth_changes d_find_blocks d_serves d_conflict d_demands_at_blocks d_is_open d_open_demands d_shadow_target d_require_few_blocks d_decisive_demands d_largest_independent d_unserved_demands d_helpful_piece d_smallest_solution d_count_needed d_solve d_law_deck d_law_draw d_law_line d_law_interval d_law_intervals d_law_served d_law_options d_law_conflict d_law_most d_law_needed d_law_edit d_law_after d_law_do d_law_begun d_law_generated d_law_solution_right d_law d_Plan_init d_Plan_add_target d_Plan_add_piece d_Plan_remove_target d_Plan_remove_piece d_Plan_targets d_Plan_pieces d_Plan_needed d_Plan_solution d_Plan_missing d_Plan_edit d_Plan_record d_Plan_require_idle d_Plan_state_at d_Plan_len d_Plan_str d_Plan_eq t_LAST_POSITION t_MAX_TARGETS t_MAX_PIECES t_MAX_BLOCKS t_MAX_EDITS) : FnOk P w K mg base CX0 1 f_Plan_len d_Plan_len ["self"] (sp_plen C_Plan) := by
  refine T.F_Plan_len.ok sc_Plan_len (fun vs H Q E h => ?_) (fun cdv A outer s H vs Q E hr h => ?_)
  · obtain ⟨p, Ss, Es, rfl, _⟩ := h
    rfl
  · obtain ⟨p, Ss, Es, rfl, P, q⟩ := h
    refine ⟨_, (pss_one (ps_ret (pe_callB call_len_seq (by rfl) T.z_len PySem.boot_len (pa_cons (pe_fld (pv 0) rfl) pa_nil)))), ?_⟩
    obtain ⟨⟨dx, a, b, us, vs, hp, ha, sts, hb, eds⟩, pl⟩ := id P
    have lv := eds.length
    refine ⟨.ref p, rfl, p, C_Plan, dx, _, _, rfl, hp, T.cl_Plan, T.n_Plan_done, lk_done _ _ _, b, vs, rfl, .inr (SqT.of hb), ?_⟩
    rw [lv]
    exact q

/-! ### t != () -/
section
variable {X : Cx}
def rNeE (K : PySem.W.Frag) : R2 := fun x y H Q => ∃ (a b : Addr) (xs : List V), x = .ref a ∧ y = .ref b ∧ SqT K H a xs ∧ SqT K H b [] ∧ Q (.bl (!xs.isEmpty)) H
theorem op_neE (units : X.A.units < cLine) : OpR X (compareOp .NotEq) (rNeE X.K) := by
  intro pins s σ H x y v u Q I rx ry h
  obtain ⟨a, b, xs, rfl, rfl, ha, hb, q⟩ := h
  cases rx
  cases ry
  obtain ⟨its, r1, p1, _⟩ := I.tuple ha
  obtain ⟨its2, r2, p2, _⟩ := I.tuple hb
  cases r2
  refine SeqAt.RcNeAt.tuples (e := fun _ => true) (show s.heap.IsTuple a its.toArray from p1) (show s.heap.IsTuple b ([] : List Value).toArray from p2) units (fun j h1 h2 => absurd h2 (Nat.not_lt_zero j)) X.prog X.w X.xe (EP X pins σ Q) ⟨.bl (!xs.isEmpty), H, I, ?_, q⟩
  cases r1 with
  | nil => rfl
  | cons r t => rfl
end

/-! ### the deck and a plan (the deck with a table) -/
theorem Dk.noti {H : Hp} {d : Addr} {c : Addr × Addr} {n : Int} (h : Dk H d c n) {p C dx : Addr} {fs : List (Str × V)} (e : H p = some (.ins C dx fs)) : Off d c p := by
  obtain ⟨⟨u1, e1⟩, ⟨u2, e2⟩, ps, e4⟩ := h.two
  exact ⟨ne_of e e1 (fun z => by cases z), ne_of e e2 (fun z => by cases z), ne_of e e4 (fun z => by cases z)⟩
theorem Dk.butp {H H' : Hp} {d : Addr} {c : Addr × Addr} {n : Int} (h : Dk H d c n) {p C dx : Addr} {fs : List (Str × V)} (e : H p = some (.ins C dx fs)) (b : But p H H') : Dk H' d c n := by
  obtain ⟨⟨u1, e1⟩, ⟨u2, e2⟩, ps, e4⟩ := h.two
  obtain ⟨ys, z, w⟩ := h.deck.cells
  refine ⟨⟨b _ _ (ne_of h.deck.top e (fun z => by cases z)) h.deck.top, ys, b _ _ (ne_of z e (fun z => by cases z)) z, w⟩, ?_⟩
  obtain ⟨qs, h1, h2, h3⟩ := h.tab
  refine ⟨qs, b _ _ (ne_of h1 e (fun z => by cases z)) h1, h2, fun pos cv hc => ?_⟩
  obtain ⟨c', k1, k2⟩ := h3 pos cv hc
  refine ⟨c', k1, b _ _ (fun z => ?_) k2⟩
  rw [z, e] at k2
  unfold LamX.CodeO at k2
  cases k2

/-! ### what plan laws do -/
/-- a law's state of a plan: a list of two tuples -/
structure LawS (H : Hp) (l : Addr) (S : St2) : Prop where
  ex : ∃ (x y : Addr) (xs ys : List V), H l = some (.lst [.ref x, .ref y]) ∧ H x = some (.tup xs) ∧ Ivs H xs S.1 ∧ H y = some (.tup ys) ∧ Ivs H ys S.2
theorem LawS.keep {H H' : Hp} {l : Addr} {S : St2} (h : LawS H l S) (t : Tps H H') (k : ∀ us, H l = some (.lst us) → H' l = some (.lst us)) : LawS H' l S := by
  obtain ⟨x, y, xs, ys, e, ex, ix, ey, iy⟩ := h.ex
  exact ⟨x, y, xs, ys, k _ e, t _ _ ex, ix.tps t, t _ _ ey, iy.tps t⟩
theorem LawS.same {H H' : Hp} {l : Addr} {S : St2} (h : LawS H l S) (s : Same H H') : LawS H' l S := h.keep (Tps.same s) fun us e => s _ _ e
theorem LawS.side {H : Hp} {l : Addr} {S : St2} (h : LawS H l S) (pc : Bool) : ∃ (us : List V) (x : Addr) (xs : List V), H l = some (.lst us) ∧ us.length = 2 ∧ atI us (if pc = true then 1 else 0) = some (.ref x) ∧ ixN us.length (if pc = true then 1 else 0) = some (if pc = true then 1 else 0) ∧ H x = some (.tup xs) ∧ Ivs H xs (sideS pc S) ∧
    ∀ {H' : Hp} {l' x' : Addr} {xs' : List V} {ps : List (Int × Int)}, Tps H H' → H' l' = some (.lst (us.set (if pc = true then 1 else 0) (.ref x'))) → H' x' = some (.tup xs') → Ivs H' xs' ps → LawS H' l' (if pc = true then (S.1, ps) else (ps, S.2)) := by
  obtain ⟨x, y, xs, ys, e, ex, ix, ey, iy⟩ := h.ex
  cases pc with
  | false => exact ⟨_, x, xs, e, rfl, rfl, rfl, ex, ix, fun t e' ex' ix' => ⟨_, y, _, ys, e', ex', ix', t _ _ ey, iy.tps t⟩⟩
  | true => exact ⟨_, y, ys, e, rfl, rfl, rfl, ey, iy, fun t e' ex' ix' => ⟨x, _, xs, _, e', t _ _ ex, ix.tps t, ex', ix'⟩⟩
/-- an edit as a tuple -/
def EdAt (H : Hp) (t : Addr) (e : Ed) : Prop := ∃ a, H t = some (.tup [.str (wordE e), .ref a]) ∧ H a = some (.tup [.int e.q.1, .int e.q.2])
theorem EdAt.tps {H H' : Hp} {t : Addr} {e : Ed} (h : EdAt H t e) (s : Tps H H') : EdAt H' t e := by
  obtain ⟨a, h1, h2⟩ := h
  exact ⟨a, s _ _ h1, s _ _ h2⟩
theorem piece_w : ∀ add pc : Bool, inV (.str (wordOf add pc)) [.str "add_piece", .str "remove_piece"] = pc := by decide +kernel
theorem piece_in (e : Ed) : inV (.str (wordE e)) [.str "add_piece", .str "remove_piece"] = e.pc := piece_w e.add e.pc
theorem add_w : ∀ add pc : Bool, inV (.str (wordOf add pc)) [.str "add_target", .str "add_piece"] = add := by decide +kernel
theorem add_in (e : Ed) : inV (.str (wordE e)) [.str "add_target", .str "add_piece"] = e.add := add_w e.add e.pc
theorem step_side (S : St2) (e : Ed) : stepS S e = if e.pc = true then (S.1, upI e.add e.q (sideS e.pc S)) else (upI e.add e.q (sideS e.pc S), S.2) := by
  obtain ⟨add, pc, q⟩ := e
  cases pc <;> rfl
theorem StOk.side {S : St2} (h : StOk S) (pc : Bool) : SideOk 30 (sideS pc S) := by
  cases pc with
  | true => exact h.p
  | false => exact ⟨h.t.asc, h.t.ok, Nat.le_trans h.t.few (by decide)⟩
theorem wo_none {ps : List (Int × Int)} {q : Int × Int} (h : q ∉ ps) : wo ps q = ps := List.filter_eq_self.mpr fun x hx => by
  rw [decide_eq_false]
  · rfl
  · intro e
    exact h (e ▸ hx)
theorem ins_sorted {ps ps' : List (Int × Int)} {q : Int × Int} (asc : ps.Pairwise ltP) (n : q ∉ ps) (srt : ps'.Pairwise leP) (pm : ps'.Perm (ps ++ [q])) : ps' = insI q ps := by
  have nd : (ps ++ [q]).Nodup := List.nodup_append.mpr ⟨ltP_ndp asc, List.nodup_cons.mpr ⟨(fun h => nomatch h), List.nodup_nil⟩, fun z hz w hw e => n (by
    rw [List.mem_singleton.mp hw] at e
    exact e ▸ hz)⟩
  refine ltP_uniq (perm_leP_lt srt pm nd) (asc_insI asc n) fun z => ?_
  rw [pm.mem_iff, mem_insI, List.mem_append, List.mem_singleton]
  exact or_comm
def sp_law_after : Sp := fun vs H Q _ => ∃ (l t : Addr) (S : St2) (e : Ed), vs = [.ref l, .ref t] ∧ LawS H l S ∧ EdAt H t e ∧ StOk S ∧ Can S e ∧
  ∀ H' l', Same H H' → H l' = none → LawS H' l' (stepS S e) → Q (.ref l') H'
theorem ok_law_after (T : Tx K mg f_is_number f_is_position f_is_tuple_of f_is_interval f_ascending_error f_targets_error f_is_pieces f_has_position f_contains f_pieces_inside f_first_gap f_find_missing f_without_item f_with_interval f_without_interval f_edited_state f_depth_changes f_find_blocks f_serves f_conflict f_demands_at_blocks f_is_open f_open_demands f_shadow_target f_require_few_blocks f_decisive_demands f_largest_independent f_unserved_demands f_helpful_piece f_smallest_solution f_count_needed f_solve f_law_deck f_law_draw f_law_line f_law_interval f_law_intervals f_law_served f_law_options f_law_conflict f_law_most f_law_needed f_law_edit f_law_after f_law_do f_law_begun f_law_generated f_law_solution_right f_law f_Plan_init f_Plan_add_target f_Plan_add_piece f_Plan_remove_target f_Plan_remove_piece f_Plan_targets f_Plan_pieces f_Plan_needed f_Plan_solution f_Plan_missing f_Plan_edit f_Plan_record f_Plan_require_idle f_Plan_state_at f_Plan_len f_Plan_str f_Plan_eq C_Plan d_is_number d_is_position d_is_tuple_of d_is_interval d_ascending_error d_targets_error d_is_pieces d_has_position d_contains d_pieces_inside d_first_gap d_find_missing d_without_item d_with_interval d_without_interval d_edited_state d_depth_changes d_find_blocks d_serves d_conflict d_demands_at_blocks d_is_open d_open_demands d_shadow_target d_require_few_blocks d_decisive_demands d_largest_independent d_unserved_demands d_helpful_piece d_smallest_solution d_count_needed d_solve d_law_deck d_law_draw d_law_line d_law_interval d_law_intervals d_law_served d_law_options d_law_conflict d_law_most d_law_needed d_law_edit d_law_after d_law_do d_law_begun d_law_generated d_law_solution_right d_law d_Plan_init d_Plan_add_target d_Plan_add_piece d_Plan_remove_target d_Plan_remove_piece d_Plan_targets d_Plan_pieces d_Plan_needed d_Plan_solution d_Plan_missing d_Plan_edit d_Plan_record d_Plan_require_idle d_Plan_state_at d_Plan_len d_Plan_str d_Plan_eq t_LAST_POSITION t_MAX_TARGETS t_MAX_PIECES t_MAX_BLOCKS t_MAX_EDITS) : FnOk P w K mg base CX0 1 f_law_after d_law_after ["_law_state", "_law_edit_here"] sp_law_after := by
  refine T.F_law_after.ok sc_law_after (fun vs H Q E h => ?_) (fun cdv A outer s H vs Q E hr h => ?_)
  · obtain ⟨l, t, S, e, rfl, _⟩ := h
    rfl
  · obtain ⟨l, t, S, e, rfl, hl, ht, so, can, q⟩ := h
    refine ⟨_, (pss_cons (ps_asg (pv 1) (pg_tup rfl (pgs_cons (pg_name (i := 2) sc_law_after.nd rfl (Or.inl rfl)) (pgs_cons (pg_name (i := 3) sc_law_after.nd rfl (Or.inr rfl)) pgs_nil))))
      (pss_cons (ps_set (i := 4) sc_law_after.nd rfl (Or.inl rfl) (pe_callTy call_int1 (by rfl) T.z_int (by decide +kernel) (pa_cons (pe_cmpR op_in_seq (pv 2) (pe_tup (pa_cons pe_str (pa_cons pe_str pa_nil))) (by rfl)) pa_nil)))
      (pss_cons (ps_setLc (i := 5) (own := [("_law_one", 6)]) (g := (gName 6)) (by rfl) sc_law_after.nd rfl rfl (sw_true rfl rfl rfl (by decide +kernel)) (pi_tup (pe_ix ix_list (pv 0) (pv 4) (fun _ _ => rfl))) (blkOk_by (own := [("_law_one", 6)]) (N := N_law_after) (sc := defScope s_law_after) (by decide +kernel)) (fun _ _ _ _ _ => (pg_name (i := 6) sc_law_after.nd rfl (Or.inl rfl))) (fun _ _ _ _ _ => pts_one (pt_cmpR (show OpR _ (compareOp .NotEq) (rNeD K) from (op_neD hr.units)) (pv 6) (pv 3) (nomark _))) (fun _ _ _ _ _ => (pv 6)))
      (pss_cons (ps_if (pt_cmpR op_in_seq (pv 2) (pe_tup (pa_cons pe_str (pa_cons pe_str pa_nil))) (by rfl))
      (pss_one (ps_set (i := 5) sc_law_after.nd rfl (Or.inl rfl) (pe_callB (cr_sortT (d := 2) (B := 10 ^ 13) (by decide)) (by rfl) T.z_sorted (by decide +kernel) (pa_cons (pe_op op_cat (pv 5) (pe_lst (pa_cons (pv 3) pa_nil))) pa_nil))))
      pss_nil)
      (pss_cons (ps_set (i := 7) sc_law_after.nd rfl (Or.inl rfl) (pe_callTy call_list_of (by rfl) T.z_list (by decide +kernel) (pa_cons (pv 0) pa_nil)))
      (pss_cons (ps_asg (pe_callTy call_tuple_of (by rfl) T.z_tuple (by decide +kernel) (pa_cons (pv 5) pa_nil)) (pg_sub (pv 7) (pv 4) set_list))
      (pss_one (ps_ret (pv 7))))))))), ?_⟩
    obtain ⟨us, x, xs, el, us2, ax, ixn, hx, ix, put⟩ := hl.side e.pc
    obtain ⟨a, h1, h2⟩ := ht
    refine ⟨.ref t, rfl, t, _, rfl, SqT.of h1, rfl, .str (wordE e), [.ref a], rfl, .ref a, [], rfl, rfl, ?_⟩
    refine ⟨_, rfl, by show 2 ≤ sizeLine; decide, fun w nw => ?_⟩
    have s1 := same_new (o := .tup [.str "add_piece", .str "remove_piece"]) nw
    have ew := upd_same (H := H) (a := w) (o := .tup [.str "add_piece", .str "remove_piece"])
    generalize upd H w (.tup [.str "add_piece", .str "remove_piece"]) = H1 at *
    refine ⟨w, _, rfl, .inr (SqT.of ew), rfl, rfl, ?_⟩
    rw [piece_in e]
    refine .inr ⟨_, rfl, ?_⟩
    have el1 := s1 _ _ el
    have hx1 := s1 _ _ hx
    have ix1 := ix.same s1
    have h21 := s1 _ _ h2
    have lx := ix.length
    refine ⟨.ref l, rfl, _, rfl, l, us, (if e.pc = true then 1 else 0), .ref x, rfl, rfl, SqL.of el1, ax, x, rfl, ⟨_, SqT.of hx1⟩, fun D nD => ?_⟩
    refine lcT (K := K) (a := x) (xs := xs) (fun j H' ws => Ivs H' ws (((sideS e.pc S).take j).filter fun z => !decide (z = e.q))) nD (fun H' s => SqT.of (s _ _ (hx1))) (by have := so.t.few; have := so.p.few; cases hp : e.pc <;> rw [hp] at lx <;> (unfold sideS at lx; simp only [if_true, if_false, Bool.false_eq_true] at lx; omega)) (fun _ _ _ _ t r => r.tps t) (fun j H' ws r => (by rw [r.length]; exact Nat.le_trans (List.length_filter_le _ _) (List.length_take_le _ _))) (fun _ => .nil) ?_ ?_
    · rintro j z H' N acc hj sj eA sz r no yes
      obtain ⟨b, u, v, rfl, exy, hb⟩ := ix1.get hj
      refine ⟨rfl, .ref b, rfl, .ref a, rfl, _, _, dp2 (sj _ _ hb), dp2 (sj _ _ h21), rfl, rfl, _, rfl, ?_⟩
      rw [eqv_pair]
      refine ite2 (fun c => ?_) (fun c => ?_)
      · refine ⟨.ref b, rfl, yes H' _ (Same.refl _) ?_⟩
        rw [take_filter exy, if_pos c]
        exact r.snoc (sj _ _ hb)
      · refine no H' (Same.refl _) ?_
        rw [take_filter exy, if_neg c, List.append_nil]
        exact r
    intro H2 wt s2 eD r
    rw [lx, List.take_length] at r
    have s12 := s1.trans s2
    have el2 := s12 _ _ el
    refine ⟨_, rfl, by show 2 ≤ sizeLine; decide, fun w2 nw2 => ?_⟩
    have s3 := same_new (o := .tup [.str "add_target", .str "add_piece"]) nw2
    have ew2 := upd_same (H := H2) (a := w2) (o := .tup [.str "add_target", .str "add_piece"])
    generalize upd H2 w2 (.tup [.str "add_target", .str "add_piece"]) = H3 at *
    refine ⟨w2, _, rfl, .inr (SqT.of ew2), rfl, rfl, ?_⟩
    rw [add_in e]
    have s13 := s12.trans s3
    have eD3 := s3 _ _ eD
    have r3 : Ivs H3 wt (wo (sideS e.pc S) e.q) := r.same s3
    have sd := so.side e.pc
    have lwt := r3.length
    have lwo := wo_len (sideS e.pc S) e.q
    have fw := sd.few
    cases hA : e.add with
    | true =>
      refine ⟨_, rfl, iteT ?_⟩
      have no := (can.no hA).1
      refine ⟨.ref D, rfl, .ref a, rfl, by show 1 ≤ sizeLine; decide, fun u1 nu1 => ?_⟩
      have s4 := same_new (o := .lst [.ref a]) nu1
      have eu1 := upd_same (H := H3) (a := u1) (o := .lst [.ref a])
      generalize upd H3 u1 (.lst [.ref a]) = H4 at *
      refine ⟨D, u1, wt, [.ref a], rfl, rfl, s4 _ _ eD3, eu1, by rw [show sizeLine = 16777216 by decide]; show wt.length + 1 ≤ _; omega, fun g ng => ?_⟩
      have s4b := same_new (o := .lst (wt ++ [.ref a])) ng
      have eg := upd_same (H := H4) (a := g) (o := .lst (wt ++ [.ref a]))
      generalize upd H4 g (.lst (wt ++ [.ref a])) = H4b at *
      have s34 := s4.trans s4b
      have s14 := s13.trans s34
      dsimp only [tNil]
      refine sort_pairs (SqL.of eg) ((r3.same s34).append (.cons (s14 _ _ h2) .nil)) (by rw [List.length_append]; show _ + 1 < 64; omega) (fun z hz => ?_) (fun H5 l2 us' ps' s5 nl2 el2' iv2 srt pm => ?_)
      · have b : (0 ≤ z.1 ∧ z.1 ≤ z.2) ∧ z.2 ≤ 1000000000000 := by
          rcases List.mem_append.mp hz with h | h
          · exact sd.ok z (wo_sub h)
          · rw [List.mem_singleton.mp h]
            exact can.ok
        exact ⟨⟨b.1.1, by omega⟩, by omega, by omega⟩
      have s15 := s14.trans s5
      rw [wo_none no] at pm

      have el5 := s15 _ _ el
      refine ⟨.ref l, rfl, l, us, rfl, .inl (SqL.of el5), fun u nu => ?_⟩
      have nu0 : H u = none := s15.free nu
      have s6 := same_new (o := .lst us) nu
      have eu := upd_same (H := H5) (a := u) (o := .lst us)
      generalize upd H5 u (.lst us) = H6 at *
      refine ⟨.ref l2, rfl, l2, us', rfl, .inl ⟨SqL.of (s6 _ _ el2'), fun p np => ?_⟩⟩
      have s7 := same_new (o := .tup us') np
      have ep := upd_same (H := H6) (a := p) (o := .tup us')
      generalize upd H6 p (.tup us') = H7 at *
      have s57 := s6.trans s7
      refine ⟨.ref u, rfl, _, rfl, u, us, (if e.pc = true then 1 else 0), (if e.pc = true then 1 else 0), rfl, rfl, s7 _ _ eu, ixn, ?_⟩
      have sAll := same_off (o := .lst (us.set (if e.pc = true then 1 else 0) (.ref p))) nu0 (s15.trans s57)
      have t7 : Tps H7 (upd H7 u (.lst (us.set (if e.pc = true then 1 else 0) (.ref p)))) := Tps.lst (s7 _ _ eu)
      refine ⟨.ref u, rfl, q _ u sAll nu0 ?_⟩
      rw [step_side]
      exact put (ps := upI e.add e.q (sideS e.pc S)) (Tps.same sAll) upd_same (t7 _ _ ep) (by
        rw [show upI e.add e.q (sideS e.pc S) = ps' from (by rw [hA, ins_sorted sd.asc no srt pm]; rfl)]
        exact (iv2.same s57).tps t7)
    | false =>
      refine ⟨_, rfl, iteF ?_⟩

      have el5 := s13 _ _ el
      refine ⟨.ref l, rfl, l, us, rfl, .inl (SqL.of el5), fun u nu => ?_⟩
      have nu0 : H u = none := s13.free nu
      have s6 := same_new (o := .lst us) nu
      have eu := upd_same (H := H3) (a := u) (o := .lst us)
      generalize upd H3 u (.lst us) = H6 at *
      refine ⟨.ref D, rfl, D, wt, rfl, .inl ⟨SqL.of (s6 _ _ eD3), fun p np => ?_⟩⟩
      have s7 := same_new (o := .tup wt) np
      have ep := upd_same (H := H6) (a := p) (o := .tup wt)
      generalize upd H6 p (.tup wt) = H7 at *
      have s57 := s6.trans s7
      refine ⟨.ref u, rfl, _, rfl, u, us, (if e.pc = true then 1 else 0), (if e.pc = true then 1 else 0), rfl, rfl, s7 _ _ eu, ixn, ?_⟩
      have sAll := same_off (o := .lst (us.set (if e.pc = true then 1 else 0) (.ref p))) nu0 (s13.trans s57)
      have t7 : Tps H7 (upd H7 u (.lst (us.set (if e.pc = true then 1 else 0) (.ref p)))) := Tps.lst (s7 _ _ eu)
      refine ⟨.ref u, rfl, q _ u sAll nu0 ?_⟩
      rw [step_side]
      exact put (ps := upI e.add e.q (sideS e.pc S)) (Tps.same sAll) upd_same (t7 _ _ ep) (by
        rw [show upI e.add e.q (sideS e.pc S) = wo (sideS e.pc S) e.q from (by rw [hA]; rfl)]
        exact (r3.same s57).tps t7)
def wE2 (C : Addr) : Sp := fun vs H Q _ => ∃ (p t : Addr) (Ls : List St2) (S : St2) (Es : List Ed) (e : Ed), vs = [.ref p, .ref t] ∧ PlanAt C H p (Ls ++ [S]) Es ∧ Es.length < 60 ∧ StOk S ∧ EdAt H t e ∧ Can S e ∧
  ∀ H', But p H H' → PlanAt C H' p (Ls ++ [S] ++ [stepS S e]) (Es ++ [e]) → Q (.int (Es.length + 1 : Nat)) H'
theorem ok_law_do (T : Tx K mg f_is_number f_is_position f_is_tuple_of f_is_interval f_ascending_error f_targets_error f_is_pieces f_has_position f_contains f_pieces_inside f_first_gap f_find_missing f_without_item f_with_interval f_without_interval f_edited_state f_depth_changes f_find_blocks f_serves f_conflict f_demands_at_blocks f_is_open f_open_demands f_shadow_target f_require_few_blocks f_decisive_demands f_largest_independent f_unserved_demands f_helpful_piece f_smallest_solution f_count_needed f_solve f_law_deck f_law_draw f_law_line f_law_interval f_law_intervals f_law_served f_law_options f_law_conflict f_law_most f_law_needed f_law_edit f_law_after f_law_do f_law_begun f_law_generated f_law_solution_right f_law f_Plan_init f_Plan_add_target f_Plan_add_piece f_Plan_remove_target f_Plan_remove_piece f_Plan_targets f_Plan_pieces f_Plan_needed f_Plan_solution f_Plan_missing f_Plan_edit f_Plan_record f_Plan_require_idle f_Plan_state_at f_Plan_len f_Plan_str f_Plan_eq C_Plan d_is_number d_is_position d_is_tuple_of d_is_interval d_ascending_error d_targets_error d_is_pieces d_has_position d_contains d_pieces_inside d_first_gap d_find_missing d_without_item d_with_interval d_without_interval d_edited_state d_depth_changes d_find_blocks d_serves d_conflict d_demands_at_blocks d_is_open d_open_demands d_shadow_target d_require_few_blocks d_decisive_demands d_largest_independent d_unserved_demands d_helpful_piece d_smallest_solution d_count_needed d_solve d_law_deck d_law_draw d_law_line d_law_interval d_law_intervals d_law_served d_law_options d_law_conflict d_law_most d_law_needed d_law_edit d_law_after d_law_do d_law_begun d_law_generated d_law_solution_right d_law d_Plan_init d_Plan_add_target d_Plan_add_piece d_Plan_remove_target d_Plan_remove_piece d_Plan_targets d_Plan_pieces d_Plan_needed d_Plan_solution d_Plan_missing d_Plan_edit d_Plan_record d_Plan_require_idle d_Plan_state_at d_Plan_len d_Plan_str d_Plan_eq t_LAST_POSITION t_MAX_TARGETS t_MAX_PIECES t_MAX_BLOCKS t_MAX_EDITS) : FnOk P w K mg base CX0 9 f_law_do d_law_do ["_law_plan", "_law_edit_here"] (wE2 C_Plan) := by
  refine T.F_law_do.ok sc_law_do (fun vs H Q E h => ?_) (fun cdv A outer s H vs Q E hr h => ?_)
  · obtain ⟨p, t, Ls, S, Es, e, rfl, _⟩ := h
    rfl
  · obtain ⟨p, t, Ls, S, Es, e, rfl, P, few, so, ht, can, q⟩ := h
    refine ⟨_, (pss_cons (ps_asg (pv 1) (pg_tup rfl (pgs_cons (pg_name (i := 2) sc_law_do.nd rfl (Or.inl rfl)) (pgs_cons (pg_name (i := 3) sc_law_do.nd rfl (Or.inl rfl)) pgs_nil))))
      (pss_cons (ps_if (pt_cmpR op_eq (pv 2) pe_str (nomark _))
      (pss_one (ps_ret (pe_meth (pv 0) T.cl_Plan T.m_Plan_add_target (ok_Plan_add_target T) (hr.mono (by decide)) T.b_Plan_add_target .nil pass0 (pa_cons (pv 3) pa_nil))))
      pss_nil)
      (pss_cons (ps_if (pt_cmpR op_eq (pv 2) pe_str (nomark _))
      (pss_one (ps_ret (pe_meth (pv 0) T.cl_Plan T.m_Plan_remove_target (ok_Plan_remove_target T) (hr.mono (by decide)) T.b_Plan_remove_target .nil pass0 (pa_cons (pv 3) pa_nil))))
      pss_nil)
      (pss_cons (ps_if (pt_cmpR op_eq (pv 2) pe_str (nomark _))
      (pss_one (ps_ret (pe_meth (pv 0) T.cl_Plan T.m_Plan_add_piece (ok_Plan_add_piece T) (hr.mono (by decide)) T.b_Plan_add_piece .nil pass0 (pa_cons (pv 3) pa_nil))))
      pss_nil)
      (pss_one (ps_ret (pe_meth (pv 0) T.cl_Plan T.m_Plan_remove_piece (ok_Plan_remove_piece T) (hr.mono (by decide)) T.b_Plan_remove_piece .nil pass0 (pa_cons (pv 3) pa_nil)))))))), ?_⟩
    obtain ⟨a, h1, h2⟩ := ht
    obtain ⟨dx, _, _, _, _, hp, _⟩ := id P.ex
    refine ⟨.ref t, rfl, t, _, rfl, SqT.of h1, rfl, .str (wordE e), [.ref a], rfl, .ref a, [], rfl, rfl, ?_⟩
    obtain ⟨add, pc, qq⟩ := e
    have w1 : ¬ (("add_piece" : Str) = "add_target") := by decide +kernel
    have w2 : ¬ (("remove_target" : Str) = "add_target") := by decide +kernel
    have w3 : ¬ (("remove_piece" : Str) = "add_target") := by decide +kernel
    have w4 : ¬ (("add_piece" : Str) = "remove_target") := by decide +kernel
    have w5 : ¬ (("remove_piece" : Str) = "remove_target") := by decide +kernel
    have w6 : ¬ (("remove_piece" : Str) = "add_piece") := by decide +kernel
    cases add with
    | true =>
      cases pc with
      | false =>
        refine ⟨_, rfl, rfl, _, rfl, ite2 (fun _ => ?_) (fun z => absurd (decide_eq_true rfl) z)⟩
        exact ⟨.ref p, rfl, p, dx, _, rfl, hp, lk_no _ _ _ (by decide +kernel), .ref a, rfl, p, a, Ls, S, Es, qq, rfl, P, few, so, h2, can, q⟩
      | true =>
        refine ⟨_, rfl, rfl, _, rfl, ite2 (fun z => absurd z (wneq w1)) (fun _ => ?_)⟩
        refine ⟨_, rfl, rfl, _, rfl, ite2 (fun z => absurd z (wneq w4)) (fun _ => ?_)⟩
        refine ⟨_, rfl, rfl, _, rfl, ite2 (fun _ => ?_) (fun z => absurd (decide_eq_true rfl) z)⟩
        exact ⟨.ref p, rfl, p, dx, _, rfl, hp, lk_no _ _ _ (by decide +kernel), .ref a, rfl, p, a, Ls, S, Es, qq, rfl, P, few, so, h2, can, q⟩
    | false =>
      cases pc with
      | false =>
        refine ⟨_, rfl, rfl, _, rfl, ite2 (fun z => absurd z (wneq w2)) (fun _ => ?_)⟩
        refine ⟨_, rfl, rfl, _, rfl, ite2 (fun _ => ?_) (fun z => absurd (decide_eq_true rfl) z)⟩
        exact ⟨.ref p, rfl, p, dx, _, rfl, hp, lk_no _ _ _ (by decide +kernel), .ref a, rfl, p, a, Ls, S, Es, qq, rfl, P, few, so, h2, can, q⟩
      | true =>
        refine ⟨_, rfl, rfl, _, rfl, ite2 (fun z => absurd z (wneq w3)) (fun _ => ?_)⟩
        refine ⟨_, rfl, rfl, _, rfl, ite2 (fun z => absurd z (wneq w5)) (fun _ => ?_)⟩
        refine ⟨_, rfl, rfl, _, rfl, ite2 (fun z => absurd z (wneq w6)) (fun _ => ?_)⟩
        exact ⟨.ref p, rfl, p, dx, _, rfl, hp, lk_no _ _ _ (by decide +kernel), .ref a, rfl, p, a, Ls, S, Es, qq, rfl, P, few, so, h2, can, q⟩
theorem LawS.off {H : Hp} {l : Addr} {S : St2} (h : LawS H l S) {u : Addr} (n : H u = none) : u ≠ l := by
  obtain ⟨x, y, xs, ys, e, _⟩ := h.ex
  exact (ne_of_none e n).symm
/-! ### what is told of a plan -/
theorem sm_word : ∀ add pc : Bool, Sm 100 0 (.str (wordOf add pc))
  | true, true => ⟨rfl, by decide +kernel, by decide +kernel, Nat.le_refl _⟩
  | true, false => ⟨rfl, by decide +kernel, by decide +kernel, Nat.le_refl _⟩
  | false, true => ⟨rfl, by decide +kernel, by decide +kernel, Nat.le_refl _⟩
  | false, false => ⟨rfl, by decide +kernel, by decide +kernel, Nat.le_refl _⟩
theorem sm_pr {q : Int × Int} (h : (0 ≤ q.1 ∧ q.1 ≤ q.2) ∧ q.2 ≤ 1000000000000) : Sm 202 1 (pairD q) := by
  refine (Sm.tup (n := 100) (dp := 0) fun x hx => ?_).mono (by show 2 * 101 ≤ 202; decide) (Nat.le_refl _)
  have b1 : q.1.natAbs < 10 ^ 30 := Nat.lt_of_le_of_lt (show q.1.natAbs ≤ 1000000000000 by omega) (by decide)
  have b2 : q.2.natAbs < 10 ^ 30 := Nat.lt_of_le_of_lt (show q.2.natAbs ≤ 1000000000000 by omega) (by decide)
  rcases List.mem_cons.mp hx with rfl | hx
  · exact Sm.int b1
  · rw [List.mem_singleton.mp hx]
    exact Sm.int b2
def EdOk (e : Ed) : Prop := (0 ≤ e.q.1 ∧ e.q.1 ≤ e.q.2) ∧ e.q.2 ≤ 1000000000000
theorem sm_ed {e : Ed} (h : EdOk e) : Sm 406 2 (edD e) := by
  refine (Sm.tup (n := 202) (dp := 1) fun x hx => ?_).mono (by show 2 * 203 ≤ 406; decide) (Nat.le_refl _)
  rcases List.mem_cons.mp hx with rfl | hx
  · exact (sm_word _ _).mono (by decide) (by decide)
  · rw [List.mem_singleton.mp hx]
    exact sm_pr h
theorem sm_prs {n : Nat} {ps : List (Int × Int)} (h : SideOk n ps) (hn : n ≤ 30) : Sm 6090 2 (.tuple (ps.map pairD)) := by
  refine (Sm.tup (n := 202) (dp := 1) fun x hx => ?_).mono (by rw [List.length_map]; have := h.few; omega) (by decide)
  obtain ⟨q, hq, rfl⟩ := List.mem_map.mp hx
  exact sm_pr (h.ok q hq)
theorem sm_eds {es : List Ed} (h : ∀ e ∈ es, EdOk e) (l : es.length ≤ 60) : Sm 24420 3 (.tuple (es.map edD)) := by
  refine (Sm.tup (n := 406) (dp := 2) fun x hx => ?_).mono (by rw [List.length_map]; omega) (by decide)
  obtain ⟨q, hq, rfl⟩ := List.mem_map.mp hx
  exact sm_ed (h q hq)
def told3 (S : St2) (Es : List Ed) : PyData := .list [.tuple (S.1.map pairD), .tuple (S.2.map pairD), .tuple (Es.map edD)]
theorem sm_told3 {S : St2} {Es : List Ed} (so : StOk S) (h : ∀ e ∈ Es, EdOk e) (l : Es.length ≤ 60) : Sm 100000 4 (told3 S Es) := by
  refine (Sm.lst (n := 24420) (dp := 3) fun x hx => ?_).mono (by show 3 * 24421 ≤ 100000; decide) (Nat.le_refl _)
  rcases List.mem_cons.mp hx with rfl | hx
  · exact (sm_prs so.t (by decide)).mono (by decide) (by decide)
  rcases List.mem_cons.mp hx with rfl | hx
  · exact (sm_prs so.p (by decide)).mono (by decide) (by decide)
  · rw [List.mem_singleton.mp hx]
    exact sm_eds h l
theorem big_ok {n : Nat} (h : n < 100) : ((n : Nat) : Int).natAbs.log2 < 1920 := by
  rw [Int.natAbs_natCast]
  rcases Nat.eq_zero_or_pos n with z | z
  · rw [z]
    decide
  · exact (Nat.log2_lt (by omega)).mpr (Nat.lt_of_lt_of_le h (by decide +kernel))
def sp_law_right (C : Addr) : Sp := fun vs H Q _ => ∃ (p l le : Addr) (Ls : List St2) (S : St2) (Es : List Ed) (evs : List V), vs = [.ref p, .ref l, .ref le] ∧ PlanAt C H p (Ls ++ [S]) Es ∧ StOk S ∧ LawS H l S ∧ H le = some (.lst evs) ∧ Eds H evs Es ∧ Es.length ≤ 60 ∧ (∀ e ∈ Es, EdOk e) ∧
  ∀ H', Same H H' → Q (.bl true) H'
def sp_law_begun : Sp := fun vs H Q _ => ∃ (d : Addr) (c : Addr × Addr) (n most : Int), vs = [.ref d, .int most] ∧ Dk H d c n ∧ 0 ≤ n ∧ n < 800000 ∧ 1 ≤ most ∧ most ≤ 8 ∧
  ∀ H' g l ls us cs S m, Kp d c H H' → Dk H' d c m → n ≤ m → m ≤ n + 24 + most → H' g = some (.lst [.ref l, .ref ls]) → H' l = some (.lst us) → Ivs H' us cs → Cells cs → 0 < cs.length → (cs.length : Int) ≤ most → (∀ q ∈ cs, q.2 < 1000000 + 100000000000 * most) → Off d c l → LawS H' ls S → Off d c ls → ls ≠ l → S.1.Pairwise ltP → S.2.Pairwise ltP → (∀ q ∈ S.1, OfCells cs q) → (∀ q ∈ S.2, OfCells cs q) → S.1.length ≤ 6 → S.2.length ≤ 4 → Q (.ref g) H'
theorem ok_law_begun (T : Tx K mg f_is_number f_is_position f_is_tuple_of f_is_interval f_ascending_error f_targets_error f_is_pieces f_has_position f_contains f_pieces_inside f_first_gap f_find_missing f_without_item f_with_interval f_without_interval f_edited_state f_depth_changes f_find_blocks f_serves f_conflict f_demands_at_blocks f_is_open f_open_demands f_shadow_target f_require_few_blocks f_decisive_demands f_largest_independent f_unserved_demands f_helpful_piece f_smallest_solution f_count_needed f_solve f_law_deck f_law_draw f_law_line f_law_interval f_law_intervals f_law_served f_law_options f_law_conflict f_law_most f_law_needed f_law_edit f_law_after f_law_do f_law_begun f_law_generated f_law_solution_right f_law f_Plan_init f_Plan_add_target f_Plan_add_piece f_Plan_remove_target f_Plan_remove_piece f_Plan_targets f_Plan_pieces f_Plan_needed f_Plan_solution f_Plan_missing f_Plan_edit f_Plan_record f_Plan_require_idle f_Plan_state_at f_Plan_len f_Plan_str f_Plan_eq C_Plan d_is_number d_is_position d_is_tuple_of d_is_interval d_ascending_error d_targets_error d_is_pieces d_has_position d_contains d_pieces_inside d_first_gap d_find_missing d_without_item d_with_interval d_without_interval d_edited_state d_depth_changes d_find_blocks d_serves d_conflict d_demands_at_blocks d_is_open d_open_demands d_shadow_target d_require_few_blocks d_decisive_demands d_largest_independent d_unserved_demands d_helpful_piece d_smallest_solution d_count_needed d_solve d_law_deck d_law_draw d_law_line d_law_interval d_law_intervals d_law_served d_law_options d_law_conflict d_law_most d_law_needed d_law_edit d_law_after d_law_do d_law_begun d_law_generated d_law_solution_right d_law d_Plan_init d_Plan_add_target d_Plan_add_piece d_Plan_remove_target d_Plan_remove_piece d_Plan_targets d_Plan_pieces d_Plan_needed d_Plan_solution d_Plan_missing d_Plan_edit d_Plan_record d_Plan_require_idle d_Plan_state_at d_Plan_len d_Plan_str d_Plan_eq t_LAST_POSITION t_MAX_TARGETS t_MAX_PIECES t_MAX_BLOCKS t_MAX_EDITS) : FnOk P w K mg base CX0 4 f_law_begun d_law_begun ["_law_deck_here", "_law_most_here"] sp_law_begun := by
  refine T.F_law_begun.ok sc_law_begun (fun vs H Q E h => ?_) (fun cdv A outer s H vs Q E hr h => ?_)
  · obtain ⟨d, c, n, most, rfl, _⟩ := h
    rfl
  · obtain ⟨d, c, n, most, rfl, dk, n0, n1, m0, m1, q⟩ := h
    refine ⟨_, (pss_cons (ps_set (i := 2) sc_law_begun.nd rfl (Or.inl rfl) (pe_call (ok_law_line T) (hr.mono (by decide)) (by rfl) T.g_law_line T.F_law_line.kp T.b_law_line .nil pass0 (pa_cons (pv 0) (pa_cons (pv 1) pa_nil))))
      (pss_one (ps_ret (pe_lst (pa_cons (pv 2) (pa_cons (pe_lst (pa_cons (pe_call (ok_law_intervals T) (hr.mono (by decide)) (by rfl) T.g_law_intervals T.F_law_intervals.kp T.b_law_intervals .nil pass0 (pa_cons (pv 0) (pa_cons (pv 2) (pa_cons pe_int pa_nil)))) (pa_cons (pe_call (ok_law_intervals T) (hr.mono (by decide)) (by rfl) T.g_law_intervals T.F_law_intervals.kp T.b_law_intervals .nil pass0 (pa_cons (pv 0) (pa_cons (pv 2) (pa_cons pe_int pa_nil)))) pa_nil))) pa_nil)))))), ?_⟩
    refine ⟨.ref d, rfl, .int most, rfl, d, c, n, most, rfl, dk, n0, by omega, m0, by omega, fun H1 l us cs m2 kp1 dk1 a0 a1 el iv cells l0 l1 top off => ?_⟩
    have tc : ∀ q ∈ cs, q.2 < 1000000000000 := fun q hq => by
      have := top q hq
      omega
    refine ⟨.ref l, rfl, .ref d, rfl, .ref l, rfl, d, c, m2, l, us, cs, 6, rfl, dk1, by omega, by omega, off, el, iv, cells, l0, by omega, tc, by decide, by decide, fun H2 t1 w1 p1 m3 kp2 dk2 b0 b1 e1 i1 s1 o1 f1 => ?_⟩
    have el2 := kp2.keep off el
    have iv2 := iv.tps (kp2.tps dk1)
    refine ⟨.ref d, rfl, .ref l, rfl, d, c, m3, l, us, cs, 4, rfl, dk2, by omega, by omega, off, el2, iv2, cells, l0, by omega, tc, by decide, by decide, fun H3 t2 w2 p2 m4 kp3 dk3 c0 c1 e2 i2 s2 o2 f2 => ?_⟩
    have t3 := kp3.tps dk2
    have el3 := kp3.keep off el2
    refine ⟨by show 2 ≤ sizeLine; decide, fun ls nls => ?_⟩
    have off2 := dk3.off nls
    have nl : ls ≠ l := (ne_of_none el3 nls).symm
    have s4 := same_new (o := .lst [.ref t1, .ref t2]) nls
    have els := upd_same (H := H3) (a := ls) (o := .lst [.ref t1, .ref t2])
    generalize upd H3 ls (.lst [.ref t1, .ref t2]) = H4 at *
    refine ⟨by show 2 ≤ sizeLine; decide, fun g ng => ?_⟩
    have s5 := same_new (o := .lst [.ref l, .ref ls]) ng
    have eg := upd_same (H := H4) (a := g) (o := .lst [.ref l, .ref ls])
    generalize upd H4 g (.lst [.ref l, .ref ls]) = H5 at *
    have s35 := s4.trans s5
    exact q H5 g l ls us cs (p1, p2) m4 ((kp1.trans kp2).trans (kp3.trans (Kp.same s35))) (dk3.kept s35) (by omega) (by omega) eg (s35 _ _ el3) ((iv2.tps t3).same s35) cells l0 l1 top off ⟨_, _, _, _, s5 _ _ els, s35 _ _ (t3 _ _ e1), (i1.tps t3).same s35, s35 _ _ e2, i2.same s35⟩ off2 nl s1 s2 o1 o2 (by show p1.length ≤ 6; omega) (by show p2.length ≤ 4; omega)
theorem OfCells.edok {cs : List (Int × Int)} (h : Cells cs) {q : Int × Int} (o : OfCells cs q) (top : ∀ z ∈ cs, z.2 < 1000000000000) : (0 ≤ q.1 ∧ q.1 ≤ q.2) ∧ q.2 ≤ 1000000000000 := by
  have := o.ok h top
  omega
theorem cells_side {cs ps : List (Int × Int)} {n : Nat} (h : Cells cs) (top : ∀ z ∈ cs, z.2 < 1000000000000) (asc : ps.Pairwise ltP) (o : ∀ q ∈ ps, OfCells cs q) (l : ps.length ≤ n) : SideOk n ps := ⟨asc, fun q hq => (o q hq).edok h top, l⟩

/-! ### a plan and a law's own state, side by side -/
theorem PlanAt.kp {C p : Addr} {d : Addr} {c : Addr × Addr} {n : Int} {H H' : Hp} {Ss : List St2} {Es : List Ed} (P : PlanAt C H p Ss Es) (k : Kp d c H H') (dk : Dk H d c n) : PlanAt C H' p Ss Es := P.keep (k.tps dk) fun C dx fs e => k.keep (dk.noti e) e
theorem LawS.ne {H : Hp} {l a : Addr} {S : St2} (h : LawS H l S) (n : H a = none) : l ≠ a := by
  obtain ⟨_, _, _, _, e, _⟩ := h.ex
  exact ne_of_none e n
structure Run (C : Addr) (H : Hp) (d : Addr) (c : Addr × Addr) (l le ls p : Addr) (us : List V) (cs : List (Int × Int)) (Ls : List St2) (S : St2) (Es : List Ed) (evs : List V) : Prop where
  el : H l = some (.lst us)
  iv : Ivs H us cs
  st : LawS H ls S
  P : PlanAt C H p (Ls ++ [S]) Es
  ele : H le = some (.lst evs)
  ev : Eds H evs Es
  offl : Off d c l
  offe : Off d c le
  offs : Off d c ls
  nl : l ≠ le
  ns : ls ≠ le
  so : StOk S
  eok : ∀ e ∈ Es, EdOk e
section
variable {C l le ls p : Addr} {d : Addr} {c : Addr × Addr} {n : Int} {H H' : Hp} {us evs : List V} {cs : List (Int × Int)} {Ls : List St2} {S : St2} {Es : List Ed}
theorem Run.keep (R : Run C H d c l le ls p us cs Ls S Es evs) (t : Tps H H') (kl : ∀ a us, (a = l ∨ a = le ∨ a = ls) → H a = some (.lst us) → H' a = some (.lst us)) (ki : ∀ C dx fs, H p = some (.ins C dx fs) → H' p = some (.ins C dx fs)) : Run C H' d c l le ls p us cs Ls S Es evs :=
  ⟨kl _ _ (.inl rfl) R.el, R.iv.tps t, R.st.keep t (fun us e => kl _ _ (.inr (.inr rfl)) e), R.P.keep t ki, kl _ _ (.inr (.inl rfl)) R.ele, R.ev.tps t, R.offl, R.offe, R.offs, R.nl, R.ns, R.so, R.eok⟩
theorem Run.same (R : Run C H d c l le ls p us cs Ls S Es evs) (s : Same H H') : Run C H' d c l le ls p us cs Ls S Es evs := R.keep (Tps.same s) (fun _ _ _ e => s _ _ e) (fun _ _ _ e => s _ _ e)
theorem Run.kp (R : Run C H d c l le ls p us cs Ls S Es evs) (k : Kp d c H H') (dk : Dk H d c n) : Run C H' d c l le ls p us cs Ls S Es evs :=
  R.keep (k.tps dk) (fun a us h e => by
    rcases h with rfl | rfl | rfl
    · exact k.keep R.offl e
    · exact k.keep R.offe e
    · exact k.keep R.offs e) (fun C dx fs e => k.keep (dk.noti e) e)
end
theorem side_r {r : Int} (h0 : 0 ≤ r) (h1 : r < 2) : ∃ pc : Bool, r = if pc = true then 1 else 0 := by
  have : r = 0 ∨ r = 1 := by omega
  rcases this with rfl | rfl
  · exact ⟨false, rfl⟩
  · exact ⟨true, rfl⟩
theorem sm_len {n : Nat} (h : n ≤ 60) : Sm 100 0 (.int (n : Nat)) := Sm.int (by
  rw [Int.natAbs_natCast]
  exact Nat.lt_of_le_of_lt h (by decide))
theorem lenS_add {S : St2} {pc : Bool} {q : Int × Int} : (stepS S ⟨true, pc, q⟩).1.length ≤ S.1.length + 1 ∧ (stepS S ⟨true, pc, q⟩).2.length ≤ S.2.length + 1 := by
  cases pc with
  | true => exact ⟨Nat.le_succ _, Nat.le_of_eq len_insI⟩
  | false => exact ⟨Nat.le_of_eq len_insI, Nat.le_succ _⟩

/-! ### an edit that can be done -/
/-- a state of intervals of whole cells -/
structure StC (cs : List (Int × Int)) (S : St2) : Prop where
  so : StOk S
  oc : ∀ pc, ∀ q ∈ sideS pc S, OfCells cs q
theorem mem_step {S : St2} {e : Ed} {pc : Bool} {q : Int × Int} (h : q ∈ sideS pc (stepS S e)) : q ∈ sideS pc S ∨ q = e.q := by
  obtain ⟨add, c, x⟩ := e
  have up : ∀ ps : List (Int × Int), q ∈ upI add x ps → q ∈ ps ∨ q = x := fun ps h => by
    cases add with
    | true => exact (mem_insI.mp h).symm
    | false => exact .inl (wo_sub h)
  cases c with
  | true =>
    cases pc with
    | true => exact up _ h
    | false => exact .inl h
  | false =>
    cases pc with
    | true => exact .inl h
    | false => exact up _ h
theorem StC.step {cs : List (Int × Int)} {S : St2} {e : Ed} (h : StC cs S) (c : Can S e) (o : OfCells cs e.q) : StC cs (stepS S e) :=
  ⟨h.so.step c, fun pc q hq => (mem_step hq).elim (h.oc pc q) fun z => z ▸ o⟩
def sp_law_edit : Sp := fun vs H Q _ => ∃ (d : Addr) (c : Addr × Addr) (n : Int) (l : Addr) (us : List V) (cs : List (Int × Int)) (ls : Addr) (S : St2), vs = [.ref d, .ref l, .ref ls] ∧ Dk H d c n ∧ 0 ≤ n ∧ n < 800000 ∧ Off d c l ∧ H l = some (.lst us) ∧ Ivs H us cs ∧ Cells cs ∧ 0 < cs.length ∧ cs.length ≤ 9 ∧ (∀ q ∈ cs, q.2 < 1000000000000) ∧ Off d c ls ∧ LawS H ls S ∧ StC cs S ∧
  ∀ H' t e m, Kp d c H H' → Dk H' d c m → n ≤ m → m ≤ n + 4 → EdAt H' t e → Can S e → OfCells cs e.q → (e.add = true → (sideS e.pc S).length ≤ 20) → Q (.ref t) H'
theorem ok_law_edit (T : Tx K mg f_is_number f_is_position f_is_tuple_of f_is_interval f_ascending_error f_targets_error f_is_pieces f_has_position f_contains f_pieces_inside f_first_gap f_find_missing f_without_item f_with_interval f_without_interval f_edited_state f_depth_changes f_find_blocks f_serves f_conflict f_demands_at_blocks f_is_open f_open_demands f_shadow_target f_require_few_blocks f_decisive_demands f_largest_independent f_unserved_demands f_helpful_piece f_smallest_solution f_count_needed f_solve f_law_deck f_law_draw f_law_line f_law_interval f_law_intervals f_law_served f_law_options f_law_conflict f_law_most f_law_needed f_law_edit f_law_after f_law_do f_law_begun f_law_generated f_law_solution_right f_law f_Plan_init f_Plan_add_target f_Plan_add_piece f_Plan_remove_target f_Plan_remove_piece f_Plan_targets f_Plan_pieces f_Plan_needed f_Plan_solution f_Plan_missing f_Plan_edit f_Plan_record f_Plan_require_idle f_Plan_state_at f_Plan_len f_Plan_str f_Plan_eq C_Plan d_is_number d_is_position d_is_tuple_of d_is_interval d_ascending_error d_targets_error d_is_pieces d_has_position d_contains d_pieces_inside d_first_gap d_find_missing d_without_item d_with_interval d_without_interval d_edited_state d_depth_changes d_find_blocks d_serves d_conflict d_demands_at_blocks d_is_open d_open_demands d_shadow_target d_require_few_blocks d_decisive_demands d_largest_independent d_unserved_demands d_helpful_piece d_smallest_solution d_count_needed d_solve d_law_deck d_law_draw d_law_line d_law_interval d_law_intervals d_law_served d_law_options d_law_conflict d_law_most d_law_needed d_law_edit d_law_after d_law_do d_law_begun d_law_generated d_law_solution_right d_law d_Plan_init d_Plan_add_target d_Plan_add_piece d_Plan_remove_target d_Plan_remove_piece d_Plan_targets d_Plan_pieces d_Plan_needed d_Plan_solution d_Plan_missing d_Plan_edit d_Plan_record d_Plan_require_idle d_Plan_state_at d_Plan_len d_Plan_str d_Plan_eq t_LAST_POSITION t_MAX_TARGETS t_MAX_PIECES t_MAX_BLOCKS t_MAX_EDITS) : FnOk P w K mg base CX0 3 f_law_edit d_law_edit ["_law_deck_here", "_law_line_here", "_law_state"] sp_law_edit := by
  refine T.F_law_edit.ok sc_law_edit (fun vs H Q E h => ?_) (fun cdv A outer s H vs Q E hr h => ?_)
  · obtain ⟨d, c, n, l, us, cs, ls, S, rfl, _⟩ := h
    rfl
  · obtain ⟨d, c, n, l, us, cs, ls, S, rfl, dk, n0, n1, off, el, iv, cells, l0, l1, top, offs, st, sc, q⟩ := h
    refine ⟨_, (pss_cons (ps_set (i := 3) sc_law_edit.nd rfl (Or.inl rfl) (pe_call (ok_law_draw T) (hr.mono (by decide)) (by rfl) T.g_law_draw T.F_law_draw.kp T.b_law_draw .nil pass0 (pa_cons (pv 0) (pa_cons pe_int pa_nil))))
      (pss_cons (ps_set (i := 4) sc_law_edit.nd rfl (Or.inl rfl) (pe_callTy call_int1 (by rfl) T.z_int (by decide +kernel) (pa_cons (pe_cmpR op_gt (pv 3) pe_int (nomark _)) pa_nil)))
      (pss_cons (ps_set (i := 5) sc_law_edit.nd rfl (Or.inl rfl) (pe_ix ix_list (pe_lst (pa_cons (pe_lst (pa_cons pe_str (pa_cons pe_str pa_nil))) (pa_cons (pe_lst (pa_cons pe_str (pa_cons pe_str pa_nil))) pa_nil))) (pv 4) (fun _ _ => rfl)))
      (pss_cons (ps_set (i := 6) sc_law_edit.nd rfl (Or.inl rfl) (pe_call (ok_law_interval T) (hr.mono (by decide)) (by rfl) T.g_law_interval T.F_law_interval.kp T.b_law_interval .nil pass0 (pa_cons (pv 0) (pa_cons (pv 1) pa_nil))))
      (pss_cons (ps_set (i := 7) sc_law_edit.nd rfl (Or.inl rfl) (pe_ix ix_list (pv 2) (pv 4) (fun _ _ => rfl)))
      (pss_cons (ps_if (pt_cmpR (op_inT (units65 hr)) (pv 6) (pv 7) (by rfl))
      (pss_one (ps_ret (pe_tup (pa_cons (pe_ix ix_list (pv 5) pe_int (fun _ _ => rfl)) (pa_cons (pv 6) pa_nil)))))
      pss_nil)
      (pss_cons (ps_if (PW.pt (pw_and (PW.pt (pw_or (pt_cmpR op_eq (pe_op op_mod (pv 3) pe_int) pe_int (nomark _)) (pw_or1 (pt_cmpR op_gt (pe_callB call_len_seq (by rfl) T.z_len PySem.boot_len (pa_cons (pv 7) pa_nil)) pe_int (nomark _))))) (pw_and1 (pt_cmpR (show OpR _ (compareOp .NotEq) (rNeE K) from op_neE hr.units0) (pv 7) (pe_tup pa_nil) (nomark _)))))
      (pss_one (ps_ret (pe_tup (pa_cons (pe_ix ix_list (pv 5) pe_int (fun _ _ => rfl)) (pa_cons (pe_ix ix_tup (pv 7) (pe_call (ok_law_draw T) (hr.mono (by decide)) (by rfl) T.g_law_draw T.F_law_draw.kp T.b_law_draw .nil pass0 (pa_cons (pv 0) (pa_cons (pe_callB call_len_seq (by rfl) T.z_len PySem.boot_len (pa_cons (pv 7) pa_nil)) pa_nil))) (fun _ _ => rfl)) pa_nil)))))
      pss_nil)
      (pss_one (ps_ret (pe_tup (pa_cons (pe_ix ix_list (pv 5) pe_int (fun _ _ => rfl)) (pa_cons (pv 6) pa_nil)))))))))))), ?_⟩
    refine ⟨.ref d, rfl, d, c, n, 6, rfl, dk, n0, by omega, by decide, by decide, fun H1 r kp1 dk1 r0 r1 => ?_⟩
    refine ⟨.int r, rfl, _, _, rfl, rfl, ?_⟩
    obtain ⟨pc, epc⟩ : ∃ pc : Bool, decide (r > 2) = pc := ⟨_, rfl⟩
    refine .inr ⟨pc, congrArg (fun z => [V.bl z]) epc, ?_⟩
    refine ⟨by show 2 ≤ sizeLine; decide, fun w1 nw1 => ?_⟩
    have off1 := dk1.off nw1
    have s2 := same_new (o := .lst [.str "add_target", .str "remove_target"]) nw1
    have ew1 := upd_same (H := H1) (a := w1) (o := .lst [.str "add_target", .str "remove_target"])
    generalize upd H1 w1 (.lst [.str "add_target", .str "remove_target"]) = H2 at *
    have dk2 := dk1.kept s2
    refine ⟨by show 2 ≤ sizeLine; decide, fun w2 nw2 => ?_⟩
    have off2 := dk2.off nw2
    have s3 := same_new (o := .lst [.str "add_piece", .str "remove_piece"]) nw2
    have ew2 := upd_same (H := H2) (a := w2) (o := .lst [.str "add_piece", .str "remove_piece"])
    generalize upd H2 w2 (.lst [.str "add_piece", .str "remove_piece"]) = H3 at *
    refine ⟨by show 2 ≤ sizeLine; decide, fun w3 nw3 => ?_⟩
    have s4 := same_new (o := .lst [.ref w1, .ref w2]) nw3
    have ew3 := upd_same (H := H3) (a := w3) (o := .lst [.ref w1, .ref w2])
    generalize upd H3 w3 (.lst [.ref w1, .ref w2]) = H4 at *
    have s34 := s3.trans s4
    have s24 := s2.trans s34
    obtain ⟨W, aW, eW, offW⟩ : ∃ W, atI [V.ref w1, .ref w2] (if pc = true then 1 else 0) = some (.ref W) ∧ H4 W = some (.lst [.str (wordOf true pc), .str (wordOf false pc)]) ∧ Off d c W := by
      cases pc
      · exact ⟨w1, rfl, s34 _ _ ew1, off1⟩
      · exact ⟨w2, rfl, s4 _ _ ew2, off2⟩
    refine ⟨.int _, rfl, w3, _, _, .ref W, rfl, rfl, SqL.of ew3, aW, ?_⟩
    have kp4 : Kp d c H H4 := kp1.trans (Kp.same s24)
    have dk4 := dk1.kept s24
    refine ⟨.ref d, rfl, .ref l, rfl, d, c, n + 1, l, us, cs, rfl, dk4, by omega, by omega, off, kp4.keep off el, iv.tps (kp4.tps dk), l0, l1, fun H5 v vx vy kp5 dk5 ev oc => ?_⟩
    have kp := kp4.trans kp5
    have eW5 := kp5.keep offW eW
    have st5 : LawS H5 ls S := st.keep (kp.tps dk) fun us e => kp.keep offs e
    obtain ⟨sus, x, xs, els, us2, ax, ixn, hx, ix, put⟩ := st5.side pc
    have lx := ix.length
    refine ⟨.ref ls, rfl, .int _, rfl, ls, sus, _, .ref x, rfl, rfl, SqL.of els, ax, ?_⟩
    have okv := oc.edok cells top
    have fin : ∀ (H6 : Hp) (t v : Addr) (add : Bool) (vx vy : Int) (m : Int), Kp d c H H6 → Dk H6 d c m → n ≤ m → m ≤ n + 4 → H6 t = none → H6 v = some (.tup [.int vx, .int vy]) → Can S ⟨add, pc, (vx, vy)⟩ → OfCells cs (vx, vy) → (add = true → (sideS pc S).length ≤ 20) → Q (.ref t) (upd H6 t (.tup [.str (wordOf add pc), .ref v])) := by
      intro H6 t v add vx vy m k6 d6 a0 a1 nt hv can oc l20
      have s7 := same_new (o := .tup [.str (wordOf add pc), .ref v]) nt
      exact q _ t ⟨add, pc, (vx, vy)⟩ m (k6.trans (Kp.same s7)) (d6.kept s7) a0 a1 ⟨v, upd_same, s7 _ _ hv⟩ can oc l20
    refine ⟨.ref v, rfl, .ref x, rfl, _, (sideS pc S).map pairD, dp2 ev, .tup (SqT.of hx) ix.dp, rfl, shaped_pairs _, _, rfl, ?_⟩
    rw [any_pair]
    refine ite2 (fun c => ?_) (fun c => ?_)
    · have hin : (vx, vy) ∈ sideS pc S := of_decide_eq_true c
      refine ⟨.ref W, rfl, W, _, 1, _, rfl, rfl, SqL.of eW5, rfl, .ref v, rfl, by show 2 ≤ sizeLine; decide, fun t nt => ?_⟩
      exact fin H5 t v false vx vy _ kp dk5 (by omega) (by omega) nt ev ⟨okv, fun z => (nomatch z), fun _ => hin⟩ oc (fun z => nomatch z)
    have nin : (vx, vy) ∉ sideS pc S := fun z => c (decide_eq_true z)
    clear c put
    have can20 : (sideS pc S).length ≤ 20 → Can S ⟨true, pc, (vx, vy)⟩ := fun l => ⟨okv, fun _ => ⟨nin, by show (sideS pc S).length < (if pc = true then 30 else 24); split <;> omega⟩, fun z => nomatch z⟩
    refine ⟨.int r, rfl, _, _, rfl, rfl, (by show (0 : Int) < 3; decide), rfl, _, rfl, ite2 (fun _ => ?_) (fun _ => ⟨.ref x, rfl, x, xs, rfl, .inr (SqT.of hx), _, _, rfl, rfl, _, rfl, ite2 (fun _ => ?_) (fun c => ?_)⟩)⟩
    rotate_left 2
    · have c : ¬ ((xs.length : Int) > 20) := fun z => c (decide_eq_true z)
      refine iteF ⟨.ref W, rfl, W, _, 0, _, rfl, rfl, SqL.of eW5, rfl, .ref v, rfl, by show 2 ≤ sizeLine; decide, fun t nt => ?_⟩
      exact fin H5 t v true vx vy _ kp dk5 (by omega) (by omega) nt ev (can20 (by omega)) oc (fun _ => by omega)
    all_goals
      refine ⟨.ref x, rfl, by show 0 ≤ sizeLine; decide, fun e ne => ?_⟩
      have s6 := same_new (o := .tup []) ne
      have ee := upd_same (H := H5) (a := e) (o := .tup [])
      generalize upd H5 e (.tup []) = H6 at *
      refine ⟨x, e, xs, rfl, rfl, SqT.of (s6 _ _ hx), SqT.of ee, _, rfl, ?_⟩
      have kp6 := kp.trans (Kp.same s6)
      have dk6 := dk5.kept s6
      cases xs with
      | nil =>
        have lx : 0 = (sideS pc S).length := lx
        refine iteF ⟨.ref W, rfl, W, _, 0, _, rfl, rfl, SqL.of (s6 _ _ eW5), rfl, .ref v, rfl, by show 2 ≤ sizeLine; decide, fun t nt => ?_⟩
        exact fin H6 t v true vx vy _ kp6 dk6 (by omega) (by omega) nt (s6 _ _ ev) (can20 (by omega)) oc (fun _ => by omega)
      | cons x0 xr =>
        refine iteT ⟨.ref W, rfl, W, _, 1, _, rfl, rfl, SqL.of (s6 _ _ eW5), rfl, .ref x, rfl, .ref d, rfl, .ref x, rfl, x, _, rfl, .inr (SqT.of (s6 _ _ hx)), d, c, _, _, rfl, dk6, by omega, by omega, by rw [List.length_cons]; omega, by (have := (sc.so.side pc).few; omega), fun H7 j kp7 dk7 j0 j1 => ?_⟩
        have hx7 := kp7.tup dk6 (s6 _ _ hx)
        have gx := List.getElem?_eq_getElem (l := x0 :: xr) (i := j.toNat) (by omega)
        obtain ⟨u, ux, uy, eu, eq, hu⟩ := ((ix.same s6).tps (kp7.tps dk6)).get gx
        rw [eu] at gx
        have hm : (ux, uy) ∈ sideS pc S := List.mem_of_getElem? eq
        refine ⟨x, _, j, .ref u, rfl, rfl, SqT.of hx7, (by rw [show j = (j.toNat : Int) by omega]; exact atI_nat gx), by show 2 ≤ sizeLine; decide, fun t nt => ?_⟩
        exact fin H7 t u false ux uy _ (kp6.trans kp7) dk7 (by omega) (by omega) nt hu ⟨(sc.so.side pc).ok _ hm, fun z => (nomatch z), fun _ => hm⟩ (sc.oc pc _ hm) (fun z => nomatch z)

/-! ### needed, solution, missing -/
def sp_pneed (C : Addr) : Sp := fun vs H Q _ => ∃ (p : Addr) (v : V) (Ss : List St2) (Es : List Ed) (S : St2) (i : Nat), vs = [.ref p, v] ∧ PlanAt C H p Ss Es ∧ IsVer v Es.length i ∧ Ss[i]? = some S ∧ SolB S.1 S.2 ∧ ∀ H', Same H H' → Q (.int (needO S.1 S.2)) H'
theorem ok_Plan_needed (T : Tx K mg f_is_number f_is_position f_is_tuple_of f_is_interval f_ascending_error f_targets_error f_is_pieces f_has_position f_contains f_pieces_inside f_first_gap f_find_missing f_without_item f_with_interval f_without_interval f_edited_state f_depth_changes f_find_blocks f_serves f_conflict f_demands_at_blocks f_is_open f_open_demands f_shadow_target f_require_few_blocks f_decisive_demands f_largest_independent f_unserved_demands f_helpful_piece f_smallest_solution f_count_needed f_solve f_law_deck f_law_draw f_law_line f_law_interval f_law_intervals f_law_served f_law_options f_law_conflict f_law_most f_law_needed f_law_edit f_law_after f_law_do f_law_begun f_law_generated f_law_solution_right f_law f_Plan_init f_Plan_add_target f_Plan_add_piece f_Plan_remove_target f_Plan_remove_piece f_Plan_targets f_Plan_pieces f_Plan_needed f_Plan_solution f_Plan_missing f_Plan_edit f_Plan_record f_Plan_require_idle f_Plan_state_at f_Plan_len f_Plan_str f_Plan_eq C_Plan d_is_number d_is_position d_is_tuple_of d_is_interval d_ascending_error d_targets_error d_is_pieces d_has_position d_contains d_pieces_inside d_first_gap d_find_missing d_without_item d_with_interval d_without_interval d_edited_state d_depth_changes d_find_blocks d_serves d_conflict d_demands_at_blocks d_is_open d_open_demands d_shadow_target d_require_few_blocks d_decisive_demands d_largest_independent d_unserved_demands d_helpful_piece d_smallest_solution d_count_needed d_solve d_law_deck d_law_draw d_law_line d_law_interval d_law_intervals d_law_served d_law_options d_law_conflict d_law_most d_law_needed d_law_edit d_law_after d_law_do d_law_begun d_law_generated d_law_solution_right d_law d_Plan_init d_Plan_add_target d_Plan_add_piece d_Plan_remove_target d_Plan_remove_piece d_Plan_targets d_Plan_pieces d_Plan_needed d_Plan_solution d_Plan_missing d_Plan_edit d_Plan_record d_Plan_require_idle d_Plan_state_at d_Plan_len d_Plan_str d_Plan_eq t_LAST_POSITION t_MAX_TARGETS t_MAX_PIECES t_MAX_BLOCKS t_MAX_EDITS) : FnOk P w K mg base CX0 (lgN+6) f_Plan_needed d_Plan_needed ["self", "version"] (sp_pneed C_Plan) := by
  refine T.F_Plan_needed.ok sc_Plan_needed (fun vs H Q E h => ?_) (fun cdv A outer s H vs Q E hr h => ?_)
  · obtain ⟨p, v, Ss, Es, S, i, rfl, _⟩ := h
    rfl
  · obtain ⟨p, v, Ss, Es, S, i, rfl, P, ver, eS, B, q⟩ := h
    refine ⟨_, (pss_cons (ps_asg (pe_meth (pv 0) T.cl_Plan T.m_Plan_state_at (ok_Plan_state_at T) (hr.mono (by decide)) T.b_Plan_state_at .nil pass0 (pa_cons (pv 1) pa_nil)) (pg_tup rfl (pgs_cons (pg_name (i := 2) sc_Plan_needed.nd rfl (Or.inl rfl)) (pgs_cons (pg_name (i := 3) sc_Plan_needed.nd rfl (Or.inl rfl)) pgs_nil))))
      (pss_one (ps_ret (pe_call (ok_count_needed T) (hr.mono (by decide)) (by rfl) T.g_count_needed T.F_count_needed.kp T.b_count_needed .nil pass0 (pa_cons (pv 2) (pa_cons (pv 3) pa_nil)))))), ?_⟩
    obtain ⟨dx, a, b, us, vs, hp, _⟩ := id P.ex
    refine ⟨.ref p, rfl, p, dx, _, rfl, hp, lk_no _ _ _ (by decide +kernel), _, rfl, p, v, Ss, Es, S, i, rfl, P, ver, eS, fun t x y xs ys ht hx ix hy iy => ?_⟩
    exact ⟨t, _, rfl, SqT.of ht, rfl, .ref x, [.ref y], rfl, .ref y, [], rfl, rfl, .ref x, rfl, .ref y, rfl, x, y, xs, ys, S.1, S.2, rfl, hx, hy, ix, iy, B.good, B.lt, B.fk, B.few, B.lg, q⟩
def sp_psol (C pT : Addr) : Sp := fun vs H Q _ => ∃ (d : Addr) (c : Addr × Addr) (n : Int) (p : Addr) (v : V) (Ss : List St2) (Es : List Ed) (S : St2) (i : Nat), vs = [.ref p, v] ∧ c.2 = pT ∧ Dk H d c n ∧ PlanAt C H p Ss Es ∧ IsVer v Es.length i ∧ Ss[i]? = some S ∧ SolB S.1 S.2 ∧ ∀ H' r A, Kp d c H H' → Dk H' d c n → SolH H' r S.1 S.2 A → Q (.ref r) H'
theorem ok_Plan_solution (T : Tx K mg f_is_number f_is_position f_is_tuple_of f_is_interval f_ascending_error f_targets_error f_is_pieces f_has_position f_contains f_pieces_inside f_first_gap f_find_missing f_without_item f_with_interval f_without_interval f_edited_state f_depth_changes f_find_blocks f_serves f_conflict f_demands_at_blocks f_is_open f_open_demands f_shadow_target f_require_few_blocks f_decisive_demands f_largest_independent f_unserved_demands f_helpful_piece f_smallest_solution f_count_needed f_solve f_law_deck f_law_draw f_law_line f_law_interval f_law_intervals f_law_served f_law_options f_law_conflict f_law_most f_law_needed f_law_edit f_law_after f_law_do f_law_begun f_law_generated f_law_solution_right f_law f_Plan_init f_Plan_add_target f_Plan_add_piece f_Plan_remove_target f_Plan_remove_piece f_Plan_targets f_Plan_pieces f_Plan_needed f_Plan_solution f_Plan_missing f_Plan_edit f_Plan_record f_Plan_require_idle f_Plan_state_at f_Plan_len f_Plan_str f_Plan_eq C_Plan d_is_number d_is_position d_is_tuple_of d_is_interval d_ascending_error d_targets_error d_is_pieces d_has_position d_contains d_pieces_inside d_first_gap d_find_missing d_without_item d_with_interval d_without_interval d_edited_state d_depth_changes d_find_blocks d_serves d_conflict d_demands_at_blocks d_is_open d_open_demands d_shadow_target d_require_few_blocks d_decisive_demands d_largest_independent d_unserved_demands d_helpful_piece d_smallest_solution d_count_needed d_solve d_law_deck d_law_draw d_law_line d_law_interval d_law_intervals d_law_served d_law_options d_law_conflict d_law_most d_law_needed d_law_edit d_law_after d_law_do d_law_begun d_law_generated d_law_solution_right d_law d_Plan_init d_Plan_add_target d_Plan_add_piece d_Plan_remove_target d_Plan_remove_piece d_Plan_targets d_Plan_pieces d_Plan_needed d_Plan_solution d_Plan_missing d_Plan_edit d_Plan_record d_Plan_require_idle d_Plan_state_at d_Plan_len d_Plan_str d_Plan_eq t_LAST_POSITION t_MAX_TARGETS t_MAX_PIECES t_MAX_BLOCKS t_MAX_EDITS) (hT : TabH base mg d_helpful_piece pT) : FnOk P w K mg base CX0 (lgN+12) f_Plan_solution d_Plan_solution ["self", "version"] (sp_psol C_Plan pT) := by
  refine T.F_Plan_solution.ok sc_Plan_solution (fun vs H Q E h => ?_) (fun cdv A outer s H vs Q E hr h => ?_)
  · obtain ⟨d, c, n, p, v, Ss, Es, S, i, rfl, _⟩ := h
    rfl
  · obtain ⟨d, c, n, p, v, Ss, Es, S, i, rfl, ct, dk, P, ver, eS, B, q⟩ := h
    refine ⟨_, (pss_cons (ps_asg (pe_meth (pv 0) T.cl_Plan T.m_Plan_state_at (ok_Plan_state_at T) (hr.mono (by decide)) T.b_Plan_state_at .nil pass0 (pa_cons (pv 1) pa_nil)) (pg_tup rfl (pgs_cons (pg_name (i := 2) sc_Plan_solution.nd rfl (Or.inl rfl)) (pgs_cons (pg_name (i := 3) sc_Plan_solution.nd rfl (Or.inl rfl)) pgs_nil))))
      (pss_one (ps_ret (pe_call (ok_solve T hT) (hr.mono (by decide)) (by rfl) T.g_solve T.F_solve.kp T.b_solve .nil pass0 (pa_cons (pv 2) (pa_cons (pv 3) pa_nil)))))), ?_⟩
    obtain ⟨dx, a, b, us, vs, hp, _⟩ := id P.ex
    refine ⟨.ref p, rfl, p, dx, _, rfl, hp, lk_no _ _ _ (by decide +kernel), _, rfl, p, v, Ss, Es, S, i, rfl, P, ver, eS, fun t x y xs ys ht hx ix hy iy => ?_⟩
    exact ⟨t, _, rfl, SqT.of ht, rfl, .ref x, [.ref y], rfl, .ref y, [], rfl, rfl, .ref x, rfl, .ref y, rfl, d, c, n, x, y, xs, ys, S.1, S.2, rfl, ct, dk, hx, hy, ix, iy, B, q⟩
def sp_pmiss (C : Addr) : Sp := fun vs H Q _ => ∃ (p : Addr) (v : V) (Ss : List St2) (Es : List Ed) (S : St2) (i : Nat), vs = [.ref p, v] ∧ PlanAt C H p Ss Es ∧ IsVer v Es.length i ∧ Ss[i]? = some S ∧ StOk S ∧ ∀ H' r, Same H H' → DV H' r (missO S.2 S.1) → Q r H'
theorem ok_Plan_missing (T : Tx K mg f_is_number f_is_position f_is_tuple_of f_is_interval f_ascending_error f_targets_error f_is_pieces f_has_position f_contains f_pieces_inside f_first_gap f_find_missing f_without_item f_with_interval f_without_interval f_edited_state f_depth_changes f_find_blocks f_serves f_conflict f_demands_at_blocks f_is_open f_open_demands f_shadow_target f_require_few_blocks f_decisive_demands f_largest_independent f_unserved_demands f_helpful_piece f_smallest_solution f_count_needed f_solve f_law_deck f_law_draw f_law_line f_law_interval f_law_intervals f_law_served f_law_options f_law_conflict f_law_most f_law_needed f_law_edit f_law_after f_law_do f_law_begun f_law_generated f_law_solution_right f_law f_Plan_init f_Plan_add_target f_Plan_add_piece f_Plan_remove_target f_Plan_remove_piece f_Plan_targets f_Plan_pieces f_Plan_needed f_Plan_solution f_Plan_missing f_Plan_edit f_Plan_record f_Plan_require_idle f_Plan_state_at f_Plan_len f_Plan_str f_Plan_eq C_Plan d_is_number d_is_position d_is_tuple_of d_is_interval d_ascending_error d_targets_error d_is_pieces d_has_position d_contains d_pieces_inside d_first_gap d_find_missing d_without_item d_with_interval d_without_interval d_edited_state d_depth_changes d_find_blocks d_serves d_conflict d_demands_at_blocks d_is_open d_open_demands d_shadow_target d_require_few_blocks d_decisive_demands d_largest_independent d_unserved_demands d_helpful_piece d_smallest_solution d_count_needed d_solve d_law_deck d_law_draw d_law_line d_law_interval d_law_intervals d_law_served d_law_options d_law_conflict d_law_most d_law_needed d_law_edit d_law_after d_law_do d_law_begun d_law_generated d_law_solution_right d_law d_Plan_init d_Plan_add_target d_Plan_add_piece d_Plan_remove_target d_Plan_remove_piece d_Plan_targets d_Plan_pieces d_Plan_needed d_Plan_solution d_Plan_missing d_Plan_edit d_Plan_record d_Plan_require_idle d_Plan_state_at d_Plan_len d_Plan_str d_Plan_eq t_LAST_POSITION t_MAX_TARGETS t_MAX_PIECES t_MAX_BLOCKS t_MAX_EDITS) : FnOk P w K mg base CX0 5 f_Plan_missing d_Plan_missing ["self", "version"] (sp_pmiss C_Plan) := by
  refine T.F_Plan_missing.ok sc_Plan_missing (fun vs H Q E h => ?_) (fun cdv A outer s H vs Q E hr h => ?_)
  · obtain ⟨p, v, Ss, Es, S, i, rfl, _⟩ := h
    rfl
  · obtain ⟨p, v, Ss, Es, S, i, rfl, P, ver, eS, so, q⟩ := h
    refine ⟨_, (pss_cons (ps_asg (pe_meth (pv 0) T.cl_Plan T.m_Plan_state_at (ok_Plan_state_at T) (hr.mono (by decide)) T.b_Plan_state_at .nil pass0 (pa_cons (pv 1) pa_nil)) (pg_tup rfl (pgs_cons (pg_name (i := 2) sc_Plan_missing.nd rfl (Or.inl rfl)) (pgs_cons (pg_name (i := 3) sc_Plan_missing.nd rfl (Or.inl rfl)) pgs_nil))))
      (pss_one (ps_ret (pe_call (ok_find_missing T) (hr.mono (by decide)) (by rfl) T.g_find_missing T.F_find_missing.kp T.b_find_missing .nil pass0 (pa_cons (pv 2) (pa_cons (pv 3) pa_nil)))))), ?_⟩
    obtain ⟨dx, a, b, us, vs, hp, _⟩ := id P.ex
    refine ⟨.ref p, rfl, p, dx, _, rfl, hp, lk_no _ _ _ (by decide +kernel), _, rfl, p, v, Ss, Es, S, i, rfl, P, ver, eS, fun t x y xs ys ht hx ix hy iy => ?_⟩
    exact ⟨t, _, rfl, SqT.of ht, rfl, .ref x, [.ref y], rfl, .ref y, [], rfl, rfl, .ref x, rfl, .ref y, rfl, x, y, xs, ys, S.1, S.2, rfl, hx, ix, fun q hq => (so.t.ok q hq).1.2, hy, iy, fun q hq => ⟨(so.p.ok q hq).1, by have := so.p.ok q hq; omega⟩, by have := so.p.few; omega, q⟩
/-- a state of whole cells is within the bounds of solve -/
theorem StC.solB {cs : List (Int × Int)} {S : St2} (h : StC cs S) (cells : Cells cs) (l8 : cs.length ≤ 8) : SolB S.1 S.2 := by
  have oc : ∀ q ∈ S.1 ++ S.2, OfCells cs q := fun q hq => by
    rcases List.mem_append.mp hq with hq | hq
    · exact h.oc false q hq
    · exact h.oc true q hq
  have f1 := h.so.t.few
  have f2 := h.so.p.few
  refine ⟨fun q hq => (oc q hq).good cells, fun q hq => ?_, by omega, cells_fewk oc (by omega) (by rw [List.length_append]; omega), Nat.le_trans (cells_blocks cells oc) l8, ?_, by decide⟩
  · have := h.so.t.ok q hq
    show q.2 < 10000000000000
    omega
  · show 8 * S.1.length ≤ 192
    omega

/-! ### edits as data -/
theorem lay_ed (e : Ed) : PyData.canLay0 (edD e) = true := by
  obtain ⟨add, pc, q⟩ := e
  have h : ∀ add pc : Bool, PyData.canLay0 (.str (wordOf add pc)) = true := by decide +kernel
  show (PyData.canLay0 (.str (wordOf add pc)) && (PyData.canLay0 (.tuple [.int q.1, .int q.2]) && true)) = true
  rw [h]
  rfl
theorem shaped_eds (es : List Ed) : SeqAt.shaped (.tuple (es.map edD)) = true := by
  have h1 : ∀ es : List Ed, PyData.canLayAll0 (es.map edD) = true := by
    intro es
    induction es with
    | nil => rfl
    | cons n r ih =>
      show (PyData.canLay0 (edD n) && PyData.canLayAll0 (r.map edD)) = true
      rw [ih, lay_ed]
      rfl
  have h2 : ∀ es : List Ed, PyData.depthAll (es.map edD) ≤ 2 := by
    intro es
    induction es with
    | nil => exact Nat.zero_le _
    | cons n r ih =>
      show max 2 (PyData.depthAll (r.map edD)) ≤ 2
      omega
  unfold SeqAt.shaped
  rw [show PyData.canLay0 (.tuple (es.map edD)) = PyData.canLayAll0 (es.map edD) from rfl, h1 es]
  show decide (PyData.depthAll (es.map edD) + 1 ≤ 64) = true
  exact decide_eq_true (by have := h2 es; omega)
theorem eqv_sh {d : PyData} (h : SeqAt.shaped d = true) : PyData.eqv d d = true := SeqAt.eqv_refl d (SeqAt.canLay_of_shaped h)
theorem Eds.take {H : Hp} {us : List V} {es : List Ed} (h : Eds H us es) : ∀ k : Nat, Eds H (us.take k) (es.take k) := by
  induction h with
  | nil => intro k; cases k <;> exact .nil
  | cons e ex _ ih =>
    intro k
    cases k with
    | zero => exact .nil
    | succ k => exact .cons e ex (ih k)

/-! ### the edits of a plan, one after another -/
def runS (S : St2) (es : List Ed) : St2 := es.foldl stepS S
inductive Hist (S0 : St2) : List St2 → List Ed → St2 → Prop
  | start : Hist S0 [] [] S0
  | step {Ls : List St2} {Es : List Ed} {S : St2} {e : Ed} (h : Hist S0 Ls Es S) (c : Can S e) : Hist S0 (Ls ++ [S]) (Es ++ [e]) (stepS S e)
theorem Hist.run {S0 S : St2} {Ls : List St2} {Es : List Ed} (h : Hist S0 Ls Es S) : runS S0 Es = S := by
  induction h with
  | start => rfl
  | step h c ih =>
    unfold runS at ih ⊢
    rw [List.foldl_append, ih]
    rfl
theorem Hist.can {S0 S : St2} {Ls : List St2} {Es : List Ed} (h : Hist S0 Ls Es S) : ∀ {k : Nat} {e : Ed}, Es[k]? = some e → Can (runS S0 (Es.take k)) e := by
  induction h with
  | start => intro k e h; cases h
  | @step Ls Es S x h c ih =>
    intro k e he
    rcases Nat.lt_or_ge k Es.length with z | z
    · rw [List.getElem?_append_left z] at he
      rw [List.take_append_of_le_length (by omega)]
      exact ih he
    · have kl := (List.getElem?_eq_some_iff.mp he).1
      rw [List.length_append] at kl
      have kl : k < Es.length + 1 := kl
      have ke : k = Es.length := by omega
      subst ke
      rw [List.getElem?_append_right (Nat.le_refl _), Nat.sub_self] at he
      cases he
      rw [List.take_append_of_le_length (Nat.le_refl _), List.take_length, h.run]
      exact c
theorem Hist.len {S0 S : St2} {Ls : List St2} {Es : List Ed} (h : Hist S0 Ls Es S) : Ls.length = Es.length := by
  induction h with
  | start => rfl
  | step h c ih => rw [List.length_append, List.length_append, ih]; rfl
theorem run_snoc {S : St2} {es : List Ed} {k : Nat} {e : Ed} (h : es[k]? = some e) : runS S (es.take (k + 1)) = stepS (runS S (es.take k)) e := by
  rw [List.take_add_one, h]
  unfold runS
  rw [List.foldl_append]
  rfl
/-- a law's list of states -/
inductive LSs (H : Hp) (P : Addr → Prop) : List V → List St2 → Prop
  | nil : LSs H P [] []
  | cons {a : Addr} {us : List V} {S : St2} {Ss : List St2} (h : LawS H a S) (p : P a) (r : LSs H P us Ss) : LSs H P (.ref a :: us) (S :: Ss)
theorem LSs.keep {H H' : Hp} {P : Addr → Prop} {us : List V} {Ss : List St2} (h : LSs H P us Ss) (t : Tps H H') (k : ∀ a us, P a → H a = some (.lst us) → H' a = some (.lst us)) : LSs H' P us Ss := by
  induction h with
  | nil => exact .nil
  | cons h p _ ih => exact .cons (h.keep t fun us e => k _ us p e) p ih
theorem LSs.same {H H' : Hp} {P : Addr → Prop} {us : List V} {Ss : List St2} (h : LSs H P us Ss) (s : Same H H') : LSs H' P us Ss := h.keep (Tps.same s) fun _ _ _ e => s _ _ e
theorem LSs.length {H : Hp} {P : Addr → Prop} {us : List V} {Ss : List St2} (h : LSs H P us Ss) : us.length = Ss.length := by
  induction h with
  | nil => rfl
  | cons h p _ ih => rw [List.length_cons, List.length_cons, ih]
theorem LSs.snoc {H : Hp} {P : Addr → Prop} {us : List V} {Ss : List St2} {a : Addr} {S : St2} (h : LSs H P us Ss) (hs : LawS H a S) (p : P a) : LSs H P (us ++ [.ref a]) (Ss ++ [S]) := by
  induction h with
  | nil => exact .cons hs p .nil
  | cons h p' _ ih => exact .cons h p' ih
theorem LSs.get {H : Hp} {P : Addr → Prop} {us : List V} {Ss : List St2} (h : LSs H P us Ss) : ∀ {i : Nat} {S : St2}, Ss[i]? = some S → ∃ a, us[i]? = some (.ref a) ∧ LawS H a S ∧ P a := by
  induction h with
  | nil => intro i S e; cases e
  | cons h p _ ih =>
    intro i S e
    cases i with
    | zero =>
      cases e
      exact ⟨_, rfl, h, p⟩
    | succ i => exact ih e

/-! ### pieces of a solution: cells, counts -/
theorem fits_cells {cs row : List (Int × Int)} (h : Cells cs) (o : ∀ r ∈ row, OfCells cs r) {q : Int × Int} (f : Fits row q) : OfCells cs q := by
  obtain ⟨t, ht, t1, t2⟩ := f.inn
  obtain ⟨i, j, a, b, ij, ha, hb, e1, e2⟩ := o t ht
  have le := f.le
  have A : ∃ (i0 : Nat) (a0 : Int × Int), cs[i0]? = some a0 ∧ a0.1 = q.1 := by
    obtain ⟨r, hr, e | e⟩ := f.lo
    · obtain ⟨i', j', a', b', _, ha', _, k1, _⟩ := o r hr
      exact ⟨i', a', ha', by omega⟩
    · obtain ⟨i', j', a', b', _, _, hb', _, k2⟩ := o r hr
      have jj : j' < j := by
        rcases Nat.lt_or_ge j' j with z | z
        · exact z
        · obtain ⟨m, rfl⟩ := Nat.le.dest z
          have := (h.mono hb m b' hb').2
          omega
      have jl := (List.getElem?_eq_some_iff.mp hb).1
      have en := List.getElem?_eq_getElem (l := cs) (i := j' + 1) (by omega)
      have nx := h.nxt j' b' _ hb' en
      exact ⟨j' + 1, _, en, by omega⟩
  have B : ∃ (j0 : Nat) (b0 : Int × Int), cs[j0]? = some b0 ∧ b0.2 = q.2 := by
    obtain ⟨r, hr, e | e⟩ := f.hi
    · obtain ⟨i', j', a', b', _, ha', _, k1, _⟩ := o r hr
      have ii : i < i' := by
        rcases Nat.lt_or_ge i i' with z | z
        · exact z
        · obtain ⟨m, rfl⟩ := Nat.le.dest z
          have := (h.mono ha' m a ha).1
          omega
      have il := (List.getElem?_eq_some_iff.mp ha').1
      have en := List.getElem?_eq_getElem (l := cs) (i := i' - 1) (by omega)
      have nx := h.nxt (i' - 1) _ a' en (by rw [Nat.sub_add_cancel (by omega)]; exact ha')
      exact ⟨i' - 1, _, en, by omega⟩
    · obtain ⟨i', j', a', b', _, _, hb', _, k2⟩ := o r hr
      exact ⟨j', b', hb', by omega⟩
  obtain ⟨i0, a0, ha0, ea0⟩ := A
  obtain ⟨j0, b0, hb0, eb0⟩ := B
  refine ⟨i0, j0, a0, b0, ?_, ha0, hb0, ea0.symm, eb0.symm⟩
  rcases Nat.lt_or_ge j0 i0 with z | z
  · exfalso
    have il := (List.getElem?_eq_some_iff.mp ha0).1
    have en := List.getElem?_eq_getElem (l := cs) (i := j0 + 1) (by omega)
    have nx := h.nxt j0 b0 _ hb0 en
    obtain ⟨m, em⟩ := Nat.le.dest (show j0 + 1 ≤ i0 from z)
    have := (h.mono en m a0 (by rw [em]; exact ha0)).1
    omega
  · exact z
theorem need_part {ts ps A B R qs : List (Int × Int)} (ok : AddOk ts ps A) (pm : (B ++ R).Perm A) (g0 : Good (ts ++ ps)) (g : Good (ts ++ qs)) (m : ∀ x, x ∈ qs ↔ x ∈ ps ∨ x ∈ B) : needO ts qs = R.length := by
  have len := pm.length_eq
  rw [List.length_append, ok.len] at len
  have h1 : needO ts qs ≤ R.length := need_of_com g (com_mono ok.com fun q hq => by
    rcases List.mem_append.mp hq with hq | hq
    · exact List.mem_append_left _ ((m q).mpr (.inl hq))
    · rcases List.mem_append.mp (pm.mem_iff.mpr hq) with hq | hq
      · exact List.mem_append_left _ ((m q).mpr (.inr hq))
      · exact List.mem_append_right _ hq)
  have ok2 := add_ok g
  have h2 : needO ts ps ≤ (addO ts qs ++ B).length := need_of_com g0 (com_mono ok2.com fun q hq => by
    rcases List.mem_append.mp hq with hq | hq
    · rcases (m q).mp hq with hq | hq
      · exact List.mem_append_left _ hq
      · exact List.mem_append_right _ (List.mem_append_right _ hq)
    · exact List.mem_append_right _ (List.mem_append_left _ hq))
  rw [List.length_append, ok2.len] at h2
  omega
theorem miss_zero {ts ps : List (Int × Int)} (g : Good (ts ++ ps)) (z : needO ts ps = 0) : missO ps ts = none := by
  refine missO_none.mpr fun t ht => gapO_eq (show IsGap ps t.1 t.2 none from fun p h1 h2 => ?_)
  obtain ⟨q, hq, k1, k2, k3, k4⟩ := need_zero g z t ht p h1 h2
  rw [List.append_nil] at hq
  exact ⟨q, hq, ⟨k1, k4⟩, k2, k3⟩
theorem SolH.add {H : Hp} {r : Addr} {ts ps A : List (Int × Int)} (h : SolH H r ts ps A) (g : Good (ts ++ ps)) : AddOk ts ps A := by
  have ok := add_ok g
  exact ⟨h.perm.length_eq.trans ok.len, com_mono ok.com fun q hq => by
    rcases List.mem_append.mp hq with hq | hq
    · exact List.mem_append_left _ hq
    · exact List.mem_append_right _ (h.perm.mem_iff.mpr hq), fun q hq => ok.inn q (h.perm.mem_iff.mp hq), fun q hq => ok.new q (h.perm.mem_iff.mp hq), h.perm.nodup_iff.mpr ok.nd⟩
theorem sol_zero {H : Hp} {r : Addr} {ts ps A : List (Int × Int)} (h : SolH H r ts ps A) (g : Good (ts ++ ps)) (z : needO ts ps = 0) : A = [] ∧ witO ts ps = [] := by
  have ok := h.add g
  exact ⟨List.eq_nil_of_length_eq_zero (by rw [ok.len]; exact z), List.eq_nil_of_length_eq_zero z⟩

theorem last_at {Ls : List St2} {S : St2} {n : Nat} (h : n = Ls.length) : (Ls ++ [S])[n]? = some S := by
  subst h
  rw [List.getElem?_append_right (Nat.le_refl _), Nat.sub_self]
  rfl
theorem PlanAt.lens {C p : Addr} {H : Hp} {Ls : List St2} {S : St2} {Es : List Ed} (P : PlanAt C H p (Ls ++ [S]) Es) : Es.length = Ls.length := by
  have z := P.len
  rw [List.length_append] at z
  have z : Ls.length + 1 = Es.length + 1 := z
  omega
theorem PlanAt.but {C p q : Addr} {H H' : Hp} {Ss Ss' : List St2} {Es Es' : List Ed} (P : PlanAt C H p Ss Es) (Q : PlanAt C H q Ss' Es') (b : But q H H') (n : p ≠ q) : PlanAt C H' p Ss Es := P.keep (Q.tps b) fun C dx fs e => b _ _ n e

/-! ### the law's own count: the mathematics -/
def freeC (ch : List Dem) (d : Dem) : Bool := (ch.filter fun c => cf c d).isEmpty
def mostF : List (List Dem) → List Dem → Nat
  | [], _ => 0
  | o :: os, ch => o.foldl (fun b d => if freeC ch d = true then max b (1 + mostF os (ch ++ [d])) else b) (mostF os ch)
theorem free_iff {ch : List Dem} {d : Dem} : freeC ch d = true ↔ ∀ c ∈ ch, cf c d = false := by
  unfold freeC
  rw [List.isEmpty_iff, List.filter_eq_nil_iff]
  exact ⟨fun h c hc => Bool.not_eq_true _ ▸ h c hc, fun h c hc => by rw [h c hc]; exact Bool.false_ne_true⟩
theorem ind_snoc {ch : List Dem} {d : Dem} (h : Ind ch) (f : freeC ch d = true) : Ind (ch ++ [d]) :=
  List.pairwise_append.mpr ⟨h, List.pairwise_singleton _ _, fun c hc e he => by
    rw [List.mem_singleton.mp he]
    exact free_iff.mp f c hc⟩
theorem most_ex : ∀ (os : List (List Dem)) (ch : List Dem), Ind ch → ∃ sel : List Dem, sel.length = mostF os ch ∧ (∀ d ∈ sel, ∃ o ∈ os, d ∈ o) ∧ Ind (ch ++ sel)
  | [], ch, h => ⟨[], rfl, (fun d hd => nomatch hd), by rw [List.append_nil]; exact h⟩
  | o :: os, ch, h => by
    have go : ∀ (l : List Dem) (b : Nat), (∀ d ∈ l, d ∈ o) → (∃ sel : List Dem, sel.length = b ∧ (∀ d ∈ sel, ∃ o' ∈ o :: os, d ∈ o') ∧ Ind (ch ++ sel)) →
        ∃ sel : List Dem, sel.length = l.foldl (fun b d => if freeC ch d = true then max b (1 + mostF os (ch ++ [d])) else b) b ∧ (∀ d ∈ sel, ∃ o' ∈ o :: os, d ∈ o') ∧ Ind (ch ++ sel) := by
      intro l
      induction l with
      | nil => intro b _ hb; exact hb
      | cons d l ih =>
        intro b hl hb
        rw [List.foldl_cons]
        refine ih _ (fun x hx => hl x (List.mem_cons_of_mem _ hx)) ?_
        by_cases f : freeC ch d = true
        · rw [if_pos f]
          rcases Nat.le_total b (1 + mostF os (ch ++ [d])) with z | z
          · rw [Nat.max_eq_right z]
            obtain ⟨sel, s1, s2, s3⟩ := most_ex os (ch ++ [d]) (ind_snoc h f)
            refine ⟨d :: sel, by rw [List.length_cons, s1, Nat.add_comm], fun x hx => ?_, by rw [List.append_assoc] at s3; exact s3⟩
            rcases List.mem_cons.mp hx with rfl | hx
            · exact ⟨o, List.mem_cons_self, hl x List.mem_cons_self⟩
            · obtain ⟨o', h1, h2⟩ := s2 x hx
              exact ⟨o', List.mem_cons_of_mem _ h1, h2⟩
          · rw [Nat.max_eq_left z]
            exact hb
        · rw [if_neg f]
          exact hb
    obtain ⟨sel, s1, s2, s3⟩ := most_ex os ch h
    exact go o _ (fun d hd => hd) ⟨sel, s1, fun x hx => let ⟨o', h1, h2⟩ := s2 x hx; ⟨o', List.mem_cons_of_mem _ h1, h2⟩, s3⟩
inductive Sel : List (List Dem) → List Dem → Prop
  | nil : Sel [] []
  | skip {o : List Dem} {os : List (List Dem)} {s : List Dem} (h : Sel os s) : Sel (o :: os) s
  | pick {o : List Dem} {os : List (List Dem)} {s : List Dem} {d : Dem} (m : d ∈ o) (h : Sel os s) : Sel (o :: os) (d :: s)
theorem fold_ge (ch : List Dem) (os : List (List Dem)) : ∀ (l : List Dem) (b : Nat), b ≤ l.foldl (fun b d => if freeC ch d = true then max b (1 + mostF os (ch ++ [d])) else b) b
  | [], b => Nat.le_refl _
  | d :: l, b => by
    rw [List.foldl_cons]
    refine Nat.le_trans ?_ (fold_ge ch os l _)
    split
    · exact Nat.le_max_left _ _
    · exact Nat.le_refl _
theorem fold_at (ch : List Dem) (os : List (List Dem)) : ∀ (l : List Dem) (b : Nat) (d : Dem), d ∈ l → freeC ch d = true → 1 + mostF os (ch ++ [d]) ≤ l.foldl (fun b d => if freeC ch d = true then max b (1 + mostF os (ch ++ [d])) else b) b
  | [], _, d, h, _ => nomatch h
  | x :: l, b, d, h, f => by
    rw [List.foldl_cons]
    rcases List.mem_cons.mp h with rfl | h
    · rw [if_pos f]
      exact Nat.le_trans (Nat.le_max_right _ _) (fold_ge ch os l _)
    · exact fold_at ch os l _ d h f
theorem most_ge {os : List (List Dem)} {s : List Dem} (h : Sel os s) : ∀ {ch : List Dem}, Ind (ch ++ s) → s.length ≤ mostF os ch := by
  induction h with
  | nil => intro ch _; exact Nat.le_refl _
  | skip h ih => intro ch i; exact Nat.le_trans (ih i) (fold_ge _ _ _ _)
  | @pick o os s d m h ih =>
    intro ch i
    have f : freeC ch d = true := free_iff.mpr fun c hc => (List.pairwise_append.mp i).2.2 c hc d List.mem_cons_self
    have z := ih (ch := ch ++ [d]) (by rw [List.append_assoc]; exact i)
    have y := fold_at ch os o (mostF os ch) d m f
    rw [List.length_cons]
    have y : 1 + mostF os (ch ++ [d]) ≤ mostF (o :: os) ch := y
    omega
def servI (ps : List (Int × Int)) (x : Int) (t : Int × Int) : Bool := ps.any fun q => sv q (x, t)
def someO (ts ps : List (Int × Int)) (x : Int) : List (Int × Int) := (ts.filter fun t => decide (t.1 ≤ x) && decide (x ≤ t.2)).filter fun t => !servI ps x t
def inT (t u : Int × Int) : Bool := decide (t.1 ≤ u.1) && (decide (u.2 ≤ t.2) && !decide (u = t))
def leastO (some : List (Int × Int)) : List (Int × Int) := some.filter fun t => (some.filter (inT t)).isEmpty
def optO (ts ps : List (Int × Int)) (x : Int) : List Dem := (leastO (someO ts ps x)).map fun t => (x, t)
theorem mem_some {ts ps : List (Int × Int)} {x : Int} {t : Int × Int} : t ∈ someO ts ps x ↔ t ∈ ts ∧ (t.1 ≤ x ∧ x ≤ t.2) ∧ servI ps x t = false := by
  unfold someO
  rw [List.mem_filter, List.mem_filter, Bool.and_eq_true, decide_eq_true_iff, decide_eq_true_iff, Bool.not_eq_true', and_assoc]
theorem serv_no {ps : List (Int × Int)} {x : Int} {t : Int × Int} : servI ps x t = false ↔ ∀ q ∈ ps, sv q (x, t) = false := by
  unfold servI
  rw [List.any_eq_false]
  exact ⟨fun h q hq => Bool.not_eq_true _ ▸ h q hq, fun h q hq => by rw [h q hq]; exact Bool.false_ne_true⟩
theorem mem_opt {ts ps : List (Int × Int)} {x : Int} {d : Dem} (h : d ∈ optO ts ps x) : d.1 = x ∧ OpenD ts ps d := by
  unfold optO at h
  obtain ⟨t, ht, rfl⟩ := List.mem_map.mp h
  unfold leastO at ht
  obtain ⟨h1, h2, h3⟩ := mem_some.mp (List.mem_filter.mp ht).1
  exact ⟨rfl, h1, h2, serv_no.mp h3⟩
theorem opt_mem {ts ps : List (Int × Int)} {d : Dem} (o : OpenD ts ps d) (m : ∀ t ∈ ts, ¬ Shd d t) : d ∈ optO ts ps d.1 := by
  unfold optO leastO
  refine List.mem_map.mpr ⟨d.2, List.mem_filter.mpr ⟨mem_some.mpr ⟨o.1, o.2.1, serv_no.mpr o.2.2⟩, ?_⟩, rfl⟩
  rw [List.isEmpty_iff, List.filter_eq_nil_iff]
  intro u hu
  obtain ⟨h1, h2, h3⟩ := mem_some.mp hu
  have n := m u h1
  unfold inT
  rw [Bool.and_eq_true, Bool.and_eq_true, decide_eq_true_iff, decide_eq_true_iff, Bool.not_eq_true', decide_eq_false_iff_not]
  rintro ⟨k1, k2, k3⟩
  exact n ⟨k3, k1, k2, h2.1, h2.2⟩
theorem cf_symm (d e : Dem) : cf d e = cf e d := by
  unfold cf
  exact decide_eq_decide.mpr and_comm
theorem ind_ne {W : List Dem} (h : Ind W) {d e : Dem} (hd : d ∈ W) (he : e ∈ W) (n : d ≠ e) : cf d e = false := by
  induction h with
  | nil => cases hd
  | @cons a l ha _ ih =>
    rcases List.mem_cons.mp hd with h1 | h1
    · rcases List.mem_cons.mp he with h2 | h2
      · exact absurd (h1.trans h2.symm) n
      · rw [h1]
        exact ha e h2
    · rcases List.mem_cons.mp he with h2 | h2
      · rw [cf_symm, h2]
        exact ha d h1
      · exact ih h1 h2
theorem cells_low {cs row : List (Int × Int)} (h : Cells cs) (o : ∀ q ∈ row, OfCells cs q) {x : Int} (hx : x ∈ lowsOf row) : ∃ c ∈ cs, c.1 = x := by
  have g : Good row := fun q hq => (o q hq).good h
  unfold lowsOf at hx
  obtain ⟨b, hb, rfl⟩ := List.mem_map.mp hx
  have k := blk_of g hb
  obtain ⟨q, hq, e⟩ := k.lo
  rcases e with e | e
  · obtain ⟨i, j, a, c, ij, ha, hc, e1, e2⟩ := o q hq
    exact ⟨a, List.mem_of_getElem? ha, by omega⟩
  · obtain ⟨q', hq', d1, d2⟩ := k.dep
    obtain ⟨i, j, a, c, ij, ha, hc, e1, e2⟩ := o q hq
    obtain ⟨i', j', a', c', ij', ha', hc', e1', e2'⟩ := o q' hq'
    have jj : j < j' := by
      rcases Nat.lt_or_ge j j' with z | z
      · exact z
      · obtain ⟨m, rfl⟩ := Nat.le.dest z
        have := (h.mono hc' m c hc).2
        omega
    have jl := (List.getElem?_eq_some_iff.mp hc').1
    have en := List.getElem?_eq_getElem (l := cs) (i := j + 1) (by omega)
    have nx := h.nxt j c _ hc en
    exact ⟨_, List.mem_of_getElem? en, by omega⟩
theorem cells_asc {cs : List (Int × Int)} (h : Cells cs) : cs.Pairwise fun a b => a.1 < b.1 := by
  rw [List.pairwise_iff_getElem]
  intro i j hi hj ij
  have e1 := List.getElem?_eq_getElem hi
  have e2 := List.getElem?_eq_getElem (l := cs) (i := i + 1) (by omega)
  have e3 := List.getElem?_eq_getElem hj
  obtain ⟨m, em⟩ := Nat.le.dest (show i + 1 ≤ j from ij)
  have n := h.nxt i _ _ e1 e2
  have o := h.ok _ (List.getElem_mem hi)
  have z := (h.mono e2 m _ (by rw [em]; exact e3)).1
  omega
def pickW (W : List Dem) (c : Int × Int) : Option Dem := W.find? fun d => decide (d.1 = c.1)
theorem pick_some {W : List Dem} {c : Int × Int} {d : Dem} (h : pickW W c = some d) : d ∈ W ∧ d.1 = c.1 := by
  unfold pickW at h
  have z := List.find?_some h
  exact ⟨List.mem_of_find?_eq_some h, of_decide_eq_true z⟩
theorem pick_none {W : List Dem} {c : Int × Int} (h : pickW W c = none) : ∀ d ∈ W, d.1 ≠ c.1 := fun d hd e => by
  unfold pickW at h
  exact List.find?_eq_none.mp h d hd (decide_eq_true e)
theorem sel_of (ts ps : List (Int × Int)) (W : List Dem) (hW : ∀ d ∈ W, d ∈ optO ts ps d.1) : ∀ cs : List (Int × Int), Sel (cs.map fun c => optO ts ps c.1) (cs.filterMap (pickW W))
  | [] => .nil
  | c :: cs => by
    rw [List.map_cons]
    cases e : pickW W c with
    | none =>
      rw [List.filterMap_cons_none e]
      exact .skip (sel_of ts ps W hW cs)
    | some d =>
      rw [List.filterMap_cons_some e]
      have m := pick_some e
      exact .pick (m.2 ▸ hW d m.1) (sel_of ts ps W hW cs)
theorem law_count {cs ts ps : List (Int × Int)} (h : Cells cs) (o : ∀ q ∈ ts ++ ps, OfCells cs q) : mostF (cs.map fun c => optO ts ps c.1) [] = needO ts ps := by
  have g : Good (ts ++ ps) := fun q hq => (o q hq).good h
  apply Nat.le_antisymm
  · obtain ⟨sel, s1, s2, s3⟩ := most_ex (cs.map fun c => optO ts ps c.1) [] .nil
    rw [List.nil_append] at s3
    have ok := add_ok g
    rw [← s1, ← ok.len]
    refine weak_dual ok.com s3 fun d hd => ?_
    obtain ⟨o', h1, h2⟩ := s2 d hd
    obtain ⟨c, _, rfl⟩ := List.mem_map.mp h1
    exact (mem_opt h2).2
  · have ind : Ind (witO ts ps) := lg_ind _ _
    have mw : ∀ d ∈ witO ts ps, OpenD ts ps d ∧ d.1 ∈ lowsOf (ts ++ ps) ∧ ∀ t ∈ ts, ¬ Shd d t := fun d hd => mem_dec.mp ((lg_sub _ _).mem hd)
    have self : ∀ d e : Dem, Vd d → Vd e → d.1 = e.1 → cf d e = true := fun d e h1 h2 k => by
      unfold Vd at h1 h2
      unfold cf
      exact decide_eq_true (by omega)
    have ndW : (witO ts ps).Nodup := ind.imp_of_mem fun {a b} ha hb k e => by
      rw [e] at k
      rw [self b b (mw b hb).1.2.1 (mw b hb).1.2.1 rfl] at k
      cases k
    have sl := sel_of ts ps (witO ts ps) (fun d hd => opt_mem (mw d hd).1 (mw d hd).2.2) cs
    have mem : ∀ d, d ∈ (cs.filterMap (pickW (witO ts ps))) → d ∈ witO ts ps := fun d hd => by
      obtain ⟨c, _, e⟩ := List.mem_filterMap.mp hd
      exact (pick_some e).1
    have pw : (cs.filterMap (pickW (witO ts ps))).Pairwise fun a b => a.1 < b.1 := by
      refine List.pairwise_filterMap.mpr ((cells_asc h).imp fun {a b} k x hx y hy => ?_)
      have e1 := (pick_some hx).2
      have e2 := (pick_some hy).2
      omega
    have indS : Ind (cs.filterMap (pickW (witO ts ps))) := pw.imp_of_mem fun {a b} ha hb k => ind_ne ind (mem a ha) (mem b hb) fun e => by
      rw [e] at k
      exact absurd k (Int.lt_irrefl _)
    refine Nat.le_trans ?_ (most_ge sl (ch := []) (by rw [List.nil_append]; exact indS))
    refine nodup_le ndW fun d hd => ?_
    obtain ⟨k1, k2, k3⟩ := mw d hd
    obtain ⟨c, hc, ec⟩ := cells_low h o k2
    refine List.mem_filterMap.mpr ⟨c, hc, ?_⟩
    cases e : pickW (witO ts ps) c with
    | none => exact absurd ec.symm (pick_none e d hd)
    | some x =>
      obtain ⟨mx, px⟩ := pick_some e
      by_cases k : d = x
      · rw [k]
      · have z := ind_ne ind hd mx k
        rw [self d x k1.2.1 (mw x mx).1.2.1 (by omega)] at z
        cases z

/-! ### the law's own count: its defs -/
def sp_law_served : Sp := fun vs H Q _ => ∃ (a t : Addr) (us : List V) (ps : List (Int × Int)) (x lo hi : Int), vs = [.ref a, .int x, .ref t] ∧ H a = some (.tup us) ∧ Ivs H us ps ∧ ps.length < 1000 ∧ H t = some (.tup [.int lo, .int hi]) ∧ ∀ H', Same H H' → Q (.bl (servI ps x (lo, hi))) H'
theorem any_filter {α : Type} (l : List α) (p : α → Bool) : (!(l.filter p).isEmpty) = l.any p := by
  induction l with
  | nil => rfl
  | cons a l ih =>
    rw [List.filter_cons, List.any_cons]
    cases p a with
    | true => rfl
    | false =>
      rw [if_neg Bool.false_ne_true, Bool.false_or]
      exact ih
theorem ok_law_served (T : Tx K mg f_is_number f_is_position f_is_tuple_of f_is_interval f_ascending_error f_targets_error f_is_pieces f_has_position f_contains f_pieces_inside f_first_gap f_find_missing f_without_item f_with_interval f_without_interval f_edited_state f_depth_changes f_find_blocks f_serves f_conflict f_demands_at_blocks f_is_open f_open_demands f_shadow_target f_require_few_blocks f_decisive_demands f_largest_independent f_unserved_demands f_helpful_piece f_smallest_solution f_count_needed f_solve f_law_deck f_law_draw f_law_line f_law_interval f_law_intervals f_law_served f_law_options f_law_conflict f_law_most f_law_needed f_law_edit f_law_after f_law_do f_law_begun f_law_generated f_law_solution_right f_law f_Plan_init f_Plan_add_target f_Plan_add_piece f_Plan_remove_target f_Plan_remove_piece f_Plan_targets f_Plan_pieces f_Plan_needed f_Plan_solution f_Plan_missing f_Plan_edit f_Plan_record f_Plan_require_idle f_Plan_state_at f_Plan_len f_Plan_str f_Plan_eq C_Plan d_is_number d_is_position d_is_tuple_of d_is_interval d_ascending_error d_targets_error d_is_pieces d_has_position d_contains d_pieces_inside d_first_gap d_find_missing d_without_item d_with_interval d_without_interval d_edited_state d_depth_changes d_find_blocks d_serves d_conflict d_demands_at_blocks d_is_open d_open_demands d_shadow_target d_require_few_blocks d_decisive_demands d_largest_independent d_unserved_demands d_helpful_piece d_smallest_solution d_count_needed d_solve d_law_deck d_law_draw d_law_line d_law_interval d_law_intervals d_law_served d_law_options d_law_conflict d_law_most d_law_needed d_law_edit d_law_after d_law_do d_law_begun d_law_generated d_law_solution_right d_law d_Plan_init d_Plan_add_target d_Plan_add_piece d_Plan_remove_target d_Plan_remove_piece d_Plan_targets d_Plan_pieces d_Plan_needed d_Plan_solution d_Plan_missing d_Plan_edit d_Plan_record d_Plan_require_idle d_Plan_state_at d_Plan_len d_Plan_str d_Plan_eq t_LAST_POSITION t_MAX_TARGETS t_MAX_PIECES t_MAX_BLOCKS t_MAX_EDITS) : FnOk P w K mg base CX0 1 f_law_served d_law_served ["_law_pieces", "_law_position", "_law_target"] sp_law_served := by
  refine T.F_law_served.ok sc_law_served (fun vs H Q E h => ?_) (fun cdv A outer s H vs Q E hr h => ?_)
  · obtain ⟨a, t, us, ps, x, lo, hi, rfl, _⟩ := h
    rfl
  · obtain ⟨a, t, us, ps, x, lo, hi, rfl, ha, iv, few, ht, q⟩ := h
    refine ⟨_, (pss_cons (ps_asg (pv 2) (pg_tup rfl (pgs_cons (pg_name (i := 3) sc_law_served.nd rfl (Or.inr rfl)) (pgs_cons (pg_name (i := 4) sc_law_served.nd rfl (Or.inr rfl)) pgs_nil))))
      (pss_one (ps_ret (pe_cmpR (op_neL hr.units0) (pe_lc (own := [("_law_piece", 5)]) (g := (gName 5)) (by rfl) sc_law_served.nd (pi_tup (pv 0)) (blkOk_by (own := [("_law_piece", 5)]) (N := N_law_served) (sc := defScope s_law_served) (by decide +kernel)) (fun _ _ _ _ _ => (pg_name (i := 5) sc_law_served.nd rfl (Or.inl rfl))) (fun _ _ _ _ _ => pts_one (pt_chN (pv 3) (pchT_link op_le (pe_ix (show IxR _ (rIxT K) from ix_tup) (pv 5) pe_int (fun _ _ => rfl)) (pchT_link op_le (pv 1) (pchT_link op_le (pe_ix (show IxR _ (rIxT K) from ix_tup) (pv 5) pe_int (fun _ _ => rfl)) (pchT_last op_le (pv 4))))))) (fun _ _ _ _ _ => (pv 5))) (pe_lst pa_nil) (nomark _))))), ?_⟩
    have lu := iv.length
    refine ⟨.ref t, rfl, t, _, rfl, SqT.of ht, rfl, .int lo, [.int hi], rfl, .int hi, [], rfl, rfl, ?_⟩
    refine ⟨.ref a, rfl, a, rfl, ⟨_, SqT.of ha⟩, fun D nD => ?_⟩
    refine lcT (K := K) (a := a) (xs := us) (fun j H' ws => Ivs H' ws ((ps.take j).filter fun q => sv q (x, lo, hi))) nD (fun H' s => SqT.of (s _ _ (ha))) (by omega) (fun _ _ _ _ t r => r.tps t) (fun j H' ws r => (by rw [r.length]; exact Nat.le_trans (List.length_filter_le _ _) (List.length_take_le _ _))) (fun _ => .nil) ?_ ?_
    · rintro j z H' N acc hj sj eA sz r no yes
      obtain ⟨b, u, v, rfl, exy, hb⟩ := iv.get hj
      have hb' := sj _ _ hb
      have stop : sv (u, v) (x, lo, hi) = false → N H' := fun c => no H' (Same.refl _) (by
        rw [take_filter exy, if_neg (by rw [c]; exact Bool.false_ne_true), List.append_nil]
        exact r)
      have unf : sv (u, v) (x, lo, hi) = decide (lo ≤ u ∧ u ≤ x ∧ x ≤ v ∧ v ≤ hi) := rfl
      refine ⟨rfl, .int lo, rfl, .ref b, rfl, b, _, 0, .int u, rfl, rfl, SqT.of hb', rfl, _, _, rfl, rfl, _, rfl, ite2 (fun e1 => ?_) (fun e1 => ⟨_, rfl, iteF (stop (by rw [unf]; exact decide_eq_false fun z => e1 (decide_eq_true z.1)))⟩)⟩
      refine ⟨.int x, rfl, _, _, rfl, rfl, _, rfl, ite2 (fun e2 => ?_) (fun e2 => ⟨_, rfl, iteF (stop (by rw [unf]; exact decide_eq_false fun z => e2 (decide_eq_true z.2.1)))⟩)⟩
      refine ⟨.ref b, rfl, b, _, 1, .int v, rfl, rfl, SqT.of hb', rfl, _, _, rfl, rfl, _, rfl, ite2 (fun e3 => ?_) (fun e3 => ⟨_, rfl, iteF (stop (by rw [unf]; exact decide_eq_false fun z => e3 (decide_eq_true z.2.2.1)))⟩)⟩
      refine ⟨.int hi, rfl, _, _, rfl, rfl, _, rfl, ite2 (fun e4 => ?_) (fun e4 => stop (by rw [unf]; exact decide_eq_false fun z => e4 (decide_eq_true z.2.2.2)))⟩
      refine ⟨.ref b, rfl, yes H' _ (Same.refl _) ?_⟩
      rw [take_filter exy, if_pos (by rw [unf]; exact decide_eq_true ⟨of_decide_eq_true e1, of_decide_eq_true e2, of_decide_eq_true e3, of_decide_eq_true e4⟩)]
      exact r.snoc hb'
    intro H1 ws s1 eD r
    rw [lu, List.take_length] at r
    refine ⟨by show 0 ≤ sizeLine; decide, fun e ne => ?_⟩
    have s2 := same_new (o := .lst []) ne
    have ee := upd_same (H := H1) (a := e) (o := .lst [])
    generalize upd H1 e (.lst []) = H2 at *
    refine ⟨D, e, ws, rfl, rfl, SqL.of (s2 _ _ eD), SqL.of ee, ?_⟩
    rw [r.isEmpty, any_filter]
    exact q H2 (s1.trans s2)
def sp_law_conflict : Sp := fun vs H Q _ => ∃ (v1 v2 : V) (p1 lo1 hi1 p2 lo2 hi2 : Int), vs = [v1, v2] ∧ Dm H v1 p1 lo1 hi1 ∧ Dm H v2 p2 lo2 hi2 ∧ Q (.bl (cf (p1, lo1, hi1) (p2, lo2, hi2))) H
theorem ok_law_conflict (T : Tx K mg f_is_number f_is_position f_is_tuple_of f_is_interval f_ascending_error f_targets_error f_is_pieces f_has_position f_contains f_pieces_inside f_first_gap f_find_missing f_without_item f_with_interval f_without_interval f_edited_state f_depth_changes f_find_blocks f_serves f_conflict f_demands_at_blocks f_is_open f_open_demands f_shadow_target f_require_few_blocks f_decisive_demands f_largest_independent f_unserved_demands f_helpful_piece f_smallest_solution f_count_needed f_solve f_law_deck f_law_draw f_law_line f_law_interval f_law_intervals f_law_served f_law_options f_law_conflict f_law_most f_law_needed f_law_edit f_law_after f_law_do f_law_begun f_law_generated f_law_solution_right f_law f_Plan_init f_Plan_add_target f_Plan_add_piece f_Plan_remove_target f_Plan_remove_piece f_Plan_targets f_Plan_pieces f_Plan_needed f_Plan_solution f_Plan_missing f_Plan_edit f_Plan_record f_Plan_require_idle f_Plan_state_at f_Plan_len f_Plan_str f_Plan_eq C_Plan d_is_number d_is_position d_is_tuple_of d_is_interval d_ascending_error d_targets_error d_is_pieces d_has_position d_contains d_pieces_inside d_first_gap d_find_missing d_without_item d_with_interval d_without_interval d_edited_state d_depth_changes d_find_blocks d_serves d_conflict d_demands_at_blocks d_is_open d_open_demands d_shadow_target d_require_few_blocks d_decisive_demands d_largest_independent d_unserved_demands d_helpful_piece d_smallest_solution d_count_needed d_solve d_law_deck d_law_draw d_law_line d_law_interval d_law_intervals d_law_served d_law_options d_law_conflict d_law_most d_law_needed d_law_edit d_law_after d_law_do d_law_begun d_law_generated d_law_solution_right d_law d_Plan_init d_Plan_add_target d_Plan_add_piece d_Plan_remove_target d_Plan_remove_piece d_Plan_targets d_Plan_pieces d_Plan_needed d_Plan_solution d_Plan_missing d_Plan_edit d_Plan_record d_Plan_require_idle d_Plan_state_at d_Plan_len d_Plan_str d_Plan_eq t_LAST_POSITION t_MAX_TARGETS t_MAX_PIECES t_MAX_BLOCKS t_MAX_EDITS) : FnOk P w K mg base CX0 1 f_law_conflict d_law_conflict ["_law_first", "_law_second"] sp_law_conflict := by
  refine T.F_law_conflict.ok sc_law_conflict (fun vs H Q E h => ?_) (fun cdv A outer s H vs Q E hr h => ?_)
  · obtain ⟨v1, v2, p1, lo1, hi1, p2, lo2, hi2, rfl, _⟩ := h
    rfl
  · obtain ⟨v1, v2, p1, lo1, hi1, p2, lo2, hi2, rfl, d1, d2, q⟩ := h
    refine ⟨_, (pss_cons (ps_set (i := 2) sc_law_conflict.nd rfl (Or.inl rfl) (pe_callB (call_max2 rfl) (by rfl) T.z_max (by decide +kernel) (pa_cons (pe_ix ix_tup (pe_ix ix_tup (pv 0) pe_int (fun _ _ => rfl)) pe_int (fun _ _ => rfl)) (pa_cons (pe_ix ix_tup (pe_ix ix_tup (pv 1) pe_int (fun _ _ => rfl)) pe_int (fun _ _ => rfl)) pa_nil))))
      (pss_cons (ps_set (i := 3) sc_law_conflict.nd rfl (Or.inl rfl) (pe_callB (call_min2 rfl) (by rfl) T.z_min (by decide +kernel) (pa_cons (pe_ix ix_tup (pe_ix ix_tup (pv 0) pe_int (fun _ _ => rfl)) pe_int (fun _ _ => rfl)) (pa_cons (pe_ix ix_tup (pe_ix ix_tup (pv 1) pe_int (fun _ _ => rfl)) pe_int (fun _ _ => rfl)) pa_nil))))
      (pss_one (ps_ret (pe_and (pe_chain op_le op_le (pv 2) (pe_ix ix_tup (pv 0) pe_int (fun _ _ => rfl)) (pv 3)) (pe_one (pe_chain op_le op_le (pv 2) (pe_ix ix_tup (pv 1) pe_int (fun _ _ => rfl)) (pv 3)))))))), ?_⟩
    obtain ⟨⟨u1, t1, rfl, e11, e12⟩, k1, k2⟩ := d1
    obtain ⟨⟨u2, t2, rfl, e21, e22⟩, k3, k4⟩ := d2
    have unf : cf (p1, lo1, hi1) (p2, lo2, hi2) = decide ((lo2 ≤ p1 ∧ p1 ≤ hi2) ∧ lo1 ≤ p2 ∧ p2 ≤ hi1) := rfl
    refine ⟨.ref u1, rfl, u1, _, 1, .ref t1, rfl, rfl, SqT.of e11, rfl, t1, _, 0, .int lo1, rfl, rfl, SqT.of e12, rfl, .ref u2, rfl, u2, _, 1, .ref t2, rfl, rfl, SqT.of e21, rfl, t2, _, 0, .int lo2, rfl, rfl, SqT.of e22, rfl, lo1, lo2, rfl, ?_⟩
    refine ⟨.ref u1, rfl, u1, _, 1, .ref t1, rfl, rfl, SqT.of e11, rfl, t1, _, 1, .int hi1, rfl, rfl, SqT.of e12, rfl, .ref u2, rfl, u2, _, 1, .ref t2, rfl, rfl, SqT.of e21, rfl, t2, _, 1, .int hi2, rfl, rfl, SqT.of e22, rfl, hi1, hi2, rfl, ?_⟩
    have no : cf (p1, lo1, hi1) (p2, lo2, hi2) = false → Q (.bl false) H := fun e => by
      rw [e] at q
      exact q
    refine ⟨.int _, rfl, .ref u1, rfl, u1, _, 0, .int p1, rfl, rfl, SqT.of e11, rfl, _, _, rfl, rfl, _, rfl, ite2 (fun a1 => ?_) (fun a1 => ⟨_, rfl, iteF (no (by rw [unf]; exact decide_eq_false fun z => a1 (decide_eq_true (by split <;> omega))))⟩)⟩
    refine ⟨.int _, rfl, _, _, rfl, rfl, _, rfl, ite2 (fun a2 => ?_) (fun a2 => no (by rw [unf]; exact decide_eq_false fun z => a2 (decide_eq_true (by split <;> omega))))⟩
    refine ⟨.int _, rfl, .ref u2, rfl, u2, _, 0, .int p2, rfl, rfl, SqT.of e21, rfl, _, _, rfl, rfl, _, rfl, ite2 (fun a3 => ?_) (fun a3 => no (by rw [unf]; exact decide_eq_false fun z => a3 (decide_eq_true (by split <;> omega))))⟩
    refine ⟨.int _, rfl, _, _, rfl, rfl, ?_⟩
    have a1 := of_decide_eq_true a1
    have a2 := of_decide_eq_true a2
    have a3 := of_decide_eq_true a3
    have fin : ∀ b : Bool, b = cf (p1, lo1, hi1) (p2, lo2, hi2) → Q (.bl b) H := fun b e => e ▸ q
    refine fin _ ?_
    rw [unf]
    refine decide_eq_decide.mpr ⟨fun a4 => ?_, fun z => ?_⟩
    · split at a1 <;> split at a2 <;> split at a3 <;> split at a4 <;> omega
    · split <;> omega
/-- a list of lists of demands; their addresses are as P says -/
inductive Opts (H : Hp) (P : Addr → Prop) : List V → List (List Dem) → Prop
  | nil : Opts H P [] []
  | cons {a : Addr} {zs us : List V} {o : List Dem} {os : List (List Dem)} (h : H a = some (.lst zs)) (d : Dms H zs o) (p : P a) (r : Opts H P us os) : Opts H P (.ref a :: us) (o :: os)
theorem Opts.keep {H H' : Hp} {P : Addr → Prop} {us : List V} {os : List (List Dem)} (h : Opts H P us os) (t : Tps H H') (k : ∀ a us, P a → H a = some (.lst us) → H' a = some (.lst us)) : Opts H' P us os := by
  induction h with
  | nil => exact .nil
  | cons e d p _ ih => exact .cons (k _ _ p e) (d.tps t) p ih
theorem Opts.same {H H' : Hp} {P : Addr → Prop} {us : List V} {os : List (List Dem)} (h : Opts H P us os) (s : Same H H') : Opts H' P us os := h.keep (Tps.same s) fun _ _ _ e => s _ _ e
theorem Opts.length {H : Hp} {P : Addr → Prop} {us : List V} {os : List (List Dem)} (h : Opts H P us os) : us.length = os.length := by
  induction h with
  | nil => rfl
  | cons e d p _ ih => rw [List.length_cons, List.length_cons, ih]
theorem Opts.snoc {H : Hp} {P : Addr → Prop} {us : List V} {os : List (List Dem)} {a : Addr} {zs : List V} {o : List Dem} (h : Opts H P us os) (e : H a = some (.lst zs)) (d : Dms H zs o) (p : P a) : Opts H P (us ++ [.ref a]) (os ++ [o]) := by
  induction h with
  | nil => exact .cons e d p .nil
  | cons e' d' p' _ ih => exact .cons e' d' p' ih
theorem Opts.imp {H : Hp} {P P' : Addr → Prop} {us : List V} {os : List (List Dem)} (h : Opts H P us os) (k : ∀ a, P a → P' a) : Opts H P' us os := by
  induction h with
  | nil => exact .nil
  | cons e d p _ ih => exact .cons e d (k _ p) ih
def sp_law_options : Sp := fun vs H Q _ => ∃ (l a b : Addr) (lus us ws : List V) (cs ts ps : List (Int × Int)), vs = [.ref l, .ref a, .ref b] ∧ H l = some (.lst lus) ∧ Ivs H lus cs ∧ H a = some (.tup us) ∧ Ivs H us ts ∧ H b = some (.tup ws) ∧ Ivs H ws ps ∧ ts.length < 1000 ∧ ps.length < 1000 ∧ cs.length < 1000 ∧
  ∀ H' D dus, Same H H' → H' D = some (.lst dus) → Opts H' (fun _ => True) dus (cs.map fun c => optO ts ps c.1) → Q (.ref D) H'
theorem ok_law_options (T : Tx K mg f_is_number f_is_position f_is_tuple_of f_is_interval f_ascending_error f_targets_error f_is_pieces f_has_position f_contains f_pieces_inside f_first_gap f_find_missing f_without_item f_with_interval f_without_interval f_edited_state f_depth_changes f_find_blocks f_serves f_conflict f_demands_at_blocks f_is_open f_open_demands f_shadow_target f_require_few_blocks f_decisive_demands f_largest_independent f_unserved_demands f_helpful_piece f_smallest_solution f_count_needed f_solve f_law_deck f_law_draw f_law_line f_law_interval f_law_intervals f_law_served f_law_options f_law_conflict f_law_most f_law_needed f_law_edit f_law_after f_law_do f_law_begun f_law_generated f_law_solution_right f_law f_Plan_init f_Plan_add_target f_Plan_add_piece f_Plan_remove_target f_Plan_remove_piece f_Plan_targets f_Plan_pieces f_Plan_needed f_Plan_solution f_Plan_missing f_Plan_edit f_Plan_record f_Plan_require_idle f_Plan_state_at f_Plan_len f_Plan_str f_Plan_eq C_Plan d_is_number d_is_position d_is_tuple_of d_is_interval d_ascending_error d_targets_error d_is_pieces d_has_position d_contains d_pieces_inside d_first_gap d_find_missing d_without_item d_with_interval d_without_interval d_edited_state d_depth_changes d_find_blocks d_serves d_conflict d_demands_at_blocks d_is_open d_open_demands d_shadow_target d_require_few_blocks d_decisive_demands d_largest_independent d_unserved_demands d_helpful_piece d_smallest_solution d_count_needed d_solve d_law_deck d_law_draw d_law_line d_law_interval d_law_intervals d_law_served d_law_options d_law_conflict d_law_most d_law_needed d_law_edit d_law_after d_law_do d_law_begun d_law_generated d_law_solution_right d_law d_Plan_init d_Plan_add_target d_Plan_add_piece d_Plan_remove_target d_Plan_remove_piece d_Plan_targets d_Plan_pieces d_Plan_needed d_Plan_solution d_Plan_missing d_Plan_edit d_Plan_record d_Plan_require_idle d_Plan_state_at d_Plan_len d_Plan_str d_Plan_eq t_LAST_POSITION t_MAX_TARGETS t_MAX_PIECES t_MAX_BLOCKS t_MAX_EDITS) : FnOk P w K mg base CX0 2 f_law_options d_law_options ["_law_line_here", "_law_targets", "_law_pieces"] sp_law_options := by
  refine T.F_law_options.ok sc_law_options (fun vs H Q E h => ?_) (fun cdv A outer s H vs Q E hr h => ?_)
  · obtain ⟨l, a, b, lus, us, ws, cs, ts, ps, rfl, _⟩ := h
    rfl
  · obtain ⟨l, a, b, lus, us, ws, cs, ts, ps, rfl, hl, ivl, ha, iva, hb, ivb, fts, fps, fcs, q⟩ := h
    refine ⟨_, (pss_cons (ps_set (i := 3) sc_law_options.nd rfl (Or.inl rfl) (pe_lst pa_nil))
      (pss_cons (ps_for PassesOwn.never rfl (pi_list (pv 0)) (pg_tup rfl (pgs_cons (pg_name (i := 4) sc_law_options.nd rfl (Or.inr rfl)) (pgs_cons (pg_name (i := 5) sc_law_options.nd rfl (Or.inl rfl)) pgs_nil)))
      (pss_cons (ps_setLc (i := 6) (own := [("_law_one", 7)]) (g := (gName 7)) (by rfl) sc_law_options.nd rfl rfl (sw_true rfl rfl rfl (by decide +kernel)) (pi_tup (pv 1)) (blkOk_by (own := [("_law_one", 7)]) (N := N_law_options) (sc := defScope s_law_options) (by decide +kernel)) (fun _ _ _ _ _ => (pg_name (i := 7) sc_law_options.nd rfl (Or.inl rfl))) (fun _ _ _ _ _ => pts_one (pt_chain op_le op_le (pe_ix (show IxR _ (rIxT K) from ix_tup) (pv 7) pe_int (fun _ _ => rfl)) (pv 4) (pe_ix (show IxR _ (rIxT K) from ix_tup) (pv 7) pe_int (fun _ _ => rfl)))) (fun _ _ _ _ _ => (pv 7)))
      (pss_cons (ps_setLc (i := 6) (own := [("_law_one", 7)]) (g := (gName 7)) (by rfl) sc_law_options.nd rfl rfl (sw_true rfl rfl rfl (by decide +kernel)) (pi_list (pv 6)) (blkOk_by (own := [("_law_one", 7)]) (N := N_law_options) (sc := defScope s_law_options) (by decide +kernel)) (fun _ _ _ _ _ => (pg_name (i := 7) sc_law_options.nd rfl (Or.inl rfl))) (fun _ _ _ _ _ => pts_one (pt_not (pt_val (pe_call (ok_law_served T) (hr.mono (by decide)) (by rfl) T.g_law_served T.F_law_served.kp T.b_law_served .nil pass0 (pa_cons (pv 2) (pa_cons (pv 4) (pa_cons (pv 7) pa_nil))))))) (fun _ _ _ _ _ => (pv 7)))
      (pss_cons (ps_set (i := 8) sc_law_options.nd rfl (Or.inl rfl) (pe_lst pa_nil))
      (pss_cons (ps_for PassesOwn.never rfl (pi_list (pv 6)) (pg_tup rfl (pgs_cons (pg_name (i := 9) sc_law_options.nd rfl (Or.inr rfl)) (pgs_cons (pg_name (i := 10) sc_law_options.nd rfl (Or.inr rfl)) pgs_nil)))
      (pss_one (ps_if (pt_cmpR (op_eqL hr.units0) (pe_lc (own := [("_law_one", 7)]) (g := (gName 7)) (by rfl) sc_law_options.nd (pi_list (pv 6)) (blkOk_by (own := [("_law_one", 7)]) (N := N_law_options) (sc := defScope s_law_options) (by decide +kernel)) (fun _ _ _ _ _ => (pg_name (i := 7) sc_law_options.nd rfl (Or.inl rfl))) (fun _ _ _ _ _ => pts_one (PW.pt (pw_and (pt_cmpR op_le (pv 9) (pe_ix (show IxR _ (rIxT K) from ix_tup) (pv 7) pe_int (fun _ _ => rfl)) (nomark _)) (pw_and (pt_cmpR op_le (pe_ix (show IxR _ (rIxT K) from ix_tup) (pv 7) pe_int (fun _ _ => rfl)) (pv 10) (nomark _)) (pw_and1 (pt_cmpR (show OpR _ (compareOp .NotEq) (rNeD K) from op_neD hr.units) (pv 7) (pe_tup (pa_cons (pv 9) (pa_cons (pv 10) pa_nil))) (nomark _))))))) (fun _ _ _ _ _ => (pv 7))) (pe_lst pa_nil) (nomark _))
      (pss_one (ps_expr (pe_bm PySem.F.plainAttrs_list PySem.F.slot_list_append PySem.F.type_list_append mt_append (pv 8) (pa_cons (pe_tup (pa_cons (pv 4) (pa_cons (pe_tup (pa_cons (pv 9) (pa_cons (pv 10) pa_nil))) pa_nil))) pa_nil))))
      pss_nil)))
      (pss_one (ps_expr (pe_bm PySem.F.plainAttrs_list PySem.F.slot_list_append PySem.F.type_list_append mt_append (pv 3) (pa_cons (pv 8) pa_nil)))))))))
      (pss_one (ps_ret (pv 3))))), ?_⟩
    have ll := ivl.length
    have la := iva.length
    refine ⟨by show 0 ≤ sizeLine; decide, fun F nF => ?_⟩
    have s1 := same_new (o := .lst []) nF
    have eF := upd_same (H := H) (a := F) (o := .lst [])
    generalize upd H F (.lst []) = H1 at *
    refine ⟨.ref l, rfl, l, rfl, ⟨_, SqL.of (s1 _ _ hl)⟩, for_list (K := K) (a := l) (xs := lus) (D := ⟨_, _, fun _ _ => True, fun _ _ => True⟩) (fun k σ H' => Same H H' ∧ (∃ fus, H' F = some (.lst fus) ∧ Opts H' (fun x => x ≠ F) fus ((cs.take k).map fun c => optO ts ps c.1)) ∧ ∃ y4 y5 y6 y8 y9 y10, σ = [some (.ref l), some (.ref a), some (.ref b), some (.ref F), y4, y5, y6, none, y8, y9, y10])
      ⟨s1, ⟨[], eF, .nil⟩, _, _, _, _, _, _, rfl⟩ (fun k σ H' _ h => SqL.of (h.1 _ _ hl)) ?_ ?_⟩
    rotate_left
    · rintro σ H2 ⟨s2, ⟨fus, eF2, op⟩, y4, y5, y6, y8, y9, y10, rfl⟩
      rw [ll, List.take_length] at op
      exact ⟨.ref F, rfl, q H2 F fus s2 eF2 (op.imp fun _ _ => trivial)⟩
    rintro k z σ H2 hk ⟨s2, ⟨fus, eF2, op⟩, y4, y5, y6, y8, y9, y10, rfl⟩
    obtain ⟨c, cx, cy, rfl, ec, hc⟩ := ivl.get hk
    have kl := (List.getElem?_eq_some_iff.mp ec).1
    refine ⟨c, _, rfl, SqT.of (s2 _ _ hc), rfl, .int cx, [.int cy], rfl, .int cy, [], rfl, rfl, ?_⟩
    have ha2 := s2 _ _ ha
    have iva2 := iva.same s2
    refine ⟨.ref a, rfl, a, rfl, ⟨_, SqT.of ha2⟩, fun D1 nD1 => ?_⟩
    refine lcT (K := K) (a := a) (xs := us) (fun j H' ws => Ivs H' ws ((ts.take j).filter fun t => decide (t.1 ≤ cx) && decide (cx ≤ t.2))) nD1 (fun H' s => SqT.of (s _ _ (ha2))) (by omega) (fun _ _ _ _ t r => r.tps t) (fun j H' ws r => (by rw [r.length]; exact Nat.le_trans (List.length_filter_le _ _) (List.length_take_le _ _))) (fun _ => .nil) ?_ ?_
    · rintro j z H' N acc hj sj eA sz r no yes
      obtain ⟨u, x, y, rfl, exy, hu⟩ := iva2.get hj
      have hu' := sj _ _ hu
      have stop : (decide (x ≤ cx) && decide (cx ≤ y)) = false → N H' := fun e => no H' (Same.refl _) (by
        rw [take_filter exy, if_neg (by rw [show (decide ((x, y).1 ≤ cx) && decide (cx ≤ (x, y).2)) = false from e]; exact Bool.false_ne_true), List.append_nil]
        exact r)
      refine ⟨rfl, .ref u, rfl, u, _, 0, .int x, rfl, rfl, SqT.of hu', rfl, .int cx, rfl, _, _, rfl, rfl, _, rfl, ite2 (fun e1 => ?_) (fun e1 => ⟨_, rfl, iteF (stop (by rw [Bool.not_eq_true] at e1; rw [show decide (x ≤ cx) = false from e1]; rfl))⟩)⟩
      refine ⟨.ref u, rfl, u, _, 1, .int y, rfl, rfl, SqT.of hu', rfl, _, _, rfl, rfl, _, rfl, ite2 (fun e2 => ?_) (fun e2 => stop (by rw [Bool.not_eq_true] at e2; rw [show decide (cx ≤ y) = false from e2, Bool.and_false]))⟩
      refine ⟨.ref u, rfl, yes H' _ (Same.refl _) ?_⟩
      rw [take_filter exy, if_pos (show (decide (x ≤ cx) && decide (cx ≤ y)) = true by rw [show decide (x ≤ cx) = true from e1, show decide (cx ≤ y) = true from e2]; rfl)]
      exact r.snoc hu'
    intro H3 w3 s3 eD1 r3
    rw [la, List.take_length] at r3
    have s23 := s2.trans s3
    obtain ⟨g1, eg1⟩ : ∃ g, g = ts.filter fun t => decide (t.1 ≤ cx) && decide (cx ≤ t.2) := ⟨_, rfl⟩
    rw [← eg1] at r3
    have lg1 : g1.length ≤ ts.length := by
      rw [eg1]
      exact List.length_filter_le _ _
    have lw3 := r3.length
    refine ⟨.ref D1, rfl, D1, rfl, ⟨_, SqL.of eD1⟩, fun D2 nD2 => ?_⟩
    refine lcL (K := K) (a := D1) (xs := w3) (fun j H' ws => Ivs H' ws ((g1.take j).filter fun t => !servI ps cx t)) nD2 (fun H' s => SqL.of (s _ _ (eD1))) (by omega) (fun _ _ _ _ t r => r.tps t) (fun j H' ws r => (by rw [r.length]; exact Nat.le_trans (List.length_filter_le _ _) (List.length_take_le _ _))) (fun _ => .nil) ?_ ?_
    · rintro j z H' N acc hj sj eA sz r no yes
      obtain ⟨u, x, y, rfl, exy, hu⟩ := r3.get hj
      have s2j := s23.trans sj
      refine ⟨rfl, .ref b, rfl, .int cx, rfl, .ref u, rfl, b, u, ws, ps, cx, x, y, rfl, s2j _ _ hb, ivb.same s2j, fps, sj _ _ hu, fun H'' s'' => ⟨_, rfl, ?_⟩⟩
      refine ite2 (fun e => ?_) (fun e => ?_)
      · refine ⟨.ref u, rfl, yes H'' _ s'' ?_⟩
        rw [take_filter exy, if_pos e]
        exact (r.same s'').snoc (s'' _ _ (sj _ _ hu))
      · refine no H'' s'' ?_
        rw [take_filter exy, if_neg e, List.append_nil]
        exact r.same s''
    intro H4 w4 s4 eD2 r4
    rw [lw3, List.take_length] at r4
    have s24 := s23.trans s4
    obtain ⟨g2, eg2⟩ : ∃ g, g = g1.filter fun t => !servI ps cx t := ⟨_, rfl⟩
    rw [← eg2] at r4
    have lg2 : g2.length ≤ g1.length := by
      rw [eg2]
      exact List.length_filter_le _ _
    have eg : g2 = someO ts ps cx := by rw [eg2, eg1]; rfl
    have lw4 := r4.length
    refine ⟨by show 0 ≤ sizeLine; decide, fun M nM => ?_⟩
    have nFM : M ≠ F := (ne_of_none ((s3.trans s4) _ _ eF2) nM).symm
    have s5 := same_new (o := .lst []) nM
    have eM := upd_same (H := H4) (a := M) (o := .lst [])
    generalize upd H4 M (.lst []) = H5 at *
    have s25 := s24.trans s5
    have eD25 := s5 _ _ eD2
    have nDM : D2 ≠ M := ne_of_none eD2 nM
    have nM2 : H2 M = none := (s3.trans s4).free nM
    refine ⟨.ref D2, rfl, D2, rfl, ⟨_, SqL.of eD25⟩, for_list (K := K) (a := D2) (xs := w4) (D := ⟨_, _, fun _ _ => True, fun _ _ => True⟩) (fun j σ H' => (∀ x o, x ≠ M → H5 x = some o → H' x = some o) ∧ (∃ mus, H' M = some (.lst mus) ∧ Dms H' mus (((g2.take j).filter fun t => (g2.filter (inT t)).isEmpty).map fun t => (cx, t)) ∧ mus.length ≤ j) ∧ ∃ y9 y10, σ = [some (.ref l), some (.ref a), some (.ref b), some (.ref F), some (.int cx), some (.int cy), some (.ref D2), none, some (.ref M), y9, y10])
      ⟨fun x o _ e => e, ⟨[], eM, .nil, Nat.zero_le _⟩, _, _, rfl⟩ (fun j σ H' _ h => SqL.of (h.1 _ _ nDM eD25)) ?_ ?_⟩
    rotate_left
    · rintro σ H6 ⟨k6, ⟨mus, eM6, dm6, lm⟩, y9, y10, rfl⟩
      rw [lw4, List.take_length] at dm6
      have eF6 : H6 F = some (.lst fus) := k6 _ _ nFM.symm ((s3.trans (s4.trans s5)) _ _ eF2)
      have t26 : Tps H2 H6 := (Tps.same (s3.trans (s4.trans s5))).trans fun x xs e => k6 _ _ (ne_of e eM (fun z => by cases z)) e
      have l26 : ∀ x us, H2 x = some (.lst us) → H6 x = some (.lst us) := fun x us e => k6 _ _ (ne_of_none e nM2) ((s3.trans (s4.trans s5)) _ _ e)
      have lf := op.length
      rw [List.length_map, List.length_take] at lf
      refine ⟨.ref F, rfl, .inl ⟨rfl, _, SqL.of eF6⟩, .ref M, rfl, F, fus, _, rfl, rfl, eF6, by rw [lf]; exact small1000 (by omega), ?_⟩
      have tF : Tps H6 (upd H6 F (.lst (fus ++ [.ref M]))) := Tps.lst eF6
      refine ⟨fun x o e => ?_, ⟨_, upd_same, ?_⟩, _, _, _, _, _, _, rfl⟩
      · rw [upd_ne (ne_of_none e nF)]
        exact k6 _ _ (ne_of_none (s2 _ _ e) nM2) (s25 _ _ e)
      · rw [List.take_add_one, ec, List.map_append]
        have eo : [some (cx, cy)].reduceOption = [(cx, cy)] := rfl
        refine ((op.keep t26 fun x us _ e => l26 x us e).keep tF fun x us h e => by rw [upd_ne h]; exact e).snoc (by rw [upd_ne nFM]; exact eM6) (dm6.tps tF) nFM |> fun z => ?_
        have ez : (((g2.filter fun t => (g2.filter (inT t)).isEmpty).map fun t => (cx, t)) : List Dem) = optO ts ps cx := by rw [eg]; rfl
        rw [ez] at z
        exact z
    rintro j z σ H6 hj ⟨k6, ⟨mus, eM6, dm6, lm⟩, y9, y10, rfl⟩
    have r46 : Ivs H6 w4 g2 := (r4.same s5).tps fun x xs e => k6 _ _ (ne_of e eM (fun z => by cases z)) e
    obtain ⟨u, x, y, rfl, exy, hu⟩ := r46.get hj
    have jl := (List.getElem?_eq_some_iff.mp exy).1
    refine ⟨u, _, rfl, SqT.of hu, rfl, .int x, [.int y], rfl, .int y, [], rfl, rfl, ?_⟩
    have eD26 := k6 _ _ nDM eD25
    refine ⟨.ref D2, rfl, D2, rfl, ⟨_, SqL.of eD26⟩, fun D3 nD3 => ?_⟩
    refine lcL (K := K) (a := D2) (xs := w4) (fun j H' ws => Ivs H' ws ((g2.take j).filter (inT (x, y)))) nD3 (fun H' s => SqL.of (s _ _ (eD26))) (by omega) (fun _ _ _ _ t r => r.tps t) (fun j H' ws r => (by rw [r.length]; exact Nat.le_trans (List.length_filter_le _ _) (List.length_take_le _ _))) (fun _ => .nil) ?_ ?_
    · rintro i z H' N acc hi sj eA sz r no yes
      obtain ⟨u2, x2, y2, rfl, exy2, hu2⟩ := r46.get hi
      have hu2' := sj _ _ hu2
      have stop : ∀ {Hn : Hp}, Same H' Hn → inT (x, y) (x2, y2) = false → N Hn := fun {Hn} sn e => no Hn sn (by
        rw [take_filter exy2, if_neg (by rw [e]; exact Bool.false_ne_true), List.append_nil]
        exact r.same sn)
      have unf : inT (x, y) (x2, y2) = (decide (x ≤ x2) && (decide (y2 ≤ y) && !decide ((x2, y2) = (x, y)))) := rfl
      refine ⟨rfl, .int x, rfl, .ref u2, rfl, u2, _, 0, .int x2, rfl, rfl, SqT.of hu2', rfl, _, _, rfl, rfl, _, rfl, ite2 (fun e1 => ?_) (fun e1 => iteF (stop (Same.refl _) (by rw [Bool.not_eq_true] at e1; rw [unf, show decide (x ≤ x2) = false from e1]; rfl)))⟩
      refine ⟨.ref u2, rfl, u2, _, 1, .int y2, rfl, rfl, SqT.of hu2', rfl, .int y, rfl, _, _, rfl, rfl, _, rfl, ite2 (fun e2 => ?_) (fun e2 => iteF (stop (Same.refl _) (by rw [Bool.not_eq_true] at e2; rw [unf, show decide (y2 ≤ y) = false from e2, Bool.false_and, Bool.and_false])))⟩
      refine ⟨.ref u2, rfl, .int x, rfl, .int y, rfl, by show 2 ≤ sizeLine; decide, fun tp ntp => ?_⟩
      have sn := same_new (o := .tup [.int x, .int y]) ntp
      have etp := upd_same (H := H') (a := tp) (o := .tup [.int x, .int y])
      generalize upd H' tp (.tup [.int x, .int y]) = Hn at *
      refine ⟨_, _, dp2 (sn _ _ hu2'), dp2 etp, rfl, rfl, _, rfl, ?_⟩
      rw [eqv_pair]
      refine ite2 (fun e3 => ?_) (fun e3 => stop sn (by rw [Bool.not_eq_true] at e3; rw [unf, show (!decide ((x2, y2) = (x, y))) = false from e3, Bool.and_false, Bool.and_false]))
      refine ⟨.ref u2, rfl, yes Hn _ sn ?_⟩
      rw [take_filter exy2, if_pos (by rw [unf, show decide (x ≤ x2) = true from e1, show decide (y2 ≤ y) = true from e2, show (!decide ((x2, y2) = (x, y))) = true from e3]; rfl)]
      exact (r.same sn).snoc (sn _ _ hu2')
    intro H7 w7 s7 eD3 r7
    rw [lw4, List.take_length] at r7
    refine ⟨by show 0 ≤ sizeLine; decide, fun e ne => ?_⟩
    have s8 := same_new (o := .lst []) ne
    have ee := upd_same (H := H7) (a := e) (o := .lst [])
    generalize upd H7 e (.lst []) = H8 at *
    have s68 := s7.trans s8
    refine ⟨D3, e, w7, rfl, rfl, SqL.of (s8 _ _ eD3), SqL.of ee, _, rfl, ?_⟩
    rw [r7.isEmpty]
    have ok0 : x ≤ cx ∧ cx ≤ y := by
      have m : (x, y) ∈ g2 := List.mem_of_getElem? exy
      rw [eg] at m
      exact (mem_some.mp m).2.1
    have fe : ((g2.take (j + 1)).filter fun t => (g2.filter (inT t)).isEmpty) = ((g2.take j).filter fun t => (g2.filter (inT t)).isEmpty) ++ (if (g2.filter (inT (x, y))).isEmpty = true then [(x, y)] else []) := take_filter (p := fun t => (g2.filter (inT t)).isEmpty) exy
    refine ite2 (fun c1 => ?_) (fun c1 => ?_)
    · refine ⟨.ref M, rfl, .inl ⟨rfl, _, SqL.of (s68 _ _ eM6)⟩, .int cx, rfl, .int x, rfl, .int y, rfl, by show 2 ≤ sizeLine; decide, fun t1 nt1 => ?_⟩
      have s9 := same_new (o := .tup [.int x, .int y]) nt1
      have et1 := upd_same (H := H8) (a := t1) (o := .tup [.int x, .int y])
      generalize upd H8 t1 (.tup [.int x, .int y]) = H9 at *
      refine ⟨by show 2 ≤ sizeLine; decide, fun t2 nt2 => ?_⟩
      have s10 := same_new (o := .tup [.int cx, .ref t1]) nt2
      have et2 := upd_same (H := H9) (a := t2) (o := .tup [.int cx, .ref t1])
      generalize upd H9 t2 (.tup [.int cx, .ref t1]) = H10 at *
      have s610 := s68.trans (s9.trans s10)
      have eM10 := s610 _ _ eM6
      refine ⟨M, mus, _, rfl, rfl, eM10, by exact small1000 (by omega), ?_⟩
      have tM : Tps H10 (upd H10 M (.lst (mus ++ [.ref t2]))) := Tps.lst eM10
      refine ⟨fun x' o n e' => ?_, ⟨_, upd_same, ?_, by rw [List.length_append]; show mus.length + 1 ≤ j + 1; omega⟩, _, _, rfl⟩
      · rw [upd_ne n]
        exact s610 _ _ (k6 _ _ n e')
      · rw [fe, if_pos c1, List.map_append]
        exact ((dm6.same s610).snoc (p := cx) (lo := x) (hi := y) ⟨⟨t2, t1, rfl, et2, s10 _ _ et1⟩, ok0.1, ok0.2⟩).tps tM
    · refine ⟨fun x' o n e' => s68 _ _ (k6 _ _ n e'), ⟨mus, s68 _ _ eM6, ?_, by omega⟩, _, _, rfl⟩
      rw [fe, if_neg c1, List.append_nil]
      exact dm6.same s68

/-! ### the law's search, a level for each depth -/
def sp_most (n : Nat) : Sp := fun vs H Q _ => ∃ (O C : Addr) (ous cws : List V) (os : List (List Dem)) (ch : List Dem), vs = [.ref O, .ref C] ∧ H O = some (.lst ous) ∧ Opts H (fun _ => True) ous os ∧ os.length ≤ n ∧ (∀ o ∈ os, o.length < 1000) ∧ H C = some (.lst cws) ∧ Dms H cws ch ∧ ch.length + os.length ≤ 20 ∧
  ∀ H', Same H H' → Q (.int (mostF os ch : Nat)) H'
def sp_mostP : Nat → Sp
  | 0 => fun _ _ _ _ => False
  | n + 1 => sp_most n
abbrev bestF (os : List (List Dem)) (ch : List Dem) (b : Nat) (d : Dem) : Nat := if freeC ch d = true then max b (1 + mostF os (ch ++ [d])) else b
theorem max_int (a b : Nat) : (if (1 : Int) + (b : Nat) > (a : Nat) then (1 : Int) + (b : Nat) else (a : Nat)) = ((max a (1 + b) : Nat) : Int) := by
  rcases Nat.le_total a (1 + b) with z | z
  · rw [Nat.max_eq_right z]
    split <;> omega
  · rw [Nat.max_eq_left z]
    split <;> omega
theorem most_step (T : Tx K mg f_is_number f_is_position f_is_tuple_of f_is_interval f_ascending_error f_targets_error f_is_pieces f_has_position f_contains f_pieces_inside f_first_gap f_find_missing f_without_item f_with_interval f_without_interval f_edited_state f_depth_changes f_find_blocks f_serves f_conflict f_demands_at_blocks f_is_open f_open_demands f_shadow_target f_require_few_blocks f_decisive_demands f_largest_independent f_unserved_demands f_helpful_piece f_smallest_solution f_count_needed f_solve f_law_deck f_law_draw f_law_line f_law_interval f_law_intervals f_law_served f_law_options f_law_conflict f_law_most f_law_needed f_law_edit f_law_after f_law_do f_law_begun f_law_generated f_law_solution_right f_law f_Plan_init f_Plan_add_target f_Plan_add_piece f_Plan_remove_target f_Plan_remove_piece f_Plan_targets f_Plan_pieces f_Plan_needed f_Plan_solution f_Plan_missing f_Plan_edit f_Plan_record f_Plan_require_idle f_Plan_state_at f_Plan_len f_Plan_str f_Plan_eq C_Plan d_is_number d_is_position d_is_tuple_of d_is_interval d_ascending_error d_targets_error d_is_pieces d_has_position d_contains d_pieces_inside d_first_gap d_find_missing d_without_item d_with_interval d_without_interval d_edited_state d_depth_changes d_find_blocks d_serves d_conflict d_demands_at_blocks d_is_open d_open_demands d_shadow_target d_require_few_blocks d_decisive_demands d_largest_independent d_unserved_demands d_helpful_piece d_smallest_solution d_count_needed d_solve d_law_deck d_law_draw d_law_line d_law_interval d_law_intervals d_law_served d_law_options d_law_conflict d_law_most d_law_needed d_law_edit d_law_after d_law_do d_law_begun d_law_generated d_law_solution_right d_law d_Plan_init d_Plan_add_target d_Plan_add_piece d_Plan_remove_target d_Plan_remove_piece d_Plan_targets d_Plan_pieces d_Plan_needed d_Plan_solution d_Plan_missing d_Plan_edit d_Plan_record d_Plan_require_idle d_Plan_state_at d_Plan_len d_Plan_str d_Plan_eq t_LAST_POSITION t_MAX_TARGETS t_MAX_PIECES t_MAX_BLOCKS t_MAX_EDITS) (n : Nat) (ih : FnOk P w K mg base CX0 (n + 2) f_law_most d_law_most ["_law_options_here", "_law_chosen"] (sp_mostP n)) : FnOk P w K mg base CX0 (n + 3) f_law_most d_law_most ["_law_options_here", "_law_chosen"] (sp_most n) := by
  refine T.F_law_most.ok sc_law_most (fun vs H Q E h => ?_) (fun cdv A outer s H vs Q E hr h => ?_)
  · obtain ⟨O, C, ous, cws, os, ch, rfl, _⟩ := h
    rfl
  · obtain ⟨O, C, ous, cws, os, ch, rfl, hO, op, ln, fo, hC, dmc, few, q⟩ := h
    refine ⟨_, (pss_cons (ps_if (pt_cmpR (op_eqL hr.units0) (pv 0) (pe_lst pa_nil) (nomark _))
      (pss_one (ps_ret pe_int))
      pss_nil)
      (pss_cons (ps_set (i := 2) sc_law_most.nd rfl (Or.inl rfl) (pe_call ih (hr.mono (by omega)) (by rfl) T.g_law_most T.F_law_most.kp T.b_law_most .nil pass0 (pa_cons (pe_slice sl_list (pv 0) (po_some pe_int) po_none) (pa_cons (pv 1) pa_nil))))
      (pss_cons (ps_for PassesOwn.never rfl (pi_list (pe_ix ix_list (pv 0) pe_int (fun _ _ => rfl))) (pg_name (i := 3) sc_law_most.nd rfl (Or.inr rfl))
      (pss_one (ps_if (pt_cmpR (op_eqL hr.units0) (pe_lc (own := [("_law_one", 4)]) (g := (gName 4)) (by rfl) sc_law_most.nd (pi_list (pv 1)) (blkOk_by (own := [("_law_one", 4)]) (N := N_law_most) (sc := defScope s_law_most) (by decide +kernel)) (fun _ _ _ _ _ => (pg_name (i := 4) sc_law_most.nd rfl (Or.inl rfl))) (fun _ _ _ _ _ => pts_one (pt_val (pe_call (ok_law_conflict T) (hr.mono (by omega)) (by rfl) T.g_law_conflict T.F_law_conflict.kp T.b_law_conflict .nil pass0 (pa_cons (pv 4) (pa_cons (pv 3) pa_nil))))) (fun _ _ _ _ _ => (pv 4))) (pe_lst pa_nil) (nomark _))
      (pss_one (ps_set (i := 2) sc_law_most.nd rfl (Or.inl rfl) (pe_callB (call_max2 rfl) (by rfl) T.z_max (by decide +kernel) (pa_cons (pv 2) (pa_cons (pe_op op_add pe_int (pe_call ih (hr.mono (by omega)) (by rfl) T.g_law_most T.F_law_most.kp T.b_law_most .nil pass0 (pa_cons (pe_slice sl_list (pv 0) (po_some pe_int) po_none) (pa_cons (pe_op op_cat (pv 1) (pe_lst (pa_cons (pv 3) pa_nil))) pa_nil)))) pa_nil)))))
      pss_nil)))
      (pss_one (ps_ret (pv 2)))))), ?_⟩
    have lc := dmc.length
    refine ⟨.ref O, rfl, by show 0 ≤ sizeLine; decide, fun e ne => ?_⟩
    have s1 := same_new (o := .lst []) ne
    have ee := upd_same (H := H) (a := e) (o := .lst [])
    generalize upd H e (.lst []) = H1 at *
    refine ⟨O, e, ous, rfl, rfl, SqL.of (s1 _ _ hO), SqL.of ee, _, rfl, ?_⟩
    cases op with
    | nil => exact iteT (q H1 s1)
    | @cons a zs us o os ha dm _ op =>
    refine iteF ?_
    rw [List.length_cons] at ln few
    obtain ⟨m, rfl⟩ : ∃ m, n = m + 1 := ⟨n - 1, by omega⟩
    have hO1 := s1 _ _ hO
    have lz := dm.length
    have lo := fo o List.mem_cons_self
    have fo' : ∀ o ∈ os, o.length < 1000 := fun o h => fo o (List.mem_cons_of_mem _ h)
    refine ⟨.ref O, rfl, 1, rfl, O, _, rfl, SqL.of hO1, fun R nR => ?_⟩
    rw [show cutV (V.ref a :: us) (some 1) none = us from cutFrom (V.ref a :: us) 1]
    have s2 := same_new (o := .lst us) nR
    have eR := upd_same (H := H1) (a := R) (o := .lst us)
    generalize upd H1 R (.lst us) = H2 at *
    have s12 := s1.trans s2
    refine ⟨.ref C, rfl, R, C, us, cws, os, ch, rfl, eR, op.same s12, by omega, fo', s12 _ _ hC, dmc.same s12, by omega, fun H3 s3 => ?_⟩
    have s13 := s12.trans s3
    have hO3 := s13 _ _ hO
    refine ⟨.ref O, rfl, O, _, 0, .ref a, rfl, rfl, SqL.of hO3, (show atI (V.ref a :: us) ((0 : Nat) : Int) = some (.ref a) from atI_nat rfl), a, rfl, ⟨_, SqL.of (s13 _ _ ha)⟩, ?_⟩
    refine for_list (K := K) (a := a) (xs := zs) (D := ⟨_, _, fun _ _ => True, fun _ _ => True⟩) (fun j σ H' => Same H H' ∧ ∃ y3, σ = [some (.ref O), some (.ref C), some (.int ((o.take j).foldl (bestF os ch) (mostF os ch) : Nat)), y3, none])
      ⟨s13, _, rfl⟩ (fun j σ H' _ h => SqL.of (h.1 _ _ ha)) ?_ ?_
    rotate_left
    · rintro σ H4 ⟨s4, y3, rfl⟩
      refine ⟨.int _, rfl, ?_⟩
      rw [lz, List.take_length]
      exact q H4 s4
    rintro j z σ H4 hj ⟨s4, y3, rfl⟩
    obtain ⟨p, lo', hi', ed, dz⟩ := (dm.same s4).get hj
    have hC4 := s4 _ _ hC
    have dmc4 := dmc.same s4
    refine ⟨.ref C, rfl, C, rfl, ⟨_, SqL.of hC4⟩, fun D nD => ?_⟩
    refine lcL (K := K) (a := C) (xs := cws) (fun j H' ws => Dms H' ws ((ch.take j).filter fun c => cf c (p, lo', hi'))) nD (fun H' s => SqL.of (s _ _ (hC4))) (by omega) (fun _ _ _ _ t r => r.tps t) (fun j H' ws r => (by rw [r.length]; exact Nat.le_trans (List.length_filter_le _ _) (List.length_take_le _ _))) (fun _ => .nil) ?_ ?_
    · rintro i x H' N acc hi sj eA sz r no yes
      obtain ⟨p2, lo2, hi2, ed2, dx⟩ := dmc4.get hi
      refine ⟨rfl, x, rfl, z, rfl, x, z, p2, lo2, hi2, p, lo', hi', rfl, dx.same sj, dz.same sj, _, rfl, ite2 (fun c => ?_) (fun c => ?_)⟩
      · refine ⟨x, rfl, yes H' _ (Same.refl _) ?_⟩
        rw [take_filter ed2, if_pos c]
        exact r.snoc (dx.same sj)
      · refine no H' (Same.refl _) ?_
        rw [take_filter ed2, if_neg c, List.append_nil]
        exact r
    intro H5 w5 s5 eD r5
    rw [lc, List.take_length] at r5
    have s45 := s4.trans s5
    refine ⟨by show 0 ≤ sizeLine; decide, fun e2 ne2 => ?_⟩
    have s6 := same_new (o := .lst []) ne2
    have ee2 := upd_same (H := H5) (a := e2) (o := .lst [])
    generalize upd H5 e2 (.lst []) = H6 at *
    have s46 := s45.trans s6
    refine ⟨D, e2, w5, rfl, rfl, SqL.of (s6 _ _ eD), SqL.of ee2, _, rfl, ?_⟩
    rw [r5.isEmpty]
    have step : (o.take (j + 1)).foldl (bestF os ch) (mostF os ch) = bestF os ch ((o.take j).foldl (bestF os ch) (mostF os ch)) (p, lo', hi') := by
      rw [List.take_add_one, ed, List.foldl_append]
      rfl
    refine ite2 (fun c => ?_) (fun c => ?_)
    · have hO6 := s46 _ _ hO
      have hC6 := s46 _ _ hC
      refine ⟨.int _, rfl, .ref O, rfl, 1, rfl, O, _, rfl, SqL.of hO6, fun R2 nR2 => ?_⟩
      rw [show cutV (V.ref a :: us) (some 1) none = us from cutFrom (V.ref a :: us) 1]
      have s7 := same_new (o := .lst us) nR2
      have eR2 := upd_same (H := H6) (a := R2) (o := .lst us)
      generalize upd H6 R2 (.lst us) = H7 at *
      refine ⟨.ref C, rfl, z, rfl, by show 1 ≤ sizeLine; decide, fun u nu => ?_⟩
      have s8 := same_new (o := .lst [z]) nu
      have eu := upd_same (H := H7) (a := u) (o := .lst [z])
      generalize upd H7 u (.lst [z]) = H8 at *
      have s68 := s7.trans s8
      refine ⟨C, u, cws, [z], rfl, rfl, s68 _ _ hC6, eu, by rw [show sizeLine = 16777216 by decide]; show cws.length + 1 ≤ _; omega, fun g ng => ?_⟩
      have s9 := same_new (o := .lst (cws ++ [z])) ng
      have eg := upd_same (H := H8) (a := g) (o := .lst (cws ++ [z]))
      generalize upd H8 g (.lst (cws ++ [z])) = H9 at *
      have s49 := s46.trans (s68.trans s9)
      refine ⟨R2, g, us, _, os, ch ++ [(p, lo', hi')], rfl, (s8.trans s9) _ _ eR2, op.same s49, by omega, fo', eg, (dmc.same s49).snoc (dz.same (s5.trans (s6.trans (s68.trans s9)))), by rw [List.length_append]; show ch.length + 1 + os.length ≤ 20; omega, fun H10 s10 => ?_⟩
      refine ⟨_, _, rfl, rfl, _, _, rfl, s49.trans s10, z, ?_⟩
      rw [step]
      unfold bestF
      rw [if_pos (show freeC ch (p, lo', hi') = true from c), ← max_int]
      rfl
    · refine ⟨s46, z, ?_⟩
      rw [step]
      unfold bestF
      rw [if_neg (show ¬ freeC ch (p, lo', hi') = true from c)]
      rfl
theorem most_all (T : Tx K mg f_is_number f_is_position f_is_tuple_of f_is_interval f_ascending_error f_targets_error f_is_pieces f_has_position f_contains f_pieces_inside f_first_gap f_find_missing f_without_item f_with_interval f_without_interval f_edited_state f_depth_changes f_find_blocks f_serves f_conflict f_demands_at_blocks f_is_open f_open_demands f_shadow_target f_require_few_blocks f_decisive_demands f_largest_independent f_unserved_demands f_helpful_piece f_smallest_solution f_count_needed f_solve f_law_deck f_law_draw f_law_line f_law_interval f_law_intervals f_law_served f_law_options f_law_conflict f_law_most f_law_needed f_law_edit f_law_after f_law_do f_law_begun f_law_generated f_law_solution_right f_law f_Plan_init f_Plan_add_target f_Plan_add_piece f_Plan_remove_target f_Plan_remove_piece f_Plan_targets f_Plan_pieces f_Plan_needed f_Plan_solution f_Plan_missing f_Plan_edit f_Plan_record f_Plan_require_idle f_Plan_state_at f_Plan_len f_Plan_str f_Plan_eq C_Plan d_is_number d_is_position d_is_tuple_of d_is_interval d_ascending_error d_targets_error d_is_pieces d_has_position d_contains d_pieces_inside d_first_gap d_find_missing d_without_item d_with_interval d_without_interval d_edited_state d_depth_changes d_find_blocks d_serves d_conflict d_demands_at_blocks d_is_open d_open_demands d_shadow_target d_require_few_blocks d_decisive_demands d_largest_independent d_unserved_demands d_helpful_piece d_smallest_solution d_count_needed d_solve d_law_deck d_law_draw d_law_line d_law_interval d_law_intervals d_law_served d_law_options d_law_conflict d_law_most d_law_needed d_law_edit d_law_after d_law_do d_law_begun d_law_generated d_law_solution_right d_law d_Plan_init d_Plan_add_target d_Plan_add_piece d_Plan_remove_target d_Plan_remove_piece d_Plan_targets d_Plan_pieces d_Plan_needed d_Plan_solution d_Plan_missing d_Plan_edit d_Plan_record d_Plan_require_idle d_Plan_state_at d_Plan_len d_Plan_str d_Plan_eq t_LAST_POSITION t_MAX_TARGETS t_MAX_PIECES t_MAX_BLOCKS t_MAX_EDITS) : ∀ n : Nat, FnOk P w K mg base CX0 (n + 3) f_law_most d_law_most ["_law_options_here", "_law_chosen"] (sp_most n)
  | 0 => most_step T 0 ⟨fun _ _ _ _ h => h.elim, fun _ _ _ _ _ _ _ _ _ _ _ _ _ h => h.elim⟩
  | n + 1 => most_step T (n + 1) (most_all T n)
theorem ok_law_most (T : Tx K mg f_is_number f_is_position f_is_tuple_of f_is_interval f_ascending_error f_targets_error f_is_pieces f_has_position f_contains f_pieces_inside f_first_gap f_find_missing f_without_item f_with_interval f_without_interval f_edited_state f_depth_changes f_find_blocks f_serves f_conflict f_demands_at_blocks f_is_open f_open_demands f_shadow_target f_require_few_blocks f_decisive_demands f_largest_independent f_unserved_demands f_helpful_piece f_smallest_solution f_count_needed f_solve f_law_deck f_law_draw f_law_line f_law_interval f_law_intervals f_law_served f_law_options f_law_conflict f_law_most f_law_needed f_law_edit f_law_after f_law_do f_law_begun f_law_generated f_law_solution_right f_law f_Plan_init f_Plan_add_target f_Plan_add_piece f_Plan_remove_target f_Plan_remove_piece f_Plan_targets f_Plan_pieces f_Plan_needed f_Plan_solution f_Plan_missing f_Plan_edit f_Plan_record f_Plan_require_idle f_Plan_state_at f_Plan_len f_Plan_str f_Plan_eq C_Plan d_is_number d_is_position d_is_tuple_of d_is_interval d_ascending_error d_targets_error d_is_pieces d_has_position d_contains d_pieces_inside d_first_gap d_find_missing d_without_item d_with_interval d_without_interval d_edited_state d_depth_changes d_find_blocks d_serves d_conflict d_demands_at_blocks d_is_open d_open_demands d_shadow_target d_require_few_blocks d_decisive_demands d_largest_independent d_unserved_demands d_helpful_piece d_smallest_solution d_count_needed d_solve d_law_deck d_law_draw d_law_line d_law_interval d_law_intervals d_law_served d_law_options d_law_conflict d_law_most d_law_needed d_law_edit d_law_after d_law_do d_law_begun d_law_generated d_law_solution_right d_law d_Plan_init d_Plan_add_target d_Plan_add_piece d_Plan_remove_target d_Plan_remove_piece d_Plan_targets d_Plan_pieces d_Plan_needed d_Plan_solution d_Plan_missing d_Plan_edit d_Plan_record d_Plan_require_idle d_Plan_state_at d_Plan_len d_Plan_str d_Plan_eq t_LAST_POSITION t_MAX_TARGETS t_MAX_PIECES t_MAX_BLOCKS t_MAX_EDITS) : FnOk P w K mg base CX0 12 f_law_most d_law_most ["_law_options_here", "_law_chosen"] (sp_most 9) := most_all T 9
def sp_law_needed : Sp := fun vs H Q _ => ∃ (l a b : Addr) (lus us ws : List V) (cs ts ps : List (Int × Int)), vs = [.ref l, .ref a, .ref b] ∧ H l = some (.lst lus) ∧ Ivs H lus cs ∧ Cells cs ∧ cs.length ≤ 9 ∧ H a = some (.tup us) ∧ Ivs H us ts ∧ H b = some (.tup ws) ∧ Ivs H ws ps ∧ ts.length ≤ 60 ∧ ps.length ≤ 60 ∧ (∀ q ∈ ts ++ ps, OfCells cs q) ∧
  ∀ H', Same H H' → Q (.int (needO ts ps : Nat)) H'
theorem opt_len (ts ps : List (Int × Int)) (x : Int) : (optO ts ps x).length ≤ ts.length := by
  unfold optO leastO someO
  rw [List.length_map]
  exact Nat.le_trans (List.length_filter_le _ _) (Nat.le_trans (List.length_filter_le _ _) (List.length_filter_le _ _))
theorem ok_law_needed (T : Tx K mg f_is_number f_is_position f_is_tuple_of f_is_interval f_ascending_error f_targets_error f_is_pieces f_has_position f_contains f_pieces_inside f_first_gap f_find_missing f_without_item f_with_interval f_without_interval f_edited_state f_depth_changes f_find_blocks f_serves f_conflict f_demands_at_blocks f_is_open f_open_demands f_shadow_target f_require_few_blocks f_decisive_demands f_largest_independent f_unserved_demands f_helpful_piece f_smallest_solution f_count_needed f_solve f_law_deck f_law_draw f_law_line f_law_interval f_law_intervals f_law_served f_law_options f_law_conflict f_law_most f_law_needed f_law_edit f_law_after f_law_do f_law_begun f_law_generated f_law_solution_right f_law f_Plan_init f_Plan_add_target f_Plan_add_piece f_Plan_remove_target f_Plan_remove_piece f_Plan_targets f_Plan_pieces f_Plan_needed f_Plan_solution f_Plan_missing f_Plan_edit f_Plan_record f_Plan_require_idle f_Plan_state_at f_Plan_len f_Plan_str f_Plan_eq C_Plan d_is_number d_is_position d_is_tuple_of d_is_interval d_ascending_error d_targets_error d_is_pieces d_has_position d_contains d_pieces_inside d_first_gap d_find_missing d_without_item d_with_interval d_without_interval d_edited_state d_depth_changes d_find_blocks d_serves d_conflict d_demands_at_blocks d_is_open d_open_demands d_shadow_target d_require_few_blocks d_decisive_demands d_largest_independent d_unserved_demands d_helpful_piece d_smallest_solution d_count_needed d_solve d_law_deck d_law_draw d_law_line d_law_interval d_law_intervals d_law_served d_law_options d_law_conflict d_law_most d_law_needed d_law_edit d_law_after d_law_do d_law_begun d_law_generated d_law_solution_right d_law d_Plan_init d_Plan_add_target d_Plan_add_piece d_Plan_remove_target d_Plan_remove_piece d_Plan_targets d_Plan_pieces d_Plan_needed d_Plan_solution d_Plan_missing d_Plan_edit d_Plan_record d_Plan_require_idle d_Plan_state_at d_Plan_len d_Plan_str d_Plan_eq t_LAST_POSITION t_MAX_TARGETS t_MAX_PIECES t_MAX_BLOCKS t_MAX_EDITS) : FnOk P w K mg base CX0 13 f_law_needed d_law_needed ["_law_line_here", "_law_targets", "_law_pieces"] sp_law_needed := by
  refine T.F_law_needed.ok sc_law_needed (fun vs H Q E h => ?_) (fun cdv A outer s H vs Q E hr h => ?_)
  · obtain ⟨l, a, b, lus, us, ws, cs, ts, ps, rfl, _⟩ := h
    rfl
  · obtain ⟨l, a, b, lus, us, ws, cs, ts, ps, rfl, hl, ivl, cells, c9, ha, iva, hb, ivb, ft, fp, oc, q⟩ := h
    refine ⟨_, (pss_one (ps_ret (pe_call (ok_law_most T) (hr.mono (by decide)) (by rfl) T.g_law_most T.F_law_most.kp T.b_law_most .nil pass0 (pa_cons (pe_call (ok_law_options T) (hr.mono (by decide)) (by rfl) T.g_law_options T.F_law_options.kp T.b_law_options .nil pass0 (pa_cons (pv 0) (pa_cons (pv 1) (pa_cons (pv 2) pa_nil)))) (pa_cons (pe_lst pa_nil) pa_nil))))), ?_⟩
    refine ⟨.ref l, rfl, .ref a, rfl, .ref b, rfl, l, a, b, lus, us, ws, cs, ts, ps, rfl, hl, ivl, ha, iva, hb, ivb, by omega, by omega, by omega, fun H1 D dus s1 eD op => ?_⟩
    refine ⟨by show 0 ≤ sizeLine; decide, fun e ne => ?_⟩
    have s2 := same_new (o := .lst []) ne
    have ee := upd_same (H := H1) (a := e) (o := .lst [])
    generalize upd H1 e (.lst []) = H2 at *
    refine ⟨D, e, dus, [], _, [], rfl, s2 _ _ eD, op.same s2, by rw [List.length_map]; exact c9, fun o ho => ?_, ee, .nil, by rw [List.length_map]; show 0 + cs.length ≤ 20; omega, fun H3 s3 => ?_⟩
    · obtain ⟨c, _, rfl⟩ := List.mem_map.mp ho
      exact Nat.lt_of_le_of_lt (opt_len _ _ _) (by omega)
    rw [law_count cells oc]
    exact q H3 (s1.trans (s2.trans s3))

/-! ### missing is None exactly if nothing is needed -/
theorem miss_iff {ts ps : List (Int × Int)} (g : Good (ts ++ ps)) : missO ps ts = none ↔ needO ts ps = 0 := by
  refine ⟨fun h => ?_, miss_zero g⟩
  have c : Com ts ps [] := fun t ht p h1 h2 => by
    have z := gapO_spec ps t
    rw [missO_none.mp h t ht] at z
    obtain ⟨q, hq, k1, k2, k3⟩ := z p h1 h2
    exact ⟨q, by rw [List.append_nil]; exact hq, k1.1, k2, k3, k1.2⟩
  exact Nat.le_zero.mp (need_of_com g c)
theorem DV.isN {H : Hp} {v : V} {o : Option (Int × Int × Int)} (h : DV H v o) : decide (v = V.non) = o.isNone := by
  match o, h with
  | none, h =>
    have h : v = .non := h
    rw [h]
    exact decide_eq_true rfl
  | some (g, lo, hi), h =>
    obtain ⟨u, t, e, _⟩ := h
    rw [e]
    exact decide_eq_false (fun z => by cases z)

/-! ### the law's own look at what is generated -/
def msC (hi : Int) (σ : L2.St) : Nat := match σ[5]? with
  | some (some (V.int p)) => (hi + 1 - p).toNat
  | _ => 0
def sp_law_generated : Sp := fun vs H Q _ => ∃ (l a b : Addr) (us ws : List V) (ts ps : List (Int × Int)), vs = [.ref l, .ref a, .ref b] ∧ H a = some (.tup us) ∧ Ivs H us ts ∧ ts.length < 1000 ∧ H b = some (.tup ws) ∧ Ivs H ws ps ∧ ps.length < 1000 ∧
  (∀ t ∈ ts, ∀ p, t.1 ≤ p → p ≤ t.2 → ∃ q ∈ ps, t.1 ≤ q.1 ∧ q.1 ≤ p ∧ p ≤ q.2 ∧ q.2 ≤ t.2) ∧ ∀ H', Same H H' → Q (.bl true) H'
theorem ok_law_generated (T : Tx K mg f_is_number f_is_position f_is_tuple_of f_is_interval f_ascending_error f_targets_error f_is_pieces f_has_position f_contains f_pieces_inside f_first_gap f_find_missing f_without_item f_with_interval f_without_interval f_edited_state f_depth_changes f_find_blocks f_serves f_conflict f_demands_at_blocks f_is_open f_open_demands f_shadow_target f_require_few_blocks f_decisive_demands f_largest_independent f_unserved_demands f_helpful_piece f_smallest_solution f_count_needed f_solve f_law_deck f_law_draw f_law_line f_law_interval f_law_intervals f_law_served f_law_options f_law_conflict f_law_most f_law_needed f_law_edit f_law_after f_law_do f_law_begun f_law_generated f_law_solution_right f_law f_Plan_init f_Plan_add_target f_Plan_add_piece f_Plan_remove_target f_Plan_remove_piece f_Plan_targets f_Plan_pieces f_Plan_needed f_Plan_solution f_Plan_missing f_Plan_edit f_Plan_record f_Plan_require_idle f_Plan_state_at f_Plan_len f_Plan_str f_Plan_eq C_Plan d_is_number d_is_position d_is_tuple_of d_is_interval d_ascending_error d_targets_error d_is_pieces d_has_position d_contains d_pieces_inside d_first_gap d_find_missing d_without_item d_with_interval d_without_interval d_edited_state d_depth_changes d_find_blocks d_serves d_conflict d_demands_at_blocks d_is_open d_open_demands d_shadow_target d_require_few_blocks d_decisive_demands d_largest_independent d_unserved_demands d_helpful_piece d_smallest_solution d_count_needed d_solve d_law_deck d_law_draw d_law_line d_law_interval d_law_intervals d_law_served d_law_options d_law_conflict d_law_most d_law_needed d_law_edit d_law_after d_law_do d_law_begun d_law_generated d_law_solution_right d_law d_Plan_init d_Plan_add_target d_Plan_add_piece d_Plan_remove_target d_Plan_remove_piece d_Plan_targets d_Plan_pieces d_Plan_needed d_Plan_solution d_Plan_missing d_Plan_edit d_Plan_record d_Plan_require_idle d_Plan_state_at d_Plan_len d_Plan_str d_Plan_eq t_LAST_POSITION t_MAX_TARGETS t_MAX_PIECES t_MAX_BLOCKS t_MAX_EDITS) : FnOk P w K mg base CX0 1 f_law_generated d_law_generated ["_law_line_here", "_law_targets", "_law_pieces"] sp_law_generated := by
  refine T.F_law_generated.ok sc_law_generated (fun vs H Q E h => ?_) (fun cdv A outer s H vs Q E hr h => ?_)
  · obtain ⟨l, a, b, us, ws, ts, ps, rfl, _⟩ := h
    rfl
  · obtain ⟨l, a, b, us, ws, ts, ps, rfl, ha, ivt, fewt, hb, ivp, fewp, cov, q⟩ := h
    refine ⟨_, (pss_cons (ps_for PassesOwn.never rfl (pi_tup (pv 1)) (pg_tup rfl (pgs_cons (pg_name (i := 3) sc_law_generated.nd rfl (Or.inr rfl)) (pgs_cons (pg_name (i := 4) sc_law_generated.nd rfl (Or.inr rfl)) pgs_nil)))
      (pss_cons (ps_set (i := 5) sc_law_generated.nd rfl (Or.inr rfl) (pv 3))
      (pss_one (ps_while PassesOwn.never (pt_cmpR op_le (pv 5) (pv 4) (nomark _))
      (pss_cons (ps_setLc (i := 6) (own := [("_law_one", 7)]) (g := (gName 7)) (by rfl) sc_law_generated.nd rfl rfl (sw_true rfl rfl rfl (by decide +kernel)) (pi_tup (pv 2)) (blkOk_by (own := [("_law_one", 7)]) (N := N_law_generated) (sc := defScope s_law_generated) (by decide +kernel)) (fun _ _ _ _ _ => (pg_name (i := 7) sc_law_generated.nd rfl (Or.inl rfl))) (fun _ _ _ _ _ => pts_one (pt_chN (pv 3) (pchT_link op_le (pe_ix (show IxR _ (rIxT K) from ix_tup) (pv 7) pe_int (fun _ _ => rfl)) (pchT_link op_le (pv 5) (pchT_link op_le (pe_ix (show IxR _ (rIxT K) from ix_tup) (pv 7) pe_int (fun _ _ => rfl)) (pchT_last op_le (pv 4))))))) (fun _ _ _ _ _ => (pe_ix (show IxR _ (rIxT K) from ix_tup) (pv 7) pe_int (fun _ _ => rfl))))
      (pss_cons (ps_if (pt_cmpR (op_eqL hr.units0) (pv 6) (pe_lst pa_nil) (nomark _))
      (pss_one (ps_ret pe_bl))
      pss_nil)
      (pss_one (ps_set (i := 5) sc_law_generated.nd rfl (Or.inr rfl) (pe_op op_add (pe_callB (cr_max rfl) (by rfl) T.z_max (by decide +kernel) (pa_cons (pv 6) pa_nil)) pe_int)))))))))
      (pss_one (ps_ret pe_bl))), ?_⟩
    have lu := ivt.length
    have lw := ivp.length
    refine ⟨.ref a, rfl, a, rfl, ⟨_, SqT.of ha⟩, for_tup (K := K) (a := a) (xs := us) (D := ⟨_, _, fun _ _ => True, fun _ _ => True⟩) (fun j σ H' => Same H H' ∧ ∃ (y3 y4 y5 y6 y7 : Option V), σ = [some (.ref l), some (.ref a), some (.ref b), y3, y4, y5, y6, y7])
      ⟨Same.refl _, _, _, _, _, _, rfl⟩ (fun j σ H' _ p => SqT.of (p.1 _ _ ha)) ?_ ?_⟩
    · rintro j v σ H1 hj ⟨s1, y3, y4, y5, y6, y7, rfl⟩
      obtain ⟨c, lo, hi, rfl, exy, hc⟩ := ivt.get hj
      have mt := List.mem_of_getElem? exy
      have hc1 := s1 _ _ hc
      refine ⟨c, _, rfl, SqT.of hc1, rfl, .int lo, [.int hi], rfl, .int hi, [], rfl, rfl, .int lo, rfl, ?_⟩
      refine while_by (fun σ H' => Same H H' ∧ ∃ (pos : Int) (z6 z7 : Option V), lo ≤ pos ∧ σ = [some (.ref l), some (.ref a), some (.ref b), some (.int lo), some (.int hi), some (.int pos), z6, z7]) (fun σ _ => msC hi σ) ⟨s1, lo, _, _, Int.le_refl _, rfl⟩ ?_ ?_
      · rintro σ H2 ⟨s2, pos, z6, z7, b1, rfl⟩
        refine ⟨.int pos, rfl, .int hi, rfl, _, _, rfl, rfl, _, rfl, ite2 (fun c0 => ?_) (fun _ => ⟨s2, _, _, _, _, _, rfl⟩)⟩
        have c0 : pos ≤ hi := of_decide_eq_true c0
        refine ⟨.ref b, rfl, b, rfl, ⟨_, SqT.of (s2 _ _ hb)⟩, fun D nD => ?_⟩
        refine lcT (K := K) (a := b) (xs := ws) (fun j H' zs => zs = (((ps.take j).filter fun q => decide (lo ≤ q.1 ∧ q.1 ≤ pos ∧ pos ≤ q.2 ∧ q.2 ≤ hi)).map (·.2)).map V.int) nD (fun H' s => SqT.of (s _ _ (s2 _ _ hb))) (by omega) (fun _ _ _ _ _ r => r) (fun j H' zs r => by
          rw [r, List.length_map, List.length_map]
          exact Nat.le_trans (List.length_filter_le _ _) (List.length_take_le _ _)) (fun _ => rfl) ?_ ?_
        · rintro j v H' N acc hj sj eA sz r no yes
          obtain ⟨e, x, y, rfl, exy2, he⟩ := ivp.get hj
          have he' := sj _ _ (s2 _ _ he)
          have out : ¬ (lo ≤ x ∧ x ≤ pos ∧ pos ≤ y ∧ y ≤ hi) → N H' := fun z => by
            refine no H' (Same.refl _) ?_
            rw [r, take_filter exy2, if_neg (fun k => z (of_decide_eq_true k)), List.append_nil]
          refine ⟨rfl, .int lo, rfl, .ref e, rfl, e, _, 0, .int x, rfl, rfl, SqT.of he', rfl, _, _, rfl, rfl, _, rfl, ite2 (fun c1 => ?_) (fun c1 => ?_)⟩
          · refine ⟨.int pos, rfl, _, _, rfl, rfl, _, rfl, ite2 (fun c2 => ?_) (fun c2 => ?_)⟩
            · refine ⟨.ref e, rfl, e, _, 1, .int y, rfl, rfl, SqT.of he', rfl, _, _, rfl, rfl, _, rfl, ite2 (fun c3 => ?_) (fun c3 => ?_)⟩
              · refine ⟨.int hi, rfl, _, _, rfl, rfl, _, rfl, ite2 (fun c4 => ?_) (fun c4 => ?_)⟩
                · refine ⟨.ref e, rfl, e, _, 1, .int y, rfl, rfl, SqT.of he', rfl, yes H' _ (Same.refl _) ?_⟩
                  rw [r, take_filter exy2, if_pos (decide_eq_true ⟨of_decide_eq_true c1, of_decide_eq_true c2, of_decide_eq_true c3, of_decide_eq_true c4⟩), List.map_append, List.map_append]
                  rfl
                · exact out fun z => c4 (decide_eq_true z.2.2.2)
              · exact ⟨_, rfl, iteF (out fun z => c3 (decide_eq_true z.2.2.1))⟩
            · exact ⟨_, rfl, iteF (out fun z => c2 (decide_eq_true z.2.1))⟩
          · exact ⟨_, rfl, iteF (out fun z => c1 (decide_eq_true z.1))⟩
        · intro H3 zs s3 eD r
          rw [lw, List.take_length] at r
          subst r
          have s23 := s2.trans s3
          obtain ⟨es, ees⟩ : ∃ es, es = (ps.filter fun q => decide (lo ≤ q.1 ∧ q.1 ≤ pos ∧ pos ≤ q.2 ∧ q.2 ≤ hi)).map (·.2) := ⟨_, rfl⟩
          have mes : ∀ m, m ∈ es → pos ≤ m := fun m hm => by
            rw [ees] at hm
            obtain ⟨q, hq, rfl⟩ := List.mem_map.mp hm
            exact (of_decide_eq_true (List.mem_filter.mp hq).2).2.2.1
          have some_ : 0 < es.length := by
            obtain ⟨q, hq, h1, h2, h3, h4⟩ := cov _ mt pos b1 c0
            have z : q.2 ∈ es := by
              rw [ees]
              exact List.mem_map.mpr ⟨q, List.mem_filter.mpr ⟨hq, decide_eq_true ⟨h1, h2, h3, h4⟩⟩, rfl⟩
            exact List.length_pos_of_mem z
          rw [← ees] at eD
          refine ⟨.ref D, rfl, by show 0 ≤ sizeLine; decide, fun z nz => ?_⟩
          have s4 := same_new (o := .lst []) nz
          have ez := upd_same (H := H3) (a := z) (o := .lst [])
          generalize upd H3 z (.lst []) = H4 at *
          refine ⟨D, z, _, rfl, rfl, SqL.of (s4 _ _ eD), SqL.of ez, _, rfl, ite2 (fun c1 => ?_) (fun _ => ?_)⟩
          · exfalso
            rw [List.isEmpty_iff, List.map_eq_nil_iff] at c1
            rw [c1] at some_
            exact Nat.lt_irrefl _ some_
          · refine ⟨.ref D, rfl, D, es, rfl, SqL.of (s4 _ _ eD), some_, fun m hm top => ?_⟩
            have z := mes m hm
            refine ⟨_, _, rfl, rfl, ⟨s23.trans s4, m + 1, _, _, by omega, rfl⟩, ?_⟩
            show (hi + 1 - (m + 1)).toNat < (hi + 1 - pos).toNat
            omega
      · rintro σ H1 Q1 Q2 hm ⟨v1, e1, v2, e2, i, j, e7, e8, k, e9, z⟩
        exact ⟨v1, e1, v2, e2, i, j, e7, e8, k, e9, hm _ _ z⟩
    · rintro σ H1 ⟨s1, y3, y4, y5, y6, y7, rfl⟩
      exact q H1 s1
theorem cr_or {X : Cx} {f : Value} {r1 r2 : List V → Hp → VK → Prop} (h1 : CallR X f r1) (h2 : CallR X f r2) : CallR X f (fun vs H Q => r1 vs H Q ∨ r2 vs H Q) := by
  intro pins s σ H vs us Q I r h
  rcases h with h | h
  · exact h1 pins s σ H vs us Q I r h
  · exact h2 pins s σ H vs us Q I r h
/-- a comprehension over a tuple whose items are new lists: all but its own list stays -/
theorem lcTN {K : PySem.W.Frag} {a : Addr} {xs : List V} {g : TG} {tt : TT} {te : TE} {vs : List Nat} {σ : L2.St} {H1 : Hp} {D : Addr} {Qd : Hp → Prop} (R : Nat → Hp → List V → Prop) (nD : H1 D = none) (hl : ∀ H', Same H1 H' → SqT K H' a xs) (few : xs.length < 1000)
    (mono : ∀ i H' H'' ws, Tps H' H'' → (∀ b o, b ≠ D → H' b = some o → H'' b = some o) → R i H' ws → R i H'' ws) (len : ∀ i H' ws, R i H' ws → ws.length ≤ i) (r0 : ∀ H', R 0 H' [])
    (hs : ∀ i x H' (N : Hp → Prop) acc, xs[i]? = some x → Same H1 H' → H' D = some (.lst acc) → acc.length < sizeLine → R i H' acc → (∀ H'', Same H' H'' → R (i + 1) H'' acc → N H'') → (∀ H'' y, Same H' H'' → R (i + 1) H'' (acc ++ [y]) → ∃ acc', H'' D = some (.lst acc') ∧ acc'.length < sizeLine ∧ N (upd H'' D (.lst (acc' ++ [y])))) →
      g x (wipe σ vs) H' fun σ2 H2 => wipe σ2 vs = wipe σ vs ∧ tt σ2 H2 fun b H3 => if b = true then te σ2 H3 fun y H4 => ∃ acc, H4 D = some (.lst acc) ∧ acc.length < sizeLine ∧ N (upd H4 D (.lst (acc ++ [y]))) else N H3)
    (hd : ∀ H' ws, Same H1 H' → H' D = some (.lst ws) → R xs.length H' ws → Qd H') :
    ∃ W : Nat → Nat → Hp → Prop, (∃ m, W 0 m (upd H1 D (.lst []))) ∧ ∀ i m H, W i m H →
      ((Itt K a).stop i H ∧ Qd H) ∨ ((Itt K a).go i H ∧ ∃ Nx : Hp → Prop, (∀ H', Nx H' → ∃ m', m' < m ∧ W (i + 1) m' H') ∧ ∀ x H', (Itt K a).yld i H x H' → g x (wipe σ vs) H' fun σ2 H2 => wipe σ2 vs = wipe σ vs ∧ tt σ2 H2 fun b H3 =>
        if b = true then te σ2 H3 fun y H4 => ∃ acc, H4 D = some (.lst acc) ∧ acc.length < sizeLine ∧ Nx (upd H4 D (.lst (acc ++ [y]))) else Nx H3) := by
  refine lc_tup (K := K) (a := a) (xs := xs) (fun i H' => Same H1 H' ∧ ∃ ws, H' D = some (.lst ws) ∧ R i H' ws) ⟨same_new nD, [], upd_same, r0 _⟩ (fun i H' _ h => hl H' h.1) ?_ ?_
  · rintro i x H' hi ⟨sm, ws, eD, r⟩
    have lt := (List.getElem?_eq_some_iff.mp hi).1
    have lw := len i H' ws r
    have sz : ws.length < sizeLine := few_line (by omega)
    refine hs i x H' _ ws hi sm eD sz r (fun H'' s r2 => ⟨sm.trans s, ws, s _ _ eD, r2⟩) (fun H'' y s r2 => ?_)
    exact ⟨ws, s _ _ eD, sz, same_off nD (sm.trans s), _, upd_same, mono _ _ _ _ (Tps.lst (s _ _ eD)) (fun b o n h => by
      rw [upd_ne n]
      exact h) r2⟩
  · rintro H' ⟨sm, ws, eD, r⟩
    exact hd H' ws sm eD r
/-- lists, none of them D -/
inductive Lss (D : Addr) (H : Hp) : List V → List (List V) → Prop
  | nil : Lss D H [] []
  | cons {g : Addr} {vs us : List V} {vss : List (List V)} : g ≠ D → H g = some (.lst vs) → Lss D H us vss → Lss D H (.ref g :: us) (vs :: vss)
theorem Lss.but {D : Addr} {H H' : Hp} (k : ∀ b o, b ≠ D → H b = some o → H' b = some o) {us : List V} {vss : List (List V)} (h : Lss D H us vss) : Lss D H' us vss := by
  induction h with
  | nil => exact .nil
  | cons n e _ ih => exact .cons n (k _ _ n e) ih
theorem Lss.len {D : Addr} {H : Hp} {us : List V} {vss : List (List V)} (h : Lss D H us vss) : us.length = vss.length := by
  induction h with
  | nil => rfl
  | cons _ _ _ ih => rw [List.length_cons, List.length_cons, ih]
theorem Lss.snoc {D g : Addr} {H : Hp} {vs : List V} (n : g ≠ D) (e : H g = some (.lst vs)) : ∀ {us : List V} {vss : List (List V)}, Lss D H us vss → Lss D H (us ++ [.ref g]) (vss ++ [vs])
  | _, _, .nil => .cons n e .nil
  | _, _, .cons n1 e1 h => .cons n1 e1 (Lss.snoc n e h)
theorem dp_one {K : PySem.W.Frag} {H : Hp} : ∀ {vs : List V} {ds : List PyData} {v : V} {d : PyData}, DpAll K H vs ds → Dp K H v d → DpAll K H (vs ++ [v]) (ds ++ [d])
  | _, _, _, _, .nil, h => .cons h .nil
  | _, _, _, _, .cons a b, h => .cons a (dp_one b h)
theorem dpAll_same {K : PySem.W.Frag} {H H' : Hp} (s : Same H H') : ∀ {vs : List V} {ds : List PyData}, DpAll K H vs ds → DpAll K H' vs ds
  | _, _, .nil => .nil
  | _, _, .cons a b => .cons (dp_same s a) (dpAll_same s b)
theorem Dms.keys {H : Hp} {vs : List V} {ds : List Dem} (h : Dms H vs ds) : ∃ ks : List (Addr × Tri), vs = ks.map (fun p => V.ref p.1) ∧ ks.map Prod.snd = ds ∧ ∀ p ∈ ks, DemH H p := by
  induction h with
  | nil => exact ⟨[], rfl, rfl, fun _ z => nomatch z⟩
  | @cons v p lo hi vs ds e _ ih =>
    obtain ⟨ks, e1, e2, e3⟩ := ih
    obtain ⟨u, t, rfl, h1, h2⟩ := e.ex
    refine ⟨(u, (p, lo, hi)) :: ks, by rw [e1]; rfl, by rw [← e2]; rfl, fun q hq => ?_⟩
    rcases List.mem_cons.mp hq with rfl | hq
    · exact ⟨t, h1, h2⟩
    · exact e3 q hq
theorem DemH.same {H H' : Hp} (s : Same H H') {p : Addr × Tri} (h : DemH H p) : DemH H' p := by
  obtain ⟨u, h1, h2⟩ := h
  exact ⟨u, s _ _ h1, s _ _ h2⟩
/-- sorted(set(t)) of demands whose positions rise: the demands themselves, in a list -/
theorem sorted_set_dms {K : PySem.W.Frag} {P : Program} {w : World} {H : Hp} {l : Addr} {vs : List V} {ds : List Dem} {Q : VK} (hl : H l = some (.tup vs)) (dm : Dms H vs ds) (few : ds.length < 64) (asc : ds.Pairwise fun d e => d.1 < e.1)
    (fin : ∀ H' p, Same H H' → H p = none → H' p = some (.lst vs) → Q (.ref p) H') : rSetD K P w [.ref l] H (fun x H1 => rSortD P w [x] H1 Q) := by
  obtain ⟨ks, rfl, e2, e3⟩ := dm.keys
  have lex : ks.Pairwise fun x y => lexT x.2 y.2 = true := by
    rw [← e2] at asc
    exact (List.pairwise_map.mp asc).imp fun {x y} h => decide_eq_true (.inl h)
  have nd : (ks.map Prod.snd).Nodup := by
    rw [e2]
    exact asc.imp fun {x y} h e => by
      rw [e] at h
      exact Int.lt_irrefl _ h
  refine ⟨l, ks, rfl, SqT.of hl, e3, nd, ?_, fun a L na pm => ⟨a, L, rfl, upd_same, fun p hp => (e3 p (pm.mem_iff.mp hp)).same (same_new na), fun L' p pm2 asc2 np => ?_⟩⟩
  · rw [← e2, List.length_map] at few
    exact few
  · have e : L' = ks := lexT_asc (pm2.trans pm) lex asc2
    subst e
    exact fin _ p ((same_new na).trans (same_new np)) ((same_new na).free np) upd_same
theorem shaped_sol (A : List (Int × Int)) (W : List Dem) : SeqAt.shaped (.list [.list (A.map pairD), .list (W.map dmD)]) = true := by
  have a1 : ∀ A : List (Int × Int), PyData.canLayAll0 (A.map pairD) = true := by
    intro A
    induction A with
    | nil => rfl
    | cons q r ih =>
      show (PyData.canLay0 (pairD q) && PyData.canLayAll0 (r.map pairD)) = true
      rw [ih]
      rfl
  have a2 : ∀ W : List Dem, PyData.canLayAll0 (W.map dmD) = true := by
    intro W
    induction W with
    | nil => rfl
    | cons q r ih =>
      show (PyData.canLay0 (dmD q) && PyData.canLayAll0 (r.map dmD)) = true
      rw [ih]
      rfl
  have d1 : ∀ A : List (Int × Int), PyData.depthAll (A.map pairD) ≤ 1 := by
    intro A
    induction A with
    | nil => exact Nat.zero_le _
    | cons q r ih =>
      show max 1 (PyData.depthAll (r.map pairD)) ≤ 1
      omega
  have d2 : ∀ W : List Dem, PyData.depthAll (W.map dmD) ≤ 2 := by
    intro W
    induction W with
    | nil => exact Nat.zero_le _
    | cons q r ih =>
      show max 2 (PyData.depthAll (r.map dmD)) ≤ 2
      omega
  unfold SeqAt.shaped
  rw [show PyData.canLay0 (.list [.list (A.map pairD), .list (W.map dmD)]) = (PyData.canLayAll0 (A.map pairD) && (PyData.canLayAll0 (W.map dmD) && true)) from rfl, a1, a2]
  show decide (max (PyData.depthAll (A.map pairD) + 1) (max (PyData.depthAll (W.map dmD) + 1) 0) + 1 ≤ 64) = true
  exact decide_eq_true (by
    have := d1 A
    have := d2 W
    omega)
def sp_law_solution_right : Sp := fun vs H Q _ => ∃ (l a b r : Addr) (us ws : List V) (ts ps A : List (Int × Int)), vs = [.ref l, .ref a, .ref b, .ref r, .int (needO ts ps : Nat)] ∧ H a = some (.tup us) ∧ Ivs H us ts ∧ H b = some (.tup ws) ∧ Ivs H ws ps ∧ SolB ts ps ∧ (∀ q ∈ ts, q.2 ≤ 1000000000000) ∧ ps.length ≤ 60 ∧ SolH H r ts ps A ∧
  ∀ H', Same H H' → Q (.bl true) H'
theorem ok_law_solution_right (T : Tx K mg f_is_number f_is_position f_is_tuple_of f_is_interval f_ascending_error f_targets_error f_is_pieces f_has_position f_contains f_pieces_inside f_first_gap f_find_missing f_without_item f_with_interval f_without_interval f_edited_state f_depth_changes f_find_blocks f_serves f_conflict f_demands_at_blocks f_is_open f_open_demands f_shadow_target f_require_few_blocks f_decisive_demands f_largest_independent f_unserved_demands f_helpful_piece f_smallest_solution f_count_needed f_solve f_law_deck f_law_draw f_law_line f_law_interval f_law_intervals f_law_served f_law_options f_law_conflict f_law_most f_law_needed f_law_edit f_law_after f_law_do f_law_begun f_law_generated f_law_solution_right f_law f_Plan_init f_Plan_add_target f_Plan_add_piece f_Plan_remove_target f_Plan_remove_piece f_Plan_targets f_Plan_pieces f_Plan_needed f_Plan_solution f_Plan_missing f_Plan_edit f_Plan_record f_Plan_require_idle f_Plan_state_at f_Plan_len f_Plan_str f_Plan_eq C_Plan d_is_number d_is_position d_is_tuple_of d_is_interval d_ascending_error d_targets_error d_is_pieces d_has_position d_contains d_pieces_inside d_first_gap d_find_missing d_without_item d_with_interval d_without_interval d_edited_state d_depth_changes d_find_blocks d_serves d_conflict d_demands_at_blocks d_is_open d_open_demands d_shadow_target d_require_few_blocks d_decisive_demands d_largest_independent d_unserved_demands d_helpful_piece d_smallest_solution d_count_needed d_solve d_law_deck d_law_draw d_law_line d_law_interval d_law_intervals d_law_served d_law_options d_law_conflict d_law_most d_law_needed d_law_edit d_law_after d_law_do d_law_begun d_law_generated d_law_solution_right d_law d_Plan_init d_Plan_add_target d_Plan_add_piece d_Plan_remove_target d_Plan_remove_piece d_Plan_targets d_Plan_pieces d_Plan_needed d_Plan_solution d_Plan_missing d_Plan_edit d_Plan_record d_Plan_require_idle d_Plan_state_at d_Plan_len d_Plan_str d_Plan_eq t_LAST_POSITION t_MAX_TARGETS t_MAX_PIECES t_MAX_BLOCKS t_MAX_EDITS) : FnOk P w K mg base CX0 4 f_law_solution_right d_law_solution_right ["_law_line_here", "_law_targets", "_law_pieces", "_law_found", "_law_number"] sp_law_solution_right := by
  refine T.F_law_solution_right.ok sc_law_solution_right (fun vs H Q E h => ?_) (fun cdv A outer s H vs Q E hr h => ?_)
  · obtain ⟨l, a, b, r, us, ws, ts, ps, A, rfl, _⟩ := h
    rfl
  · obtain ⟨l, a, b, r, us, ws, ts, ps, A, rfl, ha, ivt, hb, ivp, B, top, fewp, sol, q⟩ := h
    refine ⟨_, (pss_cons (ps_if (PW.pt (pw_or (pt_not (pt_val (pe_callB call_isi (by rfl) T.z_isinstance (by decide +kernel) (pa_cons (pv 3) (pa_cons (pe_bltn (v := .ty "tuple") (u := .type "tuple") (by rfl) T.z_tuple (by decide +kernel) rfl) pa_nil))))) (pw_or1 (pt_cmpR (op_neD hr.units) (pe_lc (own := [("_law_part", 5)]) (g := (gName 5)) (tt := tYes) (by rfl) sc_law_solution_right.nd (pi_tup (pv 3)) (blkOk_by (own := [("_law_part", 5)]) (N := N_law_solution_right) (sc := defScope s_law_solution_right) (by decide +kernel)) (fun _ _ _ _ _ => (pg_name (i := 5) sc_law_solution_right.nd rfl (Or.inl rfl))) (fun _ _ _ _ _ => pts_nil) (fun _ _ _ _ _ => (pe_callB (show CallR _ (.builtin "len") (rLenS K) from call_lenS) (by rfl) T.z_len PySem.boot_len (pa_cons (pv 5) pa_nil)))) (pe_lst (pa_cons (pv 4) (pa_cons (pv 4) pa_nil))) (nomark _)))))
      (pss_one (ps_ret pe_bl))
      pss_nil)
      (pss_cons (ps_asg (pv 3) (pg_tup rfl (pgs_cons (pg_name (i := 6) sc_law_solution_right.nd rfl (Or.inl rfl)) (pgs_cons (pg_name (i := 7) sc_law_solution_right.nd rfl (Or.inr rfl)) pgs_nil))))
      (pss_cons (ps_if (pt_cmpR (op_neD hr.units) (pe_lc (own := [("_law_part", 5)]) (g := (gName 5)) (tt := tYes) (by rfl) sc_law_solution_right.nd (pi_tup (pv 3)) (blkOk_by (own := [("_law_part", 5)]) (N := N_law_solution_right) (sc := defScope s_law_solution_right) (by decide +kernel)) (fun _ _ _ _ _ => (pg_name (i := 5) sc_law_solution_right.nd rfl (Or.inl rfl))) (fun _ _ _ _ _ => pts_nil) (fun _ _ _ _ _ => (pe_callTy (show CallR _ (.type "list") (fun xs H Q => ∃ p ys, xs = [V.ref p] ∧ (SqL K H p ys ∨ SqT K H p ys) ∧ ∀ l, H l = none → Q (.ref l) (upd H l (.lst ys))) from call_list_of) (by rfl) T.z_list (by decide +kernel) (pa_cons (pv 5) pa_nil)))) (pe_lc (own := [("_law_part", 5)]) (g := (gName 5)) (tt := tYes) (by rfl) sc_law_solution_right.nd (pi_tup (pv 3)) (blkOk_by (own := [("_law_part", 5)]) (N := N_law_solution_right) (sc := defScope s_law_solution_right) (by decide +kernel)) (fun _ _ _ _ _ => (pg_name (i := 5) sc_law_solution_right.nd rfl (Or.inl rfl))) (fun _ _ _ _ _ => pts_nil) (fun _ _ _ _ _ => (pe_callB (show CallR _ (.builtin "sorted") (fun vs H Q => rSortedT K P w vs H Q ∨ rSortD P w vs H Q) from cr_or (cr_sortedT rfl) (cr_sortD rfl hr.units)) (by rfl) T.z_sorted (by decide +kernel) (pa_cons (pe_callTy (show CallR _ (.type "set") (fun vs H Q => rSetOfTT K P w vs H Q ∨ rSetD K P w vs H Q) from cr_or (cr_setOfTT rfl hr.units) (cr_setD rfl hr.units)) (by rfl) T.z_set (by decide +kernel) (pa_cons (pv 5) pa_nil)) pa_nil)))) (nomark _))
      (pss_one (ps_ret pe_bl))
      pss_nil)
      (pss_cons (ps_if (pt_not (pt_val (pe_call (ok_law_generated T) (hr.mono (by decide)) (by rfl) T.g_law_generated T.F_law_generated.kp T.b_law_generated .nil pass0 (pa_cons (pv 0) (pa_cons (pv 1) (pa_cons (pe_op op_catA (pv 2) (pv 6)) pa_nil))))))
      (pss_one (ps_ret pe_bl))
      pss_nil)
      (pss_cons (ps_for PassesOwn.never rfl (pi_range1 (by rfl) T.z_range (pa_cons (pv 4) pa_nil)) (pg_name (i := 8) sc_law_solution_right.nd rfl (Or.inr rfl))
      (pss_cons (ps_asg (pe_ix ix_tup (pv 7) (pv 8) (fun _ _ => rfl)) (pg_tup rfl (pgs_cons (pg_name (i := 9) sc_law_solution_right.nd rfl (Or.inl rfl)) (pgs_cons (pg_name (i := 10) sc_law_solution_right.nd rfl (Or.inl rfl)) pgs_nil))))
      (pss_cons (ps_if (PW.pt (pw_or (pt_cmpR (op_notInT (units65 hr)) (pv 10) (pv 1) (by rfl)) (pw_or (pt_not (pt_chain op_le op_le (pe_ix ix_tup (pv 10) pe_int (fun _ _ => rfl)) (pv 9) (pe_ix ix_tup (pv 10) pe_int (fun _ _ => rfl)))) (pw_or1 (pt_val (pe_call (ok_law_served T) (hr.mono (by decide)) (by rfl) T.g_law_served T.F_law_served.kp T.b_law_served .nil pass0 (pa_cons (pv 2) (pa_cons (pv 9) (pa_cons (pv 10) pa_nil)))))))))
      (pss_one (ps_ret pe_bl))
      pss_nil)
      (pss_one (ps_if (pt_cmpR (op_neL hr.units0) (pe_lc (own := [("_law_j", 11)]) (g := (gName 11)) (by rfl) sc_law_solution_right.nd (pi_range1 (by rfl) T.z_range (pa_cons (pv 8) pa_nil)) (blkOk_by (own := [("_law_j", 11)]) (N := N_law_solution_right) (sc := defScope s_law_solution_right) (by decide +kernel)) (fun _ _ _ _ _ => (pg_name (i := 11) sc_law_solution_right.nd rfl (Or.inl rfl))) (fun _ _ _ _ _ => pts_one (pt_val (pe_call (ok_law_conflict T) (hr.mono (by decide)) (by rfl) T.g_law_conflict T.F_law_conflict.kp T.b_law_conflict .nil pass0 (pa_cons (pe_ix (show IxR _ (rIxT K) from ix_tup) (pv 7) (pv 11) (fun _ _ => rfl)) (pa_cons (pe_ix (show IxR _ (rIxT K) from ix_tup) (pv 7) (pv 8) (fun _ _ => rfl)) pa_nil))))) (fun _ _ _ _ _ => (pv 11))) (pe_lst pa_nil) (nomark _))
      (pss_one (ps_ret pe_bl))
      pss_nil)))))
      (pss_one (ps_ret pe_bl))))))), ?_⟩
    obtain ⟨x, y, xs, ys, er, ex, ia, ey, iw⟩ := sol.ex
    have aok := sol.add B.good
    have wok := wit_ok B.good top
    have la := ia.length
    have lw := iw.length
    have lu := ivt.length
    have lp := ivp.length
    have lts := B.lt
    have nts := need_le_ts B.good
    have an : A.length = needO ts ps := aok.len
    have wn : (witO ts ps).length = needO ts ps := rfl
    refine ⟨.ref r, rfl, .ref r, .ty "tuple", _, _, _, rfl, .ty "tuple", .base (.tup er), kit_tupT, _, rfl, iteF ?_⟩
    refine ⟨.ref r, rfl, r, rfl, ⟨_, SqT.of er⟩, fun D nD => ?_⟩
    refine lcT (K := K) (a := r) (xs := [.ref x, .ref y]) (fun j H' ws => ws = List.replicate j (V.int (needO ts ps : Nat))) nD (fun H' s => SqT.of (s _ _ (er))) (by show 2 < 1000; decide) (fun _ _ _ _ t r => r) (fun j H' ws r => (by rw [r, List.length_replicate]; exact Nat.le_refl _)) (fun _ => rfl) ?_ ?_
    · rintro j z H' N acc hj sj eA sz r no yes
      obtain ⟨X, zs, rfl, ez, lz⟩ : ∃ X zs, z = V.ref X ∧ H' X = some (.tup zs) ∧ zs.length = needO ts ps := by
        match j, hj with
        | 0, hj => cases hj; exact ⟨x, xs, rfl, sj _ _ ex, la.trans an⟩
        | 1, hj => cases hj; exact ⟨y, ys, rfl, sj _ _ ey, lw⟩
      refine ⟨rfl, .ref X, rfl, X, zs, rfl, .inr (SqT.of ez), yes H' _ (Same.refl _) ?_⟩
      rw [r, List.replicate_succ', lz]
    · intro H1 zs s1 eD rr
      subst rr
      refine ⟨.int _, rfl, .int _, rfl, by show 2 ≤ sizeLine; decide, fun g ng => ?_⟩
      have s2 := same_new (o := .lst [.int (needO ts ps : Nat), .int (needO ts ps : Nat)]) ng
      have eg := upd_same (H := H1) (a := g) (o := .lst [.int (needO ts ps : Nat), .int (needO ts ps : Nat)])
      generalize upd H1 g (.lst [.int (needO ts ps : Nat), .int (needO ts ps : Nat)]) = H2 at *
      have s12 := s1.trans s2
      have dN : ∀ {H' : Hp} {g : Addr}, H' g = some (.lst [.int (needO ts ps : Nat), .int (needO ts ps : Nat)]) → Dp K H' (.ref g) (.list [.int (needO ts ps : Nat), .int (needO ts ps : Nat)]) := fun e => .lst (SqL.of e) (.cons (.int _) (.cons (.int _) .nil))
      refine ⟨_, _, dN (s2 _ _ eD), dN eg, rfl, rfl, ?_⟩
      rw [eqv_sh rfl]
      refine ⟨_, rfl, iteF ?_⟩
      refine ⟨.ref r, rfl, r, _, rfl, SqT.of (s12 _ _ er), rfl, .ref x, [.ref y], rfl, .ref y, [], rfl, rfl, ?_⟩
      have ex2 := s12 _ _ ex
      have ey2 := s12 _ _ ey
      have ia2 := ia.same s12
      have iw2 := iw.same s12
      have bdA : ∀ q ∈ A, (0 ≤ q.1 ∧ q.1 < 10 ^ 13) ∧ 0 ≤ q.2 ∧ q.2 < 10 ^ 13 := fun q hq => (add_bd B).2 q (sol.perm.mem_iff.mp hq)
      have ln : ∀ (D : Addr) (j : Nat) (H' : Hp) (ws : List V), Lss D H' ws ([xs, ys].take j) → ws.length ≤ j := fun D j H' ws h => by
        rw [h.len]
        exact List.length_take_le _ _
      refine ⟨.ref r, rfl, r, rfl, ⟨_, SqT.of (s12 _ _ er)⟩, fun D1 nD1 => ?_⟩
      refine lcTN (K := K) (a := r) (xs := [.ref x, .ref y]) (fun j H' zs => Lss D1 H' zs ([xs, ys].take j)) nD1 (fun H' s => SqT.of (s _ _ (s12 _ _ er))) (by show 2 < 1000; decide) (fun _ _ _ _ _ k h => h.but k) (ln D1) (fun _ => .nil) ?_ ?_
      · rintro j z H' N acc hj sj eA sz h no yes
        match j, hj with
        | 0, hj =>
          cases hj
          refine ⟨rfl, .ref x, rfl, x, xs, rfl, .inr (SqT.of (sj _ _ ex2)), fun g ng => yes _ _ (same_new ng) ?_⟩
          exact Lss.snoc (ne_of_none eA ng).symm upd_same (h.but fun b o _ e => same_new ng b o e)
        | 1, hj =>
          cases hj
          refine ⟨rfl, .ref y, rfl, y, ys, rfl, .inr (SqT.of (sj _ _ ey2)), fun g ng => yes _ _ (same_new ng) ?_⟩
          exact Lss.snoc (ne_of_none eA ng).symm upd_same (h.but fun b o _ e => same_new ng b o e)
      · intro H3 z1 s3 eD1 h1
        have s13 := s12.trans s3
        refine ⟨.ref r, rfl, r, rfl, ⟨_, SqT.of (s13 _ _ er)⟩, fun D2 nD2 => ?_⟩
        have dp_of : ∀ {D : Addr} {H' : Hp} {ws xs' : List V}, Lss D H' ws [xs', ys] → Ivs H' xs' A → Dms H' ys (witO ts ps) → DpAll K H' ws [.list (A.map pairD), .list ((witO ts ps).map dmD)] := fun h i w => by
          match h with
          | .cons _ e1 (.cons _ e2 .nil) => exact .cons (.lst (SqL.of e1) i.dp) (.cons (.lst (SqL.of e2) w.dp) .nil)
        have ia3 := ia2.same s3
        have iw3 := iw2.same s3
        refine lcTN (K := K) (a := r) (xs := [.ref x, .ref y]) (fun j H' zs => j = 0 ∧ zs = [] ∨ ∃ xs', Ivs H' xs' A ∧ Lss D2 H' zs ([xs', ys].take j)) nD2 (fun H' s => SqT.of (s _ _ (s13 _ _ er))) (by show 2 < 1000; decide) ?_ ?_ (fun _ => .inl ⟨rfl, rfl⟩) ?_ ?_
        · rintro j H' H'' ws tp k (⟨rfl, rfl⟩ | ⟨xs', i, h⟩)
          · exact .inl ⟨rfl, rfl⟩
          · exact .inr ⟨xs', i.tps tp, h.but k⟩
        · rintro j H' ws (⟨rfl, rfl⟩ | ⟨xs', i, h⟩)
          · exact Nat.le_refl _
          · rw [h.len]
            exact List.length_take_le _ _
        · rintro j z H' N acc hj sj eA sz h no yes
          match j, hj with
          | 0, hj =>
            cases hj
            have e0 : acc = [] := by
              rcases h with ⟨_, e⟩ | ⟨xs', _, h⟩
              · exact e
              · cases h
                rfl
            subst e0
            have k : rSetOfTT K P w [.ref x] H' (fun z H1 => rSortedT K P w [z] H1 (fun y H4 => ∃ acc, H4 D2 = some (HO.lst acc) ∧ acc.length < sizeLine ∧ N (upd H4 D2 (HO.lst (acc ++ [y]))))) := by
              refine sorted_set_pairsT (sj _ _ (s3 _ _ ex2)) (ia3.same sj) (by omega) bdA (fin := fun H4 p us' ps' s4 np ep iv' asc' mem' => yes H4 (.ref p) s4 ?_)
              have e : ps' = A := ltP_uniq asc' sol.asc mem'
              rw [e] at iv'
              exact .inr ⟨us', iv', .cons (ne_of_none eA np).symm ep .nil⟩
            obtain ⟨l0, ks, e0, k1, k2, k3, k4⟩ := k
            exact ⟨rfl, .ref x, rfl, .inl ⟨l0, ks, e0, k1, k2, k3, fun a L na h1 h2 => .inl (k4 a L na h1 h2)⟩⟩
          | 1, hj =>
            cases hj
            obtain ⟨xs', i, h⟩ : ∃ xs', Ivs H' xs' A ∧ Lss D2 H' acc [xs'] := by
              rcases h with ⟨e, _⟩ | h
              · cases e
              · exact h
            have k : rSetD K P w [.ref y] H' (fun z H1 => rSortD P w [z] H1 (fun y H4 => ∃ acc, H4 D2 = some (HO.lst acc) ∧ acc.length < sizeLine ∧ N (upd H4 D2 (HO.lst (acc ++ [y]))))) := by
              refine sorted_set_dms (sj _ _ (s3 _ _ ey2)) (iw3.same sj) (by omega) wok.asc (fin := fun H4 p s4 np ep => yes H4 (.ref p) s4 ?_)
              exact .inr ⟨xs', i.same s4, Lss.snoc (ne_of_none eA np).symm ep (h.but fun b o _ e => s4 b o e)⟩
            obtain ⟨l0, ks, e0, k1, k2, k3, k4, k5⟩ := k
            exact ⟨rfl, .ref y, rfl, .inr ⟨l0, ks, e0, k1, k2, k3, k4, fun a L na pm => .inr (k5 a L na pm)⟩⟩
        · intro H4 z2 s4 eD2 h2
          obtain ⟨xs', i2, h2⟩ : ∃ xs', Ivs H4 xs' A ∧ Lss D2 H4 z2 [xs', ys] := by
            rcases h2 with ⟨e, _⟩ | h2
            · cases e
            · exact h2
          have s14 := s13.trans s4
          have sh1 : SeqAt.shaped (.list [.list (A.map pairD), .list ((witO ts ps).map dmD)]) = true := shaped_sol A (witO ts ps)
          refine ⟨_, _, .lst (SqL.of (s4 _ _ eD1)) (dp_of (h1.but fun b o _ e => s4 b o e) ((ia3.same s4)) (iw3.same s4)), .lst (SqL.of eD2) (dp_of h2 i2 (iw3.same s4)), sh1, sh1, ?_⟩
          rw [eqv_sh sh1]
          refine ⟨_, rfl, iteF ?_⟩
          refine ⟨.ref l, rfl, .ref a, rfl, .ref b, rfl, .ref x, rfl, catA_any (s14 _ _ hb) (s14 _ _ ex) (by rw [show sizeLine = 16777216 by decide]; omega) (fun H5 bx s5 ebx => ?_)⟩
          have s15 := s14.trans s5
          refine ⟨l, a, bx, us, ws ++ xs, ts, ps ++ A, rfl, s15 _ _ ha, ivt.same s15, by omega, ebx, (ivp.same s15).append (ia.same s15), by rw [List.length_append]; omega, aok.com, fun H6 s6 => ⟨_, rfl, iteF ?_⟩⟩
          have s16 := s15.trans s6
          refine ⟨.int (needO ts ps : Nat), rfl, ((needO ts ps : Nat) : Int), rfl, by omega, by omega, for_range (D := ⟨_, _, fun _ _ => True, fun _ _ => True⟩) (n := (((needO ts ps : Nat) : Int)).toNat) (fun i σ H' => Same H H' ∧ ∃ y5 y8 y9 y10 y11, σ = [some (.ref l), some (.ref a), some (.ref b), some (.ref r), some (.int (needO ts ps : Nat)), y5, some (.ref x), some (.ref y), y8, y9, y10, y11]) ⟨s16, _, _, _, _, _, rfl⟩ ?_ ?_⟩
          · rintro k σ H7 hk ⟨s7, y5, y8, y9, y10, y11, rfl⟩
            have kn : k < ys.length := by omega
            obtain ⟨v, ev⟩ : ∃ v, ys[k]? = some v := ⟨_, List.getElem?_eq_getElem kn⟩
            obtain ⟨p, lo, hi, ed, dv⟩ := iw.get ev
            obtain ⟨w1, w2, w3⟩ := wok.ok _ (List.mem_of_getElem? ed)
            obtain ⟨u, t, rfl, e1, e2⟩ := (dv.same s7).ex
            refine ⟨.ref y, rfl, .int (0 + (k : Nat)), rfl, y, ys, 0 + (k : Int), .ref u, rfl, rfl, SqT.of (s7 _ _ ey), (by rw [Int.zero_add]; exact atI_nat ev), u, _, rfl, SqT.of e1, rfl, .int p, [.ref t], rfl, .ref t, [], rfl, rfl, ?_⟩
            refine ⟨.ref t, rfl, .ref a, rfl, _, _, dp2 e2, .tup (SqT.of (s7 _ _ ha)) (ivt.same s7).dp, rfl, shaped_pairs ts, _, rfl, ?_⟩
            have w1 : (lo, hi) ∈ ts := w1
            rw [any_pair, decide_eq_true w1]
            refine iteF ?_
            refine ⟨.ref t, rfl, t, _, 0, .int lo, rfl, rfl, SqT.of e2, rfl, .int p, rfl, _, _, rfl, rfl, _, rfl, ?_⟩
            rw [decide_eq_true w2.2.1]
            refine iteT ?_
            refine ⟨.ref t, rfl, t, _, 1, .int hi, rfl, rfl, SqT.of e2, rfl, _, _, rfl, rfl, _, rfl, ?_⟩
            rw [decide_eq_true w2.2.2.1]
            refine iteF ?_
            refine ⟨.ref b, rfl, .int p, rfl, .ref t, rfl, b, t, ws, ps, p, lo, hi, rfl, s7 _ _ hb, ivp.same s7, by omega, e2, fun H8 s8 => ⟨_, rfl, ?_⟩⟩
            rw [serv_no.mpr w3]
            refine iteF ?_
            have s78 := s7.trans s8
            refine ⟨.int (0 + (k : Nat)), rfl, 0 + (k : Int), rfl, by omega, by omega, fun D3 nD3 => ?_⟩
            refine lcR (lo := 0) (n := (0 + (k : Int)).toNat) (fun j H' ws => ws = []) nD3 (by omega) (fun _ _ _ _ _ h => h) (fun j H' ws h => by
              rw [h]
              exact Nat.zero_le _) (fun _ => rfl) ?_ ?_
            · rintro j H' N acc hj sj eA sz h no yes
              have jk : j < k := by omega
              obtain ⟨v2, ev2⟩ : ∃ v, ys[j]? = some v := ⟨_, List.getElem?_eq_getElem (by omega)⟩
              obtain ⟨p2, lo2, hi2, ed2, dv2⟩ := iw.get ev2
              have free : cf (p2, lo2, hi2) (p, lo, hi) = false := by
                obtain ⟨q1, z1⟩ := List.getElem?_eq_some_iff.mp ed2
                obtain ⟨q2, z2⟩ := List.getElem?_eq_some_iff.mp ed
                have z := List.pairwise_iff_getElem.mp wok.ind j k q1 q2 jk
                rw [z1, z2] at z
                exact z
              have sA := s78.trans sj
              have eyA := SqT.of (K := K) (sA _ _ ey)
              refine ⟨rfl, .ref y, rfl, .int (0 + (j : Nat)), rfl, y, ys, 0 + (j : Int), v2, rfl, rfl, eyA, (by rw [Int.zero_add]; exact atI_nat ev2), .ref y, rfl, .int (0 + (k : Nat)), rfl, y, ys, 0 + (k : Int), .ref u, rfl, rfl, eyA, (by rw [Int.zero_add]; exact atI_nat ev), v2, .ref u, p2, lo2, hi2, p, lo, hi, rfl, dv2.same sA, dv.same sA, ⟨_, rfl, ?_⟩⟩
              rw [free]
              exact iteF (no _ (Same.refl _) h)
            · intro H9 z9 s9 eD3 h9
              subst h9
              refine ⟨by show 0 ≤ sizeLine; decide, fun e ne => ?_⟩
              have s10 := same_new (o := .lst []) ne
              have ee := upd_same (H := H9) (a := e) (o := .lst [])
              generalize upd H9 e (.lst []) = HA at *
              exact ⟨D3, e, [], rfl, rfl, SqL.of (s10 _ _ eD3), SqL.of ee, _, rfl, iteF ⟨s78.trans (s9.trans s10), _, _, _, _, _, rfl⟩⟩
          · rintro σ H7 ⟨s7, y5, y8, y9, y10, y11, rfl⟩
            exact q H7 s7

def sp_law (K : PySem.W.Frag) (pT : Addr) : Sp := fun vs H Q _ => ∃ (a : Addr) (ns : List Int), vs = [.ref a] ∧ SqL K H a (ns.map V.int) ∧ ns.length ≤ 63 ∧ H pT = some (.tbl #[]) ∧ ∀ H', Q (.bl true) H'
theorem ok_law (T : Tx K mg f_is_number f_is_position f_is_tuple_of f_is_interval f_ascending_error f_targets_error f_is_pieces f_has_position f_contains f_pieces_inside f_first_gap f_find_missing f_without_item f_with_interval f_without_interval f_edited_state f_depth_changes f_find_blocks f_serves f_conflict f_demands_at_blocks f_is_open f_open_demands f_shadow_target f_require_few_blocks f_decisive_demands f_largest_independent f_unserved_demands f_helpful_piece f_smallest_solution f_count_needed f_solve f_law_deck f_law_draw f_law_line f_law_interval f_law_intervals f_law_served f_law_options f_law_conflict f_law_most f_law_needed f_law_edit f_law_after f_law_do f_law_begun f_law_generated f_law_solution_right f_law f_Plan_init f_Plan_add_target f_Plan_add_piece f_Plan_remove_target f_Plan_remove_piece f_Plan_targets f_Plan_pieces f_Plan_needed f_Plan_solution f_Plan_missing f_Plan_edit f_Plan_record f_Plan_require_idle f_Plan_state_at f_Plan_len f_Plan_str f_Plan_eq C_Plan d_is_number d_is_position d_is_tuple_of d_is_interval d_ascending_error d_targets_error d_is_pieces d_has_position d_contains d_pieces_inside d_first_gap d_find_missing d_without_item d_with_interval d_without_interval d_edited_state d_depth_changes d_find_blocks d_serves d_conflict d_demands_at_blocks d_is_open d_open_demands d_shadow_target d_require_few_blocks d_decisive_demands d_largest_independent d_unserved_demands d_helpful_piece d_smallest_solution d_count_needed d_solve d_law_deck d_law_draw d_law_line d_law_interval d_law_intervals d_law_served d_law_options d_law_conflict d_law_most d_law_needed d_law_edit d_law_after d_law_do d_law_begun d_law_generated d_law_solution_right d_law d_Plan_init d_Plan_add_target d_Plan_add_piece d_Plan_remove_target d_Plan_remove_piece d_Plan_targets d_Plan_pieces d_Plan_needed d_Plan_solution d_Plan_missing d_Plan_edit d_Plan_record d_Plan_require_idle d_Plan_state_at d_Plan_len d_Plan_str d_Plan_eq t_LAST_POSITION t_MAX_TARGETS t_MAX_PIECES t_MAX_BLOCKS t_MAX_EDITS) (hT : TabH base mg d_helpful_piece pT) : FnG P w K mg base 208 f_law d_law ["_law_script"] (sp_law K pT) := by
  refine FnG.of T.F_law sc_law (fun {vs H Q} h => ?_) (fun cdv A outer s H vs Q hr hq h => ?_)
  · obtain ⟨a, ns, rfl, _⟩ := h
    rfl
  · obtain ⟨a, ns, rfl, hS, hlen, tab, q⟩ := h
    refine ⟨_, (pss_cons (ps_set (i := 1) sc_law.nd rfl (Or.inl rfl) (pe_call (ok_law_deck (pT := pT) T) (hr.mono (by decide)) (by rfl) T.g_law_deck T.F_law_deck.kp T.b_law_deck .nil pass0 (pa_cons (pv 0) pa_nil)))
      (pss_cons (ps_asg (pe_call (ok_law_begun T) (hr.mono (by decide)) (by rfl) T.g_law_begun T.F_law_begun.kp T.b_law_begun .nil pass0 (pa_cons (pv 1) (pa_cons pe_int pa_nil))) (pg_unl rfl (pgs_cons (pg_name (i := 2) sc_law.nd rfl (Or.inl rfl)) (pgs_cons (pg_name (i := 3) sc_law.nd rfl (Or.inl rfl)) pgs_nil))))
      (pss_cons (ps_set (i := 4) sc_law.nd rfl (Or.inl rfl) (pe_make T.mk_Plan (ok_Plan_init T) (hr.mono (by decide)) (by rfl) T.g_Plan T.b_Plan_init .nil pass0 (pa_cons (pe_ix ix_list (pv 3) pe_int (fun _ _ => rfl)) (pa_cons (pe_ix ix_list (pv 3) pe_int (fun _ _ => rfl)) pa_nil))))
      (pss_cons (ps_for PassesOwn.never rfl (pi_range1 (by rfl) T.z_range (pa_cons (pe_call (ok_law_draw T) (hr.mono (by decide)) (by rfl) T.g_law_draw T.F_law_draw.kp T.b_law_draw .nil pass0 (pa_cons (pv 1) (pa_cons pe_int pa_nil))) pa_nil)) (pg_name (i := 5) sc_law.nd rfl (Or.inl rfl))
      (pss_cons (ps_set (i := 6) sc_law.nd rfl (Or.inl rfl) (pe_call (ok_law_edit T) (hr.mono (by decide)) (by rfl) T.g_law_edit T.F_law_edit.kp T.b_law_edit .nil pass0 (pa_cons (pv 1) (pa_cons (pv 2) (pa_cons (pv 3) pa_nil)))))
      (pss_cons (ps_set (i := 3) sc_law.nd rfl (Or.inl rfl) (pe_call (ok_law_after T) (hr.mono (by decide)) (by rfl) T.g_law_after T.F_law_after.kp T.b_law_after .nil pass0 (pa_cons (pv 3) (pa_cons (pv 6) pa_nil))))
      (pss_one (ps_if (pt_cmpR op_ne (pe_call (ok_law_do T) (hr.mono (by decide)) (by rfl) T.g_law_do T.F_law_do.kp T.b_law_do .nil pass0 (pa_cons (pv 4) (pa_cons (pv 6) pa_nil))) (pe_op op_add (pv 5) pe_int) (nomark _))
      (pss_one (ps_ret pe_bl))
      pss_nil)))))
      (pss_cons (ps_set (i := 7) sc_law.nd rfl (Or.inl rfl) (pe_call (ok_law_needed T) (hr.mono (by decide)) (by rfl) T.g_law_needed T.F_law_needed.kp T.b_law_needed .nil pass0 (pa_cons (pv 2) (pa_cons (pe_ix ix_list (pv 3) pe_int (fun _ _ => rfl)) (pa_cons (pe_ix ix_list (pv 3) pe_int (fun _ _ => rfl)) pa_nil)))))
      (pss_cons (ps_if (PW.pt (pw_or (pt_cmpR op_ne (pe_callB (call_reprD hq hr.units) (by rfl) T.z_repr (by decide +kernel) (pa_cons (pe_meth0 (pv 4) T.cl_Plan T.m_Plan_needed (ok_Plan_needed T) (hr.mono (by decide)) T.b_Plan_needed.choose_spec.2 T.b_Plan_needed.choose_spec.1 pass0) pa_nil)) (pe_callB (call_reprD hq hr.units) (by rfl) T.z_repr (by decide +kernel) (pa_cons (pv 7) pa_nil)) (nomark _)) (pw_or1 (pt_cmpR op_ne (pe_cmpR op_isN (pe_meth0 (pv 4) T.cl_Plan T.m_Plan_missing (ok_Plan_missing T) (hr.mono (by decide)) T.b_Plan_missing.choose_spec.2 T.b_Plan_missing.choose_spec.1 pass0) pe_non (nomark _)) (pe_cmpR op_eq (pv 7) pe_int (nomark _)) (nomark _)))))
      (pss_one (ps_ret pe_bl))
      pss_nil)
      (pss_one (ps_ret (pe_call (ok_law_solution_right T) (hr.mono (by decide)) (by rfl) T.g_law_solution_right T.F_law_solution_right.kp T.b_law_solution_right .nil pass0 (pa_cons (pv 2) (pa_cons (pe_ix ix_list (pv 3) pe_int (fun _ _ => rfl)) (pa_cons (pe_ix ix_list (pv 3) pe_int (fun _ _ => rfl)) (pa_cons (pe_meth0 (pv 4) T.cl_Plan T.m_Plan_solution (ok_Plan_solution T hT) (hr.mono (by decide)) T.b_Plan_solution.choose_spec.2 T.b_Plan_solution.choose_spec.1 pass0) (pa_cons (pv 7) pa_nil)))))))))))))), ?_⟩
    refine ⟨.ref a, rfl, a, ns, rfl, hS, hlen, LamX.TabS.nil tab, fun H1 d c s1 nd ct dk1 => ?_⟩
    refine ⟨.ref d, rfl, d, c, 0, 6, rfl, dk1, by decide, by decide, by decide, by decide, fun H2 g l l0' lus cs S0 m kp2 dk2 m0 m1 eg el iv cells l0 l1 top offl st offs nls asc1 asc2 oc1 oc2 f1 f2 => ?_⟩
    have tc : ∀ q ∈ cs, q.2 < 1000000000000 := fun q hq => by
      have := top q hq
      omega
    have c8 : cs.length ≤ 8 := by omega
    refine ⟨g, _, rfl, SqL.of eg, rfl, .ref l, [.ref l0'], rfl, .ref l0', [], rfl, rfl, ?_⟩
    obtain ⟨x, y, xs, ys, els, ex, ix, ey, iy⟩ := st.ex
    refine ⟨.ref l0', rfl, l0', _, 0, .ref x, rfl, rfl, SqL.of els, rfl, .ref l0', rfl, l0', _, 1, .ref y, rfl, rfl, SqL.of els, rfl, fun p dx np ndx nn => ?_⟩
    have so : StOk S0 := ⟨cells_side cells tc asc1 oc1 (by omega), cells_side cells tc asc2 oc2 (by omega)⟩
    have sc : StC cs S0 := ⟨so, fun pc q hq => by
      cases pc
      · exact oc1 q hq
      · exact oc2 q hq⟩
    have sA : Same H2 (upd (upd H2 dx (.own p)) p (.ins C_Plan dx [])) := fun b o e => by
      rw [upd_ne (ne_of_none e np), upd_ne (ne_of_none e ndx)]
      exact e
    refine ⟨p, dx, x, y, xs, ys, S0, rfl, upd_same, sA _ _ ex, ix.same sA, sA _ _ ey, iy.same sA, so, fun H3 b3 P3 => ⟨rfl, ?_⟩⟩
    have s3 : Same H2 H3 := fun b o e => b3 b o (ne_of_none e np) (sA _ _ e)
    have dk3 := dk2.kept s3
    have stH3 := st.same s3
    have el3 := s3 _ _ el
    have iv3 := iv.same s3
    clear ex ix ey iy els sA
    refine ⟨.ref d, rfl, d, c, m, 5, rfl, dk3, by omega, by omega, by decide, by decide, fun H4 r kp4 dk4 r0 r1 => ?_⟩
    have t4 := kp4.tps dk3
    refine ⟨r, rfl, by omega, by omega, for_range (D := ⟨_, _, fun _ _ => True, fun _ _ => True⟩) (n := r.toNat) (fun i σ H' => (∃ n, Dk H' d c n ∧ 0 ≤ n ∧ n ≤ 100 + 5 * i) ∧ ∃ ls Ls S Es y5 y6, H' l = some (.lst lus) ∧ Ivs H' lus cs ∧ LawS H' ls S ∧ Off d c ls ∧ PlanAt C_Plan H' p (Ls ++ [S]) Es ∧ StC cs S ∧ Es.length = i ∧ σ = [some (.ref a), some (.ref d), some (.ref l), some (.ref ls), some (.ref p), y5, y6, none])
      ⟨⟨_, dk4, by omega, by omega⟩, l0', [], S0, [], _, _, kp4.keep offl el3, iv3.tps t4, stH3.keep t4 (fun us e => kp4.keep offs e), offs, P3.kp kp4 dk3, sc, rfl, rfl⟩ ?_ ?_⟩
    · rintro i σ H5 hi ⟨⟨n, dk5, n0, n1⟩, ls, Ls, S, Es, y5, y6, el5, iv5, st5, offls, P5, sc5, le, rfl⟩
      have i5 : i < 5 := by omega
      clear t4 dk4 kp4 iv3 el3 stH3 dk3 s3 P3 b3 st eg kp2 dk2 iv el
      refine ⟨.ref d, rfl, .ref l, rfl, .ref ls, rfl, d, c, n, l, lus, cs, ls, S, rfl, dk5, n0, by omega, offl, el5, iv5, cells, l0, by omega, tc, offls, st5, sc5, fun H6 t e n2 kp6 dk6 n20 n21 ed can oc l20 => ?_⟩
      have t6 := kp6.tps dk5
      have st6 : LawS H6 ls S := st5.keep t6 fun us e => kp6.keep offls e
      have P6 := P5.kp kp6 dk5
      refine ⟨.ref ls, rfl, .ref t, rfl, ls, t, S, e, rfl, st6, ed, sc5.so, can, fun H7 ls' s7 nls7 st7 => ?_⟩
      have off7 := dk6.off nls7
      have P7 := P6.same s7
      have ed7 := ed.tps (Tps.same s7)
      refine ⟨.ref p, rfl, .ref t, rfl, p, t, Ls, S, Es, e, rfl, P7, by omega, sc5.so, ed7, can, fun H8 b8 P8 => ?_⟩
      have t8 := P7.tps b8
      obtain ⟨dx7, _, _, _, _, hp7, _⟩ := id P7.ex
      have dk8 := (dk6.kept s7).butp hp7 b8
      refine ⟨.int (0 + (i : Nat)), rfl, _, _, rfl, rfl, rfl, _, rfl, iteNS (congrArg V.int (by rw [le]; omega)) ?_⟩
      exact ⟨⟨_, dk8, by omega, by omega⟩, ls', Ls ++ [S], stepS S e, Es ++ [e], _, _, P7.lst b8 (s7 _ _ (kp6.keep offl el5)), (((iv5.tps t6).same s7)).tps t8, st7.keep t8 (fun us h => P7.lst b8 h), off7, P8, sc5.step can oc, by rw [List.length_append, le]; rfl, rfl⟩
    · rintro σ H5 ⟨⟨n, dk5, n0, n1⟩, ls, Ls, S, Es, y5, y6, el5, iv5, st5, offls, P5, sc5, le, rfl⟩
      clear t4 dk4 kp4 iv3 el3 stH3 dk3 s3 P3 b3 st eg kp2 dk2 iv el
      obtain ⟨x, y, xs, ys, els, ex, ix, ey, iy⟩ := st5.ex
      obtain ⟨dx5, _, _, _, _, hp, _⟩ := id P5.ex
      have f1' := sc5.so.t.few
      have f2' := sc5.so.p.few
      have B := sc5.solB cells c8
      have oc : ∀ q ∈ S.1 ++ S.2, OfCells cs q := fun q hq => (List.mem_append.mp hq).elim (sc5.oc false q) (sc5.oc true q)
      have nN : ((needO S.1 S.2 : Nat) : Int).natAbs < 10 ^ 30 := by
        have z := need_le_ts B.good
        exact Nat.lt_of_le_of_lt (show _ ≤ 24 by omega) (by decide)
      refine ⟨.ref l, rfl, .ref ls, rfl, ls, _, 0, .ref x, rfl, rfl, SqL.of els, rfl, .ref ls, rfl, ls, _, 1, .ref y, rfl, rfl, SqL.of els, rfl, l, x, y, lus, xs, ys, cs, S.1, S.2, rfl, el5, iv5, cells, by omega, ex, ix, ey, iy, by omega, by omega, oc, fun H6 s6 => ?_⟩
      refine ⟨.ref p, rfl, p, dx5, _, rfl, s6 _ _ hp, lk_no _ _ _ (by decide +kernel), p, .non, _, Es, S, Es.length, rfl, P5.same s6, .inl ⟨rfl, rfl⟩, last_at P5.lens, B, fun H7 s7 => ?_⟩
      refine ⟨.int (needO S.1 S.2 : Nat), .int (needO S.1 S.2 : Nat), _, _, rfl, .int _, Sm.int nN, by decide, by decide, ?_⟩
      refine ⟨.int (needO S.1 S.2 : Nat), rfl, .int (needO S.1 S.2 : Nat), .int (needO S.1 S.2 : Nat), _, _, rfl, .int _, Sm.int nN, by decide, by decide, ?_⟩
      refine ⟨rfl, _, rfl, iteNS rfl ?_⟩
      have s57 := s6.trans s7
      refine ⟨.ref p, rfl, p, dx5, _, rfl, s57 _ _ hp, lk_no _ _ _ (by decide +kernel), p, .non, _, Es, S, Es.length, rfl, P5.same s57, .inl ⟨rfl, rfl⟩, last_at P5.lens, sc5.so, fun H8 r8 s8 dv => ?_⟩
      refine ⟨rfl, .int _, rfl, rfl, rfl, _, rfl, iteNS ?_ ?_⟩
      · rw [dv.isN]
        refine congrArg V.bl ?_
        rw [Bool.eq_iff_iff, Option.isNone_iff_eq_none, miss_iff B.good, decide_eq_true_iff]
        constructor
        · intro h
          rw [h]
          rfl
        · intro h
          have := V.int.inj h
          omega
      have s58 := s57.trans s8
      refine ⟨.ref l, rfl, .ref ls, rfl, ls, _, 0, .ref x, rfl, rfl, SqL.of (s58 _ _ els), rfl, .ref ls, rfl, ls, _, 1, .ref y, rfl, rfl, SqL.of (s58 _ _ els), rfl, ?_⟩
      refine ⟨.ref p, rfl, p, dx5, _, rfl, s58 _ _ hp, lk_no _ _ _ (by decide +kernel), d, c, n, p, .non, _, Es, S, Es.length, rfl, ct, dk5.kept s58, P5.same s58, .inl ⟨rfl, rfl⟩, last_at P5.lens, B, fun H9 r9 A kp9 dk9 sol => ?_⟩
      have t9 := kp9.tps (dk5.kept s58)
      exact ⟨.int _, rfl, l, x, y, r9, xs, ys, S.1, S.2, A, rfl, t9 _ _ (s58 _ _ ex), (ix.same s58).tps t9, t9 _ _ (s58 _ _ ey), (iy.same s58).tps t9, B, (fun q hq => (sc5.so.t.ok q hq).2), by omega, sol, fun H' _ => q H'⟩

end
theorem all_mk {l : PySem.W.OpenLaw} {w : World} {K : PySem.W.Frag} {h : Heap} {mg : Str → Option Value} {fa f1 f2 f3 f4 f5 f6 f7 f8 f9 f10 f11 f12 f13 f14 f15 f16 f17 f18 f19 f20 f21 f22 f23 f24 f25 f26 f27 f28 f29 f30 f31 f32 f33 f34 f35 f36 f37 f38 f39 f40 f41 f42 f43 f44 f45 f46 f47 f48 f49 f50 f51 f52 f53 f54 f55 f56 f57 f58 f59 f60 f61 f62 f63 f64 f65 f66 C_Plan kD55 kD56 kD57 kD58 kD59 : Addr} (X : K.In h) (G : h.Ns mainGlobals mg) (hfa : mg "law" = some (.ref fa))
    {od1 an1 od2 an2 od3 an3 od4 an4 od5 an5 od6 an6 od7 an7 od8 an8 od9 an9 od10 an10 od11 an11 od12 an12 od13 an13 od14 an14 od15 an15 od16 an16 od17 an17 od18 an18 od19 an19 od20 an20 od21 an21 od22 an22 od23 an23 od24 an24 od25 an25 od26 an26 od27 an27 od28 an28 od29 an29 od30 an30 od31 an31 od32 an32 od33 an33 od34 an34 od35 an35 od36 an36 od37 an37 od38 an38 od39 an39 od40 an40 od41 an41 od42 an42 od43 an43 od44 an44 od45 an45 od46 an46 od47 an47 od48 an48 od49 an49 od50 an50 od51 an51 od52 an52 od53 an53 od54 an54 od55 an55 od56 an56 od57 an57 od58 an58 od59 an59 od60 an60 od61 an61 od62 an62 od63 an63 od64 an64 od65 an65 od66 an66 : Option Addr} {sl1 sl2 sl3 sl4 sl5 sl6 sl7 sl8 sl9 sl10 sl11 sl12 sl13 sl14 sl15 sl16 sl17 sl18 sl19 sl20 sl21 sl22 sl23 sl24 sl25 sl26 sl27 sl28 sl29 sl30 sl31 sl32 sl33 sl34 sl35 sl36 sl37 sl38 sl39 sl40 sl41 sl42 sl43 sl44 sl45 sl46 sl47 sl48 sl49 sl50 sl51 sl52 sl53 sl54 sl55 sl56 sl57 sl58 sl59 sl60 sl61 sl62 sl63 sl64 sl65 sl66 : Array (Option Value)} {oc1 kV1 dc1 pm1 cd1 ct1 oc2 kV2 dc2 pm2 cd2 ct2 oc3 kV3 dc3 pm3 cd3 ct3 oc4 kV4 dc4 pm4 cd4 ct4 oc5 kV5 dc5 pm5 cd5 ct5 oc6 kV6 dc6 pm6 cd6 ct6 oc7 kV7 dc7 pm7 cd7 ct7 oc8 kV8 dc8 pm8 cd8 ct8 oc9 kV9 dc9 pm9 cd9 ct9 oc10 kV10 dc10 pm10 cd10 ct10 oc11 kV11 dc11 pm11 cd11 ct11 oc12 kV12 dc12 pm12 cd12 ct12 oc13 kV13 dc13 pm13 cd13 ct13 oc14 kV14 dc14 pm14 cd14 ct14 oc15 kV15 dc15 pm15 cd15 ct15 oc16 kV16 dc16 pm16 cd16 ct16 oc17 kV17 dc17 pm17 cd17 ct17 oc18 kV18 dc18 pm18 cd18 ct18 oc19 kV19 dc19 pm19 cd19 ct19 oc20 kV20 dc20 pm20 cd20 ct20 oc21 kV21 dc21 pm21 cd21 ct21 oc22 kV22 dc22 pm22 cd22 ct22 oc23 kV23 dc23 pm23 cd23 ct23 oc24 kV24 dc24 pm24 cd24 ct24 oc25 kV25 dc25 pm25 cd25 ct25 oc26 kV26 dc26 pm26 cd26 ct26 oc27 kV27 dc27 pm27 cd27 ct27 oc28 kV28 dc28 pm28 cd28 ct28 oc29 kV29 dc29 pm29 cd29 ct29 oc30 kV30 dc30 pm30 cd30 ct30 oc31 kV31 dc31 pm31 cd31 ct31 oc32 kV32 dc32 pm32 cd32 ct32 oc33 kV33 dc33 pm33 cd33 ct33 oc34 kV34 dc34 pm34 cd34 ct34 oc35 kV35 dc35 pm35 cd35 ct35 oc36 kV36 dc36 pm36 cd36 ct36 oc37 kV37 dc37 pm37 cd37 ct37 oc38 kV38 dc38 pm38 cd38 ct38 oc39 kV39 dc39 pm39 cd39 ct39 oc40 kV40 dc40 pm40 cd40 ct40 oc41 kV41 dc41 pm41 cd41 ct41 oc42 kV42 dc42 pm42 cd42 ct42 oc43 kV43 dc43 pm43 cd43 ct43 oc44 kV44 dc44 pm44 cd44 ct44 oc45 kV45 dc45 pm45 cd45 ct45 oc46 kV46 dc46 pm46 cd46 ct46 oc47 kV47 dc47 pm47 cd47 ct47 oc48 kV48 dc48 pm48 cd48 ct48 oc49 kV49 dc49 pm49 cd49 ct49 oc50 kV50 dc50 pm50 cd50 ct50 oc51 kV51 dc51 pm51 cd51 ct51 oc52 kV52 dc52 pm52 cd52 ct52 oc53 kV53 dc53 pm53 cd53 ct53 oc54 kV54 dc54 pm54 cd54 ct54 oc55 dc55 pm55 cd55 ct55 oc56 dc56 pm56 cd56 ct56 oc57 dc57 pm57 cd57 ct57 oc58 dc58 pm58 cd58 ct58 oc59 dc59 pm59 cd59 ct59 oc60 kV60 dc60 pm60 cd60 ct60 oc61 kV61 dc61 pm61 cd61 ct61 oc62 kV62 dc62 pm62 cd62 ct62 oc63 kV63 dc63 pm63 cd63 ct63 oc64 kV64 dc64 pm64 cd64 ct64 oc65 kV65 dc65 pm65 cd65 ct65 oc66 kV66 dc66 pm66 cd66 ct66 : Value} {tk0 tk1 tk2 tk3 tk4 : Tok} {cc PP : Addr}
    (a1 : PySem.W.nsIn K mainGlobals "is_number" = some (some (.ref f1))) (l1 : K.lookup f1 = some ⟨oc1, od1, .func (PySem.W.fnOf "is_number" "is_number" (defArgs s_is_number) (defBody s_is_number) (defScope s_is_number) .none kV1 dc1 pm1 an1 cd1 ct1), sl1⟩) (c1 : PySem.W.codeIn K cd1 "is_number" = true) (k1 : PySem.W.keepIn K (.ref f1) = true)
    (a2 : PySem.W.nsIn K mainGlobals "is_position" = some (some (.ref f2))) (l2 : K.lookup f2 = some ⟨oc2, od2, .func (PySem.W.fnOf "is_position" "is_position" (defArgs s_is_position) (defBody s_is_position) (defScope s_is_position) .none kV2 dc2 pm2 an2 cd2 ct2), sl2⟩) (c2 : PySem.W.codeIn K cd2 "is_position" = true) (k2 : PySem.W.keepIn K (.ref f2) = true)
    (a3 : PySem.W.nsIn K mainGlobals "is_tuple_of" = some (some (.ref f3))) (l3 : K.lookup f3 = some ⟨oc3, od3, .func (PySem.W.fnOf "is_tuple_of" "is_tuple_of" (defArgs s_is_tuple_of) (defBody s_is_tuple_of) (defScope s_is_tuple_of) .none kV3 dc3 pm3 an3 cd3 ct3), sl3⟩) (c3 : PySem.W.codeIn K cd3 "is_tuple_of" = true) (k3 : PySem.W.keepIn K (.ref f3) = true)
    (a4 : PySem.W.nsIn K mainGlobals "is_interval" = some (some (.ref f4))) (l4 : K.lookup f4 = some ⟨oc4, od4, .func (PySem.W.fnOf "is_interval" "is_interval" (defArgs s_is_interval) (defBody s_is_interval) (defScope s_is_interval) .none kV4 dc4 pm4 an4 cd4 ct4), sl4⟩) (c4 : PySem.W.codeIn K cd4 "is_interval" = true) (k4 : PySem.W.keepIn K (.ref f4) = true)
    (a5 : PySem.W.nsIn K mainGlobals "ascending_error" = some (some (.ref f5))) (l5 : K.lookup f5 = some ⟨oc5, od5, .func (PySem.W.fnOf "ascending_error" "ascending_error" (defArgs s_ascending_error) (defBody s_ascending_error) (defScope s_ascending_error) .none kV5 dc5 pm5 an5 cd5 ct5), sl5⟩) (c5 : PySem.W.codeIn K cd5 "ascending_error" = true) (k5 : PySem.W.keepIn K (.ref f5) = true)
    (a6 : PySem.W.nsIn K mainGlobals "targets_error" = some (some (.ref f6))) (l6 : K.lookup f6 = some ⟨oc6, od6, .func (PySem.W.fnOf "targets_error" "targets_error" (defArgs s_targets_error) (defBody s_targets_error) (defScope s_targets_error) .none kV6 dc6 pm6 an6 cd6 ct6), sl6⟩) (c6 : PySem.W.codeIn K cd6 "targets_error" = true) (k6 : PySem.W.keepIn K (.ref f6) = true)
    (a7 : PySem.W.nsIn K mainGlobals "is_pieces" = some (some (.ref f7))) (l7 : K.lookup f7 = some ⟨oc7, od7, .func (PySem.W.fnOf "is_pieces" "is_pieces" (defArgs s_is_pieces) (defBody s_is_pieces) (defScope s_is_pieces) .none kV7 dc7 pm7 an7 cd7 ct7), sl7⟩) (c7 : PySem.W.codeIn K cd7 "is_pieces" = true) (k7 : PySem.W.keepIn K (.ref f7) = true)
    (a8 : PySem.W.nsIn K mainGlobals "has_position" = some (some (.ref f8))) (l8 : K.lookup f8 = some ⟨oc8, od8, .func (PySem.W.fnOf "has_position" "has_position" (defArgs s_has_position) (defBody s_has_position) (defScope s_has_position) .none kV8 dc8 pm8 an8 cd8 ct8), sl8⟩) (c8 : PySem.W.codeIn K cd8 "has_position" = true) (k8 : PySem.W.keepIn K (.ref f8) = true)
    (a9 : PySem.W.nsIn K mainGlobals "contains" = some (some (.ref f9))) (l9 : K.lookup f9 = some ⟨oc9, od9, .func (PySem.W.fnOf "contains" "contains" (defArgs s_contains) (defBody s_contains) (defScope s_contains) .none kV9 dc9 pm9 an9 cd9 ct9), sl9⟩) (c9 : PySem.W.codeIn K cd9 "contains" = true) (k9 : PySem.W.keepIn K (.ref f9) = true)
    (a10 : PySem.W.nsIn K mainGlobals "pieces_inside" = some (some (.ref f10))) (l10 : K.lookup f10 = some ⟨oc10, od10, .func (PySem.W.fnOf "pieces_inside" "pieces_inside" (defArgs s_pieces_inside) (defBody s_pieces_inside) (defScope s_pieces_inside) .none kV10 dc10 pm10 an10 cd10 ct10), sl10⟩) (c10 : PySem.W.codeIn K cd10 "pieces_inside" = true) (k10 : PySem.W.keepIn K (.ref f10) = true)
    (a11 : PySem.W.nsIn K mainGlobals "first_gap" = some (some (.ref f11))) (l11 : K.lookup f11 = some ⟨oc11, od11, .func (PySem.W.fnOf "first_gap" "first_gap" (defArgs s_first_gap) (defBody s_first_gap) (defScope s_first_gap) .none kV11 dc11 pm11 an11 cd11 ct11), sl11⟩) (c11 : PySem.W.codeIn K cd11 "first_gap" = true) (k11 : PySem.W.keepIn K (.ref f11) = true)
    (a12 : PySem.W.nsIn K mainGlobals "find_missing" = some (some (.ref f12))) (l12 : K.lookup f12 = some ⟨oc12, od12, .func (PySem.W.fnOf "find_missing" "find_missing" (defArgs s_find_missing) (defBody s_find_missing) (defScope s_find_missing) .none kV12 dc12 pm12 an12 cd12 ct12), sl12⟩) (c12 : PySem.W.codeIn K cd12 "find_missing" = true) (k12 : PySem.W.keepIn K (.ref f12) = true)
    (a13 : PySem.W.nsIn K mainGlobals "without_item" = some (some (.ref f13))) (l13 : K.lookup f13 = some ⟨oc13, od13, .func (PySem.W.fnOf "without_item" "without_item" (defArgs s_without_item) (defBody s_without_item) (defScope s_without_item) .none kV13 dc13 pm13 an13 cd13 ct13), sl13⟩) (c13 : PySem.W.codeIn K cd13 "without_item" = true) (k13 : PySem.W.keepIn K (.ref f13) = true)
    (a14 : PySem.W.nsIn K mainGlobals "with_interval" = some (some (.ref f14))) (l14 : K.lookup f14 = some ⟨oc14, od14, .func (PySem.W.fnOf "with_interval" "with_interval" (defArgs s_with_interval) (defBody s_with_interval) (defScope s_with_interval) .none kV14 dc14 pm14 an14 cd14 ct14), sl14⟩) (c14 : PySem.W.codeIn K cd14 "with_interval" = true) (k14 : PySem.W.keepIn K (.ref f14) = true)
    (a15 : PySem.W.nsIn K mainGlobals "without_interval" = some (some (.ref f15))) (l15 : K.lookup f15 = some ⟨oc15, od15, .func (PySem.W.fnOf "without_interval" "without_interval" (defArgs s_without_interval) (defBody s_without_interval) (defScope s_without_interval) .none kV15 dc15 pm15 an15 cd15 ct15), sl15⟩) (c15 : PySem.W.codeIn K cd15 "without_interval" = true) (k15 : PySem.W.keepIn K (.ref f15) = true)
    (a16 : PySem.W.nsIn K mainGlobals "edited_state" = some (some (.ref f16))) (l16 : K.lookup f16 = some ⟨oc16, od16, .func (PySem.W.fnOf "edited_state" "edited_state" (defArgs s_edited_state) (defBody s_edited_state) (defScope s_edited_state) .none kV16 dc16 pm16 an16 cd16 ct16), sl16⟩) (c16 : PySem.W.codeIn K cd16 "edited_state" = true) (k16 : PySem.W.keepIn K (.ref f16) = true)
    (a17 : PySem.W.nsIn K mainGlobals "depth_changes" = some (some (.ref f17))) (l17 : K.lookup f17 = some ⟨oc17, od17, .func (PySem.W.fnOf "depth_changes" "depth_changes" (defArgs s_depth_changes) (defBody s_depth_changes) (defScope s_depth_changes) .none kV17 dc17 pm17 an17 cd17 ct17), sl17⟩) (c17 : PySem.W.codeIn K cd17 "depth_changes" = true) (k17 : PySem.W.keepIn K (.ref f17) = true)
    (a18 : PySem.W.nsIn K mainGlobals "find_blocks" = some (some (.ref f18))) (l18 : K.lookup f18 = some ⟨oc18, od18, .func (PySem.W.fnOf "find_blocks" "find_blocks" (defArgs s_find_blocks) (defBody s_find_blocks) (defScope s_find_blocks) .none kV18 dc18 pm18 an18 cd18 ct18), sl18⟩) (c18 : PySem.W.codeIn K cd18 "find_blocks" = true) (k18 : PySem.W.keepIn K (.ref f18) = true)
    (a19 : PySem.W.nsIn K mainGlobals "serves" = some (some (.ref f19))) (l19 : K.lookup f19 = some ⟨oc19, od19, .func (PySem.W.fnOf "serves" "serves" (defArgs s_serves) (defBody s_serves) (defScope s_serves) .none kV19 dc19 pm19 an19 cd19 ct19), sl19⟩) (c19 : PySem.W.codeIn K cd19 "serves" = true) (k19 : PySem.W.keepIn K (.ref f19) = true)
    (a20 : PySem.W.nsIn K mainGlobals "conflict" = some (some (.ref f20))) (l20 : K.lookup f20 = some ⟨oc20, od20, .func (PySem.W.fnOf "conflict" "conflict" (defArgs s_conflict) (defBody s_conflict) (defScope s_conflict) .none kV20 dc20 pm20 an20 cd20 ct20), sl20⟩) (c20 : PySem.W.codeIn K cd20 "conflict" = true) (k20 : PySem.W.keepIn K (.ref f20) = true)
    (a21 : PySem.W.nsIn K mainGlobals "demands_at_blocks" = some (some (.ref f21))) (l21 : K.lookup f21 = some ⟨oc21, od21, .func (PySem.W.fnOf "demands_at_blocks" "demands_at_blocks" (defArgs s_demands_at_blocks) (defBody s_demands_at_blocks) (defScope s_demands_at_blocks) .none kV21 dc21 pm21 an21 cd21 ct21), sl21⟩) (c21 : PySem.W.codeIn K cd21 "demands_at_blocks" = true) (k21 : PySem.W.keepIn K (.ref f21) = true)
    (a22 : PySem.W.nsIn K mainGlobals "is_open" = some (some (.ref f22))) (l22 : K.lookup f22 = some ⟨oc22, od22, .func (PySem.W.fnOf "is_open" "is_open" (defArgs s_is_open) (defBody s_is_open) (defScope s_is_open) .none kV22 dc22 pm22 an22 cd22 ct22), sl22⟩) (c22 : PySem.W.codeIn K cd22 "is_open" = true) (k22 : PySem.W.keepIn K (.ref f22) = true)
    (a23 : PySem.W.nsIn K mainGlobals "open_demands" = some (some (.ref f23))) (l23 : K.lookup f23 = some ⟨oc23, od23, .func (PySem.W.fnOf "open_demands" "open_demands" (defArgs s_open_demands) (defBody s_open_demands) (defScope s_open_demands) .none kV23 dc23 pm23 an23 cd23 ct23), sl23⟩) (c23 : PySem.W.codeIn K cd23 "open_demands" = true) (k23 : PySem.W.keepIn K (.ref f23) = true)
    (a24 : PySem.W.nsIn K mainGlobals "shadow_target" = some (some (.ref f24))) (l24 : K.lookup f24 = some ⟨oc24, od24, .func (PySem.W.fnOf "shadow_target" "shadow_target" (defArgs s_shadow_target) (defBody s_shadow_target) (defScope s_shadow_target) .none kV24 dc24 pm24 an24 cd24 ct24), sl24⟩) (c24 : PySem.W.codeIn K cd24 "shadow_target" = true) (k24 : PySem.W.keepIn K (.ref f24) = true)
    (a25 : PySem.W.nsIn K mainGlobals "require_few_blocks" = some (some (.ref f25))) (l25 : K.lookup f25 = some ⟨oc25, od25, .func (PySem.W.fnOf "require_few_blocks" "require_few_blocks" (defArgs s_require_few_blocks) (defBody s_require_few_blocks) (defScope s_require_few_blocks) .none kV25 dc25 pm25 an25 cd25 ct25), sl25⟩) (c25 : PySem.W.codeIn K cd25 "require_few_blocks" = true) (k25 : PySem.W.keepIn K (.ref f25) = true)
    (a26 : PySem.W.nsIn K mainGlobals "decisive_demands" = some (some (.ref f26))) (l26 : K.lookup f26 = some ⟨oc26, od26, .func (PySem.W.fnOf "decisive_demands" "decisive_demands" (defArgs s_decisive_demands) (defBody s_decisive_demands) (defScope s_decisive_demands) .none kV26 dc26 pm26 an26 cd26 ct26), sl26⟩) (c26 : PySem.W.codeIn K cd26 "decisive_demands" = true) (k26 : PySem.W.keepIn K (.ref f26) = true)
    (a27 : PySem.W.nsIn K mainGlobals "largest_independent" = some (some (.ref f27))) (l27 : K.lookup f27 = some ⟨oc27, od27, .func (PySem.W.fnOf "largest_independent" "largest_independent" (defArgs s_largest_independent) (defBody s_largest_independent) (defScope s_largest_independent) .none kV27 dc27 pm27 an27 cd27 ct27), sl27⟩) (c27 : PySem.W.codeIn K cd27 "largest_independent" = true) (k27 : PySem.W.keepIn K (.ref f27) = true)
    (a28 : PySem.W.nsIn K mainGlobals "unserved_demands" = some (some (.ref f28))) (l28 : K.lookup f28 = some ⟨oc28, od28, .func (PySem.W.fnOf "unserved_demands" "unserved_demands" (defArgs s_unserved_demands) (defBody s_unserved_demands) (defScope s_unserved_demands) .none kV28 dc28 pm28 an28 cd28 ct28), sl28⟩) (c28 : PySem.W.codeIn K cd28 "unserved_demands" = true) (k28 : PySem.W.keepIn K (.ref f28) = true)
    (a29 : PySem.W.nsIn K mainGlobals "helpful_piece" = some (some (.ref f29))) (l29 : K.lookup f29 = some ⟨oc29, od29, .func (PySem.W.fnOf "helpful_piece" "helpful_piece" (defArgs s_helpful_piece) (defBody s_helpful_piece) (defScope s_helpful_piece) .none kV29 dc29 pm29 an29 cd29 ct29), sl29⟩) (c29 : PySem.W.codeIn K cd29 "helpful_piece" = true) (k29 : PySem.W.keepIn K (.ref f29) = true)
    (a30 : PySem.W.nsIn K mainGlobals "smallest_solution" = some (some (.ref f30))) (l30 : K.lookup f30 = some ⟨oc30, od30, .func (PySem.W.fnOf "smallest_solution" "smallest_solution" (defArgs s_smallest_solution) (defBody s_smallest_solution) (defScope s_smallest_solution) .none kV30 dc30 pm30 an30 cd30 ct30), sl30⟩) (c30 : PySem.W.codeIn K cd30 "smallest_solution" = true) (k30 : PySem.W.keepIn K (.ref f30) = true)
    (a31 : PySem.W.nsIn K mainGlobals "count_needed" = some (some (.ref f31))) (l31 : K.lookup f31 = some ⟨oc31, od31, .func (PySem.W.fnOf "count_needed" "count_needed" (defArgs s_count_needed) (defBody s_count_needed) (defScope s_count_needed) .none kV31 dc31 pm31 an31 cd31 ct31), sl31⟩) (c31 : PySem.W.codeIn K cd31 "count_needed" = true) (k31 : PySem.W.keepIn K (.ref f31) = true)
    (a32 : PySem.W.nsIn K mainGlobals "solve" = some (some (.ref f32))) (l32 : K.lookup f32 = some ⟨oc32, od32, .func (PySem.W.fnOf "solve" "solve" (defArgs s_solve) (defBody s_solve) (defScope s_solve) .none kV32 dc32 pm32 an32 cd32 ct32), sl32⟩) (c32 : PySem.W.codeIn K cd32 "solve" = true) (k32 : PySem.W.keepIn K (.ref f32) = true)
    (a33 : PySem.W.nsIn K mainGlobals "_law_deck" = some (some (.ref f33))) (l33 : K.lookup f33 = some ⟨oc33, od33, .func (PySem.W.fnOf "_law_deck" "_law_deck" (defArgs s_law_deck) (defBody s_law_deck) (defScope s_law_deck) .none kV33 dc33 pm33 an33 cd33 ct33), sl33⟩) (c33 : PySem.W.codeIn K cd33 "_law_deck" = true) (k33 : PySem.W.keepIn K (.ref f33) = true)
    (a34 : PySem.W.nsIn K mainGlobals "_law_draw" = some (some (.ref f34))) (l34 : K.lookup f34 = some ⟨oc34, od34, .func (PySem.W.fnOf "_law_draw" "_law_draw" (defArgs s_law_draw) (defBody s_law_draw) (defScope s_law_draw) .none kV34 dc34 pm34 an34 cd34 ct34), sl34⟩) (c34 : PySem.W.codeIn K cd34 "_law_draw" = true) (k34 : PySem.W.keepIn K (.ref f34) = true)
    (a35 : PySem.W.nsIn K mainGlobals "_law_line" = some (some (.ref f35))) (l35 : K.lookup f35 = some ⟨oc35, od35, .func (PySem.W.fnOf "_law_line" "_law_line" (defArgs s_law_line) (defBody s_law_line) (defScope s_law_line) .none kV35 dc35 pm35 an35 cd35 ct35), sl35⟩) (c35 : PySem.W.codeIn K cd35 "_law_line" = true) (k35 : PySem.W.keepIn K (.ref f35) = true)
    (a36 : PySem.W.nsIn K mainGlobals "_law_interval" = some (some (.ref f36))) (l36 : K.lookup f36 = some ⟨oc36, od36, .func (PySem.W.fnOf "_law_interval" "_law_interval" (defArgs s_law_interval) (defBody s_law_interval) (defScope s_law_interval) .none kV36 dc36 pm36 an36 cd36 ct36), sl36⟩) (c36 : PySem.W.codeIn K cd36 "_law_interval" = true) (k36 : PySem.W.keepIn K (.ref f36) = true)
    (a37 : PySem.W.nsIn K mainGlobals "_law_intervals" = some (some (.ref f37))) (l37 : K.lookup f37 = some ⟨oc37, od37, .func (PySem.W.fnOf "_law_intervals" "_law_intervals" (defArgs s_law_intervals) (defBody s_law_intervals) (defScope s_law_intervals) .none kV37 dc37 pm37 an37 cd37 ct37), sl37⟩) (c37 : PySem.W.codeIn K cd37 "_law_intervals" = true) (k37 : PySem.W.keepIn K (.ref f37) = true)
    (a38 : PySem.W.nsIn K mainGlobals "_law_served" = some (some (.ref f38))) (l38 : K.lookup f38 = some ⟨oc38, od38, .func (PySem.W.fnOf "_law_served" "_law_served" (defArgs s_law_served) (defBody s_law_served) (defScope s_law_served) .none kV38 dc38 pm38 an38 cd38 ct38), sl38⟩) (c38 : PySem.W.codeIn K cd38 "_law_served" = true) (k38 : PySem.W.keepIn K (.ref f38) = true)
    (a39 : PySem.W.nsIn K mainGlobals "_law_options" = some (some (.ref f39))) (l39 : K.lookup f39 = some ⟨oc39, od39, .func (PySem.W.fnOf "_law_options" "_law_options" (defArgs s_law_options) (defBody s_law_options) (defScope s_law_options) .none kV39 dc39 pm39 an39 cd39 ct39), sl39⟩) (c39 : PySem.W.codeIn K cd39 "_law_options" = true) (k39 : PySem.W.keepIn K (.ref f39) = true)
    (a40 : PySem.W.nsIn K mainGlobals "_law_conflict" = some (some (.ref f40))) (l40 : K.lookup f40 = some ⟨oc40, od40, .func (PySem.W.fnOf "_law_conflict" "_law_conflict" (defArgs s_law_conflict) (defBody s_law_conflict) (defScope s_law_conflict) .none kV40 dc40 pm40 an40 cd40 ct40), sl40⟩) (c40 : PySem.W.codeIn K cd40 "_law_conflict" = true) (k40 : PySem.W.keepIn K (.ref f40) = true)
    (a41 : PySem.W.nsIn K mainGlobals "_law_most" = some (some (.ref f41))) (l41 : K.lookup f41 = some ⟨oc41, od41, .func (PySem.W.fnOf "_law_most" "_law_most" (defArgs s_law_most) (defBody s_law_most) (defScope s_law_most) .none kV41 dc41 pm41 an41 cd41 ct41), sl41⟩) (c41 : PySem.W.codeIn K cd41 "_law_most" = true) (k41 : PySem.W.keepIn K (.ref f41) = true)
    (a42 : PySem.W.nsIn K mainGlobals "_law_needed" = some (some (.ref f42))) (l42 : K.lookup f42 = some ⟨oc42, od42, .func (PySem.W.fnOf "_law_needed" "_law_needed" (defArgs s_law_needed) (defBody s_law_needed) (defScope s_law_needed) .none kV42 dc42 pm42 an42 cd42 ct42), sl42⟩) (c42 : PySem.W.codeIn K cd42 "_law_needed" = true) (k42 : PySem.W.keepIn K (.ref f42) = true)
    (a43 : PySem.W.nsIn K mainGlobals "_law_edit" = some (some (.ref f43))) (l43 : K.lookup f43 = some ⟨oc43, od43, .func (PySem.W.fnOf "_law_edit" "_law_edit" (defArgs s_law_edit) (defBody s_law_edit) (defScope s_law_edit) .none kV43 dc43 pm43 an43 cd43 ct43), sl43⟩) (c43 : PySem.W.codeIn K cd43 "_law_edit" = true) (k43 : PySem.W.keepIn K (.ref f43) = true)
    (a44 : PySem.W.nsIn K mainGlobals "_law_after" = some (some (.ref f44))) (l44 : K.lookup f44 = some ⟨oc44, od44, .func (PySem.W.fnOf "_law_after" "_law_after" (defArgs s_law_after) (defBody s_law_after) (defScope s_law_after) .none kV44 dc44 pm44 an44 cd44 ct44), sl44⟩) (c44 : PySem.W.codeIn K cd44 "_law_after" = true) (k44 : PySem.W.keepIn K (.ref f44) = true)
    (a45 : PySem.W.nsIn K mainGlobals "_law_do" = some (some (.ref f45))) (l45 : K.lookup f45 = some ⟨oc45, od45, .func (PySem.W.fnOf "_law_do" "_law_do" (defArgs s_law_do) (defBody s_law_do) (defScope s_law_do) .none kV45 dc45 pm45 an45 cd45 ct45), sl45⟩) (c45 : PySem.W.codeIn K cd45 "_law_do" = true) (k45 : PySem.W.keepIn K (.ref f45) = true)
    (a46 : PySem.W.nsIn K mainGlobals "_law_begun" = some (some (.ref f46))) (l46 : K.lookup f46 = some ⟨oc46, od46, .func (PySem.W.fnOf "_law_begun" "_law_begun" (defArgs s_law_begun) (defBody s_law_begun) (defScope s_law_begun) .none kV46 dc46 pm46 an46 cd46 ct46), sl46⟩) (c46 : PySem.W.codeIn K cd46 "_law_begun" = true) (k46 : PySem.W.keepIn K (.ref f46) = true)
    (a47 : PySem.W.nsIn K mainGlobals "_law_generated" = some (some (.ref f47))) (l47 : K.lookup f47 = some ⟨oc47, od47, .func (PySem.W.fnOf "_law_generated" "_law_generated" (defArgs s_law_generated) (defBody s_law_generated) (defScope s_law_generated) .none kV47 dc47 pm47 an47 cd47 ct47), sl47⟩) (c47 : PySem.W.codeIn K cd47 "_law_generated" = true) (k47 : PySem.W.keepIn K (.ref f47) = true)
    (a48 : PySem.W.nsIn K mainGlobals "_law_solution_right" = some (some (.ref f48))) (l48 : K.lookup f48 = some ⟨oc48, od48, .func (PySem.W.fnOf "_law_solution_right" "_law_solution_right" (defArgs s_law_solution_right) (defBody s_law_solution_right) (defScope s_law_solution_right) .none kV48 dc48 pm48 an48 cd48 ct48), sl48⟩) (c48 : PySem.W.codeIn K cd48 "_law_solution_right" = true) (k48 : PySem.W.keepIn K (.ref f48) = true)
    (a49 : PySem.W.nsIn K mainGlobals "law" = some (some (.ref f49))) (l49 : K.lookup f49 = some ⟨oc49, od49, .func (PySem.W.fnOf "law" "law" (defArgs s_law) (defBody s_law) (defScope s_law) .none kV49 dc49 pm49 an49 cd49 ct49), sl49⟩) (c49 : PySem.W.codeIn K cd49 "law" = true) (k49 : PySem.W.keepIn K (.ref f49) = true)
    (a50 : PySem.W.findIn K (.ref C_Plan) "__init__" = some (some (.ref f50))) (i50 : PySem.W.isFn K (.ref f50) = true) (l50 : K.lookup f50 = some ⟨oc50, od50, .func (PySem.W.fnOf "__init__" "Plan.__init__" (defArgs s_Plan_init) (defBody s_Plan_init) (defScope s_Plan_init) .none kV50 dc50 pm50 an50 cd50 ct50), sl50⟩) (c50 : PySem.W.codeIn K cd50 "Plan.__init__" = true) (k50 : PySem.W.keepIn K (.ref f50) = true)
    (a51 : PySem.W.findIn K (.ref C_Plan) "add_target" = some (some (.ref f51))) (i51 : PySem.W.isFn K (.ref f51) = true) (l51 : K.lookup f51 = some ⟨oc51, od51, .func (PySem.W.fnOf "add_target" "Plan.add_target" (defArgs s_Plan_add_target) (defBody s_Plan_add_target) (defScope s_Plan_add_target) .none kV51 dc51 pm51 an51 cd51 ct51), sl51⟩) (c51 : PySem.W.codeIn K cd51 "Plan.add_target" = true) (k51 : PySem.W.keepIn K (.ref f51) = true)
    (a52 : PySem.W.findIn K (.ref C_Plan) "add_piece" = some (some (.ref f52))) (i52 : PySem.W.isFn K (.ref f52) = true) (l52 : K.lookup f52 = some ⟨oc52, od52, .func (PySem.W.fnOf "add_piece" "Plan.add_piece" (defArgs s_Plan_add_piece) (defBody s_Plan_add_piece) (defScope s_Plan_add_piece) .none kV52 dc52 pm52 an52 cd52 ct52), sl52⟩) (c52 : PySem.W.codeIn K cd52 "Plan.add_piece" = true) (k52 : PySem.W.keepIn K (.ref f52) = true)
    (a53 : PySem.W.findIn K (.ref C_Plan) "remove_target" = some (some (.ref f53))) (i53 : PySem.W.isFn K (.ref f53) = true) (l53 : K.lookup f53 = some ⟨oc53, od53, .func (PySem.W.fnOf "remove_target" "Plan.remove_target" (defArgs s_Plan_remove_target) (defBody s_Plan_remove_target) (defScope s_Plan_remove_target) .none kV53 dc53 pm53 an53 cd53 ct53), sl53⟩) (c53 : PySem.W.codeIn K cd53 "Plan.remove_target" = true) (k53 : PySem.W.keepIn K (.ref f53) = true)
    (a54 : PySem.W.findIn K (.ref C_Plan) "remove_piece" = some (some (.ref f54))) (i54 : PySem.W.isFn K (.ref f54) = true) (l54 : K.lookup f54 = some ⟨oc54, od54, .func (PySem.W.fnOf "remove_piece" "Plan.remove_piece" (defArgs s_Plan_remove_piece) (defBody s_Plan_remove_piece) (defScope s_Plan_remove_piece) .none kV54 dc54 pm54 an54 cd54 ct54), sl54⟩) (c54 : PySem.W.codeIn K cd54 "Plan.remove_piece" = true) (k54 : PySem.W.keepIn K (.ref f54) = true)
    (a55 : PySem.W.findIn K (.ref C_Plan) "targets" = some (some (.ref f55))) (i55 : PySem.W.isFn K (.ref f55) = true) (l55 : K.lookup f55 = some ⟨oc55, od55, .func (PySem.W.fnOf "targets" "Plan.targets" (defArgs s_Plan_targets) (defBody s_Plan_targets) (defScope s_Plan_targets) .none (.ref kD55) dc55 pm55 an55 cd55 ct55), sl55⟩) (c55 : PySem.W.codeIn K cd55 "Plan.targets" = true) (k55 : PySem.W.keepIn K (.ref f55) = true)
    (q55 : PySem.W.nsIn K kD55 "version" = some (some .none))
    (a56 : PySem.W.findIn K (.ref C_Plan) "pieces" = some (some (.ref f56))) (i56 : PySem.W.isFn K (.ref f56) = true) (l56 : K.lookup f56 = some ⟨oc56, od56, .func (PySem.W.fnOf "pieces" "Plan.pieces" (defArgs s_Plan_pieces) (defBody s_Plan_pieces) (defScope s_Plan_pieces) .none (.ref kD56) dc56 pm56 an56 cd56 ct56), sl56⟩) (c56 : PySem.W.codeIn K cd56 "Plan.pieces" = true) (k56 : PySem.W.keepIn K (.ref f56) = true)
    (q56 : PySem.W.nsIn K kD56 "version" = some (some .none))
    (a57 : PySem.W.findIn K (.ref C_Plan) "needed" = some (some (.ref f57))) (i57 : PySem.W.isFn K (.ref f57) = true) (l57 : K.lookup f57 = some ⟨oc57, od57, .func (PySem.W.fnOf "needed" "Plan.needed" (defArgs s_Plan_needed) (defBody s_Plan_needed) (defScope s_Plan_needed) .none (.ref kD57) dc57 pm57 an57 cd57 ct57), sl57⟩) (c57 : PySem.W.codeIn K cd57 "Plan.needed" = true) (k57 : PySem.W.keepIn K (.ref f57) = true)
    (q57 : PySem.W.nsIn K kD57 "version" = some (some .none))
    (a58 : PySem.W.findIn K (.ref C_Plan) "solution" = some (some (.ref f58))) (i58 : PySem.W.isFn K (.ref f58) = true) (l58 : K.lookup f58 = some ⟨oc58, od58, .func (PySem.W.fnOf "solution" "Plan.solution" (defArgs s_Plan_solution) (defBody s_Plan_solution) (defScope s_Plan_solution) .none (.ref kD58) dc58 pm58 an58 cd58 ct58), sl58⟩) (c58 : PySem.W.codeIn K cd58 "Plan.solution" = true) (k58 : PySem.W.keepIn K (.ref f58) = true)
    (q58 : PySem.W.nsIn K kD58 "version" = some (some .none))
    (a59 : PySem.W.findIn K (.ref C_Plan) "missing" = some (some (.ref f59))) (i59 : PySem.W.isFn K (.ref f59) = true) (l59 : K.lookup f59 = some ⟨oc59, od59, .func (PySem.W.fnOf "missing" "Plan.missing" (defArgs s_Plan_missing) (defBody s_Plan_missing) (defScope s_Plan_missing) .none (.ref kD59) dc59 pm59 an59 cd59 ct59), sl59⟩) (c59 : PySem.W.codeIn K cd59 "Plan.missing" = true) (k59 : PySem.W.keepIn K (.ref f59) = true)
    (q59 : PySem.W.nsIn K kD59 "version" = some (some .none))
    (a60 : PySem.W.findIn K (.ref C_Plan) "edit" = some (some (.ref f60))) (i60 : PySem.W.isFn K (.ref f60) = true) (l60 : K.lookup f60 = some ⟨oc60, od60, .func (PySem.W.fnOf "edit" "Plan.edit" (defArgs s_Plan_edit) (defBody s_Plan_edit) (defScope s_Plan_edit) .none kV60 dc60 pm60 an60 cd60 ct60), sl60⟩) (c60 : PySem.W.codeIn K cd60 "Plan.edit" = true) (k60 : PySem.W.keepIn K (.ref f60) = true)
    (a61 : PySem.W.findIn K (.ref C_Plan) "record" = some (some (.ref f61))) (i61 : PySem.W.isFn K (.ref f61) = true) (l61 : K.lookup f61 = some ⟨oc61, od61, .func (PySem.W.fnOf "record" "Plan.record" (defArgs s_Plan_record) (defBody s_Plan_record) (defScope s_Plan_record) .none kV61 dc61 pm61 an61 cd61 ct61), sl61⟩) (c61 : PySem.W.codeIn K cd61 "Plan.record" = true) (k61 : PySem.W.keepIn K (.ref f61) = true)
    (a62 : PySem.W.findIn K (.ref C_Plan) "require_idle" = some (some (.ref f62))) (i62 : PySem.W.isFn K (.ref f62) = true) (l62 : K.lookup f62 = some ⟨oc62, od62, .func (PySem.W.fnOf "require_idle" "Plan.require_idle" (defArgs s_Plan_require_idle) (defBody s_Plan_require_idle) (defScope s_Plan_require_idle) .none kV62 dc62 pm62 an62 cd62 ct62), sl62⟩) (c62 : PySem.W.codeIn K cd62 "Plan.require_idle" = true) (k62 : PySem.W.keepIn K (.ref f62) = true)
    (a63 : PySem.W.findIn K (.ref C_Plan) "state_at" = some (some (.ref f63))) (i63 : PySem.W.isFn K (.ref f63) = true) (l63 : K.lookup f63 = some ⟨oc63, od63, .func (PySem.W.fnOf "state_at" "Plan.state_at" (defArgs s_Plan_state_at) (defBody s_Plan_state_at) (defScope s_Plan_state_at) .none kV63 dc63 pm63 an63 cd63 ct63), sl63⟩) (c63 : PySem.W.codeIn K cd63 "Plan.state_at" = true) (k63 : PySem.W.keepIn K (.ref f63) = true)
    (a64 : PySem.W.findIn K (.ref C_Plan) "__len__" = some (some (.ref f64))) (i64 : PySem.W.isFn K (.ref f64) = true) (l64 : K.lookup f64 = some ⟨oc64, od64, .func (PySem.W.fnOf "__len__" "Plan.__len__" (defArgs s_Plan_len) (defBody s_Plan_len) (defScope s_Plan_len) .none kV64 dc64 pm64 an64 cd64 ct64), sl64⟩) (c64 : PySem.W.codeIn K cd64 "Plan.__len__" = true) (k64 : PySem.W.keepIn K (.ref f64) = true)
    (a65 : PySem.W.findIn K (.ref C_Plan) "__str__" = some (some (.ref f65))) (i65 : PySem.W.isFn K (.ref f65) = true) (l65 : K.lookup f65 = some ⟨oc65, od65, .func (PySem.W.fnOf "__str__" "Plan.__str__" (defArgs s_Plan_str) (defBody s_Plan_str) (defScope s_Plan_str) .none kV65 dc65 pm65 an65 cd65 ct65), sl65⟩) (c65 : PySem.W.codeIn K cd65 "Plan.__str__" = true) (k65 : PySem.W.keepIn K (.ref f65) = true)
    (a66 : PySem.W.findIn K (.ref C_Plan) "__eq__" = some (some (.ref f66))) (i66 : PySem.W.isFn K (.ref f66) = true) (l66 : K.lookup f66 = some ⟨oc66, od66, .func (PySem.W.fnOf "__eq__" "Plan.__eq__" (defArgs s_Plan_eq) (defBody s_Plan_eq) (defScope s_Plan_eq) .none kV66 dc66 pm66 an66 cd66 ct66), sl66⟩) (c66 : PySem.W.codeIn K cd66 "Plan.__eq__" = true) (k66 : PySem.W.keepIn K (.ref f66) = true)
    (aC_Plan : PySem.W.nsIn K mainGlobals "Plan" = some (some (.ref C_Plan))) (pg_Plan : PySem.W.plainGet K C_Plan Str.empty = true) (hd_Plan : PySem.W.hasDictIn K C_Plan = true) (po_Plan : PySem.W.plainOver K C_Plan = true) (sa_Plan : PySem.W.findIn K (.ref C_Plan) "__setattr__" = some (some (.builtin "object.__setattr__"))) (mk_Plan : PySem.W.makesIn K C_Plan = true) (kc_Plan : PySem.W.keepIn K (.ref C_Plan) = true) (n_states_Plan : PySem.W.findIn K (.ref C_Plan) "states" = some none) (n_done_Plan : PySem.W.findIn K (.ref C_Plan) "done" = some none) (n_busy_Plan : PySem.W.findIn K (.ref C_Plan) "busy" = some none) (ia_Plan : PySem.W.findIn K (.ref C_Plan) "__class__" = some (some (.builtin "object.__class__"))) (ib_Plan : PySem.W.specialIn K (.builtin "object.__class__") "__get__" = some (some (.builtin "getset_descriptor.__get__"))) (it_Plan : PySem.W.takesIn K (.builtin "object.__class__") = some true) (im_Plan : PySem.W.mroIn K C_Plan (.type "object") = some true)
    (y0 : PySem.W.nsIn K mainGlobals "LAST_POSITION" = some (some (.int 1000000000000 tk0))) (y1 : PySem.W.nsIn K mainGlobals "MAX_TARGETS" = some (some (.int 24 tk1))) (y2 : PySem.W.nsIn K mainGlobals "MAX_PIECES" = some (some (.int 30 tk2))) (y3 : PySem.W.nsIn K mainGlobals "MAX_BLOCKS" = some (some (.int 8 tk3))) (y4 : PySem.W.nsIn K mainGlobals "MAX_EDITS" = some (some (.int 60 tk4))) (z0 : PySem.W.nsIn K mainGlobals "abs" = some none) (z1 : PySem.W.nsIn K mainGlobals "any" = some none) (z2 : PySem.W.nsIn K mainGlobals "bool" = some none) (z3 : PySem.W.nsIn K mainGlobals "enumerate" = some none) (z4 : PySem.W.nsIn K mainGlobals "int" = some none) (z5 : PySem.W.nsIn K mainGlobals "isinstance" = some none) (z6 : PySem.W.nsIn K mainGlobals "len" = some none) (z7 : PySem.W.nsIn K mainGlobals "list" = some none) (z8 : PySem.W.nsIn K mainGlobals "max" = some none) (z9 : PySem.W.nsIn K mainGlobals "min" = some none) (z10 : PySem.W.nsIn K mainGlobals "piece" = some none) (z11 : PySem.W.nsIn K mainGlobals "range" = some none) (z12 : PySem.W.nsIn K mainGlobals "repr" = some none) (z13 : PySem.W.nsIn K mainGlobals "set" = some none) (z14 : PySem.W.nsIn K mainGlobals "sorted" = some none) (z15 : PySem.W.nsIn K mainGlobals "tuple" = some none) (z16 : PySem.W.nsIn K mainGlobals "zip" = some none) (hcc : cd29 = .ref cc) :
    ∃ fd : FuncData, (∀ (s : Shared) (v : Value), BindsTo s fd ⟨[v], []⟩ [("_law_script", v)]) ∧ ∀ base : Heap, K.In base → base.Ns mainGlobals mg → (∃ mm, base.Ns sysModules mm) → LamX.TabB base mg cc PP → FnG l.prog w K mg base 208 fa fd ["_law_script"] (sp_law K PP) := by
  have e := hfa.symm.trans (PySem.W.mg_of X G a49)
  cases e
  have F1 := fun_mk (st := s_is_number) l1 c1 k1
  have b1 := F1.binds (ps := ["value"]) fun _ _ _ _ _ _ us hl => match us, hl with | [_], _ => rfl
  have F2 := fun_mk (st := s_is_position) l2 c2 k2
  have b2 := F2.binds (ps := ["value"]) fun _ _ _ _ _ _ us hl => match us, hl with | [_], _ => rfl
  have F3 := fun_mk (st := s_is_tuple_of) l3 c3 k3
  have b3 := F3.binds (ps := ["value", "length"]) fun _ _ _ _ _ _ us hl => match us, hl with | [_, _], _ => rfl
  have F4 := fun_mk (st := s_is_interval) l4 c4 k4
  have b4 := F4.binds (ps := ["value"]) fun _ _ _ _ _ _ us hl => match us, hl with | [_], _ => rfl
  have F5 := fun_mk (st := s_ascending_error) l5 c5 k5
  have b5 := F5.binds (ps := ["value", "most"]) fun _ _ _ _ _ _ us hl => match us, hl with | [_, _], _ => rfl
  have F6 := fun_mk (st := s_targets_error) l6 c6 k6
  have b6 := F6.binds (ps := ["value"]) fun _ _ _ _ _ _ us hl => match us, hl with | [_], _ => rfl
  have F7 := fun_mk (st := s_is_pieces) l7 c7 k7
  have b7 := F7.binds (ps := ["value"]) fun _ _ _ _ _ _ us hl => match us, hl with | [_], _ => rfl
  have F8 := fun_mk (st := s_has_position) l8 c8 k8
  have b8 := F8.binds (ps := ["interval", "position"]) fun _ _ _ _ _ _ us hl => match us, hl with | [_, _], _ => rfl
  have F9 := fun_mk (st := s_contains) l9 c9 k9
  have b9 := F9.binds (ps := ["outer", "inner"]) fun _ _ _ _ _ _ us hl => match us, hl with | [_, _], _ => rfl
  have F10 := fun_mk (st := s_pieces_inside) l10 c10 k10
  have b10 := F10.binds (ps := ["pieces", "target"]) fun _ _ _ _ _ _ us hl => match us, hl with | [_, _], _ => rfl
  have F11 := fun_mk (st := s_first_gap) l11 c11 k11
  have b11 := F11.binds (ps := ["pieces", "target"]) fun _ _ _ _ _ _ us hl => match us, hl with | [_, _], _ => rfl
  have F12 := fun_mk (st := s_find_missing) l12 c12 k12
  have b12 := F12.binds (ps := ["targets", "pieces"]) fun _ _ _ _ _ _ us hl => match us, hl with | [_, _], _ => rfl
  have F13 := fun_mk (st := s_without_item) l13 c13 k13
  have b13 := F13.binds (ps := ["items", "item"]) fun _ _ _ _ _ _ us hl => match us, hl with | [_, _], _ => rfl
  have F14 := fun_mk (st := s_with_interval) l14 c14 k14
  have b14 := F14.binds (ps := ["intervals", "value", "bound"]) fun _ _ _ _ _ _ us hl => match us, hl with | [_, _, _], _ => rfl
  have F15 := fun_mk (st := s_without_interval) l15 c15 k15
  have b15 := F15.binds (ps := ["intervals", "value"]) fun _ _ _ _ _ _ us hl => match us, hl with | [_, _], _ => rfl
  have F16 := fun_mk (st := s_edited_state) l16 c16 k16
  have b16 := F16.binds (ps := ["state", "word", "value"]) fun _ _ _ _ _ _ us hl => match us, hl with | [_, _, _], _ => rfl
  have F17 := fun_mk (st := s_depth_changes) l17 c17 k17
  have b17 := F17.binds (ps := ["intervals"]) fun _ _ _ _ _ _ us hl => match us, hl with | [_], _ => rfl
  have F18 := fun_mk (st := s_find_blocks) l18 c18 k18
  have b18 := F18.binds (ps := ["intervals"]) fun _ _ _ _ _ _ us hl => match us, hl with | [_], _ => rfl
  have F19 := fun_mk (st := s_serves) l19 c19 k19
  have b19 := F19.binds (ps := ["piece", "demand"]) fun _ _ _ _ _ _ us hl => match us, hl with | [_, _], _ => rfl
  have F20 := fun_mk (st := s_conflict) l20 c20 k20
  have b20 := F20.binds (ps := ["first", "second"]) fun _ _ _ _ _ _ us hl => match us, hl with | [_, _], _ => rfl
  have F21 := fun_mk (st := s_demands_at_blocks) l21 c21 k21
  have b21 := F21.binds (ps := ["targets", "blocks"]) fun _ _ _ _ _ _ us hl => match us, hl with | [_, _], _ => rfl
  have F22 := fun_mk (st := s_is_open) l22 c22 k22
  have b22 := F22.binds (ps := ["pieces", "demand"]) fun _ _ _ _ _ _ us hl => match us, hl with | [_, _], _ => rfl
  have F23 := fun_mk (st := s_open_demands) l23 c23 k23
  have b23 := F23.binds (ps := ["targets", "pieces"]) fun _ _ _ _ _ _ us hl => match us, hl with | [_, _], _ => rfl
  have F24 := fun_mk (st := s_shadow_target) l24 c24 k24
  have b24 := F24.binds (ps := ["targets", "demand"]) fun _ _ _ _ _ _ us hl => match us, hl with | [_, _], _ => rfl
  have F25 := fun_mk (st := s_require_few_blocks) l25 c25 k25
  have b25 := F25.binds (ps := ["intervals"]) fun _ _ _ _ _ _ us hl => match us, hl with | [_], _ => rfl
  have F26 := fun_mk (st := s_decisive_demands) l26 c26 k26
  have b26 := F26.binds (ps := ["targets", "pieces"]) fun _ _ _ _ _ _ us hl => match us, hl with | [_, _], _ => rfl
  have F27 := fun_mk (st := s_largest_independent) l27 c27 k27
  have b27 := F27.binds (ps := ["demands"]) fun _ _ _ _ _ _ us hl => match us, hl with | [_], _ => rfl
  have F28 := fun_mk (st := s_unserved_demands) l28 c28 k28
  have b28 := F28.binds (ps := ["demands", "piece"]) fun _ _ _ _ _ _ us hl => match us, hl with | [_, _], _ => rfl
  have F29 := fun_mk (st := s_helpful_piece) l29 c29 k29
  have b29 := F29.binds (ps := ["demands", "blocks"]) fun _ _ _ _ _ _ us hl => match us, hl with | [_, _], _ => rfl
  have F30 := fun_mk (st := s_smallest_solution) l30 c30 k30
  have b30 := F30.binds (ps := ["targets", "pieces"]) fun _ _ _ _ _ _ us hl => match us, hl with | [_, _], _ => rfl
  have F31 := fun_mk (st := s_count_needed) l31 c31 k31
  have b31 := F31.binds (ps := ["targets", "pieces"]) fun _ _ _ _ _ _ us hl => match us, hl with | [_, _], _ => rfl
  have F32 := fun_mk (st := s_solve) l32 c32 k32
  have b32 := F32.binds (ps := ["targets", "pieces"]) fun _ _ _ _ _ _ us hl => match us, hl with | [_, _], _ => rfl
  have F33 := fun_mk (st := s_law_deck) l33 c33 k33
  have b33 := F33.binds (ps := ["_law_script"]) fun _ _ _ _ _ _ us hl => match us, hl with | [_], _ => rfl
  have F34 := fun_mk (st := s_law_draw) l34 c34 k34
  have b34 := F34.binds (ps := ["_law_deck_here", "_law_many"]) fun _ _ _ _ _ _ us hl => match us, hl with | [_, _], _ => rfl
  have F35 := fun_mk (st := s_law_line) l35 c35 k35
  have b35 := F35.binds (ps := ["_law_deck_here", "_law_most_here"]) fun _ _ _ _ _ _ us hl => match us, hl with | [_, _], _ => rfl
  have F36 := fun_mk (st := s_law_interval) l36 c36 k36
  have b36 := F36.binds (ps := ["_law_deck_here", "_law_line_here"]) fun _ _ _ _ _ _ us hl => match us, hl with | [_, _], _ => rfl
  have F37 := fun_mk (st := s_law_intervals) l37 c37 k37
  have b37 := F37.binds (ps := ["_law_deck_here", "_law_line_here", "_law_most_here"]) fun _ _ _ _ _ _ us hl => match us, hl with | [_, _, _], _ => rfl
  have F38 := fun_mk (st := s_law_served) l38 c38 k38
  have b38 := F38.binds (ps := ["_law_pieces", "_law_position", "_law_target"]) fun _ _ _ _ _ _ us hl => match us, hl with | [_, _, _], _ => rfl
  have F39 := fun_mk (st := s_law_options) l39 c39 k39
  have b39 := F39.binds (ps := ["_law_line_here", "_law_targets", "_law_pieces"]) fun _ _ _ _ _ _ us hl => match us, hl with | [_, _, _], _ => rfl
  have F40 := fun_mk (st := s_law_conflict) l40 c40 k40
  have b40 := F40.binds (ps := ["_law_first", "_law_second"]) fun _ _ _ _ _ _ us hl => match us, hl with | [_, _], _ => rfl
  have F41 := fun_mk (st := s_law_most) l41 c41 k41
  have b41 := F41.binds (ps := ["_law_options_here", "_law_chosen"]) fun _ _ _ _ _ _ us hl => match us, hl with | [_, _], _ => rfl
  have F42 := fun_mk (st := s_law_needed) l42 c42 k42
  have b42 := F42.binds (ps := ["_law_line_here", "_law_targets", "_law_pieces"]) fun _ _ _ _ _ _ us hl => match us, hl with | [_, _, _], _ => rfl
  have F43 := fun_mk (st := s_law_edit) l43 c43 k43
  have b43 := F43.binds (ps := ["_law_deck_here", "_law_line_here", "_law_state"]) fun _ _ _ _ _ _ us hl => match us, hl with | [_, _, _], _ => rfl
  have F44 := fun_mk (st := s_law_after) l44 c44 k44
  have b44 := F44.binds (ps := ["_law_state", "_law_edit_here"]) fun _ _ _ _ _ _ us hl => match us, hl with | [_, _], _ => rfl
  have F45 := fun_mk (st := s_law_do) l45 c45 k45
  have b45 := F45.binds (ps := ["_law_plan", "_law_edit_here"]) fun _ _ _ _ _ _ us hl => match us, hl with | [_, _], _ => rfl
  have F46 := fun_mk (st := s_law_begun) l46 c46 k46
  have b46 := F46.binds (ps := ["_law_deck_here", "_law_most_here"]) fun _ _ _ _ _ _ us hl => match us, hl with | [_, _], _ => rfl
  have F47 := fun_mk (st := s_law_generated) l47 c47 k47
  have b47 := F47.binds (ps := ["_law_line_here", "_law_targets", "_law_pieces"]) fun _ _ _ _ _ _ us hl => match us, hl with | [_, _, _], _ => rfl
  have F48 := fun_mk (st := s_law_solution_right) l48 c48 k48
  have b48 := F48.binds (ps := ["_law_line_here", "_law_targets", "_law_pieces", "_law_found", "_law_number"]) fun _ _ _ _ _ _ us hl => match us, hl with | [_, _, _, _, _], _ => rfl
  have F49 := fun_mk (st := s_law) l49 c49 k49
  have b49 := F49.binds (ps := ["_law_script"]) fun _ _ _ _ _ _ us hl => match us, hl with | [_], _ => rfl
  have F50 := fun_mk (st := s_Plan_init) l50 c50 k50
  have b50 := F50.binds (ps := ["self", "targets", "pieces"]) fun _ _ _ _ _ _ us hl => match us, hl with | [_, _, _], _ => rfl
  have F51 := fun_mk (st := s_Plan_add_target) l51 c51 k51
  have b51 := F51.binds (ps := ["self", "interval"]) fun _ _ _ _ _ _ us hl => match us, hl with | [_, _], _ => rfl
  have F52 := fun_mk (st := s_Plan_add_piece) l52 c52 k52
  have b52 := F52.binds (ps := ["self", "interval"]) fun _ _ _ _ _ _ us hl => match us, hl with | [_, _], _ => rfl
  have F53 := fun_mk (st := s_Plan_remove_target) l53 c53 k53
  have b53 := F53.binds (ps := ["self", "interval"]) fun _ _ _ _ _ _ us hl => match us, hl with | [_, _], _ => rfl
  have F54 := fun_mk (st := s_Plan_remove_piece) l54 c54 k54
  have b54 := F54.binds (ps := ["self", "interval"]) fun _ _ _ _ _ _ us hl => match us, hl with | [_, _], _ => rfl
  have F55 : FunD K "targets" "Plan.targets" (defArgs s_Plan_targets) (defBody s_Plan_targets) (defScope s_Plan_targets) [] [("version", V.non)] f55 _ := ⟨⟨oc55, od55, .none, .ref kD55, dc55, pm55, an55, cd55, ct55, sl55, rfl, l55, c55, .inl ⟨rfl, rfl⟩, .inr ⟨kD55, rfl, fun q hq => by rw [List.mem_singleton.mp hq]; exact ⟨.none, q55, rfl⟩⟩⟩, k55⟩
  have b55 := F55.binds0 (ps := ["self", "version"]) 1 (fun z => nomatch z) rfl fun D _ _ _ _ _ us ks h1 h2 => match us, ks, h1, h2 with | [_], [_], _, _ => ⟨_, _, _, _, _, _, rfl, rfl, rfl⟩
  have kb55 := F55.kbinds0 (ps := ["self", "version"]) 1 ["version"] [] (fun us _ ws => us ++ ws) (fun z => nomatch z) (fun q hq => nomatch hq) (fun r1 _ r3 => r1.append r3) fun D _ _ _ _ _ us mv ws h1 h2 h3 => match us, mv, ws, h1, h2, h3 with | [_], [], [_], _, _, _ => rfl
  have F56 : FunD K "pieces" "Plan.pieces" (defArgs s_Plan_pieces) (defBody s_Plan_pieces) (defScope s_Plan_pieces) [] [("version", V.non)] f56 _ := ⟨⟨oc56, od56, .none, .ref kD56, dc56, pm56, an56, cd56, ct56, sl56, rfl, l56, c56, .inl ⟨rfl, rfl⟩, .inr ⟨kD56, rfl, fun q hq => by rw [List.mem_singleton.mp hq]; exact ⟨.none, q56, rfl⟩⟩⟩, k56⟩
  have b56 := F56.binds0 (ps := ["self", "version"]) 1 (fun z => nomatch z) rfl fun D _ _ _ _ _ us ks h1 h2 => match us, ks, h1, h2 with | [_], [_], _, _ => ⟨_, _, _, _, _, _, rfl, rfl, rfl⟩
  have kb56 := F56.kbinds0 (ps := ["self", "version"]) 1 ["version"] [] (fun us _ ws => us ++ ws) (fun z => nomatch z) (fun q hq => nomatch hq) (fun r1 _ r3 => r1.append r3) fun D _ _ _ _ _ us mv ws h1 h2 h3 => match us, mv, ws, h1, h2, h3 with | [_], [], [_], _, _, _ => rfl
  have F57 : FunD K "needed" "Plan.needed" (defArgs s_Plan_needed) (defBody s_Plan_needed) (defScope s_Plan_needed) [] [("version", V.non)] f57 _ := ⟨⟨oc57, od57, .none, .ref kD57, dc57, pm57, an57, cd57, ct57, sl57, rfl, l57, c57, .inl ⟨rfl, rfl⟩, .inr ⟨kD57, rfl, fun q hq => by rw [List.mem_singleton.mp hq]; exact ⟨.none, q57, rfl⟩⟩⟩, k57⟩
  have b57 := F57.binds0 (ps := ["self", "version"]) 1 (fun z => nomatch z) rfl fun D _ _ _ _ _ us ks h1 h2 => match us, ks, h1, h2 with | [_], [_], _, _ => ⟨_, _, _, _, _, _, rfl, rfl, rfl⟩
  have kb57 := F57.kbinds0 (ps := ["self", "version"]) 1 ["version"] [] (fun us _ ws => us ++ ws) (fun z => nomatch z) (fun q hq => nomatch hq) (fun r1 _ r3 => r1.append r3) fun D _ _ _ _ _ us mv ws h1 h2 h3 => match us, mv, ws, h1, h2, h3 with | [_], [], [_], _, _, _ => rfl
  have F58 : FunD K "solution" "Plan.solution" (defArgs s_Plan_solution) (defBody s_Plan_solution) (defScope s_Plan_solution) [] [("version", V.non)] f58 _ := ⟨⟨oc58, od58, .none, .ref kD58, dc58, pm58, an58, cd58, ct58, sl58, rfl, l58, c58, .inl ⟨rfl, rfl⟩, .inr ⟨kD58, rfl, fun q hq => by rw [List.mem_singleton.mp hq]; exact ⟨.none, q58, rfl⟩⟩⟩, k58⟩
  have b58 := F58.binds0 (ps := ["self", "version"]) 1 (fun z => nomatch z) rfl fun D _ _ _ _ _ us ks h1 h2 => match us, ks, h1, h2 with | [_], [_], _, _ => ⟨_, _, _, _, _, _, rfl, rfl, rfl⟩
  have kb58 := F58.kbinds0 (ps := ["self", "version"]) 1 ["version"] [] (fun us _ ws => us ++ ws) (fun z => nomatch z) (fun q hq => nomatch hq) (fun r1 _ r3 => r1.append r3) fun D _ _ _ _ _ us mv ws h1 h2 h3 => match us, mv, ws, h1, h2, h3 with | [_], [], [_], _, _, _ => rfl
  have F59 : FunD K "missing" "Plan.missing" (defArgs s_Plan_missing) (defBody s_Plan_missing) (defScope s_Plan_missing) [] [("version", V.non)] f59 _ := ⟨⟨oc59, od59, .none, .ref kD59, dc59, pm59, an59, cd59, ct59, sl59, rfl, l59, c59, .inl ⟨rfl, rfl⟩, .inr ⟨kD59, rfl, fun q hq => by rw [List.mem_singleton.mp hq]; exact ⟨.none, q59, rfl⟩⟩⟩, k59⟩
  have b59 := F59.binds0 (ps := ["self", "version"]) 1 (fun z => nomatch z) rfl fun D _ _ _ _ _ us ks h1 h2 => match us, ks, h1, h2 with | [_], [_], _, _ => ⟨_, _, _, _, _, _, rfl, rfl, rfl⟩
  have kb59 := F59.kbinds0 (ps := ["self", "version"]) 1 ["version"] [] (fun us _ ws => us ++ ws) (fun z => nomatch z) (fun q hq => nomatch hq) (fun r1 _ r3 => r1.append r3) fun D _ _ _ _ _ us mv ws h1 h2 h3 => match us, mv, ws, h1, h2, h3 with | [_], [], [_], _, _, _ => rfl
  have F60 := fun_mk (st := s_Plan_edit) l60 c60 k60
  have b60 := F60.binds (ps := ["self", "word", "value"]) fun _ _ _ _ _ _ us hl => match us, hl with | [_, _, _], _ => rfl
  have F61 := fun_mk (st := s_Plan_record) l61 c61 k61
  have b61 := F61.binds (ps := ["self", "word", "value"]) fun _ _ _ _ _ _ us hl => match us, hl with | [_, _, _], _ => rfl
  have F62 := fun_mk (st := s_Plan_require_idle) l62 c62 k62
  have b62 := F62.binds (ps := ["self"]) fun _ _ _ _ _ _ us hl => match us, hl with | [_], _ => rfl
  have F63 := fun_mk (st := s_Plan_state_at) l63 c63 k63
  have b63 := F63.binds (ps := ["self", "version"]) fun _ _ _ _ _ _ us hl => match us, hl with | [_, _], _ => rfl
  have F64 := fun_mk (st := s_Plan_len) l64 c64 k64
  have b64 := F64.binds (ps := ["self"]) fun _ _ _ _ _ _ us hl => match us, hl with | [_], _ => rfl
  have F65 := fun_mk (st := s_Plan_str) l65 c65 k65
  have b65 := F65.binds (ps := ["self"]) fun _ _ _ _ _ _ us hl => match us, hl with | [_], _ => rfl
  have F66 := fun_mk (st := s_Plan_eq) l66 c66 k66
  have b66 := F66.binds (ps := ["self", "other"]) fun _ _ _ _ _ _ us hl => match us, hl with | [_, _], _ => rfl
  have T : Tx K mg _ _ _ _ _ _ _ _ _ _ _ _ _ _ _ _ _ _ _ _ _ _ _ _ _ _ _ _ _ _ _ _ _ _ _ _ _ _ _ _ _ _ _ _ _ _ _ _ _ _ _ _ _ _ _ _ _ _ _ _ _ _ _ _ _ _ _ _ _ _ _ _ _ _ _ _ _ _ _ _ _ _ _ _ _ _ _ _ _ _ _ _ _ _ _ _ _ _ _ _ _ _ _ _ _ _ _ _ _ _ _ _ _ _ _ _ _ _ _ _ _ _ _ _ _ _ _ _ _ _ _ _ _ tk0 tk1 tk2 tk3 tk4 := ⟨F1, b1, PySem.W.mg_of X G a1, F2, b2, PySem.W.mg_of X G a2, F3, b3, PySem.W.mg_of X G a3, F4, b4, PySem.W.mg_of X G a4, F5, b5, PySem.W.mg_of X G a5, F6, b6, PySem.W.mg_of X G a6, F7, b7, PySem.W.mg_of X G a7, F8, b8, PySem.W.mg_of X G a8, F9, b9, PySem.W.mg_of X G a9, F10, b10, PySem.W.mg_of X G a10, F11, b11, PySem.W.mg_of X G a11, F12, b12, PySem.W.mg_of X G a12, F13, b13, PySem.W.mg_of X G a13, F14, b14, PySem.W.mg_of X G a14, F15, b15, PySem.W.mg_of X G a15, F16, b16, PySem.W.mg_of X G a16, F17, b17, PySem.W.mg_of X G a17, F18, b18, PySem.W.mg_of X G a18, F19, b19, PySem.W.mg_of X G a19, F20, b20, PySem.W.mg_of X G a20, F21, b21, PySem.W.mg_of X G a21, F22, b22, PySem.W.mg_of X G a22, F23, b23, PySem.W.mg_of X G a23, F24, b24, PySem.W.mg_of X G a24, F25, b25, PySem.W.mg_of X G a25, F26, b26, PySem.W.mg_of X G a26, F27, b27, PySem.W.mg_of X G a27, F28, b28, PySem.W.mg_of X G a28, F29, b29, PySem.W.mg_of X G a29, F30, b30, PySem.W.mg_of X G a30, F31, b31, PySem.W.mg_of X G a31, F32, b32, PySem.W.mg_of X G a32, F33, b33, PySem.W.mg_of X G a33, F34, b34, PySem.W.mg_of X G a34, F35, b35, PySem.W.mg_of X G a35, F36, b36, PySem.W.mg_of X G a36, F37, b37, PySem.W.mg_of X G a37, F38, b38, PySem.W.mg_of X G a38, F39, b39, PySem.W.mg_of X G a39, F40, b40, PySem.W.mg_of X G a40, F41, b41, PySem.W.mg_of X G a41, F42, b42, PySem.W.mg_of X G a42, F43, b43, PySem.W.mg_of X G a43, F44, b44, PySem.W.mg_of X G a44, F45, b45, PySem.W.mg_of X G a45, F46, b46, PySem.W.mg_of X G a46, F47, b47, PySem.W.mg_of X G a47, F48, b48, PySem.W.mg_of X G a48, F49, b49, PySem.W.mg_of X G a49, F50, b50, ⟨a50, i50, k50⟩, F51, b51, ⟨a51, i51, k51⟩, F52, b52, ⟨a52, i52, k52⟩, F53, b53, ⟨a53, i53, k53⟩, F54, b54, ⟨a54, i54, k54⟩, F55, b55, kb55.choose_spec, ⟨a55, i55, k55⟩, F56, b56, kb56.choose_spec, ⟨a56, i56, k56⟩, F57, b57, kb57.choose_spec, ⟨a57, i57, k57⟩, F58, b58, kb58.choose_spec, ⟨a58, i58, k58⟩, F59, b59, kb59.choose_spec, ⟨a59, i59, k59⟩, F60, b60, ⟨a60, i60, k60⟩, F61, b61, ⟨a61, i61, k61⟩, F62, b62, ⟨a62, i62, k62⟩, F63, b63, ⟨a63, i63, k63⟩, F64, b64, ⟨a64, i64, k64⟩, F65, b65, ⟨a65, i65, k65⟩, F66, b66, ⟨a66, i66, k66⟩, PySem.W.mg_of X G y0, PySem.W.mg_of X G y1, PySem.W.mg_of X G y2, PySem.W.mg_of X G y3, PySem.W.mg_of X G y4, PySem.W.mg_none_of X G z0, PySem.W.mg_none_of X G z1, PySem.W.mg_none_of X G z2, PySem.W.mg_none_of X G z3, PySem.W.mg_none_of X G z4, PySem.W.mg_none_of X G z5, PySem.W.mg_none_of X G z6, PySem.W.mg_none_of X G z7, PySem.W.mg_none_of X G z8, PySem.W.mg_none_of X G z9, PySem.W.mg_none_of X G z10, PySem.W.mg_none_of X G z11, PySem.W.mg_none_of X G z12, PySem.W.mg_none_of X G z13, PySem.W.mg_none_of X G z14, PySem.W.mg_none_of X G z15, PySem.W.mg_none_of X G z16, ⟨pg_Plan, hd_Plan, po_Plan, sa_Plan⟩, PySem.W.mg_of X G aC_Plan, ⟨mk_Plan, a50, i50, kc_Plan⟩, n_states_Plan, n_done_Plan, n_busy_Plan, ⟨ia_Plan, ib_Plan, it_Plan, im_Plan⟩⟩
  exact ⟨_, fun s v => .of_eq rfl, fun base _ _ hM hB => ok_law T ⟨cc, hB, hcc⟩⟩
end L9
open PySem PySem.W PyProof.Rows
set_option maxHeartbeats 0 in
theorem PySem.Challenge.cw_fewspans_k78_numbers_needed_holds : PySem.Challenge.rw_fewspans_k78_numbers_needed.Holds := by
  w_on; o_law; k_head; (case hw => w_witness2)
  k_fill
  refine L9.quiet_walkT (l := PySem.Challenge.rw_fewspans_k78_numbers_needed) (n := 63) (k := 208) (x := "_law_script") (by decide +kernel) rfl (by decide) rfl ⟨rfl, by decide, by decide⟩ (fun w h Y => PySem.W.km_in_of Y) ?F
  case F =>
    intro w mg fa h KX G hmg tabOf
    refine' L9.endT tabOf (y := "helpful_piece") ?ta ?tl ?te ?tc ?tv (by decide +kernel) ?noT (L9.all_mk KX G hmg ?a1 ?l1 ?c1 ?k1 ?a2 ?l2 ?c2 ?k2 ?a3 ?l3 ?c3 ?k3 ?a4 ?l4 ?c4 ?k4 ?a5 ?l5 ?c5 ?k5 ?a6 ?l6 ?c6 ?k6 ?a7 ?l7 ?c7 ?k7 ?a8 ?l8 ?c8 ?k8 ?a9 ?l9 ?c9 ?k9 ?a10 ?l10 ?c10 ?k10 ?a11 ?l11 ?c11 ?k11 ?a12 ?l12 ?c12 ?k12 ?a13 ?l13 ?c13 ?k13 ?a14 ?l14 ?c14 ?k14 ?a15 ?l15 ?c15 ?k15 ?a16 ?l16 ?c16 ?k16 ?a17 ?l17 ?c17 ?k17 ?a18 ?l18 ?c18 ?k18 ?a19 ?l19 ?c19 ?k19 ?a20 ?l20 ?c20 ?k20 ?a21 ?l21 ?c21 ?k21 ?a22 ?l22 ?c22 ?k22 ?a23 ?l23 ?c23 ?k23 ?a24 ?l24 ?c24 ?k24 ?a25 ?l25 ?c25 ?k25 ?a26 ?l26 ?c26 ?k26 ?a27 ?l27 ?c27 ?k27 ?a28 ?l28 ?c28 ?k28 ?a29 ?l29 ?c29 ?k29 ?a30 ?l30 ?c30 ?k30 ?a31 ?l31 ?c31 ?k31 ?a32 ?l32 ?c32 ?k32 ?a33 ?l33 ?c33 ?k33 ?a34 ?l34 ?c34 ?k34 ?a35 ?l35 ?c35 ?k35 ?a36 ?l36 ?c36 ?k36 ?a37 ?l37 ?c37 ?k37 ?a38 ?l38 ?c38 ?k38 ?a39 ?l39 ?c39 ?k39 ?a40 ?l40 ?c40 ?k40 ?a41 ?l41 ?c41 ?k41 ?a42 ?l42 ?c42 ?k42 ?a43 ?l43 ?c43 ?k43 ?a44 ?l44 ?c44 ?k44 ?a45 ?l45 ?c45 ?k45 ?a46 ?l46 ?c46 ?k46 ?a47 ?l47 ?c47 ?k47 ?a48 ?l48 ?c48 ?k48 ?a49 ?l49 ?c49 ?k49 ?a50 ?i50 ?l50 ?c50 ?k50 ?a51 ?i51 ?l51 ?c51 ?k51 ?a52 ?i52 ?l52 ?c52 ?k52 ?a53 ?i53 ?l53 ?c53 ?k53 ?a54 ?i54 ?l54 ?c54 ?k54 ?a55 ?i55 ?l55 ?c55 ?k55 ?q55 ?a56 ?i56 ?l56 ?c56 ?k56 ?q56 ?a57 ?i57 ?l57 ?c57 ?k57 ?q57 ?a58 ?i58 ?l58 ?c58 ?k58 ?q58 ?a59 ?i59 ?l59 ?c59 ?k59 ?q59 ?a60 ?i60 ?l60 ?c60 ?k60 ?a61 ?i61 ?l61 ?c61 ?k61 ?a62 ?i62 ?l62 ?c62 ?k62 ?a63 ?i63 ?l63 ?c63 ?k63 ?a64 ?i64 ?l64 ?c64 ?k64 ?a65 ?i65 ?l65 ?c65 ?k65 ?a66 ?i66 ?l66 ?c66 ?k66 ?aC_Plan ?pg_Plan ?hd_Plan ?po_Plan ?sa_Plan ?mk_Plan ?kc_Plan ?n_states_Plan ?n_done_Plan ?n_busy_Plan ?ia_Plan ?ib_Plan ?it_Plan ?im_Plan ?y0 ?y1 ?y2 ?y3 ?y4 ?z0 ?z1 ?z2 ?z3 ?z4 ?z5 ?z6 ?z7 ?z8 ?z9 ?z10 ?z11 ?z12 ?z13 ?z14 ?z15 ?z16 ?hcc) (fun H a ns hl h0 hS => ⟨a, ns, rfl, hS, hl, h0, fun _ => rfl⟩)
    (case ta => k_is)
    (case tl => k_is)
    (case te => rfl)
    (case tc => k_is)
    (case tv => rfl)
    (case noT => kernel_rfl)
    (case aC_Plan => k_is)
    (case a1 => k_is)
    (case l1 => k_is)
    (case c1 => k_is)
    (case k1 => k_is)
    (case a2 => k_is)
    (case l2 => k_is)
    (case c2 => k_is)
    (case k2 => k_is)
    (case a3 => k_is)
    (case l3 => k_is)
    (case c3 => k_is)
    (case k3 => k_is)
    (case a4 => k_is)
    (case l4 => k_is)
    (case c4 => k_is)
    (case k4 => k_is)
    (case a5 => k_is)
    (case l5 => k_is)
    (case c5 => k_is)
    (case k5 => k_is)
    (case a6 => k_is)
    (case l6 => k_is)
    (case c6 => k_is)
    (case k6 => k_is)
    (case a7 => k_is)
    (case l7 => k_is)
    (case c7 => k_is)
    (case k7 => k_is)
    (case a8 => k_is)
    (case l8 => k_is)
    (case c8 => k_is)
    (case k8 => k_is)
    (case a9 => k_is)
    (case l9 => k_is)
    (case c9 => k_is)
    (case k9 => k_is)
    (case a10 => k_is)
    (case l10 => k_is)
    (case c10 => k_is)
    (case k10 => k_is)
    (case a11 => k_is)
    (case l11 => k_is)
    (case c11 => k_is)
    (case k11 => k_is)
    (case a12 => k_is)
    (case l12 => k_is)
    (case c12 => k_is)
    (case k12 => k_is)
    (case a13 => k_is)
    (case l13 => k_is)
    (case c13 => k_is)
    (case k13 => k_is)
    (case a14 => k_is)
    (case l14 => k_is)
    (case c14 => k_is)
    (case k14 => k_is)
    (case a15 => k_is)
    (case l15 => k_is)
    (case c15 => k_is)
    (case k15 => k_is)
    (case a16 => k_is)
    (case l16 => k_is)
    (case c16 => k_is)
    (case k16 => k_is)
    (case a17 => k_is)
    (case l17 => k_is)
    (case c17 => k_is)
    (case k17 => k_is)
    (case a18 => k_is)
    (case l18 => k_is)
    (case c18 => k_is)
    (case k18 => k_is)
    (case a19 => k_is)
    (case l19 => k_is)
    (case c19 => k_is)
    (case k19 => k_is)
    (case a20 => k_is)
    (case l20 => k_is)
    (case c20 => k_is)
    (case k20 => k_is)
    (case a21 => k_is)
    (case l21 => k_is)
    (case c21 => k_is)
    (case k21 => k_is)
    (case a22 => k_is)
    (case l22 => k_is)
    (case c22 => k_is)
    (case k22 => k_is)
    (case a23 => k_is)
    (case l23 => k_is)
    (case c23 => k_is)
    (case k23 => k_is)
    (case a24 => k_is)
    (case l24 => k_is)
    (case c24 => k_is)
    (case k24 => k_is)
    (case a25 => k_is)
    (case l25 => k_is)
    (case c25 => k_is)
    (case k25 => k_is)
    (case a26 => k_is)
    (case l26 => k_is)
    (case c26 => k_is)
    (case k26 => k_is)
    (case a27 => k_is)
    (case l27 => k_is)
    (case c27 => k_is)
    (case k27 => k_is)
    (case a28 => k_is)
    (case l28 => k_is)
    (case c28 => k_is)
    (case k28 => k_is)
    (case a29 => k_is)
    (case l29 => k_is)
    (case c29 => k_is)
    (case k29 => k_is)
    (case a30 => k_is)
    (case l30 => k_is)
    (case c30 => k_is)
    (case k30 => k_is)
    (case a31 => k_is)
    (case l31 => k_is)
    (case c31 => k_is)
    (case k31 => k_is)
    (case a32 => k_is)
    (case l32 => k_is)
    (case c32 => k_is)
    (case k32 => k_is)
    (case a33 => k_is)
    (case l33 => k_is)
    (case c33 => k_is)
    (case k33 => k_is)
    (case a34 => k_is)
    (case l34 => k_is)
    (case c34 => k_is)
    (case k34 => k_is)
    (case a35 => k_is)
    (case l35 => k_is)
    (case c35 => k_is)
    (case k35 => k_is)
    (case a36 => k_is)
    (case l36 => k_is)
    (case c36 => k_is)
    (case k36 => k_is)
    (case a37 => k_is)
    (case l37 => k_is)
    (case c37 => k_is)
    (case k37 => k_is)
    (case a38 => k_is)
    (case l38 => k_is)
    (case c38 => k_is)
    (case k38 => k_is)
    (case a39 => k_is)
    (case l39 => k_is)
    (case c39 => k_is)
    (case k39 => k_is)
    (case a40 => k_is)
    (case l40 => k_is)
    (case c40 => k_is)
    (case k40 => k_is)
    (case a41 => k_is)
    (case l41 => k_is)
    (case c41 => k_is)
    (case k41 => k_is)
    (case a42 => k_is)
    (case l42 => k_is)
    (case c42 => k_is)
    (case k42 => k_is)
    (case a43 => k_is)
    (case l43 => k_is)
    (case c43 => k_is)
    (case k43 => k_is)
    (case a44 => k_is)
    (case l44 => k_is)
    (case c44 => k_is)
    (case k44 => k_is)
    (case a45 => k_is)
    (case l45 => k_is)
    (case c45 => k_is)
    (case k45 => k_is)
    (case a46 => k_is)
    (case l46 => k_is)
    (case c46 => k_is)
    (case k46 => k_is)
    (case a47 => k_is)
    (case l47 => k_is)
    (case c47 => k_is)
    (case k47 => k_is)
    (case a48 => k_is)
    (case l48 => k_is)
    (case c48 => k_is)
    (case k48 => k_is)
    (case a49 => k_is)
    (case l49 => k_is)
    (case c49 => k_is)
    (case k49 => k_is)
    (case a50 => k_is)
    (case i50 => k_is)
    (case l50 => k_is)
    (case c50 => k_is)
    (case k50 => k_is)
    (case a51 => k_is)
    (case i51 => k_is)
    (case l51 => k_is)
    (case c51 => k_is)
    (case k51 => k_is)
    (case a52 => k_is)
    (case i52 => k_is)
    (case l52 => k_is)
    (case c52 => k_is)
    (case k52 => k_is)
    (case a53 => k_is)
    (case i53 => k_is)
    (case l53 => k_is)
    (case c53 => k_is)
    (case k53 => k_is)
    (case a54 => k_is)
    (case i54 => k_is)
    (case l54 => k_is)
    (case c54 => k_is)
    (case k54 => k_is)
    (case a55 => k_is)
    (case i55 => k_is)
    (case l55 => k_is)
    (case c55 => k_is)
    (case k55 => k_is)
    (case q55 => k_is)
    (case a56 => k_is)
    (case i56 => k_is)
    (case l56 => k_is)
    (case c56 => k_is)
    (case k56 => k_is)
    (case q56 => k_is)
    (case a57 => k_is)
    (case i57 => k_is)
    (case l57 => k_is)
    (case c57 => k_is)
    (case k57 => k_is)
    (case q57 => k_is)
    (case a58 => k_is)
    (case i58 => k_is)
    (case l58 => k_is)
    (case c58 => k_is)
    (case k58 => k_is)
    (case q58 => k_is)
    (case a59 => k_is)
    (case i59 => k_is)
    (case l59 => k_is)
    (case c59 => k_is)
    (case k59 => k_is)
    (case q59 => k_is)
    (case a60 => k_is)
    (case i60 => k_is)
    (case l60 => k_is)
    (case c60 => k_is)
    (case k60 => k_is)
    (case a61 => k_is)
    (case i61 => k_is)
    (case l61 => k_is)
    (case c61 => k_is)
    (case k61 => k_is)
    (case a62 => k_is)
    (case i62 => k_is)
    (case l62 => k_is)
    (case c62 => k_is)
    (case k62 => k_is)
    (case a63 => k_is)
    (case i63 => k_is)
    (case l63 => k_is)
    (case c63 => k_is)
    (case k63 => k_is)
    (case a64 => k_is)
    (case i64 => k_is)
    (case l64 => k_is)
    (case c64 => k_is)
    (case k64 => k_is)
    (case a65 => k_is)
    (case i65 => k_is)
    (case l65 => k_is)
    (case c65 => k_is)
    (case k65 => k_is)
    (case a66 => k_is)
    (case i66 => k_is)
    (case l66 => k_is)
    (case c66 => k_is)
    (case k66 => k_is)
    (case pg_Plan => k_is)
    (case hd_Plan => k_is)
    (case po_Plan => k_is)
    (case sa_Plan => k_is)
    (case mk_Plan => k_is)
    (case kc_Plan => k_is)
    (case n_states_Plan => k_is)
    (case n_done_Plan => k_is)
    (case n_busy_Plan => k_is)
    (case ia_Plan => k_is)
    (case ib_Plan => k_is)
    (case it_Plan => k_is)
    (case im_Plan => k_is)
    (case y0 => k_is)
    (case y1 => k_is)
    (case y2 => k_is)
    (case y3 => k_is)
    (case y4 => k_is)
    (case z0 => k_is)
    (case z1 => k_is)
    (case z2 => k_is)
    (case z3 => k_is)
    (case z4 => k_is)
    (case z5 => k_is)
    (case z6 => k_is)
    (case z7 => k_is)
    (case z8 => k_is)
    (case z9 => k_is)
    (case z10 => k_is)
    (case z11 => k_is)
    (case z12 => k_is)
    (case z13 => k_is)
    (case z14 => k_is)
    (case z15 => k_is)
    (case z16 => k_is)
    (case hcc => rfl)
