import PyProof.Rows.All
import Wide.All
import OpenK.AllK
import Wide.FinOn
import PySem.Challenge.RW_fewspans_k19_not_generated_raised
import HandS.ForMost
import HandS.Wide
import HandS.IsInst
import HandS.Conv
import HandS.TupLe
import HandS.Strs
import HandS.SetFor
import HandS.Style
import HandS.TupSets
import HandS.Keys
import HandS.Sort
import HandS.SortOrd
import HandS.SortRule
import HandS.SortKw
import HandS.SetBool
import HandS.TupAny
import HandS.Zip
import HandS.NoneIn
import HandS.Deep
import KE.GoesEnum
import KE.GoesMore
import HandS.Lambda
import HandS.CallLocal
import KE.DataCmp
import HandS.EndTab
import KE.KMinBuiltin
import HandS.TupMul
import PyProof.NeKinds
import HandS.Defaults
import HandS.MakeKwOnly
import HandS.OwnEq
import HandS.FStr
import KE.KCallOwn
import HandS.ExcIs
import HandS.ExcOwn
import HandS.CallSlots
import HandS.WordsExc
import HandS.TryMany
import HandS.Codes
import HandS.ExcInit
import KE.KExcIs
import HandS.ExcField
set_option Elab.async false
set_option linter.all false
set_option maxRecDepth 100000
set_option maxHeartbeats 4000000
namespace L9
open PySem PySem.Spec PyProof.Rows L2

/-- a statement that is never come to -/
theorem ps_never {X : Cx} {st : Stmt} : PS X st (fun _ _ _ => False) := ⟨fun _ _ _ _ _ _ h => h.elim⟩

/-! ### set(t), t a tuple of tuples of ints: the library has it of lists; the walk is a tuple's here -/
section
variable {P : Program} {w : World} {A : Around} {E : Value → Shared → Prop} {s : Shared}
abbrev noSetT (w : World) : Obj := { cls := .type "set", dict := none, data := .set #[] 0 (.fresh 0 0 (!w.params.followText "set-order")) }
theorem setT_tups {l : Addr} {its : Array Value} (ks : List (Addr × List Int)) {Q : Value → Shared → Prop} (quiet : A.handled = none) (isT : s.heap.IsTuple l its) (refs : its.toList = ks.map fun p => Value.ref p.1)
    (tk : ∀ p ∈ ks, IsT P w s.heap p.2 p.1) (few : ks.length < 64) (un : A.units + 3 < cLine)
    (fin : ∀ (h2 : Heap) (tk : Nat) L es ep t, SetTR P w h2 s.heap.objs.size L es ep t → Got ks ks.length L → (∀ b o, s.heap.get? b = some o → h2.get? b = some o) → Q (.ref s.heap.objs.size) { s with heap := h2, toks := tk }) :
    wpAny (model P w) A (call (.type "set") [.ref l]) Q E s := by
  have size : its.size = ks.length := by
    rw [← Array.length_toList, refs, List.length_map]
  obtain ⟨cA, tA, mA⟩ := F.called_set.mro
  have f1 := F.called_set.made
  have f2 := F.called_set.sub
  refine wpAny_call (codeAny_of_tree (?_ : wpAny _ _ (callAny (.type "set") _) _ _ _))
  refine wpAny_pure (And.intro (Code.quiet_builtin _ (by decide +kernel)) (codeAny_builtin F.entry_type_call ?_))
  rw [Around.under_plain (weight_type_call_type "set" [Value.ref l] []) rfl]
  have f3 := F.called_set.notType
  have f4 := F.called_set.canCreate
  have f5 := F.typeCall_set_1 (Value.ref l)
  repeat any_goals first | assumption | wp_step
  refine codeAny_mono (code_set_led1 (.ref l) (E := E) (Q₁ := fun v s1 => v = .ref s.heap.objs.size ∧ s1 = { s with heap := s.heap.push (noSetT w) }) (And.intro rfl rfl)) fun r s1 h1 => ?_
  match r, h1 with
  | .error e, h1 => exact h1
  | .ok (.ret v), h1 =>
    obtain ⟨rfl, rfl⟩ := h1
    have at0 : (s.heap.push (noSetT w)).get? s.heap.objs.size = some (noSetT w) := Heap.get?_push_size _ rfl
    have ty0 : Shared.TypeIs { s with heap := s.heap.push (noSetT w) } (.ref s.heap.objs.size) "set" := Exists.intro _ (And.intro at0 rfl)
    have f6 := F.called_set.init.lookup
    have f7 := F.called_set.init.bind (Value.ref s.heap.objs.size)
    repeat any_goals first | assumption | wp_step
    let Z : Value → Shared → Prop := fun v s2 => v = .none ∧ ∃ h2 tk L es ep t, s2 = { s with heap := h2, toks := tk } ∧ SetTR P w h2 s.heap.objs.size L es ep t ∧ Got ks ks.length L ∧ ∀ b o, s.heap.get? b = some o → h2.get? b = some o
    refine codeAny_mono (codeAny_call_builtin (R := wants Z E) F.called_set.init.plain F.entry_set_init (check_set_init_1 ty0 ?_)) fun r2 s2 h2 => ?_
    · obtain ⟨o, eo, ec, k, ed⟩ := isT
      obtain ⟨oc, od, oD, oS⟩ := o
      simp only at ec ed
      subst ec ed
      have lt : l < s.heap.objs.size := Heap.lt_size eo
      have eo1 : (s.heap.push (noSetT w)).get? l = some { cls := .type "tuple", dict := od, data := .seq its k, slots := oS } := Heap.get?_push_of_some _ eo
      have g1 := F.sub_tuple_set
      have g2 := F.sub_tuple_frozenset
      have g3 : (Value.type "tuple" == Value.type "dict") = false := by decide
      have isT1 : (s.heap.push (noSetT w)).IsTuple l its := Exists.intro _ (And.intro eo1 (And.intro rfl (Exists.intro k rfl)))
      unfold Builtin.«set.__init__» Builtin.Frozenset.updateFrom noKeywords
      generalize keep : pyIter = itr
      wp_walk
      subst keep
      refine wpAny_pyIter_tuple isT1 (wpAny_bind (wpAny_runValue ?_))
      have quiet3 : A.in1.in1.in1.handled = none := by simp [quiet]
      have sz : (s.heap.push (noSetT w)).objs.size = s.heap.objs.size + 1 := Heap.size_push ..
      have lI : l ≠ (s.heap.push (noSetT w)).objs.size := by
        rw [sz]
        exact Nat.ne_of_lt (Nat.lt_succ_of_lt lt)
      have out : s.heap.objs.size ∉ [(s.heap.push (noSetT w)).objs.size, l] := by
        rw [sz]
        intro z
        rcases List.mem_cons.mp z with z | z
        · exact absurd z (Nat.ne_of_lt (Nat.lt_succ_self _))
        · exact absurd (List.mem_singleton.mp z) (Nat.ne_of_gt lt)
      have vals : ∀ (i : Nat) (v : Value), its[i]? = some v → ∃ p, ks[i]? = some p ∧ v = .ref p.1 := fun i v hv => by
        have z : its.toList[i]? = some v := by
          rw [Array.getElem?_toList]
          exact hv
        rw [refs, List.getElem?_map] at z
        obtain ⟨p, e1, e2⟩ := Option.map_eq_some_iff.mp z
        exact Exists.intro p (And.intro e1 e2.symm)
      have beyond : ∀ b, s.heap.objs.size ≤ b → s.heap.get? b = none := fun b hb => by
        cases z : s.heap.get? b with
        | none => rfl
        | some o => exact (Nat.lt_irrefl _ (Nat.lt_of_lt_of_le (Heap.lt_size z) hb)).elim
      refine set_update_tups (Walks.tuple quiet3 _ l lI its).toS s.heap.objs.size out ks size few vals s.heap tk (beyond _ (Nat.le_refl _)) (fun b hb => beyond b ?_) un (its.size - 0) 0 _ rfl (Nat.zero_le _) (And.intro (Exists.intro _ (And.intro (Heap.get?_push_size _ rfl) (And.intro rfl rfl))) (isT1.push _)) (fun b o e => Heap.get?_push_of_some _ (Heap.get?_push_of_some _ e)) ?start ?last
      · rw [List.mem_singleton.mp hb, sz]
        exact Nat.le_succ _
      case start =>
        exact ⟨[], #[], 0, _, setTR_fresh (Heap.get?_push_of_some _ at0), Got.zero ks⟩
      case last =>
        intro s3 L es ep t mv R got kp
        obtain ⟨h3, g3', d3, tk3, o3⟩ := s3
        have m1 : g3' = s.gens := mv.gens
        have m2 : d3 = s.drawn := mv.drawn
        have m3 : o3 = s.os := mv.os
        subst m1 m2 m3
        refine wpAny_pure (?_ : wpAny _ _ (ret Value.none) _ _ _)
        rw [size] at got
        exact wpAny_pure (And.intro rfl ⟨h3, tk3, L, es, ep, t, rfl, R, got, kp⟩)
    · match r2, h2 with
      | .error e, h2 => exact h2
      | .ok (.ret v), h2 =>
        obtain ⟨rfl, h', tk, L, es, ep, t, rfl, R, got, kp⟩ := h2
        repeat any_goals first | assumption | wp_step
        exact fin h' tk L es ep t R got kp
      | .ok .next, h2 => exact h2
      | .ok .brk, h2 => exact h2
      | .ok .cont, h2 => exact h2
  | .ok .next, h1 => exact h1
  | .ok .brk, h1 => exact h1
  | .ok .cont, h1 => exact h1
end
section
variable {X : Cx}
def rSetOfTT (K : PySem.W.Frag) (P : Program) (w : World) : List V → Hp → VK → Prop := fun xs H Q => ∃ (l : Addr) (ks : List (Addr × List Int)), xs = [V.ref l] ∧ SqT K H l (ks.map fun p => V.ref p.1) ∧ (∀ p ∈ ks, SqT K H p.1 (p.2.map V.int)) ∧ ks.length < 64 ∧
  ∀ a L, H a = none → (∀ p ∈ L, p ∈ ks) → (∀ p ∈ ks, p.2 ∈ L.map (·.2)) → Q (.ref a) (upd H a (SetTO P w a L))
theorem cr_setOfTT (calm : X.calm = true) (units : X.A.units + 64 < cLine) : CallR X (.type "set") (rSetOfTT X.K X.prog X.w) := by
  intro pins s σ H xs us Q I r h
  obtain ⟨l, ks, rfl, hl, hk, few, q⟩ := h
  rw [Vals.ref1 r]
  obtain ⟨its, rv, pl, _⟩ := I.tuple hl
  have nn : H s.heap.objs.size = none := I.hok.fresh (Nat.le_refl _)
  refine setT_tups (P := X.prog) (w := X.w) (its := its.toArray) ks (I.ok.hd calm) pl (by simpa using refs_of_vals rv) (fun p hp => I.isT (hk p hp)) few (by omega) fun h2 tk L es ep t R got kp => ?_
  exact ⟨.ref s.heap.objs.size, _, I.laid (t' := tk) kp (Nat.le_refl _) (setTO_new R.t0), rfl, q _ L nn (fun p hp => List.mem_of_mem_take (got.sub p hp)) (fun p hp => got.all p (by rw [List.take_length]; exact hp))⟩
end

/-! ### defs that are run where no text-making of the machine is under way (repr, str of nested data ask for it) -/
abbrev Quiet (A : Around) : Prop := A.guards = some []
structure FnG (P : Program) (w : World) (K : PySem.W.Frag) (mg : Str → Option Value) (base : Heap) (k : Nat) (f : Addr) (fd : FuncData) (ps : List Str) (sp : Sp) : Prop where
  size : ∀ {vs H Q}, sp vs H Q E0 → vs.length = ps.length
  go : ∀ {A outer s H us vs Q}, Room k A → Quiet A → Env0 P w K mg base A outer s H → BindsTo s fd ⟨us, []⟩ (ps.zip us) → Vals vs us → sp vs H Q E0 →
    codeAny (model P w) A (.call (.ref f) ⟨us, []⟩) (CR CX0 outer P w H s Q E0) s
section
variable {P : Program} {w : World} {K : PySem.W.Frag} {mg : Str → Option Value} {base : Heap}
theorem FnG.of {x qual : Str} {st : Stmt} {f : Addr} {fd : FuncData} {N ps : List Str} {k : Nat} {sp : Sp} (F : Fun K x qual st f fd) (S : FnScope N ps (defScope st))
    (size : ∀ {vs H Q}, sp vs H Q E0 → vs.length = ps.length)
    (body : ∀ cdv A outer s H vs Q, Room k (A.deeper (envOfC qual (defScope st) s.heap.objs.size f cdv)) → Quiet (A.deeper (envOfC qual (defScope st) s.heap.objs.size f cdv)) → sp vs H Q E0 →
      ∃ t, PSs (cxOf CX0 P w K mg base N qual (defScope st) f cdv A outer s H E0).nox (defBody st) t ∧ t { nx := fun _ H' => Q .non H', rt := Q } (start N vs) H) :
    FnG P w K mg base (k + 1) f fd ps sp := by
  obtain ⟨oc, od, kV, doc, pm, an, cdv, ct, osl, rfl, look, code⟩ := F.ex
  constructor
  · exact size
  intro A outer s H us vs Q room quiet e0 bind rel want
  have inH : K.In s.heap := e0.mod.kin.keeps fun b o q => (e0.bs b o q).1
  have lim := e0.mod.nolimit.keeps (fun b o q => (e0.bs b o q).1)
  have kinds : ∀ y ∈ ps.zip us, (defScope st).names.lookup y.1 = some .local ∨ ((defScope st).names.lookup y.1 = some .cell ∧ ((cellsFrom (s.heap.objs.size + 1) (defScope st).names []).lookup y.1).isSome = true) := by
    rintro ⟨n, v⟩ hy
    have hn := (List.of_mem_zip hy).1
    cases S.par n hn with
    | inl q => exact Or.inl q
    | inr q => exact Or.inr ⟨q, PySem.W.cellsFrom_some _ _ _ (Or.inl q)⟩
  apply codeAny_call_function room.depth (inH _ _ look) rfl S.co S.gen rfl (PySem.W.codeRec_of inH code)
  apply bind
  apply wpAny_newFunctionEnv_cells S.kind kinds
  intro env he s1 x
  subst he
  refine And.intro (lim.keeps x.toInCall.keep) (codeAny_func ?_)
  obtain ⟨t, ht, hq⟩ := body cdv A outer s H vs Q (room.deeper _) quiet want
  have I := inv_start (CX := CX0) (E := E0) S room.hd e0 (size want) rel x
  apply wpAny_mono (ht.nox.run [] s1 (start N vs) H _ I hq)
  · intro fl s' hs
    cases fl with
    | ret u =>
      obtain ⟨v, σ', H', J, rv, q⟩ := hs
      exact Exists.intro v ⟨H', J.os, J.bare, J.base, J.hok, rv, q⟩
    | next =>
      obtain ⟨σ', H', J, q⟩ := hs
      exact Exists.intro V.non ⟨H', J.os, J.bare, J.base, J.hok, rfl, q⟩
    | brk => exact hs.elim fun _ h => h.elim fun _ h => h.2.elim
    | cont => exact hs.elim fun _ h => h.elim fun _ h => h.2.elim
  · intro e s' hs
    exact hs
end
section
variable {X : Cx} {k : Nat} {f : Addr} {fd : FuncData} {ps : List Str} {sp : Sp} {x : Str} {p pos : Pos} {e : Expr} {es : List Expr} {t : TA}
theorem pe_callG (F : FnG X.prog X.w X.K X.mg X.base k f fd ps sp) (room : Room k X.A) (quiet : Quiet X.A) (hg : Gl X x) (hm : X.mg x = some (.ref f)) (keep : PySem.W.keepIn X.K (.ref f) = true) (bind : Binds X.K fd ps [])
    (args : PA X (e :: es) t) (hdb : (x == ("__debug__" : Str)) = false := by decide) (star : starEach (e :: es) X.env = (false, eval e X.env) :: starEach es X.env := by rfl) (plain : (backTo pos (starEach es X.env)).any (·.1) = false := by rfl) :
    PE X (.Call (.Name x p) (e :: es) [] pos) (tCall sp [] E0 t) := by
  constructor
  intro pins s σ H Q I h
  apply wpAny_Call_Name_kw
  apply ld_glob I hg hm _ hdb
  apply PySem.W.callWith_K (h₀ := X.base) I.ok.mod.kin keep _ star plain
  apply thn (args.run pos pins s σ H _ I h)
  rintro us s1 ⟨vs, H1, I1, rel, q⟩
  refine And.intro I1.kIn ?_
  have q' : sp vs H1 Q E0 := by
    have z := q
    rw [List.append_nil] at z
    exact z
  have same : us.length = ps.length := rel.length.symm.trans (F.size q')
  have b := bind s1 us I1.kIn (by rw [List.append_nil]; exact same)
  rw [List.append_nil] at b
  apply wpAny_call
  apply codeAny_mono (F.go room quiet I1.env0 b rel q')
  intro r s' hr
  match r, hr with
  | .error _, hr => exact hr.elim
  | .ok (.ret u), hr => exact I1.after hr
  | .ok .next, hr => exact False.elim hr
  | .ok .brk, hr => exact False.elim hr
  | .ok .cont, hr => exact False.elim hr
end
/-! ### repr of data at any depth -/
structure Sm (n dp : Nat) (d : PyData) : Prop where
  shows : d.showable = true
  short : d.leavesShort 40 = true
  small : d.weight ≤ n
  flat : d.depth ≤ dp
theorem Sm.mono {n m dp dq : Nat} {d : PyData} (h : Sm n dp d) (h1 : n ≤ m) (h2 : dp ≤ dq) : Sm m dq d := ⟨h.shows, h.short, Nat.le_trans h.small h1, Nat.le_trans h.flat h2⟩
theorem Sm.none : Sm 0 0 .none := ⟨rfl, rfl, Nat.le_refl _, Nat.le_refl _⟩
theorem Sm.bool (b : Bool) : Sm 0 0 (.bool b) := ⟨rfl, rfl, Nat.le_refl _, Nat.le_refl _⟩
theorem log2_small {i : Int} (h : i.natAbs < 10 ^ 30) : i.natAbs.log2 < 100 := PySem.Flt.log2_lt_of (by decide) (Nat.lt_trans h (by decide))
theorem Sm.int {i : Int} (h : i.natAbs < 10 ^ 30) : Sm 100 0 (.int i) := by
  have l := log2_small h
  refine ⟨decide_eq_true (Nat.lt_trans l (by decide)), decide_eq_true ?_, ?_, Nat.le_refl _⟩
  · have q := int_text_length_le10 (a := i) (k := 30) (by decide) h
    show (Str.ofString (toString i)).length ≤ 40
    rw [PySem.ofString_length]
    exact Nat.le_trans q (by decide)
  · show (if i == 0 then 0 else i.natAbs.log2 + 1) ≤ 100
    split <;> omega
theorem smAll {n dp : Nat} : ∀ {ds : List PyData}, (∀ d ∈ ds, Sm n dp d) → PyData.showableAll ds = true ∧ PyData.leavesShortAll 40 ds = true ∧ PyData.weightAll ds ≤ ds.length * (n + 1) ∧ PyData.depthAll ds ≤ dp
  | [], _ => ⟨rfl, rfl, Nat.zero_le _, Nat.zero_le _⟩
  | d :: ds, h => by
    obtain ⟨a, b, c, e⟩ := smAll (ds := ds) fun x hx => h x (List.mem_cons_of_mem _ hx)
    have z := h d List.mem_cons_self
    refine ⟨?_, ?_, ?_, ?_⟩
    · show (d.showable && PyData.showableAll ds) = true
      rw [z.shows, a]
      rfl
    · show (d.leavesShort 40 && PyData.leavesShortAll 40 ds) = true
      rw [z.short, b]
      rfl
    · show d.weight + 1 + PyData.weightAll ds ≤ (ds.length + 1) * (n + 1)
      have := z.small
      rw [Nat.add_mul]
      omega
    · show max d.depth (PyData.depthAll ds) ≤ dp
      exact Nat.max_le.mpr ⟨z.flat, e⟩
theorem Sm.tup {n dp : Nat} {ds : List PyData} (h : ∀ d ∈ ds, Sm n dp d) : Sm (ds.length * (n + 1)) (dp + 1) (.tuple ds) :=
  let ⟨a, b, c, e⟩ := smAll h
  ⟨a, b, c, Nat.succ_le_succ e⟩
theorem Sm.lst {n dp : Nat} {ds : List PyData} (h : ∀ d ∈ ds, Sm n dp d) : Sm (ds.length * (n + 1)) (dp + 1) (.list ds) :=
  let ⟨a, b, c, e⟩ := smAll h
  ⟨a, b, c, Nat.succ_le_succ e⟩
theorem Sm.fits {n dp : Nat} {d : PyData} (h : Sm n dp d) (hn : n ≤ 300000) : d.shown.length ≤ sizeLine := by
  have q := PyData.shown_le 40 (by decide) d h.short
  have := h.small
  have e : sizeLine = 16777216 := by decide
  rw [e]
  omega
/-- data with dicts in it; its lists stand in the heap by themselves -/
def keyD : Key → PyData
  | .inl i => .int i
  | .inr x => .str x
mutual
inductive Dv (K : PySem.W.Frag) (H : Hp) : V → PyData → Prop
  | non : Dv K H .non .none
  | bl (b : Bool) : Dv K H (.bl b) (.bool b)
  | int (i : Int) : Dv K H (.int i) (.int i)
  | str (x : Str) : Dv K H (.str x) (.str x)
  | lst {a : Addr} {xs : List V} {ds : List PyData} : H a = some (.lst xs) → DvAll K H xs ds → Dv K H (.ref a) (.list ds)
  | tup {a : Addr} {xs : List V} {ds : List PyData} : H a = some (.tup xs) → DvAll K H xs ds → Dv K H (.ref a) (.tuple ds)
  | dic {a : Addr} {kvs : List (Key × V)} {ds : List PyData} : H a = some (.dK kvs) → DvAll K H (kvs.map (·.2)) ds → Dv K H (.ref a) (.dict ((kvs.map fun p => keyD p.1).zip ds))
inductive DvAll (K : PySem.W.Frag) (H : Hp) : List V → List PyData → Prop
  | nil : DvAll K H [] []
  | cons {v : V} {vs : List V} {d : PyData} {ds : List PyData} : Dv K H v d → DvAll K H vs ds → DvAll K H (v :: vs) (d :: ds)
end
theorem DvAll.length {K : PySem.W.Frag} {H : Hp} : ∀ {vs : List V} {ds : List PyData}, DvAll K H vs ds → vs.length = ds.length
  | _, _, .nil => rfl
  | _, _, .cons _ h => by rw [List.length_cons, List.length_cons, h.length]
theorem keys_read {P : Program} {w : World} {h : Heap} : ∀ {es : List DictEntry} {vs : List (Key × Value)}, Pairs (mixKind P w) es vs → ReadsAll h (es.map (·.key)) (vs.map fun p => keyD p.1) []
  | _, _, .nil => .nil
  | _, _, .cons (e := e) (kv := kv) hk _ r => by
    have one : Reads h e.key (keyD kv.1) [] := by
      rcases keyIs_shape hk with ⟨i, t, e1, e2⟩ | ⟨x, t, e1, e2⟩
      · rw [e1, e2]
        exact .int i t
      · rw [e1, e2]
        exact .str x t
    exact ReadsAll.cons one (keys_read r)
theorem vals_read {P : Program} {w : World} : ∀ {es : List DictEntry} {vs : List (Key × Value)}, Pairs (mixKind P w) es vs → es.map (·.val) = vs.map (·.2)
  | _, _, .nil => rfl
  | _, _, .cons _ hv r => by rw [List.map_cons, List.map_cons, hv, vals_read r]
theorem kv_vals : ∀ {kvs : List (Key × V)} {vs : List (Key × Value)}, KV kvs vs → Vals (kvs.map (·.2)) (vs.map (·.2)) ∧ (vs.map fun p => keyD p.1) = kvs.map fun p => keyD p.1
  | _, _, .nil => ⟨.nil, rfl⟩
  | _, _, .cons h r => by
    obtain ⟨a, b⟩ := kv_vals r
    refine ⟨.cons h.2 a, ?_⟩
    rw [List.map_cons, List.map_cons, b, h.1]
section
variable {X : Cx} {pins : List (Addr × Obj)} {σ : L2.St} {H : Hp} {s : Shared}
theorem Dv.reads (I : Inv X pins σ H s) (mods : ∃ mm, X.base.Ns sysModules mm) {v : V} {d : PyData} (h : Dv X.K H v d) : ∀ u : Value, RelV v u → ∃ as, Reads s.heap u d as ∧ sysModules ∉ as := by
  have free : H sysModules = none := by
    obtain ⟨mm, o, es, ep, e, _⟩ := mods
    exact (I.bs _ o e).2
  refine Dv.rec (K := X.K) (H := H) (motive_1 := fun v d _ => ∀ u : Value, RelV v u → ∃ as, Reads s.heap u d as ∧ sysModules ∉ as) (motive_2 := fun vs ds _ => ∀ us : List Value, Vals vs us → ∃ as, ReadsAll s.heap us ds as ∧ sysModules ∉ as) ?_ ?_ ?_ ?_ ?_ ?_ ?_ ?_ ?_ h
  · intro u r
    cases r
    exact ⟨_, .none, fun z => nomatch z⟩
  · intro b u r
    cases r
    exact ⟨_, .bool b, fun z => nomatch z⟩
  · intro i u r
    obtain ⟨t, rfl⟩ := r
    exact ⟨_, .int i t, fun z => nomatch z⟩
  · intro x u r
    obtain ⟨t, rfl⟩ := r
    exact ⟨_, .str x t, fun z => nomatch z⟩
  · intro a xs ds e _ ih u r
    cases r
    obtain ⟨_, its, n, rv, q⟩ := I.hok a _ e
    obtain ⟨as, ra, na⟩ := ih _ rv
    refine ⟨a :: as, .list q rfl rfl (by simpa using ra), fun z => ?_⟩
    rcases List.mem_cons.mp z with z | z
    · rw [← z, free] at e
      cases e
    · exact na z
  · intro a xs ds e _ ih u r
    cases r
    obtain ⟨_, its, rv, o, ho, hc, n, hd⟩ := I.hok a _ e
    obtain ⟨as, ra, na⟩ := ih _ rv
    exact ⟨as, .tuple ho hc hd (by simpa using ra), na⟩
  · intro a kvs ds e hall ih u r
    cases r
    obtain ⟨_, hne, vs, kv, o, es, ep, ho, ex, hd, _, prs, _⟩ := I.hok a _ e
    obtain ⟨rv, ek⟩ := kv_vals kv
    obtain ⟨as, ra, na⟩ := ih _ rv
    have len : (kvs.map fun p => keyD p.1).length = ds.length := by
      have z := hall.length
      rw [List.length_map] at z
      rw [List.length_map, z]
    refine ⟨_, .dict ho ex.1 hd (as := []) (bs := as) ?_ ?_, fun z => ?_⟩
    · rw [List.map_fst_zip (by omega), ← ek]
      exact keys_read prs
    · rw [List.map_snd_zip (by omega), vals_read prs]
      exact ra
    · rcases List.mem_cons.mp z with z | z
      · rw [← z] at hne
        exact absurd hne (by decide)
      · exact na z
  · intro us r
    cases r
    exact ⟨_, .nil, fun z => nomatch z⟩
  · intro v vs d ds _ _ ih1 ih2 us r
    cases r with
    | cons r1 r2 =>
      obtain ⟨as, ra, na⟩ := ih1 _ r1
      obtain ⟨bs, rb, nb⟩ := ih2 _ r2
      refine ⟨_, .cons ra rb, fun z => ?_⟩
      rcases List.mem_append.mp z with z | z
      · exact na z
      · exact nb z
theorem call_reprV (mods : ∃ mm, X.base.Ns sysModules mm) (quiet : Quiet X.A) (units : X.A.units + 64 < cLine) : CallR X (.builtin "repr")
    (fun xs H Q => ∃ v d n dp, xs = [v] ∧ Dv X.K H v d ∧ Sm n dp d ∧ n ≤ 300000 ∧ dp ≤ 60 ∧ Q (.str d.shown) H) := by
  intro pins s σ H xs us Q I r h
  obtain ⟨v, d, n, dp, rfl, hd, sm, hn, hdp, q⟩ := h
  obtain ⟨u, rfl, ru⟩ := vals1 r
  have fits := sm.fits hn
  have flat := sm.flat
  obtain ⟨as, rd, off⟩ := Dv.reads I mods hd _ ru
  cases hd with
  | non =>
    cases ru
    exact PySem.P.repr_of_none ⟨.str _, H, I.tok _, ⟨_, rfl⟩, q⟩
  | bl b =>
    cases ru
    exact PySem.P.repr_of_bool ⟨.str _, H, I.tok _, ⟨_, rfl⟩, q⟩
  | int i =>
    obtain ⟨t, rfl⟩ := ru
    exact PySem.P.repr_of_int (of_decide_eq_true sm.shows) ⟨.str _, H, I.tok _, ⟨_, rfl⟩, q⟩
  | str x =>
    obtain ⟨t, rfl⟩ := ru
    exact PySem.P.repr_of_str ⟨.str _, H, I.tok _, ⟨_, rfl⟩, q⟩ fits
  | _ =>
    cases ru
    exact repr_of_reads' rd sm.shows (fun _ => off) quiet (by omega) (fun _ _ e => e) (fun h' t tk more => ⟨.str _, H, I.kept more, ⟨_, rfl⟩, q⟩) fits
end
theorem Dp.noDict {K : PySem.W.Frag} {H : Hp} {v : V} {d : PyData} (h : Dp K H v d) : d.hasDict = false := by
  refine Dp.rec (K := K) (H := H) (motive_1 := fun v d _ => d.hasDict = false) (motive_2 := fun vs ds _ => PyData.hasDictAll ds = false) ?_ ?_ ?_ ?_ ?_ ?_ ?_ ?_ h
  all_goals intros
  all_goals simp_all [PyData.hasDict, PyData.hasDictAll]
section
variable {X : Cx}
theorem call_reprD (quiet : Quiet X.A) (units : X.A.units + 64 < cLine) : CallR X (.builtin "repr")
    (fun xs H Q => ∃ v d n dp, xs = [v] ∧ Dp X.K H v d ∧ Sm n dp d ∧ n ≤ 300000 ∧ dp ≤ 60 ∧ Q (.str d.shown) H) := by
  intro pins s σ H xs us Q I r h
  obtain ⟨v, d, n, dp, rfl, hd, sm, hn, hdp, q⟩ := h
  obtain ⟨u, rfl, ru⟩ := vals1 r
  have fits := sm.fits hn
  have flat := sm.flat
  obtain ⟨as, rd⟩ := Dp.reads I d v u hd ru
  cases hd with
  | non =>
    cases ru
    exact PySem.P.repr_of_none ⟨.str _, H, I.tok _, ⟨_, rfl⟩, q⟩
  | bl b =>
    cases ru
    exact PySem.P.repr_of_bool ⟨.str _, H, I.tok _, ⟨_, rfl⟩, q⟩
  | int i =>
    obtain ⟨t, rfl⟩ := ru
    exact PySem.P.repr_of_int (of_decide_eq_true sm.shows) ⟨.str _, H, I.tok _, ⟨_, rfl⟩, q⟩
  | str x =>
    obtain ⟨t, rfl⟩ := ru
    exact PySem.P.repr_of_str ⟨.str _, H, I.tok _, ⟨_, rfl⟩, q⟩ fits
  | lst h1 h2 =>
    cases ru
    exact repr_of_reads' rd sm.shows (PyData.noDict_hsm (Dp.noDict (Dp.lst h1 h2))) quiet (by omega) (fun _ _ e => e) (fun h' t tk more => ⟨.str _, H, I.kept more, ⟨_, rfl⟩, q⟩) fits
  | tup h1 h2 =>
    cases ru
    exact repr_of_reads' rd sm.shows (PyData.noDict_hsm (Dp.noDict (Dp.tup h1 h2))) quiet (by omega) (fun _ _ e => e) (fun h' t tk more => ⟨.str _, H, I.kept more, ⟨_, rfl⟩, q⟩) fits
end
/-! ### the end of a law row whose def is of the quiet kind -/
theorem quiet_law {P : Program} {w : World} {K : PySem.W.Frag} {mg mb : Str → Option Value} {k : Nat} {fa a : Addr} {fd : FuncData} {x : Str} {sp : Sp} {s₁ : Shared} {vs : List Value} {ns : List Int}
    (inK : K.In s₁.heap) (glob : s₁.heap.Ns mainGlobals mg) (blt : s₁.heap.Ns builtinsNs mb) (bltIs : ∀ y : Str, y ≠ "__name__" → mb y = bootBuiltins y) (lim : s₁.heap.NoLimit) (gens : s₁.gens = #[]) (mods : ∃ mm, s₁.heap.Ns sysModules mm)
    (here : s₁.heap.get? a = some { cls := .type "list", data := .seq vs.toArray }) (whole : IntsAre vs ns) (few : ns.length ≤ sizeLine) (room : Room k callerA)
    (F : ∀ base : Heap, K.In base → base.Ns mainGlobals mg → (∃ mm, base.Ns sysModules mm) → FnG P w K mg base k fa fd [x] sp) (bind : ∀ (s : Shared) (u : Value), BindsTo s fd ⟨[u], []⟩ [(x, u)])
    (want : ∀ H : Hp, Only H → SqL K H a (ns.map V.int) → sp [.ref a] H (fun v _ => v = .bl true) E0) :
    codeAny (model P w) callerA (.call (.ref fa) ⟨[.ref a], []⟩) (fun r s' => r = .ok (.ret (.bool true)) ∧ OldK s₁.heap s'.heap ∧ s'.os = s₁.os ∧ AllBare s'.gens) s₁ := by
  have rel := vals_ints whole
  -- H: the script alone, or nothing
  have main : ∀ H : Hp, Only H → SqL K H a (ns.map V.int) → HOk P w H s₁.heap → (∀ b u, H b = some u → b = a ∧ K.lookup b = none) →
      codeAny (model P w) callerA (.call (.ref fa) ⟨[.ref a], []⟩) (fun r s' => r = .ok (.ret (.bool true)) ∧ OldK s₁.heap s'.heap ∧ s'.os = s₁.os ∧ AllBare s'.gens) s₁ := by
    intro H only sq ok apart
    have untold : ∀ {b o}, s₁.heap.get? b = some o → (b = a → False) → H b = none := by
      intro b o e ne
      cases q : H b with
      | none => rfl
      | some u => exact (ne (apart b u q).1).elim
    have ns1 : ∀ {b m}, s₁.heap.Ns b m → (hidT s₁.heap H).Ns b m := by
      rintro b m ⟨o, es, ep, e, d, r⟩
      refine ⟨o, es, ep, hidT_get e (untold e fun z => ?_), d, r⟩
      subst z
      rw [here] at e
      cases e
      cases d
    have kIn : K.In (hidT s₁.heap H) := by
      intro b o e
      apply hidT_get (inK b o e)
      cases q : H b with
      | none => rfl
      | some u =>
        have z := (apart b u q).2
        rw [e] at z
        cases z
    have lim1 : (hidT s₁.heap H).NoLimit := by
      obtain ⟨mc, h1, h2⟩ := lim
      exact ⟨mc, ns1 h1, h2⟩
    have e0 : Env0 P w K mg (hidT s₁.heap H) callerA [] s₁ H := {
      frames := rfl, mod := ⟨kIn, ns1 glob, ⟨mb, ns1 blt, bltIs⟩, lim1⟩, bs := fun _ _ e => of_hidT e, bsz := Nat.le_of_eq (hidT_size _ _), funs := True.intro, frf := (fun _ hb => nomatch hb), hok := ok, bare := .of_eq gens }
    apply codeAny_mono ((F _ kIn (ns1 glob) (mods.elim fun mm h => ⟨mm, ns1 h⟩)).go (us := [.ref a]) (vs := [.ref a]) room rfl e0 (bind s₁ _) (.cons rfl .nil) (want H only sq))
    intro r s' hr
    match r, hr with
    | .error _, hr => exact hr.elim
    | .ok .next, hr => exact False.elim hr
    | .ok .brk, hr => exact False.elim hr
    | .ok .cont, hr => exact False.elim hr
    | .ok (.ret u), hr =>
      obtain ⟨v, H', os, bare, un, ok', rv, q⟩ := hr
      cases (show v = V.bl true from q)
      cases (show u = Value.bool true from rv)
      refine ⟨rfl, OldK.of_keep ?_, os, bare⟩
      intro b o e
      cases only b with
      | inl n => exact un.keep b o e n (fun z => nomatch z) (fun z => nomatch z)
      | inr n =>
        obtain ⟨ob, xs, z⟩ := n
        have e1 := (ok b _ z).1
        have e2 := (ok' b _ (un.frzs b ob _ z)).1
        rw [e] at e1
        cases e1
        exact e2
  have small : (ns.map V.int).length ≤ sizeLine := by rw [List.length_map]; exact few
  cases known : K.lookup a with
  | some o =>
    have e := inK a o known
    rw [here] at e
    cases e
    have sz : vs.length ≤ sizeLine := by rw [← rel.length]; exact small
    exact main (fun _ => none) (fun _ => .inl rfl) (.inr ⟨_, vs.toArray, _, known, rfl, rfl, rfl, by simpa using sz, by simpa using rel⟩) (fun _ _ z => nomatch z) (fun _ _ z => nomatch z)
  | none =>
    have at1 : ∀ {b u}, (if b = a then some (HO.frz { cls := .type "list", data := .seq vs.toArray } (.lst (ns.map V.int))) else none) = some u → b = a := by
      intro b u z
      by_cases hb : b = a
      · exact hb
      · rw [if_neg hb] at z
        cases z
    refine main (fun b => if b = a then some (.frz { cls := .type "list", data := .seq vs.toArray } (.lst (ns.map V.int))) else none) (fun b => ?_) (.inl (.inr ⟨{ cls := .type "list", data := .seq vs.toArray }, if_pos rfl⟩)) (fun b u z => ?_) (fun b u z => ?_)
    · by_cases hb : b = a
      · exact .inr ⟨_, _, if_pos hb⟩
      · exact .inl (if_neg hb)
    · have hb := at1 z
      subst hb
      have z2 := (if_pos rfl).symm.trans z
      cases z2
      exact ⟨here, small, vs, _, rel, here⟩
    · have hb := at1 z
      subst hb
      exact ⟨rfl, known⟩
theorem quiet_walk {l : PySem.W.OpenLaw} {n k : Nat} {q : Program} {loose : List Str} {XP : (Str → Option Value) → Heap → Prop} {YP : World → Heap → Prop} {d : DefRec} {K : Params → PySem.W.Frag} {sp : World → Sp} {x : Str}
    (noImport : importsNone q = true) (most : l.most = some n) (n2 : n ≤ sizeLine) (defaults : d.params.defaults = []) (room : Room k callerA) (hY : ∀ (w : World) (h : Heap), YP w h → (K w.params).In h)
    (F : ∀ (w : World) (mg : Str → Option Value) (fa : Addr) (h : Heap), (K w.params).In h → h.Ns mainGlobals mg → mg d.name = some (.ref fa) →
      ∃ fd : FuncData, (∀ (s : Shared) (u : Value), BindsTo s fd ⟨[u], []⟩ [(x, u)]) ∧ ∀ base : Heap, (K w.params).In base → base.Ns mainGlobals mg → (∃ mm, base.Ns sysModules mm) → FnG l.prog w (K w.params) mg base k fa fd [x] (sp w))
    (want : ∀ (w : World) (H : Hp) (a : Addr) (ns : List Int), ns.length ≤ n → Only H → SqL (K w.params) H a (ns.map V.int) → sp w [.ref a] H (fun v _ => v = .bl true) E0) :
    PySem.W.WalkO q loose XP YP l.row.toRowW d [] (fun f vs => PySem.call f vs) := by
  apply Att.attach_call most defaults
  intro w s₀ s₁ mg mb fa o pm cd doc a vs ns G Y ho hd hcd hmg hobj hints hlen hg
  obtain ⟨fd, hb, hF⟩ := F w mg fa _ (hY w _ Y) G.T.g hmg
  exact quiet_law (hY w _ Y) G.T.g G.T.b G.T.builtins G.T.nolimit hg ((G.T.seer noImport).mods.elim fun mm h => ⟨mm, h.1⟩) hobj hints (Nat.le_trans hlen n2) room hF hb fun H o1 s1 => want w H a ns hlen o1 s1

/-! ### a op1 b op2 c op3 .. : chains of any length -/
section
variable {X : Cx}
structure PCh (X : Cx) (ops : List CmpOp) (es : List Expr) (t : V → TE) : Prop where
  run : ∀ (pos : Pos) (pins : List (Addr × Obj)) (s : Shared) (σ : L2.St) (H : Hp) (Q : VK) (x : V) (v : Value), Inv X pins σ H s → RelV x v → t x σ H Q → wpAny (model X.prog X.w) X.A (compareChain pos v ops (evalEach es X.env)) (EP X pins σ Q) X.xe s
structure PChT (X : Cx) (ops : List CmpOp) (es : List Expr) (t : V → TE) : Prop where
  run : ∀ (pos : Pos) (pins : List (Addr × Obj)) (s : Shared) (σ : L2.St) (H : Hp) (Q : Bool → Hp → Prop) (x : V) (v : Value), Inv X pins σ H s → RelV x v → (t x σ H fun y H' => ∃ k, y = .bl k ∧ Q k H') → wpAny (model X.prog X.w) X.A (testChain pos v ops (evalEach es X.env)) (TP X pins σ Q) X.xe s
def tLast (r : R2) (tb : TE) : V → TE := fun x σ H Q => tb σ H fun y H2 => r x y H2 Q
def tLink (r : R2) (tb : TE) (rest : V → TE) : V → TE := fun x σ H Q => tb σ H fun y H2 => r x y H2 fun z H3 => ∃ k, z = .bl k ∧ (if k = true then rest y σ H3 Q else Q (.bl false) H3)
def tCh (ta : TE) (rest : V → TE) : TE := fun σ H Q => ta σ H fun x H1 => rest x σ H1 Q
theorem pch_last {op : CmpOp} {r : R2} {b : Expr} {tb : TE} (ho : OpR X (compareOp op) r) (hb : PE X b tb) : PCh X [op] [b] (tLast r tb) :=
  ⟨fun pos pins s σ H Q x v I rx h => chain_last (thn (hb.run pins s σ H _ I h) fun u s2 ⟨y, H2, I2, r2, q2⟩ => ho pins s2 σ H2 x y v u Q I2 rx r2 q2)⟩
theorem pch_link {op op' : CmpOp} {ops : List CmpOp} {r : R2} {b b' : Expr} {bs : List Expr} {tb : TE} {rest : V → TE} (ho : OpR X (compareOp op) r) (hb : PE X b tb) (hr : PCh X (op' :: ops) (b' :: bs) rest) : PCh X (op :: op' :: ops) (b :: b' :: bs) (tLink r tb rest) := by
  refine ⟨fun pos pins s σ H Q x v I rx h => ?_⟩
  refine chain_link (thn (hb.run pins s σ H _ I h) fun u s2 ⟨y, H2, I2, r2, q2⟩ => thn (ho pins s2 σ H2 x y v u _ I2 rx r2 q2) fun d s3 ⟨z, H3, I3, r3, k, e, q3⟩ => ?_)
  subst e
  cases r3
  refine wpAny_truthy_bool ?_
  cases k with
  | false => exact ite_ff ⟨.bl false, H3, I3, rfl, q3⟩
  | true => exact ite_tt (hr.run pos pins s3 σ H3 Q y u I3 r2 q3)
theorem pe_chN {op op' : CmpOp} {ops : List CmpOp} {a b b' : Expr} {bs : List Expr} {pos : Pos} {ta : TE} {rest : V → TE} (ha : PE X a ta) (hr : PCh X (op :: op' :: ops) (b :: b' :: bs) rest)
    (hm : lastMarks (op :: op' :: ops) (b :: b' :: bs) = false := by with_unfolding_all rfl) : PE X (.Compare a (op :: op' :: ops) (b :: b' :: bs) pos) (tCh ta rest) :=
  ⟨fun pins s σ H Q I h => Compare_chain (thn (ha.run pins s σ H _ I h) fun v s1 ⟨x, H1, I1, r1, q1⟩ => hr.run pos pins s1 σ H1 Q x v I1 r1 q1) hm⟩
theorem pchT_last {op : CmpOp} {r : R2} {b : Expr} {tb : TE} (ho : OpR X (compareOp op) r) (hb : PE X b tb) : PChT X [op] [b] (tLast r tb) := by
  refine ⟨fun pos pins s σ H Q x v I rx h => ?_⟩
  refine test_last (thn (hb.run pins s σ H _ I h) fun u s2 ⟨y, H2, I2, r2, q2⟩ => thn (ho pins s2 σ H2 x y v u _ I2 rx r2 q2) fun d s3 ⟨z, H3, I3, r3, k, e, q3⟩ => ?_)
  subst e
  cases r3
  exact wpAny_truthy_bool ⟨H3, I3, q3⟩
theorem pchT_link {op op' : CmpOp} {ops : List CmpOp} {r : R2} {b b' : Expr} {bs : List Expr} {tb : TE} {rest : V → TE} (ho : OpR X (compareOp op) r) (hb : PE X b tb) (hr : PChT X (op' :: ops) (b' :: bs) rest) : PChT X (op :: op' :: ops) (b :: b' :: bs) (tLink r tb rest) := by
  refine ⟨fun pos pins s σ H Q x v I rx h => ?_⟩
  refine test_link (thn (hb.run pins s σ H _ I h) fun u s2 ⟨y, H2, I2, r2, q2⟩ => thn (ho pins s2 σ H2 x y v u _ I2 rx r2 q2) fun d s3 ⟨z, H3, I3, r3, k, e, q3⟩ => ?_)
  subst e
  cases r3
  refine wpAny_truthy_bool ?_
  cases k with
  | false =>
    obtain ⟨k', e', q'⟩ := q3
    cases e'
    exact ite_ff ⟨H3, I3, q'⟩
  | true => exact ite_tt (hr.run pos pins s3 σ H3 Q y u I3 r2 q3)
theorem pt_chN {op op' : CmpOp} {ops : List CmpOp} {a b b' : Expr} {bs : List Expr} {pos : Pos} {ta : TE} {rest : V → TE} (ha : PE X a ta) (hr : PChT X (op :: op' :: ops) (b :: b' :: bs) rest)
    (hm : lastMarks (op :: op' :: ops) (b :: b' :: bs) = false := by with_unfolding_all rfl) : PT X (.Compare a (op :: op' :: ops) (b :: b' :: bs) pos) (tTest (tCh ta rest)) :=
  ⟨fun pins s σ H Q I h => isTrue_chain (thn (ha.run pins s σ H _ I h) fun v s1 ⟨x, H1, I1, r1, q1⟩ => hr.run pos pins s1 σ H1 Q x v I1 r1 q1) hm⟩
end

/-! ### t[::-1] of a tuple; xs == [], xs != [] of a list that may hold anything -/
section
open HT
variable {prog : Program} {w : World} {A : Around} {E : Value → Shared → Prop} {s : Shared}
theorem adjust_rev (n : Nat) : Builtin.Slice.sliceAdjust none none (-1) (n : Int) = ((n : Int) - 1, -1) := by
  unfold Builtin.Slice.sliceAdjust
  have h1 : (-1 : Int) < 0 := by decide
  simp only [h1, if_true]
theorem places_rev (n : Nat) : Builtin.Slice.slicePlaces ((n : Int) - 1) (-1) (-1) = n := by
  unfold Builtin.Slice.slicePlaces
  have h1 : ¬ ((-1 : Int) > 0) := by decide
  simp only [h1, if_false]
  have h2 : (-(-1) : Int) = 1 := by decide
  rw [h2, Int.ediv_one]
  split <;> omega
theorem sliceApplied_rev {sl : Addr} {vl vu vs : Value} {n : Nat} {Q : Int × Int × Nat → Shared → Prop} (hs : s.heap.IsSliceOf sl vl vu vs) (pl : IsPart vl none) (pu : IsPart vu none) (pt : IsPart vs (some (-1)))
    (h : Q ((n : Int) - 1, -1, n) s) : wpAny (model prog w) A (Builtin.Slice.sliceApplied (.ref sl) (pure (n : Int))) Q E s := by
  obtain ⟨os, hos, hcs, hds⟩ := id hs
  unfold Builtin.Slice.sliceApplied Builtin.Slice.sliceFields
  refine wpAny_bind (wpAny_bind (wpAny_field hos hds (x := vl) rfl (wpAny_bind (wpAny_field hos hds (x := vu) rfl (wpAny_bind (wpAny_field hos hds (x := vs) rfl (wpAny_pure ?_)))))))
  refine wpAny_bind (slicePart_ pt ?_)
  show wpAny _ _ (if ((-1 : Int) == 0) = true then _ else _) _ _ s
  rw [if_neg (by decide)]
  refine wpAny_bind (slicePart_ pl (wpAny_bind (slicePart_ pu (wpAny_bind (wpAny_pure ?_)))))
  show wpAny _ _ (match Builtin.Slice.sliceAdjust none none (-1) (n : Int) with | (lo, hi) => pure (lo, (-1 : Int), Builtin.Slice.slicePlaces lo hi (-1))) _ _ s
  rw [adjust_rev]
  show wpAny _ _ (pure ((n : Int) - 1, (-1 : Int), Builtin.Slice.slicePlaces ((n : Int) - 1) (-1) (-1))) _ _ s
  rw [places_rev]
  exact wpAny_pure h
theorem pick_rev (xs : Array Value) : ((List.range xs.size).filterMap fun (k : Nat) => xs[((xs.size : Int) - 1 + (k : Int) * (-1)).toNat]?) = xs.toList.reverse := by
  have e : ∀ m : Nat, m ≤ xs.size → ((List.range m).filterMap fun (k : Nat) => xs[((xs.size : Int) - 1 + (k : Int) * (-1)).toNat]?) = xs.toList.reverse.take m := by
    intro m
    induction m with
    | zero => intro _; rfl
    | succ m ih =>
      intro hm
      rw [List.range_succ, List.filterMap_append, ih (by omega), List.take_add_one]
      congr 1
      have e1 : ((xs.size : Int) - 1 + (m : Int) * (-1)).toNat = xs.size - 1 - m := by omega
      have e2 : xs.toList.reverse[m]? = xs[xs.size - 1 - m]? := by
        rw [List.getElem?_reverse (by rw [Array.length_toList]; omega), Array.length_toList, Array.getElem?_toList]
      rw [e2]
      have lt : xs.size - 1 - m < xs.size := by omega
      simp only [List.filterMap_cons, List.filterMap_nil, e1]
      rw [Array.getElem?_eq_getElem lt]
      rfl
  rw [e _ (Nat.le_refl _), List.take_of_length_le (by rw [List.length_reverse, Array.length_toList]; exact Nat.le_refl _)]
theorem getItem_tuple_rev {t sl : Addr} {items : Array Value} {vl vu vs : Value} {Q : Value → Shared → Prop} (ht : IsTup s.heap t items) (hs : s.heap.IsSliceOf sl vl vu vs) (pl : IsPart vl none) (pu : IsPart vu none) (pt : IsPart vs (some (-1)))
    (h : Q (.ref s.heap.objs.size) { s with heap := s.heap.push { cls := .type "tuple", data := .seq items.toList.reverse.toArray } })
    (hsz : items.size ≤ sizeLine) : wpAny (model prog w) A (getItem (.ref t) (.ref sl)) Q E s := by
  have htake : sizeOk (.seq items.toList.reverse.toArray) := by
    show items.toList.reverse.toArray.size ≤ sizeLine
    rw [List.size_toArray, List.length_reverse, Array.length_toList]
    omega
  obtain ⟨os, hos, hcs, hds⟩ := id hs
  have hTs : s.TypeIs (.ref sl) "slice" := ⟨os, hos, hcs⟩
  unfold getItem
  try with_reducible refine wpAny_holding ?_
  first | refine wpAny_bind (wpAny_pure ?_) | skip
  refine wpAny_bind (wpAny_sequenceKey ht.typeIs (by decide) ?_)
  refine wpAny_bind (wpAny_callSpecial?_slot (name := Str.ofString "__getitem__") ht.typeIs PyProof.Rows.slot_tuple_getitem
    (wpAny_call_entry PyProof.Rows.slot_tuple_getitem ht.typeIs entry_tuple_getitem ?_ (args_tuple_getitem _ _)))
  show wpAny _ _ (Builtin.Tuple.tupleItemsOf (.ref t) >>= _) _ _ s
  refine wpAny_bind (tupleItemsOf_ ht ?_)
  refine wpAny_bind (wpAny_typeOf hTs ?_)
  rw [if_pos (by decide)]
  refine wpAny_bind (sliceApplied_rev hs pl pu pt ?_)
  have hno : ¬ ((((items.size : Int) - 1) == 0 && (-1 : Int) == 1 && items.size == items.size) = true) := by
    intro q
    rw [Bool.and_eq_true, Bool.and_eq_true] at q
    exact absurd q.1.2 (by decide)
  show wpAny _ _ (if (((items.size : Int) - 1) == 0 && (-1 : Int) == 1 && items.size == items.size) = true then _ else _) _ _ s
  rw [if_neg hno, pick_rev]
  first
    | exact wpAny_bind (m := Builtin.Tuple.tupleExact _) (wpAny_newObj_type (wpAny_pure ⟨_, rfl, wpAny_pure h⟩) htake)
    | exact wpAny_bind (m := Builtin.Tuple.tupleExact _) (wpAny_newObj_type (wpAny_bind (wpAny_pure (wpAny_pure ⟨_, rfl, wpAny_pure h⟩))) htake)
    | exact wpAny_bind (wpAny_bind (m := Builtin.Tuple.tupleExact _) (wpAny_newObj_type (wpAny_pure (wpAny_pure ⟨_, rfl, wpAny_pure h⟩)) htake))
    | exact wpAny_bind (wpAny_bind (m := Builtin.Tuple.tupleExact _) (wpAny_newObj_type (wpAny_pure ⟨_, rfl, wpAny_pure h⟩) htake))
end
section
variable {X : Cx}
def tRevT (K : PySem.W.Frag) (te : TE) : TE := fun σ H Q => te σ H fun x H1 => ∃ a xs, x = .ref a ∧ SqT K H1 a xs ∧ ∀ p, H1 p = none → Q (.ref p) (upd H1 p (.tup xs.reverse))
theorem pe_revT {e : Expr} {te : TE} {k : Nat} {p1 p2 p3 pos : Pos} (he : PE X e te) : PE X (.Subscript e (.Slice none none (some (.UnaryOp .USub (.Constant (.int 1) k p1) p2)) p3) pos) (tRevT X.K te) := by
  refine ⟨fun pins s σ H Q I h => ?_⟩
  refine Subscript_ (thn (he.run pins s σ H _ I h) fun v s1 ⟨x, H1, I1, r1, q1⟩ => ?_)
  obtain ⟨a, xs, ex, hx, q⟩ := q1
  subst ex
  cases r1
  have hst : PO X (some (.UnaryOp .USub (.Constant (.int 1) k p1) p2)) (tPart (tUn (rU fun i => .int (-i)) (tC (.int 1)))) := po_some (pe_un un_neg pe_int)
  refine wpAny_Slice (thn (po_none.run pins s1 σ H1 (fun o H2 => o = none ∧ H2 = H1) I1 ⟨rfl, rfl⟩) fun vl s2 ⟨l, H2, I2, pl, el, e2⟩ => ?_)
  subst el e2
  refine thn (po_none.run pins s2 σ H2 (fun o H3 => o = none ∧ H3 = H2) I2 ⟨rfl, rfl⟩) fun vu s3 ⟨u, H3, I3, pu, eu, e3⟩ => ?_
  subst eu e3
  refine thn (hst.run pins s3 σ H3 (fun o H4 => o = some (-1) ∧ H4 = H3) I3 ⟨1, rfl, -1, rfl, rfl, rfl⟩) fun vs s4 ⟨o, H4, I4, ps, eo, e4⟩ => ?_
  subst eo e4
  have I5 : Inv X pins σ H4 { s4 with heap := s4.heap.push { cls := .type "slice", data := .fields #[vl, vu, vs] } } := I4.kept (t' := s4.toks) fun b ob q => Heap.get?_push_of_some _ q
  obtain ⟨its, r, ht, hz⟩ := I5.tuple hx
  have hlen := r.length
  show wpAny (model X.prog X.w) X.A (subscriptTail e (.Slice none none (some (.UnaryOp .USub (.Constant (.int 1) k p1) p2)) p3) (.ref a) (.ref s4.heap.objs.size)) (EP X pins σ Q) X.xe { s4 with heap := s4.heap.push { cls := .type "slice", data := .fields #[vl, vu, vs] } }
  refine tail_any (ops := [.ref a, .ref s4.heap.objs.size]) ht.typeIs (PyProof.Rows.slot_tuple_getitem.lookup) ?_ (by with_unfolding_all rfl)
  refine getItem_tuple_rev ht (Heap.IsSliceOf.new _ vl vu vs) pl pu ps ?_ (by rw [List.size_toArray]; omega)
  refine ⟨.ref _, _, I5.laid (t' := s4.toks) (o := .tup xs.reverse) (fun b ob q => Heap.get?_push_of_some _ q) (Nat.le_refl _) ?_, rfl, q _ (I5.hok.fresh (Nat.le_refl _))⟩
  exact ⟨by rw [List.length_reverse]; exact hz, _, r.reverse, IsTup.new _ _⟩
def rEqL (K : PySem.W.Frag) : R2 := fun x y H Q => ∃ (a b : Addr) (xs : List V), x = .ref a ∧ y = .ref b ∧ SqL K H a xs ∧ SqL K H b [] ∧ Q (.bl xs.isEmpty) H
def rNeL (K : PySem.W.Frag) : R2 := fun x y H Q => ∃ (a b : Addr) (xs : List V), x = .ref a ∧ y = .ref b ∧ SqL K H a xs ∧ SqL K H b [] ∧ Q (.bl (!xs.isEmpty)) H
theorem op_eqL (units : X.A.units < cLine) : OpR X (compareOp .Eq) (rEqL X.K) := by
  intro pins s σ H x y v u Q I rx ry h
  obtain ⟨a, b, xs, rfl, rfl, ha, hb, q⟩ := h
  cases rx
  cases ry
  obtain ⟨its, r1, p1, _⟩ := I.list ha
  obtain ⟨its2, r2, p2, _⟩ := I.list hb
  cases r2
  cases r1 with
  | nil =>
    exact SeqAt.eq_listAt (e := fun _ => true) p1.isList p2.isList rfl units (fun j h1 h2 => absurd h2 (Nat.not_lt_zero j)) ⟨.bl true, H, I, rfl, q⟩
  | cons r t =>
    exact SeqAt.eq_list_lengthsAt p1.isList p2.isList (by simp) units ⟨.bl false, H, I, rfl, q⟩
theorem op_neL (units : X.A.units < cLine) : OpR X (compareOp .NotEq) (rNeL X.K) := by
  intro pins s σ H x y v u Q I rx ry h
  obtain ⟨a, b, xs, rfl, rfl, ha, hb, q⟩ := h
  cases rx
  cases ry
  obtain ⟨its, r1, p1, _⟩ := I.list ha
  obtain ⟨its2, r2, p2, _⟩ := I.list hb
  cases r2
  cases r1 with
  | nil =>
    exact SeqAt.RcNeAt.lists (e := fun _ => true) p1.isList p2.isList rfl units (fun j h1 h2 => absurd h2 (Nat.not_lt_zero j)) X.prog X.w X.xe (EP X pins σ Q) ⟨.bl false, H, I, rfl, q⟩
  | cons r t =>
    exact SeqAt.RcNeAt.lists_lengths p1.isList p2.isList (by simp) units X.prog X.w X.xe (EP X pins σ Q) ⟨.bl true, H, I, rfl, q⟩
end

/-! ### own errors without own __init__: raised without arguments, out of a method; isinstance of a caught one -/
abbrev bmVE : List Value := [.type "ValueError", .type "Exception", .type "BaseException", .type "object"]
/-- a class that a clause or isinstance names -/
structure XcN (K : PySem.W.Frag) (mg : Str → Option Value) (x : Str) (C : Addr) : Prop where
  g : mg x = some (.ref C)
  ic : PySem.W.isClsIn K C = true
  ty : PySem.W.typeIn K (.ref C) = some (.type "type")
  ba : PySem.W.subIn K (.ref C) (.type "BaseException") = some true
/-- a class that is raised -/
structure XcR (K : PySem.W.Frag) (C : Addr) : Prop where
  xP : PySem.W.excIn K C bmVE "ValueError.__new__" = true
  kP : PySem.W.keepIn K (.ref C) = true
  ex : ExcC K C
section
variable {K : PySem.W.Frag} {mg : Str → Option Value}
theorem XcN.exm {x : Str} {D C : Addr} {b : Bool} (N : XcN K mg x C) (s : PySem.W.subIn K (.ref D) (.ref C) = some b) : PySem.W.exmOne K (.ref D) (.ref C) = some b := by
  have e1 : (PySem.W.subIn K (.ref C) (.type "BaseException") == some true) = true := by rw [N.ba] <;> rfl
  have e2 : ((PySem.W.clsIn K C).isSome && PySem.W.typeIn K (.ref C) == some (.type "type")) = true := by
    have h : (PySem.W.clsIn K C).isSome = true := N.ic
    rw [h, N.ty] <;> rfl
  show (if (PySem.W.subIn K (.ref C) (.type "BaseException") == some true) = true then (if ((PySem.W.clsIn K C).isSome && PySem.W.typeIn K (.ref C) == some (.type "type")) = true then PySem.W.subIn K (.ref D) (.ref C) else none) else none) = some b
  rw [if_pos e1, if_pos e2]
  exact s
theorem XcN.kit {x : Str} {D C : Addr} {b : Bool} (N : XcN K mg x C) (s : PySem.W.subIn K (.ref D) (.ref C) = some b) (ne : D ≠ C) : PySem.W.kitOne K (.ref D) (.ref C) = some b := by
  have e2 : ((PySem.W.clsIn K C).isSome && PySem.W.typeIn K (.ref C) == some (.type "type")) = true := by
    have h : (PySem.W.clsIn K C).isSome = true := N.ic
    rw [h, N.ty] <;> rfl
  have e0 : ¬ ((Value.ref D == Value.ref C) = true) := fun h => ne (Value.ref.inj (beq_iff_eq.mp h))
  show (if (Value.ref D == Value.ref C) = true then some true else (if ((PySem.W.clsIn K C).isSome && PySem.W.typeIn K (.ref C) == some (.type "type")) = true then PySem.W.subIn K (.ref D) (.ref C) else none)) = some b
  rw [if_neg e0, if_pos e2]
  exact s
theorem kit_self {D : Addr} : PySem.W.kitOne K (.ref D) (.ref D) = some true := by
  show (if (Value.ref D == Value.ref D) = true then some true else _) = some true
  rw [if_pos (beq_self_eq_true _)]
theorem kit_bltn {D : Addr} {T : String} {b : Bool} (m : PySem.W.kitMeta T = true) (s : PySem.W.subIn K (.ref D) (.type T) = some b) : PySem.W.kitOne K (.ref D) (.type T) = some b := by
  have e0 : ¬ ((Value.ref D == Value.type T) = true) := fun h => nomatch beq_iff_eq.mp h
  show (if (Value.ref D == Value.type T) = true then some true else (if PySem.W.kitMeta T = true then PySem.W.subIn K (.ref D) (.type T) else none)) = some b
  rw [if_neg e0, if_pos m]
  exact s
theorem exc_self {C : Addr} {bmB : List Value} {n : String} (q : PySem.W.excIn K C bmB n = true) : PySem.W.subIn K (.ref C) (.ref C) = some true := by
  unfold PySem.W.excIn at q
  split at q
  · rename_i dd cd sl ho
    split at q
    · rename_i C' bm k0 k1 k2 k3 n' k5 hm hs
      simp only [Bool.and_eq_true, beq_iff_eq] at q
      obtain ⟨⟨⟨⟨⟨rfl, _⟩, _⟩, _⟩, _⟩, _⟩ := q
      have hc : PySem.W.clsIn K C' = some cd := by
        unfold PySem.W.clsIn
        rw [ho] <;> rfl
      show PySem.W.mroIn K C' (.ref C') = some true
      unfold PySem.W.mroIn
      rw [hc]
      show (if cd.mro.isEmpty = true then none else some (cd.mro.contains (.ref C'))) = some true
      rw [hm, List.contains_cons, beq_self_eq_true]
      rfl
    · cases q
  · cases q
theorem XcR.ne {C D : Addr} (R : XcR K D) (h : PySem.W.subIn K (.ref D) (.ref C) = some false) : D ≠ C := fun e => by
  have z := exc_self R.xP
  rw [e] at z h
  rw [z] at h
  cases h
/-- no instance of any of these -/
theorem kit_none {D : Addr} (R : XcR K D) : ∀ {l : List (Str × Addr)}, (∀ p ∈ l, XcN K mg p.1 p.2 ∧ PySem.W.subIn K (.ref D) (.ref p.2) = some false) → PySem.W.kitAny K (.ref D) (l.map fun p => Value.ref p.2) = some false
  | [], _ => rfl
  | p :: l, h => kitAny_cons ((h p List.mem_cons_self).1.kit (h p List.mem_cons_self).2 (R.ne (h p List.mem_cons_self).2)) (fun _ => kit_none R fun q hq => h q (List.mem_cons_of_mem _ hq)) (fun z => nomatch z)
end
section
variable {X : Cx}
theorem pmk_own0 {C : Addr} {bmB : List Value} {B newId initId : String} {x : Str} {p pos : Pos} (F : ExcBaseFacts B newId initId bmB) (q : PySem.W.excIn X.K C bmB newId = true) (gC : X.mg x = some (.ref C)) (kC : PySem.W.keepIn X.K (.ref C) = true) (r : Raises X (.ref C)) (hg : Gl X x)
    (hdb : (x == ("__debug__" : Str)) = false := by decide) : PMk X (.Call (.Name x p) [] [] pos) (fun _ H Q => Q (.ref C) none H) := by
  intro pins s σ H Q I h
  refine wpAny_Call_Name_kw (ld_glob I hg gC ?_ hdb)
  refine PySem.W.callWith_K0 (first := []) I.kIn kC ?_
  show wpAny _ _ (call (.ref C) []) _ _ _
  obtain ⟨bm, N, nm, qn, bs, hdct, sn, sub, ab, col, dd, k0, k1, k2, k3, k5, mN, hC, hN, hni, T⟩ := exc_obj I.kIn q
  refine wpAny_call_exc_subT F T hC hN hni (fun h' e hm => ?_) (by show 0 ≤ sizeLine; decide)
  exact mk_of I hm r h (I.hok.gone hm.new)
/-- raise C() -/
theorem ps_raise0 {W : WX} {C : Addr} {x : Str} {p pos pos2 : Pos} (hc : X.calm = true) (tk : Takes X W) (N : XcN X.K X.mg x C) (R : XcR X.K C) (hg : Gl X x) (hdb : (x == ("__debug__" : Str)) = false := by decide) :
    PS X (.Raise (some (.Call (.Name x p) [] [] pos)) none pos2) (fun _ σ H => W (.ref C) none σ H) :=
  ps_raise hc tk (pmk_own0 PySem.F.excBase_ValueError R.xP N.g R.kP (raises_own N.ba N.ty) hg hdb)
variable {CX : CXT} {k : Nat} {f C : Addr} {fd : FuncData} {ps : List Str} {sp : Sp} {E : L2.St → XK} {x m : Str} {p pos apos : Pos} {e o : Expr} {es : List Expr} {ta : TE} {t : TA}
def tMethL (C : Addr) (m : Str) (sp : Sp) (E : L2.St → XK) (ta : TE) (t : TA) : TE := fun σ H Q => ta σ H fun x H1 => ∃ a dx fs, x = .ref a ∧ H1 a = some (.ins C dx fs) ∧ fs.lookup m = none ∧ t σ H1 fun vs H2 => sp (.ref a :: vs) H2 Q (E σ)
/-- o.m(), which may raise -/
theorem pe_methL0 {pl : Sem Bool} (he : PE X o ta) (c : Cls X.K C) (hm : Meth X.K C m f) (F : FnOk X.prog X.w X.K X.mg X.base CX k f fd ps sp) (hr : Room k X.A) (hb : Binds X.K fd ps []) (hx : ∀ σ, PassesAt CX X σ (E σ))
    (ht : eval (.Call (.Attribute o m apos) [] [] pos) X.env = (do
      let ov ← eval o X.env
      standAt apos.atName
      let (f, first) ← holding [ov] (getMethod ov m pl)
      callWith pos f first (backTo pos (starEach [] X.env)) (backToKw pos (keywordEach [] X.env))) := by rfl) :
    PE X (.Call (.Attribute o m apos) [] [] pos) (tMethL C m sp E ta tNil) := by
  refine ⟨fun pins s σ H Q I h => ?_⟩
  refine PySem.W.methodCall_KW (pl := pl) (thn (he.run pins s σ H _ I h) fun u s1 ⟨x, H1, I1, rx, a, dx, fs, ex, ea, l, q⟩ => ?_) ht
  subst ex
  obtain rfl : u = Value.ref a := rx
  refine getmeth_ok I1 ea c hm l ?_
  exact PySem.W.callWith_K0 (first := [.ref a]) I1.kIn hm.kp (run_fnS (us := [.ref a]) (vs := [.ref a]) F hr hb (hx σ) I1 (.cons rfl .nil) q)
/-- o.m(e, ..), which may raise -/
theorem pe_methL {pl : Sem Bool} (he : PE X o ta) (c : Cls X.K C) (hm : Meth X.K C m f) (F : FnOk X.prog X.w X.K X.mg X.base CX k f fd ps sp) (hr : Room k X.A) (hb : Binds X.K fd ps []) (hx : ∀ σ, PassesAt CX X σ (E σ)) (ha : PA X (e :: es) t)
    (hst : starEach (e :: es) X.env = (false, eval e X.env) :: starEach es X.env := by rfl) (hpl : (backTo pos (starEach es X.env)).any (·.1) = false := by rfl)
    (ht : eval (.Call (.Attribute o m apos) (e :: es) [] pos) X.env = (do
      let ov ← eval o X.env
      standAt apos.atName
      let (f, first) ← holding [ov] (getMethod ov m pl)
      callWith pos f first (backTo pos (starEach (e :: es) X.env)) (backToKw pos (keywordEach [] X.env))) := by rfl) :
    PE X (.Call (.Attribute o m apos) (e :: es) [] pos) (tMethL C m sp E ta t) := by
  refine ⟨fun pins s σ H Q I h => ?_⟩
  refine PySem.W.methodCall_KW (pl := pl) (thn (he.run pins s σ H _ I h) fun u s1 ⟨x, H1, I1, rx, a, dx, fs, ex, ea, l, q⟩ => ?_) ht
  subst ex
  obtain rfl : u = Value.ref a := rx
  refine getmeth_ok I1 ea c hm l ?_
  refine PySem.W.callWith_K (first := [.ref a]) (h₀ := X.base) I.ok.mod.kin hm.kp (thn (ha.run pos pins s1 σ H1 _ I1 q) fun us s2 ⟨vs, H2, I2, r, q2⟩ => ⟨I2.kIn, ?_⟩) hst hpl
  exact run_fnS (us := .ref a :: us) (vs := .ref a :: vs) F hr hb (hx σ) I2 (.cons rfl r) q2
/-- isinstance(e, c), e the exception (without a dict) that the suite holds -/
def rIsX (K : PySem.W.Frag) (a : Addr) (cls : Value) (d : Option Addr) : List V → Hp → VK → Prop := fun xs H Q => ∃ (D : Addr) (c : V) (cv : Value) (b : Bool), xs = [.ref a, c] ∧ cls = .ref D ∧ d = none ∧ ExcC K D ∧ ClsV c cv ∧ PySem.W.kitOne K (.ref D) cv = some b ∧ Q (.bl b) H
/-- isinstance(e, (c1, c2, ..)) -/
def rIsXT (K : PySem.W.Frag) (a : Addr) (cls : Value) (d : Option Addr) : List V → Hp → VK → Prop := fun xs H Q => ∃ (D tp : Addr) (cs : List V) (us : List Value) (b : Bool), xs = [.ref a, .ref tp] ∧ cls = .ref D ∧ d = none ∧ ExcC K D ∧ H tp = some (.tup cs) ∧ Paired ClsV cs us ∧ PySem.W.kitAny K (.ref D) us = some b ∧ Q (.bl b) H
theorem held_inst {a D : Addr} {oe : Obj} {pn pins : List (Addr × Obj)} {σ : L2.St} {H : Hp} {s : Shared} (I : Inv (X.suite a ((a, oe) :: pn)) pins σ H s) (hz : Zc (.ref D) none oe) (hf : ∃ vs, oe.data = .fields vs) : PySem.W.InstAt s.heap a oe D none := by
  obtain ⟨hget, _⟩ := I.pin (a, oe) (List.mem_append.mpr (.inl List.mem_cons_self))
  obtain ⟨vs, hv⟩ := hf
  obtain ⟨oc, od, oda, osl⟩ := oe
  obtain ⟨h1, h2⟩ := hz
  dsimp only at h1 h2 hv
  subst h1 h2 hv
  exact ⟨hget, rfl, rfl, trivial⟩
theorem call_isX {a : Addr} {cls : Value} {d : Option Addr} {oe : Obj} {pn : List (Addr × Obj)} (hz : Zc cls d oe) (hf : ∃ vs, oe.data = .fields vs) : CallR (X.suite a ((a, oe) :: pn)) (.builtin "isinstance") (rIsX X.K a cls d) := by
  intro pins s σ H xs us Q I r h
  obtain ⟨D, c, cv, b, rfl, rfl, rfl, C, hcv, e, q⟩ := h
  cases r with
  | cons rx rr =>
    cases rr with
    | cons rt rr =>
      cases rr
      cases rx
      have ec := hcv.eq rt
      subst ec
      exact PySem.W.kia_one (PySem.W.handS_kitx_exc C.hg C.hk C.hs C.hd C.ha C.hn C.ht C.hm) I.kIn (held_inst I hz hf) e (fun z => nomatch z) fun tk => ⟨.bl b, H, I.kept (t' := tk) fun _ _ z => z, rfl, q⟩
theorem call_isXT {a : Addr} {cls : Value} {d : Option Addr} {oe : Obj} {pn : List (Addr × Obj)} (hz : Zc cls d oe) (hf : ∃ vs, oe.data = .fields vs) : CallR (X.suite a ((a, oe) :: pn)) (.builtin "isinstance") (rIsXT X.K a cls d) := by
  intro pins s σ H xs us Q I r h
  obtain ⟨D, tp, cs, ws, b, rfl, rfl, rfl, C, hT, k, e, q⟩ := h
  cases r with
  | cons rx rr =>
    cases rr with
    | cons rt rr =>
      cases rr
      cases rx
      cases rt
      obtain ⟨_, its, rv, o, h1, h2, n, h3⟩ := (show ObjOk X.prog X.w H s.heap tp (.tup cs) from I.hok tp _ hT)
      have e3 := ClsV.all k rv
      subst e3
      obtain ⟨oc, od, dt, sl⟩ := o
      simp only at h2 h3
      subst h2 h3
      exact PySem.W.kia_tup (PySem.W.handS_kitx_exc C.hg C.hk C.hs C.hd C.ha C.hn C.ht C.hm) I.kIn (held_inst I hz hf) h1 e (fun z => nomatch z) fun tk => ⟨.bl b, H, I.tok tk, rfl, q⟩
end

/-! ### own errors with an own __init__ of one field: raised, asked for their class, their field read -/
section
open PySem.W
variable {prog : Program} {w : World} {A : Around} {E : Value → Shared → Prop} {K : Frag} {D x : Addr} {ox : Obj} {od : Option Obj} {s : Shared}
/-- e.__class__ of an error that has a dict (the library has it of one without) -/
theorem cls_of_dict {Q : Option Value → Shared → Prop} (C : ExcC K D) (X : K.In s.heap) (I : InstAt s.heap x ox D od) (h : Q (some (.ref D)) { s with toks := s.toks + 1 }) : wpAny (model prog w) A (getAttr? (.ref x) "__class__") Q E s := by
  have some_cls : (clsIn K D).isSome = true := by
    obtain ⟨cd, hc, _⟩ := any_some C.hd
    rw [hc]
    rfl
  have found := looks_find (M := model prog w) X I (findObj_dataE (od := od) some_cls C.ha C.hn C.ht)
  obtain ⟨hp, g, d, t, os⟩ := s
  have own := I.type (M := model prog w)
  have isE : Looks (model prog w) hp (isInstance (.ref x) (.type "BaseException")) true := own.andThen (looks_subIn X C.hs)
  have notObj : (Value.builtin "BaseException.__getattribute__" == Value.builtin "object.__getattribute__") = false := by decide +kernel
  unfold getAttr? getAttrBy? getAttrBy
  refine wpAny_bind (wpAny_mkText (wpAny_bind (wpAny_attempt (wpAny_holding (wpAny_bind (own.at (wpAny_bind ((looks_findIn X C.hg).at ?_))))))))
  show wpAny _ _ (if (onTheHeap (Value.ref D) && Value.builtin "BaseException.__getattribute__" == Value.builtin "object.__getattribute__") = true then _ else _) _ _ _
  rw [show (onTheHeap (Value.ref D) && Value.builtin "BaseException.__getattribute__" == Value.builtin "object.__getattribute__") = false by rw [notObj]; rfl, if_neg Bool.false_ne_true]
  unfold getAttrByItsOwn hookBefore
  refine wpAny_bind ?_
  rw [if_pos (show onTheHeap (Value.ref D) = true from rfl)]
  refine (looks_findIn X C.hk).at (wpAny_bind (wpAny_attempt (wpAny_holding ?_)))
  unfold callGetattribute
  rw [show (false && onTheHeap (Value.builtin "BaseException.__getattribute__")) = false from rfl, if_neg Bool.false_ne_true]
  unfold boundAndCalled
  rw [PySem.F.excAttr_ValueError.ga.bind (.ref x)]
  refine wpAny_bind (wpAny_pure ?_)
  show wpAny _ _ (call (.builtin "BaseException.__getattribute__") [.ref x, .str "__class__" t]) _ _ _
  refine wpAny_call (codeAny_call_builtin PySem.F.excAttr_ValueError.ga.plain PySem.F.entry_bexc_ga ?_)
  refine @check_slot (model prog w) _ _ ⟨hp, g, d, t + 1, os⟩ "BaseException.__getattribute__" "BaseException" "__getattribute__" (.ref x) [.str "__class__" t] [] _ (by decide +kernel) (by decide +kernel) isE (PySem.F.args_bexc_ga (.ref x) (.str "__class__" t)) ?_
  unfold Builtin.«object.__getattribute__»
  refine wpAny_bind (wpAny_of_eq (a := ((Value.ref x : Value), [Value.str "__class__" t])) (by first | rfl | (simp only [slotArgs]; rfl)) ?_)
  refine wpAny_bind (wpAny_pure (wpAny_bind (own.at (wpAny_bind (found.at ?_)))))
  show wpAny _ _ (holding [Value.builtin "object.__class__"] (call (.builtin "getset_descriptor.__get__") [.builtin "object.__class__", .ref x, .ref D]) >>= ret) _ _ _
  refine wpAny_bind (wpAny_holding (wpAny_call (class_get (s := ⟨hp, g, d, t + 1, os⟩) X I C.hm (wpAny_pure ?_))))
  show wpAny _ _ (handedOut (.ref D)) _ _ _
  rw [handedOut_of (v := .ref D) rfl]
  first
    | exact wpAny_pure (wpAny_pure h)
    | exact wpAny_pure h
    | exact wpAny_pure (wpAny_bind (wpAny_pure (wpAny_pure h)))
theorem kitx_dict (C : ExcC K D) : KitX K (.ref x) (.ref D) (fun h => InstAt h x ox D od) where
  ty := fun _ _ _ I => I.type
  it := fun _ _ X _ => by
    obtain ⟨cd, hc, _⟩ := any_some C.hd
    unfold clsIn at hc
    split at hc
    · rename_i ho
      intro A' Q' E' s' k q
      unfold isType loadHead
      exact wpAny_bind (wpAny_loadPart (k _ _ (X _ _ ho)) (wpAny_pure q))
    · cases hc
  ne := fun h tp dd its n sl X htp => by
    obtain ⟨cd, hc, _⟩ := any_some C.hd
    refine Bool.eq_false_iff.mpr fun q => ?_
    obtain rfl : D = tp := Value.ref.inj (beq_iff_eq.mp q)
    unfold clsIn at hc
    split at hc
    · rename_i ho
      have z := (X _ _ ho).symm.trans htp
      cases z
    · cases hc
  ca := fun X I k => cls_of_dict C X I k
end
/-- an error's dict, if it has one -/
def ExD (H : Hp) (d : Option Addr) : Prop := d = none ∨ ∃ dd fs, d = some dd ∧ H dd = some (.xd fs)
/-- what the written part says of a class with an own __init__ that sets the field f -/
structure XcI (K : PySem.W.Frag) (C fI : Addr) (f : Str) : Prop where
  ox : OexC K C
  iC : PySem.W.findIn K (.ref C) "__init__" = some (some (.ref fI))
  tI : PySem.W.typeIn K (.ref fI) = some (.type "function")
  no : PySem.W.findIn K (.ref C) f = some none
  ex : ExcC K C
theorem XcI.xf {K : PySem.W.Frag} {C fI : Addr} {f : Str} (I : XcI K C fI f) : XfC K C := ⟨I.ex.hg, I.ex.hk, I.ex.hs, I.ex.hd⟩
theorem oex_self {K : PySem.W.Frag} {C : Addr} (O : OexC K C) : PySem.W.subIn K (.ref C) (.ref C) = some true := by
  obtain ⟨nm, q, N, bs, bm, sn, sub, ab, col, dd, k0, k1, k2, k3, k5, h, _⟩ := O.cls
  show PySem.W.mroIn K C (.ref C) = some true
  unfold PySem.W.mroIn PySem.W.clsIn
  rw [h]
  show (if (Value.ref C :: bm).isEmpty = true then none else some ((Value.ref C :: bm).contains (.ref C))) = some true
  rw [List.contains_cons, beq_self_eq_true]
  rfl
theorem XcI.ne {K : PySem.W.Frag} {C D fI : Addr} {f : Str} (R : XcI K D fI f) (h : PySem.W.subIn K (.ref D) (.ref C) = some false) : D ≠ C := fun e => by
  have z := oex_self R.ox
  rw [e] at z h
  rw [z] at h
  cases h
theorem kit_noneI {K : PySem.W.Frag} {mg : Str → Option Value} {D fI : Addr} {f : Str} (R : XcI K D fI f) : ∀ {l : List (Str × Addr)}, (∀ p ∈ l, XcN K mg p.1 p.2 ∧ PySem.W.subIn K (.ref D) (.ref p.2) = some false) → PySem.W.kitAny K (.ref D) (l.map fun p => Value.ref p.2) = some false
  | [], _ => rfl
  | p :: l, h => kitAny_cons ((h p List.mem_cons_self).1.kit (h p List.mem_cons_self).2 (R.ne (h p List.mem_cons_self).2)) (fun _ => kit_noneI R fun q hq => h q (List.mem_cons_of_mem _ hq)) (fun z => nomatch z)
def sp_exc_init (K : PySem.W.Frag) (C : Addr) (f : Str) : Sp := fun vs H Q _ => ∃ (a : Addr) (v : V), vs = [.ref a, v] ∧ H a = some (exo a C none) ∧ ∀ dx, H dx = none → dx ≠ a → Q .non (upd (upd H dx (exd dx [(f, v)])) a (exo a C (some dx)))
section
variable {X : Cx}
/-- the args, with more said of them than is asked -/
def tMono (ta : TA) : TA := fun σ H R => ∃ S, ta σ H S ∧ ∀ vs H1, S vs H1 → R vs H1
theorem pa_mono {es : List Expr} {ta : TA} (h : PA X es ta) : PA X es (tMono ta) := ⟨fun pos pins s σ H Q I q => by
  obtain ⟨S, h1, h2⟩ := q
  refine thn (h.run pos pins s σ H S I h1) fun us s1 hh => ?_
  obtain ⟨vs, H1, I1, r, z⟩ := hh
  exact ⟨vs, H1, I1, r, h2 _ _ z⟩⟩
def tMk1 (C : Addr) (f : Str) (ta : TA) : L2.St → Hp → XK → Prop := fun σ H Q => ta σ H fun vs H1 => ∃ v, vs = [v] ∧ ∀ d, H1 d = none → Q (.ref C) (some d) (upd H1 d (.xd [(f, v)]))
theorem pmk_1 {x f : Str} {C fI : Addr} {k : Nat} {fd : FuncData} {ps : List Str} {p pos : Pos} {e : Expr} {ta : TA} (N : XcN X.K X.mg x C) (I : XcI X.K C fI f) (F1 : FnOk X.prog X.w X.K X.mg X.base CX0 k fI fd ps (sp_exc_init X.K C f)) (hr : Room (k + 1) X.A) (hb : Binds X.K fd ps [])
    (hg : Gl X x) (ha : PA X [e] ta) (hdb : (x == ("__debug__" : Str)) = false := by decide) (he : starEach (e :: []) X.env = (false, eval e X.env) :: starEach [] X.env := by rfl) (hpl : (backTo pos (starEach [] X.env)).any (·.1) = false := by rfl) :
    PMk X (.Call (.Name x p) [e] [] pos) (tMk1 C f ta) := by
  intro pins s σ H Q J h
  refine pmk_oex (dvs := []) I.ox I.iC I.tI F1 hr hb .nil (fun _ _ _ _ _ _ _ h => h.elim) hg N.g (pa_mono ha) hdb he hpl pins s σ H Q J ⟨_, h, fun vs H1 h1 => ?_⟩
  obtain ⟨v, rfl, q⟩ := h1
  refine ⟨by show 1 ≤ 1000; decide, fun a na => ⟨a, v, rfl, upd_same, fun dx nd ne => ⟨rfl, dx, [(f, v)], upd_same, ?_, ?_, ?_⟩⟩⟩
  · rw [upd_ne ne]
    exact upd_same
  · rw [upd_ne ne] at nd
    exact nd
  · have nd1 : H1 dx = none := by
      rw [upd_ne ne] at nd
      exact nd
    have z := q dx nd1
    have e2 : upd H1 dx (.xd [(f, v)]) = upd (del (upd (upd (upd H1 a (exo a C none)) dx (exd dx [(f, v)])) a (exo a C (some dx))) a) dx (.xd [(f, v)]) := by
      funext b
      by_cases hb : b = dx
      · rw [hb, upd_same, upd_same]
      · rw [upd_ne hb, upd_ne hb]
        by_cases ha : b = a
        · rw [ha, del_same, na]
        · rw [del_ne ha, upd_ne ha, upd_ne hb, upd_ne ha]
    rw [← e2]
    exact z
/-- raise C(e) -/
theorem ps_raise1 {W : WX} {x f : Str} {C fI : Addr} {k : Nat} {fd : FuncData} {ps : List Str} {p pos pos2 : Pos} {e : Expr} {ta : TA} (hc : X.calm = true) (tk : Takes X W) (N : XcN X.K X.mg x C) (I : XcI X.K C fI f) (F1 : FnOk X.prog X.w X.K X.mg X.base CX0 k fI fd ps (sp_exc_init X.K C f)) (hr : Room (k + 1) X.A) (hb : Binds X.K fd ps [])
    (hg : Gl X x) (ha : PA X [e] ta) (hdb : (x == ("__debug__" : Str)) = false := by decide) (he : starEach (e :: []) X.env = (false, eval e X.env) :: starEach [] X.env := by rfl) (hpl : (backTo pos (starEach [] X.env)).any (·.1) = false := by rfl) :
    PS X (.Raise (some (.Call (.Name x p) [e] [] pos)) none pos2) (fun _ σ H => tMk1 C f ta σ H fun cls d H' => W cls d σ H') := ps_raise hc tk (pmk_1 N I F1 hr hb hg ha hdb he hpl)
/-- isinstance(e, c), e the error that the suite holds, with a dict or without -/
def rIsY (K : PySem.W.Frag) (a : Addr) (cls : Value) (d : Option Addr) : List V → Hp → VK → Prop := fun xs H Q => ∃ (D : Addr) (c : V) (cv : Value) (b : Bool), xs = [.ref a, c] ∧ cls = .ref D ∧ ExD H d ∧ ExcC K D ∧ ClsV c cv ∧ PySem.W.kitOne K (.ref D) cv = some b ∧ Q (.bl b) H
def rIsYT (K : PySem.W.Frag) (a : Addr) (cls : Value) (d : Option Addr) : List V → Hp → VK → Prop := fun xs H Q => ∃ (D tp : Addr) (cs : List V) (us : List Value) (b : Bool), xs = [.ref a, .ref tp] ∧ cls = .ref D ∧ ExD H d ∧ ExcC K D ∧ H tp = some (.tup cs) ∧ Paired ClsV cs us ∧ PySem.W.kitAny K (.ref D) us = some b ∧ Q (.bl b) H
theorem held_instD {a D : Addr} {oe : Obj} {d : Option Addr} {pn pins : List (Addr × Obj)} {σ : L2.St} {H : Hp} {s : Shared} (I : Inv (X.suite a ((a, oe) :: pn)) pins σ H s) (hz : Zc (.ref D) d oe) (hf : ∃ vs, oe.data = .fields vs) (hd : ExD H d) : ∃ od, PySem.W.InstAt s.heap a oe D od := by
  rcases hd with rfl | ⟨dd, fs, rfl, e⟩
  · exact ⟨none, held_inst I hz hf⟩
  · obtain ⟨hget, _⟩ := I.pin (a, oe) (List.mem_append.mpr (.inl List.mem_cons_self))
    obtain ⟨vs, hv⟩ := hf
    obtain ⟨mA, hns, _⟩ := (show ObjOk X.prog X.w H s.heap dd (.xd fs) from I.hok dd _ e)
    obtain ⟨od, ho, _⟩ := lookIn_ns hns
    exact ⟨some od, hget, hz.1, by unfold PySem.W.notCls; rw [hv] <;> rfl, by rw [hz.2]; exact ho⟩
theorem call_isY {a : Addr} {cls : Value} {d : Option Addr} {oe : Obj} {pn : List (Addr × Obj)} (hz : Zc cls d oe) (hf : ∃ vs, oe.data = .fields vs) : CallR (X.suite a ((a, oe) :: pn)) (.builtin "isinstance") (rIsY X.K a cls d) := by
  intro pins s σ H xs us Q I r h
  obtain ⟨D, c, cv, b, rfl, rfl, hd, C, hcv, e, q⟩ := h
  obtain ⟨od, J⟩ := held_instD I hz hf hd
  cases r with
  | cons rx rr =>
    cases rr with
    | cons rt rr =>
      cases rr
      cases rx
      have ec := hcv.eq rt
      subst ec
      exact PySem.W.kia_one (kitx_dict C) I.kIn J e (fun z => nomatch z) fun tk => ⟨.bl b, H, I.kept (t' := tk) fun _ _ z => z, rfl, q⟩
theorem call_isYT {a : Addr} {cls : Value} {d : Option Addr} {oe : Obj} {pn : List (Addr × Obj)} (hz : Zc cls d oe) (hf : ∃ vs, oe.data = .fields vs) : CallR (X.suite a ((a, oe) :: pn)) (.builtin "isinstance") (rIsYT X.K a cls d) := by
  intro pins s σ H xs us Q I r h
  obtain ⟨D, tp, cs, ws, b, rfl, rfl, hd, C, hT, k, e, q⟩ := h
  obtain ⟨od, J⟩ := held_instD I hz hf hd
  cases r with
  | cons rx rr =>
    cases rr with
    | cons rt rr =>
      cases rr
      cases rx
      cases rt
      obtain ⟨_, its, rv, o, h1, h2, n, h3⟩ := (show ObjOk X.prog X.w H s.heap tp (.tup cs) from I.hok tp _ hT)
      have e3 := ClsV.all k rv
      subst e3
      obtain ⟨oc, oD, dt, sl⟩ := o
      simp only at h2 h3
      subst h2 h3
      exact PySem.W.kia_tup (kitx_dict C) I.kIn J h1 e (fun z => nomatch z) fun tk => ⟨.bl b, H, I.tok tk, rfl, q⟩
end

def topS (i : Nat) : Stmt := PySem.Challenge.pw_fewspans_k19_not_generated_raised.main.body.getD i (.Pass ⟨0, 0, 0, 0⟩)
abbrev s_contains : Stmt := topS 8
abbrev N_contains : List Str := ["outer", "inner"]
theorem sc_contains : FnScope N_contains ["outer", "inner"] (defScope s_contains) := ⟨rfl, rfl, rfl, by decide +kernel, rfl, by decide +kernel, by decide +kernel⟩
abbrev s_pieces_inside : Stmt := topS 10
abbrev N_pieces_inside : List Str := ["pieces", "target", "piece"]
theorem sc_pieces_inside : FnScope N_pieces_inside ["pieces", "target"] (defScope s_pieces_inside) := ⟨rfl, rfl, rfl, by decide +kernel, rfl, by decide +kernel, by decide +kernel⟩
abbrev s_first_gap : Stmt := topS 11
abbrev N_first_gap : List Str := ["pieces", "target", "position", "last", "low", "high"]
theorem sc_first_gap : FnScope N_first_gap ["pieces", "target"] (defScope s_first_gap) := ⟨rfl, rfl, rfl, by decide +kernel, rfl, by decide +kernel, by decide +kernel⟩
abbrev s_find_missing : Stmt := topS 12
abbrev N_find_missing : List Str := ["targets", "pieces", "target", "gap"]
theorem sc_find_missing : FnScope N_find_missing ["targets", "pieces"] (defScope s_find_missing) := ⟨rfl, rfl, rfl, by decide +kernel, rfl, by decide +kernel, by decide +kernel⟩
abbrev s_without_item : Stmt := topS 13
abbrev N_without_item : List Str := ["items", "item", "other"]
theorem sc_without_item : FnScope N_without_item ["items", "item"] (defScope s_without_item) := ⟨rfl, rfl, rfl, by decide +kernel, rfl, by decide +kernel, by decide +kernel⟩
abbrev s_require_generated : Stmt := topS 14
abbrev N_require_generated : List Str := ["targets", "pieces", "missing"]
theorem sc_require_generated : FnScope N_require_generated ["targets", "pieces"] (defScope s_require_generated) := ⟨rfl, rfl, rfl, by decide +kernel, rfl, by decide +kernel, by decide +kernel⟩
abbrev s_can_spare : Stmt := topS 15
abbrev N_can_spare : List Str := ["targets", "pieces", "piece"]
theorem sc_can_spare : FnScope N_can_spare ["targets", "pieces", "piece"] (defScope s_can_spare) := ⟨rfl, rfl, rfl, by decide +kernel, rfl, by decide +kernel, by decide +kernel⟩
abbrev s_removable_pieces : Stmt := topS 16
abbrev N_removable_pieces : List Str := ["targets", "pieces", "piece"]
theorem sc_removable_pieces : FnScope N_removable_pieces ["targets", "pieces"] (defScope s_removable_pieces) := ⟨rfl, rfl, rfl, by decide +kernel, rfl, by decide +kernel, by decide +kernel⟩
abbrev s_prune_pieces : Stmt := topS 17
abbrev N_prune_pieces : List Str := ["targets", "pieces", "left", "piece"]
theorem sc_prune_pieces : FnScope N_prune_pieces ["targets", "pieces"] (defScope s_prune_pieces) := ⟨rfl, rfl, rfl, by decide +kernel, rfl, by decide +kernel, by decide +kernel⟩
abbrev s_law_deck : Stmt := topS 19
abbrev N_law_deck : List Str := ["_law_script", "_law_cell"]
theorem sc_law_deck : FnScope N_law_deck ["_law_script"] (defScope s_law_deck) := ⟨rfl, rfl, rfl, by decide +kernel, rfl, by decide +kernel, by decide +kernel⟩
abbrev s_law_draw : Stmt := topS 20
abbrev N_law_draw : List Str := ["_law_deck_here", "_law_bound", "_law_place", "_law_cell", "_law_mixed"]
theorem sc_law_draw : FnScope N_law_draw ["_law_deck_here", "_law_bound"] (defScope s_law_draw) := ⟨rfl, rfl, rfl, by decide +kernel, rfl, by decide +kernel, by decide +kernel⟩
abbrev s_law_line : Stmt := topS 21
abbrev N_law_line : List Str := ["_law_deck_here", "_law_count", "_law_line_here", "_law_k"]
theorem sc_law_line : FnScope N_law_line ["_law_deck_here", "_law_count"] (defScope s_law_line) := ⟨rfl, rfl, rfl, by decide +kernel, rfl, by decide +kernel, by decide +kernel⟩
abbrev s_law_interval : Stmt := topS 22
abbrev N_law_interval : List Str := ["_law_deck_here", "_law_line_here", "_law_first", "_law_second"]
theorem sc_law_interval : FnScope N_law_interval ["_law_deck_here", "_law_line_here"] (defScope s_law_interval) := ⟨rfl, rfl, rfl, by decide +kernel, rfl, by decide +kernel, by decide +kernel⟩
abbrev s_law_intervals : Stmt := topS 23
abbrev N_law_intervals : List Str := ["_law_deck_here", "_law_line_here", "_law_most", "_law_items", "_law_k"]
theorem sc_law_intervals : FnScope N_law_intervals ["_law_deck_here", "_law_line_here", "_law_most"] (defScope s_law_intervals) := ⟨rfl, rfl, rfl, by decide +kernel, rfl, by decide +kernel, by decide +kernel⟩
abbrev s_law_gap : Stmt := topS 24
abbrev N_law_gap : List Str := ["_law_pieces", "_law_target", "_law_position", "_law_ends", "_law_start", "_law_end"]
theorem sc_law_gap : FnScope N_law_gap ["_law_pieces", "_law_target"] (defScope s_law_gap) := ⟨rfl, rfl, rfl, by decide +kernel, rfl, by decide +kernel, by decide +kernel⟩
abbrev s_law_missing : Stmt := topS 25
abbrev N_law_missing : List Str := ["_law_targets", "_law_pieces", "_law_target", "_law_position"]
theorem sc_law_missing : FnScope N_law_missing ["_law_targets", "_law_pieces"] (defScope s_law_missing) := ⟨rfl, rfl, rfl, by decide +kernel, rfl, by decide +kernel, by decide +kernel⟩
abbrev s_law_outcome : Stmt := topS 26
abbrev N_law_outcome : List Str := ["_law_way", "_law_targets", "_law_pieces", "_law_outcome_here", "e"]
theorem sc_law_outcome : FnScope N_law_outcome ["_law_way", "_law_targets", "_law_pieces"] (defScope s_law_outcome) := ⟨rfl, rfl, rfl, by decide +kernel, rfl, by decide +kernel, by decide +kernel⟩
abbrev s_law : Stmt := topS 27
abbrev N_law : List Str := ["_law_script", "_law_deck_here", "_law_turn", "_law_line_here", "_law_targets", "_law_pieces", "_law_short", "_law_low", "_law_high", "_law_some", "_law_demand", "_law_due", "_law_shown", "_law_way"]
theorem sc_law : FnScope N_law ["_law_script"] (defScope s_law) := ⟨rfl, rfl, rfl, by decide +kernel, rfl, by decide +kernel, by decide +kernel⟩
abbrev s_NotGenerated_init : Stmt := inClass (topS 3) 0
abbrev N_NotGenerated_init : List Str := ["self", "demand"]
theorem sc_NotGenerated_init : FnScope N_NotGenerated_init ["self", "demand"] (defScope s_NotGenerated_init) := ⟨rfl, rfl, rfl, by decide +kernel, rfl, by decide +kernel, by decide +kernel⟩
/-! ### the deck and its draws -/
structure Dk (H : Hp) (d c : Addr) (n : Int) : Prop where
  top : H d = some (.lst [.ref c, .int n])
  cells : ∃ xs : List Int, H c = some (.lst (xs.map V.int)) ∧ xs.length ≤ 63 ∧ ∀ x ∈ xs, 0 ≤ x
theorem Dk.ne {H : Hp} {d c : Addr} {n : Int} (h : Dk H d c n) : c ≠ d := by
  obtain ⟨xs, e, _⟩ := h.cells
  intro z
  subst z
  have q := e.symm.trans h.top
  cases xs with
  | nil => cases q
  | cons x r => cases q
/-- nothing but the deck has changed -/
def Kp (d c : Addr) (H H' : Hp) : Prop := ∀ b o, b ≠ d → b ≠ c → H b = some o → H' b = some o
theorem Kp.trans {d c : Addr} {H H1 H2 : Hp} (h1 : Kp d c H H1) (h2 : Kp d c H1 H2) : Kp d c H H2 := fun b o n1 n2 e => h2 b o n1 n2 (h1 b o n1 n2 e)
theorem Kp.same {d c : Addr} {H H1 : Hp} (h : Same H H1) : Kp d c H H1 := fun b o _ _ e => h b o e
theorem Kp.none {d c : Addr} {H H' : Hp} (k : Kp d c H H') {n m : Int} (h : Dk H d c n) (h' : Dk H' d c m) {t : Addr} (e : H' t = none) : H t = none := by
  by_cases e1 : t = d
  · rw [e1, h'.top] at e
    cases e
  · by_cases e2 : t = c
    · obtain ⟨xs, z, _⟩ := h'.cells
      rw [e2, z] at e
      cases e
    · cases q : H t with
      | none => rfl
      | some o =>
        rw [k t o e1 e2 q] at e
        cases e
theorem Dk.kept {H H' : Hp} {d c : Addr} {n : Int} (h : Dk H d c n) (s : Same H H') : Dk H' d c n :=
  let ⟨xs, e, a⟩ := h.cells
  ⟨s _ _ h.top, xs, s _ _ e, a⟩
theorem Dk.eq {H : Hp} {d c : Addr} {n m : Int} (h : Dk H d c n) (e : n = m) : Dk H d c m := e ▸ h
def sp_law_deck (K : PySem.W.Frag) : Sp := fun vs H Q _ => ∃ (a : Addr) (ns : List Int), vs = [.ref a] ∧ SqL K H a (ns.map V.int) ∧ ns.length ≤ 63 ∧
  ∀ H' d c, Same H H' → H d = none → H c = none → Dk H' d c 0 → Q (.ref d) H'
def sp_law_draw : Sp := fun vs H Q _ => ∃ (d c : Addr) (n lim : Int), vs = [.ref d, .int lim] ∧ Dk H d c n ∧ 0 ≤ n ∧ n < 1000000 ∧ 0 < lim ∧ lim < 2 ^ 63 ∧
  ∀ H' r, Kp d c H H' → Dk H' d c (n + 1) → 0 ≤ r → r < lim → Q (.int r) H'
theorem same_new {H : Hp} {p : Addr} {o : HO} (h : H p = none) : Same H (upd H p o) := fun b x e => by
  rw [upd_ne (ne_of_none e h)]
  exact e
theorem cutTo (xs : List V) (j : Nat) : cutV xs none (some (j : Int)) = xs.take j := by
  unfold cutV
  rw [HT.sIx_none, show HT.sIx xs.length xs.length (some (j : Int)) = min j xs.length from HT.sIx_nat xs.length xs.length j]
  rw [Nat.sub_zero, List.drop_zero]
  rcases Nat.le_total j xs.length with h | h
  · rw [Nat.min_eq_left h]
  · rw [Nat.min_eq_right h, List.take_length, List.take_of_length_le h]
section
structure Tx (K : PySem.W.Frag) (mg : Str → Option Value) (f_contains f_pieces_inside f_first_gap f_find_missing f_without_item f_require_generated f_can_spare f_removable_pieces f_prune_pieces f_law_deck f_law_draw f_law_line f_law_interval f_law_intervals f_law_gap f_law_missing f_law_outcome f_law f_NotGenerated_init X_NotGenerated X_SpanError X_BadInterval X_BadPieces X_BadTargets X_TooWide : Addr) (d_contains d_pieces_inside d_first_gap d_find_missing d_without_item d_require_generated d_can_spare d_removable_pieces d_prune_pieces d_law_deck d_law_draw d_law_line d_law_interval d_law_intervals d_law_gap d_law_missing d_law_outcome d_law d_NotGenerated_init : FuncData) : Prop where
  F_contains : Fun K "contains" "contains" s_contains f_contains d_contains
  b_contains : Binds K d_contains ["outer", "inner"] []
  g_contains : mg "contains" = some (.ref f_contains)
  F_pieces_inside : Fun K "pieces_inside" "pieces_inside" s_pieces_inside f_pieces_inside d_pieces_inside
  b_pieces_inside : Binds K d_pieces_inside ["pieces", "target"] []
  g_pieces_inside : mg "pieces_inside" = some (.ref f_pieces_inside)
  F_first_gap : Fun K "first_gap" "first_gap" s_first_gap f_first_gap d_first_gap
  b_first_gap : Binds K d_first_gap ["pieces", "target"] []
  g_first_gap : mg "first_gap" = some (.ref f_first_gap)
  F_find_missing : Fun K "find_missing" "find_missing" s_find_missing f_find_missing d_find_missing
  b_find_missing : Binds K d_find_missing ["targets", "pieces"] []
  g_find_missing : mg "find_missing" = some (.ref f_find_missing)
  F_without_item : Fun K "without_item" "without_item" s_without_item f_without_item d_without_item
  b_without_item : Binds K d_without_item ["items", "item"] []
  g_without_item : mg "without_item" = some (.ref f_without_item)
  F_require_generated : Fun K "require_generated" "require_generated" s_require_generated f_require_generated d_require_generated
  b_require_generated : Binds K d_require_generated ["targets", "pieces"] []
  g_require_generated : mg "require_generated" = some (.ref f_require_generated)
  F_can_spare : Fun K "can_spare" "can_spare" s_can_spare f_can_spare d_can_spare
  b_can_spare : Binds K d_can_spare ["targets", "pieces", "piece"] []
  g_can_spare : mg "can_spare" = some (.ref f_can_spare)
  F_removable_pieces : Fun K "removable_pieces" "removable_pieces" s_removable_pieces f_removable_pieces d_removable_pieces
  b_removable_pieces : Binds K d_removable_pieces ["targets", "pieces"] []
  g_removable_pieces : mg "removable_pieces" = some (.ref f_removable_pieces)
  F_prune_pieces : Fun K "prune_pieces" "prune_pieces" s_prune_pieces f_prune_pieces d_prune_pieces
  b_prune_pieces : Binds K d_prune_pieces ["targets", "pieces"] []
  g_prune_pieces : mg "prune_pieces" = some (.ref f_prune_pieces)
  F_law_deck : Fun K "_law_deck" "_law_deck" s_law_deck f_law_deck d_law_deck
  b_law_deck : Binds K d_law_deck ["_law_script"] []
  g_law_deck : mg "_law_deck" = some (.ref f_law_deck)
  F_law_draw : Fun K "_law_draw" "_law_draw" s_law_draw f_law_draw d_law_draw
  b_law_draw : Binds K d_law_draw ["_law_deck_here", "_law_bound"] []
  g_law_draw : mg "_law_draw" = some (.ref f_law_draw)
  F_law_line : Fun K "_law_line" "_law_line" s_law_line f_law_line d_law_line
  b_law_line : Binds K d_law_line ["_law_deck_here", "_law_count"] []
  g_law_line : mg "_law_line" = some (.ref f_law_line)
  F_law_interval : Fun K "_law_interval" "_law_interval" s_law_interval f_law_interval d_law_interval
  b_law_interval : Binds K d_law_interval ["_law_deck_here", "_law_line_here"] []
  g_law_interval : mg "_law_interval" = some (.ref f_law_interval)
  F_law_intervals : Fun K "_law_intervals" "_law_intervals" s_law_intervals f_law_intervals d_law_intervals
  b_law_intervals : Binds K d_law_intervals ["_law_deck_here", "_law_line_here", "_law_most"] []
  g_law_intervals : mg "_law_intervals" = some (.ref f_law_intervals)
  F_law_gap : Fun K "_law_gap" "_law_gap" s_law_gap f_law_gap d_law_gap
  b_law_gap : Binds K d_law_gap ["_law_pieces", "_law_target"] []
  g_law_gap : mg "_law_gap" = some (.ref f_law_gap)
  F_law_missing : Fun K "_law_missing" "_law_missing" s_law_missing f_law_missing d_law_missing
  b_law_missing : Binds K d_law_missing ["_law_targets", "_law_pieces"] []
  g_law_missing : mg "_law_missing" = some (.ref f_law_missing)
  F_law_outcome : Fun K "_law_outcome" "_law_outcome" s_law_outcome f_law_outcome d_law_outcome
  b_law_outcome : Binds K d_law_outcome ["_law_way", "_law_targets", "_law_pieces"] []
  g_law_outcome : mg "_law_outcome" = some (.ref f_law_outcome)
  F_law : Fun K "law" "law" s_law f_law d_law
  b_law : Binds K d_law ["_law_script"] []
  g_law : mg "law" = some (.ref f_law)
  F_NotGenerated_init : Fun K "__init__" "NotGenerated.__init__" s_NotGenerated_init f_NotGenerated_init d_NotGenerated_init
  b_NotGenerated_init : Binds K d_NotGenerated_init ["self", "demand"] []
  z_LookupError : mg "LookupError" = none
  z_ValueError : mg "ValueError" = none
  z_abs : mg "abs" = none
  z_isinstance : mg "isinstance" = none
  z_len : mg "len" = none
  z_max : mg "max" = none
  z_min : mg "min" = none
  z_range : mg "range" = none
  z_repr : mg "repr" = none
  z_set : mg "set" = none
  z_sorted : mg "sorted" = none
  z_tuple : mg "tuple" = none
  xn_NotGenerated : XcN K mg "NotGenerated" X_NotGenerated
  xn_SpanError : XcN K mg "SpanError" X_SpanError
  xn_BadInterval : XcN K mg "BadInterval" X_BadInterval
  xn_BadPieces : XcN K mg "BadPieces" X_BadPieces
  xn_BadTargets : XcN K mg "BadTargets" X_BadTargets
  xn_TooWide : XcN K mg "TooWide" X_TooWide
  xi_NotGenerated : XcI K X_NotGenerated f_NotGenerated_init "demand"
  xv_NotGenerated : PySem.W.subIn K (.ref X_NotGenerated) (.type "ValueError") = some true
  xl_NotGenerated : PySem.W.subIn K (.ref X_NotGenerated) (.type "LookupError") = some false
  xs_NotGenerated_SpanError : PySem.W.subIn K (.ref X_NotGenerated) (.ref X_SpanError) = some true
  xs_NotGenerated_BadInterval : PySem.W.subIn K (.ref X_NotGenerated) (.ref X_BadInterval) = some false
  xs_NotGenerated_BadPieces : PySem.W.subIn K (.ref X_NotGenerated) (.ref X_BadPieces) = some false
  xs_NotGenerated_BadTargets : PySem.W.subIn K (.ref X_NotGenerated) (.ref X_BadTargets) = some false
  xs_NotGenerated_TooWide : PySem.W.subIn K (.ref X_NotGenerated) (.ref X_TooWide) = some false
variable {P : Program} {w : World} {K : PySem.W.Frag} {mg : Str → Option Value} {base : Heap} {f_contains f_pieces_inside f_first_gap f_find_missing f_without_item f_require_generated f_can_spare f_removable_pieces f_prune_pieces f_law_deck f_law_draw f_law_line f_law_interval f_law_intervals f_law_gap f_law_missing f_law_outcome f_law f_NotGenerated_init X_NotGenerated X_SpanError X_BadInterval X_BadPieces X_BadTargets X_TooWide : Addr} {d_contains d_pieces_inside d_first_gap d_find_missing d_without_item d_require_generated d_can_spare d_removable_pieces d_prune_pieces d_law_deck d_law_draw d_law_line d_law_interval d_law_intervals d_law_gap d_law_missing d_law_outcome d_law d_NotGenerated_init : FuncData}
abbrev TxA (K : PySem.W.Frag) (mg : Str → Option Value) (f_contains f_pieces_inside f_first_gap f_find_missing f_without_item f_require_generated f_can_spare f_removable_pieces f_prune_pieces f_law_deck f_law_draw f_law_line f_law_interval f_law_intervals f_law_gap f_law_missing f_law_outcome f_law f_NotGenerated_init X_NotGenerated X_SpanError X_BadInterval X_BadPieces X_BadTargets X_TooWide : Addr) (d_contains d_pieces_inside d_first_gap d_find_missing d_without_item d_require_generated d_can_spare d_removable_pieces d_prune_pieces d_law_deck d_law_draw d_law_line d_law_interval d_law_intervals d_law_gap d_law_missing d_law_outcome d_law d_NotGenerated_init : FuncData) := Tx K mg f_contains f_pieces_inside f_first_gap f_find_missing f_without_item f_require_generated f_can_spare f_removable_pieces f_prune_pieces f_law_deck f_law_draw f_law_line f_law_interval f_law_intervals f_law_gap f_law_missing f_law_outcome f_law f_NotGenerated_init X_NotGenerated X_SpanError X_BadInterval X_BadPieces X_BadTargets X_TooWide d_contains d_pieces_inside d_first_gap d_find_missing d_without_item d_require_generated d_can_spare d_removable_pieces d_prune_pieces d_law_deck d_law_draw d_law_line d_law_interval d_law_intervals d_law_gap d_law_missing d_law_outcome d_law d_NotGenerated_init 
theorem ok_law_deck (T : Tx K mg f_contains f_pieces_inside f_first_gap f_find_missing f_without_item f_require_generated f_can_spare f_removable_pieces f_prune_pieces f_law_deck f_law_draw f_law_line f_law_interval f_law_intervals f_law_gap f_law_missing f_law_outcome f_law f_NotGenerated_init X_NotGenerated X_SpanError X_BadInterval X_BadPieces X_BadTargets X_TooWide d_contains d_pieces_inside d_first_gap d_find_missing d_without_item d_require_generated d_can_spare d_removable_pieces d_prune_pieces d_law_deck d_law_draw d_law_line d_law_interval d_law_intervals d_law_gap d_law_missing d_law_outcome d_law d_NotGenerated_init) : FnOk P w K mg base CX0 1 f_law_deck d_law_deck ["_law_script"] (sp_law_deck K) := by
  refine T.F_law_deck.ok sc_law_deck (fun vs H Q E h => ?_) (fun cdv A outer s H vs Q E hr h => ?_)
  · obtain ⟨a, ns, rfl, _⟩ := h
    rfl
  · obtain ⟨a, ns0, rfl, hS, hlen, q⟩ := h
    refine ⟨_, (pss_one (ps_ret (pe_lst (pa_cons (pe_lc (own := [("_law_cell", 1)]) (g := (gName 1)) (tt := tYes) (by rfl) sc_law_deck.nd (pi_list (pe_slice sl_list (pv 0) po_none (po_some pe_int))) (blkOk_by (own := [("_law_cell", 1)]) (N := N_law_deck) (sc := defScope s_law_deck) (by decide +kernel)) (fun _ _ _ _ _ => (pg_name (i := 1) sc_law_deck.nd rfl (Or.inl rfl))) (fun _ _ _ _ _ => pts_nil) (fun _ _ _ _ _ => (pe_callB call_abs (by rfl) T.z_abs (by decide +kernel) (pa_cons (pv 1) pa_nil)))) (pa_cons pe_int pa_nil))))), ?_⟩
    refine ⟨.ref a, rfl, 60, rfl, a, ns0.map V.int, rfl, hS, fun p np => ?_⟩
    rw [show cutV (ns0.map V.int) none (some 60) = (ns0.take 60).map V.int by rw [List.map_take]; exact cutTo _ 60]
    have hlen : (ns0.take 60).length ≤ 63 := Nat.le_trans (List.length_take_le' _ _) hlen
    generalize ns0.take 60 = ns at *
    have s1 : Same H (upd H p (.lst (ns.map V.int))) := same_new np
    refine ⟨p, rfl, ⟨_, SqL.of upd_same⟩, fun D nD => ?_⟩
    have nDp : D ≠ p := fun e => by
      rw [e, upd_same] at nD
      cases nD
    have nD0 : H D = none := by
      rw [upd_ne nDp] at nD
      exact nD
    refine lc_list (K := K) (a := p) (xs := ns.map V.int) (fun i H' => Same (upd H p (.lst (ns.map V.int))) H' ∧ H' D = some (.lst (((ns.take i).map fun (x : Int) => if x < 0 then -x else x).map V.int))) ⟨same_new nD, upd_same⟩ (fun i H' _ h => h.1.seq (SqL.of upd_same)) ?_ ?_
    · rintro i x H' hi ⟨sm, eD⟩
      rw [List.getElem?_map] at hi
      obtain ⟨n, en, rfl⟩ := Option.map_eq_some_iff.mp hi
      refine ⟨rfl, .int n, rfl, n, rfl, _, eD, ?_, ?_, ?_⟩
      · have : (List.take i ns).length ≤ ns.length := List.length_take_le' i ns
        simp only [List.length_map]
        exact small1000 (by omega)
      · intro b o e
        have nb : b ≠ D := ne_of_none e nD
        rw [upd_ne nb]
        exact sm b o e
      · rw [upd_same, List.take_add_one, en]
        simp
    · rintro H' ⟨sm, eD⟩
      rw [List.length_map, List.take_length] at eD
      refine ⟨by show 2 ≤ sizeLine; decide, fun d nd => ?_⟩
      have nDd : D ≠ d := ne_of_none eD nd
      have nd0 : H d = none := s1.free (sm.free nd)
      refine q _ d D (s1.trans (sm.trans (same_new nd))) nd0 nD0 ⟨upd_same, _, by rw [upd_ne nDd]; exact eD, by rw [List.length_map]; exact hlen, fun x hx => ?_⟩
      obtain ⟨y, _, rfl⟩ := List.mem_map.mp hx
      split <;> omega
def mxI (i j : Int) : Int := if j > i then j else i
def mnI (i j : Int) : Int := if j < i then j else i
theorem ok_law_draw (T : Tx K mg f_contains f_pieces_inside f_first_gap f_find_missing f_without_item f_require_generated f_can_spare f_removable_pieces f_prune_pieces f_law_deck f_law_draw f_law_line f_law_interval f_law_intervals f_law_gap f_law_missing f_law_outcome f_law f_NotGenerated_init X_NotGenerated X_SpanError X_BadInterval X_BadPieces X_BadTargets X_TooWide d_contains d_pieces_inside d_first_gap d_find_missing d_without_item d_require_generated d_can_spare d_removable_pieces d_prune_pieces d_law_deck d_law_draw d_law_line d_law_interval d_law_intervals d_law_gap d_law_missing d_law_outcome d_law d_NotGenerated_init) : FnOk P w K mg base CX0 1 f_law_draw d_law_draw ["_law_deck_here", "_law_bound"] sp_law_draw := by
  refine T.F_law_draw.ok sc_law_draw (fun vs H Q E h => ?_) (fun cdv A outer s H vs Q E hr h => ?_)
  · obtain ⟨d, c, n, lim, rfl, _⟩ := h
    rfl
  · obtain ⟨d, c, n, lim, rfl, dk, n0, n1, l0, l1, q⟩ := h
    obtain ⟨xs, ec, xl, xp⟩ := dk.cells
    have ncd := dk.ne
    have ed := dk.top
    have l64 : lim.natAbs < 2 ^ 64 := by omega
    have n64 : (n + 1).natAbs < 2 ^ 64 := by omega
    refine ⟨_, (pss_cons (ps_asg (pe_op op_add (pe_ix ix_list (pv 0) pe_int (fun _ _ => rfl)) pe_int) (pg_sub (pv 0) pe_int set_list))
      (pss_cons (ps_set (i := 2) sc_law_draw.nd rfl (Or.inl rfl) (pe_op op_mod (pe_ix ix_list (pv 0) pe_int (fun _ _ => rfl)) (pe_callB (call_max2 rfl) (by rfl) T.z_max (by decide +kernel) (pa_cons pe_int (pa_cons (pe_callB call_len_seq (by rfl) T.z_len PySem.boot_len (pa_cons (pe_ix ix_list (pv 0) pe_int (fun _ _ => rfl)) pa_nil)) pa_nil)))))
      (pss_cons (ps_set (i := 3) sc_law_draw.nd rfl (Or.inl rfl) (pe_ix ix_list (pe_op op_cat (pe_ix ix_list (pv 0) pe_int (fun _ _ => rfl)) (pe_lst (pa_cons pe_int pa_nil))) (pv 2) (fun _ _ => rfl)))
      (pss_cons (ps_if (pt_cmpR op_ge (pv 3) (pe_op op_pow pe_int pe_int) (nomark _))
      (pss_cons (ps_asg (pe_op op_fdivW (pv 3) (pv 1)) (pg_sub (pe_ix ix_list (pv 0) pe_int (fun _ _ => rfl)) (pv 2) set_list))
      (pss_one (ps_ret (pe_op op_mod (pv 3) (pv 1)))))
      pss_nil)
      (pss_cons (ps_set (i := 4) sc_law_draw.nd rfl (Or.inl rfl) (pe_op op_mod (pe_op op_pow (pe_op op_add (pe_op op_add (pe_op op_mod (pv 3) pe_int) (pe_op op_mulW pe_int (pe_ix ix_list (pv 0) pe_int (fun _ _ => rfl)))) pe_int) pe_int) pe_int))
      (pss_one (ps_ret (pe_op op_mod (pe_op op_add (pe_op op_fdivW (pv 4) pe_int) (pe_op op_mulW pe_int (pe_ix ix_list (pv 0) pe_int (fun _ _ => rfl)))) (pv 1))))))))), ?_⟩
    -- deck[1] = deck[1] + 1
    refine ⟨.ref d, rfl, d, _, 1, .int n, rfl, rfl, SqL.of ed, rfl, n, 1, rfl, rfl, .ref d, rfl, d, _, 1, 1, rfl, rfl, ed, rfl, ?_⟩
    generalize eH : upd H d (.lst ([V.ref c, V.int n].set 1 (.int (n + 1)))) = H1
    have ed1 : H1 d = some (.lst [.ref c, .int (n + 1)]) := by
      rw [← eH, upd_same]
      rfl
    have ec1 : H1 c = some (.lst (xs.map V.int)) := by
      rw [← eH, upd_ne ncd]
      exact ec
    have kp1 : Kp d c H H1 := fun b o nb _ e => by
      rw [← eH, upd_ne nb]
      exact e
    -- place
    refine ⟨.ref d, rfl, d, _, 1, .int (n + 1), rfl, rfl, SqL.of ed1, rfl, .ref d, rfl, d, _, 0, .ref c, rfl, rfl, SqL.of ed1, rfl, c, _, rfl, .inl (SqL.of ec1), 1, _, rfl, ?_⟩
    obtain ⟨m, em⟩ : ∃ m : Int, (if ((xs.map V.int).length : Int) > 1 then ((xs.map V.int).length : Int) else 1) = m := ⟨_, rfl⟩
    have hm : (m = xs.length ∧ 0 < xs.length) ∨ (m = 1 ∧ xs.length = 0) := by
      rw [List.length_map] at em
      rw [← em]
      split <;> omega
    rw [em]
    have m0 : 0 < m := by omega
    refine ⟨_, _, rfl, rfl, m0, ?_⟩
    have rem0 : 0 ≤ (n + 1) % m := Int.emod_nonneg _ (by omega)
    have rem1 : (n + 1) % m < m := Int.emod_lt_of_pos _ m0
    obtain ⟨j, ej⟩ : ∃ j : Nat, (n + 1) % m = j := ⟨_, (Int.toNat_of_nonneg rem0).symm⟩
    rw [ej] at rem1
    -- cell
    obtain ⟨cell, gj, c0, cin⟩ : ∃ cell : Int, (xs.map V.int ++ [V.int 0])[j]? = some (.int cell) ∧ 0 ≤ cell ∧ (cell ≠ 0 → ∃ h : j < xs.length, xs[j] = cell) := by
      by_cases hj : j < xs.length
      · refine ⟨xs[j], ?_, xp _ (List.getElem_mem hj), fun _ => ⟨hj, rfl⟩⟩
        rw [List.getElem?_append_left (by rw [List.length_map]; exact hj), List.getElem?_map, List.getElem?_eq_getElem hj]
        rfl
      · refine ⟨0, ?_, by decide, fun h => absurd rfl h⟩
        have : j = xs.length := by omega
        subst this
        rw [List.getElem?_append_right (by rw [List.length_map]; exact Nat.le_refl _), List.length_map, Nat.sub_self]
        rfl
    refine ⟨.ref d, rfl, d, _, 0, .ref c, rfl, rfl, SqL.of ed1, rfl, by show 1 ≤ sizeLine; decide, fun z nz => ?_⟩
    have s2 := same_new (o := .lst [.int 0]) nz
    refine ⟨c, z, _, _, rfl, rfl, s2 _ _ ec1, upd_same, ?_, fun g ng => ?_⟩
    · rw [List.length_map, show sizeLine = 16777216 by decide]
      show xs.length + 1 ≤ _
      omega
    have s3 := same_new (o := .lst (xs.map V.int ++ [.int 0])) ng
    refine ⟨.int _, rfl, g, _, _, .int cell, rfl, rfl, SqL.of upd_same, (by rw [ej]; exact atI_nat gj), ?_⟩
    have s23 := s2.trans s3
    replace ed1 := s23 _ _ ed1
    replace ec1 := s23 _ _ ec1
    replace kp1 := kp1.trans (Kp.same s23)
    generalize upd (upd H1 z (.lst [.int 0])) g (.lst (xs.map V.int ++ [.int 0])) = H2 at *
    have dk1 : Dk H2 d c (n + 1) := ⟨ed1, xs, ec1, xl, xp⟩
    -- if cell >= 10 ** 18
    refine ⟨.int cell, rfl, 10, 18, rfl, rfl, ⟨by decide, by decide, by decide⟩, _, _, rfl, rfl, _, rfl, ite2 (fun e2 => ?_) (fun e2 => ?_)⟩
    · have e3 : (10 : Int) ^ (18 : Int).toNat ≤ cell := of_decide_eq_true e2
      rw [show (10 : Int) ^ (18 : Int).toNat = 1000000000000000000 by decide] at e3
      obtain ⟨hj, ex⟩ := cin (by omega)
      refine ⟨.int cell, rfl, .int lim, rfl, _, _, rfl, rfl, wide_div l0 l64 (by decide) (by decide), .ref d, rfl, d, _, 0, .ref c, rfl, rfl, SqL.of ed1, rfl, .int _, rfl, c, _, _, j, rfl, rfl, ec1, ?_, ?_⟩
      · rw [ej]
        unfold ixN
        rw [if_pos (by omega), if_pos (by rw [List.length_map]; omega)]
        rfl
      · refine ⟨.int cell, rfl, .int lim, rfl, _, _, rfl, rfl, l0, ?_⟩
        refine q _ _ ?_ ⟨?_, xs.set j (cell / lim), ?_, ?_, ?_⟩ (Int.emod_nonneg _ (by omega)) (Int.emod_lt_of_pos _ l0)
        · intro b o nb nc e
          rw [upd_ne nc]
          exact kp1 b o nb nc e
        · rw [upd_ne ncd.symm]
          exact ed1
        · rw [upd_same, List.map_set]
        · rw [List.length_set]
          exact xl
        · intro x hx
          rcases List.mem_or_eq_of_mem_set hx with hm | he
          · exact xp x hm
          · rw [he]
            exact Int.ediv_nonneg c0 (by omega)
    · refine ⟨.int cell, rfl, _, _, rfl, rfl, (by show (0 : Int) < 2147483563; decide), .ref d, rfl, d, _, 1, .int (n + 1), rfl, rfl, SqL.of ed1, rfl, _, _, rfl, rfl, wide_mul (a := 17) (b := 64) (by decide) n64 (by decide) (by decide) (by decide), _, _, rfl, rfl, _, _, rfl, rfl, _, _, rfl, rfl, ⟨by decide, by decide, ?_⟩, _, _, rfl, rfl, (by show (0 : Int) < 2147483629; decide), ?_⟩
      · have a0 := Int.emod_nonneg cell (show (2147483563 : Int) ≠ 0 by decide)
        have a1 := Int.emod_lt_of_pos cell (show (0 : Int) < 2147483563 by decide)
        omega
      · refine ⟨_, rfl, _, _, rfl, rfl, wide_div (b := 4) (by decide) (by decide) (by decide) (by decide), .ref d, rfl, d, _, 1, .int (n + 1), rfl, rfl, SqL.of ed1, rfl, _, _, rfl, rfl, wide_mul (a := 5) (b := 64) (by decide) n64 (by decide) (by decide) (by decide), _, _, rfl, rfl, .int lim, rfl, _, _, rfl, rfl, l0, ?_⟩
        exact q _ _ kp1 dk1 (Int.emod_nonneg _ (by omega)) (Int.emod_lt_of_pos _ l0)

/-! ### a line of positions, and intervals of it -/
theorem Kp.keep {d c : Addr} {H H' : Hp} (k : Kp d c H H') {a : Addr} {o : HO} (n1 : a ≠ d ∧ a ≠ c) (h : H a = some o) : H' a = some o := k a o n1.1 n1.2 h
theorem Kp.tup {d c : Addr} {n : Int} {H H' : Hp} (k : Kp d c H H') (dk : Dk H d c n) {a : Addr} {xs : List V} (h : H a = some (.tup xs)) : H' a = some (.tup xs) := by
  obtain ⟨ys, e, _⟩ := dk.cells
  exact k a _ (ne_of h dk.top (fun z => by cases z)) (ne_of h e (fun z => by cases z)) h
theorem Dk.off {H : Hp} {d c : Addr} {n : Int} (h : Dk H d c n) {p : Addr} (e : H p = none) : p ≠ d ∧ p ≠ c := by
  obtain ⟨ys, z, _⟩ := h.cells
  exact ⟨(ne_of_none h.top e).symm, (ne_of_none z e).symm⟩
theorem Dk.upd {H : Hp} {d c : Addr} {n : Int} (h : Dk H d c n) {p : Addr} {o : HO} (off : p ≠ d ∧ p ≠ c) : Dk (upd H p o) d c n := by
  obtain ⟨ys, z, w⟩ := h.cells
  exact ⟨by rw [upd_ne off.1.symm]; exact h.top, ys, by rw [upd_ne off.2.symm]; exact z, w⟩
/-- a line: strictly ascending positions -/
structure Ln (ns : List Int) : Prop where
  asc : ns.Pairwise (· < ·)
  ok : ∀ x ∈ ns, 0 ≤ x ∧ x ≤ 999999999990
def sp_law_line : Sp := fun vs H Q _ => ∃ (d c : Addr) (n cnt : Int), vs = [.ref d, .int cnt] ∧ Dk H d c n ∧ 0 ≤ n ∧ n < 999000 ∧ 1 ≤ cnt ∧ cnt ≤ 9 ∧
  ∀ H' p ns, Kp d c H H' → Dk H' d c (n + cnt) → H p = none → H' p = some (.lst (ns.map V.int)) → (ns.length : Int) = cnt → Ln ns → Q (.ref p) H'
theorem lim3 {r : Int} (h0 : 0 ≤ r) (h1 : r < 3) : ∃ L : Int, atI [V.int 0, .int 4, .int ((10 : Int) ^ (12 : Int).toNat - 90)] r = some (.int L) ∧ 0 ≤ L ∧ L ≤ 999999999910 := by
  have : r = 0 ∨ r = 1 ∨ r = 2 := by omega
  rcases this with rfl | rfl | rfl
  · exact ⟨0, rfl, by decide, by decide⟩
  · exact ⟨4, rfl, by decide, by decide⟩
  · exact ⟨_, rfl, by decide, by decide⟩
theorem step4 {r : Int} (h0 : 0 ≤ r) (h1 : r < 4) : ∃ L : Int, atI [V.int 1, .int 1, .int 2, .int 9] r = some (.int L) ∧ 1 ≤ L ∧ L ≤ 9 := by
  have : r = 0 ∨ r = 1 ∨ r = 2 ∨ r = 3 := by omega
  rcases this with rfl | rfl | rfl | rfl
  · exact ⟨1, rfl, by decide, by decide⟩
  · exact ⟨1, rfl, by decide, by decide⟩
  · exact ⟨2, rfl, by decide, by decide⟩
  · exact ⟨9, rfl, by decide, by decide⟩
theorem ok_law_line (T : Tx K mg f_contains f_pieces_inside f_first_gap f_find_missing f_without_item f_require_generated f_can_spare f_removable_pieces f_prune_pieces f_law_deck f_law_draw f_law_line f_law_interval f_law_intervals f_law_gap f_law_missing f_law_outcome f_law f_NotGenerated_init X_NotGenerated X_SpanError X_BadInterval X_BadPieces X_BadTargets X_TooWide d_contains d_pieces_inside d_first_gap d_find_missing d_without_item d_require_generated d_can_spare d_removable_pieces d_prune_pieces d_law_deck d_law_draw d_law_line d_law_interval d_law_intervals d_law_gap d_law_missing d_law_outcome d_law d_NotGenerated_init) : FnOk P w K mg base CX0 2 f_law_line d_law_line ["_law_deck_here", "_law_count"] sp_law_line := by
  refine T.F_law_line.ok sc_law_line (fun vs H Q E h => ?_) (fun cdv A outer s H vs Q E hr h => ?_)
  · obtain ⟨d, c, n, cnt, rfl, _⟩ := h
    rfl
  · obtain ⟨d, c, n, cnt, rfl, dk, n0, n1, c0, c1, q⟩ := h
    refine ⟨_, (pss_cons (ps_set (i := 2) sc_law_line.nd rfl (Or.inl rfl) (pe_lst (pa_cons (pe_ix ix_list (pe_lst (pa_cons pe_int (pa_cons pe_int (pa_cons (pe_op op_sub (pe_op op_pow pe_int pe_int) pe_int) pa_nil)))) (pe_call (ok_law_draw T) (hr.mono (by decide)) (by rfl) T.g_law_draw T.F_law_draw.kp T.b_law_draw .nil pass0 (pa_cons (pv 0) (pa_cons pe_int pa_nil))) (fun _ _ => rfl)) pa_nil)))
      (pss_cons (ps_for PassesOwn.never rfl (pi_range1 (by rfl) T.z_range (pa_cons (pe_op op_sub (pv 1) pe_int) pa_nil)) (pg_name (i := 3) sc_law_line.nd rfl (Or.inl rfl))
      (pss_one (ps_expr (pe_bm PySem.F.plainAttrs_list PySem.F.slot_list_append PySem.F.type_list_append mt_append (pv 2) (pa_cons (pe_op op_add (pe_ix ix_list (pv 2) (pe_un un_neg pe_int) (fun _ _ => rfl)) (pe_ix ix_list (pe_lst (pa_cons pe_int (pa_cons pe_int (pa_cons pe_int (pa_cons pe_int pa_nil))))) (pe_call (ok_law_draw T) (hr.mono (by decide)) (by rfl) T.g_law_draw T.F_law_draw.kp T.b_law_draw .nil pass0 (pa_cons (pv 0) (pa_cons pe_int pa_nil))) (fun _ _ => rfl))) pa_nil)))))
      (pss_one (ps_ret (pv 2))))), ?_⟩
    refine ⟨10, 12, rfl, rfl, ⟨by decide, by decide, by decide⟩, _, _, rfl, rfl, by show 3 ≤ sizeLine; decide, fun p np => ?_⟩
    have off := dk.off np
    refine ⟨.ref d, rfl, d, c, n, 3, rfl, dk.kept (same_new np), n0, by omega, by decide, by decide, fun H1 r kp1 dk1 r0 r1 => ?_⟩
    obtain ⟨L, eL, L0, L1⟩ := lim3 r0 r1
    refine ⟨p, _, r, _, rfl, rfl, SqL.of (kp1.keep off upd_same), eL, by show 1 ≤ sizeLine; decide, fun l nl => ?_⟩
    have kpA : Kp d c H H1 := (Kp.same (same_new np)).trans kp1
    have offl := dk1.off nl
    have nl0 : H l = none := kpA.none dk dk1 nl
    obtain ⟨m, rfl⟩ : ∃ m : Nat, cnt = m + 1 := ⟨(cnt - 1).toNat, by omega⟩
    refine ⟨.int _, rfl, _, _, rfl, rfl, (m : Int) + 1 - 1, rfl, by omega, by omega, for_range (n := ((m : Int) + 1 - 1).toNat) (fun i σ H' => (Kp d c H H' ∧ Dk H' d c (n + 1 + i)) ∧ (∃ ns : List Int, H' l = some (.lst (ns.map V.int)) ∧ ns.length = i + 1 ∧ ns.Pairwise (· < ·) ∧ (∀ x ∈ ns, 0 ≤ x ∧ x ≤ 999999999910 + 9 * i) ∧ ∃ (ys : List Int) (z : Int), ns = ys ++ [z] ∧ (∀ y ∈ ys, y < z)) ∧ ∃ y3, σ = [some (.ref d), some (.int ((m : Int) + 1)), some (.ref l), y3])
      ⟨⟨kpA.trans (Kp.same (same_new nl)), (dk1.upd offl).eq (by simp)⟩, ⟨[L], upd_same, rfl, List.pairwise_singleton _ _, fun x hx => ?_, [], L, rfl, fun y hy => nomatch hy⟩, _, rfl⟩ ?_ ?_⟩
    · rw [List.mem_singleton.mp hx]
      omega
    · rintro i σ H2 hi ⟨⟨kp2, dk2⟩, ⟨ns, el, nl1, asc, bd, ys, z, rfl, hz⟩, y3, rfl⟩
      refine ⟨.ref l, rfl, .inl ⟨rfl, _, SqL.of el⟩, .ref l, rfl, 1, rfl, l, _, -1, .int z, rfl, rfl, SqL.of el, (by rw [List.map_append]; exact atI_last _ _), by show 4 ≤ sizeLine; decide, fun p2 np2 => ?_⟩
      have off2 := dk2.off np2
      refine ⟨.ref d, rfl, d, c, _, 4, rfl, dk2.kept (same_new np2), by omega, by omega, by decide, by decide, fun H3 r2 kp3 dk3 r20 r21 => ?_⟩
      obtain ⟨L2, eL2, L20, L21⟩ := step4 r20 r21
      have el3 : H3 l = some (.lst ((ys ++ [z]).map V.int)) := kp3.keep offl (same_new np2 _ _ el)
      refine ⟨p2, _, r2, _, rfl, rfl, SqL.of (kp3.keep off2 upd_same), eL2, _, _, rfl, rfl, l, _, _, rfl, rfl, el3, ?_, ?_⟩
      · rw [List.length_map]
        exact small1000 (by omega)
      refine ⟨⟨?_, ?_⟩, ⟨(ys ++ [z]) ++ [z + L2], ?_, ?_, ?_, ?_, ys ++ [z], z + L2, rfl, ?_⟩, _, rfl⟩
      · intro b o n1 n2 e
        rw [upd_ne (ne_of_none e nl0)]
        exact kp3 b o n1 n2 (same_new np2 _ _ (kp2 b o n1 n2 e))
      · exact (dk3.upd offl).eq (by omega)
      · rw [upd_same, List.map_append (l₁ := ys ++ [z])]
        rfl
      · rw [List.length_append, nl1]
        rfl
      · refine List.pairwise_append.mpr ⟨asc, List.pairwise_singleton _ _, fun a ha b hb => ?_⟩
        rw [List.mem_singleton.mp hb]
        rcases List.mem_append.mp ha with h | h
        · have := hz a h
          omega
        · rw [List.mem_singleton.mp h]
          omega
      · intro x hx
        have bz := bd z (List.mem_append_right _ (List.mem_singleton.mpr rfl))
        rcases List.mem_append.mp hx with h | h
        · have := bd x h
          omega
        · rw [List.mem_singleton.mp h]
          omega
      · intro y hy
        rcases List.mem_append.mp hy with h | h
        · have := hz y h
          omega
        · rw [List.mem_singleton.mp h]
          omega
    · rintro σ H2 ⟨⟨kp2, dk2⟩, ⟨ns, el, nl1, asc, bd, _⟩, y3, rfl⟩
      refine ⟨.ref l, rfl, q H2 l ns kp2 (dk2.eq (by omega)) nl0 el (by omega) ⟨asc, fun x hx => ?_⟩⟩
      have := bd x hx
      omega
def sp_law_interval : Sp := fun vs H Q _ => ∃ (d c l : Addr) (n : Int) (ns : List Int), vs = [.ref d, .ref l] ∧ Dk H d c n ∧ 0 ≤ n ∧ n < 999990 ∧ (l ≠ d ∧ l ≠ c) ∧ H l = some (.lst (ns.map V.int)) ∧ 0 < ns.length ∧ ns.length ≤ 100 ∧
  ∀ H' lo hi t, Kp d c H H' → Dk H' d c (n + 2) → lo ∈ ns → hi ∈ ns → lo ≤ hi → H t = none → H' t = some (.tup [.int lo, .int hi]) → Q (.ref t) H'
theorem nth_of {ns : List Int} {r : Int} (h0 : 0 ≤ r) (h1 : r < ((ns.map V.int).length : Nat)) : ∃ x, x ∈ ns ∧ atI (ns.map V.int) r = some (.int x) := by
  obtain ⟨j, rfl⟩ : ∃ j : Nat, r = j := ⟨r.toNat, by omega⟩
  have hj : j < ns.length := by
    rw [List.length_map] at h1
    omega
  refine ⟨ns[j], List.getElem_mem hj, atI_nat ?_⟩
  rw [List.getElem?_map, List.getElem?_eq_getElem hj]
  rfl
theorem ok_law_interval (T : Tx K mg f_contains f_pieces_inside f_first_gap f_find_missing f_without_item f_require_generated f_can_spare f_removable_pieces f_prune_pieces f_law_deck f_law_draw f_law_line f_law_interval f_law_intervals f_law_gap f_law_missing f_law_outcome f_law f_NotGenerated_init X_NotGenerated X_SpanError X_BadInterval X_BadPieces X_BadTargets X_TooWide d_contains d_pieces_inside d_first_gap d_find_missing d_without_item d_require_generated d_can_spare d_removable_pieces d_prune_pieces d_law_deck d_law_draw d_law_line d_law_interval d_law_intervals d_law_gap d_law_missing d_law_outcome d_law d_NotGenerated_init) : FnOk P w K mg base CX0 2 f_law_interval d_law_interval ["_law_deck_here", "_law_line_here"] sp_law_interval := by
  refine T.F_law_interval.ok sc_law_interval (fun vs H Q E h => ?_) (fun cdv A outer s H vs Q E hr h => ?_)
  · obtain ⟨d, c, l, n, ns, rfl, _⟩ := h
    rfl
  · obtain ⟨d, c, l, n, ns, rfl, dk, n0, n1, off, el, ln0, ln1, q⟩ := h
    have lp : (0 : Int) < ((ns.map V.int).length : Nat) := by rw [List.length_map]; omega
    have lp2 : (((ns.map V.int).length : Nat) : Int) < 2 ^ 63 := by rw [List.length_map]; omega
    refine ⟨_, (pss_cons (ps_par (by rfl) sc_law_interval.nd (i := 2) (j := 3) rfl rfl (by decide) rfl rfl (pa_cons (pe_ix ix_list (pv 1) (pe_call (ok_law_draw T) (hr.mono (by decide)) (by rfl) T.g_law_draw T.F_law_draw.kp T.b_law_draw .nil pass0 (pa_cons (pv 0) (pa_cons (pe_callB call_len_seq (by rfl) T.z_len PySem.boot_len (pa_cons (pv 1) pa_nil)) pa_nil))) (fun _ _ => rfl)) (pa_cons (pe_ix ix_list (pv 1) (pe_call (ok_law_draw T) (hr.mono (by decide)) (by rfl) T.g_law_draw T.F_law_draw.kp T.b_law_draw .nil pass0 (pa_cons (pv 0) (pa_cons (pe_callB call_len_seq (by rfl) T.z_len PySem.boot_len (pa_cons (pv 1) pa_nil)) pa_nil))) (fun _ _ => rfl)) pa_nil)) (by rfl))
      (pss_one (ps_ret (pe_tup (pa_cons (pe_callB (call_min2 rfl) (by rfl) T.z_min (by decide +kernel) (pa_cons (pv 2) (pa_cons (pv 3) pa_nil))) (pa_cons (pe_callB (call_max2 rfl) (by rfl) T.z_max (by decide +kernel) (pa_cons (pv 2) (pa_cons (pv 3) pa_nil))) pa_nil)))))), ?_⟩
    refine ⟨.ref l, rfl, .ref d, rfl, .ref l, rfl, l, _, rfl, .inl (SqL.of el), d, c, n, _, rfl, dk, n0, by omega, lp, lp2, fun H1 r kp1 dk1 r0 r1 => ?_⟩
    have el1 := kp1.keep off el
    obtain ⟨x, mx, ex⟩ := nth_of r0 r1
    refine ⟨l, _, r, _, rfl, rfl, SqL.of el1, ex, .ref l, rfl, .ref d, rfl, .ref l, rfl, l, _, rfl, .inl (SqL.of el1), d, c, n + 1, _, rfl, dk1, by omega, by omega, lp, lp2, fun H2 r2 kp2 dk2 r20 r21 => ?_⟩
    have el2 := kp2.keep off el1
    obtain ⟨y, my, ey⟩ := nth_of r20 r21
    refine ⟨l, _, r2, _, rfl, rfl, SqL.of el2, ey, _, _, rfl, ?_⟩
    refine ⟨_, rfl, _, rfl, _, _, rfl, _, rfl, _, rfl, _, _, rfl, by show 2 ≤ sizeLine; decide, fun t nt => ?_⟩
    have s := same_new (o := .tup [.int (mnI x y), .int (mxI x y)]) nt
    have kp := kp1.trans kp2
    refine q _ (mnI x y) (mxI x y) t (kp.trans (Kp.same s)) ((dk2.kept s).eq (by omega)) ?_ ?_ ?_ (kp.none dk dk2 nt) upd_same
    · unfold mnI
      split <;> assumption
    · unfold mxI
      split <;> assumption
    · unfold mnI mxI
      split <;> split <;> omega

/-! ### what stays when the heap grows, or the deck is drawn from -/
theorem rd_same {H H' : Hp} (s : Same H H') {a : Addr} {u : HO} (h : Rd H a u) : Rd H' a u := by
  rcases h with h | ⟨o, h⟩
  · exact .inl (s _ _ h)
  · exact .inr ⟨o, s _ _ h⟩
theorem sqT_same {K : PySem.W.Frag} {H H' : Hp} (s : Same H H') {a : Addr} {xs : List V} (h : SqT K H a xs) : SqT K H' a xs := by
  rcases h with h | h
  · exact .inl (rd_same s h)
  · exact .inr h
theorem dp_same {K : PySem.W.Frag} {H H' : Hp} (s : Same H H') {v : V} {d : PyData} (h : Dp K H v d) : Dp K H' v d := by
  refine Dp.rec (K := K) (H := H) (motive_1 := fun v d _ => Dp K H' v d) (motive_2 := fun vs ds _ => DpAll K H' vs ds) .non (fun b => .bl b) (fun i => .int i) (fun x => .str x) (fun hs _ q => .lst (s.seq hs) q) (fun hs _ q => .tup (sqT_same s hs) q) .nil (fun _ _ a b => .cons a b) h
theorem dp2 {K : PySem.W.Frag} {H : Hp} {t : Addr} {x y : Int} (h : H t = some (.tup [.int x, .int y])) : Dp K H (.ref t) (.tuple [.int x, .int y]) := .tup (SqT.of h) (.cons (.int x) (.cons (.int y) .nil))
theorem sm2 {x y : Int} (h1 : x.natAbs < 10 ^ 30) (h2 : y.natAbs < 10 ^ 30) : Sm 202 1 (.tuple [.int x, .int y]) := by
  have h := Sm.tup (n := 100) (dp := 0) (ds := [.int x, .int y]) (fun d hd => by
    rcases List.mem_cons.mp hd with rfl | hd
    · exact Sm.int h1
    · rcases List.mem_cons.mp hd with rfl | hd
      · exact Sm.int h2
      · cases hd)
  exact h
/-- an interval, or None -/
def optD : Option (Int × Int) → PyData
  | none => .none
  | some (x, y) => .tuple [.int x, .int y]
def OV (H : Hp) (v : V) : Option (Int × Int) → Prop
  | none => v = .non
  | some (x, y) => ∃ t, v = .ref t ∧ H t = some (.tup [.int x, .int y])
theorem OV.same {H H' : Hp} (s : Same H H') {v : V} {o : Option (Int × Int)} (h : OV H v o) : OV H' v o := by
  match o, h with
  | none, h => exact h
  | some (x, y), h =>
    obtain ⟨t, e, z⟩ := h
    exact ⟨t, e, s _ _ z⟩
theorem OV.kp {d c : Addr} {n : Int} {H H' : Hp} (k : Kp d c H H') (dk : Dk H d c n) {v : V} {o : Option (Int × Int)} (h : OV H v o) : OV H' v o := by
  match o, h with
  | none, h => exact h
  | some (x, y), h =>
    obtain ⟨t, e, z⟩ := h
    exact ⟨t, e, k.tup dk z⟩
theorem OV.dp {K : PySem.W.Frag} {H : Hp} {v : V} {o : Option (Int × Int)} (h : OV H v o) : Dp K H v (optD o) := by
  match o, h with
  | none, h =>
    cases h
    exact .non
  | some (x, y), h =>
    obtain ⟨t, e, z⟩ := h
    subst e
    exact dp2 z

/-! ### rows of intervals -/
inductive Ivs (H : Hp) : List V → List (Int × Int) → Prop
  | nil : Ivs H [] []
  | cons {a : Addr} {x y : Int} {vs : List V} {ps : List (Int × Int)} : H a = some (.tup [.int x, .int y]) → Ivs H vs ps → Ivs H (.ref a :: vs) ((x, y) :: ps)
theorem Ivs.length {H : Hp} {vs : List V} {ps : List (Int × Int)} (h : Ivs H vs ps) : vs.length = ps.length := by
  induction h with
  | nil => rfl
  | cons _ _ ih => rw [List.length_cons, List.length_cons, ih]
theorem Ivs.same {H H' : Hp} (s : Same H H') {vs : List V} {ps : List (Int × Int)} (h : Ivs H vs ps) : Ivs H' vs ps := by
  induction h with
  | nil => exact .nil
  | cons e _ ih => exact .cons (s _ _ e) ih
theorem Ivs.kp {d c : Addr} {n : Int} {H H' : Hp} (k : Kp d c H H') (dk : Dk H d c n) {vs : List V} {ps : List (Int × Int)} (h : Ivs H vs ps) : Ivs H' vs ps := by
  induction h with
  | nil => exact .nil
  | cons e _ ih => exact .cons (k.tup dk e) ih
theorem Ivs.get {H : Hp} {vs : List V} {ps : List (Int × Int)} (h : Ivs H vs ps) : ∀ {i : Nat} {v : V}, vs[i]? = some v → ∃ a x y, v = .ref a ∧ ps[i]? = some (x, y) ∧ H a = some (.tup [.int x, .int y]) := by
  induction h with
  | nil =>
    intro i v e
    simp at e
  | cons e _ ih =>
    intro i v q
    cases i with
    | zero =>
      cases q
      exact ⟨_, _, _, rfl, rfl, e⟩
    | succ i => exact ih q
theorem Ivs.snoc {H : Hp} {vs : List V} {ps : List (Int × Int)} {a : Addr} {x y : Int} (h : Ivs H vs ps) (e : H a = some (.tup [.int x, .int y])) : Ivs H (vs ++ [.ref a]) (ps ++ [(x, y)]) := by
  induction h with
  | nil => exact .cons e .nil
  | cons z _ ih => exact .cons z ih
def pairD (p : Int × Int) : PyData := .tuple [.int p.1, .int p.2]
theorem Ivs.dp {K : PySem.W.Frag} {H : Hp} {vs : List V} {ps : List (Int × Int)} (h : Ivs H vs ps) : DpAll K H vs (ps.map pairD) := by
  induction h with
  | nil => exact .nil
  | cons e _ ih => exact .cons (dp2 e) ih

/-! ### comprehensions that change nothing but make new objects -/
/-- the tuples stay -/
def Tps (H H' : Hp) : Prop := ∀ b xs, H b = some (.tup xs) → H' b = some (.tup xs)
theorem Tps.refl (H : Hp) : Tps H H := fun _ _ e => e
theorem Tps.trans {H H1 H2 : Hp} (h : Tps H H1) (h2 : Tps H1 H2) : Tps H H2 := fun b xs e => h2 b xs (h b xs e)
theorem Tps.same {H H1 : Hp} (h : Same H H1) : Tps H H1 := fun b xs e => h b _ e
theorem Kp.tps {d c : Addr} {n : Int} {H H' : Hp} (k : Kp d c H H') (dk : Dk H d c n) : Tps H H' := fun _ _ e => k.tup dk e
theorem Tps.lst {H : Hp} {D : Addr} {ws vs : List V} (e : H D = some (.lst ws)) : Tps H (upd H D (.lst vs)) := fun b xs h => by
  rw [upd_ne (ne_of h e (fun z => by cases z))]
  exact h
theorem same_off {H0 H : Hp} {D : Addr} {o : HO} (n : H0 D = none) (s : Same H0 H) : Same H0 (upd H D o) := fun b u e => by
  rw [upd_ne (ne_of_none e n)]
  exact s b u e
theorem few_line {n : Nat} (h : n < 1000) : n < sizeLine := by
  rw [show sizeLine = 16777216 by decide]
  omega
theorem lcL {K : PySem.W.Frag} {a : Addr} {xs : List V} {g : TG} {tt : TT} {te : TE} {vs : List Nat} {σ : L2.St} {H1 : Hp} {D : Addr} {Qd : Hp → Prop} (R : Nat → Hp → List V → Prop) (nD : H1 D = none) (hl : ∀ H', Same H1 H' → SqL K H' a xs) (few : xs.length < 1000)
    (mono : ∀ i H' H'' ws, Tps H' H'' → R i H' ws → R i H'' ws) (len : ∀ i H' ws, R i H' ws → ws.length ≤ i) (r0 : ∀ H', R 0 H' [])
    (hs : ∀ i x H' (N : Hp → Prop) acc, xs[i]? = some x → Same H1 H' → H' D = some (.lst acc) → acc.length < sizeLine → R i H' acc → (∀ H'', Same H' H'' → R (i + 1) H'' acc → N H'') → (∀ H'' y, Same H' H'' → R (i + 1) H'' (acc ++ [y]) → ∃ acc', H'' D = some (.lst acc') ∧ acc'.length < sizeLine ∧ N (upd H'' D (.lst (acc' ++ [y])))) →
      g x (wipe σ vs) H' fun σ2 H2 => wipe σ2 vs = wipe σ vs ∧ tt σ2 H2 fun b H3 => if b = true then te σ2 H3 fun y H4 => ∃ acc, H4 D = some (.lst acc) ∧ acc.length < sizeLine ∧ N (upd H4 D (.lst (acc ++ [y]))) else N H3)
    (hd : ∀ H' ws, Same H1 H' → H' D = some (.lst ws) → R xs.length H' ws → Qd H') :
    ∃ W : Nat → Nat → Hp → Prop, (∃ m, W 0 m (upd H1 D (.lst []))) ∧ ∀ i m H, W i m H →
      ((Itl K a).stop i H ∧ Qd H) ∨ ((Itl K a).go i H ∧ ∃ Nx : Hp → Prop, (∀ H', Nx H' → ∃ m', m' < m ∧ W (i + 1) m' H') ∧ ∀ x H', (Itl K a).yld i H x H' → g x (wipe σ vs) H' fun σ2 H2 => wipe σ2 vs = wipe σ vs ∧ tt σ2 H2 fun b H3 =>
        if b = true then te σ2 H3 fun y H4 => ∃ acc, H4 D = some (.lst acc) ∧ acc.length < sizeLine ∧ Nx (upd H4 D (.lst (acc ++ [y]))) else Nx H3) := by
  refine lc_list (K := K) (a := a) (xs := xs) (fun i H' => Same H1 H' ∧ ∃ ws, H' D = some (.lst ws) ∧ R i H' ws) ⟨same_new nD, [], upd_same, r0 _⟩ (fun i H' _ h => hl H' h.1) ?_ ?_
  · rintro i x H' hi ⟨sm, ws, eD, r⟩
    have lt := (List.getElem?_eq_some_iff.mp hi).1
    have lw := len i H' ws r
    have sz : ws.length < sizeLine := few_line (by omega)
    refine hs i x H' _ ws hi sm eD sz r (fun H'' s r2 => ⟨sm.trans s, ws, s _ _ eD, r2⟩) (fun H'' y s r2 => ?_)
    exact ⟨ws, s _ _ eD, sz, same_off nD (sm.trans s), _, upd_same, mono _ _ _ _ (Tps.lst (s _ _ eD)) r2⟩
  · rintro H' ⟨sm, ws, eD, r⟩
    exact hd H' ws sm eD r
theorem lcT {K : PySem.W.Frag} {a : Addr} {xs : List V} {g : TG} {tt : TT} {te : TE} {vs : List Nat} {σ : L2.St} {H1 : Hp} {D : Addr} {Qd : Hp → Prop} (R : Nat → Hp → List V → Prop) (nD : H1 D = none) (hl : ∀ H', Same H1 H' → SqT K H' a xs) (few : xs.length < 1000)
    (mono : ∀ i H' H'' ws, Tps H' H'' → R i H' ws → R i H'' ws) (len : ∀ i H' ws, R i H' ws → ws.length ≤ i) (r0 : ∀ H', R 0 H' [])
    (hs : ∀ i x H' (N : Hp → Prop) acc, xs[i]? = some x → Same H1 H' → H' D = some (.lst acc) → acc.length < sizeLine → R i H' acc → (∀ H'', Same H' H'' → R (i + 1) H'' acc → N H'') → (∀ H'' y, Same H' H'' → R (i + 1) H'' (acc ++ [y]) → ∃ acc', H'' D = some (.lst acc') ∧ acc'.length < sizeLine ∧ N (upd H'' D (.lst (acc' ++ [y])))) →
      g x (wipe σ vs) H' fun σ2 H2 => wipe σ2 vs = wipe σ vs ∧ tt σ2 H2 fun b H3 => if b = true then te σ2 H3 fun y H4 => ∃ acc, H4 D = some (.lst acc) ∧ acc.length < sizeLine ∧ N (upd H4 D (.lst (acc ++ [y]))) else N H3)
    (hd : ∀ H' ws, Same H1 H' → H' D = some (.lst ws) → R xs.length H' ws → Qd H') :
    ∃ W : Nat → Nat → Hp → Prop, (∃ m, W 0 m (upd H1 D (.lst []))) ∧ ∀ i m H, W i m H →
      ((Itt K a).stop i H ∧ Qd H) ∨ ((Itt K a).go i H ∧ ∃ Nx : Hp → Prop, (∀ H', Nx H' → ∃ m', m' < m ∧ W (i + 1) m' H') ∧ ∀ x H', (Itt K a).yld i H x H' → g x (wipe σ vs) H' fun σ2 H2 => wipe σ2 vs = wipe σ vs ∧ tt σ2 H2 fun b H3 =>
        if b = true then te σ2 H3 fun y H4 => ∃ acc, H4 D = some (.lst acc) ∧ acc.length < sizeLine ∧ Nx (upd H4 D (.lst (acc ++ [y]))) else Nx H3) := by
  refine lc_tup (K := K) (a := a) (xs := xs) (fun i H' => Same H1 H' ∧ ∃ ws, H' D = some (.lst ws) ∧ R i H' ws) ⟨same_new nD, [], upd_same, r0 _⟩ (fun i H' _ h => hl H' h.1) ?_ ?_
  · rintro i x H' hi ⟨sm, ws, eD, r⟩
    have lt := (List.getElem?_eq_some_iff.mp hi).1
    have lw := len i H' ws r
    have sz : ws.length < sizeLine := few_line (by omega)
    refine hs i x H' _ ws hi sm eD sz r (fun H'' s r2 => ⟨sm.trans s, ws, s _ _ eD, r2⟩) (fun H'' y s r2 => ?_)
    exact ⟨ws, s _ _ eD, sz, same_off nD (sm.trans s), _, upd_same, mono _ _ _ _ (Tps.lst (s _ _ eD)) r2⟩
  · rintro H' ⟨sm, ws, eD, r⟩
    exact hd H' ws sm eD r
theorem map_filter_len {α : Type} {ns : List α} {p : α → Bool} {f : α → V} (i : Nat) : (((ns.take i).filter p).map f).length ≤ i := by
  rw [List.length_map]
  exact Nat.le_trans (List.length_filter_le _ _) (List.length_take_le _ _)
theorem take_filter {α : Type} {ns : List α} {i : Nat} {n : α} {p : α → Bool} (h : ns[i]? = some n) : (ns.take (i + 1)).filter p = (ns.take i).filter p ++ (if p n = true then [n] else []) := by
  rw [List.take_add_one, h, List.filter_append]
  congr 1
  show List.filter p [n] = _
  rw [List.filter_cons]
  split <;> rfl
theorem nodup_le {α : Type} [DecidableEq α] : ∀ {l m : List α}, l.Nodup → (∀ x ∈ l, x ∈ m) → l.length ≤ m.length
  | [], _, _, _ => Nat.zero_le _
  | a :: l, m, h, hs => by
    have hm := hs a List.mem_cons_self
    have h' := List.nodup_cons.mp h
    have ih := nodup_le (l := l) (m := m.erase a) h'.2 (fun x hx => (List.mem_erase_of_ne (fun e => h'.1 (by rw [← e]; exact hx))).mpr (hs x (List.mem_cons_of_mem _ hx)))
    rw [List.length_erase_of_mem hm] at ih
    have := List.length_pos_of_mem hm
    rw [List.length_cons]
    omega

/-! ### demands, and rows of them -/
structure Dm (H : Hp) (v : V) (p lo hi : Int) : Prop where
  ex : ∃ u t, v = .ref u ∧ H u = some (.tup [.int p, .ref t]) ∧ H t = some (.tup [.int lo, .int hi])
  low : lo ≤ p
  high : p ≤ hi
theorem Dm.tps {H H' : Hp} (s : Tps H H') {v : V} {p lo hi : Int} (h : Dm H v p lo hi) : Dm H' v p lo hi := by
  obtain ⟨u, t, rfl, e1, e2⟩ := h.ex
  exact ⟨⟨u, t, rfl, s _ _ e1, s _ _ e2⟩, h.low, h.high⟩
theorem Dm.same {H H' : Hp} (s : Same H H') {v : V} {p lo hi : Int} (h : Dm H v p lo hi) : Dm H' v p lo hi := h.tps (Tps.same s)
inductive Dms (H : Hp) : List V → List (Int × Int × Int) → Prop
  | nil : Dms H [] []
  | cons {v : V} {p lo hi : Int} {vs : List V} {ds : List (Int × Int × Int)} : Dm H v p lo hi → Dms H vs ds → Dms H (v :: vs) ((p, lo, hi) :: ds)
theorem Dms.length {H : Hp} {vs : List V} {ds : List (Int × Int × Int)} (h : Dms H vs ds) : vs.length = ds.length := by
  induction h with
  | nil => rfl
  | cons _ _ ih => rw [List.length_cons, List.length_cons, ih]
theorem Dms.tps {H H' : Hp} (s : Tps H H') {vs : List V} {ds : List (Int × Int × Int)} (h : Dms H vs ds) : Dms H' vs ds := by
  induction h with
  | nil => exact .nil
  | cons e _ ih => exact .cons (e.tps s) ih
theorem Dms.same {H H' : Hp} (s : Same H H') {vs : List V} {ds : List (Int × Int × Int)} (h : Dms H vs ds) : Dms H' vs ds := h.tps (Tps.same s)
theorem Dms.get {H : Hp} {vs : List V} {ds : List (Int × Int × Int)} (h : Dms H vs ds) : ∀ {i : Nat} {v : V}, vs[i]? = some v → ∃ p lo hi, ds[i]? = some (p, lo, hi) ∧ Dm H v p lo hi := by
  induction h with
  | nil =>
    intro i v e
    simp at e
  | cons e _ ih =>
    intro i v q
    cases i with
    | zero =>
      cases q
      exact ⟨_, _, _, rfl, e⟩
    | succ i => exact ih q
theorem Dms.append {H : Hp} {vs us : List V} {ds es : List (Int × Int × Int)} (h : Dms H vs ds) (h2 : Dms H us es) : Dms H (vs ++ us) (ds ++ es) := by
  induction h with
  | nil => exact h2
  | cons e _ ih => exact .cons e ih
theorem Dms.snoc {H : Hp} {vs : List V} {ds : List (Int × Int × Int)} {v : V} {p lo hi : Int} (h : Dms H vs ds) (e : Dm H v p lo hi) : Dms H (vs ++ [v]) (ds ++ [(p, lo, hi)]) := h.append (.cons e .nil)
theorem Dms.take {H : Hp} {vs : List V} {ds : List (Int × Int × Int)} (h : Dms H vs ds) : ∀ n : Nat, Dms H (vs.take n) (ds.take n) := by
  induction h with
  | nil =>
    intro n
    rw [List.take_nil, List.take_nil]
    exact .nil
  | cons e _ ih =>
    intro n
    cases n with
    | zero => exact .nil
    | succ n => exact .cons e (ih n)
theorem Dms.reverse {H : Hp} {vs : List V} {ds : List (Int × Int × Int)} (h : Dms H vs ds) : Dms H vs.reverse ds.reverse := by
  induction h with
  | nil => exact .nil
  | cons e _ ih =>
    rw [List.reverse_cons, List.reverse_cons]
    exact ih.snoc e
theorem Dms.isEmpty {H : Hp} {vs : List V} {ds : List (Int × Int × Int)} (h : Dms H vs ds) : vs.isEmpty = ds.isEmpty := by
  cases h <;> rfl
theorem Dms.ok {H : Hp} {vs : List V} {ds : List (Int × Int × Int)} (h : Dms H vs ds) : ∀ q ∈ ds, q.2.1 ≤ q.1 ∧ q.1 ≤ q.2.2 := by
  induction h with
  | nil =>
    intro q hq
    cases hq
  | cons e _ ih =>
    intro q hq
    rcases List.mem_cons.mp hq with rfl | hq
    · exact ⟨e.low, e.high⟩
    · exact ih q hq
/-! ### comprehensions over a range that draw -/
theorem lcK {d c : Addr} {n0 per : Int} {lo : Int} {n : Nat} {g : TG} {tt : TT} {te : TE} {vs : List Nat} {σ : L2.St} {H1 : Hp} {D : Addr} {Qd : Hp → Prop} (R : Nat → Hp → List V → Prop) (nD : H1 D = none) (dk : Dk H1 d c n0) (few : n < 1000)
    (mono : ∀ i H' H'' ws, Tps H' H'' → R i H' ws → R i H'' ws) (len : ∀ i H' ws, R i H' ws → ws.length ≤ i) (r0 : ∀ H', R 0 H' [])
    (hs : ∀ i H' (N : Hp → Prop) acc, i < n → Kp d c H1 H' → Dk H' d c (n0 + per * i) → H' D = some (.lst acc) → R i H' acc → (∀ H'' y, Kp d c H' H'' → Dk H'' d c (n0 + per * i + per) → R (i + 1) H'' (acc ++ [y]) → ∃ acc', H'' D = some (.lst acc') ∧ acc'.length < sizeLine ∧ N (upd H'' D (.lst (acc' ++ [y])))) →
      g (.int (lo + i)) (wipe σ vs) H' fun σ2 H2 => wipe σ2 vs = wipe σ vs ∧ tt σ2 H2 fun b H3 => if b = true then te σ2 H3 fun y H4 => ∃ acc, H4 D = some (.lst acc) ∧ acc.length < sizeLine ∧ N (upd H4 D (.lst (acc ++ [y]))) else N H3)
    (hd : ∀ H' ws, Kp d c H1 H' → Dk H' d c (n0 + per * n) → H' D = some (.lst ws) → R n H' ws → Qd H') :
    ∃ W : Nat → Nat → Hp → Prop, (∃ m, W 0 m (upd H1 D (.lst []))) ∧ ∀ i m H, W i m H →
      ((Itr lo n).stop i H ∧ Qd H) ∨ ((Itr lo n).go i H ∧ ∃ Nx : Hp → Prop, (∀ H', Nx H' → ∃ m', m' < m ∧ W (i + 1) m' H') ∧ ∀ x H', (Itr lo n).yld i H x H' → g x (wipe σ vs) H' fun σ2 H2 => wipe σ2 vs = wipe σ vs ∧ tt σ2 H2 fun b H3 =>
        if b = true then te σ2 H3 fun y H4 => ∃ acc, H4 D = some (.lst acc) ∧ acc.length < sizeLine ∧ Nx (upd H4 D (.lst (acc ++ [y]))) else Nx H3) := by
  have off := dk.off nD
  refine lc_range (lo := lo) (n := n) (fun i H' => Kp d c H1 H' ∧ Dk H' d c (n0 + per * i) ∧ ∃ ws, H' D = some (.lst ws) ∧ R i H' ws) ⟨Kp.same (same_new nD), (dk.upd off).eq (by simp), [], upd_same, r0 _⟩ ?_ ?_
  · rintro i H' hi ⟨kp, dk', ws, eD, r⟩
    have lw := len i H' ws r
    have sz : ws.length < sizeLine := few_line (by omega)
    refine hs i H' _ ws hi kp dk' eD r (fun H'' y kp2 dk2 r2 => ?_)
    have eD2 := kp2.keep off eD
    refine ⟨ws, eD2, sz, fun b o n1 n2 e => ?_, (dk2.upd off).eq ?_, _, upd_same, mono _ _ _ _ (Tps.lst eD2) r2⟩
    · rw [upd_ne (ne_of_none e nD)]
      exact kp2 b o n1 n2 (kp b o n1 n2 e)
    · rw [Int.natCast_succ, Int.mul_add, Int.mul_one]
      omega
  · rintro H' ⟨kp, dk', ws, eD, r⟩
    exact hd H' ws kp dk' eD r

theorem Ivs.tps {H H' : Hp} (s : Tps H H') {vs : List V} {ps : List (Int × Int)} (h : Ivs H vs ps) : Ivs H' vs ps := by
  induction h with
  | nil => exact .nil
  | cons e _ ih => exact .cons (s _ _ e) ih
theorem Ivs.append {H : Hp} {vs us : List V} {ps qs : List (Int × Int)} (h : Ivs H vs ps) (h2 : Ivs H us qs) : Ivs H (vs ++ us) (ps ++ qs) := by
  induction h with
  | nil => exact h2
  | cons e _ ih => exact .cons e ih
theorem Ivs.isEmpty {H : Hp} {vs : List V} {ps : List (Int × Int)} (h : Ivs H vs ps) : vs.isEmpty = ps.isEmpty := by
  cases h <;> rfl

/-! ### sorted(set(pairs)) -/
def ltP (a b : Int × Int) : Prop := a.1 < b.1 ∨ (a.1 = b.1 ∧ a.2 < b.2)
def prL (q : Int × Int) : List Int := [q.1, q.2]
theorem prL_inj {a b : Int × Int} (h : prL a = prL b) : a = b := by
  unfold prL at h
  cases a
  cases b
  simp at h
  rw [h.1, h.2]
theorem mem_prL {q : Int × Int} {ps : List (Int × Int)} : prL q ∈ ps.map prL ↔ q ∈ ps := by
  rw [List.mem_map]
  exact ⟨fun ⟨a, ha, e⟩ => prL_inj e ▸ ha, fun h => ⟨q, h, rfl⟩⟩
theorem Ivs.keys {H : Hp} {us : List V} {ps : List (Int × Int)} (h : Ivs H us ps) : ∃ ks : List (Addr × List Int), us = ks.map (fun p => V.ref p.1) ∧ ks.map (·.2) = ps.map prL ∧ ∀ p ∈ ks, ∃ x y : Int, p.2 = [x, y] ∧ H p.1 = some (.tup [.int x, .int y]) := by
  induction h with
  | nil => exact ⟨[], rfl, rfl, fun p hp => nomatch hp⟩
  | cons e _ ih =>
    obtain ⟨ks, e1, e2, e3⟩ := ih
    refine ⟨(_, [_, _]) :: ks, by rw [List.map_cons, e1], by rw [List.map_cons, List.map_cons, e2]; rfl, fun p hp => ?_⟩
    rcases List.mem_cons.mp hp with rfl | hp
    · exact ⟨_, _, rfl, e⟩
    · exact e3 p hp
theorem Ivs.ofKeys {H : Hp} : ∀ {L : List (Addr × List Int)}, (∀ p ∈ L, ∃ x y : Int, p.2 = [x, y] ∧ H p.1 = some (.tup [.int x, .int y])) → ∃ ps, Ivs H (L.map fun p => V.ref p.1) ps ∧ L.map (·.2) = ps.map prL
  | [], _ => ⟨[], .nil, rfl⟩
  | p :: L, h => by
    obtain ⟨x, y, e, e1⟩ := h p List.mem_cons_self
    obtain ⟨ps, i, e2⟩ := Ivs.ofKeys (L := L) fun q hq => h q (List.mem_cons_of_mem _ hq)
    exact ⟨(x, y) :: ps, .cons e1 i, by rw [List.map_cons, List.map_cons, e2, e]; rfl⟩
theorem Ivs.tpsMem {H : Hp} {us : List V} {ps : List (Int × Int)} (h : Ivs H us ps) {q : Int × Int} (hq : q ∈ ps) : ∃ a, V.ref a ∈ us ∧ H a = some (.tup [.int q.1, .int q.2]) := by
  induction h with
  | nil => cases hq
  | cons e _ ih =>
    rcases List.mem_cons.mp hq with rfl | hq
    · exact ⟨_, List.mem_cons_self, e⟩
    · obtain ⟨a, h1, h2⟩ := ih hq
      exact ⟨a, List.mem_cons_of_mem _ h1, h2⟩
theorem sorted_keys {K : PySem.W.Frag} {P : Program} {w : World} {H : Hp} {ps : List (Int × Int)} {Q : VK} {ks L : List (Addr × List Int)} {a : Addr} (e2 : ks.map (·.2) = ps.map prL) (e3 : ∀ p ∈ ks, ∃ x y : Int, p.2 = [x, y] ∧ H p.1 = some (.tup [.int x, .int y])) (na : H a = none) (h1 : ∀ p ∈ L, p ∈ ks) (h2 : ∀ p ∈ ks, p.2 ∈ L.map (·.2)) (bd : ∀ q ∈ ps, (0 ≤ q.1 ∧ q.1 < 10 ^ 13) ∧ 0 ≤ q.2 ∧ q.2 < 10 ^ 13)
    (fin : ∀ H' p us' ps', Same H H' → H p = none → H' p = some (.lst us') → Ivs H' us' ps' → ps'.Pairwise ltP → (∀ q, q ∈ ps' ↔ q ∈ ps) → Q (.ref p) H') :
    rSortedT K P w [.ref a] (upd H a (SetTO P w a L)) Q := by
  have s1 : Same H (upd H a (SetTO P w a L)) := same_new na
  refine ⟨a, L, 2, 10 ^ 13, rfl, upd_same, fun p hp => ?_, by decide, fun p hp => ?_, fun L' p pm nd fw pw np => ?_⟩
  · obtain ⟨x, y, e, e1⟩ := e3 p (h1 p hp)
    rw [e]
    exact SqT.of (s1 _ _ e1)
  · have m : p.2 ∈ ks.map (·.2) := List.mem_map.mpr ⟨p, h1 p hp, rfl⟩
    rw [e2] at m
    obtain ⟨q, hq, e⟩ := List.mem_map.mp m
    have b := bd q hq
    rw [← e]
    refine ⟨rfl, fun m hm => ?_⟩
    unfold prL at hm
    rcases List.mem_cons.mp hm with rfl | hm
    · exact b.1
    · rw [List.mem_singleton.mp hm]
      exact b.2
  · have s2 : Same (upd H a (SetTO P w a L)) (upd (upd H a (SetTO P w a L)) p (.lst (L'.map fun q => V.ref q.1))) := same_new np
    obtain ⟨ps', i, e4⟩ := Ivs.ofKeys (H := H) (L := L') fun q hq => e3 q (h1 q (pm.mem_iff.mp hq))
    have mem : ∀ q, q ∈ ps' ↔ q ∈ ps := fun q => by
      rw [← mem_prL, ← e4, ← mem_prL (ps := ps), ← e2, (pm.map (·.2)).mem_iff]
      constructor
      · intro h
        obtain ⟨p, hp, e⟩ := List.mem_map.mp h
        exact List.mem_map.mpr ⟨p, h1 p hp, e⟩
      · intro h
        obtain ⟨p, hp, e⟩ := List.mem_map.mp h
        rw [← e]
        exact h2 p hp
    refine fin _ p _ ps' (s1.trans s2) (s1.free np) upd_same (i.same (s1.trans s2)) ?_ mem
    have pw2 : (L'.map (·.2)).Pairwise (fun q r => TS.code (10 ^ 13) q ≤ TS.code (10 ^ 13) r) := List.pairwise_map.mpr pw
    have both := pw2.and nd
    rw [e4] at both
    refine (List.pairwise_map.mp both).imp_of_mem fun {x y} hx hy h => ?_
    have bx := bd x ((mem x).mp hx)
    have bY := bd y ((mem y).mp hy)
    have tb : ∀ {z : Int × Int}, ((0 ≤ z.1 ∧ z.1 < 10 ^ 13) ∧ 0 ≤ z.2 ∧ z.2 < 10 ^ 13) → TS.Bd (10 ^ 13) [z.1, z.2] := fun b m hm => by
      rcases List.mem_cons.mp hm with rfl | hm
      · exact b.1
      · rw [List.mem_singleton.mp hm]
        exact b.2
    rcases code_lex (tb bx) (tb bY) h.1 with c | ⟨c1, c2⟩
    · exact .inl c
    · refine .inr ⟨c1, ?_⟩
      rcases Int.lt_or_eq_of_le c2 with z | z
      · exact z
      · exact absurd (show prL x = prL y by unfold prL; rw [c1, z]) h.2
theorem sorted_set_pairs {K : PySem.W.Frag} {P : Program} {w : World} {H : Hp} {l : Addr} {us : List V} {ps : List (Int × Int)} {Q : VK} (hl : SqL K H l us) (iv : Ivs H us ps) (few : ps.length < 64) (bd : ∀ q ∈ ps, (0 ≤ q.1 ∧ q.1 < 10 ^ 13) ∧ 0 ≤ q.2 ∧ q.2 < 10 ^ 13)
    (fin : ∀ H' p us' ps', Same H H' → H p = none → H' p = some (.lst us') → Ivs H' us' ps' → ps'.Pairwise ltP → (∀ q, q ∈ ps' ↔ q ∈ ps) → Q (.ref p) H') :
    rSetOfT K P w [.ref l] H (fun x H1 => rSortedT K P w [x] H1 Q) := by
  obtain ⟨ks, rfl, e2, e3⟩ := iv.keys
  have lk : ks.length = ps.length := by
    have z := congrArg List.length e2
    rw [List.length_map, List.length_map] at z
    exact z
  refine ⟨l, ks, rfl, hl, fun p hp => ?_, by omega, fun a L na h1 h2 => ?_⟩
  · obtain ⟨x, y, e, e1⟩ := e3 p hp
    rw [e]
    exact SqT.of e1
  exact sorted_keys e2 e3 na h1 h2 bd fin
/-- drawn intervals: ascending, of the line -/
structure Row (ls : List Int) (ps : List (Int × Int)) : Prop where
  asc : ps.Pairwise ltP
  ok : ∀ q ∈ ps, (q.1 ∈ ls ∧ q.2 ∈ ls) ∧ q.1 ≤ q.2
def sp_law_intervals : Sp := fun vs H Q _ => ∃ (d c l : Addr) (n most : Int) (ls : List Int), vs = [.ref d, .ref l, .int most] ∧ Dk H d c n ∧ 0 ≤ n ∧ n < 999000 ∧ (l ≠ d ∧ l ≠ c) ∧ H l = some (.lst (ls.map V.int)) ∧ 0 < ls.length ∧ ls.length ≤ 100 ∧ Ln ls ∧ 0 ≤ most ∧ most ≤ 30 ∧
  ∀ H' t us ps m, Kp d c H H' → Dk H' d c m → n ≤ m → m ≤ n + 1 + 2 * most → H' t = some (.tup us) → Ivs H' us ps → Row ls ps → (ps.length : Int) ≤ most → Q (.ref t) H'
theorem ok_law_intervals (T : Tx K mg f_contains f_pieces_inside f_first_gap f_find_missing f_without_item f_require_generated f_can_spare f_removable_pieces f_prune_pieces f_law_deck f_law_draw f_law_line f_law_interval f_law_intervals f_law_gap f_law_missing f_law_outcome f_law f_NotGenerated_init X_NotGenerated X_SpanError X_BadInterval X_BadPieces X_BadTargets X_TooWide d_contains d_pieces_inside d_first_gap d_find_missing d_without_item d_require_generated d_can_spare d_removable_pieces d_prune_pieces d_law_deck d_law_draw d_law_line d_law_interval d_law_intervals d_law_gap d_law_missing d_law_outcome d_law d_NotGenerated_init) : FnOk P w K mg base CX0 3 f_law_intervals d_law_intervals ["_law_deck_here", "_law_line_here", "_law_most"] sp_law_intervals := by
  refine T.F_law_intervals.ok sc_law_intervals (fun vs H Q E h => ?_) (fun cdv A outer s H vs Q E hr h => ?_)
  · obtain ⟨d, c, l, n, most, ls, rfl, _⟩ := h
    rfl
  · obtain ⟨d, c, l, n, most, ls, rfl, dk, n0, n1, off, el, ln0, ln1, ln, m0, m1, q⟩ := h
    refine ⟨_, (pss_cons (ps_setLc (i := 3) (own := [("_law_k", 4)]) (g := (gName 4)) (tt := tYes) (by rfl) sc_law_intervals.nd rfl rfl (sw_true rfl rfl rfl (by decide +kernel)) (pi_range1 (by rfl) T.z_range (pa_cons (pe_call (ok_law_draw T) (hr.mono (by decide)) (by rfl) T.g_law_draw T.F_law_draw.kp T.b_law_draw .nil pass0 (pa_cons (pv 0) (pa_cons (pe_op op_add (pv 2) pe_int) pa_nil))) pa_nil)) (blkOk_by (own := [("_law_k", 4)]) (N := N_law_intervals) (sc := defScope s_law_intervals) (by decide +kernel)) (fun _ _ _ _ _ => (pg_name (i := 4) sc_law_intervals.nd rfl (Or.inl rfl))) (fun _ _ _ _ _ => pts_nil) (fun _ _ _ _ _ => (pe_call (ok_law_interval T) (hr.mono (by decide)) (by rfl) T.g_law_interval T.F_law_interval.kp T.b_law_interval .nil pass0 (pa_cons (pv 0) (pa_cons (pv 1) pa_nil)))))
      (pss_one (ps_ret (pe_callTy call_tuple_of (by rfl) T.z_tuple (by decide +kernel) (pa_cons (pe_callB (cr_sortedT rfl) (by rfl) T.z_sorted (by decide +kernel) (pa_cons (pe_callTy (cr_setOfT rfl hr.units) (by rfl) T.z_set (by decide +kernel) (pa_cons (pv 3) pa_nil)) pa_nil)) pa_nil))))), ?_⟩
    refine ⟨.ref d, rfl, .int most, rfl, _, _, rfl, rfl, d, c, n, most + 1, rfl, dk, n0, by omega, by omega, by omega, fun H1 r kp1 dk1 r0 r1 => ?_⟩
    have el1 := kp1.keep off el
    refine ⟨r, rfl, by omega, by omega, fun D nD => ?_⟩
    refine lcK (d := d) (c := c) (per := 2) (n0 := n + 1) (lo := 0) (n := r.toNat) (fun j H' ws => ∃ ps, Ivs H' ws ps ∧ ps.length = j ∧ ∀ q ∈ ps, (q.1 ∈ ls ∧ q.2 ∈ ls) ∧ q.1 ≤ q.2) nD dk1 (by omega) (fun _ _ _ _ t ⟨ps, h1, h2⟩ => ⟨ps, h1.tps t, h2⟩) (fun j H' ws ⟨ps, h1, h2, _⟩ => by rw [h1.length, h2]; exact Nat.le_refl _) (fun _ => ⟨[], .nil, rfl, fun q hq => nomatch hq⟩) ?_ ?_
    · rintro j H' N acc hj kp' dk' eD ⟨ps, iv, pl, pin⟩ yes
      refine ⟨rfl, .ref d, rfl, .ref l, rfl, d, c, l, _, ls, rfl, dk', by omega, by omega, off, kp'.keep off el1, by omega, by omega, fun H6 lo hi t kp6 dk6 mlo mhi lh nt et => ?_⟩
      refine yes H6 _ kp6 dk6 ⟨ps ++ [(lo, hi)], (iv.tps (kp6.tps dk')).snoc et, by rw [List.length_append, pl]; rfl, fun q hq => ?_⟩
      rcases List.mem_append.mp hq with hq | hq
      · exact pin q hq
      · rw [List.mem_singleton.mp hq]
        exact ⟨⟨mlo, mhi⟩, lh⟩
    · rintro H6 ws kp6 dk6 eD ⟨ps, iv, pl, pin⟩
      refine ⟨.ref D, rfl, ?_⟩
      dsimp only [tNil]
      refine sorted_set_pairs (SqL.of eD) iv (by omega) (fun q hq => ?_) (fun H7 p us' ps' s7 np ep iv' asc mem => ?_)
      · have h := pin q hq
        have h1 := ln.ok _ h.1.1
        have h2 := ln.ok _ h.1.2
        omega
      · refine ⟨p, us', rfl, .inl ⟨SqL.of ep, fun t nt => ?_⟩⟩
        have s8 := same_new (o := .tup us') nt
        have nd : ps'.length ≤ ps.length := by
          have ndp : ps'.Nodup := asc.imp fun {a b} h e => by
            subst e
            rcases h with h | h <;> omega
          exact nodup_le ndp fun x hx => (mem x).mp hx
        refine q _ t us' ps' _ (kp1.trans (kp6.trans (Kp.same (s7.trans s8)))) (dk6.kept (s7.trans s8)) (by omega) (by omega) upd_same (iv'.same s8) ⟨asc, fun q hq => pin q ((mem q).mp hq)⟩ (by omega)

/-! ### contains -/
def inI (x y u v : Int) : Bool := decide (x ≤ u) && decide (v ≤ y)
def sp_contains : Sp := fun vs H Q _ => ∃ (a b : Addr) (x y u v : Int), vs = [.ref a, .ref b] ∧ H a = some (.tup [.int x, .int y]) ∧ H b = some (.tup [.int u, .int v]) ∧ Q (.bl (inI x y u v)) H
theorem ok_contains (T : Tx K mg f_contains f_pieces_inside f_first_gap f_find_missing f_without_item f_require_generated f_can_spare f_removable_pieces f_prune_pieces f_law_deck f_law_draw f_law_line f_law_interval f_law_intervals f_law_gap f_law_missing f_law_outcome f_law f_NotGenerated_init X_NotGenerated X_SpanError X_BadInterval X_BadPieces X_BadTargets X_TooWide d_contains d_pieces_inside d_first_gap d_find_missing d_without_item d_require_generated d_can_spare d_removable_pieces d_prune_pieces d_law_deck d_law_draw d_law_line d_law_interval d_law_intervals d_law_gap d_law_missing d_law_outcome d_law d_NotGenerated_init) : FnOk P w K mg base CX0 1 f_contains d_contains ["outer", "inner"] sp_contains := by
  refine T.F_contains.ok sc_contains (fun vs H Q E h => ?_) (fun cdv A outer s H vs Q E hr h => ?_)
  · obtain ⟨a, b, x, y, u, v, rfl, _⟩ := h
    rfl
  · obtain ⟨a, b, x, y, u, v, rfl, ha, hb, q⟩ := h
    refine ⟨_, (pss_one (ps_ret (pe_and (pe_cmpR op_le (pe_ix ix_tup (pv 0) pe_int (fun _ _ => rfl)) (pe_ix ix_tup (pv 1) pe_int (fun _ _ => rfl)) (nomark _)) (pe_one (pe_cmpR op_le (pe_ix ix_tup (pv 1) pe_int (fun _ _ => rfl)) (pe_ix ix_tup (pv 0) pe_int (fun _ _ => rfl)) (nomark _)))))), ?_⟩
    unfold inI at q
    refine ⟨.ref a, rfl, a, _, 0, .int x, rfl, rfl, SqT.of ha, rfl, .ref b, rfl, b, _, 0, .int u, rfl, rfl, SqT.of hb, rfl, _, _, rfl, rfl, _, rfl, ite2 (fun e => ?_) (fun e => ?_)⟩
    · refine ⟨.ref b, rfl, b, _, 1, .int v, rfl, rfl, SqT.of hb, rfl, .ref a, rfl, a, _, 1, .int y, rfl, rfl, SqT.of ha, rfl, _, _, rfl, rfl, ?_⟩
      rw [e] at q
      exact q
    · rw [Bool.not_eq_true] at e
      rw [e] at q
      exact q

/-! ### the first gap of a target -/
def covI (ps : List (Int × Int)) (lo hi p : Int) : Prop := ∃ q ∈ ps, (lo ≤ q.1 ∧ q.2 ≤ hi) ∧ q.1 ≤ p ∧ p ≤ q.2
def IsGap (ps : List (Int × Int)) (lo hi : Int) : Option Int → Prop
  | none => ∀ p, lo ≤ p → p ≤ hi → covI ps lo hi p
  | some g => (lo ≤ g ∧ g ≤ hi) ∧ ¬ covI ps lo hi g ∧ ∀ p, lo ≤ p → p < g → covI ps lo hi p
theorem IsGap.uniq {ps : List (Int × Int)} {lo hi : Int} : ∀ {o o' : Option Int}, IsGap ps lo hi o → IsGap ps lo hi o' → o = o'
  | none, none, _, _ => rfl
  | none, some g, h, h' => absurd (h g h'.1.1 h'.1.2) h'.2.1
  | some g, none, h, h' => absurd (h' g h.1.1 h.1.2) h.2.1
  | some g, some g', h, h' => by
    rcases Int.lt_trichotomy g g' with z | z | z
    · exact absurd (h'.2.2 g h.1.1 z) h.2.1
    · rw [z]
    · exact absurd (h.2.2 g' h'.1.1 z) h'.2.1
noncomputable def gapO (ps : List (Int × Int)) (q : Int × Int) : Option Int := by
  classical
  exact if h : ∃ o, IsGap ps q.1 q.2 o then Classical.choose h else none
theorem gapO_eq {ps : List (Int × Int)} {q : Int × Int} {o : Option Int} (h : IsGap ps q.1 q.2 o) : gapO ps q = o := by
  unfold gapO
  rw [dif_pos ⟨o, h⟩]
  exact IsGap.uniq (Classical.choose_spec ⟨o, h⟩) h
def gv : Option Int → V
  | none => .non
  | some g => .int g
theorem Ivs.perm {H : Hp} {xs ys : List V} (pm : ys.Perm xs) : ∀ {ps : List (Int × Int)}, Ivs H xs ps → ∃ ps', Ivs H ys ps' ∧ ps'.Perm ps := by
  induction pm with
  | nil =>
    intro ps h
    exact ⟨ps, h, .refl _⟩
  | cons x _ ih =>
    intro ps h
    cases h with
    | cons e h =>
      obtain ⟨ps', h', p'⟩ := ih h
      exact ⟨_ :: ps', .cons e h', p'.cons _⟩
  | swap x y l =>
    intro ps h
    cases h with
    | cons e h =>
      cases h with
      | cons e2 h => exact ⟨_, .cons e2 (.cons e h), .swap _ _ _⟩
  | trans _ _ ih1 ih2 =>
    intro ps h
    obtain ⟨p2, h2, q2⟩ := ih2 h
    obtain ⟨p1, h1, q1⟩ := ih1 h2
    exact ⟨p1, h1, q1.trans q2⟩
theorem Ivs.pair {H : Hp} {R : V → V → Prop} {S : Int × Int → Int × Int → Prop} (rs : ∀ a b x y u v, H a = some (.tup [.int x, .int y]) → H b = some (.tup [.int u, .int v]) → R (.ref a) (.ref b) → S (x, y) (u, v)) {vs : List V} {ps : List (Int × Int)} (h : Ivs H vs ps) (pw : vs.Pairwise R) : ps.Pairwise S := by
  induction h with
  | nil => exact .nil
  | cons e h ih =>
    have p := List.pairwise_cons.mp pw
    refine List.pairwise_cons.mpr ⟨fun q hq => ?_, ih p.2⟩
    obtain ⟨b, hb, eb⟩ := h.tpsMem hq
    exact rs _ b _ _ q.1 q.2 e eb (p.1 _ hb)
theorem Ivs.mem {H : Hp} {vs : List V} {ps : List (Int × Int)} (h : Ivs H vs ps) {v : V} (hv : v ∈ vs) : ∃ a q, q ∈ ps ∧ v = .ref a ∧ H a = some (.tup [.int q.1, .int q.2]) := by
  obtain ⟨i, ei⟩ := List.getElem?_of_mem hv
  obtain ⟨a, x, y, e, ep, ea⟩ := h.get ei
  exact ⟨a, (x, y), List.mem_of_getElem? ep, e, ea⟩
/-- pieces: pairs of positions in order -/
def Pc (ps : List (Int × Int)) : Prop := ∀ q ∈ ps, (0 ≤ q.1 ∧ q.1 ≤ q.2) ∧ q.2 < 10 ^ 13
def sp_pieces_inside : Sp := fun vs H Q _ => ∃ (a t : Addr) (us : List V) (ps : List (Int × Int)) (lo hi : Int), vs = [.ref a, .ref t] ∧ H a = some (.tup us) ∧ Ivs H us ps ∧ ps.length < 1000 ∧ H t = some (.tup [.int lo, .int hi]) ∧
  ∀ H' p ws, Same H H' → H' p = some (.lst ws) → Ivs H' ws (ps.filter fun q => inI lo hi q.1 q.2) → Q (.ref p) H'
theorem ok_pieces_inside (T : Tx K mg f_contains f_pieces_inside f_first_gap f_find_missing f_without_item f_require_generated f_can_spare f_removable_pieces f_prune_pieces f_law_deck f_law_draw f_law_line f_law_interval f_law_intervals f_law_gap f_law_missing f_law_outcome f_law f_NotGenerated_init X_NotGenerated X_SpanError X_BadInterval X_BadPieces X_BadTargets X_TooWide d_contains d_pieces_inside d_first_gap d_find_missing d_without_item d_require_generated d_can_spare d_removable_pieces d_prune_pieces d_law_deck d_law_draw d_law_line d_law_interval d_law_intervals d_law_gap d_law_missing d_law_outcome d_law d_NotGenerated_init) : FnOk P w K mg base CX0 2 f_pieces_inside d_pieces_inside ["pieces", "target"] sp_pieces_inside := by
  refine T.F_pieces_inside.ok sc_pieces_inside (fun vs H Q E h => ?_) (fun cdv A outer s H vs Q E hr h => ?_)
  · obtain ⟨a, t, us, ps, lo, hi, rfl, _⟩ := h
    rfl
  · obtain ⟨a, t, us, ps, lo, hi, rfl, ha, iv, few, ht, q⟩ := h
    have lu := iv.length
    refine ⟨_, (pss_one (ps_ret (pe_lc (own := [("piece", 2)]) (g := (gName 2)) (by rfl) sc_pieces_inside.nd (pi_tup (pv 0)) (blkOk_by (own := [("piece", 2)]) (N := N_pieces_inside) (sc := defScope s_pieces_inside) (by decide +kernel)) (fun _ _ _ _ _ => (pg_name (i := 2) sc_pieces_inside.nd rfl (Or.inl rfl))) (fun _ _ _ _ _ => pts_one (pt_val (pe_call (ok_contains T) (hr.mono (by decide)) (by rfl) T.g_contains T.F_contains.kp T.b_contains .nil pass0 (pa_cons (pv 1) (pa_cons (pv 2) pa_nil))))) (fun _ _ _ _ _ => (pv 2))))), ?_⟩
    refine ⟨.ref a, rfl, a, rfl, ⟨_, SqT.of ha⟩, fun D nD => ?_⟩
    refine lcT (K := K) (a := a) (xs := us) (fun j H' ws => Ivs H' ws ((ps.take j).filter fun q => inI lo hi q.1 q.2)) nD (fun H' s => SqT.of (s _ _ ha)) (by omega) (fun _ _ _ _ t r => r.tps t) (fun j H' ws r => ?_) (fun _ => .nil) ?_ ?_
    · rw [r.length]
      exact Nat.le_trans (List.length_filter_le _ _) (List.length_take_le _ _)
    · rintro j z H' N acc hj sj eA sz r no yes
      obtain ⟨b, x, y, rfl, exy, hb⟩ := iv.get hj
      refine ⟨rfl, .ref t, rfl, .ref b, rfl, t, b, lo, hi, x, y, rfl, sj _ _ ht, sj _ _ hb, _, rfl, ite2 (fun c => ?_) (fun c => ?_)⟩
      · refine ⟨.ref b, rfl, yes H' _ (Same.refl _) ?_⟩
        rw [take_filter exy, if_pos c]
        exact r.snoc (sj _ _ hb)
      · refine no H' (Same.refl _) ?_
        rw [take_filter exy, if_neg c, List.append_nil]
        exact r
    · intro H' ws s' eD r
      rw [lu, List.take_length] at r
      exact q H' D ws s' eD r
theorem mem_inI {ps : List (Int × Int)} {lo hi : Int} {q : Int × Int} : q ∈ (ps.filter fun q => inI lo hi q.1 q.2) ↔ q ∈ ps ∧ lo ≤ q.1 ∧ q.2 ≤ hi := by
  rw [List.mem_filter]
  unfold inI
  simp only [Bool.and_eq_true, decide_eq_true_eq]
def sp_first_gap : Sp := fun vs H Q _ => ∃ (a t : Addr) (us : List V) (ps : List (Int × Int)) (lo hi : Int), vs = [.ref a, .ref t] ∧ H a = some (.tup us) ∧ Ivs H us ps ∧ Pc ps ∧ ps.length ≤ 63 ∧ H t = some (.tup [.int lo, .int hi]) ∧ lo ≤ hi ∧
  ∀ H', Same H H' → Q (gv (gapO ps (lo, hi))) H'
theorem ok_first_gap (T : Tx K mg f_contains f_pieces_inside f_first_gap f_find_missing f_without_item f_require_generated f_can_spare f_removable_pieces f_prune_pieces f_law_deck f_law_draw f_law_line f_law_interval f_law_intervals f_law_gap f_law_missing f_law_outcome f_law f_NotGenerated_init X_NotGenerated X_SpanError X_BadInterval X_BadPieces X_BadTargets X_TooWide d_contains d_pieces_inside d_first_gap d_find_missing d_without_item d_require_generated d_can_spare d_removable_pieces d_prune_pieces d_law_deck d_law_draw d_law_line d_law_interval d_law_intervals d_law_gap d_law_missing d_law_outcome d_law d_NotGenerated_init) : FnOk P w K mg base CX0 3 f_first_gap d_first_gap ["pieces", "target"] sp_first_gap := by
  refine T.F_first_gap.ok sc_first_gap (fun vs H Q E h => ?_) (fun cdv A outer s H vs Q E hr h => ?_)
  · obtain ⟨a, t, us, ps, lo, hi, rfl, _⟩ := h
    rfl
  · obtain ⟨a, t, us, ps, lo, hi, rfl, ha, iv, pc, few, ht, lh, q⟩ := h
    refine ⟨_, (pss_cons (ps_asg (pv 1) (pg_tup rfl (pgs_cons (pg_name (i := 2) sc_first_gap.nd rfl (Or.inl rfl)) (pgs_cons (pg_name (i := 3) sc_first_gap.nd rfl (Or.inl rfl)) pgs_nil))))
      (pss_cons (ps_for PassesOwn.never rfl (pi_list (pe_callB (cr_sortT (d := 2) (B := 10 ^ 13) (by decide)) (by rfl) T.z_sorted (by decide +kernel) (pa_cons (pe_call (ok_pieces_inside T) (hr.mono (by decide)) (by rfl) T.g_pieces_inside T.F_pieces_inside.kp T.b_pieces_inside .nil pass0 (pa_cons (pv 0) (pa_cons (pv 1) pa_nil))) pa_nil))) (pg_tup rfl (pgs_cons (pg_name (i := 4) sc_first_gap.nd rfl (Or.inl rfl)) (pgs_cons (pg_name (i := 5) sc_first_gap.nd rfl (Or.inl rfl)) pgs_nil)))
      (pss_cons (ps_if (pt_cmpR op_gt (pv 4) (pv 2) (nomark _))
      (pss_one (ps_ret (pv 2)))
      pss_nil)
      (pss_one (ps_set (i := 2) sc_first_gap.nd rfl (Or.inl rfl) (pe_callB (call_max2 rfl) (by rfl) T.z_max (by decide +kernel) (pa_cons (pv 2) (pa_cons (pe_op op_add (pv 5) pe_int) pa_nil)))))))
      (pss_one (ps_ret (pe_ifExp (pt_cmpR op_le (pv 2) (pv 3) (nomark _)) (pv 2) pe_non))))), ?_⟩
    refine ⟨.ref t, rfl, t, _, rfl, SqT.of ht, rfl, .int lo, [.int hi], rfl, .int hi, [], rfl, rfl, ?_⟩
    refine ⟨.ref a, rfl, .ref t, rfl, a, t, us, ps, lo, hi, rfl, ha, iv, by omega, ht, fun H1 p ws s1 ep iv1 => ?_⟩
    obtain ⟨fs, efs⟩ : ∃ fs, fs = ps.filter fun q => inI lo hi q.1 q.2 := ⟨_, rfl⟩
    have mf : ∀ q, q ∈ fs ↔ q ∈ ps ∧ lo ≤ q.1 ∧ q.2 ≤ hi := fun q => by
      rw [efs]
      exact mem_inI
    have lf : fs.length ≤ ps.length := by
      rw [efs]
      exact List.length_filter_le _ _
    rw [← efs] at iv1
    have lw := iv1.length
    have bdp : ∀ q ∈ fs, TS.Bd (10 ^ 13) [q.1, q.2] := fun q hq m hm => by
      have z := pc q ((mf q).mp hq).1
      rcases List.mem_cons.mp hm with rfl | hm
      · exact ⟨z.1.1, Int.lt_of_le_of_lt z.1.2 z.2⟩
      · rw [List.mem_singleton.mp hm]
        exact ⟨Int.le_trans z.1.1 z.1.2, z.2⟩
    refine ⟨p, ws, rfl, SqL.of ep, by omega, fun x hx => ?_, fun ys p2 pm pw np2 => ?_⟩
    · obtain ⟨b, qq, hqq, e, eb⟩ := iv1.mem hx
      exact ⟨[qq.1, qq.2], ⟨b, e, SqT.of eb⟩, rfl, bdp qq hqq⟩
    obtain ⟨gs, ivg, pmg⟩ := Ivs.perm pm iv1
    have mg : ∀ q, q ∈ gs ↔ q ∈ ps ∧ lo ≤ q.1 ∧ q.2 ≤ hi := fun q => by rw [pmg.mem_iff, mf]
    have asc : gs.Pairwise (fun a b => a.1 ≤ b.1) := by
      have z : gs.Pairwise (fun a b => TS.code (10 ^ 13) [a.1, a.2] ≤ TS.code (10 ^ 13) [b.1, b.2]) := Ivs.pair (S := fun a b => TS.code (10 ^ 13) [a.1, a.2] ≤ TS.code (10 ^ 13) [b.1, b.2]) (fun a b x y u v ea eb h => h [x, y] [u, v] ⟨a, rfl, SqT.of ea⟩ ⟨b, rfl, SqT.of eb⟩) ivg pw
      refine z.imp_of_mem fun {x y} hx hy h => ?_
      exact code_first (bdp x (pmg.mem_iff.mp hx)) (bdp y (pmg.mem_iff.mp hy)) h
    have s2 := same_new (o := .lst ys) np2
    have ep2 := upd_same (H := H1) (a := p2) (o := .lst ys)
    replace ivg := ivg.same s2
    generalize upd H1 p2 (.lst ys) = H2 at *
    have lg := ivg.length
    refine ⟨p2, rfl, ⟨_, SqL.of ep2⟩, for_list (K := K) (a := p2) (xs := ys) (fun i σ H' => H' = H2 ∧ ∃ (pos : Int) (y4 y5 : Option V), (lo ≤ pos ∧ pos ≤ hi + 1) ∧ (∀ z, lo ≤ z → z < pos → covI ps lo hi z) ∧ (∀ q ∈ gs.take i, q.2 < pos) ∧ σ = [some (.ref a), some (.ref t), some (.int pos), some (.int hi), y4, y5])
      ⟨rfl, lo, _, _, by omega, (fun z h1 h2 => absurd h1 (by omega)), (fun q hq => nomatch hq), rfl⟩ (fun i σ H' _ h => by rw [h.1]; exact SqL.of ep2) ?_ ?_⟩
    · rintro i v σ H' hi2 ⟨rfl, pos, y4, y5, b1, cv, dn, rfl⟩
      obtain ⟨b, x, y, rfl, exy, hb⟩ := ivg.get hi2
      have inq := (mg (x, y)).mp (List.mem_of_getElem? exy)
      have pq := pc _ inq.1
      simp only at inq pq
      refine ⟨b, _, rfl, SqT.of hb, rfl, .int x, [.int y], rfl, .int y, [], rfl, rfl, ?_⟩
      refine ⟨.int x, rfl, .int pos, rfl, _, _, rfl, rfl, _, rfl, ite2 (fun c => ?_) (fun c => ?_)⟩
      · have c := of_decide_eq_true c
        refine ⟨.int pos, rfl, ?_⟩
        have g : IsGap ps lo hi (some pos) := by
          refine ⟨by omega, fun ⟨q, hq, hin, h1, h2⟩ => ?_, cv⟩
          obtain ⟨j, ej⟩ := List.getElem?_of_mem ((mg q).mpr ⟨hq, hin⟩)
          rcases Nat.lt_or_ge j i with z | z
          · have := dn q (List.mem_of_getElem? (show (gs.take i)[j]? = some q by rw [List.getElem?_take_of_lt z]; exact ej))
            omega
          · have : x ≤ q.1 := by
              obtain ⟨hj', rfl⟩ := List.getElem?_eq_some_iff.mp ej
              obtain ⟨hi', e'⟩ := List.getElem?_eq_some_iff.mp exy
              rcases Nat.eq_or_lt_of_le z with z | z
              · subst z
                rw [e']
                exact Int.le_refl _
              · have := List.pairwise_iff_getElem.mp asc i j hi' hj' z
                rw [e'] at this
                exact this
            omega
        have z := q _ (s1.trans s2)
        rw [gapO_eq (q := (lo, hi)) g] at z
        exact z
      · have c : ¬ (pos < x) := fun z => c (decide_eq_true z)
        refine ⟨.int pos, rfl, .int y, rfl, _, _, rfl, rfl, _, _, rfl, rfl, mxI pos (y + 1), _, _, ?_, fun z h1 h2 => ?_, fun q hq => ?_, rfl⟩
        · unfold mxI
          split <;> omega
        · rcases Int.lt_or_le z pos with h | h
          · exact cv z h1 h
          · refine ⟨(x, y), inq.1, inq.2, ?_, ?_⟩
            · show x ≤ z
              omega
            · show z ≤ y
              unfold mxI at h2
              split at h2 <;> omega
        · rw [List.take_add_one, exy] at hq
          have m1 : pos ≤ mxI pos (y + 1) ∧ y + 1 ≤ mxI pos (y + 1) := by
            unfold mxI
            split <;> omega
          rcases List.mem_append.mp hq with hq | hq
          · have := dn q hq
            omega
          · rw [List.mem_singleton.mp hq]
            show y < _
            omega
    · rintro σ H' ⟨rfl, pos, y4, y5, b1, cv, dn, rfl⟩
      rw [lg, List.take_length] at dn
      have z := q _ (s1.trans s2)
      refine ⟨.int pos, rfl, .int hi, rfl, _, _, rfl, rfl, _, rfl, ite2 (fun c => ?_) (fun c => ?_)⟩
      · have c := of_decide_eq_true c
        have g : IsGap ps lo hi (some pos) := by
          refine ⟨by omega, fun ⟨q, hq, hin, h1, h2⟩ => ?_, cv⟩
          have := dn q ((mg q).mpr ⟨hq, hin⟩)
          omega
        rw [gapO_eq (q := (lo, hi)) g] at z
        exact ⟨.int pos, rfl, z⟩
      · have c : ¬ (pos ≤ hi) := fun z => c (decide_eq_true z)
        have g : IsGap ps lo hi none := fun p h1 h2 => cv p h1 (by omega)
        rw [gapO_eq (q := (lo, hi)) g] at z
        exact z
/-! ### the law's own search for the gap -/
def sp_law_gap (K : PySem.W.Frag) : Sp := fun vs H Q _ => ∃ (a t : Addr) (us : List V) (ps : List (Int × Int)) (lo hi : Int), vs = [.ref a, .ref t] ∧ (H a = some (.lst us) ∨ H a = some (.tup us)) ∧ Ivs H us ps ∧ ps.length < 1000 ∧ H t = some (.tup [.int lo, .int hi]) ∧ lo ≤ hi ∧
  ∀ H', Same H H' → Q (gv (gapO ps (lo, hi))) H'
theorem map2_filter_len {α : Type} {ns : List α} {p : α → Bool} {f : α → Int} (i : Nat) : ((((ns.take i).filter p).map f).map V.int).length ≤ i := by
  rw [List.length_map, List.length_map]
  exact Nat.le_trans (List.length_filter_le _ _) (List.length_take_le _ _)
def msG (hi : Int) (σ : L2.St) : Nat := match σ[2]? with
  | some (some (V.int p)) => (hi + 1 - p).toNat
  | _ => 0
theorem ok_law_gap (T : Tx K mg f_contains f_pieces_inside f_first_gap f_find_missing f_without_item f_require_generated f_can_spare f_removable_pieces f_prune_pieces f_law_deck f_law_draw f_law_line f_law_interval f_law_intervals f_law_gap f_law_missing f_law_outcome f_law f_NotGenerated_init X_NotGenerated X_SpanError X_BadInterval X_BadPieces X_BadTargets X_TooWide d_contains d_pieces_inside d_first_gap d_find_missing d_without_item d_require_generated d_can_spare d_removable_pieces d_prune_pieces d_law_deck d_law_draw d_law_line d_law_interval d_law_intervals d_law_gap d_law_missing d_law_outcome d_law d_NotGenerated_init) : FnOk P w K mg base CX0 1 f_law_gap d_law_gap ["_law_pieces", "_law_target"] (sp_law_gap K) := by
  refine T.F_law_gap.ok sc_law_gap (fun vs H Q E h => ?_) (fun cdv A outer s H vs Q E hr h => ?_)
  · obtain ⟨a, t, us, ps, lo, hi, rfl, _⟩ := h
    rfl
  · obtain ⟨a, t, us, ps, lo, hi, rfl, hau, iv, few, ht, lh, q⟩ := h
    have lu := iv.length
    -- what a turn needs, whatever the pieces stand in
    have turn : ∀ (pos : Int) (H1 : Hp) (N : Prop), Same H H1 → (lo ≤ pos ∧ pos ≤ hi) → (∀ z, lo ≤ z → z < pos → covI ps lo hi z) → ∀ es, es = (((ps.filter fun q => decide ((lo ≤ q.1 ∧ q.1 ≤ pos) ∧ pos ≤ q.2)).map (·.2)).filter fun e => decide (e ≤ hi)) →
        (es = [] → IsGap ps lo hi (some pos)) ∧ (∀ m, m ∈ es → (∀ y ∈ es, y ≤ m) → (lo ≤ m + 1 ∧ m + 1 ≤ hi + 1) ∧ pos < m + 1 ∧ ∀ z, lo ≤ z → z < m + 1 → covI ps lo hi z) := by
      intro pos H1 N _ b1 cv es ees
      have mes : ∀ e, e ∈ es ↔ ∃ q ∈ ps, ((lo ≤ q.1 ∧ q.1 ≤ pos) ∧ pos ≤ q.2) ∧ q.2 = e ∧ e ≤ hi := fun e => by
        rw [ees, List.mem_filter]
        constructor
        · rintro ⟨h1, h2⟩
          obtain ⟨q, hq, rfl⟩ := List.mem_map.mp h1
          have z := List.mem_filter.mp hq
          exact ⟨q, z.1, of_decide_eq_true z.2, rfl, of_decide_eq_true h2⟩
        · rintro ⟨q, hq, h1, h2, h3⟩
          exact ⟨List.mem_map.mpr ⟨q, List.mem_filter.mpr ⟨hq, decide_eq_true h1⟩, h2⟩, decide_eq_true h3⟩
      refine ⟨fun e => ⟨b1, fun ⟨q, hq, hin, h1, h2⟩ => ?_, cv⟩, fun m hm top => ?_⟩
      · have z : q.2 ∈ es := (mes q.2).mpr ⟨q, hq, ⟨⟨hin.1, h1⟩, h2⟩, rfl, hin.2⟩
        rw [e] at z
        cases z
      · obtain ⟨q, hq, h1, h2, h3⟩ := (mes m).mp hm
        refine ⟨by omega, by omega, fun z z1 z2 => ?_⟩
        rcases Int.lt_or_le z pos with h | h
        · exact cv z z1 h
        · exact ⟨q, hq, ⟨h1.1.1, by omega⟩, by omega, by omega⟩
    have done : ∀ (pos : Int) (H1 : Hp), Same H H1 → hi < pos → (∀ z, lo ≤ z → z < pos → covI ps lo hi z) → Q .non H1 := fun pos H1 s1 h cv => by
      have g : IsGap ps lo hi none := fun p h1 h2 => cv p h1 (by omega)
      have z := q _ s1
      rw [gapO_eq (q := (lo, hi)) g] at z
      exact z
    rcases hau with ha | ha
    · refine ⟨_, (pss_cons (ps_set (i := 2) sc_law_gap.nd rfl (Or.inr rfl) (pe_ix ix_tup (pv 1) pe_int (fun _ _ => rfl)))
      (pss_cons (ps_while PassesOwn.never (pt_cmpR op_le (pv 2) (pe_ix ix_tup (pv 1) pe_int (fun _ _ => rfl)) (nomark _))
      (pss_cons (ps_setLc (i := 3) (own := [("_law_start", 4), ("_law_end", 5)]) (g := (gTup K 2 (gCons (gName 4) (gCons (gName 5) gNil)))) (by rfl) sc_law_gap.nd rfl rfl (sw_true rfl rfl rfl (by decide +kernel)) (pi_list (pv 0)) (blkOk_by (own := [("_law_start", 4), ("_law_end", 5)]) (N := N_law_gap) (sc := defScope s_law_gap) (by decide +kernel)) (fun _ _ _ _ _ => (pg_tup rfl (pgs_cons (pg_name (i := 4) sc_law_gap.nd rfl (Or.inl rfl)) (pgs_cons (pg_name (i := 5) sc_law_gap.nd rfl (Or.inl rfl)) pgs_nil)))) (fun _ _ _ _ _ => pts_one (pt_chN (pe_ix (show IxR _ (rIxT K) from ix_tup) (pv 1) pe_int (fun _ _ => rfl)) (pchT_link op_le (pv 4) (pchT_link op_le (pv 2) (pchT_last op_le (pv 5)))))) (fun _ _ _ _ _ => (pv 5)))
      (pss_cons (ps_setLc (i := 3) (own := [("_law_end", 5)]) (g := (gName 5)) (by rfl) sc_law_gap.nd rfl rfl (sw_true rfl rfl rfl (by decide +kernel)) (pi_list (pv 3)) (blkOk_by (own := [("_law_end", 5)]) (N := N_law_gap) (sc := defScope s_law_gap) (by decide +kernel)) (fun _ _ _ _ _ => (pg_name (i := 5) sc_law_gap.nd rfl (Or.inl rfl))) (fun _ _ _ _ _ => pts_one (pt_cmpR op_le (pv 5) (pe_ix (show IxR _ (rIxT K) from ix_tup) (pv 1) pe_int (fun _ _ => rfl)) (nomark _))) (fun _ _ _ _ _ => (pv 5)))
      (pss_cons (ps_if (pt_cmpR (op_eqL hr.units0) (pv 3) (pe_lst pa_nil) (nomark _))
      (pss_one (ps_ret (pv 2)))
      pss_nil)
      (pss_one (ps_set (i := 2) sc_law_gap.nd rfl (Or.inr rfl) (pe_op op_add (pe_callB (cr_max rfl) (by rfl) T.z_max (by decide +kernel) (pa_cons (pv 3) pa_nil)) pe_int)))))))
      (pss_one (ps_ret pe_non)))), ?_⟩
      refine ⟨.ref t, rfl, t, _, 0, .int lo, rfl, rfl, SqT.of ht, rfl, ?_⟩
      refine while_by (fun σ H' => Same H H' ∧ ∃ (pos : Int) (y3 y4 y5 : Option V), (lo ≤ pos ∧ pos ≤ hi + 1) ∧ (∀ z, lo ≤ z → z < pos → covI ps lo hi z) ∧ σ = [some (.ref a), some (.ref t), some (.int pos), y3, y4, y5]) (fun σ _ => msG hi σ) ⟨Same.refl _, lo, _, _, _, by omega, (fun z h1 h2 => absurd h1 (by omega)), rfl⟩ ?_ ?_
      · rintro σ H1 ⟨s1, pos, y3, y4, y5, b1, cv, rfl⟩
        refine ⟨.int pos, rfl, .ref t, rfl, t, _, 1, .int hi, rfl, rfl, SqT.of (s1 _ _ ht), rfl, _, _, rfl, rfl, _, rfl, ite2 (fun c => ?_) (fun c => ?_)⟩
        · have c := of_decide_eq_true c
          refine ⟨.ref a, rfl, a, rfl, ⟨_, SqL.of (s1 _ _ ha)⟩, fun D nD => ?_⟩
          refine lcL (K := K) (a := a) (xs := us) (fun j H' ws => ws = (((ps.take j).filter fun q => decide ((lo ≤ q.1 ∧ q.1 ≤ pos) ∧ pos ≤ q.2)).map (·.2)).map V.int) nD (fun H' s => SqL.of (s _ _ (s1 _ _ ha))) (by omega) (fun _ _ _ _ _ r => r) (fun j H' ws r => by rw [r]; exact map2_filter_len j) (fun _ => rfl) ?_ ?_
          · rintro j v H' N acc hj sj eA sz r no yes
            obtain ⟨b, x, y, rfl, exy, hb⟩ := iv.get hj
            have sA := s1.trans sj
            have hb' := sA _ _ hb
            have out : ¬ ((lo ≤ x ∧ x ≤ pos) ∧ pos ≤ y) → N H' := fun e => by
              refine no H' (Same.refl _) ?_
              rw [r, take_filter exy, if_neg (fun z => e (of_decide_eq_true z)), List.append_nil]
            refine ⟨b, _, rfl, SqT.of hb', rfl, .int x, [.int y], rfl, .int y, [], rfl, rfl, rfl, .ref t, rfl, t, _, 0, .int lo, rfl, rfl, SqT.of (sA _ _ ht), rfl, .int x, rfl, _, _, rfl, rfl, _, rfl, ite2 (fun c1 => ?_) (fun c1 => ?_)⟩
            · refine ⟨.int pos, rfl, _, _, rfl, rfl, _, rfl, ite2 (fun c2 => ?_) (fun c2 => ?_)⟩
              · refine ⟨.int y, rfl, _, _, rfl, rfl, _, rfl, ite2 (fun c3 => ?_) (fun c3 => ?_)⟩
                · refine ⟨.int y, rfl, yes H' _ (Same.refl _) ?_⟩
                  rw [r, take_filter exy, if_pos (decide_eq_true ⟨⟨of_decide_eq_true c1, of_decide_eq_true c2⟩, of_decide_eq_true c3⟩), List.map_append, List.map_append]
                  rfl
                · exact out fun e => c3 (decide_eq_true e.2)
              · exact ⟨_, rfl, iteF (out fun e => c2 (decide_eq_true e.1.2))⟩
            · exact ⟨_, rfl, iteF (out fun e => c1 (decide_eq_true e.1.1))⟩
          · intro H2 ws s2 eD r
            rw [lu, List.take_length] at r
            subst r
            have s12 := s1.trans s2
            have ll := List.length_filter_le (fun q : Int × Int => decide ((lo ≤ q.1 ∧ q.1 ≤ pos) ∧ pos ≤ q.2)) ps
            obtain ⟨fs, efs⟩ : ∃ fs, fs = ((ps.filter fun q => decide ((lo ≤ q.1 ∧ q.1 ≤ pos) ∧ pos ≤ q.2)).map (·.2)) := ⟨_, rfl⟩
            have lfs : fs.length < 1000 := by rw [efs, List.length_map]; omega
            have tn := turn pos H2 True s12 ⟨b1.1, c⟩ cv
            rw [← efs] at eD tn
            refine ⟨.ref D, rfl, D, rfl, ⟨_, SqL.of eD⟩, fun D2 nD2 => ?_⟩
            refine lcL (K := K) (a := D) (xs := fs.map V.int) (fun j H' ws => ws = ((fs.take j).filter fun e => decide (e ≤ hi)).map V.int) nD2 (fun H' s => SqL.of (s _ _ eD)) (by rw [List.length_map]; exact lfs) (fun _ _ _ _ _ r => r) (fun j H' ws r => by rw [r]; exact map_filter_len j) (fun _ => rfl) ?_ ?_
            · rintro j v H' N acc hj sj eA sz r no yes
              rw [List.getElem?_map] at hj
              obtain ⟨e, ee, rfl⟩ := Option.map_eq_some_iff.mp hj
              refine ⟨rfl, .int e, rfl, .ref t, rfl, t, _, 1, .int hi, rfl, rfl, SqT.of (sj _ _ (s12 _ _ ht)), rfl, _, _, rfl, rfl, _, rfl, ite2 (fun c1 => ?_) (fun c1 => ?_)⟩
              · refine ⟨.int e, rfl, yes H' _ (Same.refl _) ?_⟩
                rw [r, take_filter ee, if_pos c1, List.map_append]
                rfl
              · refine no H' (Same.refl _) ?_
                rw [r, take_filter ee, if_neg c1, List.append_nil]
            · intro H3 ws s3 eD2 r
              rw [List.length_map, List.take_length] at r
              subst r
              obtain ⟨es, ees⟩ : ∃ es, es = fs.filter fun e => decide (e ≤ hi) := ⟨_, rfl⟩
              have tn2 := tn es ees
              rw [← ees] at eD2
              have s13 := s12.trans s3
              refine ⟨.ref D2, rfl, by show 0 ≤ sizeLine; decide, fun z nz => ?_⟩
              have s4 := same_new (o := .lst []) nz
              refine ⟨D2, z, _, rfl, rfl, SqL.of (s4 _ _ eD2), SqL.of upd_same, _, rfl, ite2 (fun c1 => ?_) (fun c1 => ?_)⟩
              · have e0 : es = [] := by
                  rw [List.isEmpty_iff, List.map_eq_nil_iff] at c1
                  exact c1
                have zz := q _ (s13.trans s4)
                rw [gapO_eq (q := (lo, hi)) (tn2.1 e0)] at zz
                exact ⟨.int pos, rfl, zz⟩
              · have ne : 0 < es.length := by
                  cases es with
                  | nil => exact absurd rfl c1
                  | cons x r => exact Nat.succ_pos _
                refine ⟨.ref D2, rfl, D2, es, rfl, SqL.of (s4 _ _ eD2), ne, fun m hm top => ?_⟩
                obtain ⟨w1, w2, w3⟩ := tn2.2 m hm top
                refine ⟨_, _, rfl, rfl, ⟨s13.trans s4, m + 1, _, _, _, w1, w3, rfl⟩, ?_⟩
                show (hi + 1 - (m + 1)).toNat < (hi + 1 - pos).toNat
                omega
        · exact done pos H1 s1 (by have h : ¬ pos ≤ hi := fun z => c (decide_eq_true z); omega) cv
      · rintro σ H1 Q1 Q2 hm ⟨v1, e1, v2, e2, p, xs, ix, v3, e3, e4, e5, e6, i, j, e7, e8, k, e9, z⟩
        exact ⟨v1, e1, v2, e2, p, xs, ix, v3, e3, e4, e5, e6, i, j, e7, e8, k, e9, hm _ _ z⟩
    · refine ⟨_, (pss_cons (ps_set (i := 2) sc_law_gap.nd rfl (Or.inr rfl) (pe_ix ix_tup (pv 1) pe_int (fun _ _ => rfl)))
      (pss_cons (ps_while PassesOwn.never (pt_cmpR op_le (pv 2) (pe_ix ix_tup (pv 1) pe_int (fun _ _ => rfl)) (nomark _))
      (pss_cons (ps_setLc (i := 3) (own := [("_law_start", 4), ("_law_end", 5)]) (g := (gTup K 2 (gCons (gName 4) (gCons (gName 5) gNil)))) (by rfl) sc_law_gap.nd rfl rfl (sw_true rfl rfl rfl (by decide +kernel)) (pi_tup (pv 0)) (blkOk_by (own := [("_law_start", 4), ("_law_end", 5)]) (N := N_law_gap) (sc := defScope s_law_gap) (by decide +kernel)) (fun _ _ _ _ _ => (pg_tup rfl (pgs_cons (pg_name (i := 4) sc_law_gap.nd rfl (Or.inl rfl)) (pgs_cons (pg_name (i := 5) sc_law_gap.nd rfl (Or.inl rfl)) pgs_nil)))) (fun _ _ _ _ _ => pts_one (pt_chN (pe_ix (show IxR _ (rIxT K) from ix_tup) (pv 1) pe_int (fun _ _ => rfl)) (pchT_link op_le (pv 4) (pchT_link op_le (pv 2) (pchT_last op_le (pv 5)))))) (fun _ _ _ _ _ => (pv 5)))
      (pss_cons (ps_setLc (i := 3) (own := [("_law_end", 5)]) (g := (gName 5)) (by rfl) sc_law_gap.nd rfl rfl (sw_true rfl rfl rfl (by decide +kernel)) (pi_list (pv 3)) (blkOk_by (own := [("_law_end", 5)]) (N := N_law_gap) (sc := defScope s_law_gap) (by decide +kernel)) (fun _ _ _ _ _ => (pg_name (i := 5) sc_law_gap.nd rfl (Or.inl rfl))) (fun _ _ _ _ _ => pts_one (pt_cmpR op_le (pv 5) (pe_ix (show IxR _ (rIxT K) from ix_tup) (pv 1) pe_int (fun _ _ => rfl)) (nomark _))) (fun _ _ _ _ _ => (pv 5)))
      (pss_cons (ps_if (pt_cmpR (op_eqL hr.units0) (pv 3) (pe_lst pa_nil) (nomark _))
      (pss_one (ps_ret (pv 2)))
      pss_nil)
      (pss_one (ps_set (i := 2) sc_law_gap.nd rfl (Or.inr rfl) (pe_op op_add (pe_callB (cr_max rfl) (by rfl) T.z_max (by decide +kernel) (pa_cons (pv 3) pa_nil)) pe_int)))))))
      (pss_one (ps_ret pe_non)))), ?_⟩
      refine ⟨.ref t, rfl, t, _, 0, .int lo, rfl, rfl, SqT.of ht, rfl, ?_⟩
      refine while_by (fun σ H' => Same H H' ∧ ∃ (pos : Int) (y3 y4 y5 : Option V), (lo ≤ pos ∧ pos ≤ hi + 1) ∧ (∀ z, lo ≤ z → z < pos → covI ps lo hi z) ∧ σ = [some (.ref a), some (.ref t), some (.int pos), y3, y4, y5]) (fun σ _ => msG hi σ) ⟨Same.refl _, lo, _, _, _, by omega, (fun z h1 h2 => absurd h1 (by omega)), rfl⟩ ?_ ?_
      · rintro σ H1 ⟨s1, pos, y3, y4, y5, b1, cv, rfl⟩
        refine ⟨.int pos, rfl, .ref t, rfl, t, _, 1, .int hi, rfl, rfl, SqT.of (s1 _ _ ht), rfl, _, _, rfl, rfl, _, rfl, ite2 (fun c => ?_) (fun c => ?_)⟩
        · have c := of_decide_eq_true c
          refine ⟨.ref a, rfl, a, rfl, ⟨_, SqT.of (s1 _ _ ha)⟩, fun D nD => ?_⟩
          refine lcT (K := K) (a := a) (xs := us) (fun j H' ws => ws = (((ps.take j).filter fun q => decide ((lo ≤ q.1 ∧ q.1 ≤ pos) ∧ pos ≤ q.2)).map (·.2)).map V.int) nD (fun H' s => SqT.of (s _ _ (s1 _ _ ha))) (by omega) (fun _ _ _ _ _ r => r) (fun j H' ws r => by rw [r]; exact map2_filter_len j) (fun _ => rfl) ?_ ?_
          · rintro j v H' N acc hj sj eA sz r no yes
            obtain ⟨b, x, y, rfl, exy, hb⟩ := iv.get hj
            have sA := s1.trans sj
            have hb' := sA _ _ hb
            have out : ¬ ((lo ≤ x ∧ x ≤ pos) ∧ pos ≤ y) → N H' := fun e => by
              refine no H' (Same.refl _) ?_
              rw [r, take_filter exy, if_neg (fun z => e (of_decide_eq_true z)), List.append_nil]
            refine ⟨b, _, rfl, SqT.of hb', rfl, .int x, [.int y], rfl, .int y, [], rfl, rfl, rfl, .ref t, rfl, t, _, 0, .int lo, rfl, rfl, SqT.of (sA _ _ ht), rfl, .int x, rfl, _, _, rfl, rfl, _, rfl, ite2 (fun c1 => ?_) (fun c1 => ?_)⟩
            · refine ⟨.int pos, rfl, _, _, rfl, rfl, _, rfl, ite2 (fun c2 => ?_) (fun c2 => ?_)⟩
              · refine ⟨.int y, rfl, _, _, rfl, rfl, _, rfl, ite2 (fun c3 => ?_) (fun c3 => ?_)⟩
                · refine ⟨.int y, rfl, yes H' _ (Same.refl _) ?_⟩
                  rw [r, take_filter exy, if_pos (decide_eq_true ⟨⟨of_decide_eq_true c1, of_decide_eq_true c2⟩, of_decide_eq_true c3⟩), List.map_append, List.map_append]
                  rfl
                · exact out fun e => c3 (decide_eq_true e.2)
              · exact ⟨_, rfl, iteF (out fun e => c2 (decide_eq_true e.1.2))⟩
            · exact ⟨_, rfl, iteF (out fun e => c1 (decide_eq_true e.1.1))⟩
          · intro H2 ws s2 eD r
            rw [lu, List.take_length] at r
            subst r
            have s12 := s1.trans s2
            have ll := List.length_filter_le (fun q : Int × Int => decide ((lo ≤ q.1 ∧ q.1 ≤ pos) ∧ pos ≤ q.2)) ps
            obtain ⟨fs, efs⟩ : ∃ fs, fs = ((ps.filter fun q => decide ((lo ≤ q.1 ∧ q.1 ≤ pos) ∧ pos ≤ q.2)).map (·.2)) := ⟨_, rfl⟩
            have lfs : fs.length < 1000 := by rw [efs, List.length_map]; omega
            have tn := turn pos H2 True s12 ⟨b1.1, c⟩ cv
            rw [← efs] at eD tn
            refine ⟨.ref D, rfl, D, rfl, ⟨_, SqL.of eD⟩, fun D2 nD2 => ?_⟩
            refine lcL (K := K) (a := D) (xs := fs.map V.int) (fun j H' ws => ws = ((fs.take j).filter fun e => decide (e ≤ hi)).map V.int) nD2 (fun H' s => SqL.of (s _ _ eD)) (by rw [List.length_map]; exact lfs) (fun _ _ _ _ _ r => r) (fun j H' ws r => by rw [r]; exact map_filter_len j) (fun _ => rfl) ?_ ?_
            · rintro j v H' N acc hj sj eA sz r no yes
              rw [List.getElem?_map] at hj
              obtain ⟨e, ee, rfl⟩ := Option.map_eq_some_iff.mp hj
              refine ⟨rfl, .int e, rfl, .ref t, rfl, t, _, 1, .int hi, rfl, rfl, SqT.of (sj _ _ (s12 _ _ ht)), rfl, _, _, rfl, rfl, _, rfl, ite2 (fun c1 => ?_) (fun c1 => ?_)⟩
              · refine ⟨.int e, rfl, yes H' _ (Same.refl _) ?_⟩
                rw [r, take_filter ee, if_pos c1, List.map_append]
                rfl
              · refine no H' (Same.refl _) ?_
                rw [r, take_filter ee, if_neg c1, List.append_nil]
            · intro H3 ws s3 eD2 r
              rw [List.length_map, List.take_length] at r
              subst r
              obtain ⟨es, ees⟩ : ∃ es, es = fs.filter fun e => decide (e ≤ hi) := ⟨_, rfl⟩
              have tn2 := tn es ees
              rw [← ees] at eD2
              have s13 := s12.trans s3
              refine ⟨.ref D2, rfl, by show 0 ≤ sizeLine; decide, fun z nz => ?_⟩
              have s4 := same_new (o := .lst []) nz
              refine ⟨D2, z, _, rfl, rfl, SqL.of (s4 _ _ eD2), SqL.of upd_same, _, rfl, ite2 (fun c1 => ?_) (fun c1 => ?_)⟩
              · have e0 : es = [] := by
                  rw [List.isEmpty_iff, List.map_eq_nil_iff] at c1
                  exact c1
                have zz := q _ (s13.trans s4)
                rw [gapO_eq (q := (lo, hi)) (tn2.1 e0)] at zz
                exact ⟨.int pos, rfl, zz⟩
              · have ne : 0 < es.length := by
                  cases es with
                  | nil => exact absurd rfl c1
                  | cons x r => exact Nat.succ_pos _
                refine ⟨.ref D2, rfl, D2, es, rfl, SqL.of (s4 _ _ eD2), ne, fun m hm top => ?_⟩
                obtain ⟨w1, w2, w3⟩ := tn2.2 m hm top
                refine ⟨_, _, rfl, rfl, ⟨s13.trans s4, m + 1, _, _, _, w1, w3, rfl⟩, ?_⟩
                show (hi + 1 - (m + 1)).toNat < (hi + 1 - pos).toNat
                omega
        · exact done pos H1 s1 (by have h : ¬ pos ≤ hi := fun z => c (decide_eq_true z); omega) cv
      · rintro σ H1 Q1 Q2 hm ⟨v1, e1, v2, e2, p, xs, ix, v3, e3, e4, e5, e6, i, j, e7, e8, k, e9, z⟩
        exact ⟨v1, e1, v2, e2, p, xs, ix, v3, e3, e4, e5, e6, i, j, e7, e8, k, e9, hm _ _ z⟩

/-! ### tuples joined and cut, whichever object comes out -/
theorem catA_any {K : PySem.W.Frag} {H : Hp} {a b : Addr} {xs ys : List V} {Q : VK} (h1 : H a = some (.tup xs)) (h2 : H b = some (.tup ys)) (sz : xs.length + ys.length ≤ sizeLine) (k : ∀ H' p, Same H H' → H' p = some (.tup (xs ++ ys)) → Q (.ref p) H') : rCatA K (.ref a) (.ref b) H Q := by
  refine ⟨a, b, xs, ys, rfl, rfl, SqT.of h1, SqT.of h2, sz, fun e => k H b (Same.refl _) ?_, fun _ e => k H a (Same.refl _) ?_, fun _ _ p np => k _ p (same_new np) upd_same⟩
  · rw [e]
    exact h2
  · rw [e, List.append_nil]
    exact h1
theorem slA_any {K : PySem.W.Frag} {H : Hp} {a : Addr} {xs : List V} {lo hi : Option Int} {Q : VK} (h1 : H a = some (.tup xs)) (k : ∀ H' p, Same H H' → H' p = some (.tup (cutV xs lo hi)) → Q (.ref p) H') : rSlA K (.ref a) lo hi H Q := by
  refine ⟨a, xs, rfl, SqT.of h1, fun e => k H a (Same.refl _) ?_, fun _ p np => k _ p (same_new np) upd_same⟩
  have e2 : cutV xs lo hi = xs := by
    unfold cutV
    rw [e.1, e.2]
    simp
  rw [e2]
  exact h1
theorem cutFrom (xs : List V) (j : Nat) : cutV xs (some (j : Int)) none = xs.drop j := by
  unfold cutV
  rw [show HT.sIx xs.length 0 (some (j : Int)) = min j xs.length from HT.sIx_nat xs.length 0 j, HT.sIx_none]
  rcases Nat.le_total j xs.length with h | h
  · rw [Nat.min_eq_left h]
    exact List.take_of_length_le (by rw [List.length_drop]; exact Nat.le_refl _)
  · rw [Nat.min_eq_right h, List.drop_of_length_le (Nat.le_refl _), List.drop_of_length_le h]
    exact List.take_nil
theorem Ivs.take {H : Hp} {vs : List V} {ps : List (Int × Int)} (h : Ivs H vs ps) : ∀ n : Nat, Ivs H (vs.take n) (ps.take n) := by
  induction h with
  | nil =>
    intro n
    rw [List.take_nil, List.take_nil]
    exact .nil
  | cons e _ ih =>
    intro n
    cases n with
    | zero => exact .nil
    | succ n => exact .cons e (ih n)
theorem Ivs.drop {H : Hp} {vs : List V} {ps : List (Int × Int)} (h : Ivs H vs ps) : ∀ n : Nat, Ivs H (vs.drop n) (ps.drop n) := by
  induction h with
  | nil =>
    intro n
    rw [List.drop_nil, List.drop_nil]
    exact .nil
  | cons e h ih =>
    intro n
    cases n with
    | zero => exact .cons e h
    | succ n => exact ih n
theorem Pc.take {ps : List (Int × Int)} (h : Pc ps) (n : Nat) : Pc (ps.take n) := fun q hq => h q (List.mem_of_mem_take hq)
theorem Pc.drop {ps : List (Int × Int)} (h : Pc ps) (n : Nat) : Pc (ps.drop n) := fun q hq => h q (List.mem_of_mem_drop hq)
theorem Row.pc {ls : List Int} (ln : Ln ls) {ps : List (Int × Int)} (h : Row ls ps) : Pc ps := fun q hq => by
  have z := h.ok q hq
  have z1 := ln.ok _ z.1.1
  have z2 := ln.ok _ z.1.2
  omega
/-- a row in a tuple -/
def Tp (m : Nat) (H : Hp) (v : V) : Prop := ∃ (a : Addr) (us : List V) (ps : List (Int × Int)), v = .ref a ∧ H a = some (.tup us) ∧ Ivs H us ps ∧ Pc ps ∧ ps.length ≤ m
theorem Tp.tps {m : Nat} {H H' : Hp} (s : Tps H H') {v : V} (h : Tp m H v) : Tp m H' v := by
  obtain ⟨a, us, ps, e, e1, i, r⟩ := h
  exact ⟨a, us, ps, e, s _ _ e1, i.tps s, r⟩
theorem sm_tps {ps : List (Int × Int)} (pc : Pc ps) {n : Nat} (hn : ps.length ≤ n) : Sm (n * 203) 2 (.tuple (ps.map pairD)) := by
  refine (Sm.tup (n := 202) (dp := 1) (fun d hd => ?_)).mono ?_ (Nat.le_refl _)
  · obtain ⟨q, hq, rfl⟩ := List.mem_map.mp hd
    have z := pc q hq
    exact sm2 (by omega) (by omega)
  · rw [List.length_map]
    exact Nat.mul_le_mul_right _ hn

/-! ### the first missing demand -/
theorem iteND {c A B : Prop} [Decidable c] (hc : ¬ c) (h : A) : if (!decide c) = true then A else B := by
  rw [decide_eq_false hc]
  exact iteT h
theorem gap_upto (ps : List (Int × Int)) (lo hi : Int) : ∀ k : Nat, (∀ p, lo ≤ p → p < lo + k → covI ps lo hi p) ∨ ∃ g, (lo ≤ g ∧ g < lo + k) ∧ ¬ covI ps lo hi g ∧ ∀ p, lo ≤ p → p < g → covI ps lo hi p
  | 0 => .inl fun p h1 h2 => absurd h1 (by omega)
  | k + 1 => by
    rcases gap_upto ps lo hi k with h | ⟨g, h1, h2⟩
    · by_cases c : covI ps lo hi (lo + k)
      · refine .inl fun p h1 h2 => ?_
        rcases Int.lt_or_le p (lo + k) with z | z
        · exact h p h1 z
        · have : p = lo + k := by omega
          rw [this]
          exact c
      · exact .inr ⟨lo + k, by omega, c, fun p h1 h2 => h p h1 h2⟩
    · exact .inr ⟨g, by omega, h2⟩
theorem gapO_spec (ps : List (Int × Int)) (q : Int × Int) : IsGap ps q.1 q.2 (gapO ps q) := by
  have ex : ∃ o, IsGap ps q.1 q.2 o := by
    rcases gap_upto ps q.1 q.2 (q.2 + 1 - q.1).toNat with h | ⟨g, h1, h2, h3⟩
    · exact ⟨none, fun p h1 h2 => h p h1 (by omega)⟩
    · exact ⟨some g, ⟨h1.1, by omega⟩, h2, h3⟩
  obtain ⟨o, h⟩ := ex
  rw [gapO_eq h]
  exact h
noncomputable def misF (ps : List (Int × Int)) (t : Int × Int) : Option (Int × Int × Int) := (gapO ps t).map fun g => (g, t.1, t.2)
noncomputable def missO (ps ts : List (Int × Int)) : Option (Int × Int × Int) := ts.findSome? (misF ps)
theorem miss_step {f : Int × Int → Option (Int × Int × Int)} {ps : List (Int × Int)} {i : Nat} {q : Int × Int} (e : ps[i]? = some q) : (ps.drop i).findSome? f = match f q with
    | some r => some r
    | none => (ps.drop (i + 1)).findSome? f := by
  obtain ⟨hi, rfl⟩ := List.getElem?_eq_some_iff.mp e
  rw [List.drop_eq_getElem_cons hi, List.findSome?_cons]
  cases f ps[i] <;> rfl
theorem missO_some {ps ts : List (Int × Int)} {g lo hi : Int} (h : missO ps ts = some (g, lo, hi)) : (lo, hi) ∈ ts ∧ gapO ps (lo, hi) = some g := by
  unfold missO at h
  obtain ⟨t, ht, e⟩ := List.exists_of_findSome?_eq_some h
  unfold misF at e
  obtain ⟨g', e1, e2⟩ := Option.map_eq_some_iff.mp e
  cases e2
  exact ⟨ht, e1⟩
theorem missO_none {ps ts : List (Int × Int)} : missO ps ts = none ↔ ∀ t ∈ ts, gapO ps t = none := by
  unfold missO misF
  rw [List.findSome?_eq_none_iff]
  constructor
  · intro h t ht
    have z := h t ht
    rw [Option.map_eq_none_iff] at z
    exact z
  · intro h t ht
    rw [h t ht]
    rfl
theorem gap_self {ps : List (Int × Int)} {t : Int × Int} (h : t ∈ ps) : gapO ps t = none := gapO_eq (show IsGap ps t.1 t.2 none from fun p h1 h2 => ⟨t, h, ⟨Int.le_refl _, Int.le_refl _⟩, h1, h2⟩)
def demD : Option (Int × Int × Int) → PyData
  | none => .none
  | some (g, lo, hi) => .tuple [.int g, .tuple [.int lo, .int hi]]
def DV (H : Hp) (v : V) : Option (Int × Int × Int) → Prop
  | none => v = .non
  | some (g, lo, hi) => ∃ u t, v = .ref u ∧ H u = some (.tup [.int g, .ref t]) ∧ H t = some (.tup [.int lo, .int hi])
theorem DV.tps {H H' : Hp} (s : Tps H H') {v : V} {o : Option (Int × Int × Int)} (h : DV H v o) : DV H' v o := by
  match o, h with
  | none, h => exact h
  | some (g, lo, hi), h =>
    obtain ⟨u, t, e, e1, e2⟩ := h
    exact ⟨u, t, e, s _ _ e1, s _ _ e2⟩
theorem DV.dp {K : PySem.W.Frag} {H : Hp} {v : V} {o : Option (Int × Int × Int)} (h : DV H v o) : Dp K H v (demD o) := by
  match o, h with
  | none, h =>
    cases h
    exact .non
  | some (g, lo, hi), h =>
    obtain ⟨u, t, e, e1, e2⟩ := h
    subst e
    exact .tup (SqT.of e1) (.cons (.int g) (.cons (dp2 e2) .nil))
theorem sm_dem {o : Option (Int × Int × Int)} (h : ∀ g lo hi, o = some (g, lo, hi) → g.natAbs < 10 ^ 30 ∧ lo.natAbs < 10 ^ 30 ∧ hi.natAbs < 10 ^ 30) : Sm 406 2 (demD o) := by
  match o, h with
  | none, _ => exact Sm.none.mono (by decide) (by decide)
  | some (g, lo, hi), h =>
    obtain ⟨h1, h2, h3⟩ := h g lo hi rfl
    exact Sm.tup (n := 202) (dp := 1) (ds := [.int g, .tuple [.int lo, .int hi]]) (fun d hd => by
      rcases List.mem_cons.mp hd with rfl | hd
      · exact (Sm.int h1).mono (by decide) (by decide)
      · rcases List.mem_cons.mp hd with rfl | hd
        · exact sm2 h2 h3
        · cases hd)
def Tg (ts : List (Int × Int)) : Prop := ∀ t ∈ ts, t.1 ≤ t.2
def sp_find_missing : Sp := fun vs H Q _ => ∃ (a b : Addr) (tus us : List V) (ts ps : List (Int × Int)), vs = [.ref a, .ref b] ∧ H a = some (.tup tus) ∧ Ivs H tus ts ∧ Tg ts ∧ H b = some (.tup us) ∧ Ivs H us ps ∧ Pc ps ∧ ps.length ≤ 63 ∧
  ∀ H' r, Same H H' → DV H' r (missO ps ts) → Q r H'
theorem ok_find_missing (T : Tx K mg f_contains f_pieces_inside f_first_gap f_find_missing f_without_item f_require_generated f_can_spare f_removable_pieces f_prune_pieces f_law_deck f_law_draw f_law_line f_law_interval f_law_intervals f_law_gap f_law_missing f_law_outcome f_law f_NotGenerated_init X_NotGenerated X_SpanError X_BadInterval X_BadPieces X_BadTargets X_TooWide d_contains d_pieces_inside d_first_gap d_find_missing d_without_item d_require_generated d_can_spare d_removable_pieces d_prune_pieces d_law_deck d_law_draw d_law_line d_law_interval d_law_intervals d_law_gap d_law_missing d_law_outcome d_law d_NotGenerated_init) : FnOk P w K mg base CX0 4 f_find_missing d_find_missing ["targets", "pieces"] sp_find_missing := by
  refine T.F_find_missing.ok sc_find_missing (fun vs H Q E h => ?_) (fun cdv A outer s H vs Q E hr h => ?_)
  · obtain ⟨a, b, tus, us, ts, ps, rfl, _⟩ := h
    rfl
  · obtain ⟨a, b, tus, us, ts, ps, rfl, ha, tiv, tg, hb, iv, pc, few, q⟩ := h
    refine ⟨_, (pss_cons (ps_for PassesOwn.never rfl (pi_tup (pv 0)) (pg_name (i := 2) sc_find_missing.nd rfl (Or.inl rfl))
      (pss_cons (ps_set (i := 3) sc_find_missing.nd rfl (Or.inl rfl) (pe_call (ok_first_gap T) (hr.mono (by decide)) (by rfl) T.g_first_gap T.F_first_gap.kp T.b_first_gap .nil pass0 (pa_cons (pv 1) (pa_cons (pv 2) pa_nil))))
      (pss_one (ps_if (pt_cmpR op_notN (pv 3) pe_non (nomark _))
      (pss_one (ps_ret (pe_tup (pa_cons (pv 3) (pa_cons (pv 2) pa_nil)))))
      pss_nil))))
      (pss_one (ps_ret pe_non))), ?_⟩
    refine ⟨.ref a, rfl, a, rfl, ⟨_, SqT.of ha⟩, for_tup (K := K) (a := a) (xs := tus) (fun i σ H' => Same H H' ∧ missO ps ts = (ts.drop i).findSome? (misF ps) ∧ ∃ y2 y3, σ = [some (.ref a), some (.ref b), y2, y3]) ⟨Same.refl _, rfl, _, _, rfl⟩ (fun i σ H' _ h => SqT.of (h.1 _ _ ha)) ?_ ?_⟩
    · rintro i x σ H1 hi ⟨s1, ef, y2, y3, rfl⟩
      obtain ⟨t, lo, hi2, rfl, et, ht⟩ := tiv.get hi
      have lh := tg _ (List.mem_of_getElem? et)
      rw [miss_step et] at ef
      unfold misF at ef
      refine ⟨.ref b, rfl, .ref t, rfl, b, t, us, ps, lo, hi2, rfl, s1 _ _ hb, iv.same s1, pc, few, s1 _ _ ht, lh, fun H2 s2 => ?_⟩
      have s12 := s1.trans s2
      cases eg : gapO ps (lo, hi2) with
      | none =>
        rw [eg] at ef
        exact ⟨_, rfl, rfl, _, rfl, iteF ⟨s12, ef, _, _, rfl⟩⟩
      | some g =>
        rw [eg] at ef
        refine ⟨_, rfl, rfl, _, rfl, ?_⟩
        refine iteND (fun z : V.int g = V.non => by cases z) ⟨_, rfl, .ref t, rfl, by show 2 ≤ sizeLine; decide, fun u nu => q _ _ (s12.trans (same_new nu)) ?_⟩
        rw [ef]
        exact ⟨u, t, rfl, upd_same, same_new nu _ _ (s12 _ _ ht)⟩
    · rintro σ H1 ⟨s1, ef, y2, y3, rfl⟩
      refine q _ _ s1 ?_
      rw [ef, tiv.length, List.drop_length]
      rfl
def sp_law_missing : Sp := fun vs H Q _ => ∃ (a b : Addr) (tus us : List V) (ts ps : List (Int × Int)), vs = [.ref a, .ref b] ∧ H a = some (.tup tus) ∧ Ivs H tus ts ∧ Tg ts ∧ (H b = some (.lst us) ∨ H b = some (.tup us)) ∧ Ivs H us ps ∧ ps.length < 1000 ∧
  ∀ H' r, Same H H' → DV H' r (missO ps ts) → Q r H'
theorem ok_law_missing (T : Tx K mg f_contains f_pieces_inside f_first_gap f_find_missing f_without_item f_require_generated f_can_spare f_removable_pieces f_prune_pieces f_law_deck f_law_draw f_law_line f_law_interval f_law_intervals f_law_gap f_law_missing f_law_outcome f_law f_NotGenerated_init X_NotGenerated X_SpanError X_BadInterval X_BadPieces X_BadTargets X_TooWide d_contains d_pieces_inside d_first_gap d_find_missing d_without_item d_require_generated d_can_spare d_removable_pieces d_prune_pieces d_law_deck d_law_draw d_law_line d_law_interval d_law_intervals d_law_gap d_law_missing d_law_outcome d_law d_NotGenerated_init) : FnOk P w K mg base CX0 2 f_law_missing d_law_missing ["_law_targets", "_law_pieces"] sp_law_missing := by
  refine T.F_law_missing.ok sc_law_missing (fun vs H Q E h => ?_) (fun cdv A outer s H vs Q E hr h => ?_)
  · obtain ⟨a, b, tus, us, ts, ps, rfl, _⟩ := h
    rfl
  · obtain ⟨a, b, tus, us, ts, ps, rfl, ha, tiv, tg, hb, iv, few, q⟩ := h
    refine ⟨_, (pss_cons (ps_for PassesOwn.never rfl (pi_tup (pv 0)) (pg_name (i := 2) sc_law_missing.nd rfl (Or.inl rfl))
      (pss_cons (ps_set (i := 3) sc_law_missing.nd rfl (Or.inl rfl) (pe_call (ok_law_gap T) (hr.mono (by decide)) (by rfl) T.g_law_gap T.F_law_gap.kp T.b_law_gap .nil pass0 (pa_cons (pv 1) (pa_cons (pv 2) pa_nil))))
      (pss_one (ps_if (pt_cmpR op_notN (pv 3) pe_non (nomark _))
      (pss_one (ps_ret (pe_tup (pa_cons (pv 3) (pa_cons (pv 2) pa_nil)))))
      pss_nil))))
      (pss_one (ps_ret pe_non))), ?_⟩
    refine ⟨.ref a, rfl, a, rfl, ⟨_, SqT.of ha⟩, for_tup (K := K) (a := a) (xs := tus) (fun i σ H' => Same H H' ∧ missO ps ts = (ts.drop i).findSome? (misF ps) ∧ ∃ y2 y3, σ = [some (.ref a), some (.ref b), y2, y3]) ⟨Same.refl _, rfl, _, _, rfl⟩ (fun i σ H' _ h => SqT.of (h.1 _ _ ha)) ?_ ?_⟩
    · rintro i x σ H1 hi ⟨s1, ef, y2, y3, rfl⟩
      obtain ⟨t, lo, hi2, rfl, et, ht⟩ := tiv.get hi
      have lh := tg _ (List.mem_of_getElem? et)
      rw [miss_step et] at ef
      unfold misF at ef
      refine ⟨.ref b, rfl, .ref t, rfl, b, t, us, ps, lo, hi2, rfl, hb.imp (fun e => s1 _ _ e) (fun e => s1 _ _ e), iv.same s1, few, s1 _ _ ht, lh, fun H2 s2 => ?_⟩
      have s12 := s1.trans s2
      cases eg : gapO ps (lo, hi2) with
      | none =>
        rw [eg] at ef
        exact ⟨_, rfl, rfl, _, rfl, iteF ⟨s12, ef, _, _, rfl⟩⟩
      | some g =>
        rw [eg] at ef
        refine ⟨_, rfl, rfl, _, rfl, ?_⟩
        refine iteND (fun z : V.int g = V.non => by cases z) ⟨_, rfl, .ref t, rfl, by show 2 ≤ sizeLine; decide, fun u nu => q _ _ (s12.trans (same_new nu)) ?_⟩
        rw [ef]
        exact ⟨u, t, rfl, upd_same, same_new nu _ _ (s12 _ _ ht)⟩
    · rintro σ H1 ⟨s1, ef, y2, y3, rfl⟩
      refine q _ _ s1 ?_
      rw [ef, tiv.length, List.drop_length]
      rfl

/-! ### pieces that can be spared -/
def wo (ps : List (Int × Int)) (q : Int × Int) : List (Int × Int) := ps.filter fun x => !decide (x = q)
theorem wo_len (ps : List (Int × Int)) (q : Int × Int) : (wo ps q).length ≤ ps.length := List.length_filter_le _ _
theorem wo_sub {ps : List (Int × Int)} {q x : Int × Int} (h : x ∈ wo ps q) : x ∈ ps := (List.mem_filter.mp h).1
theorem Pc.wo {ps : List (Int × Int)} (h : Pc ps) (q : Int × Int) : Pc (wo ps q) := fun x hx => h x (wo_sub hx)
noncomputable def spB (ts ps : List (Int × Int)) (q : Int × Int) : Bool := (missO (wo ps q) ts).isNone
theorem eqv_pair (x y u v : Int) : PyData.eqv (.tuple [.int x, .int y]) (.tuple [.int u, .int v]) = decide ((x, y) = (u, v)) := by
  show ((x == u) && ((y == v) && true)) = decide ((x, y) = (u, v))
  rw [Bool.and_true, Bool.eq_iff_iff, Bool.and_eq_true, beq_iff_eq, beq_iff_eq, decide_eq_true_eq, Prod.mk.injEq]
theorem DV.isN {H : Hp} {r : V} {o : Option (Int × Int × Int)} (h : DV H r o) : decide (r = .non) = o.isNone := by
  match o, h with
  | none, h =>
    cases h
    rfl
  | some (g, lo, hi), h =>
    obtain ⟨u, t, e, _⟩ := h
    rw [e]
    exact decide_eq_false (fun z => by cases z)
def sp_without_item : Sp := fun vs H Q _ => ∃ (a t : Addr) (us : List V) (ps : List (Int × Int)) (x y : Int), vs = [.ref a, .ref t] ∧ H a = some (.tup us) ∧ Ivs H us ps ∧ ps.length < 1000 ∧ H t = some (.tup [.int x, .int y]) ∧
  ∀ H' p ws, Same H H' → H' p = some (.tup ws) → Ivs H' ws (wo ps (x, y)) → Q (.ref p) H'
theorem ok_without_item (T : Tx K mg f_contains f_pieces_inside f_first_gap f_find_missing f_without_item f_require_generated f_can_spare f_removable_pieces f_prune_pieces f_law_deck f_law_draw f_law_line f_law_interval f_law_intervals f_law_gap f_law_missing f_law_outcome f_law f_NotGenerated_init X_NotGenerated X_SpanError X_BadInterval X_BadPieces X_BadTargets X_TooWide d_contains d_pieces_inside d_first_gap d_find_missing d_without_item d_require_generated d_can_spare d_removable_pieces d_prune_pieces d_law_deck d_law_draw d_law_line d_law_interval d_law_intervals d_law_gap d_law_missing d_law_outcome d_law d_NotGenerated_init) : FnOk P w K mg base CX0 1 f_without_item d_without_item ["items", "item"] sp_without_item := by
  refine T.F_without_item.ok sc_without_item (fun vs H Q E h => ?_) (fun cdv A outer s H vs Q E hr h => ?_)
  · obtain ⟨a, t, us, ps, x, y, rfl, _⟩ := h
    rfl
  · obtain ⟨a, t, us, ps, x, y, rfl, ha, iv, few, ht, q⟩ := h
    have lu := iv.length
    refine ⟨_, (pss_one (ps_ret (pe_callTy call_tuple_of (by rfl) T.z_tuple (by decide +kernel) (pa_cons (pe_lc (own := [("other", 2)]) (g := (gName 2)) (by rfl) sc_without_item.nd (pi_tup (pv 0)) (blkOk_by (own := [("other", 2)]) (N := N_without_item) (sc := defScope s_without_item) (by decide +kernel)) (fun _ _ _ _ _ => (pg_name (i := 2) sc_without_item.nd rfl (Or.inl rfl))) (fun _ _ _ _ _ => pts_one (pt_cmpR (show OpR _ (compareOp .NotEq) (rNeD K) from (op_neD hr.units)) (pv 2) (pv 1) (nomark _))) (fun _ _ _ _ _ => (pv 2))) pa_nil)))), ?_⟩
    refine ⟨.ref a, rfl, a, rfl, ⟨_, SqT.of ha⟩, fun D nD => ?_⟩
    refine lcT (K := K) (a := a) (xs := us) (fun j H' ws => Ivs H' ws ((ps.take j).filter fun z => !decide (z = (x, y)))) nD (fun H' s => SqT.of (s _ _ ha)) (by omega) (fun _ _ _ _ t r => r.tps t) (fun j H' ws r => ?_) (fun _ => .nil) ?_ ?_
    · rw [r.length]
      exact Nat.le_trans (List.length_filter_le _ _) (List.length_take_le _ _)
    · rintro j z H' N acc hj sj eA sz r no yes
      obtain ⟨b, u, v, rfl, exy, hb⟩ := iv.get hj
      refine ⟨rfl, .ref b, rfl, .ref t, rfl, _, _, dp2 (sj _ _ hb), dp2 (sj _ _ ht), rfl, rfl, _, rfl, ?_⟩
      rw [eqv_pair]
      refine ite2 (fun c => ?_) (fun c => ?_)
      · refine ⟨.ref b, rfl, yes H' _ (Same.refl _) ?_⟩
        rw [take_filter exy, if_pos c]
        exact r.snoc (sj _ _ hb)
      · refine no H' (Same.refl _) ?_
        rw [take_filter exy, if_neg c, List.append_nil]
        exact r
    · intro H1 ws s1 eD r
      rw [lu, List.take_length] at r
      refine ⟨D, ws, rfl, .inl ⟨SqL.of eD, fun p np => ?_⟩⟩
      exact q _ p ws (s1.trans (same_new np)) upd_same (r.same (same_new np))
theorem ok_NotGenerated_init (T : Tx K mg f_contains f_pieces_inside f_first_gap f_find_missing f_without_item f_require_generated f_can_spare f_removable_pieces f_prune_pieces f_law_deck f_law_draw f_law_line f_law_interval f_law_intervals f_law_gap f_law_missing f_law_outcome f_law f_NotGenerated_init X_NotGenerated X_SpanError X_BadInterval X_BadPieces X_BadTargets X_TooWide d_contains d_pieces_inside d_first_gap d_find_missing d_without_item d_require_generated d_can_spare d_removable_pieces d_prune_pieces d_law_deck d_law_draw d_law_line d_law_interval d_law_intervals d_law_gap d_law_missing d_law_outcome d_law d_NotGenerated_init) : FnOk P w K mg base CX0 1 f_NotGenerated_init d_NotGenerated_init ["self", "demand"] (sp_exc_init K X_NotGenerated "demand") := by
  refine T.F_NotGenerated_init.ok sc_NotGenerated_init (fun vs H Q E h => ?_) (fun cdv A outer s H vs Q E hr h => ?_)
  · obtain ⟨a, v, rfl, _⟩ := h
    rfl
  · obtain ⟨a, v, rfl, ha, q⟩ := h
    refine ⟨_, (pss_one (ps_ost (pv 0) (pv 1))), ?_⟩
    exact ⟨v, rfl, .ref a, rfl, a, X_NotGenerated, rfl, T.xi_NotGenerated.ox, T.xi_NotGenerated.no, .inl ⟨ha, fun dx nd ne => q dx nd ne⟩⟩
/-- what is asked where the pieces may fail: nothing is missing, or the error tells what is -/
def sp_require_generated (D : Addr) : Sp := fun vs H Q E => ∃ (a b : Addr) (tus us : List V) (ts ps : List (Int × Int)), vs = [.ref a, .ref b] ∧ H a = some (.tup tus) ∧ Ivs H tus ts ∧ Tg ts ∧ H b = some (.tup us) ∧ Ivs H us ps ∧ Pc ps ∧ ps.length ≤ 63 ∧
  (missO ps ts = none → ∀ H', Same H H' → Q .non H') ∧ (missO ps ts ≠ none → ∀ H' r d, Same H H' → DV H' r (missO ps ts) → H' d = none → E (.ref D) (some d) (upd H' d (.xd [("demand", r)])))
theorem ok_require_generated (T : Tx K mg f_contains f_pieces_inside f_first_gap f_find_missing f_without_item f_require_generated f_can_spare f_removable_pieces f_prune_pieces f_law_deck f_law_draw f_law_line f_law_interval f_law_intervals f_law_gap f_law_missing f_law_outcome f_law f_NotGenerated_init X_NotGenerated X_SpanError X_BadInterval X_BadPieces X_BadTargets X_TooWide d_contains d_pieces_inside d_first_gap d_find_missing d_without_item d_require_generated d_can_spare d_removable_pieces d_prune_pieces d_law_deck d_law_draw d_law_line d_law_interval d_law_intervals d_law_gap d_law_missing d_law_outcome d_law d_NotGenerated_init) : FnOk P w K mg base (L2.CX P w) 5 f_require_generated d_require_generated ["targets", "pieces"] (sp_require_generated X_NotGenerated) := by
  refine T.F_require_generated.okX sc_require_generated (fun vs H Q E h => ?_) (fun cdv A outer s H vs Q E hr h => ?_)
  · obtain ⟨a, b, tus, us, ts, ps, rfl, _⟩ := h
    rfl
  · obtain ⟨a, b, tus, us, ts, ps, rfl, ha, tiv, tg, hb, iv, pc, few, q, qe⟩ := h
    refine ⟨_, (pss_cons (ps_set (i := 2) sc_require_generated.nd rfl (Or.inl rfl) (pe_call (ok_find_missing T) (hr.mono (by decide)) (by rfl) T.g_find_missing T.F_find_missing.kp T.b_find_missing .nil pass0 (pa_cons (pv 0) (pa_cons (pv 1) pa_nil))))
      (pss_one (ps_if (pt_cmpR op_notN (pv 2) pe_non (nomark _))
      (pss_one (ps_raise1 rfl (takes_of rfl rfl rfl rfl) T.xn_NotGenerated T.xi_NotGenerated (ok_NotGenerated_init T) (hr.mono (by decide)) T.b_NotGenerated_init (by rfl) (pa_cons (pv 2) pa_nil)))
      pss_nil))), ?_⟩
    refine ⟨.ref a, rfl, .ref b, rfl, a, b, tus, us, ts, ps, rfl, ha, tiv, tg, hb, iv, pc, few, fun H1 r s1 d1 => ?_⟩
    cases em : missO ps ts with
    | none =>
      rw [em] at d1
      cases d1
      exact ⟨_, rfl, rfl, _, rfl, iteF (q em _ s1)⟩
    | some x =>
      obtain ⟨g, lo, hi⟩ := x
      have d2 := d1
      rw [em] at d2
      obtain ⟨u, t, rfl, _, _⟩ := d2
      refine ⟨_, rfl, rfl, _, rfl, iteT ?_⟩
      exact ⟨.ref u, rfl, .ref u, rfl, fun d nd => qe (by rw [em]; exact fun z => nomatch z) H1 _ d s1 d1 nd⟩
def sp_can_spare : Sp := fun vs H Q _ => ∃ (a b t : Addr) (tus us : List V) (ts ps : List (Int × Int)) (x y : Int), vs = [.ref a, .ref b, .ref t] ∧ H a = some (.tup tus) ∧ Ivs H tus ts ∧ Tg ts ∧ H b = some (.tup us) ∧ Ivs H us ps ∧ Pc ps ∧ ps.length ≤ 63 ∧ H t = some (.tup [.int x, .int y]) ∧
  ∀ H', Same H H' → Q (.bl (spB ts ps (x, y))) H'
theorem ok_can_spare (T : Tx K mg f_contains f_pieces_inside f_first_gap f_find_missing f_without_item f_require_generated f_can_spare f_removable_pieces f_prune_pieces f_law_deck f_law_draw f_law_line f_law_interval f_law_intervals f_law_gap f_law_missing f_law_outcome f_law f_NotGenerated_init X_NotGenerated X_SpanError X_BadInterval X_BadPieces X_BadTargets X_TooWide d_contains d_pieces_inside d_first_gap d_find_missing d_without_item d_require_generated d_can_spare d_removable_pieces d_prune_pieces d_law_deck d_law_draw d_law_line d_law_interval d_law_intervals d_law_gap d_law_missing d_law_outcome d_law d_NotGenerated_init) : FnOk P w K mg base CX0 5 f_can_spare d_can_spare ["targets", "pieces", "piece"] sp_can_spare := by
  refine T.F_can_spare.ok sc_can_spare (fun vs H Q E h => ?_) (fun cdv A outer s H vs Q E hr h => ?_)
  · obtain ⟨a, b, t, tus, us, ts, ps, x, y, rfl, _⟩ := h
    rfl
  · obtain ⟨a, b, t, tus, us, ts, ps, x, y, rfl, ha, tiv, tg, hb, iv, pc, few, ht, q⟩ := h
    refine ⟨_, (pss_one (ps_ret (pe_cmpR op_isN (pe_call (ok_find_missing T) (hr.mono (by decide)) (by rfl) T.g_find_missing T.F_find_missing.kp T.b_find_missing .nil pass0 (pa_cons (pv 0) (pa_cons (pe_call (ok_without_item T) (hr.mono (by decide)) (by rfl) T.g_without_item T.F_without_item.kp T.b_without_item .nil pass0 (pa_cons (pv 1) (pa_cons (pv 2) pa_nil))) pa_nil))) pe_non (nomark _)))), ?_⟩
    refine ⟨.ref a, rfl, .ref b, rfl, .ref t, rfl, b, t, us, ps, x, y, rfl, hb, iv, by omega, ht, fun H1 p ws s1 ep iv1 => ?_⟩
    have wl := wo_len ps (x, y)
    refine ⟨a, p, tus, ws, ts, wo ps (x, y), rfl, s1 _ _ ha, tiv.same s1, tg, ep, iv1, pc.wo _, by omega, fun H2 r s2 d2 => ⟨rfl, ?_⟩⟩
    rw [d2.isN]
    exact q _ (s1.trans s2)
def sp_removable_pieces (D : Addr) : Sp := fun vs H Q E => ∃ (a b : Addr) (tus us : List V) (ts ps : List (Int × Int)), vs = [.ref a, .ref b] ∧ H a = some (.tup tus) ∧ Ivs H tus ts ∧ Tg ts ∧ H b = some (.tup us) ∧ Ivs H us ps ∧ Pc ps ∧ ps.length ≤ 63 ∧
  (missO ps ts = none → ∀ H' p ws, Same H H' → H' p = some (.tup ws) → Ivs H' ws (ps.filter (spB ts ps)) → Q (.ref p) H') ∧ (missO ps ts ≠ none → ∀ H' r d, Same H H' → DV H' r (missO ps ts) → H' d = none → E (.ref D) (some d) (upd H' d (.xd [("demand", r)])))
theorem ok_removable_pieces (T : Tx K mg f_contains f_pieces_inside f_first_gap f_find_missing f_without_item f_require_generated f_can_spare f_removable_pieces f_prune_pieces f_law_deck f_law_draw f_law_line f_law_interval f_law_intervals f_law_gap f_law_missing f_law_outcome f_law f_NotGenerated_init X_NotGenerated X_SpanError X_BadInterval X_BadPieces X_BadTargets X_TooWide d_contains d_pieces_inside d_first_gap d_find_missing d_without_item d_require_generated d_can_spare d_removable_pieces d_prune_pieces d_law_deck d_law_draw d_law_line d_law_interval d_law_intervals d_law_gap d_law_missing d_law_outcome d_law d_NotGenerated_init) : FnOk P w K mg base (L2.CX P w) 6 f_removable_pieces d_removable_pieces ["targets", "pieces"] (sp_removable_pieces X_NotGenerated) := by
  refine T.F_removable_pieces.okX sc_removable_pieces (fun vs H Q E h => ?_) (fun cdv A outer s H vs Q E hr h => ?_)
  · obtain ⟨a, b, tus, us, ts, ps, rfl, _⟩ := h
    rfl
  · obtain ⟨a, b, tus, us, ts, ps, rfl, ha, tiv, tg, hb, iv, pc, few, q, qe⟩ := h
    refine ⟨_, (pss_cons (ps_expr (pe_callS (ok_require_generated T) (hr.mono (by decide)) (by rfl) T.g_require_generated T.F_require_generated.kp T.b_require_generated (fun σ => passAt (takes_of rfl rfl rfl rfl) σ) (pa_cons (pv 0) (pa_cons (pv 1) pa_nil)))) (PSs.nox (pss_one (ps_ret (pe_callTy call_tuple_of (by rfl) T.z_tuple (by decide +kernel) (pa_cons (pe_lc (own := [("piece", 2)]) (g := (gName 2)) (by rfl) sc_removable_pieces.nd (pi_tup (pv 1)) (blkOk_by (own := [("piece", 2)]) (N := N_removable_pieces) (sc := defScope s_removable_pieces) (by decide +kernel)) (fun _ _ _ _ _ => (pg_name (i := 2) sc_removable_pieces.nd rfl (Or.inl rfl))) (fun _ _ _ _ _ => pts_one (pt_val (pe_call (ok_can_spare T) (hr.mono (by decide)) (by rfl) T.g_can_spare T.F_can_spare.kp T.b_can_spare .nil pass0 (pa_cons (pv 0) (pa_cons (pv 1) (pa_cons (pv 2) pa_nil)))))) (fun _ _ _ _ _ => (pv 2))) pa_nil)))))), ?_⟩
    have lu := iv.length
    refine ⟨.ref a, rfl, .ref b, rfl, a, b, tus, us, ts, ps, rfl, ha, tiv, tg, hb, iv, pc, few, fun em H1 s1 => ?_, fun ne H1 r d s1 d1 nd => qe ne H1 r d s1 d1 nd⟩
    refine ⟨.ref b, rfl, b, rfl, ⟨_, SqT.of (s1 _ _ hb)⟩, fun D nD => ?_⟩
    refine lcT (K := K) (a := b) (xs := us) (fun j H' ws => Ivs H' ws ((ps.take j).filter (spB ts ps))) nD (fun H' s => SqT.of (s _ _ (s1 _ _ hb))) (by omega) (fun _ _ _ _ t r => r.tps t) (fun j H' ws r => ?_) (fun _ => .nil) ?_ ?_
    · rw [r.length]
      exact Nat.le_trans (List.length_filter_le _ _) (List.length_take_le _ _)
    · rintro j z H' N acc hj sj eA sz r no yes
      obtain ⟨c, x, y, rfl, exy, hc⟩ := iv.get hj
      have sA := s1.trans sj
      refine ⟨rfl, .ref a, rfl, .ref b, rfl, .ref c, rfl, a, b, c, tus, us, ts, ps, x, y, rfl, sA _ _ ha, tiv.same sA, tg, sA _ _ hb, iv.same sA, pc, few, sA _ _ hc, fun H2 s2 => ⟨_, rfl, ite2 (fun e => ?_) (fun e => ?_)⟩⟩
      · refine ⟨.ref c, rfl, yes H2 _ s2 ?_⟩
        rw [take_filter exy, if_pos e]
        exact (r.same s2).snoc (s2 _ _ (sA _ _ hc))
      · refine no H2 s2 ?_
        rw [take_filter exy, if_neg e, List.append_nil]
        exact r.same s2
    · intro H2 ws s2 eD r
      rw [lu, List.take_length] at r
      refine ⟨D, ws, rfl, .inl ⟨SqL.of eD, fun p np => ?_⟩⟩
      exact q em _ p ws ((s1.trans s2).trans (same_new np)) upd_same (r.same (same_new np))

theorem shaped_pairs (ps : List (Int × Int)) : SeqAt.shaped (.tuple (ps.map pairD)) = true := by
  have h1 : ∀ ps : List (Int × Int), PyData.canLayAll0 (ps.map pairD) = true := by
    intro ps
    induction ps with
    | nil => rfl
    | cons n r ih => exact ih
  have h2 : ∀ ps : List (Int × Int), PyData.depthAll (ps.map pairD) ≤ 1 := by
    intro ps
    induction ps with
    | nil => exact Nat.zero_le _
    | cons n r ih =>
      show max 1 (PyData.depthAll (r.map pairD)) ≤ 1
      omega
  unfold SeqAt.shaped
  rw [show PyData.canLay0 (.tuple (ps.map pairD)) = PyData.canLayAll0 (ps.map pairD) from rfl, h1 ps]
  show decide (PyData.depthAll (ps.map pairD) + 1 ≤ 64) = true
  exact decide_eq_true (by have := h2 ps; omega)
theorem eqv_self (ps : List (Int × Int)) : PyData.eqv (.tuple (ps.map pairD)) (.tuple (ps.map pairD)) = true := by
  show PyData.eqvAll (ps.map pairD) (ps.map pairD) = true
  induction ps with
  | nil => rfl
  | cons q r ih =>
    show (((q.1 == q.1) && ((q.2 == q.2) && true)) && PyData.eqvAll (r.map pairD) (r.map pairD)) = true
    rw [ih, beq_self_eq_true, beq_self_eq_true]
    rfl

theorem sorted_set_pairsT {K : PySem.W.Frag} {P : Program} {w : World} {H : Hp} {l : Addr} {us : List V} {ps : List (Int × Int)} {Q : VK} (hl : H l = some (.tup us)) (iv : Ivs H us ps) (few : ps.length < 64) (bd : ∀ q ∈ ps, (0 ≤ q.1 ∧ q.1 < 10 ^ 13) ∧ 0 ≤ q.2 ∧ q.2 < 10 ^ 13)
    (fin : ∀ H' p us' ps', Same H H' → H p = none → H' p = some (.lst us') → Ivs H' us' ps' → ps'.Pairwise ltP → (∀ q, q ∈ ps' ↔ q ∈ ps) → Q (.ref p) H') :
    rSetOfTT K P w [.ref l] H (fun x H1 => rSortedT K P w [x] H1 Q) := by
  obtain ⟨ks, rfl, e2, e3⟩ := iv.keys
  -- the same keys, in a list that nobody holds: what follows is as there
  have lk : ks.length = ps.length := by
    have z := congrArg List.length e2
    rw [List.length_map, List.length_map] at z
    exact z
  refine ⟨l, ks, rfl, SqT.of hl, fun p hp => ?_, by omega, fun a L na h1 h2 => ?_⟩
  · obtain ⟨x, y, e, e1⟩ := e3 p hp
    rw [e]
    exact SqT.of e1
  exact sorted_keys e2 e3 na h1 h2 bd fin

/-! ### pruned pieces -/
theorem gap_mono {ps ps' : List (Int × Int)} {t : Int × Int} (h : gapO ps t = none) (sub : ∀ q ∈ ps, q ∈ ps') : gapO ps' t = none := by
  have g := gapO_spec ps t
  rw [h] at g
  refine gapO_eq (show IsGap ps' t.1 t.2 none from fun p h1 h2 => ?_)
  obtain ⟨q, hq, w⟩ := g p h1 h2
  exact ⟨q, sub q hq, w⟩
noncomputable def prF (ts left : List (Int × Int)) (q : Int × Int) : List (Int × Int) := if spB ts left q = true then wo left q else left
noncomputable def prO (ts ps qs : List (Int × Int)) : List (Int × Int) := qs.foldl (prF ts) ps
theorem prF_sub {ts left : List (Int × Int)} {q x : Int × Int} (h : x ∈ prF ts left q) : x ∈ left := by
  unfold prF at h
  split at h
  · exact wo_sub h
  · exact h
theorem prO_sub {ts : List (Int × Int)} {x : Int × Int} : ∀ {qs left : List (Int × Int)}, x ∈ prO ts left qs → x ∈ left
  | [], _, h => h
  | _ :: qs, _, h => prF_sub (prO_sub (qs := qs) h)
theorem prF_len (ts left : List (Int × Int)) (q : Int × Int) : (prF ts left q).length ≤ left.length := by
  unfold prF
  split
  · exact wo_len _ _
  · exact Nat.le_refl _
theorem prO_len (ts : List (Int × Int)) : ∀ (qs left : List (Int × Int)), (prO ts left qs).length ≤ left.length
  | [], _ => Nat.le_refl _
  | q :: qs, left => Nat.le_trans (prO_len ts qs (prF ts left q)) (prF_len ts left q)
theorem prO_snoc (ts left qs : List (Int × Int)) (q : Int × Int) : prO ts left (qs ++ [q]) = prF ts (prO ts left qs) q := by
  unfold prO
  rw [List.foldl_append]
  rfl
theorem prF_miss {ts left : List (Int × Int)} {q : Int × Int} (h : missO left ts = none) : missO (prF ts left q) ts = none := by
  unfold prF
  split
  · rename_i e
    exact Option.isNone_iff_eq_none.mp e
  · exact h
theorem prO_miss {ts : List (Int × Int)} : ∀ {qs left : List (Int × Int)}, missO left ts = none → missO (prO ts left qs) ts = none
  | [], _, h => h
  | _ :: qs, _, h => prO_miss (qs := qs) (prF_miss h)
theorem miss_mono {ts ps ps' : List (Int × Int)} (h : missO ps ts = none) (sub : ∀ q ∈ ps, q ∈ ps') : missO ps' ts = none := missO_none.mpr fun t ht => gap_mono (missO_none.mp h t ht) sub
theorem spB_mono {ts ps ps' : List (Int × Int)} {q : Int × Int} (sub : ∀ x ∈ ps, x ∈ ps') (h : spB ts ps q = true) : spB ts ps' q = true := by
  unfold spB at h ⊢
  rw [Option.isNone_iff_eq_none] at h ⊢
  refine miss_mono h fun x hx => ?_
  have z := List.mem_filter.mp hx
  exact List.mem_filter.mpr ⟨sub x z.1, z.2⟩
theorem prO_kept {ts : List (Int × Int)} {x : Int × Int} : ∀ {qs left : List (Int × Int)}, x ∈ qs → x ∈ prO ts left qs → spB ts (prO ts left qs) x = false
  | q :: qs, left, hx, h => by
    rcases List.mem_cons.mp hx with rfl | hx
    · by_cases e : spB ts left x = true
      · have z : x ∈ prF ts left x := prO_sub (qs := qs) h
        unfold prF at z
        rw [if_pos e] at z
        have y := (List.mem_filter.mp z).2
        rw [decide_eq_true rfl] at y
        cases y
      · rw [← Bool.not_eq_true]
        exact fun z => e (spB_mono (fun y hy => prF_sub (prO_sub (qs := qs) hy)) z)
    · exact prO_kept (qs := qs) hx h
theorem prO_same {ts ps : List (Int × Int)} : ∀ {qs : List (Int × Int)}, (∀ q ∈ qs, spB ts ps q = false) → prO ts ps qs = ps
  | [], _ => rfl
  | q :: qs, h => by
    show prO ts (prF ts ps q) qs = ps
    have e : prF ts ps q = ps := by
      unfold prF
      rw [h q List.mem_cons_self]
      rfl
    rw [e]
    exact prO_same fun x hx => h x (List.mem_cons_of_mem _ hx)
theorem prO_done {ts ps : List (Int × Int)} : (prO ts ps ps).filter (spB ts (prO ts ps ps)) = [] ∧ prO ts (prO ts ps ps) (prO ts ps ps) = prO ts ps ps := by
  have h : ∀ q ∈ prO ts ps ps, spB ts (prO ts ps ps) q = false := fun q hq => prO_kept (prO_sub (qs := ps) hq) hq
  refine ⟨List.filter_eq_nil_iff.mpr fun q hq => by rw [h q hq]; exact Bool.false_ne_true, prO_same h⟩
theorem Pc.prO {ts ps qs : List (Int × Int)} (h : Pc ps) : Pc (prO ts ps qs) := fun q hq => h q (prO_sub (qs := qs) hq)
def sp_prune_pieces (D : Addr) : Sp := fun vs H Q E => ∃ (a b : Addr) (tus us : List V) (ts ps : List (Int × Int)), vs = [.ref a, .ref b] ∧ H a = some (.tup tus) ∧ Ivs H tus ts ∧ Tg ts ∧ H b = some (.tup us) ∧ Ivs H us ps ∧ Pc ps ∧ ps.length ≤ 63 ∧
  (missO ps ts = none → ∀ H' p ws, Same H H' → H' p = some (.tup ws) → Ivs H' ws (prO ts ps ps) → Q (.ref p) H') ∧ (missO ps ts ≠ none → ∀ H' r d, Same H H' → DV H' r (missO ps ts) → H' d = none → E (.ref D) (some d) (upd H' d (.xd [("demand", r)])))
theorem ok_prune_pieces (T : Tx K mg f_contains f_pieces_inside f_first_gap f_find_missing f_without_item f_require_generated f_can_spare f_removable_pieces f_prune_pieces f_law_deck f_law_draw f_law_line f_law_interval f_law_intervals f_law_gap f_law_missing f_law_outcome f_law f_NotGenerated_init X_NotGenerated X_SpanError X_BadInterval X_BadPieces X_BadTargets X_TooWide d_contains d_pieces_inside d_first_gap d_find_missing d_without_item d_require_generated d_can_spare d_removable_pieces d_prune_pieces d_law_deck d_law_draw d_law_line d_law_interval d_law_intervals d_law_gap d_law_missing d_law_outcome d_law d_NotGenerated_init) : FnOk P w K mg base (L2.CX P w) 6 f_prune_pieces d_prune_pieces ["targets", "pieces"] (sp_prune_pieces X_NotGenerated) := by
  refine T.F_prune_pieces.okX sc_prune_pieces (fun vs H Q E h => ?_) (fun cdv A outer s H vs Q E hr h => ?_)
  · obtain ⟨a, b, tus, us, ts, ps, rfl, _⟩ := h
    rfl
  · obtain ⟨a, b, tus, us, ts, ps, rfl, ha, tiv, tg, hb, iv, pc, few, q, qe⟩ := h
    refine ⟨_, (pss_cons (ps_expr (pe_callS (ok_require_generated T) (hr.mono (by decide)) (by rfl) T.g_require_generated T.F_require_generated.kp T.b_require_generated (fun σ => passAt (takes_of rfl rfl rfl rfl) σ) (pa_cons (pv 0) (pa_cons (pv 1) pa_nil)))) (PSs.nox (pss_cons (ps_set (i := 2) sc_prune_pieces.nd rfl (Or.inl rfl) (pv 1))
      (pss_cons (ps_for PassesOwn.never rfl (pi_tup (pv 1)) (pg_name (i := 3) sc_prune_pieces.nd rfl (Or.inl rfl))
      (pss_one (ps_if (pt_val (pe_call (ok_can_spare T) (hr.mono (by decide)) (by rfl) T.g_can_spare T.F_can_spare.kp T.b_can_spare .nil pass0 (pa_cons (pv 0) (pa_cons (pv 2) (pa_cons (pv 3) pa_nil)))))
      (pss_one (ps_set (i := 2) sc_prune_pieces.nd rfl (Or.inl rfl) (pe_call (ok_without_item T) (hr.mono (by decide)) (by rfl) T.g_without_item T.F_without_item.kp T.b_without_item .nil pass0 (pa_cons (pv 2) (pa_cons (pv 3) pa_nil)))))
      pss_nil)))
      (pss_one (ps_ret (pv 2))))))), ?_⟩
    have lu := iv.length
    refine ⟨.ref a, rfl, .ref b, rfl, a, b, tus, us, ts, ps, rfl, ha, tiv, tg, hb, iv, pc, few, fun em H1 s1 => ?_, fun ne H1 r d s1 d1 nd => qe ne H1 r d s1 d1 nd⟩
    refine ⟨.ref b, rfl, .ref b, rfl, b, rfl, ⟨_, SqT.of (s1 _ _ hb)⟩, ?_⟩
    refine for_tup (K := K) (a := b) (xs := us) (D := ⟨_, _, fun _ _ => True, fun _ _ => True⟩) (fun i σ H' => Same H H' ∧ ∃ p ws y3, H' p = some (.tup ws) ∧ Ivs H' ws (prO ts ps (ps.take i)) ∧ σ = [some (.ref a), some (.ref b), some (.ref p), y3]) ⟨s1, b, us, _, s1 _ _ hb, iv.same s1, rfl⟩ (fun i σ H' _ h => SqT.of (h.1 _ _ hb)) ?_ ?_
    · rintro i x σ H2 hi ⟨s2, p, ws, y3, ep, ivw, rfl⟩
      obtain ⟨c, x, y, rfl, exy, hc⟩ := iv.get hi
      have tk : ps.take (i + 1) = ps.take i ++ [(x, y)] := by
        rw [List.take_add_one, exy]
        rfl
      have pl := prO_len ts (ps.take i) ps
      have pcl : Pc (prO ts ps (ps.take i)) := pc.prO
      refine ⟨.ref a, rfl, .ref p, rfl, .ref c, rfl, a, p, c, tus, ws, ts, prO ts ps (ps.take i), x, y, rfl, s2 _ _ ha, tiv.same s2, tg, ep, ivw, pcl, by omega, s2 _ _ hc, fun H3 s3 => ⟨_, rfl, ite2 (fun e => ?_) (fun e => ?_)⟩⟩
      · have s23 := s2.trans s3
        refine ⟨.ref p, rfl, .ref c, rfl, p, c, ws, _, x, y, rfl, s3 _ _ ep, ivw.same s3, by omega, s23 _ _ hc, fun H4 p4 w4 s4 e4 iv4 => ?_⟩
        refine ⟨s23.trans s4, p4, w4, _, e4, ?_, rfl⟩
        rw [tk, prO_snoc]
        unfold prF
        rw [if_pos e]
        exact iv4
      · refine ⟨s2.trans s3, p, ws, _, s3 _ _ ep, ?_, rfl⟩
        rw [tk, prO_snoc]
        unfold prF
        rw [if_neg e]
        exact ivw.same s3
    · rintro σ H2 ⟨s2, p, ws, y3, ep, ivw, rfl⟩
      rw [lu, List.take_length] at ivw
      exact ⟨.ref p, rfl, q em _ p ws s2 ep ivw⟩

/-! ### what the law sees of a call -/
def outL (r : V) (o : Option (Int × Int × Int)) : List V := if o.isNone then [.str "returned"] else [.str "not generated", r, .bl true]
def sp_law_outcome : Sp := fun vs H Q _ => ∃ (a b : Addr) (way : Int) (tus us : List V) (ts ps : List (Int × Int)), vs = [.int way, .ref a, .ref b] ∧ H a = some (.tup tus) ∧ Ivs H tus ts ∧ Tg ts ∧ H b = some (.tup us) ∧ Ivs H us ps ∧ Pc ps ∧ ps.length ≤ 63 ∧
  ∀ H' r L, Same H H' → DV H' r (missO ps ts) → H' L = some (.lst (outL r (missO ps ts))) → Q (.ref L) H'
theorem ok_law_outcome (T : Tx K mg f_contains f_pieces_inside f_first_gap f_find_missing f_without_item f_require_generated f_can_spare f_removable_pieces f_prune_pieces f_law_deck f_law_draw f_law_line f_law_interval f_law_intervals f_law_gap f_law_missing f_law_outcome f_law f_NotGenerated_init X_NotGenerated X_SpanError X_BadInterval X_BadPieces X_BadTargets X_TooWide d_contains d_pieces_inside d_first_gap d_find_missing d_without_item d_require_generated d_can_spare d_removable_pieces d_prune_pieces d_law_deck d_law_draw d_law_line d_law_interval d_law_intervals d_law_gap d_law_missing d_law_outcome d_law d_NotGenerated_init) : FnOk P w K mg base CX0 8 f_law_outcome d_law_outcome ["_law_way", "_law_targets", "_law_pieces"] sp_law_outcome := by
  refine T.F_law_outcome.ok sc_law_outcome (fun vs H Q E h => ?_) (fun cdv A outer s H vs Q E hr h => ?_)
  · obtain ⟨a, b, way, tus, us, ts, ps, rfl, _⟩ := h
    rfl
  · obtain ⟨a, b, way, tus, us, ts, ps, rfl, ha, tiv, tg, hb, iv, pc, few, q⟩ := h
    refine ⟨_, (pss_cons (ps_set (i := 3) sc_law_outcome.nd rfl (Or.inl rfl) (pe_lst (pa_cons pe_str pa_nil)))
      (pss_cons (ps_try_as (i := 4)  (Wout := fun _ _ _ _ => False) rfl rfl sc_law_outcome.nd rfl rfl ⟨rfl, by decide, .inl T.xn_SpanError.g⟩ takes0
      (fun W pn xe tk _ => (pss_one (ps_if (pt_cmpR op_eq (pv 0) pe_int (nomark _))
      (pss_one (ps_expr (pe_callS (ok_removable_pieces T) (hr.mono (by decide)) (by rfl) T.g_removable_pieces T.F_removable_pieces.kp T.b_removable_pieces (fun σ => passAt tk σ) (pa_cons (pv 1) (pa_cons (pv 2) pa_nil)))))
      (pss_one (ps_expr (pe_callS (ok_prune_pieces T) (hr.mono (by decide)) (by rfl) T.g_prune_pieces T.F_prune_pieces.kp T.b_prune_pieces (fun σ => passAt tk σ) (pa_cons (pv 1) (pa_cons (pv 2) pa_nil))))))))
      (fun ea oe cls ed pn hz hf => (pss_cons (ps_set (i := 3) sc_law_outcome.nd rfl (Or.inl rfl) (pe_lst (pa_cons pe_str pa_nil)))
      (pss_one (ps_if (PW.pt (pw_and (pt_val (pe_callB (call_isY hz hf) (by rfl) T.z_isinstance (by decide +kernel) (pa_cons (pv 4) (pa_cons (pe_glob (v := .ref X_NotGenerated) (by rfl) T.xn_NotGenerated.g rfl) pa_nil)))) (pw_and1 (pt_not (pt_val (pe_callB (call_isYT hz hf) (by rfl) T.z_isinstance (by decide +kernel) (pa_cons (pv 4) (pa_cons (pe_tup (pa_cons (pe_glob (v := .ref X_BadInterval) (by rfl) T.xn_BadInterval.g rfl) (pa_cons (pe_glob (v := .ref X_BadPieces) (by rfl) T.xn_BadPieces.g rfl) (pa_cons (pe_glob (v := .ref X_BadTargets) (by rfl) T.xn_BadTargets.g rfl) (pa_cons (pe_glob (v := .ref X_TooWide) (by rfl) T.xn_TooWide.g rfl) pa_nil))))) pa_nil))))))))
      (pss_one (ps_set (i := 3) sc_law_outcome.nd rfl (Or.inl rfl) (pe_lst (pa_cons pe_str (pa_cons (pe_xf T.xi_NotGenerated.xf T.xi_NotGenerated.no hz hf (pv 4)) (pa_cons (pe_and (pe_callB (call_isY hz hf) (by rfl) T.z_isinstance (by decide +kernel) (pa_cons (pv 4) (pa_cons (pe_bltn (v := .ty "ValueError") (u := .type "ValueError") (by rfl) T.z_ValueError (by decide +kernel) rfl) pa_nil))) (pe_one (pe_not (pe_callB (call_isY hz hf) (by rfl) T.z_isinstance (by decide +kernel) (pa_cons (pv 4) (pa_cons (pe_bltn (v := .ty "LookupError") (u := .type "LookupError") (by rfl) T.z_LookupError (by decide +kernel) rfl) pa_nil)))))) pa_nil))))))
      pss_nil)))))
      (pss_one (ps_ret (pv 3))))), ?_⟩
    refine ⟨by show 1 ≤ sizeLine; decide, fun L nL => ?_⟩
    have s1 := same_new (o := .lst [.str "returned"]) nL
    have eL := upd_same (H := H) (a := L) (o := .lst [.str "returned"])
    generalize upd H L (.lst [.str "returned"]) = H1 at *
    refine ⟨_, rfl, rfl, _, rfl, ite2 (fun _ => ?_) (fun _ => ?_)⟩
    all_goals
      refine ⟨.ref a, rfl, .ref b, rfl, a, b, tus, us, ts, ps, rfl, s1 _ _ ha, tiv.same s1, tg, s1 _ _ hb, iv.same s1, pc, few, fun em H2 p ws s2 ep ivp => ?_, fun ne H2 r d s2 dv nd => ?_⟩
      · refine ⟨_, rfl, q H2 .non L (s1.trans s2) ?_ ?_⟩
        · rw [em]
          rfl
        · rw [em]
          exact s2 _ _ eL
      · refine ⟨true, T.xn_SpanError.exm T.xs_NotGenerated_SpanError, fun _ ea na => ?_, fun z => nomatch z⟩
        have ex := T.xi_NotGenerated.ex
        have s3 := same_new (o := .xd [("demand", r)]) nd
        have e3 := upd_same (H := H2) (a := d) (o := .xd [("demand", r)])
        generalize upd H2 d (.xd [("demand", r)]) = H3 at *
        refine ⟨by show 1 ≤ sizeLine; decide, fun L2 nL2 => ?_⟩
        have s4 := same_new (o := .lst [.str "wrong error"]) nL2
        have eL2 := upd_same (H := H3) (a := L2) (o := .lst [.str "wrong error"])
        generalize upd H3 L2 (.lst [.str "wrong error"]) = H4 at *
        refine ⟨.ref ea, rfl, X_NotGenerated, .ref X_NotGenerated, _, _, rfl, rfl, .inr ⟨d, _, rfl, s4 _ _ e3⟩, ex, .own _, kit_self, _, rfl, ite2 (fun _ => ?_) (fun z => absurd rfl z)⟩
        refine ⟨.ref ea, rfl, by show 4 ≤ sizeLine; decide, fun t nt => ?_⟩
        have s5 := same_new (o := .tup [.ref X_BadInterval, .ref X_BadPieces, .ref X_BadTargets, .ref X_TooWide]) nt
        have et := upd_same (H := H4) (a := t) (o := .tup [.ref X_BadInterval, .ref X_BadPieces, .ref X_BadTargets, .ref X_TooWide])
        generalize upd H4 t (.tup [.ref X_BadInterval, .ref X_BadPieces, .ref X_BadTargets, .ref X_TooWide]) = H5 at *
        refine ⟨X_NotGenerated, t, _, _, _, rfl, rfl, .inr ⟨d, _, rfl, s5 _ _ (s4 _ _ e3)⟩, ex, et, .cons (.own _) (.cons (.own _) (.cons (.own _) (.cons (.own _) .nil))), kit_noneI (mg := mg) T.xi_NotGenerated (l := [("BadInterval", X_BadInterval), ("BadPieces", X_BadPieces), ("BadTargets", X_BadTargets), ("TooWide", X_TooWide)]) (fun q hq => ?_), _, rfl, ite2 (fun _ => ?_) (fun z => absurd rfl z)⟩
        · rcases List.mem_cons.mp hq with rfl | hq
          · exact ⟨T.xn_BadInterval, T.xs_NotGenerated_BadInterval⟩
          rcases List.mem_cons.mp hq with rfl | hq
          · exact ⟨T.xn_BadPieces, T.xs_NotGenerated_BadPieces⟩
          rcases List.mem_cons.mp hq with rfl | hq
          · exact ⟨T.xn_BadTargets, T.xs_NotGenerated_BadTargets⟩
          rw [List.mem_singleton.mp hq]
          exact ⟨T.xn_TooWide, T.xs_NotGenerated_TooWide⟩
        have e5 := s5 _ _ (s4 _ _ e3)
        refine ⟨.ref ea, rfl, rfl, rfl, d, _, r, rfl, e5, rfl, ?_⟩
        refine ⟨.ref ea, rfl, X_NotGenerated, .ty "ValueError", _, _, rfl, rfl, .inr ⟨d, _, rfl, e5⟩, ex, .ty _, kit_bltn (by decide +kernel) T.xv_NotGenerated, ?_⟩
        refine ⟨true, rfl, iteT ?_⟩
        refine ⟨.ref ea, rfl, X_NotGenerated, .ty "LookupError", _, _, rfl, rfl, .inr ⟨d, _, rfl, e5⟩, ex, .ty _, kit_bltn (by decide +kernel) T.xl_NotGenerated, ?_⟩
        refine ⟨_, rfl, by show 3 ≤ sizeLine; decide, fun L3 nL3 => ?_⟩
        have s6 := same_new (o := .lst [.str "not generated", r, .bl true]) nL3
        have e6 := upd_same (H := H5) (a := L3) (o := .lst [.str "not generated", r, .bl true])
        have on : outL r (missO ps ts) = [.str "not generated", r, .bl true] := by
          unfold outL
          cases h : missO ps ts with
          | none => exact absurd h ne
          | some x => rfl
        have s26 := s3.trans (s4.trans (s5.trans s6))
        exact ⟨_, rfl, q _ r L3 (s1.trans (s2.trans s26)) (dv.tps (Tps.same s26)) (by rw [on]; exact e6)⟩
theorem Pc.tg {ts : List (Int × Int)} (h : Pc ts) : Tg ts := fun t ht => (h t ht).1.2
theorem dem_bd {ps ts : List (Int × Int)} (pt : Pc ts) {g lo hi : Int} (h : missO ps ts = some (g, lo, hi)) : (0 ≤ lo ∧ lo ≤ g) ∧ g ≤ hi ∧ hi < 10 ^ 13 := by
  obtain ⟨m, e⟩ := missO_some h
  have z := gapO_spec ps (lo, hi)
  rw [e] at z
  have z1 : lo ≤ g ∧ g ≤ hi := z.1
  have z2 := pt _ m
  simp only at z2
  omega
def outD (o : Option (Int × Int × Int)) : PyData := if o.isNone then .list [.str "returned"] else .list [.str "not generated", demD o, .bool true]
theorem out_dp {K : PySem.W.Frag} {H : Hp} {L : Addr} {r : V} {o : Option (Int × Int × Int)} (d : DV H r o) (h : H L = some (.lst (outL r o))) : Dp K H (.ref L) (outD o) := by
  unfold outL at h
  unfold outD
  cases o with
  | none => exact .lst (SqL.of h) (.cons (.str _) .nil)
  | some x => exact .lst (SqL.of h) (.cons (.str _) (.cons d.dp (.cons (.bl _) .nil)))
theorem sm_out {o : Option (Int × Int × Int)} (h : ∀ g lo hi, o = some (g, lo, hi) → g.natAbs < 10 ^ 30 ∧ lo.natAbs < 10 ^ 30 ∧ hi.natAbs < 10 ^ 30) : Sm 1300 3 (outD o) := by
  unfold outD
  cases o with
  | none =>
    refine (Sm.lst (n := 100) (dp := 0) fun x hx => ?_).mono (by show 1 * 101 ≤ 1300; decide) (by decide)
    rw [List.mem_singleton.mp hx]
    exact ⟨rfl, by decide +kernel, by decide +kernel, Nat.le_refl _⟩
  | some y =>
    refine (Sm.lst (n := 406) (dp := 2) fun x hx => ?_).mono (by show 3 * 407 ≤ 1300; decide) (by decide)
    rcases List.mem_cons.mp hx with rfl | hx
    · exact ⟨rfl, by decide +kernel, by decide +kernel, by decide⟩
    rcases List.mem_cons.mp hx with rfl | hx
    · exact sm_dem h
    rw [List.mem_singleton.mp hx]
    exact ⟨rfl, by decide +kernel, by decide +kernel, by decide⟩
def Gp (H : Hp) (v : V) : Prop := ∃ (a : Addr) (us : List V) (ps : List (Int × Int)), v = .ref a ∧ H a = some (.tup us) ∧ Ivs H us ps ∧ Pc ps ∧ ps.length ≤ 9
theorem Gp.tps {H H' : Hp} (s : Tps H H') {v : V} (h : Gp H v) : Gp H' v := by
  obtain ⟨a, us, ps, e, e1, i, r⟩ := h
  exact ⟨a, us, ps, e, s _ _ e1, i.tps s, r⟩
def shF (q : Int × Int) : Int × Int := (q.1, if q.2 - 1 > q.1 then q.2 - 1 else q.1)
def sp_law (K : PySem.W.Frag) : Sp := fun vs H Q _ => ∃ (a : Addr) (ns : List Int), vs = [.ref a] ∧ SqL K H a (ns.map V.int) ∧ ns.length ≤ 63 ∧ ∀ H', Q (.bl true) H'
theorem ok_law (T : Tx K mg f_contains f_pieces_inside f_first_gap f_find_missing f_without_item f_require_generated f_can_spare f_removable_pieces f_prune_pieces f_law_deck f_law_draw f_law_line f_law_interval f_law_intervals f_law_gap f_law_missing f_law_outcome f_law f_NotGenerated_init X_NotGenerated X_SpanError X_BadInterval X_BadPieces X_BadTargets X_TooWide d_contains d_pieces_inside d_first_gap d_find_missing d_without_item d_require_generated d_can_spare d_removable_pieces d_prune_pieces d_law_deck d_law_draw d_law_line d_law_interval d_law_intervals d_law_gap d_law_missing d_law_outcome d_law d_NotGenerated_init) : FnG P w K mg base 10 f_law d_law ["_law_script"] (sp_law K) := by
  refine FnG.of T.F_law sc_law (fun {vs H Q} h => ?_) (fun cdv A outer s H vs Q hr hq h => ?_)
  · obtain ⟨a, ns, rfl, _⟩ := h
    rfl
  · obtain ⟨a, ns, rfl, hS, hlen, q⟩ := h
    refine ⟨_, (pss_cons (ps_set (i := 1) sc_law.nd rfl (Or.inl rfl) (pe_call (ok_law_deck T) (hr.mono (by decide)) (by rfl) T.g_law_deck T.F_law_deck.kp T.b_law_deck .nil pass0 (pa_cons (pv 0) pa_nil)))
      (pss_cons (ps_for PassesOwn.never rfl (pi_range1 (by rfl) T.z_range (pa_cons pe_int pa_nil)) (pg_name (i := 2) sc_law.nd rfl (Or.inl rfl))
      (pss_cons (ps_set (i := 3) sc_law.nd rfl (Or.inl rfl) (pe_call (ok_law_line T) (hr.mono (by decide)) (by rfl) T.g_law_line T.F_law_line.kp T.b_law_line .nil pass0 (pa_cons (pv 1) (pa_cons (pe_op op_add pe_int (pe_call (ok_law_draw T) (hr.mono (by decide)) (by rfl) T.g_law_draw T.F_law_draw.kp T.b_law_draw .nil pass0 (pa_cons (pv 1) (pa_cons pe_int pa_nil)))) pa_nil))))
      (pss_cons (ps_par (by rfl) sc_law.nd (i := 4) (j := 5) rfl rfl (by decide) rfl rfl (pa_cons (pe_call (ok_law_intervals T) (hr.mono (by decide)) (by rfl) T.g_law_intervals T.F_law_intervals.kp T.b_law_intervals .nil pass0 (pa_cons (pv 1) (pa_cons (pv 3) (pa_cons pe_int pa_nil)))) (pa_cons (pe_call (ok_law_intervals T) (hr.mono (by decide)) (by rfl) T.g_law_intervals T.F_law_intervals.kp T.b_law_intervals .nil pass0 (pa_cons (pv 1) (pa_cons (pv 3) (pa_cons pe_int pa_nil)))) pa_nil)) (by rfl))
      (pss_cons (ps_setLc (i := 6) (own := [("_law_low", 7), ("_law_high", 8)]) (g := (gTup K 2 (gCons (gName 7) (gCons (gName 8) gNil)))) (tt := tYes) (by rfl) sc_law.nd rfl rfl (sw_true rfl rfl rfl (by decide +kernel)) (pi_tup (pv 4)) (blkOk_by (own := [("_law_low", 7), ("_law_high", 8)]) (N := N_law) (sc := defScope s_law) (by decide +kernel)) (fun _ _ _ _ _ => (pg_tup rfl (pgs_cons (pg_name (i := 7) sc_law.nd rfl (Or.inl rfl)) (pgs_cons (pg_name (i := 8) sc_law.nd rfl (Or.inl rfl)) pgs_nil)))) (fun _ _ _ _ _ => pts_nil) (fun _ _ _ _ _ => (pe_tup (pa_cons (pv 7) (pa_cons (pe_callB (call_max2 rfl) (by rfl) T.z_max (by decide +kernel) (pa_cons (pv 7) (pa_cons (pe_op op_sub (pv 8) pe_int) pa_nil))) pa_nil)))))
      (pss_one (ps_for PassesOwn.never rfl (pi_list (pe_lst (pa_cons (pv 5) (pa_cons (pe_tup pa_nil) (pa_cons (pv 4) (pa_cons (pe_slice sl_tupA (pv 4) (po_some pe_int) po_none) (pa_cons (pe_callTy call_tuple_of (by rfl) T.z_tuple (by decide +kernel) (pa_cons (pe_callB (cr_sortedT rfl) (by rfl) T.z_sorted (by decide +kernel) (pa_cons (pe_callTy (cr_setOfT rfl hr.units) (by rfl) T.z_set (by decide +kernel) (pa_cons (pv 6) pa_nil)) pa_nil)) pa_nil)) pa_nil))))))) (pg_name (i := 9) sc_law.nd rfl (Or.inl rfl))
      (pss_cons (ps_set (i := 10) sc_law.nd rfl (Or.inl rfl) (pe_call (ok_law_missing T) (hr.mono (by decide)) (by rfl) T.g_law_missing T.F_law_missing.kp T.b_law_missing .nil pass0 (pa_cons (pv 4) (pa_cons (pv 9) pa_nil))))
      (C8.pss_cut (ps_set (i := 11) sc_law.nd rfl (Or.inl rfl) (pe_ifExp (pt_cmpR op_notN (pv 10) pe_non (nomark _)) (pe_lst (pa_cons pe_str (pa_cons (pv 10) (pa_cons pe_bl pa_nil)))) (pe_lst (pa_cons pe_str pa_nil))))
      (pss_cons (ps_set (i := 12) sc_law.nd rfl (Or.inl rfl) (pe_callB (call_reprD hq hr.units) (by rfl) T.z_repr (by decide +kernel) (pa_cons (pe_lst (pa_cons (pv 4) (pa_cons (pv 9) pa_nil))) pa_nil)))
      (pss_one (ps_for PassesOwn.never rfl (pi_range1 (by rfl) T.z_range (pa_cons pe_int pa_nil)) (pg_name (i := 13) sc_law.nd rfl (Or.inl rfl))
      (pss_one (ps_if (PW.pt (pw_or (pt_cmpR op_ne (pe_callB (call_reprD hq hr.units) (by rfl) T.z_repr (by decide +kernel) (pa_cons (pe_call (ok_law_outcome T) (hr.mono (by decide)) (by rfl) T.g_law_outcome T.F_law_outcome.kp T.b_law_outcome .nil pass0 (pa_cons (pv 13) (pa_cons (pv 4) (pa_cons (pv 9) pa_nil)))) pa_nil)) (pe_callB (call_reprD hq hr.units) (by rfl) T.z_repr (by decide +kernel) (pa_cons (pv 11) pa_nil)) (nomark _)) (pw_or1 (pt_cmpR op_ne (pe_callB (call_reprD hq hr.units) (by rfl) T.z_repr (by decide +kernel) (pa_cons (pe_lst (pa_cons (pv 4) (pa_cons (pv 9) pa_nil))) pa_nil)) (pv 12) (nomark _)))))
      (pss_one (ps_ret pe_bl))
      pss_nil)))))))))))))
      (pss_one (ps_ret pe_bl)))), ?_⟩
    refine ⟨.ref a, rfl, a, ns, rfl, hS, hlen, fun H1 d c s1 nd nc dk0 => ?_⟩
    refine ⟨12, rfl, by decide, by decide, for_range (n := 12) (D := ⟨_, _, fun _ _ => True, fun _ _ => True⟩) (fun i σ H' => (∃ n : Int, Dk H' d c n ∧ 0 ≤ n ∧ n ≤ 200 * i) ∧ ∃ y2 y3 y4 y5 y6 y7 y8 y9 y10 y11 y12 y13, σ = [some (.ref a), some (.ref d), y2, y3, y4, y5, y6, y7, y8, y9, y10, y11, y12, y13])
      ⟨⟨0, dk0, by decide, by decide⟩, _, _, _, _, _, _, _, _, _, _, _, _, rfl⟩ ?_ (fun σ H' _ => q H')⟩
    rintro i σ H2 hi ⟨⟨n, dk2, n0, n1⟩, y2, y3, y4, y5, y6, y7, y8, y9, y10, y11, y12, y13, rfl⟩
    refine ⟨.ref d, rfl, .ref d, rfl, d, c, n, 8, rfl, dk2, n0, by omega, by decide, by decide, fun H3 r kp3 dk3 r0 r1 => ?_⟩
    refine ⟨_, _, rfl, rfl, d, c, n + 1, 1 + r, rfl, dk3, by omega, by omega, by omega, by omega, fun H4 l ls kp4 dk4 nl el ll ln => ?_⟩
    have offl := dk3.off nl
    refine ⟨.ref d, rfl, .ref l, rfl, d, c, l, _, 9, ls, rfl, dk4, by omega, by omega, offl, el, by omega, by omega, ln, by decide, by decide, fun H5 tt tus ts m5 kp5 dk5 m50 m51 ett tiv trow tl => ?_⟩
    have el5 := kp5.keep offl el
    refine ⟨.ref d, rfl, .ref l, rfl, d, c, l, _, 9, ls, rfl, dk5, by omega, by omega, offl, el5, by omega, by omega, ln, by decide, by decide, fun H6 pp pus ps m6 kp6 dk6 m60 m61 epp piv prow pl => ?_⟩
    have ett6 := (kp6.tps dk5) _ _ ett
    have tiv6 := tiv.tps (kp6.tps dk5)
    have ptc := trow.pc ln
    have ppc := prow.pc ln
    have tg : Tg ts := ptc.tg
    have ltu := tiv.length
    have lpu := piv.length
    refine ⟨_, _, rfl, ?_⟩
    refine ⟨.ref tt, rfl, tt, rfl, ⟨_, SqT.of ett6⟩, fun D nD => ?_⟩
    refine lcT (K := K) (a := tt) (xs := tus) (fun j H' ws => Ivs H' ws ((ts.take j).map shF)) nD (fun H' s => SqT.of (s _ _ (ett6))) (by omega) (fun _ _ _ _ t r => r.tps t) (fun j H' ws r => (by rw [r.length, List.length_map]; exact List.length_take_le _ _)) (fun _ => .nil) ?_ ?_
    · rintro j z H' N acc hj sj eA sz r no yes
      obtain ⟨e, x, y, rfl, exy, he⟩ := tiv6.get hj
      refine ⟨e, _, rfl, SqT.of (sj _ _ he), rfl, .int x, [.int y], rfl, .int y, [], rfl, rfl, rfl, ?_⟩
      dsimp only [tYes]
      first | rw [if_pos rfl] | skip
      refine ⟨.int x, rfl, .int x, rfl, .int y, rfl, _, _, rfl, rfl, _, _, rfl, by show 2 ≤ sizeLine; decide, fun t nt => ?_⟩
      refine yes _ _ (same_new nt) ?_
      rw [List.take_add_one, exy, List.map_append]
      exact (r.same (same_new nt)).snoc upd_same
    intro H7 ws s7 eD r7
    rw [ltu, List.take_length] at r7
    -- the list of five
    refine ⟨_, rfl, by show 0 ≤ sizeLine; decide, fun t0 nt0 => ?_⟩
    have s8 := same_new (o := .tup []) nt0
    have e8 := upd_same (H := H7) (a := t0) (o := .tup [])
    generalize upd H7 t0 (.tup []) = H8 at *
    have s68 := s7.trans s8
    refine ⟨_, rfl, _, rfl, 1, rfl, ?_⟩
    dsimp only [tNoPart]
    refine slA_any (s68 _ _ ett6) (fun H9 p1 s9 e9 => ?_)
    rw [show cutV tus (some 1) none = tus.drop 1 from cutFrom tus 1] at e9
    have s69 := s68.trans s9
    refine ⟨.ref D, rfl, ?_⟩
    dsimp only [tNil]
    have shp : ∀ q ∈ ts.map shF, (0 ≤ q.1 ∧ q.1 ≤ q.2) ∧ q.2 < 10 ^ 13 := fun q hq => by
      obtain ⟨z, hz, rfl⟩ := List.mem_map.mp hq
      have := ptc z hz
      rw [show (shF z).1 = z.1 from rfl, show (shF z).2 = if z.2 - 1 > z.1 then z.2 - 1 else z.1 from rfl]
      split <;> omega
    refine sorted_set_pairs (SqL.of ((s8.trans s9) _ _ eD)) (r7.same (s8.trans s9)) (by rw [List.length_map]; omega) (fun q hq => by have := shp q hq; omega) (fun Ha pb ub qb sa npb eb ivb ascb memb => ?_)
    refine ⟨pb, ub, rfl, .inl ⟨SqL.of eb, fun tb ntb => ?_⟩⟩
    have sb := same_new (o := .tup ub) ntb
    have etb := upd_same (H := Ha) (a := tb) (o := .tup ub)
    generalize upd Ha tb (.tup ub) = Hb at *
    have ivb' := ivb.same sb
    have ndb : qb.length ≤ (ts.map shF).length := nodup_le (ascb.imp fun {a b} h e => by
      subst e
      rcases h with h | h <;> omega) (fun x hx => (memb x).mp hx)
    rw [List.length_map] at ndb
    have s6b := s69.trans (sa.trans sb)
    refine ⟨by show 5 ≤ sizeLine; decide, fun l9 nl9 => ?_⟩
    have sc := same_new (o := .lst [.ref pp, .ref t0, .ref tt, .ref p1, .ref tb]) nl9
    have e10 := upd_same (H := Hb) (a := l9) (o := .lst [.ref pp, .ref t0, .ref tt, .ref p1, .ref tb])
    generalize upd Hb l9 (.lst [.ref pp, .ref t0, .ref tt, .ref p1, .ref tb]) = Hc at *
    have s6c := s6b.trans sc
    have tivc := tiv6.same s6c
    have ettc := s6c _ _ ett6
    have all : ∀ v ∈ [V.ref pp, .ref t0, .ref tt, .ref p1, .ref tb], Gp Hc v := fun v hv => by
      rcases List.mem_cons.mp hv with rfl | hv
      · exact ⟨pp, pus, ps, rfl, s6c _ _ epp, piv.same s6c, ppc, by omega⟩
      rcases List.mem_cons.mp hv with rfl | hv
      · exact ⟨t0, [], [], rfl, sc _ _ (sb _ _ (sa _ _ (s9 _ _ e8))), .nil, (fun q hq => nomatch hq), Nat.zero_le _⟩
      rcases List.mem_cons.mp hv with rfl | hv
      · exact ⟨tt, tus, ts, rfl, ettc, tivc, ptc, by omega⟩
      rcases List.mem_cons.mp hv with rfl | hv
      · exact ⟨p1, _, ts.drop 1, rfl, sc _ _ (sb _ _ (sa _ _ e9)), tivc.drop 1, (fun q hq => ptc q (List.mem_of_mem_drop hq)), by rw [List.length_drop]; omega⟩
      rw [List.mem_singleton.mp hv]
      exact ⟨tb, ub, qb, rfl, sc _ _ etb, ivb'.same sc, (fun q hq => shp q ((memb q).mp hq)), by omega⟩
    have dkc := dk6.kept s6c
    generalize [V.ref pp, .ref t0, .ref tt, .ref p1, .ref tb] = five at *
    refine ⟨l9, rfl, ⟨_, SqL.of e10⟩, ?_⟩
    refine for_list (K := K) (a := l9) (xs := five) (D := ⟨_, _, fun _ _ => True, fun _ _ => True⟩) (fun j σ H' => Same Hc H' ∧ ∃ z7 z8 z9 z10 z11 z12 z13, σ = [some (.ref a), some (.ref d), some (.int (0 + (i : Nat))), some (.ref l), some (.ref tt), some (.ref pp), some (.ref D), z7, z8, z9, z10, z11, z12, z13])
      ⟨Same.refl _, _, _, _, _, _, _, _, rfl⟩ (fun j σ H' _ h => SqL.of (h.1 _ _ e10)) ?_ ?_
    · rintro j v σ Hd hj ⟨sd, z7, z8, z9, z10, z11, z12, z13, rfl⟩
      obtain ⟨va, vus, vps, rfl, eva, viv, vpc, vl⟩ := (all v (List.mem_of_getElem? hj)).tps (Tps.same sd)
      have ettd := sd _ _ ettc
      have tivd := tivc.same sd
      refine ⟨.ref tt, rfl, .ref va, rfl, tt, va, tus, vus, ts, vps, rfl, ettd, tivd, tg, .inr eva, viv, by omega, fun He r se dv => ?_⟩
      refine ⟨fun σ H' => ∃ Ld z12 z13, Same He H' ∧ H' Ld = some (.lst (outL r (missO vps ts))) ∧ σ = [some (.ref a), some (.ref d), some (.int (0 + (i : Nat))), some (.ref l), some (.ref tt), some (.ref pp), some (.ref D), z7, z8, some (.ref va), some r, some (.ref Ld), z12, z13], ?_, ?_⟩
      · cases em : missO vps ts with
        | none =>
          have dv := dv
          rw [em] at dv
          cases dv
          refine ⟨_, rfl, rfl, _, rfl, iteF ?_⟩
          refine ⟨by show 1 ≤ sizeLine; decide, fun Ld nLd => ?_⟩
          exact ⟨Ld, _, _, same_new nLd, upd_same, rfl⟩
        | some x =>
          obtain ⟨g, lo, hi⟩ := x
          have dv := dv
          rw [em] at dv
          obtain ⟨u, t, rfl, _, _⟩ := dv
          refine ⟨_, rfl, rfl, _, rfl, iteT ?_⟩
          refine ⟨_, rfl, by show 3 ≤ sizeLine; decide, fun Ld nLd => ?_⟩
          exact ⟨Ld, _, _, same_new nLd, upd_same, rfl⟩
      rintro σ Hf ⟨Ld, z12, z13, sf, eLd, rfl⟩
      have sef := se.trans sf
      obtain ⟨o, eo⟩ : ∃ o, o = missO vps ts := ⟨_, rfl⟩
      have dvf := dv.tps (Tps.same sf)
      rw [← eo] at dvf eLd
      have smo : Sm 1300 3 (outD o) := sm_out fun g lo hi e => by
        have := dem_bd ptc (eo.symm.trans e)
        omega
      obtain ⟨dd, edd⟩ : ∃ dd, dd = outD o := ⟨_, rfl⟩
      have dpL : Dp K Hf (.ref Ld) dd := by
        rw [edd]
        exact out_dp dvf eLd
      rw [← edd] at smo
      obtain ⟨d2, ed2⟩ : ∃ d2, d2 = PyData.list [.tuple (ts.map pairD), .tuple (vps.map pairD)] := ⟨_, rfl⟩
      have sm2 : Sm 3700 3 d2 := by
        rw [ed2]
        refine (Sm.lst (n := 9 * 203) (dp := 2) fun x hx => ?_).mono (by show 2 * (9 * 203 + 1) ≤ 3700; decide) (Nat.le_refl _)
        rcases List.mem_cons.mp hx with rfl | hx
        · exact sm_tps ptc (by omega)
        · rw [List.mem_singleton.mp hx]
          exact sm_tps vpc vl
      have dp2' : ∀ {Hx : Hp} {g : Addr}, Same Hd Hx → Hx g = some (.lst [.ref tt, .ref va]) → Dp K Hx (.ref g) d2 := fun sx eg => by
        rw [ed2]
        exact .lst (SqL.of eg) (.cons (.tup (SqT.of (sx _ _ ettd)) (tivd.same sx).dp) (.cons (.tup (SqT.of (sx _ _ eva)) (viv.same sx).dp) .nil))
      refine ⟨.ref tt, rfl, .ref va, rfl, by show 2 ≤ sizeLine; decide, fun g ng => ?_⟩
      have sg := same_new (o := .lst [.ref tt, .ref va]) ng
      have eg := upd_same (H := Hf) (a := g) (o := .lst [.ref tt, .ref va])
      generalize upd Hf g (.lst [.ref tt, .ref va]) = Hg at *
      refine ⟨.ref g, d2, 3700, 3, rfl, dp2' (sef.trans sg) eg, sm2, by decide, by decide, ?_⟩
      refine ⟨2, rfl, by decide, by decide, for_range (n := 2) (D := ⟨_, _, fun _ _ => True, fun _ _ => True⟩) (fun k σ H' => Same Hg H' ∧ ∃ z13, σ = [some (.ref a), some (.ref d), some (.int (0 + (i : Nat))), some (.ref l), some (.ref tt), some (.ref pp), some (.ref D), z7, z8, some (.ref va), some r, some (.ref Ld), some (.str d2.shown), z13])
        ⟨Same.refl _, _, rfl⟩ ?_ ?_⟩
      · rintro k σ Hh hk ⟨sh, z13, rfl⟩
        have sdh := sef.trans (sg.trans sh)
        refine ⟨_, rfl, .ref tt, rfl, .ref va, rfl, tt, va, _, tus, vus, ts, vps, rfl, sdh _ _ ettd, tivd.same sdh, tg, sdh _ _ eva, viv.same sdh, vpc, by omega, fun Hi r2 L2 si dv2 eL2 => ?_⟩
        rw [← eo] at dv2 eL2
        have dpL2 : Dp K Hi (.ref L2) dd := by
          rw [edd]
          exact out_dp dv2 eL2
        have dpL3 : Dp K Hi (.ref Ld) dd := by
          rw [edd]
          exact out_dp (dvf.tps (Tps.same ((sg.trans sh).trans si))) (((sg.trans sh).trans si) _ _ eLd)
        refine ⟨.ref L2, dd, 1300, 3, rfl, dpL2, smo, by decide, by decide, ?_⟩
        refine ⟨.ref Ld, rfl, .ref Ld, dd, 1300, 3, rfl, dpL3, smo, by decide, by decide, ?_⟩
        refine ⟨rfl, _, rfl, iteNS rfl ?_⟩
        refine ⟨.ref tt, rfl, .ref va, rfl, by show 2 ≤ sizeLine; decide, fun g2 ng2 => ?_⟩
        have sj := same_new (o := .lst [.ref tt, .ref va]) ng2
        have eg2 := upd_same (H := Hi) (a := g2) (o := .lst [.ref tt, .ref va])
        generalize upd Hi g2 (.lst [.ref tt, .ref va]) = Hj at *
        refine ⟨.ref g2, d2, 3700, 3, rfl, dp2' ((sdh.trans si).trans sj) eg2, sm2, by decide, by decide, ?_⟩
        refine ⟨.str d2.shown, rfl, rfl, _, rfl, iteNS rfl ?_⟩
        exact ⟨sh.trans (si.trans sj), _, rfl⟩
      · rintro σ Hh ⟨sh, z13, rfl⟩
        exact ⟨sd.trans (sef.trans (sg.trans sh)), _, _, _, _, _, _, _, rfl⟩
    · rintro σ Hd ⟨sd, z7, z8, z9, z10, z11, z12, z13, rfl⟩
      exact ⟨⟨_, dkc.kept sd, by omega, by omega⟩, _, _, _, _, _, _, _, _, _, _, _, _, rfl⟩

end
theorem all_mk {l : PySem.W.OpenLaw} {w : World} {K : PySem.W.Frag} {h : Heap} {mg : Str → Option Value} {fa f1 f2 f3 f4 f5 f6 f7 f8 f9 f10 f11 f12 f13 f14 f15 f16 f17 f18 f19 X_NotGenerated X_SpanError X_BadInterval X_BadPieces X_BadTargets X_TooWide : Addr} (X : K.In h) (G : h.Ns mainGlobals mg) (hfa : mg "law" = some (.ref fa))
    {od1 an1 od2 an2 od3 an3 od4 an4 od5 an5 od6 an6 od7 an7 od8 an8 od9 an9 od10 an10 od11 an11 od12 an12 od13 an13 od14 an14 od15 an15 od16 an16 od17 an17 od18 an18 od19 an19 : Option Addr} {sl1 sl2 sl3 sl4 sl5 sl6 sl7 sl8 sl9 sl10 sl11 sl12 sl13 sl14 sl15 sl16 sl17 sl18 sl19 : Array (Option Value)} {oc1 kV1 dc1 pm1 cd1 ct1 oc2 kV2 dc2 pm2 cd2 ct2 oc3 kV3 dc3 pm3 cd3 ct3 oc4 kV4 dc4 pm4 cd4 ct4 oc5 kV5 dc5 pm5 cd5 ct5 oc6 kV6 dc6 pm6 cd6 ct6 oc7 kV7 dc7 pm7 cd7 ct7 oc8 kV8 dc8 pm8 cd8 ct8 oc9 kV9 dc9 pm9 cd9 ct9 oc10 kV10 dc10 pm10 cd10 ct10 oc11 kV11 dc11 pm11 cd11 ct11 oc12 kV12 dc12 pm12 cd12 ct12 oc13 kV13 dc13 pm13 cd13 ct13 oc14 kV14 dc14 pm14 cd14 ct14 oc15 kV15 dc15 pm15 cd15 ct15 oc16 kV16 dc16 pm16 cd16 ct16 oc17 kV17 dc17 pm17 cd17 ct17 oc18 kV18 dc18 pm18 cd18 ct18 oc19 kV19 dc19 pm19 cd19 ct19 : Value}
    (a1 : PySem.W.nsIn K mainGlobals "contains" = some (some (.ref f1))) (l1 : K.lookup f1 = some ⟨oc1, od1, .func (PySem.W.fnOf "contains" "contains" (defArgs s_contains) (defBody s_contains) (defScope s_contains) .none kV1 dc1 pm1 an1 cd1 ct1), sl1⟩) (c1 : PySem.W.codeIn K cd1 "contains" = true) (k1 : PySem.W.keepIn K (.ref f1) = true)
    (a2 : PySem.W.nsIn K mainGlobals "pieces_inside" = some (some (.ref f2))) (l2 : K.lookup f2 = some ⟨oc2, od2, .func (PySem.W.fnOf "pieces_inside" "pieces_inside" (defArgs s_pieces_inside) (defBody s_pieces_inside) (defScope s_pieces_inside) .none kV2 dc2 pm2 an2 cd2 ct2), sl2⟩) (c2 : PySem.W.codeIn K cd2 "pieces_inside" = true) (k2 : PySem.W.keepIn K (.ref f2) = true)
    (a3 : PySem.W.nsIn K mainGlobals "first_gap" = some (some (.ref f3))) (l3 : K.lookup f3 = some ⟨oc3, od3, .func (PySem.W.fnOf "first_gap" "first_gap" (defArgs s_first_gap) (defBody s_first_gap) (defScope s_first_gap) .none kV3 dc3 pm3 an3 cd3 ct3), sl3⟩) (c3 : PySem.W.codeIn K cd3 "first_gap" = true) (k3 : PySem.W.keepIn K (.ref f3) = true)
    (a4 : PySem.W.nsIn K mainGlobals "find_missing" = some (some (.ref f4))) (l4 : K.lookup f4 = some ⟨oc4, od4, .func (PySem.W.fnOf "find_missing" "find_missing" (defArgs s_find_missing) (defBody s_find_missing) (defScope s_find_missing) .none kV4 dc4 pm4 an4 cd4 ct4), sl4⟩) (c4 : PySem.W.codeIn K cd4 "find_missing" = true) (k4 : PySem.W.keepIn K (.ref f4) = true)
    (a5 : PySem.W.nsIn K mainGlobals "without_item" = some (some (.ref f5))) (l5 : K.lookup f5 = some ⟨oc5, od5, .func (PySem.W.fnOf "without_item" "without_item" (defArgs s_without_item) (defBody s_without_item) (defScope s_without_item) .none kV5 dc5 pm5 an5 cd5 ct5), sl5⟩) (c5 : PySem.W.codeIn K cd5 "without_item" = true) (k5 : PySem.W.keepIn K (.ref f5) = true)
    (a6 : PySem.W.nsIn K mainGlobals "require_generated" = some (some (.ref f6))) (l6 : K.lookup f6 = some ⟨oc6, od6, .func (PySem.W.fnOf "require_generated" "require_generated" (defArgs s_require_generated) (defBody s_require_generated) (defScope s_require_generated) .none kV6 dc6 pm6 an6 cd6 ct6), sl6⟩) (c6 : PySem.W.codeIn K cd6 "require_generated" = true) (k6 : PySem.W.keepIn K (.ref f6) = true)
    (a7 : PySem.W.nsIn K mainGlobals "can_spare" = some (some (.ref f7))) (l7 : K.lookup f7 = some ⟨oc7, od7, .func (PySem.W.fnOf "can_spare" "can_spare" (defArgs s_can_spare) (defBody s_can_spare) (defScope s_can_spare) .none kV7 dc7 pm7 an7 cd7 ct7), sl7⟩) (c7 : PySem.W.codeIn K cd7 "can_spare" = true) (k7 : PySem.W.keepIn K (.ref f7) = true)
    (a8 : PySem.W.nsIn K mainGlobals "removable_pieces" = some (some (.ref f8))) (l8 : K.lookup f8 = some ⟨oc8, od8, .func (PySem.W.fnOf "removable_pieces" "removable_pieces" (defArgs s_removable_pieces) (defBody s_removable_pieces) (defScope s_removable_pieces) .none kV8 dc8 pm8 an8 cd8 ct8), sl8⟩) (c8 : PySem.W.codeIn K cd8 "removable_pieces" = true) (k8 : PySem.W.keepIn K (.ref f8) = true)
    (a9 : PySem.W.nsIn K mainGlobals "prune_pieces" = some (some (.ref f9))) (l9 : K.lookup f9 = some ⟨oc9, od9, .func (PySem.W.fnOf "prune_pieces" "prune_pieces" (defArgs s_prune_pieces) (defBody s_prune_pieces) (defScope s_prune_pieces) .none kV9 dc9 pm9 an9 cd9 ct9), sl9⟩) (c9 : PySem.W.codeIn K cd9 "prune_pieces" = true) (k9 : PySem.W.keepIn K (.ref f9) = true)
    (a10 : PySem.W.nsIn K mainGlobals "_law_deck" = some (some (.ref f10))) (l10 : K.lookup f10 = some ⟨oc10, od10, .func (PySem.W.fnOf "_law_deck" "_law_deck" (defArgs s_law_deck) (defBody s_law_deck) (defScope s_law_deck) .none kV10 dc10 pm10 an10 cd10 ct10), sl10⟩) (c10 : PySem.W.codeIn K cd10 "_law_deck" = true) (k10 : PySem.W.keepIn K (.ref f10) = true)
    (a11 : PySem.W.nsIn K mainGlobals "_law_draw" = some (some (.ref f11))) (l11 : K.lookup f11 = some ⟨oc11, od11, .func (PySem.W.fnOf "_law_draw" "_law_draw" (defArgs s_law_draw) (defBody s_law_draw) (defScope s_law_draw) .none kV11 dc11 pm11 an11 cd11 ct11), sl11⟩) (c11 : PySem.W.codeIn K cd11 "_law_draw" = true) (k11 : PySem.W.keepIn K (.ref f11) = true)
    (a12 : PySem.W.nsIn K mainGlobals "_law_line" = some (some (.ref f12))) (l12 : K.lookup f12 = some ⟨oc12, od12, .func (PySem.W.fnOf "_law_line" "_law_line" (defArgs s_law_line) (defBody s_law_line) (defScope s_law_line) .none kV12 dc12 pm12 an12 cd12 ct12), sl12⟩) (c12 : PySem.W.codeIn K cd12 "_law_line" = true) (k12 : PySem.W.keepIn K (.ref f12) = true)
    (a13 : PySem.W.nsIn K mainGlobals "_law_interval" = some (some (.ref f13))) (l13 : K.lookup f13 = some ⟨oc13, od13, .func (PySem.W.fnOf "_law_interval" "_law_interval" (defArgs s_law_interval) (defBody s_law_interval) (defScope s_law_interval) .none kV13 dc13 pm13 an13 cd13 ct13), sl13⟩) (c13 : PySem.W.codeIn K cd13 "_law_interval" = true) (k13 : PySem.W.keepIn K (.ref f13) = true)
    (a14 : PySem.W.nsIn K mainGlobals "_law_intervals" = some (some (.ref f14))) (l14 : K.lookup f14 = some ⟨oc14, od14, .func (PySem.W.fnOf "_law_intervals" "_law_intervals" (defArgs s_law_intervals) (defBody s_law_intervals) (defScope s_law_intervals) .none kV14 dc14 pm14 an14 cd14 ct14), sl14⟩) (c14 : PySem.W.codeIn K cd14 "_law_intervals" = true) (k14 : PySem.W.keepIn K (.ref f14) = true)
    (a15 : PySem.W.nsIn K mainGlobals "_law_gap" = some (some (.ref f15))) (l15 : K.lookup f15 = some ⟨oc15, od15, .func (PySem.W.fnOf "_law_gap" "_law_gap" (defArgs s_law_gap) (defBody s_law_gap) (defScope s_law_gap) .none kV15 dc15 pm15 an15 cd15 ct15), sl15⟩) (c15 : PySem.W.codeIn K cd15 "_law_gap" = true) (k15 : PySem.W.keepIn K (.ref f15) = true)
    (a16 : PySem.W.nsIn K mainGlobals "_law_missing" = some (some (.ref f16))) (l16 : K.lookup f16 = some ⟨oc16, od16, .func (PySem.W.fnOf "_law_missing" "_law_missing" (defArgs s_law_missing) (defBody s_law_missing) (defScope s_law_missing) .none kV16 dc16 pm16 an16 cd16 ct16), sl16⟩) (c16 : PySem.W.codeIn K cd16 "_law_missing" = true) (k16 : PySem.W.keepIn K (.ref f16) = true)
    (a17 : PySem.W.nsIn K mainGlobals "_law_outcome" = some (some (.ref f17))) (l17 : K.lookup f17 = some ⟨oc17, od17, .func (PySem.W.fnOf "_law_outcome" "_law_outcome" (defArgs s_law_outcome) (defBody s_law_outcome) (defScope s_law_outcome) .none kV17 dc17 pm17 an17 cd17 ct17), sl17⟩) (c17 : PySem.W.codeIn K cd17 "_law_outcome" = true) (k17 : PySem.W.keepIn K (.ref f17) = true)
    (a18 : PySem.W.nsIn K mainGlobals "law" = some (some (.ref f18))) (l18 : K.lookup f18 = some ⟨oc18, od18, .func (PySem.W.fnOf "law" "law" (defArgs s_law) (defBody s_law) (defScope s_law) .none kV18 dc18 pm18 an18 cd18 ct18), sl18⟩) (c18 : PySem.W.codeIn K cd18 "law" = true) (k18 : PySem.W.keepIn K (.ref f18) = true)
    (a19 : PySem.W.findIn K (.ref X_NotGenerated) "__init__" = some (some (.ref f19))) (i19 : PySem.W.isFn K (.ref f19) = true) (l19 : K.lookup f19 = some ⟨oc19, od19, .func (PySem.W.fnOf "__init__" "NotGenerated.__init__" (defArgs s_NotGenerated_init) (defBody s_NotGenerated_init) (defScope s_NotGenerated_init) .none kV19 dc19 pm19 an19 cd19 ct19), sl19⟩) (c19 : PySem.W.codeIn K cd19 "NotGenerated.__init__" = true) (k19 : PySem.W.keepIn K (.ref f19) = true)
    {nm_NotGenerated qn_NotGenerated : Str} {N_NotGenerated : Addr} {bs_NotGenerated bm_NotGenerated sb_NotGenerated : List Value} {sn_NotGenerated : List Str} {ab_NotGenerated : Bool} {co_NotGenerated : Option Bool} {dd_NotGenerated : Option Addr} {m0_NotGenerated m1_NotGenerated m2_NotGenerated m3_NotGenerated m5_NotGenerated : Option Value}
    (aX_NotGenerated : PySem.W.nsIn K mainGlobals "NotGenerated" = some (some (.ref X_NotGenerated))) (iX_NotGenerated : PySem.W.isClsIn K X_NotGenerated = true) (tX_NotGenerated : PySem.W.typeIn K (.ref X_NotGenerated) = some (.type "type")) (bX_NotGenerated : PySem.W.subIn K (.ref X_NotGenerated) (.type "BaseException") = some true) (xL_NotGenerated : K.lookup X_NotGenerated = some (excClassObj nm_NotGenerated qn_NotGenerated X_NotGenerated N_NotGenerated bs_NotGenerated bm_NotGenerated true sn_NotGenerated sb_NotGenerated ab_NotGenerated co_NotGenerated dd_NotGenerated m0_NotGenerated m1_NotGenerated m2_NotGenerated m3_NotGenerated m5_NotGenerated "ValueError.__new__")) (rL_NotGenerated : PySem.HandSPX.refsVE bm_NotGenerated = true) (sX_NotGenerated : PySem.W.findIn K (.ref X_NotGenerated) "__setattr__" = some (some (.builtin "object.__setattr__"))) (kX_NotGenerated : PySem.W.keepIn K (.ref X_NotGenerated) = true) (nX_NotGenerated : PySem.W.findIn K (.ref X_NotGenerated) "demand" = some none) (fX_NotGenerated : PySem.W.typeIn K (.ref f19) = some (.type "function")) (gX_NotGenerated : PySem.W.findIn K (.ref X_NotGenerated) "__getattribute__" = some (some (.builtin "BaseException.__getattribute__"))) (hX_NotGenerated : PySem.W.findIn K (.ref X_NotGenerated) "__getattr__" = some none) (dX_NotGenerated : PySem.W.hasDictIn K X_NotGenerated = true) (cX_NotGenerated : PySem.W.findIn K (.ref X_NotGenerated) "__class__" = some (some (.builtin "object.__class__"))) (eX_NotGenerated : PySem.W.specialIn K (.builtin "object.__class__") "__get__" = some (some (.builtin "getset_descriptor.__get__"))) (uX_NotGenerated : PySem.W.takesIn K (.builtin "object.__class__") = some true) (mX_NotGenerated : PySem.W.mroIn K X_NotGenerated (.type "object") = some true) (vX_NotGenerated : PySem.W.subIn K (.ref X_NotGenerated) (.type "ValueError") = some true) (wX_NotGenerated : PySem.W.subIn K (.ref X_NotGenerated) (.type "LookupError") = some false)
    (aX_SpanError : PySem.W.nsIn K mainGlobals "SpanError" = some (some (.ref X_SpanError))) (iX_SpanError : PySem.W.isClsIn K X_SpanError = true) (tX_SpanError : PySem.W.typeIn K (.ref X_SpanError) = some (.type "type")) (bX_SpanError : PySem.W.subIn K (.ref X_SpanError) (.type "BaseException") = some true)
    (aX_BadInterval : PySem.W.nsIn K mainGlobals "BadInterval" = some (some (.ref X_BadInterval))) (iX_BadInterval : PySem.W.isClsIn K X_BadInterval = true) (tX_BadInterval : PySem.W.typeIn K (.ref X_BadInterval) = some (.type "type")) (bX_BadInterval : PySem.W.subIn K (.ref X_BadInterval) (.type "BaseException") = some true)
    (aX_BadPieces : PySem.W.nsIn K mainGlobals "BadPieces" = some (some (.ref X_BadPieces))) (iX_BadPieces : PySem.W.isClsIn K X_BadPieces = true) (tX_BadPieces : PySem.W.typeIn K (.ref X_BadPieces) = some (.type "type")) (bX_BadPieces : PySem.W.subIn K (.ref X_BadPieces) (.type "BaseException") = some true)
    (aX_BadTargets : PySem.W.nsIn K mainGlobals "BadTargets" = some (some (.ref X_BadTargets))) (iX_BadTargets : PySem.W.isClsIn K X_BadTargets = true) (tX_BadTargets : PySem.W.typeIn K (.ref X_BadTargets) = some (.type "type")) (bX_BadTargets : PySem.W.subIn K (.ref X_BadTargets) (.type "BaseException") = some true)
    (aX_TooWide : PySem.W.nsIn K mainGlobals "TooWide" = some (some (.ref X_TooWide))) (iX_TooWide : PySem.W.isClsIn K X_TooWide = true) (tX_TooWide : PySem.W.typeIn K (.ref X_TooWide) = some (.type "type")) (bX_TooWide : PySem.W.subIn K (.ref X_TooWide) (.type "BaseException") = some true)
    (sX_NotGenerated_SpanError : PySem.W.subIn K (.ref X_NotGenerated) (.ref X_SpanError) = some true)
    (sX_NotGenerated_BadInterval : PySem.W.subIn K (.ref X_NotGenerated) (.ref X_BadInterval) = some false)
    (sX_NotGenerated_BadPieces : PySem.W.subIn K (.ref X_NotGenerated) (.ref X_BadPieces) = some false)
    (sX_NotGenerated_BadTargets : PySem.W.subIn K (.ref X_NotGenerated) (.ref X_BadTargets) = some false)
    (sX_NotGenerated_TooWide : PySem.W.subIn K (.ref X_NotGenerated) (.ref X_TooWide) = some false)
    (z0 : PySem.W.nsIn K mainGlobals "LookupError" = some none) (z1 : PySem.W.nsIn K mainGlobals "ValueError" = some none) (z2 : PySem.W.nsIn K mainGlobals "abs" = some none) (z3 : PySem.W.nsIn K mainGlobals "isinstance" = some none) (z4 : PySem.W.nsIn K mainGlobals "len" = some none) (z5 : PySem.W.nsIn K mainGlobals "max" = some none) (z6 : PySem.W.nsIn K mainGlobals "min" = some none) (z7 : PySem.W.nsIn K mainGlobals "range" = some none) (z8 : PySem.W.nsIn K mainGlobals "repr" = some none) (z9 : PySem.W.nsIn K mainGlobals "set" = some none) (z10 : PySem.W.nsIn K mainGlobals "sorted" = some none) (z11 : PySem.W.nsIn K mainGlobals "tuple" = some none) :
    ∃ fd : FuncData, (∀ (s : Shared) (v : Value), BindsTo s fd ⟨[v], []⟩ [("_law_script", v)]) ∧ ∀ base : Heap, K.In base → base.Ns mainGlobals mg → (∃ mm, base.Ns sysModules mm) → FnG l.prog w K mg base 10 fa fd ["_law_script"] (sp_law K) := by
  have e := hfa.symm.trans (PySem.W.mg_of X G a18)
  cases e
  have F1 := fun_mk (st := s_contains) l1 c1 k1
  have b1 := F1.binds (ps := ["outer", "inner"]) fun _ _ _ _ _ _ us hl => match us, hl with | [_, _], _ => rfl
  have F2 := fun_mk (st := s_pieces_inside) l2 c2 k2
  have b2 := F2.binds (ps := ["pieces", "target"]) fun _ _ _ _ _ _ us hl => match us, hl with | [_, _], _ => rfl
  have F3 := fun_mk (st := s_first_gap) l3 c3 k3
  have b3 := F3.binds (ps := ["pieces", "target"]) fun _ _ _ _ _ _ us hl => match us, hl with | [_, _], _ => rfl
  have F4 := fun_mk (st := s_find_missing) l4 c4 k4
  have b4 := F4.binds (ps := ["targets", "pieces"]) fun _ _ _ _ _ _ us hl => match us, hl with | [_, _], _ => rfl
  have F5 := fun_mk (st := s_without_item) l5 c5 k5
  have b5 := F5.binds (ps := ["items", "item"]) fun _ _ _ _ _ _ us hl => match us, hl with | [_, _], _ => rfl
  have F6 := fun_mk (st := s_require_generated) l6 c6 k6
  have b6 := F6.binds (ps := ["targets", "pieces"]) fun _ _ _ _ _ _ us hl => match us, hl with | [_, _], _ => rfl
  have F7 := fun_mk (st := s_can_spare) l7 c7 k7
  have b7 := F7.binds (ps := ["targets", "pieces", "piece"]) fun _ _ _ _ _ _ us hl => match us, hl with | [_, _, _], _ => rfl
  have F8 := fun_mk (st := s_removable_pieces) l8 c8 k8
  have b8 := F8.binds (ps := ["targets", "pieces"]) fun _ _ _ _ _ _ us hl => match us, hl with | [_, _], _ => rfl
  have F9 := fun_mk (st := s_prune_pieces) l9 c9 k9
  have b9 := F9.binds (ps := ["targets", "pieces"]) fun _ _ _ _ _ _ us hl => match us, hl with | [_, _], _ => rfl
  have F10 := fun_mk (st := s_law_deck) l10 c10 k10
  have b10 := F10.binds (ps := ["_law_script"]) fun _ _ _ _ _ _ us hl => match us, hl with | [_], _ => rfl
  have F11 := fun_mk (st := s_law_draw) l11 c11 k11
  have b11 := F11.binds (ps := ["_law_deck_here", "_law_bound"]) fun _ _ _ _ _ _ us hl => match us, hl with | [_, _], _ => rfl
  have F12 := fun_mk (st := s_law_line) l12 c12 k12
  have b12 := F12.binds (ps := ["_law_deck_here", "_law_count"]) fun _ _ _ _ _ _ us hl => match us, hl with | [_, _], _ => rfl
  have F13 := fun_mk (st := s_law_interval) l13 c13 k13
  have b13 := F13.binds (ps := ["_law_deck_here", "_law_line_here"]) fun _ _ _ _ _ _ us hl => match us, hl with | [_, _], _ => rfl
  have F14 := fun_mk (st := s_law_intervals) l14 c14 k14
  have b14 := F14.binds (ps := ["_law_deck_here", "_law_line_here", "_law_most"]) fun _ _ _ _ _ _ us hl => match us, hl with | [_, _, _], _ => rfl
  have F15 := fun_mk (st := s_law_gap) l15 c15 k15
  have b15 := F15.binds (ps := ["_law_pieces", "_law_target"]) fun _ _ _ _ _ _ us hl => match us, hl with | [_, _], _ => rfl
  have F16 := fun_mk (st := s_law_missing) l16 c16 k16
  have b16 := F16.binds (ps := ["_law_targets", "_law_pieces"]) fun _ _ _ _ _ _ us hl => match us, hl with | [_, _], _ => rfl
  have F17 := fun_mk (st := s_law_outcome) l17 c17 k17
  have b17 := F17.binds (ps := ["_law_way", "_law_targets", "_law_pieces"]) fun _ _ _ _ _ _ us hl => match us, hl with | [_, _, _], _ => rfl
  have F18 := fun_mk (st := s_law) l18 c18 k18
  have b18 := F18.binds (ps := ["_law_script"]) fun _ _ _ _ _ _ us hl => match us, hl with | [_], _ => rfl
  have F19 := fun_mk (st := s_NotGenerated_init) l19 c19 k19
  have b19 := F19.binds (ps := ["self", "demand"]) fun _ _ _ _ _ _ us hl => match us, hl with | [_, _], _ => rfl
  have T : Tx K mg _ _ _ _ _ _ _ _ _ _ _ _ _ _ _ _ _ _ _ _ _ _ _ _ _ _ _ _ _ _ _ _ _ _ _ _ _ _ _ _ _ _ _ _ := ⟨F1, b1, PySem.W.mg_of X G a1, F2, b2, PySem.W.mg_of X G a2, F3, b3, PySem.W.mg_of X G a3, F4, b4, PySem.W.mg_of X G a4, F5, b5, PySem.W.mg_of X G a5, F6, b6, PySem.W.mg_of X G a6, F7, b7, PySem.W.mg_of X G a7, F8, b8, PySem.W.mg_of X G a8, F9, b9, PySem.W.mg_of X G a9, F10, b10, PySem.W.mg_of X G a10, F11, b11, PySem.W.mg_of X G a11, F12, b12, PySem.W.mg_of X G a12, F13, b13, PySem.W.mg_of X G a13, F14, b14, PySem.W.mg_of X G a14, F15, b15, PySem.W.mg_of X G a15, F16, b16, PySem.W.mg_of X G a16, F17, b17, PySem.W.mg_of X G a17, F18, b18, PySem.W.mg_of X G a18, F19, b19, PySem.W.mg_none_of X G z0, PySem.W.mg_none_of X G z1, PySem.W.mg_none_of X G z2, PySem.W.mg_none_of X G z3, PySem.W.mg_none_of X G z4, PySem.W.mg_none_of X G z5, PySem.W.mg_none_of X G z6, PySem.W.mg_none_of X G z7, PySem.W.mg_none_of X G z8, PySem.W.mg_none_of X G z9, PySem.W.mg_none_of X G z10, PySem.W.mg_none_of X G z11, ⟨PySem.W.mg_of X G aX_NotGenerated, iX_NotGenerated, tX_NotGenerated, bX_NotGenerated⟩, ⟨PySem.W.mg_of X G aX_SpanError, iX_SpanError, tX_SpanError, bX_SpanError⟩, ⟨PySem.W.mg_of X G aX_BadInterval, iX_BadInterval, tX_BadInterval, bX_BadInterval⟩, ⟨PySem.W.mg_of X G aX_BadPieces, iX_BadPieces, tX_BadPieces, bX_BadPieces⟩, ⟨PySem.W.mg_of X G aX_BadTargets, iX_BadTargets, tX_BadTargets, bX_BadTargets⟩, ⟨PySem.W.mg_of X G aX_TooWide, iX_TooWide, tX_TooWide, bX_TooWide⟩, ⟨⟨⟨nm_NotGenerated, qn_NotGenerated, N_NotGenerated, bs_NotGenerated, bm_NotGenerated, sn_NotGenerated, sb_NotGenerated, ab_NotGenerated, co_NotGenerated, dd_NotGenerated, m0_NotGenerated, m1_NotGenerated, m2_NotGenerated, m3_NotGenerated, m5_NotGenerated, xL_NotGenerated, rL_NotGenerated⟩, sX_NotGenerated, bX_NotGenerated, tX_NotGenerated, kX_NotGenerated⟩, a19, fX_NotGenerated, nX_NotGenerated, ⟨gX_NotGenerated, hX_NotGenerated, bX_NotGenerated, dX_NotGenerated, cX_NotGenerated, eX_NotGenerated, uX_NotGenerated, mX_NotGenerated⟩⟩, vX_NotGenerated, wX_NotGenerated, sX_NotGenerated_SpanError, sX_NotGenerated_BadInterval, sX_NotGenerated_BadPieces, sX_NotGenerated_BadTargets, sX_NotGenerated_TooWide⟩
  exact ⟨_, fun s v => .of_eq rfl, fun base _ _ hM => ok_law T⟩
end L9
open PySem PySem.W PyProof.Rows
set_option maxHeartbeats 0 in
theorem PySem.Challenge.cw_fewspans_k19_not_generated_raised_holds : PySem.Challenge.rw_fewspans_k19_not_generated_raised.Holds := by
  w_on; o_law; k_head; (case hw => w_witness2)
  k_fill
  refine L9.quiet_walk (l := PySem.Challenge.rw_fewspans_k19_not_generated_raised) (n := 63) (k := 10) (x := "_law_script") (sp := fun w => L9.sp_law _) (by decide +kernel) rfl (by decide) rfl ⟨rfl, by decide, by decide⟩ (fun w h Y => PySem.W.kIn_of Y) ?F (fun _ _ a ns hl _ hS => ⟨a, ns, rfl, hS, hl, fun _ => rfl⟩)
  case F =>
    intro w mg fa h KX G hmg
    refine' L9.all_mk KX G hmg ?a1 ?l1 ?c1 ?k1 ?a2 ?l2 ?c2 ?k2 ?a3 ?l3 ?c3 ?k3 ?a4 ?l4 ?c4 ?k4 ?a5 ?l5 ?c5 ?k5 ?a6 ?l6 ?c6 ?k6 ?a7 ?l7 ?c7 ?k7 ?a8 ?l8 ?c8 ?k8 ?a9 ?l9 ?c9 ?k9 ?a10 ?l10 ?c10 ?k10 ?a11 ?l11 ?c11 ?k11 ?a12 ?l12 ?c12 ?k12 ?a13 ?l13 ?c13 ?k13 ?a14 ?l14 ?c14 ?k14 ?a15 ?l15 ?c15 ?k15 ?a16 ?l16 ?c16 ?k16 ?a17 ?l17 ?c17 ?k17 ?a18 ?l18 ?c18 ?k18 ?a19 ?i19 ?l19 ?c19 ?k19 ?aX_NotGenerated ?iX_NotGenerated ?tX_NotGenerated ?bX_NotGenerated ?xL_NotGenerated ?rL_NotGenerated ?sX_NotGenerated ?kX_NotGenerated ?nX_NotGenerated ?fX_NotGenerated ?gX_NotGenerated ?hX_NotGenerated ?dX_NotGenerated ?cX_NotGenerated ?eX_NotGenerated ?uX_NotGenerated ?mX_NotGenerated ?vX_NotGenerated ?wX_NotGenerated ?aX_SpanError ?iX_SpanError ?tX_SpanError ?bX_SpanError ?aX_BadInterval ?iX_BadInterval ?tX_BadInterval ?bX_BadInterval ?aX_BadPieces ?iX_BadPieces ?tX_BadPieces ?bX_BadPieces ?aX_BadTargets ?iX_BadTargets ?tX_BadTargets ?bX_BadTargets ?aX_TooWide ?iX_TooWide ?tX_TooWide ?bX_TooWide ?sX_NotGenerated_SpanError ?sX_NotGenerated_BadInterval ?sX_NotGenerated_BadPieces ?sX_NotGenerated_BadTargets ?sX_NotGenerated_TooWide ?z0 ?z1 ?z2 ?z3 ?z4 ?z5 ?z6 ?z7 ?z8 ?z9 ?z10 ?z11
    (case aX_NotGenerated => k_is)
    (case aX_SpanError => k_is)
    (case aX_BadInterval => k_is)
    (case aX_BadPieces => k_is)
    (case aX_BadTargets => k_is)
    (case aX_TooWide => k_is)
    (case a1 => k_is)
    (case l1 => k_is)
    (case c1 => k_is)
    (case k1 => k_is)
    (case a2 => k_is)
    (case l2 => k_is)
    (case c2 => k_is)
    (case k2 => k_is)
    (case a3 => k_is)
    (case l3 => k_is)
    (case c3 => k_is)
    (case k3 => k_is)
    (case a4 => k_is)
    (case l4 => k_is)
    (case c4 => k_is)
    (case k4 => k_is)
    (case a5 => k_is)
    (case l5 => k_is)
    (case c5 => k_is)
    (case k5 => k_is)
    (case a6 => k_is)
    (case l6 => k_is)
    (case c6 => k_is)
    (case k6 => k_is)
    (case a7 => k_is)
    (case l7 => k_is)
    (case c7 => k_is)
    (case k7 => k_is)
    (case a8 => k_is)
    (case l8 => k_is)
    (case c8 => k_is)
    (case k8 => k_is)
    (case a9 => k_is)
    (case l9 => k_is)
    (case c9 => k_is)
    (case k9 => k_is)
    (case a10 => k_is)
    (case l10 => k_is)
    (case c10 => k_is)
    (case k10 => k_is)
    (case a11 => k_is)
    (case l11 => k_is)
    (case c11 => k_is)
    (case k11 => k_is)
    (case a12 => k_is)
    (case l12 => k_is)
    (case c12 => k_is)
    (case k12 => k_is)
    (case a13 => k_is)
    (case l13 => k_is)
    (case c13 => k_is)
    (case k13 => k_is)
    (case a14 => k_is)
    (case l14 => k_is)
    (case c14 => k_is)
    (case k14 => k_is)
    (case a15 => k_is)
    (case l15 => k_is)
    (case c15 => k_is)
    (case k15 => k_is)
    (case a16 => k_is)
    (case l16 => k_is)
    (case c16 => k_is)
    (case k16 => k_is)
    (case a17 => k_is)
    (case l17 => k_is)
    (case c17 => k_is)
    (case k17 => k_is)
    (case a18 => k_is)
    (case l18 => k_is)
    (case c18 => k_is)
    (case k18 => k_is)
    (case a19 => k_is)
    (case i19 => k_is)
    (case l19 => k_is)
    (case c19 => k_is)
    (case k19 => k_is)
    (case iX_NotGenerated => k_is)
    (case tX_NotGenerated => k_is)
    (case bX_NotGenerated => k_is)
    (case xL_NotGenerated => k_is)
    (case rL_NotGenerated => rfl)
    (case sX_NotGenerated => k_is)
    (case kX_NotGenerated => k_is)
    (case nX_NotGenerated => k_is)
    (case fX_NotGenerated => k_is)
    (case gX_NotGenerated => k_is)
    (case hX_NotGenerated => k_is)
    (case dX_NotGenerated => k_is)
    (case cX_NotGenerated => k_is)
    (case eX_NotGenerated => k_is)
    (case uX_NotGenerated => k_is)
    (case mX_NotGenerated => k_is)
    (case vX_NotGenerated => k_is)
    (case wX_NotGenerated => k_is)
    (case iX_SpanError => k_is)
    (case tX_SpanError => k_is)
    (case bX_SpanError => k_is)
    (case iX_BadInterval => k_is)
    (case tX_BadInterval => k_is)
    (case bX_BadInterval => k_is)
    (case iX_BadPieces => k_is)
    (case tX_BadPieces => k_is)
    (case bX_BadPieces => k_is)
    (case iX_BadTargets => k_is)
    (case tX_BadTargets => k_is)
    (case bX_BadTargets => k_is)
    (case iX_TooWide => k_is)
    (case tX_TooWide => k_is)
    (case bX_TooWide => k_is)
    (case sX_NotGenerated_SpanError => k_is)
    (case sX_NotGenerated_BadInterval => k_is)
    (case sX_NotGenerated_BadPieces => k_is)
    (case sX_NotGenerated_BadTargets => k_is)
    (case sX_NotGenerated_TooWide => k_is)
    (case z0 => k_is)
    (case z1 => k_is)
    (case z2 => k_is)
    (case z3 => k_is)
    (case z4 => k_is)
    (case z5 => k_is)
    (case z6 => k_is)
    (case z7 => k_is)
    (case z8 => k_is)
    (case z9 => k_is)
    (case z10 => k_is)
    (case z11 => k_is)
