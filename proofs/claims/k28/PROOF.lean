import PyProof.Rows.All
import Wide.All
import OpenK.AllK
import Wide.FinOn
import PySem.Challenge.RW_fewspans_k28_widen
import HandS.ForMost
import HandS.Wide
import HandS.IsInst
import HandS.Conv
import HandS.TupLe
import HandS.Strs
import HandS.SetFor
import HandS.Style
import HandS.TupSets
import HandS.Keys
import HandS.Sort
import HandS.SortOrd
import HandS.SortRule
import HandS.SortKw
import HandS.SetBool
import HandS.TupAny
import HandS.Zip
import HandS.Iter
import HandS.NoneIn
import HandS.Deep
import KE.KMinBuiltin
import PyProof.NeKinds
set_option Elab.async false
set_option linter.all false
set_option maxRecDepth 100000
set_option maxHeartbeats 4000000
namespace L9
open PySem PySem.Spec PyProof.Rows L2
/-! ### set(xs), xs a list of ints: the library has it of tuples; the walk is a list's here -/
section
variable {P : Program} {w : World} {A : Around} {E : Value → Shared → Prop} {s : Shared}
abbrev noSet (w : World) : Obj := { cls := .type "set", dict := none, data := .set #[] 0 (.fresh 0 0 (!w.params.followText "set-order")) }
theorem setL_ints {l : Addr} {its : Array Value} (ns : List Int) {Q : Value → Shared → Prop} (quiet : A.handled = none) (isL : s.heap.IsList l its) (allI : IntsAre its.toList ns) (few : ns.length + 1 < scanBound)
    (fin : ∀ (h2 : Heap) (tk n : Nat), SetR w h2 s.heap.objs.size (fun j => decide (j ∈ ns)) n → n ≤ ns.length → (∀ b o, s.heap.get? b = some o → h2.get? b = some o) → Q (.ref s.heap.objs.size) { s with heap := h2, toks := tk }) :
    wpAny (model P w) A (call (.type "set") [.ref l]) Q E s := by
  have size : its.size = ns.length := by
    rw [← Array.length_toList]
    exact allI.length
  obtain ⟨cA, tA, mA⟩ := F.called_set.mro
  have f1 := F.called_set.made
  have f2 := F.called_set.sub
  refine wpAny_call (codeAny_of_tree (?_ : wpAny _ _ (callAny (.type "set") _) _ _ _))
  refine wpAny_pure (And.intro (Code.quiet_builtin _ (by decide +kernel)) (codeAny_builtin F.entry_type_call ?_))
  rw [Around.under_plain (weight_type_call_type "set" [Value.ref l] []) rfl]
  have f3 := F.called_set.notType
  have f4 := F.called_set.canCreate
  have f5 := F.typeCall_set_1 (Value.ref l)
  repeat any_goals first | assumption | wp_step
  refine codeAny_mono (code_set_led1 (.ref l) (E := E) (Q₁ := fun v s1 => v = .ref s.heap.objs.size ∧ s1 = { s with heap := s.heap.push (noSet w) }) (And.intro rfl rfl)) fun r s1 h1 => ?_
  match r, h1 with
  | .error e, h1 => exact h1
  | .ok (.ret v), h1 =>
    obtain ⟨rfl, rfl⟩ := h1
    have at0 : (s.heap.push (noSet w)).get? s.heap.objs.size = some (noSet w) := Heap.get?_push_size _ rfl
    have ty0 : Shared.TypeIs { s with heap := s.heap.push (noSet w) } (.ref s.heap.objs.size) "set" := Exists.intro _ (And.intro at0 rfl)
    have f6 := F.called_set.init.lookup
    have f7 := F.called_set.init.bind (Value.ref s.heap.objs.size)
    repeat any_goals first | assumption | wp_step
    let Z : Value → Shared → Prop := fun v s2 => v = .none ∧ ∃ h2 tk n, s2 = { s with heap := h2, toks := tk } ∧ SetR w h2 s.heap.objs.size (fun j => decide (j ∈ ns)) n ∧ n ≤ ns.length ∧ ∀ b o, s.heap.get? b = some o → h2.get? b = some o
    refine codeAny_mono (codeAny_call_builtin (R := wants Z E) F.called_set.init.plain F.entry_set_init (check_set_init_1 ty0 ?_)) fun r2 s2 h2 => ?_
    · obtain ⟨o, eo, ec, k, ed⟩ := isL
      obtain ⟨oc, od, oD, oS⟩ := o
      simp only at ec ed
      subst ec ed
      have lt : l < s.heap.objs.size := Heap.lt_size eo
      have eo1 : (s.heap.push (noSet w)).get? l = some { cls := .type "list", dict := od, data := .seq its k, slots := oS } := Heap.get?_push_of_some _ eo
      have g1 := F.sub_list_set
      have g2 := F.sub_list_frozenset
      have g3 : (Value.type "list" == Value.type "dict") = false := by decide
      have isL1 : (s.heap.push (noSet w)).IsList l its := Exists.intro _ (And.intro eo1 (And.intro rfl (Exists.intro k rfl)))
      unfold Builtin.«set.__init__» Builtin.Frozenset.updateFrom noKeywords
      generalize keep : pyIter = itr
      wp_walk
      subst keep
      refine wpAny_pyIter_list isL1 (wpAny_bind (wpAny_runValue ?_))
      have quiet3 : A.in1.in1.in1.handled = none := by simp [quiet]
      have sz : (s.heap.push (noSet w)).objs.size = s.heap.objs.size + 1 := Heap.size_push ..
      have lI : l ≠ (s.heap.push (noSet w)).objs.size := by
        rw [sz]
        exact Nat.ne_of_lt (Nat.lt_succ_of_lt lt)
      have out : s.heap.objs.size ∉ [(s.heap.push (noSet w)).objs.size, l] := by
        rw [sz]
        intro z
        rcases List.mem_cons.mp z with z | z
        · exact absurd z (Nat.ne_of_lt (Nat.lt_succ_self _))
        · exact absurd (List.mem_singleton.mp z) (Nat.ne_of_gt lt)
      have vals : ∀ (i : Nat) (v : Value), its[i]? = some v → ∃ j t, ns[i]? = some j ∧ v = .int j t := fun i v hv => by
        have lti : i < ns.length := by
          rw [← size]
          exact (Array.getElem?_eq_some_iff.mp hv).1
        obtain ⟨t, e⟩ := allI.int_at i v (by rw [Array.getElem?_toList]; exact hv)
        have en := List.getElem?_eq_getElem lti
        refine ⟨_, t, en, e.trans ?_⟩
        rw [List.getD_eq_getElem?_getD, en]
        rfl
      refine set_update_ints (Walks.list quiet3 _ l lI its).toS s.heap.objs.size out ns size few vals (its.size - 0) 0 _ rfl (Nat.zero_le _) (And.intro (Exists.intro _ (And.intro (Heap.get?_push_size _ rfl) (And.intro rfl rfl))) (isL1.push _)) ?start ?last
      case start =>
        exact ⟨0, Nat.le_refl _, setR_new_at (Heap.get?_push_of_some _ at0)⟩
      case last =>
        intro s3 n mv le R
        obtain ⟨h3, g3', d3, tk3, o3⟩ := s3
        have m1 : g3' = s.gens := mv.gens
        have m2 : d3 = s.drawn := mv.drawn
        have m3 : o3 = s.os := mv.os
        subst m1 m2 m3
        refine wpAny_pure (?_ : wpAny _ _ (ret Value.none) _ _ _)
        rw [size] at le
        refine wpAny_pure (And.intro rfl ⟨h3, tk3, n, rfl, R, le, fun b o e => ?_⟩)
        have lb := Heap.lt_size e
        refine mv.heap b o (fun z => ?_) (Heap.get?_push_of_some _ (Heap.get?_push_of_some _ e))
        rcases List.mem_cons.mp z with z | z
        · exact absurd z (Nat.ne_of_lt lb)
        · have z1 := List.mem_singleton.mp z
          rw [sz] at z1
          exact absurd z1 (Nat.ne_of_lt (Nat.lt_succ_of_lt lb))
    · match r2, h2 with
      | .error e, h2 => exact h2
      | .ok (.ret v), h2 =>
        obtain ⟨rfl, h', tk, n, rfl, R, le, kp⟩ := h2
        repeat any_goals first | assumption | wp_step
        exact fin h' tk n R le kp
      | .ok .next, h2 => exact h2
      | .ok .brk, h2 => exact h2
      | .ok .cont, h2 => exact h2
  | .ok .next, h1 => exact h1
  | .ok .brk, h1 => exact h1
  | .ok .cont, h1 => exact h1
end
section
variable {X : Cx}
def rSetOfI (K : PySem.W.Frag) (w : World) : List V → Hp → VK → Prop := fun xs H Q => ∃ (l : Addr) (ns : List Int), xs = [V.ref l] ∧ SqL K H l (ns.map V.int) ∧ ns.length < 60 ∧
  ∀ (H' : Hp) a n, Same H H' → H a = none → H' a = some (SetO w a (fun j => decide (j ∈ ns)) n) → n ≤ ns.length → Q (.ref a) H'
theorem cr_setOfI (calm : X.calm = true) : CallR X (.type "set") (rSetOfI X.K X.w) := by
  intro pins s σ H xs us Q I r h
  obtain ⟨l, ns, rfl, hl, few, q⟩ := h
  rw [Vals.ref1 r]
  obtain ⟨its, rv, pl, _⟩ := I.list hl
  refine setL_ints (P := X.prog) (w := X.w) ns (I.ok.hd calm) pl.isList (ints_of_vals rv) (by unfold scanBound; omega) fun h2 tk n R le kp => ?_
  exact ⟨.ref s.heap.objs.size, _, I.laid (t' := tk) kp (Nat.le_refl _) (setO_new R), rfl, q _ _ n (fun b x e => by rw [upd_ne (ne_of_none e (I.hok.fresh (Nat.le_refl _)))]; exact e) (I.hok.fresh (Nat.le_refl _)) upd_same le⟩
end

/-! ### defs that are run where no text-making of the machine is under way (repr, str of nested data ask for it) -/
abbrev Quiet (A : Around) : Prop := A.guards = some []
structure FnG (P : Program) (w : World) (K : PySem.W.Frag) (mg : Str → Option Value) (base : Heap) (k : Nat) (f : Addr) (fd : FuncData) (ps : List Str) (sp : Sp) : Prop where
  size : ∀ {vs H Q}, sp vs H Q E0 → vs.length = ps.length
  go : ∀ {A outer s H us vs Q}, Room k A → Quiet A → Env0 P w K mg base A outer s H → BindsTo s fd ⟨us, []⟩ (ps.zip us) → Vals vs us → sp vs H Q E0 →
    codeAny (model P w) A (.call (.ref f) ⟨us, []⟩) (CR CX0 outer P w H s Q E0) s
section
variable {P : Program} {w : World} {K : PySem.W.Frag} {mg : Str → Option Value} {base : Heap}
theorem FnG.of {x qual : Str} {st : Stmt} {f : Addr} {fd : FuncData} {N ps : List Str} {k : Nat} {sp : Sp} (F : Fun K x qual st f fd) (S : FnScope N ps (defScope st))
    (size : ∀ {vs H Q}, sp vs H Q E0 → vs.length = ps.length)
    (body : ∀ cdv A outer s H vs Q, Room k (A.deeper (envOfC qual (defScope st) s.heap.objs.size f cdv)) → Quiet (A.deeper (envOfC qual (defScope st) s.heap.objs.size f cdv)) → sp vs H Q E0 →
      ∃ t, PSs (cxOf CX0 P w K mg base N qual (defScope st) f cdv A outer s H E0).nox (defBody st) t ∧ t { nx := fun _ H' => Q .non H', rt := Q } (start N vs) H) :
    FnG P w K mg base (k + 1) f fd ps sp := by
  obtain ⟨oc, od, kV, doc, pm, an, cdv, ct, osl, rfl, look, code⟩ := F.ex
  constructor
  · exact size
  intro A outer s H us vs Q room quiet e0 bind rel want
  have inH : K.In s.heap := e0.mod.kin.keeps fun b o q => (e0.bs b o q).1
  have lim := e0.mod.nolimit.keeps (fun b o q => (e0.bs b o q).1)
  have kinds : ∀ y ∈ ps.zip us, (defScope st).names.lookup y.1 = some .local ∨ ((defScope st).names.lookup y.1 = some .cell ∧ ((cellsFrom (s.heap.objs.size + 1) (defScope st).names []).lookup y.1).isSome = true) := by
    rintro ⟨n, v⟩ hy
    have hn := (List.of_mem_zip hy).1
    cases S.par n hn with
    | inl q => exact Or.inl q
    | inr q => exact Or.inr ⟨q, PySem.W.cellsFrom_some _ _ _ (Or.inl q)⟩
  apply codeAny_call_function room.depth (inH _ _ look) rfl S.co S.gen rfl (PySem.W.codeRec_of inH code)
  apply bind
  apply wpAny_newFunctionEnv_cells S.kind kinds
  intro env he s1 x
  subst he
  refine And.intro (lim.keeps x.toInCall.keep) (codeAny_func ?_)
  obtain ⟨t, ht, hq⟩ := body cdv A outer s H vs Q (room.deeper _) quiet want
  have I := inv_start (CX := CX0) (E := E0) S room.hd e0 (size want) rel x
  apply wpAny_mono (ht.nox.run [] s1 (start N vs) H _ I hq)
  · intro fl s' hs
    cases fl with
    | ret u =>
      obtain ⟨v, σ', H', J, rv, q⟩ := hs
      exact Exists.intro v ⟨H', J.os, J.bare, J.base, J.hok, rv, q⟩
    | next =>
      obtain ⟨σ', H', J, q⟩ := hs
      exact Exists.intro V.non ⟨H', J.os, J.bare, J.base, J.hok, rfl, q⟩
    | brk => exact hs.elim fun _ h => h.elim fun _ h => h.2.elim
    | cont => exact hs.elim fun _ h => h.elim fun _ h => h.2.elim
  · intro e s' hs
    exact hs
end
section
variable {X : Cx} {k : Nat} {f : Addr} {fd : FuncData} {ps : List Str} {sp : Sp} {x : Str} {p pos : Pos} {e : Expr} {es : List Expr} {t : TA}
theorem pe_callG (F : FnG X.prog X.w X.K X.mg X.base k f fd ps sp) (room : Room k X.A) (quiet : Quiet X.A) (hg : Gl X x) (hm : X.mg x = some (.ref f)) (keep : PySem.W.keepIn X.K (.ref f) = true) (bind : Binds X.K fd ps [])
    (args : PA X (e :: es) t) (hdb : (x == ("__debug__" : Str)) = false := by decide) (star : starEach (e :: es) X.env = (false, eval e X.env) :: starEach es X.env := by rfl) (plain : (backTo pos (starEach es X.env)).any (·.1) = false := by rfl) :
    PE X (.Call (.Name x p) (e :: es) [] pos) (tCall sp [] E0 t) := by
  constructor
  intro pins s σ H Q I h
  apply wpAny_Call_Name_kw
  apply ld_glob I hg hm _ hdb
  apply PySem.W.callWith_K (h₀ := X.base) I.ok.mod.kin keep _ star plain
  apply thn (args.run pos pins s σ H _ I h)
  rintro us s1 ⟨vs, H1, I1, rel, q⟩
  refine And.intro I1.kIn ?_
  have q' : sp vs H1 Q E0 := by
    have z := q
    rw [List.append_nil] at z
    exact z
  have same : us.length = ps.length := rel.length.symm.trans (F.size q')
  have b := bind s1 us I1.kIn (by rw [List.append_nil]; exact same)
  rw [List.append_nil] at b
  apply wpAny_call
  apply codeAny_mono (F.go room quiet I1.env0 b rel q')
  intro r s' hr
  match r, hr with
  | .error _, hr => exact hr.elim
  | .ok (.ret u), hr => exact I1.after hr
  | .ok .next, hr => exact False.elim hr
  | .ok .brk, hr => exact False.elim hr
  | .ok .cont, hr => exact False.elim hr
end
/-! ### repr of data at any depth -/
structure Sm (n dp : Nat) (d : PyData) : Prop where
  shows : d.showable = true
  short : d.leavesShort 40 = true
  small : d.weight ≤ n
  flat : d.depth ≤ dp
theorem Sm.mono {n m dp dq : Nat} {d : PyData} (h : Sm n dp d) (h1 : n ≤ m) (h2 : dp ≤ dq) : Sm m dq d := ⟨h.shows, h.short, Nat.le_trans h.small h1, Nat.le_trans h.flat h2⟩
theorem Sm.none : Sm 0 0 .none := ⟨rfl, rfl, Nat.le_refl _, Nat.le_refl _⟩
theorem Sm.bool (b : Bool) : Sm 0 0 (.bool b) := ⟨rfl, rfl, Nat.le_refl _, Nat.le_refl _⟩
theorem log2_small {i : Int} (h : i.natAbs < 10 ^ 30) : i.natAbs.log2 < 100 := PySem.Flt.log2_lt_of (by decide) (Nat.lt_trans h (by decide))
theorem Sm.int {i : Int} (h : i.natAbs < 10 ^ 30) : Sm 100 0 (.int i) := by
  have l := log2_small h
  refine ⟨decide_eq_true (Nat.lt_trans l (by decide)), decide_eq_true ?_, ?_, Nat.le_refl _⟩
  · have q := int_text_length_le10 (a := i) (k := 30) (by decide) h
    show (Str.ofString (toString i)).length ≤ 40
    rw [PySem.ofString_length]
    exact Nat.le_trans q (by decide)
  · show (if i == 0 then 0 else i.natAbs.log2 + 1) ≤ 100
    split <;> omega
theorem smAll {n dp : Nat} : ∀ {ds : List PyData}, (∀ d ∈ ds, Sm n dp d) → PyData.showableAll ds = true ∧ PyData.leavesShortAll 40 ds = true ∧ PyData.weightAll ds ≤ ds.length * (n + 1) ∧ PyData.depthAll ds ≤ dp
  | [], _ => ⟨rfl, rfl, Nat.zero_le _, Nat.zero_le _⟩
  | d :: ds, h => by
    obtain ⟨a, b, c, e⟩ := smAll (ds := ds) fun x hx => h x (List.mem_cons_of_mem _ hx)
    have z := h d List.mem_cons_self
    refine ⟨?_, ?_, ?_, ?_⟩
    · show (d.showable && PyData.showableAll ds) = true
      rw [z.shows, a]
      rfl
    · show (d.leavesShort 40 && PyData.leavesShortAll 40 ds) = true
      rw [z.short, b]
      rfl
    · show d.weight + 1 + PyData.weightAll ds ≤ (ds.length + 1) * (n + 1)
      have := z.small
      rw [Nat.add_mul]
      omega
    · show max d.depth (PyData.depthAll ds) ≤ dp
      exact Nat.max_le.mpr ⟨z.flat, e⟩
theorem Sm.tup {n dp : Nat} {ds : List PyData} (h : ∀ d ∈ ds, Sm n dp d) : Sm (ds.length * (n + 1)) (dp + 1) (.tuple ds) :=
  let ⟨a, b, c, e⟩ := smAll h
  ⟨a, b, c, Nat.succ_le_succ e⟩
theorem Sm.lst {n dp : Nat} {ds : List PyData} (h : ∀ d ∈ ds, Sm n dp d) : Sm (ds.length * (n + 1)) (dp + 1) (.list ds) :=
  let ⟨a, b, c, e⟩ := smAll h
  ⟨a, b, c, Nat.succ_le_succ e⟩
theorem Sm.fits {n dp : Nat} {d : PyData} (h : Sm n dp d) (hn : n ≤ 300000) : d.shown.length ≤ sizeLine := by
  have q := PyData.shown_le 40 (by decide) d h.short
  have := h.small
  have e : sizeLine = 16777216 := by decide
  rw [e]
  omega
/-- data with dicts in it; its lists stand in the heap by themselves -/
def keyD : Key → PyData
  | .inl i => .int i
  | .inr x => .str x
mutual
inductive Dv (K : PySem.W.Frag) (H : Hp) : V → PyData → Prop
  | non : Dv K H .non .none
  | bl (b : Bool) : Dv K H (.bl b) (.bool b)
  | int (i : Int) : Dv K H (.int i) (.int i)
  | str (x : Str) : Dv K H (.str x) (.str x)
  | lst {a : Addr} {xs : List V} {ds : List PyData} : H a = some (.lst xs) → DvAll K H xs ds → Dv K H (.ref a) (.list ds)
  | tup {a : Addr} {xs : List V} {ds : List PyData} : H a = some (.tup xs) → DvAll K H xs ds → Dv K H (.ref a) (.tuple ds)
  | dic {a : Addr} {kvs : List (Key × V)} {ds : List PyData} : H a = some (.dK kvs) → DvAll K H (kvs.map (·.2)) ds → Dv K H (.ref a) (.dict ((kvs.map fun p => keyD p.1).zip ds))
inductive DvAll (K : PySem.W.Frag) (H : Hp) : List V → List PyData → Prop
  | nil : DvAll K H [] []
  | cons {v : V} {vs : List V} {d : PyData} {ds : List PyData} : Dv K H v d → DvAll K H vs ds → DvAll K H (v :: vs) (d :: ds)
end
theorem DvAll.length {K : PySem.W.Frag} {H : Hp} : ∀ {vs : List V} {ds : List PyData}, DvAll K H vs ds → vs.length = ds.length
  | _, _, .nil => rfl
  | _, _, .cons _ h => by rw [List.length_cons, List.length_cons, h.length]
theorem keys_read {P : Program} {w : World} {h : Heap} : ∀ {es : List DictEntry} {vs : List (Key × Value)}, Pairs (mixKind P w) es vs → ReadsAll h (es.map (·.key)) (vs.map fun p => keyD p.1) []
  | _, _, .nil => .nil
  | _, _, .cons (e := e) (kv := kv) hk _ r => by
    have one : Reads h e.key (keyD kv.1) [] := by
      rcases keyIs_shape hk with ⟨i, t, e1, e2⟩ | ⟨x, t, e1, e2⟩
      · rw [e1, e2]
        exact .int i t
      · rw [e1, e2]
        exact .str x t
    exact ReadsAll.cons one (keys_read r)
theorem vals_read {P : Program} {w : World} : ∀ {es : List DictEntry} {vs : List (Key × Value)}, Pairs (mixKind P w) es vs → es.map (·.val) = vs.map (·.2)
  | _, _, .nil => rfl
  | _, _, .cons _ hv r => by rw [List.map_cons, List.map_cons, hv, vals_read r]
theorem kv_vals : ∀ {kvs : List (Key × V)} {vs : List (Key × Value)}, KV kvs vs → Vals (kvs.map (·.2)) (vs.map (·.2)) ∧ (vs.map fun p => keyD p.1) = kvs.map fun p => keyD p.1
  | _, _, .nil => ⟨.nil, rfl⟩
  | _, _, .cons h r => by
    obtain ⟨a, b⟩ := kv_vals r
    refine ⟨.cons h.2 a, ?_⟩
    rw [List.map_cons, List.map_cons, b, h.1]
section
variable {X : Cx} {pins : List (Addr × Obj)} {σ : L2.St} {H : Hp} {s : Shared}
theorem Dv.reads (I : Inv X pins σ H s) (mods : ∃ mm, X.base.Ns sysModules mm) {v : V} {d : PyData} (h : Dv X.K H v d) : ∀ u : Value, RelV v u → ∃ as, Reads s.heap u d as ∧ sysModules ∉ as := by
  have free : H sysModules = none := by
    obtain ⟨mm, o, es, ep, e, _⟩ := mods
    exact (I.bs _ o e).2
  refine Dv.rec (K := X.K) (H := H) (motive_1 := fun v d _ => ∀ u : Value, RelV v u → ∃ as, Reads s.heap u d as ∧ sysModules ∉ as) (motive_2 := fun vs ds _ => ∀ us : List Value, Vals vs us → ∃ as, ReadsAll s.heap us ds as ∧ sysModules ∉ as) ?_ ?_ ?_ ?_ ?_ ?_ ?_ ?_ ?_ h
  · intro u r
    cases r
    exact ⟨_, .none, fun z => nomatch z⟩
  · intro b u r
    cases r
    exact ⟨_, .bool b, fun z => nomatch z⟩
  · intro i u r
    obtain ⟨t, rfl⟩ := r
    exact ⟨_, .int i t, fun z => nomatch z⟩
  · intro x u r
    obtain ⟨t, rfl⟩ := r
    exact ⟨_, .str x t, fun z => nomatch z⟩
  · intro a xs ds e _ ih u r
    cases r
    obtain ⟨_, its, n, rv, q⟩ := I.hok a _ e
    obtain ⟨as, ra, na⟩ := ih _ rv
    refine ⟨a :: as, .list q rfl rfl (by simpa using ra), fun z => ?_⟩
    rcases List.mem_cons.mp z with z | z
    · rw [← z, free] at e
      cases e
    · exact na z
  · intro a xs ds e _ ih u r
    cases r
    obtain ⟨_, its, rv, o, ho, hc, n, hd⟩ := I.hok a _ e
    obtain ⟨as, ra, na⟩ := ih _ rv
    exact ⟨as, .tuple ho hc hd (by simpa using ra), na⟩
  · intro a kvs ds e hall ih u r
    cases r
    obtain ⟨_, hne, vs, kv, o, es, ep, ho, ex, hd, _, prs, _⟩ := I.hok a _ e
    obtain ⟨rv, ek⟩ := kv_vals kv
    obtain ⟨as, ra, na⟩ := ih _ rv
    have len : (kvs.map fun p => keyD p.1).length = ds.length := by
      have z := hall.length
      rw [List.length_map] at z
      rw [List.length_map, z]
    refine ⟨_, .dict ho ex.1 hd (as := []) (bs := as) ?_ ?_, fun z => ?_⟩
    · rw [List.map_fst_zip (by omega), ← ek]
      exact keys_read prs
    · rw [List.map_snd_zip (by omega), vals_read prs]
      exact ra
    · rcases List.mem_cons.mp z with z | z
      · rw [← z] at hne
        exact absurd hne (by decide)
      · exact na z
  · intro us r
    cases r
    exact ⟨_, .nil, fun z => nomatch z⟩
  · intro v vs d ds _ _ ih1 ih2 us r
    cases r with
    | cons r1 r2 =>
      obtain ⟨as, ra, na⟩ := ih1 _ r1
      obtain ⟨bs, rb, nb⟩ := ih2 _ r2
      refine ⟨_, .cons ra rb, fun z => ?_⟩
      rcases List.mem_append.mp z with z | z
      · exact na z
      · exact nb z
theorem call_reprV (mods : ∃ mm, X.base.Ns sysModules mm) (quiet : Quiet X.A) (units : X.A.units + 64 < cLine) : CallR X (.builtin "repr")
    (fun xs H Q => ∃ v d n dp, xs = [v] ∧ Dv X.K H v d ∧ Sm n dp d ∧ n ≤ 300000 ∧ dp ≤ 60 ∧ Q (.str d.shown) H) := by
  intro pins s σ H xs us Q I r h
  obtain ⟨v, d, n, dp, rfl, hd, sm, hn, hdp, q⟩ := h
  obtain ⟨u, rfl, ru⟩ := vals1 r
  have fits := sm.fits hn
  have flat := sm.flat
  obtain ⟨as, rd, off⟩ := Dv.reads I mods hd _ ru
  cases hd with
  | non =>
    cases ru
    exact PySem.P.repr_of_none ⟨.str _, H, I.tok _, ⟨_, rfl⟩, q⟩
  | bl b =>
    cases ru
    exact PySem.P.repr_of_bool ⟨.str _, H, I.tok _, ⟨_, rfl⟩, q⟩
  | int i =>
    obtain ⟨t, rfl⟩ := ru
    exact PySem.P.repr_of_int (of_decide_eq_true sm.shows) ⟨.str _, H, I.tok _, ⟨_, rfl⟩, q⟩
  | str x =>
    obtain ⟨t, rfl⟩ := ru
    exact PySem.P.repr_of_str ⟨.str _, H, I.tok _, ⟨_, rfl⟩, q⟩ fits
  | _ =>
    cases ru
    exact repr_of_reads' rd sm.shows (fun _ => off) quiet (by omega) (fun _ _ e => e) (fun h' t tk more => ⟨.str _, H, I.kept more, ⟨_, rfl⟩, q⟩) fits
end
theorem Dp.noDict {K : PySem.W.Frag} {H : Hp} {v : V} {d : PyData} (h : Dp K H v d) : d.hasDict = false := by
  refine Dp.rec (K := K) (H := H) (motive_1 := fun v d _ => d.hasDict = false) (motive_2 := fun vs ds _ => PyData.hasDictAll ds = false) ?_ ?_ ?_ ?_ ?_ ?_ ?_ ?_ h
  all_goals intros
  all_goals simp_all [PyData.hasDict, PyData.hasDictAll]
section
variable {X : Cx}
theorem call_reprD (quiet : Quiet X.A) (units : X.A.units + 64 < cLine) : CallR X (.builtin "repr")
    (fun xs H Q => ∃ v d n dp, xs = [v] ∧ Dp X.K H v d ∧ Sm n dp d ∧ n ≤ 300000 ∧ dp ≤ 60 ∧ Q (.str d.shown) H) := by
  intro pins s σ H xs us Q I r h
  obtain ⟨v, d, n, dp, rfl, hd, sm, hn, hdp, q⟩ := h
  obtain ⟨u, rfl, ru⟩ := vals1 r
  have fits := sm.fits hn
  have flat := sm.flat
  obtain ⟨as, rd⟩ := Dp.reads I d v u hd ru
  cases hd with
  | non =>
    cases ru
    exact PySem.P.repr_of_none ⟨.str _, H, I.tok _, ⟨_, rfl⟩, q⟩
  | bl b =>
    cases ru
    exact PySem.P.repr_of_bool ⟨.str _, H, I.tok _, ⟨_, rfl⟩, q⟩
  | int i =>
    obtain ⟨t, rfl⟩ := ru
    exact PySem.P.repr_of_int (of_decide_eq_true sm.shows) ⟨.str _, H, I.tok _, ⟨_, rfl⟩, q⟩
  | str x =>
    obtain ⟨t, rfl⟩ := ru
    exact PySem.P.repr_of_str ⟨.str _, H, I.tok _, ⟨_, rfl⟩, q⟩ fits
  | lst h1 h2 =>
    cases ru
    exact repr_of_reads' rd sm.shows (PyData.noDict_hsm (Dp.noDict (Dp.lst h1 h2))) quiet (by omega) (fun _ _ e => e) (fun h' t tk more => ⟨.str _, H, I.kept more, ⟨_, rfl⟩, q⟩) fits
  | tup h1 h2 =>
    cases ru
    exact repr_of_reads' rd sm.shows (PyData.noDict_hsm (Dp.noDict (Dp.tup h1 h2))) quiet (by omega) (fun _ _ e => e) (fun h' t tk more => ⟨.str _, H, I.kept more, ⟨_, rfl⟩, q⟩) fits
end
/-! ### the end of a law row whose def is of the quiet kind -/
theorem quiet_law {P : Program} {w : World} {K : PySem.W.Frag} {mg mb : Str → Option Value} {k : Nat} {fa a : Addr} {fd : FuncData} {x : Str} {sp : Sp} {s₁ : Shared} {vs : List Value} {ns : List Int}
    (inK : K.In s₁.heap) (glob : s₁.heap.Ns mainGlobals mg) (blt : s₁.heap.Ns builtinsNs mb) (bltIs : ∀ y : Str, y ≠ "__name__" → mb y = bootBuiltins y) (lim : s₁.heap.NoLimit) (gens : s₁.gens = #[]) (mods : ∃ mm, s₁.heap.Ns sysModules mm)
    (here : s₁.heap.get? a = some { cls := .type "list", data := .seq vs.toArray }) (whole : IntsAre vs ns) (few : ns.length ≤ sizeLine) (room : Room k callerA)
    (F : ∀ base : Heap, K.In base → base.Ns mainGlobals mg → (∃ mm, base.Ns sysModules mm) → FnG P w K mg base k fa fd [x] sp) (bind : ∀ (s : Shared) (u : Value), BindsTo s fd ⟨[u], []⟩ [(x, u)])
    (want : ∀ H : Hp, Only H → SqL K H a (ns.map V.int) → sp [.ref a] H (fun v _ => v = .bl true) E0) :
    codeAny (model P w) callerA (.call (.ref fa) ⟨[.ref a], []⟩) (fun r s' => r = .ok (.ret (.bool true)) ∧ OldK s₁.heap s'.heap ∧ s'.os = s₁.os ∧ AllBare s'.gens) s₁ := by
  have rel := vals_ints whole
  -- H: the script alone, or nothing
  have main : ∀ H : Hp, Only H → SqL K H a (ns.map V.int) → HOk P w H s₁.heap → (∀ b u, H b = some u → b = a ∧ K.lookup b = none) →
      codeAny (model P w) callerA (.call (.ref fa) ⟨[.ref a], []⟩) (fun r s' => r = .ok (.ret (.bool true)) ∧ OldK s₁.heap s'.heap ∧ s'.os = s₁.os ∧ AllBare s'.gens) s₁ := by
    intro H only sq ok apart
    have untold : ∀ {b o}, s₁.heap.get? b = some o → (b = a → False) → H b = none := by
      intro b o e ne
      cases q : H b with
      | none => rfl
      | some u => exact (ne (apart b u q).1).elim
    have ns1 : ∀ {b m}, s₁.heap.Ns b m → (hidT s₁.heap H).Ns b m := by
      rintro b m ⟨o, es, ep, e, d, r⟩
      refine ⟨o, es, ep, hidT_get e (untold e fun z => ?_), d, r⟩
      subst z
      rw [here] at e
      cases e
      cases d
    have kIn : K.In (hidT s₁.heap H) := by
      intro b o e
      apply hidT_get (inK b o e)
      cases q : H b with
      | none => rfl
      | some u =>
        have z := (apart b u q).2
        rw [e] at z
        cases z
    have lim1 : (hidT s₁.heap H).NoLimit := by
      obtain ⟨mc, h1, h2⟩ := lim
      exact ⟨mc, ns1 h1, h2⟩
    have e0 : Env0 P w K mg (hidT s₁.heap H) callerA [] s₁ H := {
      frames := rfl, mod := ⟨kIn, ns1 glob, ⟨mb, ns1 blt, bltIs⟩, lim1⟩, bs := fun _ _ e => of_hidT e, bsz := Nat.le_of_eq (hidT_size _ _), funs := True.intro, frf := (fun _ hb => nomatch hb), hok := ok, bare := .of_eq gens }
    apply codeAny_mono ((F _ kIn (ns1 glob) (mods.elim fun mm h => ⟨mm, ns1 h⟩)).go (us := [.ref a]) (vs := [.ref a]) room rfl e0 (bind s₁ _) (.cons rfl .nil) (want H only sq))
    intro r s' hr
    match r, hr with
    | .error _, hr => exact hr.elim
    | .ok .next, hr => exact False.elim hr
    | .ok .brk, hr => exact False.elim hr
    | .ok .cont, hr => exact False.elim hr
    | .ok (.ret u), hr =>
      obtain ⟨v, H', os, bare, un, ok', rv, q⟩ := hr
      cases (show v = V.bl true from q)
      cases (show u = Value.bool true from rv)
      refine ⟨rfl, OldK.of_keep ?_, os, bare⟩
      intro b o e
      cases only b with
      | inl n => exact un.keep b o e n (fun z => nomatch z) (fun z => nomatch z)
      | inr n =>
        obtain ⟨ob, xs, z⟩ := n
        have e1 := (ok b _ z).1
        have e2 := (ok' b _ (un.frzs b ob _ z)).1
        rw [e] at e1
        cases e1
        exact e2
  have small : (ns.map V.int).length ≤ sizeLine := by rw [List.length_map]; exact few
  cases known : K.lookup a with
  | some o =>
    have e := inK a o known
    rw [here] at e
    cases e
    have sz : vs.length ≤ sizeLine := by rw [← rel.length]; exact small
    exact main (fun _ => none) (fun _ => .inl rfl) (.inr ⟨_, vs.toArray, _, known, rfl, rfl, rfl, by simpa using sz, by simpa using rel⟩) (fun _ _ z => nomatch z) (fun _ _ z => nomatch z)
  | none =>
    have at1 : ∀ {b u}, (if b = a then some (HO.frz { cls := .type "list", data := .seq vs.toArray } (.lst (ns.map V.int))) else none) = some u → b = a := by
      intro b u z
      by_cases hb : b = a
      · exact hb
      · rw [if_neg hb] at z
        cases z
    refine main (fun b => if b = a then some (.frz { cls := .type "list", data := .seq vs.toArray } (.lst (ns.map V.int))) else none) (fun b => ?_) (.inl (.inr ⟨{ cls := .type "list", data := .seq vs.toArray }, if_pos rfl⟩)) (fun b u z => ?_) (fun b u z => ?_)
    · by_cases hb : b = a
      · exact .inr ⟨_, _, if_pos hb⟩
      · exact .inl (if_neg hb)
    · have hb := at1 z
      subst hb
      have z2 := (if_pos rfl).symm.trans z
      cases z2
      exact ⟨here, small, vs, _, rel, here⟩
    · have hb := at1 z
      subst hb
      exact ⟨rfl, known⟩
theorem quiet_walk {l : PySem.W.OpenLaw} {n k : Nat} {q : Program} {loose : List Str} {XP : (Str → Option Value) → Heap → Prop} {YP : World → Heap → Prop} {d : DefRec} {K : Params → PySem.W.Frag} {sp : World → Sp} {x : Str}
    (noImport : importsNone q = true) (most : l.most = some n) (n2 : n ≤ sizeLine) (defaults : d.params.defaults = []) (room : Room k callerA) (hY : ∀ (w : World) (h : Heap), YP w h → (K w.params).In h)
    (F : ∀ (w : World) (mg : Str → Option Value) (fa : Addr) (h : Heap), (K w.params).In h → h.Ns mainGlobals mg → mg d.name = some (.ref fa) →
      ∃ fd : FuncData, (∀ (s : Shared) (u : Value), BindsTo s fd ⟨[u], []⟩ [(x, u)]) ∧ ∀ base : Heap, (K w.params).In base → base.Ns mainGlobals mg → (∃ mm, base.Ns sysModules mm) → FnG l.prog w (K w.params) mg base k fa fd [x] (sp w))
    (want : ∀ (w : World) (H : Hp) (a : Addr) (ns : List Int), ns.length ≤ n → Only H → SqL (K w.params) H a (ns.map V.int) → sp w [.ref a] H (fun v _ => v = .bl true) E0) :
    PySem.W.WalkO q loose XP YP l.row.toRowW d [] (fun f vs => PySem.call f vs) := by
  apply Att.attach_call most defaults
  intro w s₀ s₁ mg mb fa o pm cd doc a vs ns G Y ho hd hcd hmg hobj hints hlen hg
  obtain ⟨fd, hb, hF⟩ := F w mg fa _ (hY w _ Y) G.T.g hmg
  exact quiet_law (hY w _ Y) G.T.g G.T.b G.T.builtins G.T.nolimit hg ((G.T.seer noImport).mods.elim fun mm h => ⟨mm, h.1⟩) hobj hints (Nat.le_trans hlen n2) room hF hb fun H o1 s1 => want w H a ns hlen o1 s1

/-! ### a op1 b op2 c op3 .. : chains of any length -/
section
variable {X : Cx}
structure PCh (X : Cx) (ops : List CmpOp) (es : List Expr) (t : V → TE) : Prop where
  run : ∀ (pos : Pos) (pins : List (Addr × Obj)) (s : Shared) (σ : L2.St) (H : Hp) (Q : VK) (x : V) (v : Value), Inv X pins σ H s → RelV x v → t x σ H Q → wpAny (model X.prog X.w) X.A (compareChain pos v ops (evalEach es X.env)) (EP X pins σ Q) X.xe s
structure PChT (X : Cx) (ops : List CmpOp) (es : List Expr) (t : V → TE) : Prop where
  run : ∀ (pos : Pos) (pins : List (Addr × Obj)) (s : Shared) (σ : L2.St) (H : Hp) (Q : Bool → Hp → Prop) (x : V) (v : Value), Inv X pins σ H s → RelV x v → (t x σ H fun y H' => ∃ k, y = .bl k ∧ Q k H') → wpAny (model X.prog X.w) X.A (testChain pos v ops (evalEach es X.env)) (TP X pins σ Q) X.xe s
def tLast (r : R2) (tb : TE) : V → TE := fun x σ H Q => tb σ H fun y H2 => r x y H2 Q
def tLink (r : R2) (tb : TE) (rest : V → TE) : V → TE := fun x σ H Q => tb σ H fun y H2 => r x y H2 fun z H3 => ∃ k, z = .bl k ∧ (if k = true then rest y σ H3 Q else Q (.bl false) H3)
def tCh (ta : TE) (rest : V → TE) : TE := fun σ H Q => ta σ H fun x H1 => rest x σ H1 Q
theorem pch_last {op : CmpOp} {r : R2} {b : Expr} {tb : TE} (ho : OpR X (compareOp op) r) (hb : PE X b tb) : PCh X [op] [b] (tLast r tb) :=
  ⟨fun pos pins s σ H Q x v I rx h => chain_last (thn (hb.run pins s σ H _ I h) fun u s2 ⟨y, H2, I2, r2, q2⟩ => ho pins s2 σ H2 x y v u Q I2 rx r2 q2)⟩
theorem pch_link {op op' : CmpOp} {ops : List CmpOp} {r : R2} {b b' : Expr} {bs : List Expr} {tb : TE} {rest : V → TE} (ho : OpR X (compareOp op) r) (hb : PE X b tb) (hr : PCh X (op' :: ops) (b' :: bs) rest) : PCh X (op :: op' :: ops) (b :: b' :: bs) (tLink r tb rest) := by
  refine ⟨fun pos pins s σ H Q x v I rx h => ?_⟩
  refine chain_link (thn (hb.run pins s σ H _ I h) fun u s2 ⟨y, H2, I2, r2, q2⟩ => thn (ho pins s2 σ H2 x y v u _ I2 rx r2 q2) fun d s3 ⟨z, H3, I3, r3, k, e, q3⟩ => ?_)
  subst e
  cases r3
  refine wpAny_truthy_bool ?_
  cases k with
  | false => exact ite_ff ⟨.bl false, H3, I3, rfl, q3⟩
  | true => exact ite_tt (hr.run pos pins s3 σ H3 Q y u I3 r2 q3)
theorem pe_chN {op op' : CmpOp} {ops : List CmpOp} {a b b' : Expr} {bs : List Expr} {pos : Pos} {ta : TE} {rest : V → TE} (ha : PE X a ta) (hr : PCh X (op :: op' :: ops) (b :: b' :: bs) rest)
    (hm : lastMarks (op :: op' :: ops) (b :: b' :: bs) = false := by with_unfolding_all rfl) : PE X (.Compare a (op :: op' :: ops) (b :: b' :: bs) pos) (tCh ta rest) :=
  ⟨fun pins s σ H Q I h => Compare_chain (thn (ha.run pins s σ H _ I h) fun v s1 ⟨x, H1, I1, r1, q1⟩ => hr.run pos pins s1 σ H1 Q x v I1 r1 q1) hm⟩
theorem pchT_last {op : CmpOp} {r : R2} {b : Expr} {tb : TE} (ho : OpR X (compareOp op) r) (hb : PE X b tb) : PChT X [op] [b] (tLast r tb) := by
  refine ⟨fun pos pins s σ H Q x v I rx h => ?_⟩
  refine test_last (thn (hb.run pins s σ H _ I h) fun u s2 ⟨y, H2, I2, r2, q2⟩ => thn (ho pins s2 σ H2 x y v u _ I2 rx r2 q2) fun d s3 ⟨z, H3, I3, r3, k, e, q3⟩ => ?_)
  subst e
  cases r3
  exact wpAny_truthy_bool ⟨H3, I3, q3⟩
theorem pchT_link {op op' : CmpOp} {ops : List CmpOp} {r : R2} {b b' : Expr} {bs : List Expr} {tb : TE} {rest : V → TE} (ho : OpR X (compareOp op) r) (hb : PE X b tb) (hr : PChT X (op' :: ops) (b' :: bs) rest) : PChT X (op :: op' :: ops) (b :: b' :: bs) (tLink r tb rest) := by
  refine ⟨fun pos pins s σ H Q x v I rx h => ?_⟩
  refine test_link (thn (hb.run pins s σ H _ I h) fun u s2 ⟨y, H2, I2, r2, q2⟩ => thn (ho pins s2 σ H2 x y v u _ I2 rx r2 q2) fun d s3 ⟨z, H3, I3, r3, k, e, q3⟩ => ?_)
  subst e
  cases r3
  refine wpAny_truthy_bool ?_
  cases k with
  | false =>
    obtain ⟨k', e', q'⟩ := q3
    cases e'
    exact ite_ff ⟨H3, I3, q'⟩
  | true => exact ite_tt (hr.run pos pins s3 σ H3 Q y u I3 r2 q3)
theorem pt_chN {op op' : CmpOp} {ops : List CmpOp} {a b b' : Expr} {bs : List Expr} {pos : Pos} {ta : TE} {rest : V → TE} (ha : PE X a ta) (hr : PChT X (op :: op' :: ops) (b :: b' :: bs) rest)
    (hm : lastMarks (op :: op' :: ops) (b :: b' :: bs) = false := by with_unfolding_all rfl) : PT X (.Compare a (op :: op' :: ops) (b :: b' :: bs) pos) (tTest (tCh ta rest)) :=
  ⟨fun pins s σ H Q I h => isTrue_chain (thn (ha.run pins s σ H _ I h) fun v s1 ⟨x, H1, I1, r1, q1⟩ => hr.run pos pins s1 σ H1 Q x v I1 r1 q1) hm⟩
end

theorem pi_listK {X : Cx} {K : PySem.W.Frag} {tg l : Expr} {tl : TE} (hK : X.K = K) (hl : PE X l tl) : PI X tg l (iList K tl) := hK ▸ pi_list hl
theorem pi_tupK {X : Cx} {K : PySem.W.Frag} {tg l : Expr} {tl : TE} (hK : X.K = K) (hl : PE X l tl) : PI X tg l (iTup K tl) := hK ▸ pi_tup hl

/-! ### t[::-1] of a tuple; xs == [], xs != [] of a list that may hold anything -/
section
open HT
variable {prog : Program} {w : World} {A : Around} {E : Value → Shared → Prop} {s : Shared}
theorem adjust_rev (n : Nat) : Builtin.Slice.sliceAdjust none none (-1) (n : Int) = ((n : Int) - 1, -1) := by
  unfold Builtin.Slice.sliceAdjust
  have h1 : (-1 : Int) < 0 := by decide
  simp only [h1, if_true]
theorem places_rev (n : Nat) : Builtin.Slice.slicePlaces ((n : Int) - 1) (-1) (-1) = n := by
  unfold Builtin.Slice.slicePlaces
  have h1 : ¬ ((-1 : Int) > 0) := by decide
  simp only [h1, if_false]
  have h2 : (-(-1) : Int) = 1 := by decide
  rw [h2, Int.ediv_one]
  split <;> omega
theorem sliceApplied_rev {sl : Addr} {vl vu vs : Value} {n : Nat} {Q : Int × Int × Nat → Shared → Prop} (hs : s.heap.IsSliceOf sl vl vu vs) (pl : IsPart vl none) (pu : IsPart vu none) (pt : IsPart vs (some (-1)))
    (h : Q ((n : Int) - 1, -1, n) s) : wpAny (model prog w) A (Builtin.Slice.sliceApplied (.ref sl) (pure (n : Int))) Q E s := by
  obtain ⟨os, hos, hcs, hds⟩ := id hs
  unfold Builtin.Slice.sliceApplied Builtin.Slice.sliceFields
  refine wpAny_bind (wpAny_bind (wpAny_field hos hds (x := vl) rfl (wpAny_bind (wpAny_field hos hds (x := vu) rfl (wpAny_bind (wpAny_field hos hds (x := vs) rfl (wpAny_pure ?_)))))))
  refine wpAny_bind (slicePart_ pt ?_)
  show wpAny _ _ (if ((-1 : Int) == 0) = true then _ else _) _ _ s
  rw [if_neg (by decide)]
  refine wpAny_bind (slicePart_ pl (wpAny_bind (slicePart_ pu (wpAny_bind (wpAny_pure ?_)))))
  show wpAny _ _ (match Builtin.Slice.sliceAdjust none none (-1) (n : Int) with | (lo, hi) => pure (lo, (-1 : Int), Builtin.Slice.slicePlaces lo hi (-1))) _ _ s
  rw [adjust_rev]
  show wpAny _ _ (pure ((n : Int) - 1, (-1 : Int), Builtin.Slice.slicePlaces ((n : Int) - 1) (-1) (-1))) _ _ s
  rw [places_rev]
  exact wpAny_pure h
theorem pick_rev (xs : Array Value) : ((List.range xs.size).filterMap fun (k : Nat) => xs[((xs.size : Int) - 1 + (k : Int) * (-1)).toNat]?) = xs.toList.reverse := by
  have e : ∀ m : Nat, m ≤ xs.size → ((List.range m).filterMap fun (k : Nat) => xs[((xs.size : Int) - 1 + (k : Int) * (-1)).toNat]?) = xs.toList.reverse.take m := by
    intro m
    induction m with
    | zero => intro _; rfl
    | succ m ih =>
      intro hm
      rw [List.range_succ, List.filterMap_append, ih (by omega), List.take_add_one]
      congr 1
      have e1 : ((xs.size : Int) - 1 + (m : Int) * (-1)).toNat = xs.size - 1 - m := by omega
      have e2 : xs.toList.reverse[m]? = xs[xs.size - 1 - m]? := by
        rw [List.getElem?_reverse (by rw [Array.length_toList]; omega), Array.length_toList, Array.getElem?_toList]
      rw [e2]
      have lt : xs.size - 1 - m < xs.size := by omega
      simp only [List.filterMap_cons, List.filterMap_nil, e1]
      rw [Array.getElem?_eq_getElem lt]
      rfl
  rw [e _ (Nat.le_refl _), List.take_of_length_le (by rw [List.length_reverse, Array.length_toList]; exact Nat.le_refl _)]
theorem getItem_tuple_rev {t sl : Addr} {items : Array Value} {vl vu vs : Value} {Q : Value → Shared → Prop} (ht : IsTup s.heap t items) (hs : s.heap.IsSliceOf sl vl vu vs) (pl : IsPart vl none) (pu : IsPart vu none) (pt : IsPart vs (some (-1)))
    (h : Q (.ref s.heap.objs.size) { s with heap := s.heap.push { cls := .type "tuple", data := .seq items.toList.reverse.toArray } })
    (hsz : items.size ≤ sizeLine) : wpAny (model prog w) A (getItem (.ref t) (.ref sl)) Q E s := by
  have htake : sizeOk (.seq items.toList.reverse.toArray) := by
    show items.toList.reverse.toArray.size ≤ sizeLine
    rw [List.size_toArray, List.length_reverse, Array.length_toList]
    omega
  obtain ⟨os, hos, hcs, hds⟩ := id hs
  have hTs : s.TypeIs (.ref sl) "slice" := ⟨os, hos, hcs⟩
  unfold getItem
  try with_reducible refine wpAny_holding ?_
  first | refine wpAny_bind (wpAny_pure ?_) | skip
  refine wpAny_bind (wpAny_sequenceKey ht.typeIs (by decide) ?_)
  refine wpAny_bind (wpAny_callSpecial?_slot (name := Str.ofString "__getitem__") ht.typeIs PyProof.Rows.slot_tuple_getitem
    (wpAny_call_entry PyProof.Rows.slot_tuple_getitem ht.typeIs entry_tuple_getitem ?_ (args_tuple_getitem _ _)))
  show wpAny _ _ (Builtin.Tuple.tupleItemsOf (.ref t) >>= _) _ _ s
  refine wpAny_bind (tupleItemsOf_ ht ?_)
  refine wpAny_bind (wpAny_typeOf hTs ?_)
  rw [if_pos (by decide)]
  refine wpAny_bind (sliceApplied_rev hs pl pu pt ?_)
  have hno : ¬ ((((items.size : Int) - 1) == 0 && (-1 : Int) == 1 && items.size == items.size) = true) := by
    intro q
    rw [Bool.and_eq_true, Bool.and_eq_true] at q
    exact absurd q.1.2 (by decide)
  show wpAny _ _ (if (((items.size : Int) - 1) == 0 && (-1 : Int) == 1 && items.size == items.size) = true then _ else _) _ _ s
  rw [if_neg hno, pick_rev]
  first
    | exact wpAny_bind (m := Builtin.Tuple.tupleExact _) (wpAny_newObj_type (wpAny_pure ⟨_, rfl, wpAny_pure h⟩) htake)
    | exact wpAny_bind (m := Builtin.Tuple.tupleExact _) (wpAny_newObj_type (wpAny_bind (wpAny_pure (wpAny_pure ⟨_, rfl, wpAny_pure h⟩))) htake)
    | exact wpAny_bind (wpAny_bind (m := Builtin.Tuple.tupleExact _) (wpAny_newObj_type (wpAny_pure (wpAny_pure ⟨_, rfl, wpAny_pure h⟩)) htake))
    | exact wpAny_bind (wpAny_bind (m := Builtin.Tuple.tupleExact _) (wpAny_newObj_type (wpAny_pure ⟨_, rfl, wpAny_pure h⟩) htake))
end
section
variable {X : Cx}
def tRevT (K : PySem.W.Frag) (te : TE) : TE := fun σ H Q => te σ H fun x H1 => ∃ a xs, x = .ref a ∧ SqT K H1 a xs ∧ ∀ p, H1 p = none → Q (.ref p) (upd H1 p (.tup xs.reverse))
theorem pe_revT {e : Expr} {te : TE} {k : Nat} {p1 p2 p3 pos : Pos} (he : PE X e te) : PE X (.Subscript e (.Slice none none (some (.UnaryOp .USub (.Constant (.int 1) k p1) p2)) p3) pos) (tRevT X.K te) := by
  refine ⟨fun pins s σ H Q I h => ?_⟩
  refine Subscript_ (thn (he.run pins s σ H _ I h) fun v s1 ⟨x, H1, I1, r1, q1⟩ => ?_)
  obtain ⟨a, xs, ex, hx, q⟩ := q1
  subst ex
  cases r1
  have hst : PO X (some (.UnaryOp .USub (.Constant (.int 1) k p1) p2)) (tPart (tUn (rU fun i => .int (-i)) (tC (.int 1)))) := po_some (pe_un un_neg pe_int)
  refine wpAny_Slice (thn (po_none.run pins s1 σ H1 (fun o H2 => o = none ∧ H2 = H1) I1 ⟨rfl, rfl⟩) fun vl s2 ⟨l, H2, I2, pl, el, e2⟩ => ?_)
  subst el e2
  refine thn (po_none.run pins s2 σ H2 (fun o H3 => o = none ∧ H3 = H2) I2 ⟨rfl, rfl⟩) fun vu s3 ⟨u, H3, I3, pu, eu, e3⟩ => ?_
  subst eu e3
  refine thn (hst.run pins s3 σ H3 (fun o H4 => o = some (-1) ∧ H4 = H3) I3 ⟨1, rfl, -1, rfl, rfl, rfl⟩) fun vs s4 ⟨o, H4, I4, ps, eo, e4⟩ => ?_
  subst eo e4
  have I5 : Inv X pins σ H4 { s4 with heap := s4.heap.push { cls := .type "slice", data := .fields #[vl, vu, vs] } } := I4.kept (t' := s4.toks) fun b ob q => Heap.get?_push_of_some _ q
  obtain ⟨its, r, ht, hz⟩ := I5.tuple hx
  have hlen := r.length
  show wpAny (model X.prog X.w) X.A (subscriptTail e (.Slice none none (some (.UnaryOp .USub (.Constant (.int 1) k p1) p2)) p3) (.ref a) (.ref s4.heap.objs.size)) (EP X pins σ Q) X.xe { s4 with heap := s4.heap.push { cls := .type "slice", data := .fields #[vl, vu, vs] } }
  refine tail_any (ops := [.ref a, .ref s4.heap.objs.size]) ht.typeIs (PyProof.Rows.slot_tuple_getitem.lookup) ?_ (by with_unfolding_all rfl)
  refine getItem_tuple_rev ht (Heap.IsSliceOf.new _ vl vu vs) pl pu ps ?_ (by rw [List.size_toArray]; omega)
  refine ⟨.ref _, _, I5.laid (t' := s4.toks) (o := .tup xs.reverse) (fun b ob q => Heap.get?_push_of_some _ q) (Nat.le_refl _) ?_, rfl, q _ (I5.hok.fresh (Nat.le_refl _))⟩
  exact ⟨by rw [List.length_reverse]; exact hz, _, r.reverse, IsTup.new _ _⟩
def rEqL (K : PySem.W.Frag) : R2 := fun x y H Q => ∃ (a b : Addr) (xs : List V), x = .ref a ∧ y = .ref b ∧ SqL K H a xs ∧ SqL K H b [] ∧ Q (.bl xs.isEmpty) H
def rNeL (K : PySem.W.Frag) : R2 := fun x y H Q => ∃ (a b : Addr) (xs : List V), x = .ref a ∧ y = .ref b ∧ SqL K H a xs ∧ SqL K H b [] ∧ Q (.bl (!xs.isEmpty)) H
theorem op_eqL (units : X.A.units < cLine) : OpR X (compareOp .Eq) (rEqL X.K) := by
  intro pins s σ H x y v u Q I rx ry h
  obtain ⟨a, b, xs, rfl, rfl, ha, hb, q⟩ := h
  cases rx
  cases ry
  obtain ⟨its, r1, p1, _⟩ := I.list ha
  obtain ⟨its2, r2, p2, _⟩ := I.list hb
  cases r2
  cases r1 with
  | nil =>
    exact SeqAt.eq_listAt (e := fun _ => true) p1.isList p2.isList rfl units (fun j h1 h2 => absurd h2 (Nat.not_lt_zero j)) ⟨.bl true, H, I, rfl, q⟩
  | cons r t =>
    exact SeqAt.eq_list_lengthsAt p1.isList p2.isList (by simp) units ⟨.bl false, H, I, rfl, q⟩
theorem op_neL (units : X.A.units < cLine) : OpR X (compareOp .NotEq) (rNeL X.K) := by
  intro pins s σ H x y v u Q I rx ry h
  obtain ⟨a, b, xs, rfl, rfl, ha, hb, q⟩ := h
  cases rx
  cases ry
  obtain ⟨its, r1, p1, _⟩ := I.list ha
  obtain ⟨its2, r2, p2, _⟩ := I.list hb
  cases r2
  cases r1 with
  | nil =>
    exact SeqAt.RcNeAt.lists (e := fun _ => true) p1.isList p2.isList rfl units (fun j h1 h2 => absurd h2 (Nat.not_lt_zero j)) X.prog X.w X.xe (EP X pins σ Q) ⟨.bl false, H, I, rfl, q⟩
  | cons r t =>
    exact SeqAt.RcNeAt.lists_lengths p1.isList p2.isList (by simp) units X.prog X.w X.xe (EP X pins σ Q) ⟨.bl true, H, I, rfl, q⟩
end

/-! ### x in t, x not in t, for a tuple of data -/
theorem units65 {k : Nat} {A : Around} (r : Room k A) : A.units + 65 < cLine := by
  have := r.un
  omega
section
variable {X : Cx}
def rInT (K : PySem.W.Frag) : R2 := fun x y H Q => ∃ d ds, Dp K H x d ∧ Dp K H y (.tuple ds) ∧ SeqAt.shaped d = true ∧ SeqAt.shaped (.tuple ds) = true ∧ Q (.bl (ds.any fun z => PyData.eqv z d)) H
def rNotInT (K : PySem.W.Frag) : R2 := fun x y H Q => ∃ d ds, Dp K H x d ∧ Dp K H y (.tuple ds) ∧ SeqAt.shaped d = true ∧ SeqAt.shaped (.tuple ds) = true ∧ Q (.bl (!ds.any fun z => PyData.eqv z d)) H
theorem op_inT (units : X.A.units + 65 < cLine) : OpR X (compareOp .In) (rInT X.K) := by
  intro pins s σ H x y v u Q I rx ry ⟨d, ds, dx, dy, sx, sy, q⟩
  obtain ⟨_, r1⟩ := Dp.reads I d x v dx rx
  obtain ⟨_, r2⟩ := Dp.reads I (.tuple ds) y u dy ry
  have l2 : PyData.canLayAll0 ds = true := SeqAt.canLay_of_shaped sy
  exact SeqAt.in_tuple_reads r2 r1 l2 (SeqAt.canLay_of_shaped sx) (room_in_shaped sx units) (Exists.intro (V.bl _) ⟨H, I, rfl, q⟩)
theorem op_notInT (units : X.A.units + 65 < cLine) : OpR X (compareOp .NotIn) (rNotInT X.K) := by
  intro pins s σ H x y v u Q I rx ry ⟨d, ds, dx, dy, sx, sy, q⟩
  obtain ⟨_, r1⟩ := Dp.reads I d x v dx rx
  obtain ⟨_, r2⟩ := Dp.reads I (.tuple ds) y u dy ry
  have l2 : PyData.canLayAll0 ds = true := SeqAt.canLay_of_shaped sy
  exact SeqAt.notIn_tuple_reads r2 r1 l2 (SeqAt.canLay_of_shaped sx) (room_in_shaped sx units) (Exists.intro (V.bl _) ⟨H, I, rfl, q⟩)
end
theorem for_zipU {K : PySem.W.Frag} {a b : Addr} {xs ys : List V} {g : TG} {tb : TS} {D : Ends} {σ : L2.St} {H : Hp} (Pv : Nat → L2.St → Hp → Prop) (h0 : Pv 0 σ H) (hq : ∀ i σ H, Pv i σ H → SqT K H a xs ∧ SqT K H b ys)
    (hs : ∀ (i : Nat) (x y : V) (T : Addr) (σ : L2.St) (H : Hp), xs[i]? = some x → ys[i]? = some y → Pv i σ H → H T = none → g (.ref T) σ (upd H T (.tup [x, y])) fun σ2 H2 => tb { D with nx := Pv (i + 1), ct := Pv (i + 1), bk := D.nx } σ2 H2) (hd : ∀ i σ H, i ≤ xs.length → Pv i σ H → D.nx σ H) :
    ∃ W : Nat → Nat → L2.St → Hp → Prop, (∃ m, W 0 m σ H) ∧ ∀ i m σ H, W i m σ H →
      ((RZ.ItzT K a b).stop i H ∧ D.nx σ H) ∨ ((RZ.ItzT K a b).go i H ∧ ∃ N : L2.St → Hp → Prop, (∀ σ' H', N σ' H' → ∃ m', m' < m ∧ W (i + 1) m' σ' H') ∧ ∀ v H', (RZ.ItzT K a b).yld i H v H' → g v σ H' fun σ2 H2 => tb { D with nx := N, ct := N, bk := D.nx } σ2 H2) := by
  refine ⟨fun i m σ H => m = xs.length - i ∧ i ≤ xs.length ∧ Pv i σ H, ⟨_, rfl, Nat.zero_le _, h0⟩, ?_⟩
  rintro i m σ H ⟨rfl, hi, p⟩
  obtain ⟨q1, q2⟩ := hq i σ H p
  by_cases c : i < xs.length ∧ i < ys.length
  · refine .inr ⟨⟨xs, ys, xs[i]'c.1, ys[i]'c.2, q1, q2, List.getElem?_eq_getElem c.1, List.getElem?_eq_getElem c.2⟩, Pv (i + 1), fun σ' H' p' => ⟨xs.length - (i + 1), by omega, rfl, by omega, p'⟩, fun v H' hy => ?_⟩
    obtain ⟨T, x, y, rfl, nT, rfl, f1, f2⟩ := hy
    exact hs i x y T σ H (f1 xs q1) (f2 ys q2) p nT
  · exact .inl ⟨⟨xs, ys, q1, q2, by omega⟩, hd i σ H hi p⟩

/-- a statement that is never come to -/
theorem ps_never {X : Cx} {st : Stmt} : PS X st (fun _ _ _ => False) := ⟨fun _ _ _ _ _ _ h => h.elim⟩

/-! ### a walk over a tuple, whatever its body is (comprehensions with two for) -/
theorem walkT {K : PySem.W.Frag} {a : Addr} {xs : List V} {B : V → Hp → (Hp → Prop) → Prop} {H0 : Hp} {Qd : Hp → Prop} (Pv : Nat → Hp → Prop) (h0 : Pv 0 H0) (hl : ∀ i H, i ≤ xs.length → Pv i H → SqT K H a xs)
    (hs : ∀ i x H, xs[i]? = some x → Pv i H → B x H (Pv (i + 1))) (hd : ∀ H, Pv xs.length H → Qd H) :
    ∃ W : Nat → Nat → Hp → Prop, (∃ m, W 0 m H0) ∧ ∀ i m H, W i m H →
      ((Itt K a).stop i H ∧ Qd H) ∨ ((Itt K a).go i H ∧ ∃ Nx : Hp → Prop, (∀ H', Nx H' → ∃ m', m' < m ∧ W (i + 1) m' H') ∧ ∀ x H', (Itt K a).yld i H x H' → B x H' Nx) := by
  refine ⟨fun i m H => m = xs.length - i ∧ i ≤ xs.length ∧ Pv i H, ⟨xs.length, by simp, Nat.zero_le _, h0⟩, ?_⟩
  rintro i m H ⟨rfl, hi, p⟩
  have q := hl i H hi p
  by_cases hlt : i < xs.length
  · refine .inr ⟨⟨xs, xs[i], q, by simp [hlt]⟩, Pv (i + 1), fun H' p' => ⟨xs.length - (i + 1), by omega, rfl, hlt, p'⟩, fun x H' y => ?_⟩
    obtain ⟨e, y⟩ := y
    subst e
    exact hs i x _ (y xs q) p
  · have e : i = xs.length := by omega
    subst e
    exact .inl ⟨⟨xs, q, by omega⟩, hd H p⟩

/-! ### a min-max theorem: demands are rectangles, intervals are points -/
abbrev Dem := Int × Int × Int
def sv (z : Int × Int) (d : Dem) : Bool := decide (d.2.1 ≤ z.1 ∧ z.1 ≤ d.1 ∧ d.1 ≤ z.2 ∧ z.2 ≤ d.2.2)
def cf (d e : Dem) : Bool := decide ((e.2.1 ≤ d.1 ∧ d.1 ≤ e.2.2) ∧ d.2.1 ≤ e.1 ∧ e.1 ≤ d.2.2)
def Vd (d : Dem) : Prop := d.2.1 ≤ d.1 ∧ d.1 ≤ d.2.2
theorem sv_iff' {z : Int × Int} {d : Dem} : sv z d = true ↔ d.2.1 ≤ z.1 ∧ z.1 ≤ d.1 ∧ d.1 ≤ z.2 ∧ z.2 ≤ d.2.2 := decide_eq_true_iff
theorem cf_iff {d e : Dem} : cf d e = true ↔ (e.2.1 ≤ d.1 ∧ d.1 ≤ e.2.2) ∧ d.2.1 ≤ e.1 ∧ e.1 ≤ d.2.2 := decide_eq_true_iff
theorem cf_comm (d e : Dem) : cf d e = cf e d := by
  rw [Bool.eq_iff_iff, cf_iff, cf_iff]
  exact ⟨fun h => ⟨h.2, h.1⟩, fun h => ⟨h.2, h.1⟩⟩
theorem cf_of_sv {z : Int × Int} {d e : Dem} (h1 : sv z d = true) (h2 : sv z e = true) : cf d e = true := by
  rw [sv_iff'] at h1 h2
  rw [cf_iff]
  omega
theorem cf_self {d : Dem} (h : Vd d) : cf d d = true := by
  rw [cf_iff]
  exact ⟨h, h⟩
/-- how many of the demands the point serves -/
def cov (L : List Dem) (z : Int × Int) : Nat := L.countP (sv z)
theorem cov_nil (z : Int × Int) : cov [] z = 0 := rfl
theorem cov_cons (d : Dem) (L : List Dem) (z : Int × Int) : cov (d :: L) z = cov L z + (if sv z d = true then 1 else 0) := List.countP_cons
theorem cov_app (L M : List Dem) (z : Int × Int) : cov (L ++ M) z = cov L z + cov M z := List.countP_append
theorem cov_perm {L M : List Dem} (h : L.Perm M) (z : Int × Int) : cov L z = cov M z := h.countP_eq _
/-- no two of them conflict -/
def Ind (L : List Dem) : Prop := L.Pairwise fun d e => cf d e = false
theorem Ind.cov_le {L : List Dem} (h : Ind L) (z : Int × Int) : cov L z ≤ 1 := by
  induction L with
  | nil => exact Nat.zero_le _
  | cons d L ih =>
    have p := List.pairwise_cons.mp h
    rw [cov_cons]
    split
    · next s =>
      have e : cov L z = 0 := List.countP_eq_zero.mpr fun e he c => by
        have := p.1 e he
        rw [cf_of_sv s c] at this
        cases this
      omega
    · have := ih p.2
      omega
structure Fam (F : List Dem) : Prop where
  ok : ∀ d ∈ F, 0 ≤ d.2.1 ∧ Vd d
  ex : ∀ d ∈ F, ∀ e ∈ F, d.1 < e.1 → d.2.1 < e.2.1 → d.2.2 < e.2.2 → cf d e = true → (d.1, e.2) ∈ F ∧ (e.1, d.2) ∈ F
  cross : ∀ d ∈ F, ∀ e ∈ F, cf d e = true → d.2 = e.2 ∨ (d.2.1 < e.2.1 ∧ d.2.2 < e.2.2) ∨ (e.2.1 < d.2.1 ∧ e.2.2 < d.2.2)
theorem sv_exch {z : Int × Int} {d e : Dem} (h1 : d.1 < e.1) (h2 : d.2.1 < e.2.1) (h3 : d.2.2 < e.2.2) (c : cf d e = true) :
    (if sv z (d.1, e.2) = true then 1 else 0) + (if sv z (e.1, d.2) = true then 1 else 0) ≤ (if sv z d = true then 1 else 0) + (if sv z e = true then 1 else 0) := by
  have c := cf_iff.mp c
  simp only [sv_iff']
  split <;> split <;> split <;> split <;> omega
def pot (L : List Dem) : Int := (L.map fun d => d.1 * (d.2.1 + d.2.2)).sum
theorem pot_cons (d : Dem) (L : List Dem) : pot (d :: L) = d.1 * (d.2.1 + d.2.2) + pot L := by
  unfold pot
  rw [List.map_cons, List.sum_cons]
theorem pot_nonneg {L : List Dem} (h : ∀ d ∈ L, 0 ≤ d.2.1 ∧ Vd d) : 0 ≤ pot L := by
  induction L with
  | nil => exact Int.le_refl _
  | cons d L ih =>
    rw [pot_cons]
    have := ih fun e he => h e (List.mem_cons_of_mem _ he)
    have q := h d List.mem_cons_self
    unfold Vd at q
    have : 0 ≤ d.1 * (d.2.1 + d.2.2) := Int.mul_nonneg (by omega) (by omega)
    omega
theorem pot_perm {L M : List Dem} (h : L.Perm M) : pot L = pot M := by
  induction h with
  | nil => rfl
  | cons x _ ih => rw [pot_cons, pot_cons, ih]
  | swap x y l =>
    rw [pot_cons, pot_cons, pot_cons, pot_cons]
    omega
  | trans _ _ i1 i2 => rw [i1, i2]
def Corner (d e : Dem) : Prop := cf d e = true ∧ d.1 < e.1 ∧ d.2.1 < e.2.1 ∧ d.2.2 < e.2.2
theorem pull2 {L : List Dem} {d e : Dem} (hd : d ∈ L) (he : e ∈ L) (ne : d ≠ e) : ∃ R, L.Perm (d :: e :: R) := by
  have p1 := List.perm_cons_erase hd
  have he' : e ∈ L.erase d := (List.mem_erase_of_ne (Ne.symm ne)).mpr he
  exact ⟨(L.erase d).erase e, p1.trans ((List.perm_cons_erase he').cons d)⟩
theorem uncross {F : List Dem} (fam : Fam F) : ∀ (n : Nat) (L : List Dem), (∀ d ∈ L, d ∈ F) → (pot L).toNat < n → ∃ M : List Dem, (∀ d ∈ M, d ∈ F) ∧ M.length = L.length ∧ (∀ z, cov M z ≤ cov L z) ∧ ∀ d ∈ M, ∀ e ∈ M, ¬ Corner d e := by
  intro n
  induction n with
  | zero => exact fun _ _ h => absurd h (Nat.not_lt_zero _)
  | succ n ih =>
    intro L hL hn
    by_cases c : ∀ d ∈ L, ∀ e ∈ L, ¬ Corner d e
    · exact ⟨L, hL, rfl, fun _ => Nat.le_refl _, c⟩
    · have ⟨d, hd, e, he, k⟩ : ∃ d ∈ L, ∃ e ∈ L, Corner d e := by
        refine Classical.byContradiction fun z => c fun d hd e he k => z ⟨d, hd, e, he, k⟩
      obtain ⟨k1, k2, k3, k4⟩ := k
      have ne : d ≠ e := fun z => by
        subst z
        exact absurd k2 (Int.lt_irrefl _)
      obtain ⟨R, pm⟩ := pull2 hd he ne
      have x := fam.ex d (hL d hd) e (hL e he) k2 k3 k4 k1
      have hR : ∀ f ∈ R, f ∈ F := fun f hf => hL f (pm.mem_iff.mpr (List.mem_cons_of_mem _ (List.mem_cons_of_mem _ hf)))
      have hN : ∀ f ∈ (d.1, e.2) :: (e.1, d.2) :: R, f ∈ F := fun f hf => by
        rcases List.mem_cons.mp hf with rfl | hf
        · exact x.1
        rcases List.mem_cons.mp hf with rfl | hf
        · exact x.2
        · exact hR f hf
      have less : pot ((d.1, e.2) :: (e.1, d.2) :: R) < pot L := by
        rw [pot_perm pm, pot_cons, pot_cons, pot_cons, pot_cons]
        show d.1 * (e.2.1 + e.2.2) + (e.1 * (d.2.1 + d.2.2) + pot R) < d.1 * (d.2.1 + d.2.2) + (e.1 * (e.2.1 + e.2.2) + pot R)
        have : 0 < (e.1 - d.1) * ((e.2.1 + e.2.2) - (d.2.1 + d.2.2)) := Int.mul_pos (by omega) (by omega)
        rw [Int.sub_mul, Int.mul_sub, Int.mul_sub] at this
        omega
      have nn := pot_nonneg fun f hf => fam.ok f (hN f hf)
      obtain ⟨M, m1, m2, m3, m4⟩ := ih _ hN (by omega)
      refine ⟨M, m1, by rw [m2, pm.length_eq]; rfl, fun z => Nat.le_trans (m3 z) ?_, m4⟩
      rw [cov_perm pm, cov_cons, cov_cons, cov_cons, cov_cons]
      have := sv_exch (z := z) k2 k3 k4 k1
      omega
/-- e lies across d -/
def Und (e d : Dem) : Prop := d.2.1 ≤ e.2.1 ∧ e.1 ≤ d.1 ∧ d.2.2 ≤ e.2.2
theorem und_of {F : List Dem} (fam : Fam F) {d e : Dem} (hd : d ∈ F) (he : e ∈ F) (c : cf d e = true) (n1 : ¬ Corner d e) (n2 : ¬ Corner e d) : Und d e ∨ Und e d := by
  unfold Und
  rcases fam.cross d hd e he c with h | h | h
  · rw [h]
    omega
  · have : ¬ d.1 < e.1 := fun z => n1 ⟨c, z, h.1, h.2⟩
    omega
  · have : ¬ e.1 < d.1 := fun z => n2 ⟨by rw [cf_comm]; exact c, z, h.1, h.2⟩
    omega
def leD (d e : Dem) : Bool := decide (d.1 - d.2.1 < e.1 - e.2.1 ∨ (d.1 - d.2.1 = e.1 - e.2.1 ∧ e.2.2 ≤ d.2.2))
theorem leD_total (a b : Dem) : (leD a b || leD b a) = true := by
  unfold leD
  rw [Bool.or_eq_true, decide_eq_true_eq, decide_eq_true_eq]
  omega
theorem leD_trans (a b c : Dem) : leD a b = true → leD b c = true → leD a c = true := by
  unfold leD
  rw [decide_eq_true_eq, decide_eq_true_eq, decide_eq_true_eq]
  omega
theorem und_le {F : List Dem} (fam : Fam F) {f e : Dem} (hf : f ∈ F) (he : e ∈ F) (c : cf f e = true) (n1 : ¬ Corner f e) (n2 : ¬ Corner e f) (le : leD f e = true) : Und f e := by
  have le := of_decide_eq_true le
  rcases und_of fam hf he c n1 n2 with h | h
  · exact h
  · unfold Und at *
    omega
def gre : Nat → List Dem → List Dem
  | 0, _ => []
  | _, [] => []
  | n + 1, d :: R => d :: gre n (R.filter fun e => !cf d e)
def lef : Nat → List Dem → List Dem
  | 0, L => L
  | _, [] => []
  | n + 1, d :: R => (R.filter fun e => cf d e) ++ lef n (R.filter fun e => !cf d e)
theorem gre_lef : ∀ (n : Nat) (L : List Dem), L.Perm (gre n L ++ lef n L)
  | 0, L => List.Perm.refl _
  | n + 1, [] => List.Perm.refl _
  | n + 1, d :: R => by
    have ih := gre_lef n (R.filter fun e => !cf d e)
    show (d :: R).Perm (d :: (gre n (R.filter fun e => !cf d e) ++ ((R.filter fun e => cf d e) ++ lef n (R.filter fun e => !cf d e))))
    refine List.Perm.cons d ?_
    have p1 := (List.filter_append_perm (fun e => cf d e) R).symm
    refine p1.trans ?_
    refine ((List.Perm.refl (R.filter fun e => cf d e)).append ih).trans ?_
    rw [← List.append_assoc, ← List.append_assoc]
    exact List.perm_append_comm.append_right _
theorem gre_sub (n : Nat) (L : List Dem) : ∀ d ∈ gre n L, d ∈ L := fun d hd => (gre_lef n L).mem_iff.mpr (List.mem_append_left _ hd)
theorem lef_sub (n : Nat) (L : List Dem) : ∀ d ∈ lef n L, d ∈ L := fun d hd => (gre_lef n L).mem_iff.mpr (List.mem_append_right _ hd)
theorem gre_ind : ∀ (n : Nat) (L : List Dem), Ind (gre n L)
  | 0, _ => List.Pairwise.nil
  | n + 1, [] => List.Pairwise.nil
  | n + 1, d :: R => by
    refine List.pairwise_cons.mpr ⟨fun e he => ?_, gre_ind n _⟩
    have := (List.mem_filter.mp (gre_sub n _ e he)).2
    rw [Bool.not_eq_true'] at this
    exact this
theorem gre_in : ∀ (n : Nat) (A B : List Dem) (e : Dem), A.length < n → e ∈ gre n (A ++ e :: B) ∨ ∃ f ∈ A, cf f e = true
  | 0, _, _, _, h => absurd h (Nat.not_lt_zero _)
  | n + 1, [], B, e, _ => .inl List.mem_cons_self
  | n + 1, d :: A, B, e, h => by
    by_cases c : cf d e = true
    · exact .inr ⟨d, List.mem_cons_self, c⟩
    · have eq : (A ++ e :: B).filter (fun x => !cf d x) = A.filter (fun x => !cf d x) ++ e :: B.filter (fun x => !cf d x) := by
        rw [List.filter_append, List.filter_cons_of_pos (by rw [Bool.not_eq_true] at c; rw [c]; rfl)]
      have l : (A.filter fun x => !cf d x).length < n := Nat.lt_of_le_of_lt (List.length_filter_le _ _) (Nat.lt_of_succ_lt_succ h)
      rcases gre_in n (A.filter fun x => !cf d x) (B.filter fun x => !cf d x) e l with g | ⟨f, hf, k⟩
      · refine .inl (List.mem_cons_of_mem _ ?_)
        show e ∈ gre n ((A ++ e :: B).filter fun x => !cf d x)
        rw [eq]
        exact g
      · exact .inr ⟨f, List.mem_cons_of_mem _ (List.mem_filter.mp hf).1, k⟩
theorem cov_lt {z w : Int × Int} {f : Dem} : ∀ {L : List Dem}, f ∈ L → (∀ c ∈ L, sv z c = true → sv w c = true) → sv z f = false → sv w f = true → cov L z < cov L w
  | [], hf, _, _, _ => nomatch hf
  | d :: L, hf, h, n, y => by
    rw [cov_cons, cov_cons]
    have le : cov L z ≤ cov L w := List.countP_mono_left fun c hc => h c (List.mem_cons_of_mem _ hc)
    have h1 := h d List.mem_cons_self
    rcases List.mem_cons.mp hf with rfl | hf
    · rw [n, y]
      simp
      omega
    · have ih := cov_lt hf (fun c hc => h c (List.mem_cons_of_mem _ hc)) n y
      split
      · next s => rw [if_pos (h1 s)]; omega
      · split <;> omega
theorem first_of {p : Dem → Bool} : ∀ {L : List Dem}, (∃ d ∈ L, p d = true) → ∃ A e B, L = A ++ e :: B ∧ p e = true ∧ ∀ f ∈ A, p f = false
  | [], h => by
    obtain ⟨d, hd, _⟩ := h
    cases hd
  | d :: L, h => by
    by_cases c : p d = true
    · exact ⟨[], d, L, rfl, c, fun f hf => nomatch hf⟩
    · obtain ⟨x, hx, px⟩ := h
      rcases List.mem_cons.mp hx with rfl | hx
      · exact absurd px c
      · obtain ⟨A, e, B, r1, r2, r3⟩ := first_of ⟨x, hx, px⟩
        refine ⟨d :: A, e, B, by rw [r1]; rfl, r2, fun f hf => ?_⟩
        rcases List.mem_cons.mp hf with rfl | hf
        · exact Bool.not_eq_true _ ▸ c
        · exact r3 f hf
theorem lef_cov {F : List Dem} (fam : Fam F) {L : List Dem} (hL : ∀ d ∈ L, d ∈ F) (nc : ∀ d ∈ L, ∀ e ∈ L, ¬ Corner d e) (srt : L.Pairwise fun d e => leD d e = true) {m : Nat} (hm : ∀ z, cov L z ≤ m + 1) (z : Int × Int) : cov (lef L.length L) z ≤ m := by
  have sum := cov_perm (gre_lef L.length L) z
  rw [cov_app] at sum
  have top := hm z
  by_cases g : ∃ d ∈ gre L.length L, sv z d = true
  · have : 0 < cov (gre L.length L) z := List.countP_pos_iff.mpr g
    omega
  · by_cases s : ∃ d ∈ L, sv z d = true
    · obtain ⟨A, e, B, rfl, se, nA⟩ := first_of s
      have la : A.length < (A ++ e :: B).length := by
        rw [List.length_append, List.length_cons]
        omega
      rcases gre_in _ A B e la with q | ⟨f, hf, k⟩
      · exact absurd ⟨e, q, se⟩ g
      · have mf : f ∈ A ++ e :: B := List.mem_append_left _ hf
        have me : e ∈ A ++ e :: B := List.mem_append_right _ List.mem_cons_self
        have pw := List.pairwise_append.mp srt
        have u1 := und_le fam (hL f mf) (hL e me) k (nc f mf e me) (nc e me f mf) (pw.2.2 f hf e List.mem_cons_self)
        have w : cov (A ++ e :: B) z < cov (A ++ e :: B) (f.1, z.2) := by
          have vf := (fam.ok f (hL f mf)).2
          have ve := sv_iff'.mp se
          refine cov_lt mf (fun c hc sc => ?_) (nA f hf) ?_
          · have u2 : Und e c := by
              rcases List.mem_append.mp hc with h | h
              · rw [nA c h] at sc
                cases sc
              · rcases List.mem_cons.mp h with rfl | h
                · exact ⟨Int.le_refl _, Int.le_refl _, Int.le_refl _⟩
                · exact und_le fam (hL e me) (hL c hc) (cf_of_sv se sc) (nc e me c hc) (nc c hc e me) ((List.pairwise_cons.mp pw.2.1).1 c h)
            have sc := sv_iff'.mp sc
            rw [sv_iff']
            unfold Und Vd at *
            show c.2.1 ≤ f.1 ∧ f.1 ≤ c.1 ∧ c.1 ≤ z.2 ∧ z.2 ≤ c.2.2
            omega
          · rw [sv_iff']
            unfold Und Vd at *
            show f.2.1 ≤ f.1 ∧ f.1 ≤ f.1 ∧ f.1 ≤ z.2 ∧ z.2 ≤ f.2.2
            omega
        have := hm (f.1, z.2)
        omega
    · have : cov L z = 0 := List.countP_eq_zero.mpr fun d hd c => s ⟨d, hd, c⟩
      omega
theorem len_le {F : List Dem} (fam : Fam F) {k : Nat} (hk : ∀ I, Ind I → (∀ d ∈ I, d ∈ F) → I.length ≤ k) : ∀ (m : Nat) (L : List Dem), (∀ d ∈ L, d ∈ F) → (∀ d ∈ L, ∀ e ∈ L, ¬ Corner d e) → (∀ z, cov L z ≤ m) → L.length ≤ m * k
  | 0, L, hL, _, hm => by
    cases L with
    | nil => exact Nat.zero_le _
    | cons d L =>
      have v := (fam.ok d (hL d List.mem_cons_self)).2
      have := hm (d.1, d.1)
      rw [cov_cons, if_pos (sv_iff'.mpr (by unfold Vd at v; exact ⟨v.1, Int.le_refl _, Int.le_refl _, v.2⟩))] at this
      omega
  | m + 1, L, hL, nc, hm => by
    have pm := List.mergeSort_perm L leD
    have srt := List.pairwise_mergeSort leD_trans leD_total L
    generalize L.mergeSort leD = S at *
    have hS : ∀ d ∈ S, d ∈ L := fun d hd => pm.mem_iff.mp hd
    have hl := lef_cov fam (fun d hd => hL d (hS d hd)) (fun d hd e he => nc d (hS d hd) e (hS e he)) srt (m := m) (fun z => by rw [cov_perm pm]; exact hm z)
    have sub := lef_sub S.length S
    have ih := len_le fam hk m (lef S.length S) (fun d hd => hL d (hS d (sub d hd))) (fun d hd e he => nc d (hS d (sub d hd)) e (hS e (sub e he))) hl
    have g := hk _ (gre_ind S.length S) fun d hd => hL d (hS d (gre_sub _ _ d hd))
    have e := (gre_lef S.length S).length_eq
    have e2 := pm.length_eq
    rw [List.length_append] at e
    rw [Nat.add_mul]
    omega
theorem sum_lt {α : Type} {f : α → Nat} : ∀ {Z : List α} {w : α}, w ∈ Z → (∀ x ∈ Z, f x ≤ 1) → f w = 0 → (Z.map f).sum + 1 ≤ Z.length
  | [], _, h, _, _ => nomatch h
  | x :: Z, w, h, h1, h0 => by
    have le : ∀ Y : List α, (∀ x ∈ Y, f x ≤ 1) → (Y.map f).sum ≤ Y.length := by
      intro Y
      induction Y with
      | nil => exact fun _ => Nat.le_refl _
      | cons y Y ih =>
        intro hy
        have := ih fun x hx => hy x (List.mem_cons_of_mem _ hx)
        have := hy y List.mem_cons_self
        rw [List.map_cons, List.sum_cons, List.length_cons]
        omega
    have r := le Z fun x hx => h1 x (List.mem_cons_of_mem _ hx)
    have hx := h1 x List.mem_cons_self
    rw [List.map_cons, List.sum_cons, List.length_cons]
    rcases List.mem_cons.mp h with rfl | h
    · omega
    · have := sum_lt h (fun x hx => h1 x (List.mem_cons_of_mem _ hx)) h0
      omega
theorem cov_flat {α : Type} (I : α → List Dem) (z : Int × Int) : ∀ Z : List α, cov (Z.flatMap I) z = (Z.map fun w => cov (I w) z).sum
  | [] => rfl
  | x :: Z => by
    rw [List.flatMap_cons, cov_app, cov_flat I z Z, List.map_cons, List.sum_cons]
theorem len_flat {α β : Type} (I : α → List β) {k : Nat} : ∀ Z : List α, (∀ w ∈ Z, (I w).length = k) → (Z.flatMap I).length = Z.length * k
  | [], _ => by simp
  | x :: Z, h => by
    rw [List.flatMap_cons, List.length_append, len_flat I Z fun w hw => h w (List.mem_cons_of_mem _ hw), h x List.mem_cons_self, List.length_cons, Nat.add_mul]
    omega
theorem top_of (F : List Dem) : ∃ M : Nat, ∀ d ∈ F, d.2.2 ≤ M := by
  induction F with
  | nil => exact ⟨0, fun d hd => nomatch hd⟩
  | cons d F ih =>
    obtain ⟨M, h⟩ := ih
    refine ⟨M + d.2.2.toNat, fun e he => ?_⟩
    rcases List.mem_cons.mp he with rfl | he
    · omega
    · have := h e he
      omega
def box (M : Nat) : List (Int × Int) := (List.range (M + 1)).flatMap fun (x : Nat) => (List.range (M + 1)).map fun (y : Nat) => ((x : Int), (y : Int))
theorem mem_box {M : Nat} {z : Int × Int} (h : 0 ≤ z.1 ∧ z.1 ≤ M) (h2 : 0 ≤ z.2 ∧ z.2 ≤ M) : z ∈ box M := by
  unfold box
  refine List.mem_flatMap.mpr ⟨z.1.toNat, List.mem_range.mpr (by omega), List.mem_map.mpr ⟨z.2.toNat, List.mem_range.mpr (by omega), ?_⟩⟩
  exact Prod.ext (by show ((z.1.toNat : Nat) : Int) = z.1; omega) (by show ((z.2.toNat : Nat) : Int) = z.2; omega)
/-- a point that every largest selection has to pay for -/
theorem hits {F : List Dem} (fam : Fam F) {k : Nat} (hk : ∀ I, Ind I → (∀ d ∈ I, d ∈ F) → I.length ≤ k + 1) : ∃ z, ∀ I, Ind I → (∀ d ∈ I, d ∈ F) → I.length = k + 1 → ∃ d ∈ I, sv z d = true := by
  refine Classical.byContradiction fun no => ?_
  have miss : ∀ z, ∃ I, Ind I ∧ (∀ d ∈ I, d ∈ F) ∧ I.length = k + 1 ∧ ∀ d ∈ I, sv z d = false := fun z => by
    refine Classical.byContradiction fun h => no ⟨z, fun I i1 i2 i3 => Classical.byContradiction fun n => h ⟨I, i1, i2, i3, fun d hd => ?_⟩⟩
    rw [← Bool.not_eq_true]
    exact fun s => n ⟨d, hd, s⟩
  obtain ⟨I, hI⟩ := Classical.axiomOfChoice miss
  obtain ⟨M, hM⟩ := top_of F
  have hsub : ∀ d ∈ (box M).flatMap I, d ∈ F := fun d hd => by
    obtain ⟨w, _, h⟩ := List.mem_flatMap.mp hd
    exact (hI w).2.1 d h
  have hlen := len_flat I (k := k + 1) (box M) fun w _ => (hI w).2.2.1
  have pos : 0 < (box M).length := List.length_pos_of_mem (mem_box (M := M) (z := (0, 0)) ⟨by decide, by show (0 : Int) ≤ M; omega⟩ ⟨by decide, by show (0 : Int) ≤ M; omega⟩)
  have hc : ∀ z, cov ((box M).flatMap I) z ≤ (box M).length - 1 := fun z => by
    by_cases b : (0 ≤ z.1 ∧ z.1 ≤ M) ∧ 0 ≤ z.2 ∧ z.2 ≤ M
    · have s := sum_lt (f := fun w => cov (I w) z) (mem_box b.1 b.2) (fun x _ => (hI x).1.cov_le z) (List.countP_eq_zero.mpr fun d hd c => by
        rw [(hI z).2.2.2 d hd] at c
        cases c)
      rw [cov_flat]
      omega
    · have : cov ((box M).flatMap I) z = 0 := List.countP_eq_zero.mpr fun d hd c => b (by
        have c := sv_iff'.mp c
        have o := fam.ok d (hsub d hd)
        have t := hM d (hsub d hd)
        unfold Vd at o
        omega)
      omega
  obtain ⟨N, n1, n2, n3, n4⟩ := uncross fam _ _ hsub (Nat.lt_succ_self _)
  have := len_le fam hk ((box M).length - 1) N n1 n4 fun z => Nat.le_trans (n3 z) (hc z)
  rw [n2, hlen] at this
  obtain ⟨b, eb⟩ : ∃ b, (box M).length = b + 1 := ⟨(box M).length - 1, by omega⟩
  rw [eb, Nat.add_sub_cancel, Nat.add_mul, Nat.one_mul] at this
  omega
theorem Fam.rest {F : List Dem} (fam : Fam F) (z : Int × Int) : Fam (F.filter fun d => !sv z d) := by
  have hs : ∀ d, d ∈ F.filter (fun d => !sv z d) → d ∈ F ∧ sv z d = false := fun d hd => by
    have := List.mem_filter.mp hd
    exact ⟨this.1, by rw [← Bool.not_eq_true']; exact this.2⟩
  refine ⟨fun d hd => fam.ok d (hs d hd).1, fun d hd e he h1 h2 h3 c => ?_, fun d hd e he c => fam.cross d (hs d hd).1 e (hs e he).1 c⟩
  have x := fam.ex d (hs d hd).1 e (hs e he).1 h1 h2 h3 c
  have y := sv_exch (z := z) h1 h2 h3 c
  rw [(hs d hd).2, (hs e he).2] at y
  simp at y
  exact ⟨List.mem_filter.mpr ⟨x.1, by rw [y.1]; rfl⟩, List.mem_filter.mpr ⟨x.2, by rw [y.2]; rfl⟩⟩
/-- as many points as the largest selection has serve all -/
theorem min_max : ∀ (k : Nat) {F : List Dem}, Fam F → (∀ I, Ind I → (∀ d ∈ I, d ∈ F) → I.length ≤ k) → ∃ S : List (Int × Int), S.length ≤ k ∧ ∀ d ∈ F, ∃ z ∈ S, sv z d = true
  | 0, F, fam, hk => ⟨[], Nat.le_refl _, fun d hd => by
    have := hk [d] (List.pairwise_singleton _ _) fun e he => by
      rw [List.mem_singleton.mp he]
      exact hd
    exact absurd this (by simp)⟩
  | k + 1, F, fam, hk => by
    obtain ⟨z, hz⟩ := hits fam hk
    obtain ⟨S, s1, s2⟩ := min_max k (fam.rest z) fun I i1 i2 => by
      have sub : ∀ d ∈ I, d ∈ F ∧ sv z d = false := fun d hd => by
        have := List.mem_filter.mp (i2 d hd)
        exact ⟨this.1, by rw [← Bool.not_eq_true']; exact this.2⟩
      have le := hk I i1 fun d hd => (sub d hd).1
      by_cases e : I.length = k + 1
      · obtain ⟨d, hd, s⟩ := hz I i1 (fun d hd => (sub d hd).1) e
        rw [(sub d hd).2] at s
        cases s
      · omega
    refine ⟨z :: S, by rw [List.length_cons]; omega, fun d hd => ?_⟩
    by_cases s : sv z d = true
    · exact ⟨z, List.mem_cons_self, s⟩
    · obtain ⟨w, hw, q⟩ := s2 d (List.mem_filter.mpr ⟨hd, by rw [Bool.not_eq_true] at s; rw [s]; rfl⟩)
      exact ⟨w, List.mem_cons_of_mem _ hw, q⟩

def topS (i : Nat) : Stmt := PySem.Challenge.pw_fewspans_k28_widen.main.body.getD i (.Pass ⟨0, 0, 0, 0⟩)
abbrev s_contains : Stmt := topS 1
abbrev N_contains : List Str := ["outer", "inner"]
theorem sc_contains : FnScope N_contains ["outer", "inner"] (defScope s_contains) := ⟨rfl, rfl, rfl, by decide +kernel, rfl, by decide +kernel, by decide +kernel⟩
abbrev s_intersect : Stmt := topS 2
abbrev N_intersect : List Str := ["first", "second", "low", "high"]
theorem sc_intersect : FnScope N_intersect ["first", "second"] (defScope s_intersect) := ⟨rfl, rfl, rfl, by decide +kernel, rfl, by decide +kernel, by decide +kernel⟩
abbrev s_pieces_inside : Stmt := topS 4
abbrev N_pieces_inside : List Str := ["pieces", "target", "piece"]
theorem sc_pieces_inside : FnScope N_pieces_inside ["pieces", "target"] (defScope s_pieces_inside) := ⟨rfl, rfl, rfl, by decide +kernel, rfl, by decide +kernel, by decide +kernel⟩
abbrev s_first_gap : Stmt := topS 5
abbrev N_first_gap : List Str := ["pieces", "target", "position", "last", "low", "high"]
theorem sc_first_gap : FnScope N_first_gap ["pieces", "target"] (defScope s_first_gap) := ⟨rfl, rfl, rfl, by decide +kernel, rfl, by decide +kernel, by decide +kernel⟩
abbrev s_generates : Stmt := topS 6
abbrev N_generates : List Str := ["pieces", "target"]
theorem sc_generates : FnScope N_generates ["pieces", "target"] (defScope s_generates) := ⟨rfl, rfl, rfl, by decide +kernel, rfl, by decide +kernel, by decide +kernel⟩
abbrev s_has_open_demand : Stmt := topS 8
abbrev N_has_open_demand : List Str := ["target", "pieces", "interval", "parts", "piece", "part"]
theorem sc_has_open_demand : FnScope N_has_open_demand ["target", "pieces", "interval"] (defScope s_has_open_demand) := ⟨rfl, rfl, rfl, by decide +kernel, rfl, by decide +kernel, by decide +kernel⟩
abbrev s_widen : Stmt := topS 9
abbrev N_widen : List Str := ["targets", "pieces", "interval", "served", "target", "low", "high"]
theorem sc_widen : FnScope N_widen ["targets", "pieces", "interval"] (defScope s_widen) := ⟨rfl, rfl, rfl, by decide +kernel, rfl, by decide +kernel, by decide +kernel⟩
abbrev s_law_draws : Stmt := topS 11
abbrev N_law_draws : List Str := ["_law_script", "_law_cells", "_law_cell"]
theorem sc_law_draws : FnScope N_law_draws ["_law_script"] (defScope s_law_draws) := ⟨rfl, rfl, rfl, by decide +kernel, rfl, by decide +kernel, by decide +kernel⟩
abbrev s_law_next : Stmt := topS 12
abbrev N_law_next : List Str := ["_law_state", "_law_many", "_law_cells", "_law_count", "_law_rests", "_law_index", "_law_digit", "_law_mixed"]
theorem sc_law_next : FnScope N_law_next ["_law_state", "_law_many"] (defScope s_law_next) := ⟨rfl, rfl, rfl, by decide +kernel, rfl, by decide +kernel, by decide +kernel⟩
abbrev s_law_spans : Stmt := topS 14
abbrev N_law_spans : List Str := ["_law_state", "_law_width", "_law_many", "_law_found", "_law_k", "_law_low"]
theorem sc_law_spans : FnScope N_law_spans ["_law_state", "_law_width", "_law_many"] (defScope s_law_spans) := ⟨rfl, rfl, rfl, by decide +kernel, rfl, by decide +kernel, by decide +kernel⟩
abbrev s_law_targets : Stmt := topS 15
abbrev N_law_targets : List Str := ["_law_state", "_law_width", "_law_most", "_law_kind", "_law_size", "_law_found", "_law_low", "_law_high"]
theorem sc_law_targets : FnScope N_law_targets ["_law_state", "_law_width", "_law_most"] (defScope s_law_targets) := ⟨rfl, rfl, rfl, by decide +kernel, rfl, by decide +kernel, by decide +kernel⟩
abbrev s_law_scaled : Stmt := topS 16
abbrev N_law_scaled : List Str := ["_law_intervals", "_law_far", "_law_base", "_law_low", "_law_high"]
theorem sc_law_scaled : FnScope N_law_scaled ["_law_intervals", "_law_far", "_law_base"] (defScope s_law_scaled) := ⟨rfl, rfl, rfl, by decide +kernel, rfl, by decide +kernel, by decide +kernel⟩
abbrev s_law_served : Stmt := topS 17
abbrev N_law_served : List Str := ["_law_piece", "_law_demand", "_law_place", "_law_target"]
theorem sc_law_served : FnScope N_law_served ["_law_piece", "_law_demand"] (defScope s_law_served) := ⟨rfl, rfl, rfl, by decide +kernel, rfl, by decide +kernel, by decide +kernel⟩
abbrev s_law_demands : Stmt := topS 18
abbrev N_law_demands : List Str := ["_law_width", "_law_targets_here", "_law_pieces", "_law_interval", "_law_found", "_law_place", "_law_target", "_law_demand", "_law_is_open", "_law_one_here"]
theorem sc_law_demands : FnScope N_law_demands ["_law_width", "_law_targets_here", "_law_pieces", "_law_interval"] (defScope s_law_demands) := ⟨rfl, rfl, rfl, by decide +kernel, rfl, by decide +kernel, by decide +kernel⟩
abbrev s_law_due : Stmt := topS 19
abbrev N_law_due : List Str := ["_law_demands_here", "_law_interval", "_law_place", "_law_target"]
theorem sc_law_due : FnScope N_law_due ["_law_demands_here", "_law_interval"] (defScope s_law_due) := ⟨rfl, rfl, rfl, by decide +kernel, rfl, by decide +kernel, by decide +kernel⟩
abbrev s_law : Stmt := topS 20
abbrev N_law : List Str := ["_law_script", "_law_state", "_law_turn", "_law_width", "_law_targets_here", "_law_pieces", "_law_far", "_law_base", "_law_interval", "_law_demands_here", "_law_due_here", "_law_wide", "_law_some", "_law_demand"]
theorem sc_law : FnScope N_law ["_law_script"] (defScope s_law) := ⟨rfl, rfl, rfl, by decide +kernel, rfl, by decide +kernel, by decide +kernel⟩
/-! ### the deck of three: the cells, how many draws, the rests of large cells -/
structure Dk (H : Hp) (d : Addr) (c : Addr × Addr) (n : Int) : Prop where
  ex : ∃ (xs ys : List Int), H d = some (.lst [.ref c.2, .int n, .ref c.1]) ∧ H c.2 = some (.lst (xs.map V.int)) ∧ H c.1 = some (.lst (ys.map V.int)) ∧ c.2 ≠ c.1 ∧ 0 < xs.length ∧ xs.length ≤ 64 ∧ ys.length = xs.length ∧ ∀ y ∈ ys, 0 ≤ y
theorem ints_ne {H : Hp} {d c e : Addr} {n : Int} {ys : List Int} (h1 : H d = some (.lst [.ref e, .int n, .ref c])) (h3 : H c = some (.lst (ys.map V.int))) : c ≠ d := by
  intro z
  subst z
  have q := h3.symm.trans h1
  match ys, q with
  | [], q => cases q
  | y :: r, q => cases q
def Kp (d : Addr) (c : Addr × Addr) (H H' : Hp) : Prop := ∀ b o, b ≠ d → b ≠ c.1 → H b = some o → H' b = some o
theorem Kp.trans {d : Addr} {c : Addr × Addr} {H H1 H2 : Hp} (h1 : Kp d c H H1) (h2 : Kp d c H1 H2) : Kp d c H H2 := fun b o n1 n2 e => h2 b o n1 n2 (h1 b o n1 n2 e)
theorem Kp.same {d : Addr} {c : Addr × Addr} {H H1 : Hp} (h : Same H H1) : Kp d c H H1 := fun b o _ _ e => h b o e
theorem Dk.two {H : Hp} {d : Addr} {c : Addr × Addr} {n : Int} (h : Dk H d c n) : (∃ us, H d = some (.lst us)) ∧ (∃ us, H c.1 = some (.lst us)) ∧ ∃ us, H c.2 = some (.lst us) := by
  obtain ⟨xs, ys, h1, h2, h3, _⟩ := h.ex
  exact ⟨⟨_, h1⟩, ⟨_, h3⟩, _, h2⟩
theorem Kp.none {d : Addr} {c : Addr × Addr} {H H' : Hp} (k : Kp d c H H') {n m : Int} (h : Dk H d c n) (h' : Dk H' d c m) {t : Addr} (e : H' t = none) : H t = none := by
  obtain ⟨⟨u1, e1⟩, ⟨u2, e2⟩, _⟩ := h'.two
  by_cases c1 : t = d
  · rw [c1, e1] at e
    cases e
  · by_cases c2 : t = c.1
    · rw [c2, e2] at e
      cases e
    · cases q : H t with
      | none => rfl
      | some o =>
        rw [k t o c1 c2 q] at e
        cases e
theorem Dk.kept {H H' : Hp} {d : Addr} {c : Addr × Addr} {n : Int} (h : Dk H d c n) (s : Same H H') : Dk H' d c n :=
  let ⟨xs, ys, h1, h2, h3, r⟩ := h.ex
  ⟨xs, ys, s _ _ h1, s _ _ h2, s _ _ h3, r⟩
theorem Dk.eq {H : Hp} {d : Addr} {c : Addr × Addr} {n m : Int} (h : Dk H d c n) (e : n = m) : Dk H d c m := e ▸ h
theorem same_new {H : Hp} {p : Addr} {o : HO} (h : H p = none) : Same H (upd H p o) := fun b x e => by
  rw [upd_ne (ne_of_none e h)]
  exact e
theorem cutTo (xs : List V) (j : Nat) : cutV xs none (some (j : Int)) = xs.take j := by
  unfold cutV
  rw [HT.sIx_none, show HT.sIx xs.length xs.length (some (j : Int)) = min j xs.length from HT.sIx_nat xs.length xs.length j]
  rw [Nat.sub_zero, List.drop_zero]
  rcases Nat.le_total j xs.length with h | h
  · rw [Nat.min_eq_left h]
  · rw [Nat.min_eq_right h, List.take_length, List.take_of_length_le h]
/-- p is no part of the deck -/
abbrev Off (d : Addr) (c : Addr × Addr) (p : Addr) : Prop := p ≠ d ∧ p ≠ c.1 ∧ p ≠ c.2
theorem Kp.keep {d : Addr} {c : Addr × Addr} {H H' : Hp} (k : Kp d c H H') {a : Addr} {o : HO} (n1 : Off d c a) (h : H a = some o) : H' a = some o := k a o n1.1 n1.2.1 h
theorem Kp.tup {d : Addr} {c : Addr × Addr} {n : Int} {H H' : Hp} (k : Kp d c H H') (dk : Dk H d c n) {a : Addr} {xs : List V} (h : H a = some (.tup xs)) : H' a = some (.tup xs) := by
  obtain ⟨⟨u1, e1⟩, ⟨u2, e2⟩, _⟩ := dk.two
  exact k a _ (ne_of h e1 (fun z => by cases z)) (ne_of h e2 (fun z => by cases z)) h
theorem Dk.off {H : Hp} {d : Addr} {c : Addr × Addr} {n : Int} (h : Dk H d c n) {p : Addr} (e : H p = none) : Off d c p := by
  obtain ⟨⟨u1, e1⟩, ⟨u2, e2⟩, u3, e3⟩ := h.two
  exact ⟨(ne_of_none e1 e).symm, (ne_of_none e2 e).symm, (ne_of_none e3 e).symm⟩
theorem Dk.upd {H : Hp} {d : Addr} {c : Addr × Addr} {n : Int} (h : Dk H d c n) {p : Addr} {o : HO} (off : Off d c p) : Dk (upd H p o) d c n := by
  obtain ⟨xs, ys, h1, h2, h3, r⟩ := h.ex
  exact ⟨xs, ys, by rw [upd_ne off.1.symm]; exact h1, by rw [upd_ne off.2.2.symm]; exact h2, by rw [upd_ne off.2.1.symm]; exact h3, r⟩
def mxI (i j : Int) : Int := if j > i then j else i
def mnI (i j : Int) : Int := if j < i then j else i
def sp_law_draws (K : PySem.W.Frag) : Sp := fun vs H Q _ => ∃ (a : Addr) (ns : List Int), vs = [.ref a] ∧ SqL K H a (ns.map V.int) ∧ ns.length ≤ 63 ∧
  ∀ H' d c, Same H H' → H d = none → Dk H' d c 0 → Q (.ref d) H'
def sp_law_next : Sp := fun vs H Q _ => ∃ (d : Addr) (c : Addr × Addr) (n lim : Int), vs = [.ref d, .int lim] ∧ Dk H d c n ∧ 0 ≤ n ∧ n < 1000000 ∧ 0 < lim ∧ lim < 2 ^ 63 ∧
  ∀ H' r, Kp d c H H' → Dk H' d c (n + 1) → 0 ≤ r → r < lim → Q (.int r) H'
section
structure Tx (K : PySem.W.Frag) (mg : Str → Option Value) (f_contains f_intersect f_pieces_inside f_first_gap f_generates f_has_open_demand f_widen f_law_draws f_law_next f_law_spans f_law_targets f_law_scaled f_law_served f_law_demands f_law_due f_law : Addr) (d_contains d_intersect d_pieces_inside d_first_gap d_generates d_has_open_demand d_widen d_law_draws d_law_next d_law_spans d_law_targets d_law_scaled d_law_served d_law_demands d_law_due d_law : FuncData) : Prop where
  F_contains : Fun K "contains" "contains" s_contains f_contains d_contains
  b_contains : Binds K d_contains ["outer", "inner"] []
  g_contains : mg "contains" = some (.ref f_contains)
  F_intersect : Fun K "intersect" "intersect" s_intersect f_intersect d_intersect
  b_intersect : Binds K d_intersect ["first", "second"] []
  g_intersect : mg "intersect" = some (.ref f_intersect)
  F_pieces_inside : Fun K "pieces_inside" "pieces_inside" s_pieces_inside f_pieces_inside d_pieces_inside
  b_pieces_inside : Binds K d_pieces_inside ["pieces", "target"] []
  g_pieces_inside : mg "pieces_inside" = some (.ref f_pieces_inside)
  F_first_gap : Fun K "first_gap" "first_gap" s_first_gap f_first_gap d_first_gap
  b_first_gap : Binds K d_first_gap ["pieces", "target"] []
  g_first_gap : mg "first_gap" = some (.ref f_first_gap)
  F_generates : Fun K "generates" "generates" s_generates f_generates d_generates
  b_generates : Binds K d_generates ["pieces", "target"] []
  g_generates : mg "generates" = some (.ref f_generates)
  F_has_open_demand : Fun K "has_open_demand" "has_open_demand" s_has_open_demand f_has_open_demand d_has_open_demand
  b_has_open_demand : Binds K d_has_open_demand ["target", "pieces", "interval"] []
  g_has_open_demand : mg "has_open_demand" = some (.ref f_has_open_demand)
  F_widen : Fun K "widen" "widen" s_widen f_widen d_widen
  b_widen : Binds K d_widen ["targets", "pieces", "interval"] []
  g_widen : mg "widen" = some (.ref f_widen)
  F_law_draws : Fun K "_law_draws" "_law_draws" s_law_draws f_law_draws d_law_draws
  b_law_draws : Binds K d_law_draws ["_law_script"] []
  g_law_draws : mg "_law_draws" = some (.ref f_law_draws)
  F_law_next : Fun K "_law_next" "_law_next" s_law_next f_law_next d_law_next
  b_law_next : Binds K d_law_next ["_law_state", "_law_many"] []
  g_law_next : mg "_law_next" = some (.ref f_law_next)
  F_law_spans : Fun K "_law_spans" "_law_spans" s_law_spans f_law_spans d_law_spans
  b_law_spans : Binds K d_law_spans ["_law_state", "_law_width", "_law_many"] []
  g_law_spans : mg "_law_spans" = some (.ref f_law_spans)
  F_law_targets : Fun K "_law_targets" "_law_targets" s_law_targets f_law_targets d_law_targets
  b_law_targets : Binds K d_law_targets ["_law_state", "_law_width", "_law_most"] []
  g_law_targets : mg "_law_targets" = some (.ref f_law_targets)
  F_law_scaled : Fun K "_law_scaled" "_law_scaled" s_law_scaled f_law_scaled d_law_scaled
  b_law_scaled : Binds K d_law_scaled ["_law_intervals", "_law_far", "_law_base"] []
  g_law_scaled : mg "_law_scaled" = some (.ref f_law_scaled)
  F_law_served : Fun K "_law_served" "_law_served" s_law_served f_law_served d_law_served
  b_law_served : Binds K d_law_served ["_law_piece", "_law_demand"] []
  g_law_served : mg "_law_served" = some (.ref f_law_served)
  F_law_demands : Fun K "_law_demands" "_law_demands" s_law_demands f_law_demands d_law_demands
  b_law_demands : Binds K d_law_demands ["_law_width", "_law_targets_here", "_law_pieces", "_law_interval"] []
  g_law_demands : mg "_law_demands" = some (.ref f_law_demands)
  F_law_due : Fun K "_law_due" "_law_due" s_law_due f_law_due d_law_due
  b_law_due : Binds K d_law_due ["_law_demands_here", "_law_interval"] []
  g_law_due : mg "_law_due" = some (.ref f_law_due)
  F_law : Fun K "law" "law" s_law f_law d_law
  b_law : Binds K d_law ["_law_script"] []
  g_law : mg "law" = some (.ref f_law)
  z_abs : mg "abs" = none
  z_int : mg "int" = none
  z_len : mg "len" = none
  z_max : mg "max" = none
  z_min : mg "min" = none
  z_range : mg "range" = none
  z_repr : mg "repr" = none
  z_set : mg "set" = none
  z_sorted : mg "sorted" = none
  z_tuple : mg "tuple" = none
variable {P : Program} {w : World} {K : PySem.W.Frag} {mg : Str → Option Value} {base : Heap} {f_contains f_intersect f_pieces_inside f_first_gap f_generates f_has_open_demand f_widen f_law_draws f_law_next f_law_spans f_law_targets f_law_scaled f_law_served f_law_demands f_law_due f_law : Addr} {d_contains d_intersect d_pieces_inside d_first_gap d_generates d_has_open_demand d_widen d_law_draws d_law_next d_law_spans d_law_targets d_law_scaled d_law_served d_law_demands d_law_due d_law : FuncData}
abbrev TxA (K : PySem.W.Frag) (mg : Str → Option Value) (f_contains f_intersect f_pieces_inside f_first_gap f_generates f_has_open_demand f_widen f_law_draws f_law_next f_law_spans f_law_targets f_law_scaled f_law_served f_law_demands f_law_due f_law : Addr) (d_contains d_intersect d_pieces_inside d_first_gap d_generates d_has_open_demand d_widen d_law_draws d_law_next d_law_spans d_law_targets d_law_scaled d_law_served d_law_demands d_law_due d_law : FuncData) := Tx K mg f_contains f_intersect f_pieces_inside f_first_gap f_generates f_has_open_demand f_widen f_law_draws f_law_next f_law_spans f_law_targets f_law_scaled f_law_served f_law_demands f_law_due f_law d_contains d_intersect d_pieces_inside d_first_gap d_generates d_has_open_demand d_widen d_law_draws d_law_next d_law_spans d_law_targets d_law_scaled d_law_served d_law_demands d_law_due d_law 
theorem ok_law_draws (T : Tx K mg f_contains f_intersect f_pieces_inside f_first_gap f_generates f_has_open_demand f_widen f_law_draws f_law_next f_law_spans f_law_targets f_law_scaled f_law_served f_law_demands f_law_due f_law d_contains d_intersect d_pieces_inside d_first_gap d_generates d_has_open_demand d_widen d_law_draws d_law_next d_law_spans d_law_targets d_law_scaled d_law_served d_law_demands d_law_due d_law) : FnOk P w K mg base CX0 1 f_law_draws d_law_draws ["_law_script"] (sp_law_draws K) := by
  refine T.F_law_draws.ok sc_law_draws (fun vs H Q E h => ?_) (fun cdv A outer s H vs Q E hr h => ?_)
  · obtain ⟨a, ns0, rfl, _⟩ := h
    rfl
  · obtain ⟨a, ns0, rfl, hS, hlen, q⟩ := h
    refine ⟨_, (pss_cons (ps_set (i := 1) sc_law_draws.nd rfl (Or.inl rfl) (pe_op op_cat (pe_lc (own := [("_law_cell", 2)]) (g := (gName 2)) (tt := tYes) (by rfl) sc_law_draws.nd (pi_list (pe_slice sl_list (pv 0) po_none (po_some pe_int))) (blkOk_by (own := [("_law_cell", 2)]) (N := N_law_draws) (sc := defScope s_law_draws) (by decide +kernel)) (fun _ _ _ _ _ => (pg_name (i := 2) sc_law_draws.nd rfl (Or.inl rfl))) (fun _ _ _ _ _ => pts_nil) (fun _ _ _ _ _ => (pe_callB call_abs (by rfl) T.z_abs (by decide +kernel) (pa_cons (pv 2) pa_nil)))) (pe_op op_rep (pe_lst (pa_cons pe_int pa_nil)) (pe_callTy call_int1 (by rfl) T.z_int (by decide +kernel) (pa_cons (pe_cmpR op_eq (pe_callB call_len_seq (by rfl) T.z_len PySem.boot_len (pa_cons (pv 0) pa_nil)) pe_int (nomark _)) pa_nil)))))
      (pss_one (ps_ret (pe_lst (pa_cons (pv 1) (pa_cons pe_int (pa_cons (pe_lc (own := [("_law_cell", 2)]) (g := (gName 2)) (tt := tYes) (by rfl) sc_law_draws.nd (pi_list (pv 1)) (blkOk_by (own := [("_law_cell", 2)]) (N := N_law_draws) (sc := defScope s_law_draws) (by decide +kernel)) (fun _ _ _ _ _ => (pg_name (i := 2) sc_law_draws.nd rfl (Or.inl rfl))) (fun _ _ _ _ _ => pts_nil) (fun _ _ _ _ _ => (pe_op op_mul (pv 2) (pe_callTy call_int1 (by rfl) T.z_int (by decide +kernel) (pa_cons (pe_cmpR op_ge (pv 2) (pe_op op_pow pe_int pe_int) (nomark _)) pa_nil))))) pa_nil))))))), ?_⟩
    refine ⟨.ref a, rfl, 63, rfl, a, ns0.map V.int, rfl, hS, fun p np => ?_⟩
    rw [show cutV (ns0.map V.int) none (some 63) = (ns0.take 63).map V.int by rw [List.map_take]; exact cutTo _ 63]
    have tk : ns0.take 63 = ns0 := List.take_of_length_le hlen
    rw [tk]
    have s1 := same_new (o := .lst (ns0.map V.int)) np
    have e1 := upd_same (H := H) (a := p) (o := .lst (ns0.map V.int))
    generalize upd H p (.lst (ns0.map V.int)) = H1 at *
    have hS1 := s1.seq hS
    refine ⟨p, rfl, ⟨_, SqL.of e1⟩, fun D nD => ?_⟩
    refine lc_list (K := K) (a := p) (xs := ns0.map V.int) (fun i H' => Same H1 H' ∧ H' D = some (.lst (((ns0.take i).map fun (x : Int) => if x < 0 then -x else x).map V.int))) ⟨same_new nD, upd_same⟩ (fun i H' _ h => SqL.of (h.1 _ _ e1)) ?_ ?_
    · rintro i x H' hi ⟨sm, eD⟩
      rw [List.getElem?_map] at hi
      obtain ⟨n, en, rfl⟩ := Option.map_eq_some_iff.mp hi
      refine ⟨rfl, .int n, rfl, n, rfl, _, eD, ?_, ?_, ?_⟩
      · have : (List.take i ns0).length ≤ ns0.length := List.length_take_le' i ns0
        simp only [List.length_map]
        exact small1000 (by omega)
      · intro b o e
        rw [upd_ne (ne_of_none e nD)]
        exact sm b o e
      · rw [upd_same, List.take_add_one, en]
        simp
    rintro H2 ⟨s2, eD⟩
    rw [List.length_map, List.take_length] at eD
    have s12 := s1.trans s2
    refine ⟨by show 1 ≤ sizeLine; decide, fun z nz => ?_⟩
    have s3 := same_new (o := .lst [.int 0]) nz
    have ez := upd_same (H := H2) (a := z) (o := .lst [.int 0])
    generalize upd H2 z (.lst [.int 0]) = H3 at *
    have s13 := s12.trans s3
    refine ⟨.ref a, rfl, a, _, rfl, .inl (s13.seq hS), rfl, .inr ⟨_, rfl, ?_⟩⟩
    obtain ⟨k, ek⟩ : ∃ k : Int, k = (if decide (V.int ((ns0.map V.int).length : Int) = V.int 0) = true then 1 else 0) := ⟨_, rfl⟩
    have ek2 : (k = 1 ∧ ns0.length = 0) ∨ (k = 0 ∧ 0 < ns0.length) := by
      rw [List.length_map] at ek
      by_cases c : ns0.length = 0
      · rw [if_pos (decide_eq_true (by rw [c]; rfl))] at ek
        exact .inl ⟨ek, c⟩
      · rw [if_neg (fun z => c (by have := of_decide_eq_true z; injection this with this; omega))] at ek
        exact .inr ⟨ek, by omega⟩
    rw [← ek]
    refine ⟨z, k, _, rfl, rfl, ez, by omega, by omega, by rw [show sizeLine = 16777216 by decide]; show 1 * _ ≤ _; omega, fun zz nzz => ?_⟩
    have s4 := same_new (o := .lst (List.replicate k.toNat [V.int 0]).flatten) nzz
    have ezz := upd_same (H := H3) (a := zz) (o := .lst (List.replicate k.toNat [V.int 0]).flatten)
    generalize upd H3 zz (.lst (List.replicate k.toNat [V.int 0]).flatten) = H4 at *
    obtain ⟨cs, ecs⟩ : ∃ cs : List Int, cs = ((ns0.map fun (x : Int) => if x < 0 then -x else x) ++ List.replicate k.toNat 0) := ⟨_, rfl⟩
    have elst : (ns0.map fun (x : Int) => if x < 0 then -x else x).map V.int ++ (List.replicate k.toNat [V.int 0]).flatten = cs.map V.int := by
      rw [ecs, List.map_append, List.map_replicate]
      rcases ek2 with ⟨e, _⟩ | ⟨e, _⟩ <;> rw [e] <;> rfl
    have lcs : 0 < cs.length ∧ cs.length ≤ 64 := by
      rw [ecs, List.length_append, List.length_map, List.length_replicate]
      omega
    have pcs : ∀ x ∈ cs, 0 ≤ x := fun x hx => by
      rw [ecs] at hx
      rcases List.mem_append.mp hx with hx | hx
      · obtain ⟨y, _, rfl⟩ := List.mem_map.mp hx
        split <;> omega
      · rw [(List.mem_replicate.mp hx).2]
        exact Int.le_refl _
    have s34 := s3.trans s4
    refine ⟨D, zz, _, _, rfl, rfl, s34 _ _ eD, ezz, ?_, fun e ne => ?_⟩
    · have := congrArg List.length elst
      rw [List.length_append, List.length_map (f := V.int)] at this
      rw [show sizeLine = 16777216 by decide]
      simp only [List.length_map] at *
      omega
    rw [elst]
    have s5 := same_new (o := .lst (cs.map V.int)) ne
    have ee := upd_same (H := H4) (a := e) (o := .lst (cs.map V.int))
    generalize upd H4 e (.lst (cs.map V.int)) = H5 at *
    have s05 := s12.trans (s34.trans s5)
    refine ⟨.ref e, rfl, .ref e, rfl, e, rfl, ⟨_, SqL.of ee⟩, fun c nc => ?_⟩
    refine lc_list (K := K) (a := e) (xs := cs.map V.int) (fun i H' => Same H5 H' ∧ ∃ ys : List Int, H' c = some (.lst (ys.map V.int)) ∧ ys.length = i ∧ ∀ y ∈ ys, 0 ≤ y) ⟨same_new nc, [], upd_same, rfl, fun y hy => nomatch hy⟩ (fun i H' _ h => SqL.of (h.1 _ _ ee)) ?_ ?_
    · rintro i x H' hi ⟨sm, ys, eC, ly, py⟩
      have il := (List.getElem?_eq_some_iff.mp hi).1
      rw [List.getElem?_map] at hi
      obtain ⟨n, en, rfl⟩ := Option.map_eq_some_iff.mp hi
      have pn := pcs n (List.mem_of_getElem? en)
      rw [List.length_map] at il
      refine ⟨rfl, .int n, rfl, .int n, rfl, 10, 18, rfl, rfl, ⟨by decide, by decide, by decide⟩, _, _, rfl, rfl, .inr ⟨_, rfl, ?_⟩⟩
      obtain ⟨k2, ek3, h0, h1⟩ : ∃ k2 : Int, (if decide ((10 : Int) ^ (18 : Int).toNat ≤ n) = true then 1 else 0) = k2 ∧ 0 ≤ k2 ∧ k2 ≤ 1 := ⟨_, rfl, by split <;> decide, by split <;> decide⟩
      rw [ek3]
      refine ⟨_, _, rfl, rfl, .inr ⟨by omega, by omega⟩, ys.map V.int, eC, by rw [List.length_map]; exact small1000 (by omega), (fun b u e => by rw [upd_ne (ne_of_none e nc)]; exact sm b u e), ys ++ [n * k2], ?_, by rw [List.length_append, ly]; rfl, fun y hy => ?_⟩
      · rw [upd_same, List.map_append]
        rfl
      · rcases List.mem_append.mp hy with hy | hy
        · exact py y hy
        · rw [List.mem_singleton.mp hy]
          exact Int.mul_nonneg pn h0
    rintro H6 ⟨s6, ys, eC, ly, py⟩
    rw [List.length_map] at ly
    refine ⟨by show 3 ≤ sizeLine; decide, fun d nd => ?_⟩
    have s7 := same_new (o := .lst [.ref e, .int 0, .ref c]) nd
    have s07 := s05.trans (s6.trans s7)
    refine q _ d (c, e) s07 ((s05.trans s6).free nd) ⟨cs, ys, upd_same, s7 _ _ (s6 _ _ ee), s7 _ _ eC, ne_of_none ee nc, lcs.1, lcs.2, ly, py⟩
theorem ok_law_next (T : Tx K mg f_contains f_intersect f_pieces_inside f_first_gap f_generates f_has_open_demand f_widen f_law_draws f_law_next f_law_spans f_law_targets f_law_scaled f_law_served f_law_demands f_law_due f_law d_contains d_intersect d_pieces_inside d_first_gap d_generates d_has_open_demand d_widen d_law_draws d_law_next d_law_spans d_law_targets d_law_scaled d_law_served d_law_demands d_law_due d_law) : FnOk P w K mg base CX0 1 f_law_next d_law_next ["_law_state", "_law_many"] sp_law_next := by
  refine T.F_law_next.ok sc_law_next (fun vs H Q E h => ?_) (fun cdv A outer s H vs Q E hr h => ?_)
  · obtain ⟨d, c, n, lim, rfl, _⟩ := h
    rfl
  · obtain ⟨d, c, n, lim, rfl, dk, n0, n1, l0, l1, q⟩ := h
    refine ⟨_, (pss_cons (ps_asg (pv 0) (pg_unl rfl (pgs_cons (pg_name (i := 2) sc_law_next.nd rfl (Or.inl rfl)) (pgs_cons (pg_name (i := 3) sc_law_next.nd rfl (Or.inl rfl)) (pgs_cons (pg_name (i := 4) sc_law_next.nd rfl (Or.inl rfl)) pgs_nil)))))
      (pss_cons (ps_set (i := 5) sc_law_next.nd rfl (Or.inl rfl) (pe_op op_mod (pv 3) (pe_callB call_len_seq (by rfl) T.z_len PySem.boot_len (pa_cons (pv 2) pa_nil))))
      (pss_cons (ps_asg (pe_op op_add (pv 3) pe_int) (pg_sub (pv 0) pe_int set_list))
      (pss_cons (ps_if (pt_cmpR op_gt (pe_ix ix_list (pv 4) (pv 5) (fun _ _ => rfl)) pe_int (nomark _))
      (pss_cons (ps_set (i := 6) sc_law_next.nd rfl (Or.inl rfl) (pe_op op_mod (pe_ix ix_list (pv 4) (pv 5) (fun _ _ => rfl)) (pv 1)))
      (pss_cons (ps_asg (pe_op op_fdivW (pe_ix ix_list (pv 4) (pv 5) (fun _ _ => rfl)) (pv 1)) (pg_sub (pv 4) (pv 5) set_list))
      (pss_one (ps_ret (pv 6)))))
      pss_nil)
      (pss_cons (ps_set (i := 7) sc_law_next.nd rfl (Or.inl rfl) (pe_op op_mod (pe_op op_pow (pe_op op_add (pe_op op_add (pe_op op_mod (pe_ix ix_list (pv 2) (pv 5) (fun _ _ => rfl)) pe_int) (pe_op op_mulW pe_int (pv 3))) pe_int) pe_int) pe_int))
      (pss_cons (ps_set (i := 7) sc_law_next.nd rfl (Or.inl rfl) (pe_op op_mod (pe_op op_pow (pe_op op_add (pe_op op_add (pv 7) (pe_op op_mulW (pe_op op_mulW pe_int (pv 3)) (pv 3))) pe_int) pe_int) pe_int))
      (pss_one (ps_ret (pe_op op_mod (pe_op op_fdivW (pe_op op_mod (pe_op op_mulW (pv 7) pe_int) pe_int) pe_int) (pv 1)))))))))), ?_⟩
    obtain ⟨xs, ys, h1, h2, h3, ec, x0, x64, ly, py⟩ := dk.ex
    have nd1 : c.1 ≠ d := ints_ne h1 h3
    have nd2 : c.2 ≠ d := fun z => by
      have q := (z ▸ h2).symm.trans h1
      match xs, q with
      | [], q => cases q
      | y :: r, q => cases q
    have n64 : n.natAbs < 2 ^ 64 := by omega
    have l64 : lim.natAbs < 2 ^ 64 := by omega
    refine ⟨.ref d, rfl, d, _, rfl, SqL.of h1, rfl, .ref c.2, _, rfl, .int n, _, rfl, .ref c.1, [], rfl, rfl, ?_⟩
    refine ⟨.int n, rfl, .ref c.2, rfl, c.2, _, rfl, .inl (SqL.of h2), _, _, rfl, rfl, by rw [List.length_map]; omega, ?_⟩
    rw [List.length_map]
    obtain ⟨j, ej, jl⟩ : ∃ j : Nat, n % (xs.length : Int) = j ∧ j < xs.length := ⟨(n % (xs.length : Int)).toNat, (Int.toNat_of_nonneg (Int.emod_nonneg _ (by omega))).symm, by
      have := Int.emod_lt_of_pos n (show (0 : Int) < xs.length by omega)
      have := Int.emod_nonneg n (show (xs.length : Int) ≠ 0 by omega)
      omega⟩
    show gName 5 (V.int (n % (xs.length : Int))) _ _ _
    rw [ej]
    have gx : (xs.map V.int)[j]? = some (.int xs[j]) := by rw [List.getElem?_map, List.getElem?_eq_getElem jl]; rfl
    have jl2 : j < ys.length := by omega
    have gy : (ys.map V.int)[j]? = some (.int ys[j]) := by rw [List.getElem?_map, List.getElem?_eq_getElem jl2]; rfl
    have yp := py _ (List.getElem_mem jl2)
    generalize ys[j] = y at *
    generalize xs[j] = x at *
    refine ⟨.int n, rfl, _, _, rfl, rfl, .ref d, rfl, d, _, 1, 1, rfl, rfl, h1, rfl, ?_⟩
    generalize eH : upd H d (.lst ([V.ref c.2, V.int n, V.ref c.1].set 1 (.int (n + 1)))) = H1
    have d1 : H1 d = some (.lst [.ref c.2, .int (n + 1), .ref c.1]) := by
      rw [← eH, upd_same]
      rfl
    have kp1 : Kp d c H H1 := fun b o nb _ e => by
      rw [← eH, upd_ne nb]
      exact e
    have a2 : H1 c.2 = some (.lst (xs.map V.int)) := by rw [← eH, upd_ne nd2]; exact h2
    have a3 : H1 c.1 = some (.lst (ys.map V.int)) := by rw [← eH, upd_ne nd1]; exact h3
    have dk1 : Dk H1 d c (n + 1) := ⟨xs, ys, d1, a2, a3, ec, x0, x64, ly, py⟩
    refine ⟨.ref c.1, rfl, .int j, rfl, c.1, _, _, .int y, rfl, rfl, SqL.of a3, atI_nat gy, _, _, rfl, rfl, _, rfl, ite2 (fun e => ?_) (fun e => ?_)⟩
    · refine ⟨.ref c.1, rfl, .int j, rfl, c.1, _, _, .int y, rfl, rfl, SqL.of a3, atI_nat gy, .int lim, rfl, _, _, rfl, rfl, l0, ?_⟩
      refine ⟨.ref c.1, rfl, .int j, rfl, c.1, _, _, .int y, rfl, rfl, SqL.of a3, atI_nat gy, .int lim, rfl, _, _, rfl, rfl, wide_div l0 l64 (by decide) (by decide), .ref c.1, rfl, .int j, rfl, c.1, _, _, j, rfl, rfl, a3, ?_, ?_⟩
      · unfold ixN
        rw [if_pos (by omega), if_pos (by rw [List.length_map]; omega)]
        rfl
      refine ⟨_, rfl, ?_⟩
      refine q _ _ (fun b o nb nc e => ?_) ⟨xs, ys.set j (y / lim), ?_, ?_, ?_, ec, x0, x64, by rw [List.length_set]; exact ly, fun z hz => ?_⟩ (Int.emod_nonneg _ (by omega)) (Int.emod_lt_of_pos _ l0)
      · rw [upd_ne nc]
        exact kp1 b o nb nc e
      · rw [upd_ne nd1.symm]
        exact d1
      · rw [upd_ne ec]
        exact a2
      · rw [upd_same, List.map_set]
      · rcases List.mem_or_eq_of_mem_set hz with hm | he
        · exact py z hm
        · rw [he]
          exact Int.ediv_nonneg yp (by omega)
    · refine ⟨.ref c.2, rfl, .int j, rfl, c.2, _, _, .int x, rfl, rfl, SqL.of a2, atI_nat gx, _, _, rfl, rfl, (by show (0 : Int) < 2147483629; decide), .int n, rfl, _, _, rfl, rfl, wide_mul (a := 17) (b := 64) (by decide) n64 (by decide) (by decide) (by decide), _, _, rfl, rfl, _, _, rfl, rfl, _, _, rfl, rfl, ⟨by decide, by decide, ?_⟩, _, _, rfl, rfl, (by show (0 : Int) < 2147483587; decide), ?_⟩
      · have a0 := Int.emod_nonneg x (show (2147483629 : Int) ≠ 0 by decide)
        have a1 := Int.emod_lt_of_pos x (show (0 : Int) < 2147483629 by decide)
        omega
      generalize (x % 2147483629 + 40009 * n + 6287) ^ (3 : Int).toNat = big
      have b0 := Int.emod_nonneg big (show (2147483587 : Int) ≠ 0 by decide)
      have b1 := Int.emod_lt_of_pos big (show (0 : Int) < 2147483587 by decide)
      have nn : (5003 * n * n).natAbs ≤ 5003 * 1000000 * 1000000 := by
        rw [Int.natAbs_mul, Int.natAbs_mul]
        exact Nat.mul_le_mul (Nat.mul_le_mul (by decide) (by omega)) (by omega)
      have nn0 : 0 ≤ 5003 * n * n := Int.mul_nonneg (Int.mul_nonneg (by decide) n0) n0
      refine ⟨_, rfl, .int n, rfl, _, _, rfl, rfl, wide_mul (a := 17) (b := 64) (by decide) n64 (by decide) (by decide) (by decide), .int n, rfl, _, _, rfl, rfl, wide_mul (a := 100) (b := 64) ?_ n64 (by decide) (by decide) (by decide), _, _, rfl, rfl, _, _, rfl, rfl, _, _, rfl, rfl, ⟨by decide, by decide, ?_⟩, _, _, rfl, rfl, (by show (0 : Int) < 2147483563; decide), ?_⟩
      · have : (5003 * n).natAbs ≤ 5003 * 1000000 := by
          rw [Int.natAbs_mul]
          exact Nat.mul_le_mul (by decide) (by omega)
        omega
      · omega
      generalize (big % 2147483587 + 5003 * n * n + 29) ^ (3 : Int).toNat = big2
      have c0 := Int.emod_nonneg big2 (show (2147483563 : Int) ≠ 0 by decide)
      have c1 := Int.emod_lt_of_pos big2 (show (0 : Int) < 2147483563 by decide)
      refine ⟨_, rfl, _, _, rfl, rfl, wide_mul (a := 40) (b := 18) (by show (big2 % 2147483563).natAbs < _; omega) (by decide) (by decide) (by decide) (by decide), _, _, rfl, rfl, (by show (0 : Int) < 2305843009213693951; decide), _, _, rfl, rfl, wide_div (b := 5) (by decide) (by decide) (by decide) (by decide), .int lim, rfl, _, _, rfl, rfl, l0, ?_⟩
      exact q _ _ kp1 dk1 (Int.emod_nonneg _ (by omega)) (Int.emod_lt_of_pos _ l0)

/-! ### what stays when the heap grows, or the deck is drawn from -/
theorem rd_same {H H' : Hp} (s : Same H H') {a : Addr} {u : HO} (h : Rd H a u) : Rd H' a u := by
  rcases h with h | ⟨o, h⟩
  · exact .inl (s _ _ h)
  · exact .inr ⟨o, s _ _ h⟩
theorem sqT_same {K : PySem.W.Frag} {H H' : Hp} (s : Same H H') {a : Addr} {xs : List V} (h : SqT K H a xs) : SqT K H' a xs := by
  rcases h with h | h
  · exact .inl (rd_same s h)
  · exact .inr h
theorem dp_same {K : PySem.W.Frag} {H H' : Hp} (s : Same H H') {v : V} {d : PyData} (h : Dp K H v d) : Dp K H' v d := by
  refine Dp.rec (K := K) (H := H) (motive_1 := fun v d _ => Dp K H' v d) (motive_2 := fun vs ds _ => DpAll K H' vs ds) .non (fun b => .bl b) (fun i => .int i) (fun x => .str x) (fun hs _ q => .lst (s.seq hs) q) (fun hs _ q => .tup (sqT_same s hs) q) .nil (fun _ _ a b => .cons a b) h
theorem dp2 {K : PySem.W.Frag} {H : Hp} {t : Addr} {x y : Int} (h : H t = some (.tup [.int x, .int y])) : Dp K H (.ref t) (.tuple [.int x, .int y]) := .tup (SqT.of h) (.cons (.int x) (.cons (.int y) .nil))
theorem sm2 {x y : Int} (h1 : x.natAbs < 10 ^ 30) (h2 : y.natAbs < 10 ^ 30) : Sm 202 1 (.tuple [.int x, .int y]) := by
  have h := Sm.tup (n := 100) (dp := 0) (ds := [.int x, .int y]) (fun d hd => by
    rcases List.mem_cons.mp hd with rfl | hd
    · exact Sm.int h1
    · rcases List.mem_cons.mp hd with rfl | hd
      · exact Sm.int h2
      · cases hd)
  exact h
/-- an interval, or None -/
def optD : Option (Int × Int) → PyData
  | none => .none
  | some (x, y) => .tuple [.int x, .int y]
def OV (H : Hp) (v : V) : Option (Int × Int) → Prop
  | none => v = .non
  | some (x, y) => ∃ t, v = .ref t ∧ H t = some (.tup [.int x, .int y])
theorem OV.same {H H' : Hp} (s : Same H H') {v : V} {o : Option (Int × Int)} (h : OV H v o) : OV H' v o := by
  match o, h with
  | none, h => exact h
  | some (x, y), h =>
    obtain ⟨t, e, z⟩ := h
    exact ⟨t, e, s _ _ z⟩
theorem OV.kp {d : Addr} {c : Addr × Addr} {n : Int} {H H' : Hp} (k : Kp d c H H') (dk : Dk H d c n) {v : V} {o : Option (Int × Int)} (h : OV H v o) : OV H' v o := by
  match o, h with
  | none, h => exact h
  | some (x, y), h =>
    obtain ⟨t, e, z⟩ := h
    exact ⟨t, e, k.tup dk z⟩
theorem OV.dp {K : PySem.W.Frag} {H : Hp} {v : V} {o : Option (Int × Int)} (h : OV H v o) : Dp K H v (optD o) := by
  match o, h with
  | none, h =>
    cases h
    exact .non
  | some (x, y), h =>
    obtain ⟨t, e, z⟩ := h
    subst e
    exact dp2 z

/-! ### rows of intervals -/
inductive Ivs (H : Hp) : List V → List (Int × Int) → Prop
  | nil : Ivs H [] []
  | cons {a : Addr} {x y : Int} {vs : List V} {ps : List (Int × Int)} : H a = some (.tup [.int x, .int y]) → Ivs H vs ps → Ivs H (.ref a :: vs) ((x, y) :: ps)
theorem Ivs.length {H : Hp} {vs : List V} {ps : List (Int × Int)} (h : Ivs H vs ps) : vs.length = ps.length := by
  induction h with
  | nil => rfl
  | cons _ _ ih => rw [List.length_cons, List.length_cons, ih]
theorem Ivs.same {H H' : Hp} (s : Same H H') {vs : List V} {ps : List (Int × Int)} (h : Ivs H vs ps) : Ivs H' vs ps := by
  induction h with
  | nil => exact .nil
  | cons e _ ih => exact .cons (s _ _ e) ih
theorem Ivs.kp {d : Addr} {c : Addr × Addr} {n : Int} {H H' : Hp} (k : Kp d c H H') (dk : Dk H d c n) {vs : List V} {ps : List (Int × Int)} (h : Ivs H vs ps) : Ivs H' vs ps := by
  induction h with
  | nil => exact .nil
  | cons e _ ih => exact .cons (k.tup dk e) ih
theorem Ivs.get {H : Hp} {vs : List V} {ps : List (Int × Int)} (h : Ivs H vs ps) : ∀ {i : Nat} {v : V}, vs[i]? = some v → ∃ a x y, v = .ref a ∧ ps[i]? = some (x, y) ∧ H a = some (.tup [.int x, .int y]) := by
  induction h with
  | nil =>
    intro i v e
    simp at e
  | cons e _ ih =>
    intro i v q
    cases i with
    | zero =>
      cases q
      exact ⟨_, _, _, rfl, rfl, e⟩
    | succ i => exact ih q
theorem Ivs.snoc {H : Hp} {vs : List V} {ps : List (Int × Int)} {a : Addr} {x y : Int} (h : Ivs H vs ps) (e : H a = some (.tup [.int x, .int y])) : Ivs H (vs ++ [.ref a]) (ps ++ [(x, y)]) := by
  induction h with
  | nil => exact .cons e .nil
  | cons z _ ih => exact .cons z ih
def pairD (p : Int × Int) : PyData := .tuple [.int p.1, .int p.2]
theorem Ivs.dp {K : PySem.W.Frag} {H : Hp} {vs : List V} {ps : List (Int × Int)} (h : Ivs H vs ps) : DpAll K H vs (ps.map pairD) := by
  induction h with
  | nil => exact .nil
  | cons e _ ih => exact .cons (dp2 e) ih

/-! ### comprehensions that change nothing but make new objects -/
/-- the tuples stay -/
def Tps (H H' : Hp) : Prop := ∀ b xs, H b = some (.tup xs) → H' b = some (.tup xs)
theorem Tps.refl (H : Hp) : Tps H H := fun _ _ e => e
theorem Tps.trans {H H1 H2 : Hp} (h : Tps H H1) (h2 : Tps H1 H2) : Tps H H2 := fun b xs e => h2 b xs (h b xs e)
theorem Tps.same {H H1 : Hp} (h : Same H H1) : Tps H H1 := fun b xs e => h b _ e
theorem Kp.tps {d : Addr} {c : Addr × Addr} {n : Int} {H H' : Hp} (k : Kp d c H H') (dk : Dk H d c n) : Tps H H' := fun _ _ e => k.tup dk e
theorem Tps.lst {H : Hp} {D : Addr} {ws vs : List V} (e : H D = some (.lst ws)) : Tps H (upd H D (.lst vs)) := fun b xs h => by
  rw [upd_ne (ne_of h e (fun z => by cases z))]
  exact h
theorem same_off {H0 H : Hp} {D : Addr} {o : HO} (n : H0 D = none) (s : Same H0 H) : Same H0 (upd H D o) := fun b u e => by
  rw [upd_ne (ne_of_none e n)]
  exact s b u e
theorem few_line {n : Nat} (h : n < 1000) : n < sizeLine := by
  rw [show sizeLine = 16777216 by decide]
  omega
theorem lcL {K : PySem.W.Frag} {a : Addr} {xs : List V} {g : TG} {tt : TT} {te : TE} {vs : List Nat} {σ : L2.St} {H1 : Hp} {D : Addr} {Qd : Hp → Prop} (R : Nat → Hp → List V → Prop) (nD : H1 D = none) (hl : ∀ H', Same H1 H' → SqL K H' a xs) (few : xs.length < 1000)
    (mono : ∀ i H' H'' ws, Tps H' H'' → R i H' ws → R i H'' ws) (len : ∀ i H' ws, R i H' ws → ws.length ≤ i) (r0 : ∀ H', R 0 H' [])
    (hs : ∀ i x H' (N : Hp → Prop) acc, xs[i]? = some x → Same H1 H' → H' D = some (.lst acc) → acc.length < sizeLine → R i H' acc → (∀ H'', Same H' H'' → R (i + 1) H'' acc → N H'') → (∀ H'' y, Same H' H'' → R (i + 1) H'' (acc ++ [y]) → ∃ acc', H'' D = some (.lst acc') ∧ acc'.length < sizeLine ∧ N (upd H'' D (.lst (acc' ++ [y])))) →
      g x (wipe σ vs) H' fun σ2 H2 => wipe σ2 vs = wipe σ vs ∧ tt σ2 H2 fun b H3 => if b = true then te σ2 H3 fun y H4 => ∃ acc, H4 D = some (.lst acc) ∧ acc.length < sizeLine ∧ N (upd H4 D (.lst (acc ++ [y]))) else N H3)
    (hd : ∀ H' ws, Same H1 H' → H' D = some (.lst ws) → R xs.length H' ws → Qd H') :
    ∃ W : Nat → Nat → Hp → Prop, (∃ m, W 0 m (upd H1 D (.lst []))) ∧ ∀ i m H, W i m H →
      ((Itl K a).stop i H ∧ Qd H) ∨ ((Itl K a).go i H ∧ ∃ Nx : Hp → Prop, (∀ H', Nx H' → ∃ m', m' < m ∧ W (i + 1) m' H') ∧ ∀ x H', (Itl K a).yld i H x H' → g x (wipe σ vs) H' fun σ2 H2 => wipe σ2 vs = wipe σ vs ∧ tt σ2 H2 fun b H3 =>
        if b = true then te σ2 H3 fun y H4 => ∃ acc, H4 D = some (.lst acc) ∧ acc.length < sizeLine ∧ Nx (upd H4 D (.lst (acc ++ [y]))) else Nx H3) := by
  refine lc_list (K := K) (a := a) (xs := xs) (fun i H' => Same H1 H' ∧ ∃ ws, H' D = some (.lst ws) ∧ R i H' ws) ⟨same_new nD, [], upd_same, r0 _⟩ (fun i H' _ h => hl H' h.1) ?_ ?_
  · rintro i x H' hi ⟨sm, ws, eD, r⟩
    have lt := (List.getElem?_eq_some_iff.mp hi).1
    have lw := len i H' ws r
    have sz : ws.length < sizeLine := few_line (by omega)
    refine hs i x H' _ ws hi sm eD sz r (fun H'' s r2 => ⟨sm.trans s, ws, s _ _ eD, r2⟩) (fun H'' y s r2 => ?_)
    exact ⟨ws, s _ _ eD, sz, same_off nD (sm.trans s), _, upd_same, mono _ _ _ _ (Tps.lst (s _ _ eD)) r2⟩
  · rintro H' ⟨sm, ws, eD, r⟩
    exact hd H' ws sm eD r
theorem lcT {K : PySem.W.Frag} {a : Addr} {xs : List V} {g : TG} {tt : TT} {te : TE} {vs : List Nat} {σ : L2.St} {H1 : Hp} {D : Addr} {Qd : Hp → Prop} (R : Nat → Hp → List V → Prop) (nD : H1 D = none) (hl : ∀ H', Same H1 H' → SqT K H' a xs) (few : xs.length < 1000)
    (mono : ∀ i H' H'' ws, Tps H' H'' → R i H' ws → R i H'' ws) (len : ∀ i H' ws, R i H' ws → ws.length ≤ i) (r0 : ∀ H', R 0 H' [])
    (hs : ∀ i x H' (N : Hp → Prop) acc, xs[i]? = some x → Same H1 H' → H' D = some (.lst acc) → acc.length < sizeLine → R i H' acc → (∀ H'', Same H' H'' → R (i + 1) H'' acc → N H'') → (∀ H'' y, Same H' H'' → R (i + 1) H'' (acc ++ [y]) → ∃ acc', H'' D = some (.lst acc') ∧ acc'.length < sizeLine ∧ N (upd H'' D (.lst (acc' ++ [y])))) →
      g x (wipe σ vs) H' fun σ2 H2 => wipe σ2 vs = wipe σ vs ∧ tt σ2 H2 fun b H3 => if b = true then te σ2 H3 fun y H4 => ∃ acc, H4 D = some (.lst acc) ∧ acc.length < sizeLine ∧ N (upd H4 D (.lst (acc ++ [y]))) else N H3)
    (hd : ∀ H' ws, Same H1 H' → H' D = some (.lst ws) → R xs.length H' ws → Qd H') :
    ∃ W : Nat → Nat → Hp → Prop, (∃ m, W 0 m (upd H1 D (.lst []))) ∧ ∀ i m H, W i m H →
      ((Itt K a).stop i H ∧ Qd H) ∨ ((Itt K a).go i H ∧ ∃ Nx : Hp → Prop, (∀ H', Nx H' → ∃ m', m' < m ∧ W (i + 1) m' H') ∧ ∀ x H', (Itt K a).yld i H x H' → g x (wipe σ vs) H' fun σ2 H2 => wipe σ2 vs = wipe σ vs ∧ tt σ2 H2 fun b H3 =>
        if b = true then te σ2 H3 fun y H4 => ∃ acc, H4 D = some (.lst acc) ∧ acc.length < sizeLine ∧ Nx (upd H4 D (.lst (acc ++ [y]))) else Nx H3) := by
  refine lc_tup (K := K) (a := a) (xs := xs) (fun i H' => Same H1 H' ∧ ∃ ws, H' D = some (.lst ws) ∧ R i H' ws) ⟨same_new nD, [], upd_same, r0 _⟩ (fun i H' _ h => hl H' h.1) ?_ ?_
  · rintro i x H' hi ⟨sm, ws, eD, r⟩
    have lt := (List.getElem?_eq_some_iff.mp hi).1
    have lw := len i H' ws r
    have sz : ws.length < sizeLine := few_line (by omega)
    refine hs i x H' _ ws hi sm eD sz r (fun H'' s r2 => ⟨sm.trans s, ws, s _ _ eD, r2⟩) (fun H'' y s r2 => ?_)
    exact ⟨ws, s _ _ eD, sz, same_off nD (sm.trans s), _, upd_same, mono _ _ _ _ (Tps.lst (s _ _ eD)) r2⟩
  · rintro H' ⟨sm, ws, eD, r⟩
    exact hd H' ws sm eD r
theorem map_filter_len {α : Type} {ns : List α} {p : α → Bool} {f : α → V} (i : Nat) : (((ns.take i).filter p).map f).length ≤ i := by
  rw [List.length_map]
  exact Nat.le_trans (List.length_filter_le _ _) (List.length_take_le _ _)
theorem take_filter {α : Type} {ns : List α} {i : Nat} {n : α} {p : α → Bool} (h : ns[i]? = some n) : (ns.take (i + 1)).filter p = (ns.take i).filter p ++ (if p n = true then [n] else []) := by
  rw [List.take_add_one, h, List.filter_append]
  congr 1
  show List.filter p [n] = _
  rw [List.filter_cons]
  split <;> rfl
theorem nodup_le {α : Type} [DecidableEq α] : ∀ {l m : List α}, l.Nodup → (∀ x ∈ l, x ∈ m) → l.length ≤ m.length
  | [], _, _, _ => Nat.zero_le _
  | a :: l, m, h, hs => by
    have hm := hs a List.mem_cons_self
    have h' := List.nodup_cons.mp h
    have ih := nodup_le (l := l) (m := m.erase a) h'.2 (fun x hx => (List.mem_erase_of_ne (fun e => h'.1 (by rw [← e]; exact hx))).mpr (hs x (List.mem_cons_of_mem _ hx)))
    rw [List.length_erase_of_mem hm] at ih
    have := List.length_pos_of_mem hm
    rw [List.length_cons]
    omega

/-! ### demands, and rows of them -/
structure Dm (H : Hp) (v : V) (p lo hi : Int) : Prop where
  ex : ∃ u t, v = .ref u ∧ H u = some (.tup [.int p, .ref t]) ∧ H t = some (.tup [.int lo, .int hi])
  low : lo ≤ p
  high : p ≤ hi
theorem Dm.tps {H H' : Hp} (s : Tps H H') {v : V} {p lo hi : Int} (h : Dm H v p lo hi) : Dm H' v p lo hi := by
  obtain ⟨u, t, rfl, e1, e2⟩ := h.ex
  exact ⟨⟨u, t, rfl, s _ _ e1, s _ _ e2⟩, h.low, h.high⟩
theorem Dm.same {H H' : Hp} (s : Same H H') {v : V} {p lo hi : Int} (h : Dm H v p lo hi) : Dm H' v p lo hi := h.tps (Tps.same s)
inductive Dms (H : Hp) : List V → List (Int × Int × Int) → Prop
  | nil : Dms H [] []
  | cons {v : V} {p lo hi : Int} {vs : List V} {ds : List (Int × Int × Int)} : Dm H v p lo hi → Dms H vs ds → Dms H (v :: vs) ((p, lo, hi) :: ds)
theorem Dms.length {H : Hp} {vs : List V} {ds : List (Int × Int × Int)} (h : Dms H vs ds) : vs.length = ds.length := by
  induction h with
  | nil => rfl
  | cons _ _ ih => rw [List.length_cons, List.length_cons, ih]
theorem Dms.tps {H H' : Hp} (s : Tps H H') {vs : List V} {ds : List (Int × Int × Int)} (h : Dms H vs ds) : Dms H' vs ds := by
  induction h with
  | nil => exact .nil
  | cons e _ ih => exact .cons (e.tps s) ih
theorem Dms.same {H H' : Hp} (s : Same H H') {vs : List V} {ds : List (Int × Int × Int)} (h : Dms H vs ds) : Dms H' vs ds := h.tps (Tps.same s)
theorem Dms.get {H : Hp} {vs : List V} {ds : List (Int × Int × Int)} (h : Dms H vs ds) : ∀ {i : Nat} {v : V}, vs[i]? = some v → ∃ p lo hi, ds[i]? = some (p, lo, hi) ∧ Dm H v p lo hi := by
  induction h with
  | nil =>
    intro i v e
    simp at e
  | cons e _ ih =>
    intro i v q
    cases i with
    | zero =>
      cases q
      exact ⟨_, _, _, rfl, e⟩
    | succ i => exact ih q
theorem Dms.append {H : Hp} {vs us : List V} {ds es : List (Int × Int × Int)} (h : Dms H vs ds) (h2 : Dms H us es) : Dms H (vs ++ us) (ds ++ es) := by
  induction h with
  | nil => exact h2
  | cons e _ ih => exact .cons e ih
theorem Dms.snoc {H : Hp} {vs : List V} {ds : List (Int × Int × Int)} {v : V} {p lo hi : Int} (h : Dms H vs ds) (e : Dm H v p lo hi) : Dms H (vs ++ [v]) (ds ++ [(p, lo, hi)]) := h.append (.cons e .nil)
theorem Dms.take {H : Hp} {vs : List V} {ds : List (Int × Int × Int)} (h : Dms H vs ds) : ∀ n : Nat, Dms H (vs.take n) (ds.take n) := by
  induction h with
  | nil =>
    intro n
    rw [List.take_nil, List.take_nil]
    exact .nil
  | cons e _ ih =>
    intro n
    cases n with
    | zero => exact .nil
    | succ n => exact .cons e (ih n)
theorem Dms.reverse {H : Hp} {vs : List V} {ds : List (Int × Int × Int)} (h : Dms H vs ds) : Dms H vs.reverse ds.reverse := by
  induction h with
  | nil => exact .nil
  | cons e _ ih =>
    rw [List.reverse_cons, List.reverse_cons]
    exact ih.snoc e
theorem Dms.isEmpty {H : Hp} {vs : List V} {ds : List (Int × Int × Int)} (h : Dms H vs ds) : vs.isEmpty = ds.isEmpty := by
  cases h <;> rfl
theorem Dms.ok {H : Hp} {vs : List V} {ds : List (Int × Int × Int)} (h : Dms H vs ds) : ∀ q ∈ ds, q.2.1 ≤ q.1 ∧ q.1 ≤ q.2.2 := by
  induction h with
  | nil =>
    intro q hq
    cases hq
  | cons e _ ih =>
    intro q hq
    rcases List.mem_cons.mp hq with rfl | hq
    · exact ⟨e.low, e.high⟩
    · exact ih q hq
/-! ### comprehensions over a range that draw -/
theorem lcK {d : Addr} {c : Addr × Addr} {n0 per : Int} {lo : Int} {n : Nat} {g : TG} {tt : TT} {te : TE} {vs : List Nat} {σ : L2.St} {H1 : Hp} {D : Addr} {Qd : Hp → Prop} (R : Nat → Hp → List V → Prop) (nD : H1 D = none) (dk : Dk H1 d c n0) (few : n < 1000)
    (mono : ∀ i H' H'' ws, Tps H' H'' → R i H' ws → R i H'' ws) (len : ∀ i H' ws, R i H' ws → ws.length ≤ i) (r0 : ∀ H', R 0 H' [])
    (hs : ∀ i H' (N : Hp → Prop) acc, i < n → Kp d c H1 H' → Dk H' d c (n0 + per * i) → H' D = some (.lst acc) → R i H' acc → (∀ H'' y, Kp d c H' H'' → Dk H'' d c (n0 + per * i + per) → R (i + 1) H'' (acc ++ [y]) → ∃ acc', H'' D = some (.lst acc') ∧ acc'.length < sizeLine ∧ N (upd H'' D (.lst (acc' ++ [y])))) →
      g (.int (lo + i)) (wipe σ vs) H' fun σ2 H2 => wipe σ2 vs = wipe σ vs ∧ tt σ2 H2 fun b H3 => if b = true then te σ2 H3 fun y H4 => ∃ acc, H4 D = some (.lst acc) ∧ acc.length < sizeLine ∧ N (upd H4 D (.lst (acc ++ [y]))) else N H3)
    (hd : ∀ H' ws, Kp d c H1 H' → Dk H' d c (n0 + per * n) → H' D = some (.lst ws) → R n H' ws → Qd H') :
    ∃ W : Nat → Nat → Hp → Prop, (∃ m, W 0 m (upd H1 D (.lst []))) ∧ ∀ i m H, W i m H →
      ((Itr lo n).stop i H ∧ Qd H) ∨ ((Itr lo n).go i H ∧ ∃ Nx : Hp → Prop, (∀ H', Nx H' → ∃ m', m' < m ∧ W (i + 1) m' H') ∧ ∀ x H', (Itr lo n).yld i H x H' → g x (wipe σ vs) H' fun σ2 H2 => wipe σ2 vs = wipe σ vs ∧ tt σ2 H2 fun b H3 =>
        if b = true then te σ2 H3 fun y H4 => ∃ acc, H4 D = some (.lst acc) ∧ acc.length < sizeLine ∧ Nx (upd H4 D (.lst (acc ++ [y]))) else Nx H3) := by
  have off := dk.off nD
  refine lc_range (lo := lo) (n := n) (fun i H' => Kp d c H1 H' ∧ Dk H' d c (n0 + per * i) ∧ ∃ ws, H' D = some (.lst ws) ∧ R i H' ws) ⟨Kp.same (same_new nD), (dk.upd off).eq (by simp), [], upd_same, r0 _⟩ ?_ ?_
  · rintro i H' hi ⟨kp, dk', ws, eD, r⟩
    have lw := len i H' ws r
    have sz : ws.length < sizeLine := few_line (by omega)
    refine hs i H' _ ws hi kp dk' eD r (fun H'' y kp2 dk2 r2 => ?_)
    have eD2 := kp2.keep off eD
    refine ⟨ws, eD2, sz, fun b o n1 n2 e => ?_, (dk2.upd off).eq ?_, _, upd_same, mono _ _ _ _ (Tps.lst eD2) r2⟩
    · rw [upd_ne (ne_of_none e nD)]
      exact kp2 b o n1 n2 (kp b o n1 n2 e)
    · rw [Int.natCast_succ, Int.mul_add, Int.mul_one]
      omega
  · rintro H' ⟨kp, dk', ws, eD, r⟩
    exact hd H' ws kp dk' eD r

theorem Ivs.tps {H H' : Hp} (s : Tps H H') {vs : List V} {ps : List (Int × Int)} (h : Ivs H vs ps) : Ivs H' vs ps := by
  induction h with
  | nil => exact .nil
  | cons e _ ih => exact .cons (s _ _ e) ih
theorem Ivs.append {H : Hp} {vs us : List V} {ps qs : List (Int × Int)} (h : Ivs H vs ps) (h2 : Ivs H us qs) : Ivs H (vs ++ us) (ps ++ qs) := by
  induction h with
  | nil => exact h2
  | cons e _ ih => exact .cons e ih
theorem Ivs.isEmpty {H : Hp} {vs : List V} {ps : List (Int × Int)} (h : Ivs H vs ps) : vs.isEmpty = ps.isEmpty := by
  cases h <;> rfl

/-! ### contains -/
def inI (x y u v : Int) : Bool := decide (x ≤ u) && decide (v ≤ y)
def sp_contains : Sp := fun vs H Q _ => ∃ (a b : Addr) (x y u v : Int), vs = [.ref a, .ref b] ∧ H a = some (.tup [.int x, .int y]) ∧ H b = some (.tup [.int u, .int v]) ∧ Q (.bl (inI x y u v)) H
theorem ok_contains (T : Tx K mg f_contains f_intersect f_pieces_inside f_first_gap f_generates f_has_open_demand f_widen f_law_draws f_law_next f_law_spans f_law_targets f_law_scaled f_law_served f_law_demands f_law_due f_law d_contains d_intersect d_pieces_inside d_first_gap d_generates d_has_open_demand d_widen d_law_draws d_law_next d_law_spans d_law_targets d_law_scaled d_law_served d_law_demands d_law_due d_law) : FnOk P w K mg base CX0 1 f_contains d_contains ["outer", "inner"] sp_contains := by
  refine T.F_contains.ok sc_contains (fun vs H Q E h => ?_) (fun cdv A outer s H vs Q E hr h => ?_)
  · obtain ⟨a, b, x, y, u, v, rfl, _⟩ := h
    rfl
  · obtain ⟨a, b, x, y, u, v, rfl, ha, hb, q⟩ := h
    refine ⟨_, (pss_one (ps_ret (pe_and (pe_cmpR op_le (pe_ix ix_tup (pv 0) pe_int (fun _ _ => rfl)) (pe_ix ix_tup (pv 1) pe_int (fun _ _ => rfl)) (nomark _)) (pe_one (pe_cmpR op_le (pe_ix ix_tup (pv 1) pe_int (fun _ _ => rfl)) (pe_ix ix_tup (pv 0) pe_int (fun _ _ => rfl)) (nomark _)))))), ?_⟩
    unfold inI at q
    refine ⟨.ref a, rfl, a, _, 0, .int x, rfl, rfl, SqT.of ha, rfl, .ref b, rfl, b, _, 0, .int u, rfl, rfl, SqT.of hb, rfl, _, _, rfl, rfl, _, rfl, ite2 (fun e => ?_) (fun e => ?_)⟩
    · refine ⟨.ref b, rfl, b, _, 1, .int v, rfl, rfl, SqT.of hb, rfl, .ref a, rfl, a, _, 1, .int y, rfl, rfl, SqT.of ha, rfl, _, _, rfl, rfl, ?_⟩
      rw [e] at q
      exact q
    · rw [Bool.not_eq_true] at e
      rw [e] at q
      exact q

def svI (x y p lo hi : Int) : Bool := inI lo hi x y && (decide (x ≤ p) && decide (p ≤ y))

def strI (f s : Int) (p : Int × Int) : Int × Int := (p.1 * f + s, p.2 * f + f - 1 + s)

/-! ### tuples joined and cut, whichever object comes out -/
theorem catA_any {K : PySem.W.Frag} {H : Hp} {a b : Addr} {xs ys : List V} {Q : VK} (h1 : H a = some (.tup xs)) (h2 : H b = some (.tup ys)) (sz : xs.length + ys.length ≤ sizeLine) (k : ∀ H' p, Same H H' → H' p = some (.tup (xs ++ ys)) → Q (.ref p) H') : rCatA K (.ref a) (.ref b) H Q := by
  refine ⟨a, b, xs, ys, rfl, rfl, SqT.of h1, SqT.of h2, sz, fun e => k H b (Same.refl _) ?_, fun _ e => k H a (Same.refl _) ?_, fun _ _ p np => k _ p (same_new np) upd_same⟩
  · rw [e]
    exact h2
  · rw [e, List.append_nil]
    exact h1
theorem slA_any {K : PySem.W.Frag} {H : Hp} {a : Addr} {xs : List V} {lo hi : Option Int} {Q : VK} (h1 : H a = some (.tup xs)) (k : ∀ H' p, Same H H' → H' p = some (.tup (cutV xs lo hi)) → Q (.ref p) H') : rSlA K (.ref a) lo hi H Q := by
  refine ⟨a, xs, rfl, SqT.of h1, fun e => k H a (Same.refl _) ?_, fun _ p np => k _ p (same_new np) upd_same⟩
  have e2 : cutV xs lo hi = xs := by
    unfold cutV
    rw [e.1, e.2]
    simp
  rw [e2]
  exact h1
theorem Ivs.take {H : Hp} {vs : List V} {ps : List (Int × Int)} (h : Ivs H vs ps) : ∀ n : Nat, Ivs H (vs.take n) (ps.take n) := by
  induction h with
  | nil =>
    intro n
    rw [List.take_nil, List.take_nil]
    exact .nil
  | cons e _ ih =>
    intro n
    cases n with
    | zero => exact .nil
    | succ n => exact .cons e (ih n)

/-! ### sorted(set(pairs)) -/
def ltP (a b : Int × Int) : Prop := a.1 < b.1 ∨ (a.1 = b.1 ∧ a.2 < b.2)
def prL (q : Int × Int) : List Int := [q.1, q.2]
theorem prL_inj {a b : Int × Int} (h : prL a = prL b) : a = b := by
  unfold prL at h
  cases a
  cases b
  simp at h
  rw [h.1, h.2]
theorem mem_prL {q : Int × Int} {ps : List (Int × Int)} : prL q ∈ ps.map prL ↔ q ∈ ps := by
  rw [List.mem_map]
  exact ⟨fun ⟨a, ha, e⟩ => prL_inj e ▸ ha, fun h => ⟨q, h, rfl⟩⟩
theorem Ivs.keys {H : Hp} {us : List V} {ps : List (Int × Int)} (h : Ivs H us ps) : ∃ ks : List (Addr × List Int), us = ks.map (fun p => V.ref p.1) ∧ ks.map (·.2) = ps.map prL ∧ ∀ p ∈ ks, ∃ x y : Int, p.2 = [x, y] ∧ H p.1 = some (.tup [.int x, .int y]) := by
  induction h with
  | nil => exact ⟨[], rfl, rfl, fun p hp => nomatch hp⟩
  | cons e _ ih =>
    obtain ⟨ks, e1, e2, e3⟩ := ih
    refine ⟨(_, [_, _]) :: ks, by rw [List.map_cons, e1], by rw [List.map_cons, List.map_cons, e2]; rfl, fun p hp => ?_⟩
    rcases List.mem_cons.mp hp with rfl | hp
    · exact ⟨_, _, rfl, e⟩
    · exact e3 p hp
theorem Ivs.ofKeys {H : Hp} : ∀ {L : List (Addr × List Int)}, (∀ p ∈ L, ∃ x y : Int, p.2 = [x, y] ∧ H p.1 = some (.tup [.int x, .int y])) → ∃ ps, Ivs H (L.map fun p => V.ref p.1) ps ∧ L.map (·.2) = ps.map prL
  | [], _ => ⟨[], .nil, rfl⟩
  | p :: L, h => by
    obtain ⟨x, y, e, e1⟩ := h p List.mem_cons_self
    obtain ⟨ps, i, e2⟩ := Ivs.ofKeys (L := L) fun q hq => h q (List.mem_cons_of_mem _ hq)
    exact ⟨(x, y) :: ps, .cons e1 i, by rw [List.map_cons, List.map_cons, e2, e]; rfl⟩
theorem Ivs.tpsMem {H : Hp} {us : List V} {ps : List (Int × Int)} (h : Ivs H us ps) {q : Int × Int} (hq : q ∈ ps) : ∃ a, V.ref a ∈ us ∧ H a = some (.tup [.int q.1, .int q.2]) := by
  induction h with
  | nil => cases hq
  | cons e _ ih =>
    rcases List.mem_cons.mp hq with rfl | hq
    · exact ⟨_, List.mem_cons_self, e⟩
    · obtain ⟨a, h1, h2⟩ := ih hq
      exact ⟨a, List.mem_cons_of_mem _ h1, h2⟩
theorem sorted_keys {K : PySem.W.Frag} {P : Program} {w : World} {H : Hp} {ps : List (Int × Int)} {Q : VK} {ks L : List (Addr × List Int)} {a : Addr} (e2 : ks.map (·.2) = ps.map prL) (e3 : ∀ p ∈ ks, ∃ x y : Int, p.2 = [x, y] ∧ H p.1 = some (.tup [.int x, .int y])) (na : H a = none) (h1 : ∀ p ∈ L, p ∈ ks) (h2 : ∀ p ∈ ks, p.2 ∈ L.map (·.2)) (bd : ∀ q ∈ ps, (0 ≤ q.1 ∧ q.1 < 10 ^ 13) ∧ 0 ≤ q.2 ∧ q.2 < 10 ^ 13)
    (fin : ∀ H' p us' ps', Same H H' → H p = none → H' p = some (.lst us') → Ivs H' us' ps' → ps'.Pairwise ltP → (∀ q, q ∈ ps' ↔ q ∈ ps) → Q (.ref p) H') :
    rSortedT K P w [.ref a] (upd H a (SetTO P w a L)) Q := by
  have s1 : Same H (upd H a (SetTO P w a L)) := same_new na
  refine ⟨a, L, 2, 10 ^ 13, rfl, upd_same, fun p hp => ?_, by decide, fun p hp => ?_, fun L' p pm nd fw pw np => ?_⟩
  · obtain ⟨x, y, e, e1⟩ := e3 p (h1 p hp)
    rw [e]
    exact SqT.of (s1 _ _ e1)
  · have m : p.2 ∈ ks.map (·.2) := List.mem_map.mpr ⟨p, h1 p hp, rfl⟩
    rw [e2] at m
    obtain ⟨q, hq, e⟩ := List.mem_map.mp m
    have b := bd q hq
    rw [← e]
    refine ⟨rfl, fun m hm => ?_⟩
    unfold prL at hm
    rcases List.mem_cons.mp hm with rfl | hm
    · exact b.1
    · rw [List.mem_singleton.mp hm]
      exact b.2
  · have s2 : Same (upd H a (SetTO P w a L)) (upd (upd H a (SetTO P w a L)) p (.lst (L'.map fun q => V.ref q.1))) := same_new np
    obtain ⟨ps', i, e4⟩ := Ivs.ofKeys (H := H) (L := L') fun q hq => e3 q (h1 q (pm.mem_iff.mp hq))
    have mem : ∀ q, q ∈ ps' ↔ q ∈ ps := fun q => by
      rw [← mem_prL, ← e4, ← mem_prL (ps := ps), ← e2, (pm.map (·.2)).mem_iff]
      constructor
      · intro h
        obtain ⟨p, hp, e⟩ := List.mem_map.mp h
        exact List.mem_map.mpr ⟨p, h1 p hp, e⟩
      · intro h
        obtain ⟨p, hp, e⟩ := List.mem_map.mp h
        rw [← e]
        exact h2 p hp
    refine fin _ p _ ps' (s1.trans s2) (s1.free np) upd_same (i.same (s1.trans s2)) ?_ mem
    have pw2 : (L'.map (·.2)).Pairwise (fun q r => TS.code (10 ^ 13) q ≤ TS.code (10 ^ 13) r) := List.pairwise_map.mpr pw
    have both := pw2.and nd
    rw [e4] at both
    refine (List.pairwise_map.mp both).imp_of_mem fun {x y} hx hy h => ?_
    have bx := bd x ((mem x).mp hx)
    have bY := bd y ((mem y).mp hy)
    have tb : ∀ {z : Int × Int}, ((0 ≤ z.1 ∧ z.1 < 10 ^ 13) ∧ 0 ≤ z.2 ∧ z.2 < 10 ^ 13) → TS.Bd (10 ^ 13) [z.1, z.2] := fun b m hm => by
      rcases List.mem_cons.mp hm with rfl | hm
      · exact b.1
      · rw [List.mem_singleton.mp hm]
        exact b.2
    rcases code_lex (tb bx) (tb bY) h.1 with c | ⟨c1, c2⟩
    · exact .inl c
    · refine .inr ⟨c1, ?_⟩
      rcases Int.lt_or_eq_of_le c2 with z | z
      · exact z
      · exact absurd (show prL x = prL y by unfold prL; rw [c1, z]) h.2
theorem sorted_set_pairs {K : PySem.W.Frag} {P : Program} {w : World} {H : Hp} {l : Addr} {us : List V} {ps : List (Int × Int)} {Q : VK} (hl : SqL K H l us) (iv : Ivs H us ps) (few : ps.length < 64) (bd : ∀ q ∈ ps, (0 ≤ q.1 ∧ q.1 < 10 ^ 13) ∧ 0 ≤ q.2 ∧ q.2 < 10 ^ 13)
    (fin : ∀ H' p us' ps', Same H H' → H p = none → H' p = some (.lst us') → Ivs H' us' ps' → ps'.Pairwise ltP → (∀ q, q ∈ ps' ↔ q ∈ ps) → Q (.ref p) H') :
    rSetOfT K P w [.ref l] H (fun x H1 => rSortedT K P w [x] H1 Q) := by
  obtain ⟨ks, rfl, e2, e3⟩ := iv.keys
  have lk : ks.length = ps.length := by
    have z := congrArg List.length e2
    rw [List.length_map, List.length_map] at z
    exact z
  refine ⟨l, ks, rfl, hl, fun p hp => ?_, by omega, fun a L na h1 h2 => ?_⟩
  · obtain ⟨x, y, e, e1⟩ := e3 p hp
    rw [e]
    exact SqT.of e1
  exact sorted_keys e2 e3 na h1 h2 bd fin

def leP (a b : Int × Int) : Prop := a.1 < b.1 ∨ (a.1 = b.1 ∧ a.2 ≤ b.2)
theorem leP_of_lt {ps : List (Int × Int)} (h : ps.Pairwise ltP) : ps.Pairwise leP := h.imp fun {a b} h => by
  rcases h with h | h
  · exact .inl h
  · exact .inr ⟨h.1, by omega⟩
theorem leP_uniq {ps qs : List (Int × Int)} (h1 : ps.Pairwise leP) (h2 : qs.Pairwise leP) (pm : ps.Perm qs) : ps = qs := by
  refine pm.eq_of_pairwise (le := leP) (fun a b _ _ x y => ?_) h1 h2
  have : a.1 = b.1 ∧ a.2 = b.2 := by
    unfold leP at x y
    omega
  exact Prod.ext this.1 this.2

/-! ### sorted(t), t a tuple of pairs of ints -/
section
variable {prog : Program} {w : World} {A : Around} {E : Value → Shared → Prop} {s : Shared}
/-- the items of a tuple, gathered in a new list -/
theorem collectT {Q : List Value → Shared → Prop} {t : Addr} {o : Obj} {xs : Array Value} {n : Nat} (ho : s.heap.get? t = some o) (hc : o.cls = .type "tuple") (hd : o.data = .seq xs n) (sz : xs.size ≤ sizeLine)
    (fin : ∀ g, s.heap.objs.size ≤ g.objs.size → (∀ b u, s.heap.get? b = some u → g.get? b = some u) → Q xs.toList { s with heap := g }) : wpAny (model prog w) A (collect (.ref t)) Q E s := by
  obtain ⟨g0, eg0⟩ : ∃ g0, s.heap.push { cls := .type "list", data := .seq ([] : List Value).toArray } = g0 := ⟨_, rfl⟩
  have n0 : g0.get? s.heap.objs.size = some { cls := .type "list", data := .seq #[] 0 } := by
    rw [← eg0]
    exact Heap.get?_push_size _ rfl
  have z0 : g0.objs.size = s.heap.objs.size + 1 := by
    rw [← eg0]
    exact Heap.size_push ..
  have k0 : ∀ b u, s.heap.get? b = some u → g0.get? b = some u := fun b u e => by
    rw [← eg0]
    exact Heap.get?_push_of_some _ e
  have n1 := Heap.get?_update_self (Obj.mapSeq (· ++ xs)) n0 rfl
  have last : ∀ s' : Shared, s' = { s with heap := g0.update s.heap.objs.size (Obj.mapSeq (· ++ xs)) } → wpAny (model prog w) A (match Value.ref s.heap.objs.size with
      | Value.ref a => do
        match (← load a).data with
          | Data.seq ys _ => pure ys.toList
          | _ => unsupported "internal:collect"
      | _ => unsupported "internal:collect") Q E s' := fun s' es => by
    rw [es]
    refine wpAny_bind (m := load s.heap.objs.size) (wpAny_load n1 (wpAny_pure ?_))
    show Q ((#[] : Array Value) ++ xs).toList _
    rw [show ((#[] : Array Value) ++ xs).toList = xs.toList by simp]
    refine fin _ (by rw [Heap.size_update, z0]; omega) fun b u e => ?_
    exact (Heap.get?_update_other _ _ (Nat.ne_of_gt (Heap.lt_size e))).trans (k0 b u e)
  unfold collect
  refine wpAny_bind (wpAny_runValue (codeAny_builtin (b := _) F.entry_proto_collect ?_))
  rw [Around.under_plainId (F.plain_proto_collect) _]
  show wpAny _ A.in1 (newList [] >>= fun l => again (.builtin "list.__iadd__" ⟨[l, .ref t], []⟩)) _ _ s
  refine wpAny_bind (wpAny_newObj_type (wpAny_pure ⟨plainId_quiet (F.plain_list_iadd) _, codeAny_builtin (b := _) F.entry_list_iadd ?_⟩))
  rw [Around.under_plainId (F.plain_list_iadd) _, eg0]
  show wpAny _ A.in1 (Builtin.List.listExtendWith (Value.ref s.heap.objs.size) (.ref t) (.ref s.heap.objs.size)) _ _ _
  refine wpAny_mono (wpAny_extend_seq (hsz := sz) (A := A) (R := fun r s' => r = .ok (.ret (.ref s.heap.objs.size)) ∧ s' = { s with heap := g0.update s.heap.objs.size (Obj.mapSeq (· ++ xs)) }) (s := { s with heap := g0 }) _ t _ 0 (.inr rfl) n0 (k0 _ _ ho) hc hd ⟨rfl, rfl⟩) (fun f s' h => ?_) (fun e s' h => absurd h.1 (by simp))
  cases f with
  | done f =>
    obtain ⟨e, h2⟩ := h
    cases e
    exact last s' h2
  | again c => exact ⟨h.1, codeAny_mono h.2 fun r s2 hr => by obtain ⟨rfl, h2⟩ := hr; exact last s2 h2⟩
theorem sortedTup {l : Addr} {vs : List Value} {k : Value → Int × Int} {Q : Value → Shared → Prop} (isT : IsTup s.heap l vs.toArray) (sz : vs.length ≤ sizeLine) (prs : ∀ v ∈ vs, Srt.IsPair s.heap v (k v).1 (k v).2)
    (fin : ∀ (h' : Heap) (d : Addr) (out : List Value), SrtO.Srtd (fun v u => SrtO.lexB (k v) (k u)) out → out.Perm vs → (∀ b o, s.heap.get? b = some o → h'.get? b = some o) → s.heap.objs.size ≤ d → (∃ n, h'.get? d = some (seqObj "list" out.toArray n)) → Q (.ref d) { s with heap := h' }) :
    wpAny (model prog w) A (call (.builtin "sorted") [.ref l]) Q E s := by
  refine Calls.call_function_entry kind_sorted (plain_sorted) entry_sorted (args_sorted1 _) ?_
  unfold Builtin.«sorted»
  refine wpAny_bind (m := checkCount "sorted" 1 1 _) (wpAny_pure (wpAny_bind ?_))
  obtain ⟨o, ho, hc, n, hd⟩ := isT
  refine collectT ho hc hd (by rw [List.size_toArray]; exact sz) (fun h1 big k1 => ?_)
  rw [List.toList_toArray]
  refine wpAny_bind (wpAny_newList ?_ sz)
  have own : (h1.push (seqObj "list" vs.toArray 0)).get? h1.objs.size = some (seqObj "list" vs.toArray 0) := Heap.get?_push_size _ rfl
  have keep : ∀ b o, s.heap.get? b = some o → b ≠ h1.objs.size ∧ b < (h1.push (seqObj "list" vs.toArray 0)).objs.size ∧ (h1.push (seqObj "list" vs.toArray 0)).get? b = some o := fun b o e => by
    have lt : b < h1.objs.size := Heap.lt_size (k1 b o e)
    exact ⟨Nat.ne_of_lt lt, by rw [Heap.size_push]; exact Nat.lt_succ_of_lt lt, Heap.get?_push_of_some _ (k1 b o e)⟩
  show wpAny _ _ _ _ _ { s with heap := h1.push (seqObj "list" vs.toArray 0) }
  refine wpAny_bind (wpAny_holding (wpAny_call_entry slot_list_sort ⟨_, own, rfl⟩ entry_list_sort (SrtO.list_sort_ord (SrtO.swo_lex k) own sz (fun h2 => ?_) fun out hs hb => ⟨_, rfl, ?_⟩) (args_list_sort _)))
  · refine SrtO.pairs_sortableO (s := { s with heap := h1.push (seqObj "list" vs.toArray 0) }) (by omega) (fun v hm => (prs v hm).keeps fun b o e _ => (keep b o e).2.2) fun o' e' => ?_
    have z : some o' = some (seqObj "list" vs.toArray 0) := e'.symm.trans own
    cases z
    exact fun c => absurd (Value.type.inj c) (by decide)
  · refine wpAny_pure ⟨_, rfl, fin _ _ out hs hb.perm (fun b o e => ?_) big (sortedHeap_at own)⟩
    have z := keep b o e
    rw [sortedHeap_old z.1 z.2.1]
    exact z.2.2
end
def rSortTP (K : PySem.W.Frag) : List V → Hp → VK → Prop := fun vs H Q => ∃ (a : Addr) (us : List V) (ps : List (Int × Int)), vs = [V.ref a] ∧ SqT K H a us ∧ Ivs H us ps ∧
  ∀ H' p us' ps', Same H H' → H p = none → H' p = some (.lst us') → Ivs H' us' ps' → ps'.Pairwise leP → ps'.Perm ps → Q (.ref p) H'
theorem Ivs.mem1 {H : Hp} {vs : List V} {ps : List (Int × Int)} (h : Ivs H vs ps) {v : V} (hv : v ∈ vs) : ∃ a q, q ∈ ps ∧ v = .ref a ∧ H a = some (.tup [.int q.1, .int q.2]) := by
  obtain ⟨i, ei⟩ := List.getElem?_of_mem hv
  obtain ⟨a, x, y, e, ep, ea⟩ := h.get ei
  exact ⟨a, (x, y), List.mem_of_getElem? ep, e, ea⟩
noncomputable def pairAt (H : Hp) (v : V) : Int × Int := Classical.epsilon fun q => ∃ a, v = .ref a ∧ H a = some (.tup [.int q.1, .int q.2])
theorem pairAt_eq {H : Hp} {a : Addr} {x y : Int} (h : H a = some (.tup [.int x, .int y])) : pairAt H (.ref a) = (x, y) := by
  have e : ∃ q : Int × Int, ∃ b, V.ref a = .ref b ∧ H b = some (.tup [.int q.1, .int q.2]) := ⟨(x, y), a, rfl, h⟩
  obtain ⟨b, e1, e2⟩ := Classical.epsilon_spec e
  cases e1
  have e2 : H a = some (.tup [.int (pairAt H (.ref a)).1, .int (pairAt H (.ref a)).2]) := e2
  rw [h] at e2
  have z := Option.some.inj e2
  injection z with z
  injection z with z1 z2
  injection z2 with z2 _
  injection z1 with z1
  injection z2 with z2
  exact Prod.ext z1.symm z2.symm
theorem Ivs.pairAt {H : Hp} {vs : List V} {ps : List (Int × Int)} (h : Ivs H vs ps) : vs.map (pairAt H) = ps := by
  induction h with
  | nil => rfl
  | cons e _ ih => rw [List.map_cons, ih, pairAt_eq e]
theorem Ivs.perm1 {H : Hp} {xs ys : List V} (pm : ys.Perm xs) : ∀ {ps : List (Int × Int)}, Ivs H xs ps → ∃ ps', Ivs H ys ps' ∧ ps'.Perm ps := by
  induction pm with
  | nil =>
    intro ps h
    exact ⟨ps, h, .refl _⟩
  | cons x _ ih =>
    intro ps h
    cases h with
    | cons e h =>
      obtain ⟨ps', h', p'⟩ := ih h
      exact ⟨_ :: ps', .cons e h', p'.cons _⟩
  | swap x y l =>
    intro ps h
    cases h with
    | cons e h =>
      cases h with
      | cons e2 h => exact ⟨_, .cons e2 (.cons e h), .swap _ _ _⟩
  | trans _ _ ih1 ih2 =>
    intro ps h
    obtain ⟨p2, h2, q2⟩ := ih2 h
    obtain ⟨p1, h1, q1⟩ := ih1 h2
    exact ⟨p1, h1, q1.trans q2⟩
theorem cr_sortTP {X : Cx} : CallR X (.builtin "sorted") (rSortTP X.K) := by
  intro pins s σ H vs us0 Q I r h
  obtain ⟨a, us, ps, rfl, hs, iv, q⟩ := h
  obtain ⟨its, rv, isT, sz⟩ := I.tuple hs
  obtain ⟨u, rfl, ru⟩ := vals1 r
  obtain rfl : u = Value.ref a := ru
  obtain ⟨e1, e2⟩ := refs_back rv fun x m => by
    obtain ⟨t, q, _, e, _⟩ := iv.mem1 m
    exact ⟨t, e⟩
  refine sortedTup (k := fun u => pairAt H (backV u)) isT (by rw [← rv.length]; exact sz) (fun v hv => ?_) fun h' d out h1 pmo kp hd hn => ?_
  · obtain ⟨t, rfl⟩ := e2 v hv
    have hm : V.ref t ∈ us := by rw [e1]; exact List.mem_map.mpr ⟨_, hv, rfl⟩
    obtain ⟨t', pq, _, e, ht⟩ := iv.mem1 hm
    cases e
    obtain ⟨_, its2, r2, o, ho, hc, n, hd⟩ := I.hok _ _ ht
    obtain ⟨u1, u2, rfl, ri, rj⟩ := vals2 r2
    obtain ⟨t1, rfl⟩ := ri
    obtain ⟨t2, rfl⟩ := rj
    show Srt.IsPair _ _ (pairAt H (.ref t)).1 (pairAt H (.ref t)).2
    rw [pairAt_eq ht]
    exact ⟨t, o, t1, t2, n, rfl, ho, hc, hd⟩
  · have h3 : ∀ u ∈ out, ∃ a, u = Value.ref a := fun u hu => e2 u (pmo.mem_iff.mp hu)
    obtain ⟨n, hn⟩ := hn
    have pm : (out.map backV).Perm us := by
      rw [e1]
      exact pmo.map backV
    obtain ⟨qs, ivq, pmq⟩ := Ivs.perm1 pm iv
    have fr : H d = none := I.hok.fresh hd
    have s1 : Same H (upd H d (.lst (out.map backV))) := same_new fr
    have asc : qs.Pairwise leP := by
      rw [← ivq.pairAt]
      refine List.pairwise_map.mpr (List.pairwise_map.mpr (List.Pairwise.imp (fun {x y} z => ?_) h1))
      have z := SrtO.lexB_no.mp z
      unfold leP
      omega
    refine ⟨.ref d, upd H d (.lst (out.map backV)), I.laid (t' := s.toks) kp hd ⟨?_, out, n, vals_back h3, hn⟩, rfl, q _ d _ qs s1 fr upd_same (ivq.same s1) asc pmq⟩
    rw [pm.length_eq]
    exact sz

/-! ### comprehensions over a range that change nothing but make new objects -/
theorem lcR {lo : Int} {n : Nat} {g : TG} {tt : TT} {te : TE} {vs : List Nat} {σ : L2.St} {H1 : Hp} {D : Addr} {Qd : Hp → Prop} (R : Nat → Hp → List V → Prop) (nD : H1 D = none) (few : n < 1000)
    (mono : ∀ i H' H'' ws, Tps H' H'' → R i H' ws → R i H'' ws) (len : ∀ i H' ws, R i H' ws → ws.length ≤ i) (r0 : ∀ H', R 0 H' [])
    (hs : ∀ i H' (N : Hp → Prop) acc, i < n → Same H1 H' → H' D = some (.lst acc) → acc.length < sizeLine → R i H' acc → (∀ H'', Same H' H'' → R (i + 1) H'' acc → N H'') → (∀ H'' y, Same H' H'' → R (i + 1) H'' (acc ++ [y]) → ∃ acc', H'' D = some (.lst acc') ∧ acc'.length < sizeLine ∧ N (upd H'' D (.lst (acc' ++ [y])))) →
      g (.int (lo + i)) (wipe σ vs) H' fun σ2 H2 => wipe σ2 vs = wipe σ vs ∧ tt σ2 H2 fun b H3 => if b = true then te σ2 H3 fun y H4 => ∃ acc, H4 D = some (.lst acc) ∧ acc.length < sizeLine ∧ N (upd H4 D (.lst (acc ++ [y]))) else N H3)
    (hd : ∀ H' ws, Same H1 H' → H' D = some (.lst ws) → R n H' ws → Qd H') :
    ∃ W : Nat → Nat → Hp → Prop, (∃ m, W 0 m (upd H1 D (.lst []))) ∧ ∀ i m H, W i m H →
      ((Itr lo n).stop i H ∧ Qd H) ∨ ((Itr lo n).go i H ∧ ∃ Nx : Hp → Prop, (∀ H', Nx H' → ∃ m', m' < m ∧ W (i + 1) m' H') ∧ ∀ x H', (Itr lo n).yld i H x H' → g x (wipe σ vs) H' fun σ2 H2 => wipe σ2 vs = wipe σ vs ∧ tt σ2 H2 fun b H3 =>
        if b = true then te σ2 H3 fun y H4 => ∃ acc, H4 D = some (.lst acc) ∧ acc.length < sizeLine ∧ Nx (upd H4 D (.lst (acc ++ [y]))) else Nx H3) := by
  refine lc_range (lo := lo) (n := n) (fun i H' => Same H1 H' ∧ ∃ ws, H' D = some (.lst ws) ∧ R i H' ws) ⟨same_new nD, [], upd_same, r0 _⟩ ?_ ?_
  · rintro i H' hi ⟨sm, ws, eD, r⟩
    have lw := len i H' ws r
    have sz : ws.length < sizeLine := few_line (by omega)
    refine hs i H' _ ws hi sm eD sz r (fun H'' s r2 => ⟨sm.trans s, ws, s _ _ eD, r2⟩) (fun H'' y s r2 => ?_)
    exact ⟨ws, s _ _ eD, sz, same_off nD (sm.trans s), _, upd_same, mono _ _ _ _ (Tps.lst (s _ _ eD)) r2⟩
  · rintro H' ⟨sm, ws, eD, r⟩
    exact hd H' ws sm eD r

/-! ### drawn intervals of the positions below a width -/
structure Rw (w : Int) (ps : List (Int × Int)) : Prop where
  asc : ps.Pairwise ltP
  ok : ∀ q ∈ ps, 0 ≤ q.1 ∧ q.1 ≤ q.2 ∧ q.2 < w
theorem Rw.bd {w : Int} {ps : List (Int × Int)} (h : ∀ q ∈ ps, 0 ≤ q.1 ∧ q.1 ≤ q.2 ∧ q.2 < w) (hw : w ≤ 100) : ∀ q ∈ ps, (0 ≤ q.1 ∧ q.1 < 10 ^ 13) ∧ 0 ≤ q.2 ∧ q.2 < 10 ^ 13 := fun q hq => by
  have := h q hq
  omega
theorem Rw.len {ps qs : List (Int × Int)} (asc : ps.Pairwise ltP) (mem : ∀ q, q ∈ ps ↔ q ∈ qs) : ps.length ≤ qs.length := by
  have ndp : ps.Nodup := asc.imp fun {a b} h e => by
    subst e
    rcases h with h | h <;> omega
  exact nodup_le ndp fun x hx => (mem x).mp hx
def sp_law_spans : Sp := fun vs H Q _ => ∃ (d : Addr) (c : Addr × Addr) (n width many : Int), vs = [.ref d, .int width, .int many] ∧ Dk H d c n ∧ 0 ≤ n ∧ n < 900000 ∧ 1 ≤ width ∧ width ≤ 100 ∧ 0 ≤ many ∧ many ≤ 30 ∧
  ∀ H' t us ps m, Kp d c H H' → Dk H' d c m → n ≤ m → m ≤ n + 3 * many → H' t = some (.tup us) → Ivs H' us ps → Rw width ps → (ps.length : Int) ≤ many → Q (.ref t) H'
theorem pick2 {r a b : Int} (h0 : 0 ≤ r) (h1 : r < 2) : ∃ L : Int, atI [V.int a, .int b] r = some (.int L) ∧ (L = a ∨ L = b) := by
  have : r = 0 ∨ r = 1 := by omega
  rcases this with rfl | rfl
  · exact ⟨a, rfl, .inl rfl⟩
  · exact ⟨b, rfl, .inr rfl⟩
theorem ok_law_spans (T : Tx K mg f_contains f_intersect f_pieces_inside f_first_gap f_generates f_has_open_demand f_widen f_law_draws f_law_next f_law_spans f_law_targets f_law_scaled f_law_served f_law_demands f_law_due f_law d_contains d_intersect d_pieces_inside d_first_gap d_generates d_has_open_demand d_widen d_law_draws d_law_next d_law_spans d_law_targets d_law_scaled d_law_served d_law_demands d_law_due d_law) : FnOk P w K mg base CX0 2 f_law_spans d_law_spans ["_law_state", "_law_width", "_law_many"] sp_law_spans := by
  refine T.F_law_spans.ok sc_law_spans (fun vs H Q E h => ?_) (fun cdv A outer s H vs Q E hr h => ?_)
  · obtain ⟨d, c, n, width, many, rfl, _⟩ := h
    rfl
  · obtain ⟨d, c, n, width, many, rfl, dk, n0, n1, w0, w1, m0, m1, q⟩ := h
    refine ⟨_, (pss_cons (ps_set (i := 3) sc_law_spans.nd rfl (Or.inl rfl) (pe_lst pa_nil))
      (pss_cons (ps_for PassesOwn.never rfl (pi_range1 (by rfl) T.z_range (pa_cons (pv 2) pa_nil)) (pg_name (i := 4) sc_law_spans.nd rfl (Or.inl rfl))
      (pss_cons (ps_set (i := 5) sc_law_spans.nd rfl (Or.inl rfl) (pe_call (ok_law_next T) (hr.mono (by decide)) (by rfl) T.g_law_next T.F_law_next.kp T.b_law_next .nil pass0 (pa_cons (pv 0) (pa_cons (pv 1) pa_nil))))
      (pss_one (ps_expr (pe_bm PySem.F.plainAttrs_list PySem.F.slot_list_append PySem.F.type_list_append mt_append (pv 3) (pa_cons (pe_tup (pa_cons (pv 5) (pa_cons (pe_callB (call_min2 rfl) (by rfl) T.z_min (by decide +kernel) (pa_cons (pe_op op_sub (pv 1) pe_int) (pa_cons (pe_op op_add (pv 5) (pe_call (ok_law_next T) (hr.mono (by decide)) (by rfl) T.g_law_next T.F_law_next.kp T.b_law_next .nil pass0 (pa_cons (pv 0) (pa_cons (pe_ix ix_list (pe_lst (pa_cons pe_int (pa_cons (pv 1) pa_nil))) (pe_call (ok_law_next T) (hr.mono (by decide)) (by rfl) T.g_law_next T.F_law_next.kp T.b_law_next .nil pass0 (pa_cons (pv 0) (pa_cons pe_int pa_nil))) (fun _ _ => rfl)) pa_nil)))) pa_nil))) pa_nil))) pa_nil))))))
      (pss_one (ps_ret (pe_callTy call_tuple_of (by rfl) T.z_tuple (by decide +kernel) (pa_cons (pe_callB (cr_sortedT rfl) (by rfl) T.z_sorted (by decide +kernel) (pa_cons (pe_callTy (cr_setOfT rfl hr.units) (by rfl) T.z_set (by decide +kernel) (pa_cons (pv 3) pa_nil)) pa_nil)) pa_nil)))))), ?_⟩
    refine ⟨by show 0 ≤ sizeLine; decide, fun l nl => ?_⟩
    have offl := dk.off nl
    refine ⟨.int many, rfl, many, rfl, by omega, by omega, for_range (n := many.toNat) (fun i σ H' => (Kp d c H H' ∧ Dk H' d c (n + 3 * i)) ∧ (∃ us ps, H' l = some (.lst us) ∧ Ivs H' us ps ∧ ps.length = i ∧ ∀ q ∈ ps, 0 ≤ q.1 ∧ q.1 ≤ q.2 ∧ q.2 < width) ∧ ∃ y4 y5, σ = [some (.ref d), some (.int width), some (.int many), some (.ref l), y4, y5])
      ⟨⟨Kp.same (same_new nl), (dk.upd offl).eq (by simp)⟩, ⟨[], [], upd_same, .nil, rfl, fun q hq => nomatch hq⟩, _, _, rfl⟩ ?_ ?_⟩
    · rintro i σ H1 hi ⟨⟨kp1, dk1⟩, ⟨us, ps, el, iv, pl, pin⟩, y4, y5, rfl⟩
      refine ⟨.ref d, rfl, .int width, rfl, d, c, _, width, rfl, dk1, by omega, by omega, by omega, by omega, fun H2 low kp2 dk2 a0 a1 => ?_⟩
      have el2 := kp2.keep offl el
      refine ⟨.ref l, rfl, .inl ⟨rfl, _, SqL.of el2⟩, .int low, rfl, .int width, rfl, _, _, rfl, rfl, .int low, rfl, .ref d, rfl, .int width, rfl, by show 2 ≤ sizeLine; decide, fun p2 np2 => ?_⟩
      have off2 := dk2.off np2
      refine ⟨.ref d, rfl, d, c, _, 2, rfl, dk2.kept (same_new np2), by omega, by omega, by decide, by decide, fun H3 r2 kp3 dk3 b0 b1 => ?_⟩
      obtain ⟨L, eL, hL⟩ := pick2 (a := 2) (b := width) b0 b1
      refine ⟨p2, _, r2, _, rfl, rfl, SqL.of (kp3.keep off2 upd_same), eL, d, c, _, L, rfl, dk3, by omega, by omega, by omega, by omega, fun H4 r3 kp4 dk4 c0 c1 => ?_⟩
      refine ⟨_, _, rfl, rfl, _, _, rfl, by show 2 ≤ sizeLine; decide, fun t nt => ?_⟩
      have kp24 : Kp d c H2 H4 := (Kp.same (same_new np2)).trans (kp3.trans kp4)
      have el4 := kp24.keep offl el2
      have iv4 := iv.tps ((kp2.trans kp24).tps dk1)
      obtain ⟨hi2, ehi, h1, h2⟩ : ∃ hi2 : Int, (if low + r3 < width - 1 then low + r3 else width - 1) = hi2 ∧ low ≤ hi2 ∧ hi2 < width := ⟨_, rfl, by split <;> omega, by split <;> omega⟩
      rw [ehi]
      have s5 := same_new (o := .tup [.int low, .int hi2]) nt
      have et := upd_same (H := H4) (a := t) (o := .tup [.int low, .int hi2])
      generalize upd H4 t (.tup [.int low, .int hi2]) = H5 at *
      refine ⟨l, _, _, rfl, rfl, s5 _ _ el4, by rw [iv.length]; exact small1000 (by omega), ⟨?_, ?_⟩, ⟨us ++ [.ref t], ps ++ [(low, hi2)], upd_same, ?_, by rw [List.length_append, pl]; rfl, fun q hq => ?_⟩, _, _, rfl⟩
      · intro b o n1 n2 e
        rw [upd_ne (ne_of_none e nl)]
        exact s5 _ _ (kp24 b o n1 n2 (kp2 b o n1 n2 (kp1 b o n1 n2 e)))
      · exact ((dk4.kept s5).upd offl).eq (by omega)
      · exact ((iv4.same s5).snoc et).tps (Tps.lst (s5 _ _ el4))
      · rcases List.mem_append.mp hq with hq | hq
        · exact pin q hq
        · rw [List.mem_singleton.mp hq]
          exact ⟨a0, h1, h2⟩
    · rintro σ H1 ⟨⟨kp1, dk1⟩, ⟨us, ps, el, iv, pl, pin⟩, y4, y5, rfl⟩
      refine ⟨.ref l, rfl, ?_⟩
      dsimp only [tNil]
      refine sorted_set_pairs (SqL.of el) iv (by omega) (Rw.bd pin w1) (fun H2 p us' ps' s2 np ep iv' asc mem => ?_)
      refine ⟨p, us', rfl, .inl ⟨SqL.of ep, fun t nt => ?_⟩⟩
      have s3 := same_new (o := .tup us') nt
      have nd := Rw.len asc mem
      exact q _ t us' ps' _ (kp1.trans (Kp.same (s2.trans s3))) (dk1.kept (s2.trans s3)) (by omega) (by omega) upd_same (iv'.same s3) ⟨asc, fun q hq => pin q ((mem q).mp hq)⟩ (by omega)
def sp_law_targets : Sp := fun vs H Q _ => ∃ (d : Addr) (c : Addr × Addr) (n width most : Int), vs = [.ref d, .int width, .int most] ∧ Dk H d c n ∧ 0 ≤ n ∧ n < 800000 ∧ 1 ≤ width ∧ width ≤ 30 ∧ 0 ≤ most ∧ most ≤ 30 ∧
  ∀ H' t us ps m, Kp d c H H' → Dk H' d c m → n ≤ m → m ≤ n + 3 + 3 * most → H' t = some (.tup us) → Ivs H' us ps → Rw width ps → (ps.length : Int) ≤ most → Q (.ref t) H'
theorem Rw.take {w : Int} {ps : List (Int × Int)} (h : Rw w ps) (n : Nat) : Rw w (ps.take n) := ⟨h.asc.sublist (List.take_sublist _ _), fun q hq => h.ok q (List.mem_of_mem_take hq)⟩
theorem ok_law_targets (T : Tx K mg f_contains f_intersect f_pieces_inside f_first_gap f_generates f_has_open_demand f_widen f_law_draws f_law_next f_law_spans f_law_targets f_law_scaled f_law_served f_law_demands f_law_due f_law d_contains d_intersect d_pieces_inside d_first_gap d_generates d_has_open_demand d_widen d_law_draws d_law_next d_law_spans d_law_targets d_law_scaled d_law_served d_law_demands d_law_due d_law) : FnOk P w K mg base CX0 3 f_law_targets d_law_targets ["_law_state", "_law_width", "_law_most"] sp_law_targets := by
  refine T.F_law_targets.ok sc_law_targets (fun vs H Q E h => ?_) (fun cdv A outer s H vs Q E hr h => ?_)
  · obtain ⟨d, c, n, width, most, rfl, _⟩ := h
    rfl
  · obtain ⟨d, c, n, width, most, rfl, dk, n0, n1, w0, w1, m0, m1, q⟩ := h
    refine ⟨_, (pss_cons (ps_set (i := 3) sc_law_targets.nd rfl (Or.inl rfl) (pe_call (ok_law_next T) (hr.mono (by decide)) (by rfl) T.g_law_next T.F_law_next.kp T.b_law_next .nil pass0 (pa_cons (pv 0) (pa_cons pe_int pa_nil))))
      (pss_cons (ps_set (i := 4) sc_law_targets.nd rfl (Or.inr rfl) (pe_op op_add pe_int (pe_call (ok_law_next T) (hr.mono (by decide)) (by rfl) T.g_law_next T.F_law_next.kp T.b_law_next .nil pass0 (pa_cons (pv 0) (pa_cons (pv 1) pa_nil)))))
      (pss_cons (ps_set (i := 5) sc_law_targets.nd rfl (Or.inl rfl) (pe_call (ok_law_spans T) (hr.mono (by decide)) (by rfl) T.g_law_spans T.F_law_spans.kp T.b_law_spans .nil pass0 (pa_cons (pv 0) (pa_cons (pv 1) (pa_cons (pe_call (ok_law_next T) (hr.mono (by decide)) (by rfl) T.g_law_next T.F_law_next.kp T.b_law_next .nil pass0 (pa_cons (pv 0) (pa_cons (pe_op op_add (pv 2) pe_int) pa_nil))) pa_nil)))))
      (pss_cons (ps_if (pt_cmpR op_eq (pv 3) pe_int (nomark _))
      (pss_one (ps_set (i := 5) sc_law_targets.nd rfl (Or.inl rfl) (pe_callTy call_tuple_of (by rfl) T.z_tuple (by decide +kernel) (pa_cons (pe_lc (own := [("_law_low", 6)]) (g := (gName 6)) (tt := tYes) (by rfl) sc_law_targets.nd (pi_range1 (by rfl) T.z_range (pa_cons (pe_op op_add (pe_op op_sub (pv 1) (pv 4)) pe_int) pa_nil)) (blkOk_by (own := [("_law_low", 6)]) (N := N_law_targets) (sc := defScope s_law_targets) (by decide +kernel)) (fun _ _ _ _ _ => (pg_name (i := 6) sc_law_targets.nd rfl (Or.inl rfl))) (fun _ _ _ _ _ => pts_nil) (fun _ _ _ _ _ => (pe_tup (pa_cons (pv 6) (pa_cons (pe_op op_sub (pe_op op_add (pv 6) (pv 4)) pe_int) pa_nil))))) pa_nil))))
      pss_nil)
      (pss_cons (ps_if (pt_cmpR op_eq (pv 3) pe_int (nomark _))
      (pss_one (ps_set (i := 5) sc_law_targets.nd rfl (Or.inl rfl) (pe_callTy call_tuple_of (by rfl) T.z_tuple (by decide +kernel) (pa_cons (pe_lc (own := [("_law_low", 6), ("_law_high", 7)]) (g := (gTup K 2 (gCons (gName 6) (gCons (gName 7) gNil)))) (by rfl) sc_law_targets.nd (pi_tup (pv 5)) (blkOk_by (own := [("_law_low", 6), ("_law_high", 7)]) (N := N_law_targets) (sc := defScope s_law_targets) (by decide +kernel)) (fun _ _ _ _ _ => (pg_tup rfl (pgs_cons (pg_name (i := 6) sc_law_targets.nd rfl (Or.inl rfl)) (pgs_cons (pg_name (i := 7) sc_law_targets.nd rfl (Or.inl rfl)) pgs_nil)))) (fun _ _ _ _ _ => pts_one (pt_chain op_lt op_le (pv 6) (pv 4) (pe_op op_add (pv 7) pe_int))) (fun _ _ _ _ _ => (pe_tup (pa_cons (pv 6) (pa_cons (pv 7) pa_nil))))) pa_nil))))
      pss_nil)
      (pss_cons (ps_if (pt_cmpR op_eq (pv 3) pe_int (nomark _))
      (pss_one (ps_set (i := 5) sc_law_targets.nd rfl (Or.inl rfl) (pe_callTy call_tuple_of (by rfl) T.z_tuple (by decide +kernel) (pa_cons (pe_callB (cr_sortedT rfl) (by rfl) T.z_sorted (by decide +kernel) (pa_cons (pe_callTy (cr_setOfT rfl hr.units) (by rfl) T.z_set (by decide +kernel) (pa_cons (pe_lc (own := [("_law_low", 6), ("_law_high", 7)]) (g := (gTup K 2 (gCons (gName 6) (gCons (gName 7) gNil)))) (by rfl) sc_law_targets.nd (pi_tup (pv 5)) (blkOk_by (own := [("_law_low", 6), ("_law_high", 7)]) (N := N_law_targets) (sc := defScope s_law_targets) (by decide +kernel)) (fun _ _ _ _ _ => (pg_tup rfl (pgs_cons (pg_name (i := 6) sc_law_targets.nd rfl (Or.inl rfl)) (pgs_cons (pg_name (i := 7) sc_law_targets.nd rfl (Or.inl rfl)) pgs_nil)))) (fun _ _ _ _ _ => pts_one (pt_cmpR op_lt (pv 6) (pv 4) (nomark _))) (fun _ _ _ _ _ => (pe_tup (pa_cons (pv 6) (pa_cons (pe_callB (call_max2 rfl) (by rfl) T.z_max (by decide +kernel) (pa_cons (pv 7) (pa_cons (pe_op op_sub (pv 4) pe_int) pa_nil))) pa_nil))))) pa_nil)) pa_nil)) pa_nil))))
      pss_nil)
      (pss_one (ps_ret (pe_slice sl_tupA (pv 5) po_none (po_some (pv 2))))))))))), ?_⟩
    refine ⟨.ref d, rfl, d, c, n, 5, rfl, dk, n0, by omega, by decide, by decide, fun H1 kind kp1 dk1 k0 k1 => ?_⟩
    refine ⟨.ref d, rfl, .int width, rfl, d, c, _, width, rfl, dk1, by omega, by omega, by omega, by omega, fun H2 r kp2 dk2 r0 r1 => ?_⟩
    refine ⟨_, _, rfl, rfl, ?_⟩
    refine ⟨.ref d, rfl, .int width, rfl, .ref d, rfl, .int most, rfl, _, _, rfl, rfl, d, c, _, most + 1, rfl, dk2, by omega, by omega, by omega, by omega, fun H3 mm kp3 dk3 mm0 mm1 => ?_⟩
    refine ⟨d, c, _, width, mm, rfl, dk3, by omega, by omega, w0, by omega, mm0, by omega, fun H4 f us ps m kp4 dk4 g0 g1 ef iv rw pl => ?_⟩
    have kp : Kp d c H H4 := kp1.trans (kp2.trans (kp3.trans kp4))
    have lu := iv.length
    have fin : ∀ {Hx : Hp} {fx : Addr} {ux : List V} {px : List (Int × Int)}, Same H4 Hx → Hx fx = some (.tup ux) → Ivs Hx ux px → Rw width px → rSlA K (.ref fx) none (some most) Hx Q := fun {Hx fx ux px} sx ex ivx rx => by
      refine slA_any ex (fun H' p s' ep => ?_)
      obtain ⟨k, rfl⟩ : ∃ k : Nat, most = k := ⟨most.toNat, by omega⟩
      rw [cutTo] at ep
      exact q _ p _ (px.take k) _ (kp.trans (Kp.same (sx.trans s'))) (dk4.kept (sx.trans s')) (by omega) (by omega) ep ((ivx.same s').take k) (rx.take k) (by have := List.length_take_le k px; omega)
    refine ⟨.int kind, rfl, rfl, _, rfl, ite2 (fun c0 => ?_) (fun c0 => ?_)⟩
    · have e0 : kind = 0 := by
        have := of_decide_eq_true c0
        injection this
      subst e0
      refine ⟨.int width, rfl, _, rfl, _, _, rfl, rfl, _, _, rfl, rfl, _, rfl, by omega, by omega, fun D nD => ?_⟩
      refine lcR (lo := 0) (n := (width - (1 + r) + 1).toNat) (fun j H' ws => ∃ rs, Ivs H' ws rs ∧ rs.length = j ∧ rs.Pairwise ltP ∧ ∀ q ∈ rs, (0 ≤ q.1 ∧ q.1 ≤ q.2 ∧ q.2 < width) ∧ q.1 < j) nD (by omega) (fun _ _ _ _ t ⟨rs, h1, h2⟩ => ⟨rs, h1.tps t, h2⟩) (fun j H' ws ⟨rs, h1, h2, _⟩ => by rw [h1.length, h2]; exact Nat.le_refl _) (fun _ => ⟨[], .nil, rfl, .nil, fun q hq => nomatch hq⟩) ?_ ?_
      · rintro j H' N acc hj sj eA sz ⟨rs, i1, i2, i3, i4⟩ no yes
        refine ⟨rfl, .int (0 + (j : Nat)), rfl, .int (0 + (j : Nat)), rfl, _, rfl, _, _, rfl, rfl, _, _, rfl, rfl, by show 2 ≤ sizeLine; decide, fun t nt => ?_⟩
        refine yes _ _ (same_new nt) ⟨rs ++ [(0 + (j : Int), 0 + (j : Int) + (1 + r) - 1)], ((i1.same (same_new nt)).snoc upd_same), by rw [List.length_append, i2]; rfl, List.pairwise_append.mpr ⟨i3, List.pairwise_singleton _ _, fun a ha b hb => ?_⟩, fun q hq => ?_⟩
        · rw [List.mem_singleton.mp hb]
          have := (i4 a ha).2
          exact .inl (by show a.1 < 0 + (j : Int); omega)
        · rcases List.mem_append.mp hq with hq | hq
          · have := i4 q hq
            exact ⟨this.1, by omega⟩
          · rw [List.mem_singleton.mp hq]
            refine ⟨⟨?_, ?_, ?_⟩, ?_⟩
            · show 0 ≤ 0 + (j : Int)
              omega
            · show 0 + (j : Int) ≤ 0 + (j : Int) + (1 + r) - 1
              omega
            · show 0 + (j : Int) + (1 + r) - 1 < width
              omega
            · show 0 + (j : Int) < ((j + 1 : Nat) : Int)
              omega
      · rintro H5 ws s5 eD ⟨rs, i1, i2, i3, i4⟩
        refine ⟨D, ws, rfl, .inl ⟨SqL.of eD, fun t nt => ?_⟩⟩
        have s6 := same_new (o := .tup ws) nt
        refine ⟨.int 0, rfl, rfl, _, rfl, iteF ⟨.int 0, rfl, rfl, _, rfl, iteF ⟨.ref t, rfl, .int most, rfl, most, rfl, fin (s5.trans s6) upd_same (i1.same s6) ⟨i3, fun q hq => (i4 q hq).1⟩⟩⟩⟩
    · have e0 : kind ≠ 0 := fun e => c0 (decide_eq_true (by rw [e]))
      refine ⟨.int kind, rfl, rfl, _, rfl, ite2 (fun c1 => ?_) (fun c1 => ?_)⟩
      · have e1 : kind = 1 := by
          have := of_decide_eq_true c1
          injection this
        subst e1
        refine ⟨.ref f, rfl, f, rfl, ⟨_, SqT.of ef⟩, fun D nD => ?_⟩
        refine lcT (K := K) (a := f) (xs := us) (fun j H' ws => ∃ rs : List (Int × Int), Ivs H' ws rs ∧ rs.length ≤ j ∧ rs.Sublist (ps.take j)) nD (fun H' s => SqT.of (s _ _ (ef))) (by omega) (fun _ _ _ _ t r => (let ⟨rs, h1, h2⟩ := r; ⟨rs, h1.tps t, h2⟩)) (fun j H' ws r => (by obtain ⟨rs, h1, h2, _⟩ := r; rw [h1.length]; exact h2)) (fun _ => ⟨[], .nil, Nat.le_refl _, List.nil_sublist _⟩) ?_ ?_
        · rintro j z H' N acc hj sj eA sz ⟨rs, i1, i2, i3⟩ no yes
          obtain ⟨b, x, y, rfl, exy, hb⟩ := iv.get hj
          have up : ps.take (j + 1) = ps.take j ++ [(x, y)] := by
            rw [List.take_add_one, exy]
            rfl
          have skip : N H' := no H' (Same.refl _) ⟨rs, i1, by omega, by rw [up]; exact i3.trans (List.sublist_append_left _ _)⟩
          refine ⟨b, _, rfl, SqT.of (sj _ _ hb), rfl, .int x, [.int y], rfl, .int y, [], rfl, rfl, rfl, .int x, rfl, _, rfl, _, _, rfl, rfl, _, rfl, ite2 (fun c2 => ?_) (fun c2 => ?_)⟩
          · refine ⟨.int y, rfl, _, _, rfl, rfl, _, _, rfl, rfl, _, rfl, ite2 (fun c3 => ?_) (fun c3 => skip)⟩
            refine ⟨.int x, rfl, .int y, rfl, by show 2 ≤ sizeLine; decide, fun t nt => ?_⟩
            refine yes _ _ (same_new nt) ⟨rs ++ [(x, y)], (i1.same (same_new nt)).snoc upd_same, by rw [List.length_append]; show _ + 1 ≤ _; omega, by rw [up]; exact i3.append (List.Sublist.refl _)⟩
          · exact ⟨_, rfl, iteF skip⟩
        · rintro H5 ws s5 eD ⟨rs, i1, i2, i3⟩
          rw [lu, List.take_length] at i3
          refine ⟨D, ws, rfl, .inl ⟨SqL.of eD, fun t nt => ?_⟩⟩
          have s6 := same_new (o := .tup ws) nt
          refine ⟨.int 1, rfl, rfl, _, rfl, iteF ⟨.ref t, rfl, .int most, rfl, most, rfl, fin (s5.trans s6) upd_same (i1.same s6) ⟨rw.asc.sublist i3, fun q hq => rw.ok q (i3.mem hq)⟩⟩⟩
      · have e1 : kind ≠ 1 := fun e => c1 (decide_eq_true (by rw [e]))
        refine ⟨.int kind, rfl, rfl, _, rfl, ite2 (fun c2 => ?_) (fun c2 => ?_)⟩
        · refine ⟨.ref f, rfl, f, rfl, ⟨_, SqT.of ef⟩, fun D nD => ?_⟩
          refine lcT (K := K) (a := f) (xs := us) (fun j H' ws => ∃ rs : List (Int × Int), Ivs H' ws rs ∧ rs.length ≤ j ∧ ∀ q ∈ rs, 0 ≤ q.1 ∧ q.1 ≤ q.2 ∧ q.2 < width) nD (fun H' s => SqT.of (s _ _ (ef))) (by omega) (fun _ _ _ _ t r => (let ⟨rs, h1, h2⟩ := r; ⟨rs, h1.tps t, h2⟩)) (fun j H' ws r => (by obtain ⟨rs, h1, h2, _⟩ := r; rw [h1.length]; exact h2)) (fun _ => ⟨[], .nil, Nat.le_refl _, fun q hq => nomatch hq⟩) ?_ ?_
          · rintro j z H' N acc hj sj eA sz ⟨rs, i1, i2, i3⟩ no yes
            obtain ⟨b, x, y, rfl, exy, hb⟩ := iv.get hj
            have ok := rw.ok _ (List.mem_of_getElem? exy)
            refine ⟨b, _, rfl, SqT.of (sj _ _ hb), rfl, .int x, [.int y], rfl, .int y, [], rfl, rfl, rfl, .int x, rfl, _, rfl, _, _, rfl, rfl, _, rfl, ite2 (fun c3 => ?_) (fun c3 => no H' (Same.refl _) ⟨rs, i1, by omega, i3⟩)⟩
            have c3 := of_decide_eq_true c3
            refine ⟨.int x, rfl, .int y, rfl, _, rfl, _, _, rfl, rfl, _, _, rfl, by show 2 ≤ sizeLine; decide, fun t nt => ?_⟩
            obtain ⟨h, eh, h1, h2⟩ : ∃ h : Int, (if 1 + r - 1 > y then 1 + r - 1 else y) = h ∧ x ≤ h ∧ h < width := ⟨_, rfl, by split <;> omega, by split <;> omega⟩
            rw [eh] at *
            refine yes _ _ (same_new nt) ⟨rs ++ [(x, h)], (i1.same (same_new nt)).snoc upd_same, by rw [List.length_append]; show _ + 1 ≤ _; omega, fun q hq => ?_⟩
            rcases List.mem_append.mp hq with hq | hq
            · exact i3 q hq
            · rw [List.mem_singleton.mp hq]
              exact ⟨ok.1, h1, h2⟩
          · rintro H5 ws s5 eD ⟨rs, i1, i2, i3⟩
            dsimp only [tNil]
            refine sorted_set_pairs (SqL.of eD) i1 (by omega) (Rw.bd i3 (by omega)) (fun H6 p us' ps' s6 np ep iv' asc mem => ?_)
            refine ⟨p, us', rfl, .inl ⟨SqL.of ep, fun t nt => ?_⟩⟩
            have s7 := same_new (o := .tup us') nt
            refine ⟨.ref t, rfl, .int most, rfl, most, rfl, fin (s5.trans (s6.trans s7)) upd_same (iv'.same s7) ⟨asc, fun q hq => i3 q ((mem q).mp hq)⟩⟩
        · exact ⟨.ref f, rfl, .int most, rfl, most, rfl, fin (Same.refl _) ef iv rw⟩

theorem far3 {r : Int} (h0 : 0 ≤ r) (h1 : r < 3) : ∃ F : Int, atI [V.int 1, .int 3, .int ((10 : Int) ^ (11 : Int).toNat)] r = some (.int F) ∧ 0 < F ∧ F ≤ 100000000000 := by
  have : r = 0 ∨ r = 1 ∨ r = 2 := by omega
  rcases this with rfl | rfl | rfl
  · exact ⟨1, rfl, by decide, by decide⟩
  · exact ⟨3, rfl, by decide, by decide⟩
  · exact ⟨_, rfl, by decide, by decide⟩

theorem in_two {w : Int} {ts ps : List (Int × Int)} (h1 : ∀ q ∈ ts, 0 ≤ q.1 ∧ q.1 ≤ q.2 ∧ q.2 < w) (h2 : ∀ q ∈ ps, 0 ≤ q.1 ∧ q.1 ≤ q.2 ∧ q.2 < w) : ∀ q ∈ ts ++ ps, 0 ≤ q.1 ∧ q.1 ≤ q.2 ∧ q.2 < w := fun q hq => by
  rcases List.mem_append.mp hq with hq | hq
  · exact h1 q hq
  · exact h2 q hq
theorem in_one {w : Int} {q : Int × Int} (h : 0 ≤ q.1 ∧ q.1 ≤ q.2 ∧ q.2 < w) : ∀ p ∈ [q], 0 ≤ p.1 ∧ p.1 ≤ p.2 ∧ p.2 < w := fun p hp => by
  rw [List.mem_singleton.mp hp]
  exact h
theorem in_up {w v : Int} {ts : List (Int × Int)} (h : ∀ q ∈ ts, 0 ≤ q.1 ∧ q.1 ≤ q.2 ∧ q.2 < w) (hv : w ≤ v) : ∀ q ∈ ts, 0 ≤ q.1 ∧ q.1 ≤ q.2 ∧ q.2 < v := fun q hq => by
  have := h q hq
  omega
theorem in_take {w : Int} {ts : List (Int × Int)} (h : ∀ q ∈ ts, 0 ≤ q.1 ∧ q.1 ≤ q.2 ∧ q.2 < w) (n : Nat) : ∀ q ∈ ts.take n, 0 ≤ q.1 ∧ q.1 ≤ q.2 ∧ q.2 < w := fun q hq => h q (List.mem_of_mem_take hq)
theorem mul_le_iff {a b f : Int} (hf : 0 < f) : a * f ≤ b * f ↔ a ≤ b := ⟨fun h => Int.le_of_mul_le_mul_right h hf, fun h => Int.mul_le_mul_of_nonneg_right h (by omega)⟩

def sp_law_scaled : Sp := fun vs H Q _ => ∃ (a : Addr) (us : List V) (ps : List (Int × Int)) (far bas : Int), vs = [.ref a, .int far, .int bas] ∧ H a = some (.tup us) ∧ Ivs H us ps ∧ ps.length < 1000 ∧ (∀ q ∈ ps, 0 ≤ q.1 ∧ q.1 ≤ q.2 ∧ q.2 < 100) ∧ 0 < far ∧ far ≤ 100000000000 ∧ 0 ≤ bas ∧ bas ≤ 100 ∧
  ∀ H' p ws, Same H H' → H' p = some (.tup ws) → Ivs H' ws (ps.map (strI far bas)) → Q (.ref p) H'
theorem ok_law_scaled (T : Tx K mg f_contains f_intersect f_pieces_inside f_first_gap f_generates f_has_open_demand f_widen f_law_draws f_law_next f_law_spans f_law_targets f_law_scaled f_law_served f_law_demands f_law_due f_law d_contains d_intersect d_pieces_inside d_first_gap d_generates d_has_open_demand d_widen d_law_draws d_law_next d_law_spans d_law_targets d_law_scaled d_law_served d_law_demands d_law_due d_law) : FnOk P w K mg base CX0 1 f_law_scaled d_law_scaled ["_law_intervals", "_law_far", "_law_base"] sp_law_scaled := by
  refine T.F_law_scaled.ok sc_law_scaled (fun vs H Q E h => ?_) (fun cdv A outer s H vs Q E hr h => ?_)
  · obtain ⟨a, us, ps, far, bas, rfl, _⟩ := h
    rfl
  · obtain ⟨a, us, ps, far, bas, rfl, ha, iv, few, ok, f0, f1, b0, b1, q⟩ := h
    refine ⟨_, (pss_one (ps_ret (pe_callTy call_tuple_of (by rfl) T.z_tuple (by decide +kernel) (pa_cons (pe_lc (own := [("_law_low", 3), ("_law_high", 4)]) (g := (gTup K 2 (gCons (gName 3) (gCons (gName 4) gNil)))) (tt := tYes) (by rfl) sc_law_scaled.nd (pi_tup (pv 0)) (blkOk_by (own := [("_law_low", 3), ("_law_high", 4)]) (N := N_law_scaled) (sc := defScope s_law_scaled) (by decide +kernel)) (fun _ _ _ _ _ => (pg_tup rfl (pgs_cons (pg_name (i := 3) sc_law_scaled.nd rfl (Or.inl rfl)) (pgs_cons (pg_name (i := 4) sc_law_scaled.nd rfl (Or.inl rfl)) pgs_nil)))) (fun _ _ _ _ _ => pts_nil) (fun _ _ _ _ _ => (pe_tup (pa_cons (pe_op op_add (pv 2) (pe_op op_mulW (pv 1) (pv 3))) (pa_cons (pe_op op_sub (pe_op op_add (pe_op op_add (pv 2) (pe_op op_mulW (pv 1) (pv 4))) (pv 1)) pe_int) pa_nil))))) pa_nil)))), ?_⟩
    have lu := iv.length
    refine ⟨.ref a, rfl, a, rfl, ⟨_, SqT.of ha⟩, fun D nD => ?_⟩
    refine lcT (K := K) (a := a) (xs := us) (fun j H' ws => Ivs H' ws ((ps.take j).map (strI far bas))) nD (fun H' s => SqT.of (s _ _ (ha))) (by omega) (fun _ _ _ _ t r => r.tps t) (fun j H' ws r => (by rw [r.length, List.length_map]; exact List.length_take_le _ _)) (fun _ => .nil) ?_ ?_
    · rintro j z H' N acc hj sj eA sz r no yes
      obtain ⟨b, x, y, rfl, exy, hb⟩ := iv.get hj
      have o := ok _ (List.mem_of_getElem? exy)
      have x64 : x.natAbs < 2 ^ 64 := by omega
      have y64 : y.natAbs < 2 ^ 64 := by omega
      have f64 : far.natAbs < 2 ^ 64 := by omega
      refine ⟨b, _, rfl, SqT.of (sj _ _ hb), rfl, .int x, [.int y], rfl, .int y, [], rfl, rfl, rfl, .int bas, rfl, .int far, rfl, .int x, rfl, _, _, rfl, rfl, wide_mul (a := 64) (b := 64) f64 x64 (by decide) (by decide) (by decide), _, _, rfl, rfl, .int bas, rfl, .int far, rfl, .int y, rfl, _, _, rfl, rfl, wide_mul (a := 64) (b := 64) f64 y64 (by decide) (by decide) (by decide), _, _, rfl, rfl, .int far, rfl, _, _, rfl, rfl, _, _, rfl, rfl, by show 2 ≤ sizeLine; decide, fun t nt => ?_⟩
      refine yes _ _ (same_new nt) ?_
      rw [List.take_add_one, exy, List.map_append]
      refine (r.same (same_new nt)).append (.cons (x := x * far + bas) (y := y * far + far - 1 + bas) ?_ .nil)
      rw [show x * far + bas = bas + far * x by rw [Int.mul_comm]; omega, show y * far + far - 1 + bas = bas + far * y + far - 1 by rw [Int.mul_comm]; omega]
      exact upd_same
    · intro H1 ws s1 eD r
      rw [lu, List.take_length] at r
      refine ⟨D, ws, rfl, .inl ⟨SqL.of eD, fun p np => ?_⟩⟩
      exact q _ p ws (s1.trans (same_new np)) upd_same (r.same (same_new np))

/-- rows of intervals -/
inductive Rws (H : Hp) : List V → List (List (Int × Int)) → Prop
  | nil : Rws H [] []
  | cons {a : Addr} {us : List V} {r : List (Int × Int)} {vs : List V} {rs : List (List (Int × Int))} : H a = some (.tup us) → Ivs H us r → Rws H vs rs → Rws H (.ref a :: vs) (r :: rs)
theorem Rws.length {H : Hp} {vs : List V} {rs : List (List (Int × Int))} (h : Rws H vs rs) : vs.length = rs.length := by
  induction h with
  | nil => rfl
  | cons _ _ _ ih => rw [List.length_cons, List.length_cons, ih]
theorem Rws.tps {H H' : Hp} (s : Tps H H') {vs : List V} {rs : List (List (Int × Int))} (h : Rws H vs rs) : Rws H' vs rs := by
  induction h with
  | nil => exact .nil
  | cons e i _ ih => exact .cons (s _ _ e) (i.tps s) ih
theorem Rws.get {H : Hp} {vs : List V} {rs : List (List (Int × Int))} (h : Rws H vs rs) : ∀ {i : Nat} {v : V}, vs[i]? = some v → ∃ a us r, v = .ref a ∧ rs[i]? = some r ∧ H a = some (.tup us) ∧ Ivs H us r := by
  induction h with
  | nil =>
    intro i v e
    simp at e
  | cons e k _ ih =>
    intro i v q
    cases i with
    | zero =>
      cases q
      exact ⟨_, _, _, rfl, rfl, e, k⟩
    | succ i => exact ih q
theorem Rws.append {H : Hp} {vs us : List V} {rs qs : List (List (Int × Int))} (h : Rws H vs rs) (h2 : Rws H us qs) : Rws H (vs ++ us) (rs ++ qs) := by
  induction h with
  | nil => exact h2
  | cons e i _ ih => exact .cons e i ih

/-! ### the first gap of a target -/
def covI (ps : List (Int × Int)) (lo hi p : Int) : Prop := ∃ q ∈ ps, (lo ≤ q.1 ∧ q.2 ≤ hi) ∧ q.1 ≤ p ∧ p ≤ q.2
def IsGap (ps : List (Int × Int)) (lo hi : Int) : Option Int → Prop
  | none => ∀ p, lo ≤ p → p ≤ hi → covI ps lo hi p
  | some g => (lo ≤ g ∧ g ≤ hi) ∧ ¬ covI ps lo hi g ∧ ∀ p, lo ≤ p → p < g → covI ps lo hi p
theorem IsGap.uniq {ps : List (Int × Int)} {lo hi : Int} : ∀ {o o' : Option Int}, IsGap ps lo hi o → IsGap ps lo hi o' → o = o'
  | none, none, _, _ => rfl
  | none, some g, h, h' => absurd (h g h'.1.1 h'.1.2) h'.2.1
  | some g, none, h, h' => absurd (h' g h.1.1 h.1.2) h.2.1
  | some g, some g', h, h' => by
    rcases Int.lt_trichotomy g g' with z | z | z
    · exact absurd (h'.2.2 g h.1.1 z) h.2.1
    · rw [z]
    · exact absurd (h.2.2 g' h'.1.1 z) h'.2.1
noncomputable def gapO (ps : List (Int × Int)) (q : Int × Int) : Option Int := by
  classical
  exact if h : ∃ o, IsGap ps q.1 q.2 o then Classical.choose h else none
theorem gapO_eq {ps : List (Int × Int)} {q : Int × Int} {o : Option Int} (h : IsGap ps q.1 q.2 o) : gapO ps q = o := by
  unfold gapO
  rw [dif_pos ⟨o, h⟩]
  exact IsGap.uniq (Classical.choose_spec ⟨o, h⟩) h
def gv : Option Int → V
  | none => .non
  | some g => .int g
theorem Ivs.perm {H : Hp} {xs ys : List V} (pm : ys.Perm xs) : ∀ {ps : List (Int × Int)}, Ivs H xs ps → ∃ ps', Ivs H ys ps' ∧ ps'.Perm ps := by
  induction pm with
  | nil =>
    intro ps h
    exact ⟨ps, h, .refl _⟩
  | cons x _ ih =>
    intro ps h
    cases h with
    | cons e h =>
      obtain ⟨ps', h', p'⟩ := ih h
      exact ⟨_ :: ps', .cons e h', p'.cons _⟩
  | swap x y l =>
    intro ps h
    cases h with
    | cons e h =>
      cases h with
      | cons e2 h => exact ⟨_, .cons e2 (.cons e h), .swap _ _ _⟩
  | trans _ _ ih1 ih2 =>
    intro ps h
    obtain ⟨p2, h2, q2⟩ := ih2 h
    obtain ⟨p1, h1, q1⟩ := ih1 h2
    exact ⟨p1, h1, q1.trans q2⟩
theorem Ivs.pair {H : Hp} {R : V → V → Prop} {S : Int × Int → Int × Int → Prop} (rs : ∀ a b x y u v, H a = some (.tup [.int x, .int y]) → H b = some (.tup [.int u, .int v]) → R (.ref a) (.ref b) → S (x, y) (u, v)) {vs : List V} {ps : List (Int × Int)} (h : Ivs H vs ps) (pw : vs.Pairwise R) : ps.Pairwise S := by
  induction h with
  | nil => exact .nil
  | cons e h ih =>
    have p := List.pairwise_cons.mp pw
    refine List.pairwise_cons.mpr ⟨fun q hq => ?_, ih p.2⟩
    obtain ⟨b, hb, eb⟩ := h.tpsMem hq
    exact rs _ b _ _ q.1 q.2 e eb (p.1 _ hb)
theorem Ivs.mem {H : Hp} {vs : List V} {ps : List (Int × Int)} (h : Ivs H vs ps) {v : V} (hv : v ∈ vs) : ∃ a q, q ∈ ps ∧ v = .ref a ∧ H a = some (.tup [.int q.1, .int q.2]) := by
  obtain ⟨i, ei⟩ := List.getElem?_of_mem hv
  obtain ⟨a, x, y, e, ep, ea⟩ := h.get ei
  exact ⟨a, (x, y), List.mem_of_getElem? ep, e, ea⟩
/-- pieces: pairs of positions in order -/
def Pc (ps : List (Int × Int)) : Prop := ∀ q ∈ ps, (0 ≤ q.1 ∧ q.1 ≤ q.2) ∧ q.2 < 10 ^ 13
def sp_pieces_insideT : Sp := fun vs H Q _ => ∃ (a t : Addr) (us : List V) (ps : List (Int × Int)) (lo hi : Int), vs = [.ref a, .ref t] ∧ H a = some (.tup us) ∧ Ivs H us ps ∧ ps.length < 1000 ∧ H t = some (.tup [.int lo, .int hi]) ∧
  ∀ H' p ws, Same H H' → H' p = some (.lst ws) → Ivs H' ws (ps.filter fun q => inI lo hi q.1 q.2) → Q (.ref p) H'
theorem ok_pieces_insideT (T : Tx K mg f_contains f_intersect f_pieces_inside f_first_gap f_generates f_has_open_demand f_widen f_law_draws f_law_next f_law_spans f_law_targets f_law_scaled f_law_served f_law_demands f_law_due f_law d_contains d_intersect d_pieces_inside d_first_gap d_generates d_has_open_demand d_widen d_law_draws d_law_next d_law_spans d_law_targets d_law_scaled d_law_served d_law_demands d_law_due d_law) : FnOk P w K mg base CX0 2 f_pieces_inside d_pieces_inside ["pieces", "target"] sp_pieces_insideT := by
  refine T.F_pieces_inside.ok sc_pieces_inside (fun vs H Q E h => ?_) (fun cdv A outer s H vs Q E hr h => ?_)
  · obtain ⟨a, t, us, ps, lo, hi, rfl, _⟩ := h
    rfl
  · obtain ⟨a, t, us, ps, lo, hi, rfl, ha, iv, few, ht, q⟩ := h
    have lu := iv.length
    refine ⟨_, (pss_one (ps_ret (pe_lc (own := [("piece", 2)]) (g := (gName 2)) (by rfl) sc_pieces_inside.nd (pi_tup (pv 0)) (blkOk_by (own := [("piece", 2)]) (N := N_pieces_inside) (sc := defScope s_pieces_inside) (by decide +kernel)) (fun _ _ _ _ _ => (pg_name (i := 2) sc_pieces_inside.nd rfl (Or.inl rfl))) (fun _ _ _ _ _ => pts_one (pt_val (pe_call (ok_contains T) (hr.mono (by decide)) (by rfl) T.g_contains T.F_contains.kp T.b_contains .nil pass0 (pa_cons (pv 1) (pa_cons (pv 2) pa_nil))))) (fun _ _ _ _ _ => (pv 2))))), ?_⟩
    refine ⟨.ref a, rfl, a, rfl, ⟨_, SqT.of ha⟩, fun D nD => ?_⟩
    refine lcT (K := K) (a := a) (xs := us) (fun j H' ws => Ivs H' ws ((ps.take j).filter fun q => inI lo hi q.1 q.2)) nD (fun H' s => SqT.of (s _ _ ha)) (by omega) (fun _ _ _ _ t r => r.tps t) (fun j H' ws r => ?_) (fun _ => .nil) ?_ ?_
    · rw [r.length]
      exact Nat.le_trans (List.length_filter_le _ _) (List.length_take_le _ _)
    · rintro j z H' N acc hj sj eA sz r no yes
      obtain ⟨b, x, y, rfl, exy, hb⟩ := iv.get hj
      refine ⟨rfl, .ref t, rfl, .ref b, rfl, t, b, lo, hi, x, y, rfl, sj _ _ ht, sj _ _ hb, _, rfl, ite2 (fun c => ?_) (fun c => ?_)⟩
      · refine ⟨.ref b, rfl, yes H' _ (Same.refl _) ?_⟩
        rw [take_filter exy, if_pos c]
        exact r.snoc (sj _ _ hb)
      · refine no H' (Same.refl _) ?_
        rw [take_filter exy, if_neg c, List.append_nil]
        exact r
    · intro H' ws s' eD r
      rw [lu, List.take_length] at r
      exact q H' D ws s' eD r
def sp_pieces_inside : Sp := fun vs H Q _ => ∃ (a t : Addr) (us : List V) (ps : List (Int × Int)) (lo hi : Int), vs = [.ref a, .ref t] ∧ H a = some (.lst us) ∧ Ivs H us ps ∧ ps.length < 1000 ∧ H t = some (.tup [.int lo, .int hi]) ∧
  ∀ H' p ws, Same H H' → H' p = some (.lst ws) → Ivs H' ws (ps.filter fun q => inI lo hi q.1 q.2) → Q (.ref p) H'
theorem ok_pieces_inside (T : Tx K mg f_contains f_intersect f_pieces_inside f_first_gap f_generates f_has_open_demand f_widen f_law_draws f_law_next f_law_spans f_law_targets f_law_scaled f_law_served f_law_demands f_law_due f_law d_contains d_intersect d_pieces_inside d_first_gap d_generates d_has_open_demand d_widen d_law_draws d_law_next d_law_spans d_law_targets d_law_scaled d_law_served d_law_demands d_law_due d_law) : FnOk P w K mg base CX0 2 f_pieces_inside d_pieces_inside ["pieces", "target"] sp_pieces_inside := by
  refine T.F_pieces_inside.ok sc_pieces_inside (fun vs H Q E h => ?_) (fun cdv A outer s H vs Q E hr h => ?_)
  · obtain ⟨a, t, us, ps, lo, hi, rfl, _⟩ := h
    rfl
  · obtain ⟨a, t, us, ps, lo, hi, rfl, ha, iv, few, ht, q⟩ := h
    have lu := iv.length
    refine ⟨_, (pss_one (ps_ret (pe_lc (own := [("piece", 2)]) (g := (gName 2)) (by rfl) sc_pieces_inside.nd (pi_list (pv 0)) (blkOk_by (own := [("piece", 2)]) (N := N_pieces_inside) (sc := defScope s_pieces_inside) (by decide +kernel)) (fun _ _ _ _ _ => (pg_name (i := 2) sc_pieces_inside.nd rfl (Or.inl rfl))) (fun _ _ _ _ _ => pts_one (pt_val (pe_call (ok_contains T) (hr.mono (by decide)) (by rfl) T.g_contains T.F_contains.kp T.b_contains .nil pass0 (pa_cons (pv 1) (pa_cons (pv 2) pa_nil))))) (fun _ _ _ _ _ => (pv 2))))), ?_⟩
    refine ⟨.ref a, rfl, a, rfl, ⟨_, SqL.of ha⟩, fun D nD => ?_⟩
    refine lcL (K := K) (a := a) (xs := us) (fun j H' ws => Ivs H' ws ((ps.take j).filter fun q => inI lo hi q.1 q.2)) nD (fun H' s => SqL.of (s _ _ ha)) (by omega) (fun _ _ _ _ t r => r.tps t) (fun j H' ws r => ?_) (fun _ => .nil) ?_ ?_
    · rw [r.length]
      exact Nat.le_trans (List.length_filter_le _ _) (List.length_take_le _ _)
    · rintro j z H' N acc hj sj eA sz r no yes
      obtain ⟨b, x, y, rfl, exy, hb⟩ := iv.get hj
      refine ⟨rfl, .ref t, rfl, .ref b, rfl, t, b, lo, hi, x, y, rfl, sj _ _ ht, sj _ _ hb, _, rfl, ite2 (fun c => ?_) (fun c => ?_)⟩
      · refine ⟨.ref b, rfl, yes H' _ (Same.refl _) ?_⟩
        rw [take_filter exy, if_pos c]
        exact r.snoc (sj _ _ hb)
      · refine no H' (Same.refl _) ?_
        rw [take_filter exy, if_neg c, List.append_nil]
        exact r
    · intro H' ws s' eD r
      rw [lu, List.take_length] at r
      exact q H' D ws s' eD r
theorem mem_inI {ps : List (Int × Int)} {lo hi : Int} {q : Int × Int} : q ∈ (ps.filter fun q => inI lo hi q.1 q.2) ↔ q ∈ ps ∧ lo ≤ q.1 ∧ q.2 ≤ hi := by
  rw [List.mem_filter]
  unfold inI
  simp only [Bool.and_eq_true, decide_eq_true_eq]
def sp_first_gap : Sp := fun vs H Q _ => ∃ (a t : Addr) (us : List V) (ps : List (Int × Int)) (lo hi : Int), vs = [.ref a, .ref t] ∧ H a = some (.lst us) ∧ Ivs H us ps ∧ Pc ps ∧ ps.length ≤ 63 ∧ H t = some (.tup [.int lo, .int hi]) ∧ lo ≤ hi ∧
  ∀ H', Same H H' → Q (gv (gapO ps (lo, hi))) H'
theorem ok_first_gap (T : Tx K mg f_contains f_intersect f_pieces_inside f_first_gap f_generates f_has_open_demand f_widen f_law_draws f_law_next f_law_spans f_law_targets f_law_scaled f_law_served f_law_demands f_law_due f_law d_contains d_intersect d_pieces_inside d_first_gap d_generates d_has_open_demand d_widen d_law_draws d_law_next d_law_spans d_law_targets d_law_scaled d_law_served d_law_demands d_law_due d_law) : FnOk P w K mg base CX0 3 f_first_gap d_first_gap ["pieces", "target"] sp_first_gap := by
  refine T.F_first_gap.ok sc_first_gap (fun vs H Q E h => ?_) (fun cdv A outer s H vs Q E hr h => ?_)
  · obtain ⟨a, t, us, ps, lo, hi, rfl, _⟩ := h
    rfl
  · obtain ⟨a, t, us, ps, lo, hi, rfl, ha, iv, pc, few, ht, lh, q⟩ := h
    refine ⟨_, (pss_cons (ps_asg (pv 1) (pg_tup rfl (pgs_cons (pg_name (i := 2) sc_first_gap.nd rfl (Or.inl rfl)) (pgs_cons (pg_name (i := 3) sc_first_gap.nd rfl (Or.inl rfl)) pgs_nil))))
      (pss_cons (ps_for PassesOwn.never rfl (pi_list (pe_callB (cr_sortT (d := 2) (B := 10 ^ 13) (by decide)) (by rfl) T.z_sorted (by decide +kernel) (pa_cons (pe_call (ok_pieces_inside T) (hr.mono (by decide)) (by rfl) T.g_pieces_inside T.F_pieces_inside.kp T.b_pieces_inside .nil pass0 (pa_cons (pv 0) (pa_cons (pv 1) pa_nil))) pa_nil))) (pg_tup rfl (pgs_cons (pg_name (i := 4) sc_first_gap.nd rfl (Or.inl rfl)) (pgs_cons (pg_name (i := 5) sc_first_gap.nd rfl (Or.inl rfl)) pgs_nil)))
      (pss_cons (ps_if (pt_cmpR op_gt (pv 4) (pv 2) (nomark _))
      (pss_one (ps_ret (pv 2)))
      pss_nil)
      (pss_one (ps_set (i := 2) sc_first_gap.nd rfl (Or.inl rfl) (pe_callB (call_max2 rfl) (by rfl) T.z_max (by decide +kernel) (pa_cons (pv 2) (pa_cons (pe_op op_add (pv 5) pe_int) pa_nil)))))))
      (pss_one (ps_ret (pe_ifExp (pt_cmpR op_le (pv 2) (pv 3) (nomark _)) (pv 2) pe_non))))), ?_⟩
    refine ⟨.ref t, rfl, t, _, rfl, SqT.of ht, rfl, .int lo, [.int hi], rfl, .int hi, [], rfl, rfl, ?_⟩
    refine ⟨.ref a, rfl, .ref t, rfl, a, t, us, ps, lo, hi, rfl, ha, iv, by omega, ht, fun H1 p ws s1 ep iv1 => ?_⟩
    obtain ⟨fs, efs⟩ : ∃ fs, fs = ps.filter fun q => inI lo hi q.1 q.2 := ⟨_, rfl⟩
    have mf : ∀ q, q ∈ fs ↔ q ∈ ps ∧ lo ≤ q.1 ∧ q.2 ≤ hi := fun q => by
      rw [efs]
      exact mem_inI
    have lf : fs.length ≤ ps.length := by
      rw [efs]
      exact List.length_filter_le _ _
    rw [← efs] at iv1
    have lw := iv1.length
    have bdp : ∀ q ∈ fs, TS.Bd (10 ^ 13) [q.1, q.2] := fun q hq m hm => by
      have z := pc q ((mf q).mp hq).1
      rcases List.mem_cons.mp hm with rfl | hm
      · exact ⟨z.1.1, Int.lt_of_le_of_lt z.1.2 z.2⟩
      · rw [List.mem_singleton.mp hm]
        exact ⟨Int.le_trans z.1.1 z.1.2, z.2⟩
    refine ⟨p, ws, rfl, SqL.of ep, by omega, fun x hx => ?_, fun ys p2 pm pw np2 => ?_⟩
    · obtain ⟨b, qq, hqq, e, eb⟩ := iv1.mem hx
      exact ⟨[qq.1, qq.2], ⟨b, e, SqT.of eb⟩, rfl, bdp qq hqq⟩
    obtain ⟨gs, ivg, pmg⟩ := Ivs.perm pm iv1
    have mg : ∀ q, q ∈ gs ↔ q ∈ ps ∧ lo ≤ q.1 ∧ q.2 ≤ hi := fun q => by rw [pmg.mem_iff, mf]
    have asc : gs.Pairwise (fun a b => a.1 ≤ b.1) := by
      have z : gs.Pairwise (fun a b => TS.code (10 ^ 13) [a.1, a.2] ≤ TS.code (10 ^ 13) [b.1, b.2]) := Ivs.pair (S := fun a b => TS.code (10 ^ 13) [a.1, a.2] ≤ TS.code (10 ^ 13) [b.1, b.2]) (fun a b x y u v ea eb h => h [x, y] [u, v] ⟨a, rfl, SqT.of ea⟩ ⟨b, rfl, SqT.of eb⟩) ivg pw
      refine z.imp_of_mem fun {x y} hx hy h => ?_
      exact code_first (bdp x (pmg.mem_iff.mp hx)) (bdp y (pmg.mem_iff.mp hy)) h
    have s2 := same_new (o := .lst ys) np2
    have ep2 := upd_same (H := H1) (a := p2) (o := .lst ys)
    replace ivg := ivg.same s2
    generalize upd H1 p2 (.lst ys) = H2 at *
    have lg := ivg.length
    refine ⟨p2, rfl, ⟨_, SqL.of ep2⟩, for_list (K := K) (a := p2) (xs := ys) (fun i σ H' => H' = H2 ∧ ∃ (pos : Int) (y4 y5 : Option V), (lo ≤ pos ∧ pos ≤ hi + 1) ∧ (∀ z, lo ≤ z → z < pos → covI ps lo hi z) ∧ (∀ q ∈ gs.take i, q.2 < pos) ∧ σ = [some (.ref a), some (.ref t), some (.int pos), some (.int hi), y4, y5])
      ⟨rfl, lo, _, _, by omega, (fun z h1 h2 => absurd h1 (by omega)), (fun q hq => nomatch hq), rfl⟩ (fun i σ H' _ h => by rw [h.1]; exact SqL.of ep2) ?_ ?_⟩
    · rintro i v σ H' hi2 ⟨rfl, pos, y4, y5, b1, cv, dn, rfl⟩
      obtain ⟨b, x, y, rfl, exy, hb⟩ := ivg.get hi2
      have inq := (mg (x, y)).mp (List.mem_of_getElem? exy)
      have pq := pc _ inq.1
      simp only at inq pq
      refine ⟨b, _, rfl, SqT.of hb, rfl, .int x, [.int y], rfl, .int y, [], rfl, rfl, ?_⟩
      refine ⟨.int x, rfl, .int pos, rfl, _, _, rfl, rfl, _, rfl, ite2 (fun c => ?_) (fun c => ?_)⟩
      · have c := of_decide_eq_true c
        refine ⟨.int pos, rfl, ?_⟩
        have g : IsGap ps lo hi (some pos) := by
          refine ⟨by omega, fun ⟨q, hq, hin, h1, h2⟩ => ?_, cv⟩
          obtain ⟨j, ej⟩ := List.getElem?_of_mem ((mg q).mpr ⟨hq, hin⟩)
          rcases Nat.lt_or_ge j i with z | z
          · have := dn q (List.mem_of_getElem? (show (gs.take i)[j]? = some q by rw [List.getElem?_take_of_lt z]; exact ej))
            omega
          · have : x ≤ q.1 := by
              obtain ⟨hj', rfl⟩ := List.getElem?_eq_some_iff.mp ej
              obtain ⟨hi', e'⟩ := List.getElem?_eq_some_iff.mp exy
              rcases Nat.eq_or_lt_of_le z with z | z
              · subst z
                rw [e']
                exact Int.le_refl _
              · have := List.pairwise_iff_getElem.mp asc i j hi' hj' z
                rw [e'] at this
                exact this
            omega
        have z := q _ (s1.trans s2)
        rw [gapO_eq (q := (lo, hi)) g] at z
        exact z
      · have c : ¬ (pos < x) := fun z => c (decide_eq_true z)
        refine ⟨.int pos, rfl, .int y, rfl, _, _, rfl, rfl, _, _, rfl, rfl, mxI pos (y + 1), _, _, ?_, fun z h1 h2 => ?_, fun q hq => ?_, rfl⟩
        · unfold mxI
          split <;> omega
        · rcases Int.lt_or_le z pos with h | h
          · exact cv z h1 h
          · refine ⟨(x, y), inq.1, inq.2, ?_, ?_⟩
            · show x ≤ z
              omega
            · show z ≤ y
              unfold mxI at h2
              split at h2 <;> omega
        · rw [List.take_add_one, exy] at hq
          have m1 : pos ≤ mxI pos (y + 1) ∧ y + 1 ≤ mxI pos (y + 1) := by
            unfold mxI
            split <;> omega
          rcases List.mem_append.mp hq with hq | hq
          · have := dn q hq
            omega
          · rw [List.mem_singleton.mp hq]
            show y < _
            omega
    · rintro σ H' ⟨rfl, pos, y4, y5, b1, cv, dn, rfl⟩
      rw [lg, List.take_length] at dn
      have z := q _ (s1.trans s2)
      refine ⟨.int pos, rfl, .int hi, rfl, _, _, rfl, rfl, _, rfl, ite2 (fun c => ?_) (fun c => ?_)⟩
      · have c := of_decide_eq_true c
        have g : IsGap ps lo hi (some pos) := by
          refine ⟨by omega, fun ⟨q, hq, hin, h1, h2⟩ => ?_, cv⟩
          have := dn q ((mg q).mpr ⟨hq, hin⟩)
          omega
        rw [gapO_eq (q := (lo, hi)) g] at z
        exact ⟨.int pos, rfl, z⟩
      · have c : ¬ (pos ≤ hi) := fun z => c (decide_eq_true z)
        have g : IsGap ps lo hi none := fun p h1 h2 => cv p h1 (by omega)
        rw [gapO_eq (q := (lo, hi)) g] at z
        exact z

/-! ### the first missing demand -/
theorem iteND {c A B : Prop} [Decidable c] (hc : ¬ c) (h : A) : if (!decide c) = true then A else B := by
  rw [decide_eq_false hc]
  exact iteT h
theorem gap_upto (ps : List (Int × Int)) (lo hi : Int) : ∀ k : Nat, (∀ p, lo ≤ p → p < lo + k → covI ps lo hi p) ∨ ∃ g, (lo ≤ g ∧ g < lo + k) ∧ ¬ covI ps lo hi g ∧ ∀ p, lo ≤ p → p < g → covI ps lo hi p
  | 0 => .inl fun p h1 h2 => absurd h1 (by omega)
  | k + 1 => by
    rcases gap_upto ps lo hi k with h | ⟨g, h1, h2⟩
    · by_cases c : covI ps lo hi (lo + k)
      · refine .inl fun p h1 h2 => ?_
        rcases Int.lt_or_le p (lo + k) with z | z
        · exact h p h1 z
        · have : p = lo + k := by omega
          rw [this]
          exact c
      · exact .inr ⟨lo + k, by omega, c, fun p h1 h2 => h p h1 h2⟩
    · exact .inr ⟨g, by omega, h2⟩
theorem gapO_spec (ps : List (Int × Int)) (q : Int × Int) : IsGap ps q.1 q.2 (gapO ps q) := by
  have ex : ∃ o, IsGap ps q.1 q.2 o := by
    rcases gap_upto ps q.1 q.2 (q.2 + 1 - q.1).toNat with h | ⟨g, h1, h2, h3⟩
    · exact ⟨none, fun p h1 h2 => h p h1 (by omega)⟩
    · exact ⟨some g, ⟨h1.1, by omega⟩, h2, h3⟩
  obtain ⟨o, h⟩ := ex
  rw [gapO_eq h]
  exact h

/-! ### the least interval that serves the same -/
theorem OV.tps {H H' : Hp} (s : Tps H H') {v : V} {o : Option (Int × Int)} (h : OV H v o) : OV H' v o := by
  match o, h with
  | none, h => exact h
  | some (x, y), h =>
    obtain ⟨t, e, h⟩ := h
    exact ⟨t, e, s _ _ h⟩
def itO (p q : Int × Int) : Option (Int × Int) := if mxI p.1 q.1 ≤ mnI p.2 q.2 then some (mxI p.1 q.1, mnI p.2 q.2) else none
def sp_intersect : Sp := fun vs H Q _ => ∃ (a b : Addr) (x y u v : Int), vs = [.ref a, .ref b] ∧ H a = some (.tup [.int x, .int y]) ∧ H b = some (.tup [.int u, .int v]) ∧
  ∀ H' r, Same H H' → OV H' r (itO (x, y) (u, v)) → Q r H'
theorem ok_intersect (T : Tx K mg f_contains f_intersect f_pieces_inside f_first_gap f_generates f_has_open_demand f_widen f_law_draws f_law_next f_law_spans f_law_targets f_law_scaled f_law_served f_law_demands f_law_due f_law d_contains d_intersect d_pieces_inside d_first_gap d_generates d_has_open_demand d_widen d_law_draws d_law_next d_law_spans d_law_targets d_law_scaled d_law_served d_law_demands d_law_due d_law) : FnOk P w K mg base CX0 1 f_intersect d_intersect ["first", "second"] sp_intersect := by
  refine T.F_intersect.ok sc_intersect (fun vs H Q E h => ?_) (fun cdv A outer s H vs Q E hr h => ?_)
  · obtain ⟨a, b, x, y, u, v, rfl, _⟩ := h
    rfl
  · obtain ⟨a, b, x, y, u, v, rfl, ha, hb, q⟩ := h
    refine ⟨_, (pss_cons (ps_set (i := 2) sc_intersect.nd rfl (Or.inl rfl) (pe_callB (call_max2 rfl) (by rfl) T.z_max (by decide +kernel) (pa_cons (pe_ix ix_tup (pv 0) pe_int (fun _ _ => rfl)) (pa_cons (pe_ix ix_tup (pv 1) pe_int (fun _ _ => rfl)) pa_nil))))
      (pss_cons (ps_set (i := 3) sc_intersect.nd rfl (Or.inl rfl) (pe_callB (call_min2 rfl) (by rfl) T.z_min (by decide +kernel) (pa_cons (pe_ix ix_tup (pv 0) pe_int (fun _ _ => rfl)) (pa_cons (pe_ix ix_tup (pv 1) pe_int (fun _ _ => rfl)) pa_nil))))
      (pss_one (ps_ret (pe_ifExp (pt_cmpR op_le (pv 2) (pv 3) (nomark _)) (pe_tup (pa_cons (pv 2) (pa_cons (pv 3) pa_nil))) pe_non))))), ?_⟩
    refine ⟨.ref a, rfl, a, _, 0, .int x, rfl, rfl, SqT.of ha, rfl, .ref b, rfl, b, _, 0, .int u, rfl, rfl, SqT.of hb, rfl, _, _, rfl, ?_⟩
    refine ⟨.ref a, rfl, a, _, 1, .int y, rfl, rfl, SqT.of ha, rfl, .ref b, rfl, b, _, 1, .int v, rfl, rfl, SqT.of hb, rfl, _, _, rfl, ?_⟩
    refine ⟨_, rfl, _, rfl, _, _, rfl, rfl, _, rfl, ite2 (fun cc => ?_) (fun cc => ?_)⟩
    · have cc := of_decide_eq_true cc
      refine ⟨_, rfl, _, rfl, by show 2 ≤ sizeLine; decide, fun t nt => ?_⟩
      refine q _ (.ref t) (same_new nt) ?_
      have e : itO (x, y) (u, v) = some (mxI x u, mnI y v) := if_pos cc
      rw [e]
      exact ⟨t, rfl, upd_same⟩
    · have e : itO (x, y) (u, v) = none := if_neg (fun z => cc (decide_eq_true z))
      refine q _ .non (Same.refl _) ?_
      rw [e]
      rfl
def sp_generates : Sp := fun vs H Q _ => ∃ (a t : Addr) (us : List V) (ps : List (Int × Int)) (lo hi : Int), vs = [.ref a, .ref t] ∧ H a = some (.lst us) ∧ Ivs H us ps ∧ Pc ps ∧ ps.length ≤ 63 ∧ H t = some (.tup [.int lo, .int hi]) ∧ lo ≤ hi ∧
  ∀ H', Same H H' → Q (.bl (decide (gv (gapO ps (lo, hi)) = V.non))) H'
theorem ok_generates (T : Tx K mg f_contains f_intersect f_pieces_inside f_first_gap f_generates f_has_open_demand f_widen f_law_draws f_law_next f_law_spans f_law_targets f_law_scaled f_law_served f_law_demands f_law_due f_law d_contains d_intersect d_pieces_inside d_first_gap d_generates d_has_open_demand d_widen d_law_draws d_law_next d_law_spans d_law_targets d_law_scaled d_law_served d_law_demands d_law_due d_law) : FnOk P w K mg base CX0 4 f_generates d_generates ["pieces", "target"] sp_generates := by
  refine T.F_generates.ok sc_generates (fun vs H Q E h => ?_) (fun cdv A outer s H vs Q E hr h => ?_)
  · obtain ⟨a, t, us, ps, lo, hi, rfl, _⟩ := h
    rfl
  · obtain ⟨a, t, us, ps, lo, hi, rfl, ha, iv, pc, few, ht, lh, q⟩ := h
    refine ⟨_, (pss_one (ps_ret (pe_cmpR op_isN (pe_call (ok_first_gap T) (hr.mono (by decide)) (by rfl) T.g_first_gap T.F_first_gap.kp T.b_first_gap .nil pass0 (pa_cons (pv 0) (pa_cons (pv 1) pa_nil))) pe_non (nomark _)))), ?_⟩
    refine ⟨.ref a, rfl, .ref t, rfl, a, t, us, ps, lo, hi, rfl, ha, iv, pc, few, ht, lh, fun H1 s1 => ?_⟩
    exact ⟨rfl, q H1 s1⟩
/-- t has an open demand that q serves -/
def Hod (ps : List (Int × Int)) (q t : Int × Int) : Prop := (t.1 ≤ q.1 ∧ q.2 ≤ t.2) ∧ ∃ p, q.1 ≤ p ∧ p ≤ q.2 ∧ ∀ s ∈ ps, t.1 ≤ s.1 → s.2 ≤ t.2 → ¬ (s.1 ≤ p ∧ p ≤ s.2)
theorem gap_parts {ps : List (Int × Int)} {q t : Int × Int} (c : t.1 ≤ q.1 ∧ q.2 ≤ t.2) : gapO (((ps.filter fun z => inI t.1 t.2 z.1 z.2).map fun s => itO s q).filterMap id) q = none ↔ ¬ Hod ps q t := by
  have sp := gapO_spec (((ps.filter fun z => inI t.1 t.2 z.1 z.2).map fun s => itO s q).filterMap id) q
  have mem : ∀ z, z ∈ ((ps.filter fun z => inI t.1 t.2 z.1 z.2).map fun s => itO s q).filterMap id ↔ ∃ s ∈ ps, (t.1 ≤ s.1 ∧ s.2 ≤ t.2) ∧ itO s q = some z := fun z => by
    rw [List.mem_filterMap]
    constructor
    · rintro ⟨o, ho, e⟩
      obtain ⟨s, hs, rfl⟩ := List.mem_map.mp ho
      have m := mem_inI.mp hs
      exact ⟨s, m.1, m.2, e⟩
    · rintro ⟨s, hs, h, e⟩
      exact ⟨_, List.mem_map.mpr ⟨s, mem_inI.mpr ⟨hs, h⟩, rfl⟩, e⟩
  have inter : ∀ s z : Int × Int, itO s q = some z → z = (mxI s.1 q.1, mnI s.2 q.2) ∧ mxI s.1 q.1 ≤ mnI s.2 q.2 := fun s z e => by
    unfold itO at e
    split at e
    · next h => exact ⟨(Option.some.inj e).symm, h⟩
    · cases e
  constructor
  · intro h ⟨_, p, p1, p2, no⟩
    rw [h] at sp
    obtain ⟨z, hz, _, k1, k2⟩ := sp p p1 p2
    obtain ⟨s, hs, st, e⟩ := (mem z).mp hz
    obtain ⟨e, _⟩ := inter s z e
    rw [e] at k1 k2
    refine no s hs st.1 st.2 ⟨?_, ?_⟩
    · have k1 : mxI s.1 q.1 ≤ p := k1
      unfold mxI at k1
      split at k1 <;> omega
    · have k2 : p ≤ mnI s.2 q.2 := k2
      unfold mnI at k2
      split at k2 <;> omega
  · intro h
    refine gapO_eq (show IsGap _ q.1 q.2 none from fun p p1 p2 => ?_)
    have ⟨s, hs, s1, s2, s3⟩ : ∃ s ∈ ps, t.1 ≤ s.1 ∧ s.2 ≤ t.2 ∧ (s.1 ≤ p ∧ p ≤ s.2) := Classical.byContradiction fun z => h ⟨c, p, p1, p2, fun s hs a b k => z ⟨s, hs, a, b, k⟩⟩
    have a1 : mxI s.1 q.1 ≤ p := by
      unfold mxI
      split <;> omega
    have a2 : p ≤ mnI s.2 q.2 := by
      unfold mnI
      split <;> omega
    have a3 : q.1 ≤ mxI s.1 q.1 := by
      unfold mxI
      split <;> omega
    have a4 : mnI s.2 q.2 ≤ q.2 := by
      unfold mnI
      split <;> omega
    exact ⟨(mxI s.1 q.1, mnI s.2 q.2), (mem _).mpr ⟨s, hs, ⟨s1, s2⟩, if_pos (by omega)⟩, ⟨a3, a4⟩, a1, a2⟩
def OVs (H : Hp) (vs : List V) (os : List (Option (Int × Int))) : Prop := vs.length = os.length ∧ ∀ (i : Nat) (v : V), vs[i]? = some v → ∃ o, os[i]? = some o ∧ OV H v o
theorem OVs.tps {H H' : Hp} (s : Tps H H') {vs : List V} {os : List (Option (Int × Int))} (h : OVs H vs os) : OVs H' vs os := ⟨h.1, fun i v e => by
  obtain ⟨o, e1, e2⟩ := h.2 i v e
  exact ⟨o, e1, e2.tps s⟩⟩
theorem OVs.snoc {H : Hp} {vs : List V} {os : List (Option (Int × Int))} (h : OVs H vs os) {v : V} {o : Option (Int × Int)} (e : OV H v o) : OVs H (vs ++ [v]) (os ++ [o]) := by
  refine ⟨by rw [List.length_append, List.length_append, h.1]; rfl, fun i u hu => ?_⟩
  rcases Nat.lt_or_ge i vs.length with l | l
  · rw [List.getElem?_append_left l] at hu
    obtain ⟨o', e1, e2⟩ := h.2 i u hu
    exact ⟨o', by rw [List.getElem?_append_left (by rw [← h.1]; exact l)]; exact e1, e2⟩
  · rw [List.getElem?_append_right l] at hu
    have z : i - vs.length = 0 := by
      have := (List.getElem?_eq_some_iff.mp hu).1
      simp at this
      omega
    rw [z] at hu
    cases hu
    exact ⟨o, by rw [List.getElem?_append_right (by rw [← h.1]; exact l), ← h.1, z]; rfl, e⟩
def sp_hod : Sp := fun vs H Q _ => ∃ (t a e : Addr) (us : List V) (ps : List (Int × Int)) (x y u v : Int), vs = [.ref t, .ref a, .ref e] ∧ H t = some (.tup [.int x, .int y]) ∧ H a = some (.tup us) ∧ Ivs H us ps ∧ Pc ps ∧ ps.length ≤ 40 ∧ H e = some (.tup [.int u, .int v]) ∧ (0 ≤ u ∧ u ≤ v ∧ v < 10 ^ 13) ∧
  ∀ H' b, Same H H' → (b = true ↔ Hod ps (u, v) (x, y)) → Q (.bl b) H'
theorem ok_has_open_demand (T : Tx K mg f_contains f_intersect f_pieces_inside f_first_gap f_generates f_has_open_demand f_widen f_law_draws f_law_next f_law_spans f_law_targets f_law_scaled f_law_served f_law_demands f_law_due f_law d_contains d_intersect d_pieces_inside d_first_gap d_generates d_has_open_demand d_widen d_law_draws d_law_next d_law_spans d_law_targets d_law_scaled d_law_served d_law_demands d_law_due d_law) : FnOk P w K mg base CX0 5 f_has_open_demand d_has_open_demand ["target", "pieces", "interval"] sp_hod := by
  refine T.F_has_open_demand.ok sc_has_open_demand (fun vs H Q E h => ?_) (fun cdv A outer s H vs Q E hr h => ?_)
  · obtain ⟨t, a, e, us, ps, x, y, u, v, rfl, _⟩ := h
    rfl
  · obtain ⟨t, a, e, us, ps, x, y, u, v, rfl, ht, ha, iv, pc, few, hq, uv, q⟩ := h
    refine ⟨_, (pss_cons (ps_if (pt_not (pt_val (pe_call (ok_contains T) (hr.mono (by decide)) (by rfl) T.g_contains T.F_contains.kp T.b_contains .nil pass0 (pa_cons (pv 0) (pa_cons (pv 2) pa_nil)))))
      (pss_one (ps_ret pe_bl))
      pss_nil)
      (pss_cons (ps_setLc (i := 3) (own := [("piece", 4)]) (g := (gName 4)) (tt := tYes) (by rfl) sc_has_open_demand.nd rfl rfl (sw_true rfl rfl rfl (by decide +kernel)) (pi_list (pe_call (ok_pieces_insideT T) (hr.mono (by decide)) (by rfl) T.g_pieces_inside T.F_pieces_inside.kp T.b_pieces_inside .nil pass0 (pa_cons (pv 1) (pa_cons (pv 0) pa_nil)))) (blkOk_by (own := [("piece", 4)]) (N := N_has_open_demand) (sc := defScope s_has_open_demand) (by decide +kernel)) (fun _ _ _ _ _ => (pg_name (i := 4) sc_has_open_demand.nd rfl (Or.inl rfl))) (fun _ _ _ _ _ => pts_nil) (fun _ _ _ _ _ => (pe_call (ok_intersect T) (hr.mono (by decide)) (by rfl) T.g_intersect T.F_intersect.kp T.b_intersect .nil pass0 (pa_cons (pv 4) (pa_cons (pv 2) pa_nil)))))
      (pss_one (ps_ret (pe_not (pe_call (ok_generates T) (hr.mono (by decide)) (by rfl) T.g_generates T.F_generates.kp T.b_generates .nil pass0 (pa_cons (pe_lc (own := [("part", 5)]) (g := (gName 5)) (by rfl) sc_has_open_demand.nd (pi_list (pv 3)) (blkOk_by (own := [("part", 5)]) (N := N_has_open_demand) (sc := defScope s_has_open_demand) (by decide +kernel)) (fun _ _ _ _ _ => (pg_name (i := 5) sc_has_open_demand.nd rfl (Or.inl rfl))) (fun _ _ _ _ _ => pts_one (pt_cmpR op_notN (pv 5) pe_non (nomark _))) (fun _ _ _ _ _ => (pv 5))) (pa_cons (pv 2) pa_nil)))))))), ?_⟩
    refine ⟨.ref t, rfl, .ref e, rfl, t, e, x, y, u, v, rfl, ht, hq, _, rfl, ?_⟩
    by_cases c : inI x y u v = true
    · have c' : x ≤ u ∧ v ≤ y := by
        unfold inI at c
        rw [Bool.and_eq_true, decide_eq_true_iff, decide_eq_true_iff] at c
        exact c
      rw [c]
      refine iteF ?_
      have lu := iv.length
      refine ⟨.ref a, rfl, .ref t, rfl, a, t, us, ps, x, y, rfl, ha, iv, by omega, ht, fun H1 p ws s1 ep iv1 => ?_⟩
      have lf := List.length_filter_le (fun q : Int × Int => inI x y q.1 q.2) ps
      have lw := iv1.length
      refine ⟨p, rfl, ⟨_, SqL.of ep⟩, fun D nD => ?_⟩
      have okp : ∀ z ∈ ps.filter (fun q : Int × Int => inI x y q.1 q.2), z ∈ ps := fun z hz => (List.mem_filter.mp hz).1
      generalize hfs : ps.filter (fun q : Int × Int => inI x y q.1 q.2) = fs at *
      refine lcL (K := K) (a := p) (xs := ws) (fun j H' ws => OVs H' ws ((fs.take j).map fun s => itO s (u, v))) nD (fun H' s => SqL.of (s _ _ (ep))) (by omega) (fun _ _ _ _ t r => r.tps t) (fun j H' ws r => (by rw [r.1, List.length_map]; exact List.length_take_le _ _)) (fun _ => ⟨rfl, (by intro i v e; simp at e)⟩) ?_ ?_
      · rintro j z H' N acc hj sj eA sz r no yes
        obtain ⟨b, x', y', rfl, exy, hb⟩ := iv1.get hj
        refine ⟨rfl, .ref b, rfl, .ref e, rfl, b, e, x', y', u, v, rfl, sj _ _ hb, (s1.trans sj) _ _ hq, fun H2 rv s2 ov => yes H2 _ s2 ?_⟩
        rw [List.take_add_one, exy, List.map_append]
        exact (r.tps (Tps.same s2)).snoc ov
      intro H2 ws2 s2 eD r
      rw [lw, List.take_length] at r
      have lo := r.1
      rw [List.length_map] at lo
      generalize hos : fs.map (fun s => itO s (u, v)) = os at *
      refine ⟨.ref D, rfl, D, rfl, ⟨_, SqL.of eD⟩, fun D2 nD2 => ?_⟩
      refine lcL (K := K) (a := D) (xs := ws2) (fun j H' ws => Ivs H' ws ((os.take j).filterMap id)) nD2 (fun H' s => SqL.of (s _ _ (eD))) (by omega) (fun _ _ _ _ t r => r.tps t) (fun j H' ws r => (by rw [r.length]; exact Nat.le_trans (List.length_filterMap_le _ _) (List.length_take_le _ _))) (fun _ => .nil) ?_ ?_
      · rintro j z H' N acc hj sj eA sz r2 no yes
        obtain ⟨o, eo, ov⟩ := r.2 j z hj
        have ov := ov.same sj
        refine ⟨rfl, z, rfl, rfl, ?_⟩
        match o, ov, eo with
        | none, ov, eo =>
          cases (show z = V.non from ov)
          refine ⟨_, rfl, iteF (no _ (Same.refl _) ?_)⟩
          rw [List.take_add_one, eo, List.filterMap_append]
          show Ivs H' acc (List.filterMap id (List.take j os) ++ [])
          rw [List.append_nil]
          exact r2
        | some (x', y'), ov, eo =>
          obtain ⟨b, rfl, hb⟩ := ov
          refine ⟨_, rfl, iteND (fun z : V.ref b = V.non => by cases z) ⟨.ref b, rfl, yes _ _ (Same.refl _) ?_⟩⟩
          rw [List.take_add_one, eo, List.filterMap_append]
          exact r2.append (.cons hb .nil)
      intro H3 ws3 s3 eD2 r2
      rw [r.1, List.take_length] at r2
      have s13 := s1.trans (s2.trans s3)
      have pcs : Pc (os.filterMap id) := fun z hz => by
        obtain ⟨o, ho, ee⟩ := List.mem_filterMap.mp hz
        rw [← hos] at ho
        obtain ⟨s, hs, rfl⟩ := List.mem_map.mp ho
        have ps0 := pc s (okp s hs)
        have ee : itO s (u, v) = some z := ee
        unfold itO at ee
        split at ee
        · next h =>
          cases Option.some.inj ee
          unfold mxI mnI at h ⊢
          show (0 ≤ (if u > s.1 then u else s.1) ∧ (if u > s.1 then u else s.1) ≤ (if v < s.2 then v else s.2)) ∧ (if v < s.2 then v else s.2) < 10 ^ 13
          refine ⟨⟨by split <;> omega, h⟩, by split <;> omega⟩
        · cases ee
      have lfm := List.length_filterMap_le id os
      have los : os.length ≤ 40 := by
        rw [← hos, List.length_map]
        omega
      refine ⟨.ref e, rfl, D2, e, ws3, _, u, v, rfl, eD2, r2, pcs, by omega, s13 _ _ hq, by omega, fun H4 s4 => ?_⟩
      have key := gap_parts (ps := ps) (q := (u, v)) (t := (x, y)) c'
      simp only [hfs, hos] at key
      refine ⟨_, rfl, q H4 _ (s13.trans s4) ?_⟩
      rw [Bool.not_eq_true', decide_eq_false_iff_not]
      cases hg : gapO (os.filterMap id) (u, v) with
      | none =>
        have := key.mp hg
        exact ⟨fun z => absurd rfl z, fun z => absurd z this⟩
      | some g =>
        have nn : ¬ gapO (os.filterMap id) (u, v) = none := by rw [hg]; exact fun z => nomatch z
        have h2 : Hod ps (u, v) (x, y) := Classical.byContradiction fun z => nn (key.mpr z)
        exact ⟨fun _ => h2, fun _ z => nomatch z⟩
    · have c' : inI x y u v = false := Bool.not_eq_true _ ▸ c
      rw [c']
      refine iteT (q H false (Same.refl _) ⟨fun z => (nomatch z), fun z => ?_⟩)
      refine absurd ?_ c
      unfold inI
      rw [Bool.and_eq_true, decide_eq_true_iff, decide_eq_true_iff]
      exact z.1
/-- what widen gives -/
def WidR (ts ps : List (Int × Int)) (q r : Int × Int) : Prop := ((∀ t ∈ ts, ¬ Hod ps q t) → r = q) ∧ ((∃ t ∈ ts, Hod ps q t) → (∃ t ∈ ts, Hod ps q t ∧ t.1 = r.1) ∧ (∀ t ∈ ts, Hod ps q t → t.1 ≤ r.1) ∧ (∃ t ∈ ts, Hod ps q t ∧ t.2 = r.2) ∧ ∀ t ∈ ts, Hod ps q t → r.2 ≤ t.2)
theorem WidR.uniq {ts ps : List (Int × Int)} {q r r' : Int × Int} (h : WidR ts ps q r) (h' : WidR ts ps q r') : r = r' := by
  by_cases c : ∃ t ∈ ts, Hod ps q t
  · obtain ⟨⟨t1, m1, h1, e1⟩, a1, ⟨t2, m2, h2, e2⟩, a2⟩ := h.2 c
    obtain ⟨⟨t3, m3, h3, e3⟩, a3, ⟨t4, m4, h4, e4⟩, a4⟩ := h'.2 c
    have b1 := a3 t1 m1 h1
    have b2 := a1 t3 m3 h3
    have b3 := a4 t2 m2 h2
    have b4 := a2 t4 m4 h4
    exact Prod.ext (by omega) (by omega)
  · have c' : ∀ t ∈ ts, ¬ Hod ps q t := fun t ht z => c ⟨t, ht, z⟩
    rw [h.1 c', h'.1 c']
def sp_widen : Sp := fun vs H Q _ => ∃ (a b e : Addr) (us ws : List V) (ts ps : List (Int × Int)) (u v : Int), vs = [.ref a, .ref b, .ref e] ∧ H a = some (.tup us) ∧ Ivs H us ts ∧ ts.length ≤ 40 ∧ H b = some (.tup ws) ∧ Ivs H ws ps ∧ Pc ps ∧ ps.length ≤ 40 ∧ H e = some (.tup [.int u, .int v]) ∧ (0 ≤ u ∧ u ≤ v ∧ v < 10 ^ 13) ∧
  ∀ H' r x y, Same H H' → H' r = some (.tup [.int x, .int y]) → WidR ts ps (u, v) (x, y) → Q (.ref r) H'
theorem ok_widen (T : Tx K mg f_contains f_intersect f_pieces_inside f_first_gap f_generates f_has_open_demand f_widen f_law_draws f_law_next f_law_spans f_law_targets f_law_scaled f_law_served f_law_demands f_law_due f_law d_contains d_intersect d_pieces_inside d_first_gap d_generates d_has_open_demand d_widen d_law_draws d_law_next d_law_spans d_law_targets d_law_scaled d_law_served d_law_demands d_law_due d_law) : FnOk P w K mg base CX0 6 f_widen d_widen ["targets", "pieces", "interval"] sp_widen := by
  refine T.F_widen.ok sc_widen (fun vs H Q E h => ?_) (fun cdv A outer s H vs Q E hr h => ?_)
  · obtain ⟨a, b, e, us, ws, ts, ps, u, v, rfl, _⟩ := h
    rfl
  · obtain ⟨a, b, e, us, ws, ts, ps, u, v, rfl, ha, ivt, lt, hb, ivp, pc, lp, hq, uv, q⟩ := h
    refine ⟨_, (pss_cons (ps_setLc (i := 3) (own := [("target", 4)]) (g := (gName 4)) (by rfl) sc_widen.nd rfl rfl (sw_true rfl rfl rfl (by decide +kernel)) (pi_tup (pv 0)) (blkOk_by (own := [("target", 4)]) (N := N_widen) (sc := defScope s_widen) (by decide +kernel)) (fun _ _ _ _ _ => (pg_name (i := 4) sc_widen.nd rfl (Or.inl rfl))) (fun _ _ _ _ _ => pts_one (pt_val (pe_call (ok_has_open_demand T) (hr.mono (by decide)) (by rfl) T.g_has_open_demand T.F_has_open_demand.kp T.b_has_open_demand .nil pass0 (pa_cons (pv 4) (pa_cons (pv 1) (pa_cons (pv 2) pa_nil)))))) (fun _ _ _ _ _ => (pv 4)))
      (pss_cons (ps_if (pt_not (pt_truth (pv 3) (by intro _; rfl)))
      (pss_one (ps_ret (pv 2)))
      pss_nil)
      (pss_one (ps_ret (pe_tup (pa_cons (pe_callB (cr_max rfl) (by rfl) T.z_max (by decide +kernel) (pa_cons (pe_lc (own := [("low", 5), ("high", 6)]) (g := (gTup K 2 (gCons (gName 5) (gCons (gName 6) gNil)))) (tt := tYes) (by rfl) sc_widen.nd (pi_list (pv 3)) (blkOk_by (own := [("low", 5), ("high", 6)]) (N := N_widen) (sc := defScope s_widen) (by decide +kernel)) (fun _ _ _ _ _ => (pg_tup rfl (pgs_cons (pg_name (i := 5) sc_widen.nd rfl (Or.inl rfl)) (pgs_cons (pg_name (i := 6) sc_widen.nd rfl (Or.inl rfl)) pgs_nil)))) (fun _ _ _ _ _ => pts_nil) (fun _ _ _ _ _ => (pv 5))) pa_nil)) (pa_cons (pe_callB (cr_min rfl) (by rfl) T.z_min (by decide +kernel) (pa_cons (pe_lc (own := [("low", 5), ("high", 6)]) (g := (gTup K 2 (gCons (gName 5) (gCons (gName 6) gNil)))) (tt := tYes) (by rfl) sc_widen.nd (pi_list (pv 3)) (blkOk_by (own := [("low", 5), ("high", 6)]) (N := N_widen) (sc := defScope s_widen) (by decide +kernel)) (fun _ _ _ _ _ => (pg_tup rfl (pgs_cons (pg_name (i := 5) sc_widen.nd rfl (Or.inl rfl)) (pgs_cons (pg_name (i := 6) sc_widen.nd rfl (Or.inl rfl)) pgs_nil)))) (fun _ _ _ _ _ => pts_nil) (fun _ _ _ _ _ => (pv 6))) pa_nil)) pa_nil))))))), ?_⟩
    have lu := ivt.length
    refine ⟨.ref a, rfl, a, rfl, ⟨_, SqT.of ha⟩, fun D nD => ?_⟩
    refine lcT (K := K) (a := a) (xs := us) (fun j H' ws => ∃ L, Ivs H' ws L ∧ L.length ≤ j ∧ (∀ t ∈ ts.take j, Hod ps (u, v) t → t ∈ L) ∧ ∀ t ∈ L, t ∈ ts ∧ Hod ps (u, v) t) nD (fun H' s => SqT.of (s _ _ (ha))) (by omega) (fun _ _ _ _ t r => (let ⟨L, h1, h2⟩ := r; ⟨L, h1.tps t, h2⟩)) (fun j H' ws r => (by obtain ⟨L, h1, h2, _⟩ := r; rw [h1.length]; exact h2)) (fun _ => ⟨[], .nil, Nat.le_refl _, (fun q hq => nomatch hq), fun q hq => nomatch hq⟩) ?_ ?_
    · rintro j z H' N acc hj sj eA sz ⟨L, l1, l2, l3, l4⟩ no yes
      obtain ⟨o, x, y, rfl, eo, ho⟩ := ivt.get hj
      refine ⟨rfl, .ref o, rfl, .ref b, rfl, .ref e, rfl, o, b, e, ws, ps, x, y, u, v, rfl, sj _ _ ho, sj _ _ hb, ivp.same sj, pc, lp, sj _ _ hq, uv, fun H1 bb s1 hbb => ⟨_, rfl, ?_⟩⟩
      cases bb with
      | true =>
        refine iteT ⟨.ref o, rfl, yes H1 _ s1 ⟨L ++ [(x, y)], (l1.same s1).snoc ((sj.trans s1) _ _ ho), by rw [List.length_append]; show _ + 1 ≤ _; omega, fun t ht h => ?_, fun t ht => ?_⟩⟩
        · rw [List.take_add_one, eo] at ht
          rcases List.mem_append.mp ht with ht | ht
          · exact List.mem_append_left _ (l3 t ht h)
          · exact List.mem_append_right _ ht
        · rcases List.mem_append.mp ht with ht | ht
          · exact l4 t ht
          · rw [List.mem_singleton.mp ht]
            exact ⟨List.mem_of_getElem? eo, hbb.mp rfl⟩
      | false =>
        refine iteF (no H1 s1 ⟨L, l1.same s1, by omega, fun t ht h => ?_, l4⟩)
        rw [List.take_add_one, eo] at ht
        rcases List.mem_append.mp ht with ht | ht
        · exact l3 t ht h
        · rw [List.mem_singleton.mp ht] at h
          exact nomatch hbb.mpr h
    rintro H1 ws1 s1 eD ⟨L, iL, lL, cov, sub⟩
    rw [lu, List.take_length] at cov
    have lw1 := iL.length
    refine ⟨.ref D, rfl, !ws1.isEmpty, .inl ⟨_, SqL.of eD, rfl⟩, ?_⟩
    cases L with
    | nil =>
      cases iL
      refine iteT ⟨.ref e, rfl, ?_⟩
      refine q H1 _ u v s1 (s1 _ _ hq) ⟨fun _ => rfl, fun ⟨t, ht, h⟩ => nomatch cov t ht h⟩
    | cons t0 L =>
      have ne : (!ws1.isEmpty) = true := by
        cases iL
        rfl
      rw [ne]
      refine iteF ?_
      generalize hL : t0 :: L = M at *
      have mpos : 0 < M.length := by rw [← hL]; exact Nat.succ_pos _
      -- lows
      refine ⟨.ref D, rfl, D, rfl, ⟨_, SqL.of eD⟩, fun D2 nD2 => ?_⟩
      refine lcL (K := K) (a := D) (xs := ws1) (fun j H' ws => ws = ((M.take j).map (·.1)).map V.int) nD2 (fun H' s => SqL.of (s _ _ (eD))) (by omega) (fun _ _ _ _ t r => r) (fun j H' ws r => (by rw [r, List.length_map, List.length_map]; exact List.length_take_le _ _)) (fun _ => rfl) ?_ ?_
      · rintro j z H' N acc hj sj eA sz r no yes
        obtain ⟨o, x, y, rfl, eo, ho⟩ := iL.get hj
        refine ⟨o, _, rfl, SqT.of (sj _ _ ho), rfl, .int x, [.int y], rfl, .int y, [], rfl, rfl, rfl, .int x, rfl, yes H' _ (Same.refl _) ?_⟩
        rw [r, List.take_add_one, eo, List.map_append, List.map_append]
        rfl
      intro H2 ws2 s2 eD2 r2
      rw [lw1, List.take_length] at r2
      subst r2
      refine ⟨D2, M.map (·.1), rfl, SqL.of eD2, by rw [List.length_map]; exact mpos, fun lo hlo mlo => ?_⟩
      -- highs
      refine ⟨.ref D, rfl, D, rfl, ⟨_, SqL.of (s2 _ _ eD)⟩, fun D3 nD3 => ?_⟩
      refine lcL (K := K) (a := D) (xs := ws1) (fun j H' ws => ws = ((M.take j).map (·.2)).map V.int) nD3 (fun H' s => SqL.of (s _ _ (s2 _ _ eD))) (by omega) (fun _ _ _ _ t r => r) (fun j H' ws r => (by rw [r, List.length_map, List.length_map]; exact List.length_take_le _ _)) (fun _ => rfl) ?_ ?_
      · rintro j z H' N acc hj sj eA sz r no yes
        obtain ⟨o, x, y, rfl, eo, ho⟩ := iL.get hj
        refine ⟨o, _, rfl, SqT.of ((s2.trans sj) _ _ ho), rfl, .int x, [.int y], rfl, .int y, [], rfl, rfl, rfl, .int y, rfl, yes H' _ (Same.refl _) ?_⟩
        rw [r, List.take_add_one, eo, List.map_append, List.map_append]
        rfl
      intro H3 ws3 s3 eD3 r3
      rw [lw1, List.take_length] at r3
      subst r3
      refine ⟨D3, M.map (·.2), rfl, SqL.of eD3, by rw [List.length_map]; exact mpos, fun hi hhi mhi => ?_⟩
      refine ⟨by show 2 ≤ sizeLine; decide, fun r nr => ?_⟩
      obtain ⟨t1, m1, e1⟩ := List.mem_map.mp hlo
      obtain ⟨t2, m2, e2⟩ := List.mem_map.mp hhi
      refine q _ r lo hi (s1.trans (s2.trans (s3.trans (same_new nr)))) upd_same ⟨fun no => absurd (sub t1 m1).2 (no t1 (sub t1 m1).1), fun _ => ⟨⟨t1, (sub t1 m1).1, (sub t1 m1).2, e1⟩, fun t ht h => mlo _ (List.mem_map.mpr ⟨t, cov t ht h, rfl⟩), ⟨t2, (sub t2 m2).1, (sub t2 m2).2, e2⟩, fun t ht h => mhi _ (List.mem_map.mpr ⟨t, cov t ht h, rfl⟩)⟩⟩

theorem sv_svI (q : Int × Int) (d : Dem) : svI q.1 q.2 d.1 d.2.1 d.2.2 = sv q d := by
  rw [Bool.eq_iff_iff, sv_iff']
  unfold svI inI
  simp only [Bool.and_eq_true, decide_eq_true_eq]
  omega
def sp_law_served : Sp := fun vs H Q _ => ∃ (a u t : Addr) (x y p lo hi : Int), vs = [.ref a, .ref u] ∧ H a = some (.tup [.int x, .int y]) ∧ H u = some (.tup [.int p, .ref t]) ∧ H t = some (.tup [.int lo, .int hi]) ∧ Q (.bl (svI x y p lo hi)) H
theorem ok_law_served (T : Tx K mg f_contains f_intersect f_pieces_inside f_first_gap f_generates f_has_open_demand f_widen f_law_draws f_law_next f_law_spans f_law_targets f_law_scaled f_law_served f_law_demands f_law_due f_law d_contains d_intersect d_pieces_inside d_first_gap d_generates d_has_open_demand d_widen d_law_draws d_law_next d_law_spans d_law_targets d_law_scaled d_law_served d_law_demands d_law_due d_law) : FnOk P w K mg base CX0 1 f_law_served d_law_served ["_law_piece", "_law_demand"] sp_law_served := by
  refine T.F_law_served.ok sc_law_served (fun vs H Q E h => ?_) (fun cdv A outer s H vs Q E hr h => ?_)
  · obtain ⟨a, u, t, x, y, p, lo, hi, rfl, _⟩ := h
    rfl
  · obtain ⟨a, u, t, x, y, p, lo, hi, rfl, ha, hu, ht, q⟩ := h
    refine ⟨_, (pss_cons (ps_asg (pv 1) (pg_tup rfl (pgs_cons (pg_name (i := 2) sc_law_served.nd rfl (Or.inl rfl)) (pgs_cons (pg_name (i := 3) sc_law_served.nd rfl (Or.inl rfl)) pgs_nil))))
      (pss_one (ps_ret (pe_chN (pe_ix ix_tup (pv 3) pe_int (fun _ _ => rfl)) (pch_link op_le (pe_ix ix_tup (pv 0) pe_int (fun _ _ => rfl)) (pch_link op_le (pv 2) (pch_link op_le (pe_ix ix_tup (pv 0) pe_int (fun _ _ => rfl)) (pch_last op_le (pe_ix ix_tup (pv 3) pe_int (fun _ _ => rfl)))))))))), ?_⟩
    refine ⟨.ref u, rfl, u, _, rfl, SqT.of hu, rfl, .int p, [.ref t], rfl, .ref t, [], rfl, rfl, ?_⟩
    unfold svI inI at q
    refine ⟨.ref t, rfl, t, _, 0, .int lo, rfl, rfl, SqT.of ht, rfl, .ref a, rfl, a, _, 0, .int x, rfl, rfl, SqT.of ha, rfl, _, _, rfl, rfl, _, rfl, ite2 (fun e1 => ?_) (fun e1 => ?_)⟩
    · refine ⟨.int p, rfl, _, _, rfl, rfl, _, rfl, ite2 (fun e2 => ?_) (fun e2 => ?_)⟩
      · refine ⟨.ref a, rfl, a, _, 1, .int y, rfl, rfl, SqT.of ha, rfl, _, _, rfl, rfl, _, rfl, ite2 (fun e3 => ?_) (fun e3 => ?_)⟩
        · refine ⟨.ref t, rfl, t, _, 1, .int hi, rfl, rfl, SqT.of ht, rfl, _, _, rfl, rfl, ?_⟩
          rw [e1, e2, e3, Bool.true_and, Bool.and_true, Bool.and_true] at q
          exact q
        · rw [Bool.not_eq_true] at e3
          rw [e3, Bool.and_false, Bool.and_false] at q
          exact q
      · rw [Bool.not_eq_true] at e2
        rw [e2, Bool.false_and, Bool.and_false] at q
        exact q
    · rw [Bool.not_eq_true] at e1
      rw [e1, Bool.false_and, Bool.false_and] at q
      exact q
theorem hod_sv {ps : List (Int × Int)} {q t : Int × Int} : Hod ps q t ↔ ∃ p, sv q (p, t) = true ∧ ∀ s ∈ ps, sv s (p, t) = false := by
  constructor
  · rintro ⟨c, p, p1, p2, no⟩
    refine ⟨p, sv_iff'.mpr ⟨c.1, p1, p2, c.2⟩, fun s hs => ?_⟩
    rw [← Bool.not_eq_true, sv_iff']
    exact fun z => no s hs z.1 z.2.2.2 ⟨z.2.1, z.2.2.1⟩
  · rintro ⟨p, h1, no⟩
    have h1 := sv_iff'.mp h1
    refine ⟨⟨h1.1, h1.2.2.2⟩, p, h1.2.1, h1.2.2.1, fun s hs a b k => ?_⟩
    have := no s hs
    rw [← Bool.not_eq_true, sv_iff'] at this
    exact this ⟨a, k.1, k.2, b⟩
def sp_law_demands : Sp := fun vs H Q _ => ∃ (a b e : Addr) (us ws : List V) (ts ps : List (Int × Int)) (wd u v : Int), vs = [.int wd, .ref a, .ref b, .ref e] ∧ 1 ≤ wd ∧ wd ≤ 9 ∧ H a = some (.tup us) ∧ Ivs H us ts ∧ ts.length ≤ 12 ∧ H b = some (.tup ws) ∧ Ivs H ws ps ∧ ps.length ≤ 12 ∧ H e = some (.tup [.int u, .int v]) ∧ (0 ≤ u ∧ u ≤ v ∧ v < wd) ∧
  ∀ H' p zs ds, Same H H' → H' p = some (.lst zs) → Dms H' zs ds → ds.length ≤ 200 → (∀ d ∈ ds, d.2 ∈ ts ∧ sv (u, v) d = true ∧ Hod ps (u, v) d.2) → (∀ t ∈ ts, Hod ps (u, v) t → ∃ d ∈ ds, d.2 = t) → Q (.ref p) H'
theorem ok_law_demands (T : Tx K mg f_contains f_intersect f_pieces_inside f_first_gap f_generates f_has_open_demand f_widen f_law_draws f_law_next f_law_spans f_law_targets f_law_scaled f_law_served f_law_demands f_law_due f_law d_contains d_intersect d_pieces_inside d_first_gap d_generates d_has_open_demand d_widen d_law_draws d_law_next d_law_spans d_law_targets d_law_scaled d_law_served d_law_demands d_law_due d_law) : FnOk P w K mg base CX0 2 f_law_demands d_law_demands ["_law_width", "_law_targets_here", "_law_pieces", "_law_interval"] sp_law_demands := by
  refine T.F_law_demands.ok sc_law_demands (fun vs H Q E h => ?_) (fun cdv A outer s H vs Q E hr h => ?_)
  · obtain ⟨a, b, e, us, ws, ts, ps, wd, u, v, rfl, _⟩ := h
    rfl
  · obtain ⟨a, b, e, us, ws, ts, ps, wd, u, v, rfl, w0, w1, ha, ivt, lt, hb, ivp, lp, he, uv, q⟩ := h
    refine ⟨_, (pss_cons (ps_set (i := 4) sc_law_demands.nd rfl (Or.inl rfl) (pe_lst pa_nil))
      (pss_cons (ps_for PassesOwn.never rfl (pi_range1 (by rfl) T.z_range (pa_cons (pv 0) pa_nil)) (pg_name (i := 5) sc_law_demands.nd rfl (Or.inl rfl))
      (pss_one (ps_for PassesOwn.never rfl (pi_tup (pv 1)) (pg_name (i := 6) sc_law_demands.nd rfl (Or.inl rfl))
      (pss_cons (ps_set (i := 7) sc_law_demands.nd rfl (Or.inr rfl) (pe_tup (pa_cons (pv 5) (pa_cons (pv 6) pa_nil))))
      (pss_cons (ps_set (i := 8) sc_law_demands.nd rfl (Or.inl rfl) (pe_cmpR (op_eqL hr.units0) (pe_lc (own := [("_law_one_here", 9)]) (g := (gName 9)) (by rfl) sc_law_demands.nd (pi_tup (pv 2)) (blkOk_by (own := [("_law_one_here", 9)]) (N := N_law_demands) (sc := defScope s_law_demands) (by decide +kernel)) (fun _ _ _ _ _ => (pg_name (i := 9) sc_law_demands.nd rfl (Or.inl rfl))) (fun _ _ _ _ _ => pts_one (pt_val (pe_call (ok_law_served T) (hr.mono (by decide)) (by rfl) T.g_law_served T.F_law_served.kp T.b_law_served .nil pass0 (pa_cons (pv 9) (pa_cons (pv 7) pa_nil))))) (fun _ _ _ _ _ => (pv 9))) (pe_lst pa_nil) (nomark _)))
      (pss_one (ps_if (PW.pt (pw_and (pt_truth (pv 8) (by intro _; rfl)) (pw_and1 (pt_val (pe_call (ok_law_served T) (hr.mono (by decide)) (by rfl) T.g_law_served T.F_law_served.kp T.b_law_served .nil pass0 (pa_cons (pv 3) (pa_cons (pv 7) pa_nil)))))))
      (pss_one (ps_expr (pe_bm PySem.F.plainAttrs_list PySem.F.slot_list_append PySem.F.type_list_append mt_append (pv 4) (pa_cons (pv 7) pa_nil))))
      pss_nil)))))))
      (pss_one (ps_ret (pv 4))))), ?_⟩
    have lu := ivt.length
    have lw := ivp.length
    refine ⟨by show 0 ≤ sizeLine; decide, fun l nl => ?_⟩
    have sl := same_new (o := .lst []) nl
    refine ⟨.int wd, rfl, wd, rfl, by omega, by omega, for_range (D := ⟨_, _, fun _ _ => True, fun _ _ => True⟩) (n := wd.toNat) (fun i σ H' => Same H H' ∧ (∃ zs ds, H' l = some (.lst zs) ∧ Dms H' zs ds ∧ ds.length ≤ 12 * i ∧ (∀ d ∈ ds, d.2 ∈ ts ∧ sv (u, v) d = true ∧ Hod ps (u, v) d.2) ∧ ∀ (p : Int), 0 ≤ p → p < i → ∀ t ∈ ts, sv (u, v) (p, t) = true → (∀ s ∈ ps, sv s (p, t) = false) → ∃ d ∈ ds, d.2 = t) ∧ ∃ y5 y6 y7 y8 y9, σ = [some (.int wd), some (.ref a), some (.ref b), some (.ref e), some (.ref l), y5, y6, y7, y8, y9])
      ⟨sl, ⟨[], [], upd_same, .nil, Nat.le_refl _, (fun d hd => nomatch hd), fun p h0 h1 => by omega⟩, _, _, _, _, _, rfl⟩ ?_ ?_⟩
    · rintro i σ H1 hi ⟨s1, ⟨zs0, ds0, el0, dm0, ln0, so0, co0⟩, y5, y6, y7, y8, y9, rfl⟩
      refine ⟨.ref a, rfl, a, rfl, ⟨_, SqT.of (s1 _ _ ha)⟩, ?_⟩
      refine for_tup (K := K) (a := a) (xs := us) (D := ⟨_, _, fun _ _ => True, fun _ _ => True⟩) (fun j σ H' => Same H H' ∧ (∃ zs ds, H' l = some (.lst zs) ∧ Dms H' zs ds ∧ ds.length ≤ 12 * i + j ∧ (∀ d ∈ ds, d.2 ∈ ts ∧ sv (u, v) d = true ∧ Hod ps (u, v) d.2) ∧ (∀ (p : Int), 0 ≤ p → p < i → ∀ t ∈ ts, sv (u, v) (p, t) = true → (∀ s ∈ ps, sv s (p, t) = false) → ∃ d ∈ ds, d.2 = t) ∧ ∀ t ∈ ts.take j, sv (u, v) ((i : Int), t) = true → (∀ s ∈ ps, sv s ((i : Int), t) = false) → ∃ d ∈ ds, d.2 = t) ∧ ∃ y6 y7 y8 y9, σ = [some (.int wd), some (.ref a), some (.ref b), some (.ref e), some (.ref l), some (.int (0 + (i : Nat))), y6, y7, y8, y9])
        ⟨s1, ⟨zs0, ds0, el0, dm0, ln0, so0, co0, fun t ht => nomatch ht⟩, _, _, _, _, rfl⟩ (fun j σ H' _ h => SqT.of (h.1 _ _ ha)) ?_ ?_
      · rintro j z σ H2 hj ⟨s2, ⟨zs, ds, el, dm, ln, so, co, ci⟩, y6, y7, y8, y9, rfl⟩
        obtain ⟨t, lo, hi2, rfl, et, ht⟩ := ivt.get hj
        have jl := (List.getElem?_eq_some_iff.mp hj).1
        refine ⟨.int (0 + (i : Nat)), rfl, .ref t, rfl, by show 2 ≤ sizeLine; decide, fun dd ndd => ?_⟩
        have ldd : l ≠ dd := ne_of_none el ndd
        have s3 := same_new (o := .tup [.int (0 + (i : Nat)), .ref t]) ndd
        have edd := upd_same (H := H2) (a := dd) (o := .tup [.int (0 + (i : Nat)), .ref t])
        generalize upd H2 dd (.tup [.int (0 + (i : Nat)), .ref t]) = H3 at *
        have s23 := s2.trans s3
        have ht3 := s23 _ _ ht
        have hb3 := s23 _ _ hb
        -- is it open
        refine ⟨.ref b, rfl, b, rfl, ⟨_, SqT.of hb3⟩, fun D nD => ?_⟩
        refine lcT (K := K) (a := b) (xs := ws) (fun j H' ws => Ivs H' ws ((ps.take j).filter fun s => sv s ((i : Int), lo, hi2))) nD (fun H' s => SqT.of (s _ _ (hb3))) (by omega) (fun _ _ _ _ t r => r.tps t) (fun j H' ws r => (by rw [r.length]; exact Nat.le_trans (List.length_filter_le _ _) (List.length_take_le _ _))) (fun _ => .nil) ?_ ?_
        · rintro k z H' N acc hk sk eA sz r no yes
          obtain ⟨o, x, y, rfl, eo, ho⟩ := ivp.get hk
          have ho := (s23.trans sk) _ _ ho
          refine ⟨rfl, .ref o, rfl, .ref dd, rfl, o, dd, t, x, y, 0 + (i : Nat), lo, hi2, rfl, ho, sk _ _ edd, sk _ _ ht3, _, rfl, ?_⟩
          rw [show (0 + ((i : Nat) : Int)) = (i : Int) by omega]
          have e1 := sv_svI (x, y) ((i : Int), lo, hi2)
          replace e1 : svI x y (i : Int) lo hi2 = sv (x, y) ((i : Int), lo, hi2) := e1
          rw [e1]
          refine ite2 (fun cc => ?_) (fun cc => ?_)
          · refine ⟨.ref o, rfl, yes _ _ (Same.refl _) ?_⟩
            rw [take_filter eo, if_pos cc]
            exact r.snoc ho
          · refine no _ (Same.refl _) ?_
            rw [take_filter eo, if_neg cc, List.append_nil]
            exact r
        intro H4 wsf s4 eD r
        rw [lw, List.take_length] at r
        refine ⟨by show 0 ≤ sizeLine; decide, fun z9 nz9 => ?_⟩
        have s5 := same_new (o := .lst []) nz9
        have ez9 := upd_same (H := H4) (a := z9) (o := .lst [])
        generalize upd H4 z9 (.lst []) = H5 at *
        refine ⟨D, z9, wsf, rfl, rfl, SqL.of (s5 _ _ eD), SqL.of ez9, ?_⟩
        have s35 := s4.trans s5
        have s25 := s23.trans s35
        have el5 := s35 _ _ (s3 _ _ el)
        have dm5 := (dm.same s3).same s35
        have lz := dm.length
        refine ⟨_, rfl, _, rfl, ?_⟩
        have up : ts.take (j + 1) = ts.take j ++ [(lo, hi2)] := by
          rw [List.take_add_one, et]
          rfl
        have lf := r.length
        by_cases em : wsf.isEmpty = true
        · have open' : ∀ s ∈ ps, sv s ((i : Int), lo, hi2) = false := fun s hs => by
            rw [List.isEmpty_iff.mp em] at lf
            rw [← Bool.not_eq_true]
            intro z
            have : s ∈ ps.filter fun s => sv s ((i : Int), lo, hi2) := List.mem_filter.mpr ⟨hs, z⟩
            rw [List.length_eq_zero_iff.mp lf.symm] at this
            cases this
          rw [em]
          refine iteT ⟨.ref e, rfl, .ref dd, rfl, e, dd, t, u, v, 0 + (i : Nat), lo, hi2, rfl, s25 _ _ he, s35 _ _ edd, s35 _ _ ht3, _, rfl, ?_⟩
          rw [show (0 + ((i : Nat) : Int)) = (i : Int) by omega]
          have e1 := sv_svI (u, v) ((i : Int), lo, hi2)
          replace e1 : svI u v (i : Int) lo hi2 = sv (u, v) ((i : Int), lo, hi2) := e1
          rw [e1]
          refine ite2 (fun cc => ?_) (fun cc => ?_)
          · have ccs := sv_iff'.mp cc
            have c1 : lo ≤ u := ccs.1
            have c2 : u ≤ (i : Int) := ccs.2.1
            have c3 : (i : Int) ≤ v := ccs.2.2.1
            have c4 : v ≤ hi2 := ccs.2.2.2
            have hod : Hod ps (u, v) (lo, hi2) := hod_sv.mpr ⟨(i : Int), cc, open'⟩
            refine ⟨.ref l, rfl, .inl ⟨rfl, _, SqL.of el5⟩, .ref dd, rfl, l, zs, _, rfl, rfl, el5, small1000 (by omega), ?_⟩
            refine ⟨same_off nl s25, ⟨zs ++ [.ref dd], ds ++ [((i : Int), lo, hi2)], upd_same, ?_, by rw [List.length_append]; show ds.length + 1 ≤ _; omega, fun d hd => ?_, fun p h0 h1 t' ht' a1 a2 => ?_, fun t' ht' a1 a2 => ?_⟩, _, _, _, _, rfl⟩
            · refine (dm5.snoc ⟨⟨dd, t, rfl, ?_, s35 _ _ ht3⟩, by omega, by omega⟩).tps (Tps.lst el5)
              rw [show ((i : Nat) : Int) = 0 + ((i : Nat) : Int) by omega]
              exact s35 _ _ edd
            · rcases List.mem_append.mp hd with hd | hd
              · exact so d hd
              · rw [List.mem_singleton.mp hd]
                exact ⟨List.mem_of_getElem? et, cc, hod⟩
            · obtain ⟨d, hd, e⟩ := co p h0 h1 t' ht' a1 a2
              exact ⟨d, List.mem_append_left _ hd, e⟩
            · rw [up] at ht'
              rcases List.mem_append.mp ht' with ht' | ht'
              · obtain ⟨d, hd, e⟩ := ci t' ht' a1 a2
                exact ⟨d, List.mem_append_left _ hd, e⟩
              · exact ⟨_, List.mem_append_right _ (List.mem_singleton.mpr rfl), (List.mem_singleton.mp ht').symm⟩
          · refine ⟨s25, ⟨zs, ds, el5, dm5, by omega, so, co, fun t' ht' a1 a2 => ?_⟩, _, _, _, _, rfl⟩
            rw [up] at ht'
            rcases List.mem_append.mp ht' with ht' | ht'
            · exact ci t' ht' a1 a2
            · rw [List.mem_singleton.mp ht'] at a1
              exact absurd a1 cc
        · have ne : wsf.isEmpty = false := Bool.not_eq_true _ ▸ em
          rw [ne]
          refine iteF ⟨s25, ⟨zs, ds, el5, dm5, by omega, so, co, fun t' ht' a1 a2 => ?_⟩, _, _, _, _, rfl⟩
          rw [up] at ht'
          rcases List.mem_append.mp ht' with ht' | ht'
          · exact ci t' ht' a1 a2
          · rw [List.mem_singleton.mp ht'] at a2
            have z0 : ps.filter (fun s => sv s ((i : Int), lo, hi2)) = [] := List.filter_eq_nil_iff.mpr fun s hs z => by
              rw [a2 s hs] at z
              cases z
            rw [z0] at lf
            rw [List.length_eq_zero_iff.mp lf] at ne
            cases ne
      · rintro σ H2 ⟨s2, ⟨zs, ds, el, dm, ln, so, co, ci⟩, y6, y7, y8, y9, rfl⟩
        rw [lu, List.take_length] at ci
        refine ⟨s2, ⟨zs, ds, el, dm, by omega, so, fun p h0 h1 t ht a1 a2 => ?_⟩, _, _, _, _, _, rfl⟩
        by_cases c : p < i
        · exact co p h0 c t ht a1 a2
        · obtain rfl : p = i := by omega
          exact ci t ht a1 a2
    · rintro σ H2 ⟨s2, ⟨zs, ds, el, dm, ln, so, co⟩, y5, y6, y7, y8, y9, rfl⟩
      refine ⟨.ref l, rfl, q H2 l zs ds s2 el dm (by omega) so (fun t ht h => ?_)⟩
      obtain ⟨p, h1, h2⟩ := hod_sv.mp h
      have h3 := sv_iff'.mp h1
      have h4 : u ≤ p := h3.2.1
      have h5 : p ≤ v := h3.2.2.1
      exact co p (by omega) (by omega) t ht h1 h2
def sp_law_due : Sp := fun vs H Q _ => ∃ (D e : Addr) (zs : List V) (ds : List Dem) (ts ps : List (Int × Int)) (u v : Int), vs = [.ref D, .ref e] ∧ H D = some (.lst zs) ∧ Dms H zs ds ∧ ds.length ≤ 200 ∧ H e = some (.tup [.int u, .int v]) ∧ (∀ d ∈ ds, d.2 ∈ ts ∧ Hod ps (u, v) d.2) ∧ (∀ t ∈ ts, Hod ps (u, v) t → ∃ d ∈ ds, d.2 = t) ∧
  ∀ H' r x y, Same H H' → H' r = some (.tup [.int x, .int y]) → WidR ts ps (u, v) (x, y) → Q (.ref r) H'
theorem ok_law_due (T : Tx K mg f_contains f_intersect f_pieces_inside f_first_gap f_generates f_has_open_demand f_widen f_law_draws f_law_next f_law_spans f_law_targets f_law_scaled f_law_served f_law_demands f_law_due f_law d_contains d_intersect d_pieces_inside d_first_gap d_generates d_has_open_demand d_widen d_law_draws d_law_next d_law_spans d_law_targets d_law_scaled d_law_served d_law_demands d_law_due d_law) : FnOk P w K mg base CX0 1 f_law_due d_law_due ["_law_demands_here", "_law_interval"] sp_law_due := by
  refine T.F_law_due.ok sc_law_due (fun vs H Q E h => ?_) (fun cdv A outer s H vs Q E hr h => ?_)
  · obtain ⟨D, e, zs, ds, ts, ps, u, v, rfl, _⟩ := h
    rfl
  · obtain ⟨D, e, zs, ds, ts, ps, u, v, rfl, hD, dm, few, he, so, co, q⟩ := h
    refine ⟨_, (pss_cons (ps_if (pt_cmpR (op_eqL hr.units0) (pv 0) (pe_lst pa_nil) (nomark _))
      (pss_one (ps_ret (pv 1)))
      pss_nil)
      (pss_one (ps_ret (pe_tup (pa_cons (pe_callB (cr_max rfl) (by rfl) T.z_max (by decide +kernel) (pa_cons (pe_lc (own := [("_law_place", 2), ("_law_target", 3)]) (g := (gTup K 2 (gCons (gName 2) (gCons (gName 3) gNil)))) (tt := tYes) (by rfl) sc_law_due.nd (pi_list (pv 0)) (blkOk_by (own := [("_law_place", 2), ("_law_target", 3)]) (N := N_law_due) (sc := defScope s_law_due) (by decide +kernel)) (fun _ _ _ _ _ => (pg_tup rfl (pgs_cons (pg_name (i := 2) sc_law_due.nd rfl (Or.inl rfl)) (pgs_cons (pg_name (i := 3) sc_law_due.nd rfl (Or.inl rfl)) pgs_nil)))) (fun _ _ _ _ _ => pts_nil) (fun _ _ _ _ _ => (pe_ix (show IxR _ (rIxT K) from ix_tup) (pv 3) pe_int (fun _ _ => rfl)))) pa_nil)) (pa_cons (pe_callB (cr_min rfl) (by rfl) T.z_min (by decide +kernel) (pa_cons (pe_lc (own := [("_law_place", 2), ("_law_target", 3)]) (g := (gTup K 2 (gCons (gName 2) (gCons (gName 3) gNil)))) (tt := tYes) (by rfl) sc_law_due.nd (pi_list (pv 0)) (blkOk_by (own := [("_law_place", 2), ("_law_target", 3)]) (N := N_law_due) (sc := defScope s_law_due) (by decide +kernel)) (fun _ _ _ _ _ => (pg_tup rfl (pgs_cons (pg_name (i := 2) sc_law_due.nd rfl (Or.inl rfl)) (pgs_cons (pg_name (i := 3) sc_law_due.nd rfl (Or.inl rfl)) pgs_nil)))) (fun _ _ _ _ _ => pts_nil) (fun _ _ _ _ _ => (pe_ix (show IxR _ (rIxT K) from ix_tup) (pv 3) pe_int (fun _ _ => rfl)))) pa_nil)) pa_nil)))))), ?_⟩
    have lz := dm.length
    refine ⟨.ref D, rfl, by show 0 ≤ sizeLine; decide, fun z nz => ?_⟩
    have s1 := same_new (o := .lst []) nz
    have ez := upd_same (H := H) (a := z) (o := .lst [])
    generalize upd H z (.lst []) = H1 at *
    refine ⟨D, z, zs, rfl, rfl, SqL.of (s1 _ _ hD), SqL.of ez, _, rfl, ?_⟩
    cases ds with
    | nil =>
      cases dm
      refine iteT ⟨.ref e, rfl, ?_⟩
      exact q H1 e u v s1 (s1 _ _ he) ⟨fun _ => rfl, fun ⟨t, ht, h⟩ => by obtain ⟨d, hd, _⟩ := co t ht h; cases hd⟩
    | cons d0 ds =>
      have ne : zs.isEmpty = false := by
        cases dm
        rfl
      rw [ne]
      refine iteF ?_
      generalize hM : d0 :: ds = M at *
      have mpos : 0 < M.length := by rw [← hM]; exact Nat.succ_pos _
      have hD1 := s1 _ _ hD
      have dm1 := dm.same s1
      refine ⟨.ref D, rfl, D, rfl, ⟨_, SqL.of hD1⟩, fun D2 nD2 => ?_⟩
      refine lcL (K := K) (a := D) (xs := zs) (fun j H' ws => ws = ((M.take j).map (·.2.1)).map V.int) nD2 (fun H' s => SqL.of (s _ _ (hD1))) (by omega) (fun _ _ _ _ t r => r) (fun j H' ws r => (by rw [r, List.length_map, List.length_map]; exact List.length_take_le _ _)) (fun _ => rfl) ?_ ?_
      · rintro j z H' N acc hj sj eA sz r no yes
        obtain ⟨p, lo, hi, ed, dz⟩ := (dm1.same sj).get hj
        obtain ⟨o, t, rfl, eo, et⟩ := dz.ex
        refine ⟨o, _, rfl, SqT.of eo, rfl, .int p, [.ref t], rfl, .ref t, [], rfl, rfl, rfl, .ref t, rfl, t, _, 0, .int lo, rfl, rfl, SqT.of et, rfl, yes H' _ (Same.refl _) ?_⟩
        rw [r, List.take_add_one, ed, List.map_append, List.map_append]
        rfl
      intro H2 ws2 s2 eD2 r2
      rw [lz, List.take_length] at r2
      subst r2
      refine ⟨D2, M.map (·.2.1), rfl, SqL.of eD2, by rw [List.length_map]; exact mpos, fun lo hlo mlo => ?_⟩
      have hD2 := s2 _ _ hD1
      have dm2 := dm1.same s2
      refine ⟨.ref D, rfl, D, rfl, ⟨_, SqL.of hD2⟩, fun D3 nD3 => ?_⟩
      refine lcL (K := K) (a := D) (xs := zs) (fun j H' ws => ws = ((M.take j).map (·.2.2)).map V.int) nD3 (fun H' s => SqL.of (s _ _ (hD2))) (by omega) (fun _ _ _ _ t r => r) (fun j H' ws r => (by rw [r, List.length_map, List.length_map]; exact List.length_take_le _ _)) (fun _ => rfl) ?_ ?_
      · rintro j z H' N acc hj sj eA sz r no yes
        obtain ⟨p, lo, hi, ed, dz⟩ := (dm2.same sj).get hj
        obtain ⟨o, t, rfl, eo, et⟩ := dz.ex
        refine ⟨o, _, rfl, SqT.of eo, rfl, .int p, [.ref t], rfl, .ref t, [], rfl, rfl, rfl, .ref t, rfl, t, _, 1, .int hi, rfl, rfl, SqT.of et, rfl, yes H' _ (Same.refl _) ?_⟩
        rw [r, List.take_add_one, ed, List.map_append, List.map_append]
        rfl
      intro H3 ws3 s3 eD3 r3
      rw [lz, List.take_length] at r3
      subst r3
      refine ⟨D3, M.map (·.2.2), rfl, SqL.of eD3, by rw [List.length_map]; exact mpos, fun hi hhi mhi => ?_⟩
      refine ⟨by show 2 ≤ sizeLine; decide, fun r nr => ?_⟩
      obtain ⟨d1, m1, e1⟩ := List.mem_map.mp hlo
      obtain ⟨d2, m2, e2⟩ := List.mem_map.mp hhi
      refine q _ r lo hi (s1.trans (s2.trans (s3.trans (same_new nr)))) upd_same ⟨fun no => absurd (so d1 m1).2 (no d1.2 (so d1 m1).1), fun _ => ⟨⟨d1.2, (so d1 m1).1, (so d1 m1).2, e1⟩, fun t ht h => ?_, ⟨d2.2, (so d2 m2).1, (so d2 m2).2, e2⟩, fun t ht h => ?_⟩⟩
      · obtain ⟨d, hd, rfl⟩ := co t ht h
        exact mlo _ (List.mem_map.mpr ⟨d, hd, rfl⟩)
      · obtain ⟨d, hd, rfl⟩ := co t ht h
        exact mhi _ (List.mem_map.mpr ⟨d, hd, rfl⟩)
theorem hod_str {ps : List (Int × Int)} {q t : Int × Int} {f s : Int} (hf : 0 < f) : Hod (ps.map (strI f s)) (strI f s q) (strI f s t) ↔ Hod ps q t := by
  have cont : ∀ a b : Int × Int, ((strI f s a).1 ≤ (strI f s b).1 ∧ (strI f s b).2 ≤ (strI f s a).2) ↔ (a.1 ≤ b.1 ∧ b.2 ≤ a.2) := fun a b => by
    show (a.1 * f + s ≤ b.1 * f + s ∧ b.2 * f + f - 1 + s ≤ a.2 * f + f - 1 + s) ↔ _
    rw [← mul_le_iff (f := f) (a := a.1) hf, ← mul_le_iff (f := f) (a := b.2) hf]
    omega
  constructor
  · rintro ⟨c, p, p1, p2, no⟩
    have p1 : q.1 * f + s ≤ p := p1
    have p2 : p ≤ q.2 * f + f - 1 + s := p2
    obtain ⟨k, ek⟩ : ∃ k, k = (p - s) / f := ⟨_, rfl⟩
    have e1 : k * f ≤ p - s := by
      rw [ek]
      exact Int.ediv_mul_le _ (by omega)
    have e2 : p - s < k * f + f := by
      have := Int.lt_ediv_add_one_mul_self (p - s) hf
      rw [← ek, Int.add_mul, Int.one_mul] at this
      exact this
    have k1 : q.1 ≤ k := by
      have : q.1 * f < (k + 1) * f := by
        rw [Int.add_mul, Int.one_mul]
        omega
      have := Int.lt_of_mul_lt_mul_right this (Int.le_of_lt hf)
      omega
    have k2 : k ≤ q.2 := by
      have : k * f < (q.2 + 1) * f := by
        rw [Int.add_mul, Int.one_mul]
        omega
      have := Int.lt_of_mul_lt_mul_right this (Int.le_of_lt hf)
      omega
    refine ⟨(cont t q).mp c, k, k1, k2, fun z hz a b h => ?_⟩
    have ab := (cont t z).mpr ⟨a, b⟩
    refine no (strI f s z) (List.mem_map.mpr ⟨z, hz, rfl⟩) ab.1 ab.2 ⟨?_, ?_⟩
    · have := (mul_le_iff hf).mpr h.1
      show z.1 * f + s ≤ p
      omega
    · have := (mul_le_iff hf).mpr h.2
      show p ≤ z.2 * f + f - 1 + s
      omega
  · rintro ⟨c, p, p1, p2, no⟩
    refine ⟨(cont t q).mpr c, p * f + s, ?_, ?_, fun z hz a b h => ?_⟩
    · have := (mul_le_iff hf).mpr p1
      show q.1 * f + s ≤ p * f + s
      omega
    · have := (mul_le_iff hf).mpr p2
      show p * f + s ≤ q.2 * f + f - 1 + s
      omega
    · obtain ⟨y, hy, rfl⟩ := List.mem_map.mp hz
      have ab := (cont t y).mp ⟨a, b⟩
      have h1 : y.1 * f + s ≤ p * f + s := h.1
      have h2 : p * f + s ≤ y.2 * f + f - 1 + s := h.2
      refine no y hy ab.1 ab.2 ⟨(mul_le_iff hf).mp (by omega), ?_⟩
      have : p * f < (y.2 + 1) * f := by
        rw [Int.add_mul, Int.one_mul]
        omega
      have := Int.lt_of_mul_lt_mul_right this (Int.le_of_lt hf)
      omega
theorem widR_str {ts ps : List (Int × Int)} {q r : Int × Int} {f s : Int} (hf : 0 < f) (h : WidR ts ps q r) : WidR (ts.map (strI f s)) (ps.map (strI f s)) (strI f s q) (strI f s r) := by
  constructor
  · intro no
    rw [h.1 fun t ht z => no (strI f s t) (List.mem_map.mpr ⟨t, ht, rfl⟩) ((hod_str hf).mpr z)]
  · rintro ⟨t', ht', z⟩
    obtain ⟨t, ht, rfl⟩ := List.mem_map.mp ht'
    obtain ⟨⟨t1, m1, h1, e1⟩, a1, ⟨t2, m2, h2, e2⟩, a2⟩ := h.2 ⟨t, ht, (hod_str hf).mp z⟩
    refine ⟨⟨_, List.mem_map.mpr ⟨t1, m1, rfl⟩, (hod_str hf).mpr h1, ?_⟩, fun y' hy' hz => ?_, ⟨_, List.mem_map.mpr ⟨t2, m2, rfl⟩, (hod_str hf).mpr h2, ?_⟩, fun y' hy' hz => ?_⟩
    · show t1.1 * f + s = r.1 * f + s
      rw [e1]
    · obtain ⟨y, hy, rfl⟩ := List.mem_map.mp hy'
      have := (mul_le_iff hf).mpr (a1 y hy ((hod_str hf).mp hz))
      show y.1 * f + s ≤ r.1 * f + s
      omega
    · show t2.2 * f + f - 1 + s = r.2 * f + f - 1 + s
      rw [e2]
    · obtain ⟨y, hy, rfl⟩ := List.mem_map.mp hy'
      have := (mul_le_iff hf).mpr (a2 y hy ((hod_str hf).mp hz))
      show r.2 * f + f - 1 + s ≤ y.2 * f + f - 1 + s
      omega
theorem widR_in {ts ps : List (Int × Int)} {q r : Int × Int} {wd : Int} (h : WidR ts ps q r) (ht : ∀ t ∈ ts, 0 ≤ t.1 ∧ t.1 ≤ t.2 ∧ t.2 < wd) (hq : 0 ≤ q.1 ∧ q.1 ≤ q.2 ∧ q.2 < wd) : (0 ≤ r.1 ∧ r.1 ≤ r.2 ∧ r.2 < wd) ∧ r.1 ≤ q.1 ∧ q.2 ≤ r.2 := by
  by_cases c : ∃ t ∈ ts, Hod ps q t
  · obtain ⟨⟨t1, m1, h1, e1⟩, a1, ⟨t2, m2, h2, e2⟩, a2⟩ := h.2 c
    have o1 := ht t1 m1
    have o2 := ht t2 m2
    have c1 := h1.1
    have c2 := h2.1
    omega
  · rw [h.1 fun t ht z => c ⟨t, ht, z⟩]
    omega
theorem widR_sv {ts ps : List (Int × Int)} {q r : Int × Int} (h : WidR ts ps q r) {d : Dem} (md : d.2 ∈ ts) (sd : sv q d = true) (hd : Hod ps q d.2) : sv r d = true := by
  obtain ⟨⟨t1, m1, h1, e1⟩, a1, ⟨t2, m2, h2, e2⟩, a2⟩ := h.2 ⟨_, md, hd⟩
  have b1 := a1 _ md hd
  have b2 := a2 _ md hd
  have c1 := h1.1
  have c2 := h2.1
  have sd := sv_iff'.mp sd
  exact sv_iff'.mpr (by omega)
theorem str_pc {ps : List (Int × Int)} {wd f s : Int} (h : ∀ q ∈ ps, 0 ≤ q.1 ∧ q.1 ≤ q.2 ∧ q.2 < wd) (hw : wd ≤ 9) (hf : 0 < f) (hf2 : f ≤ 100000000000) (hs : 0 ≤ s) (hs2 : s ≤ 100) : Pc (ps.map (strI f s)) := fun q hq => by
  obtain ⟨r, hr, rfl⟩ := List.mem_map.mp hq
  have o := h r hr
  have a1 : r.1 * f ≤ 9 * 100000000000 := Int.mul_le_mul (by omega) hf2 (by omega) (by decide)
  have a2 : r.2 * f ≤ 9 * 100000000000 := Int.mul_le_mul (by omega) hf2 (by omega) (by decide)
  have a3 : 0 ≤ r.1 * f := Int.mul_nonneg (by omega) (by omega)
  have a4 : r.1 * f ≤ r.2 * f := Int.mul_le_mul_of_nonneg_right o.2.1 (by omega)
  show (0 ≤ r.1 * f + s ∧ r.1 * f + s ≤ r.2 * f + f - 1 + s) ∧ r.2 * f + f - 1 + s < 10 ^ 13
  omega
def sp_law (K : PySem.W.Frag) : Sp := fun vs H Q _ => ∃ (a : Addr) (ns : List Int), vs = [.ref a] ∧ SqL K H a (ns.map V.int) ∧ ns.length ≤ 63 ∧ ∀ H', Q (.bl true) H'
theorem ok_law (T : Tx K mg f_contains f_intersect f_pieces_inside f_first_gap f_generates f_has_open_demand f_widen f_law_draws f_law_next f_law_spans f_law_targets f_law_scaled f_law_served f_law_demands f_law_due f_law d_contains d_intersect d_pieces_inside d_first_gap d_generates d_has_open_demand d_widen d_law_draws d_law_next d_law_spans d_law_targets d_law_scaled d_law_served d_law_demands d_law_due d_law) : FnG P w K mg base 8 f_law d_law ["_law_script"] (sp_law K) := by
  refine FnG.of T.F_law sc_law (fun {vs H Q} h => ?_) (fun cdv A outer s H vs Q hr hq h => ?_)
  · obtain ⟨a, ns, rfl, _⟩ := h
    rfl
  · obtain ⟨a, ns, rfl, hS, hlen, q⟩ := h
    refine ⟨_, (pss_cons (ps_set (i := 1) sc_law.nd rfl (Or.inl rfl) (pe_call (ok_law_draws T) (hr.mono (by decide)) (by rfl) T.g_law_draws T.F_law_draws.kp T.b_law_draws .nil pass0 (pa_cons (pv 0) pa_nil)))
      (pss_cons (ps_for PassesOwn.never rfl (pi_range1 (by rfl) T.z_range (pa_cons pe_int pa_nil)) (pg_name (i := 2) sc_law.nd rfl (Or.inl rfl))
      (pss_cons (ps_set (i := 3) sc_law.nd rfl (Or.inl rfl) (pe_op op_add pe_int (pe_call (ok_law_next T) (hr.mono (by decide)) (by rfl) T.g_law_next T.F_law_next.kp T.b_law_next .nil pass0 (pa_cons (pv 1) (pa_cons pe_int pa_nil)))))
      (pss_cons (ps_par (by rfl) sc_law.nd (i := 4) (j := 5) rfl rfl (by decide) rfl rfl (pa_cons (pe_call (ok_law_targets T) (hr.mono (by decide)) (by rfl) T.g_law_targets T.F_law_targets.kp T.b_law_targets .nil pass0 (pa_cons (pv 1) (pa_cons (pv 3) (pa_cons pe_int pa_nil)))) (pa_cons (pe_call (ok_law_spans T) (hr.mono (by decide)) (by rfl) T.g_law_spans T.F_law_spans.kp T.b_law_spans .nil pass0 (pa_cons (pv 1) (pa_cons (pv 3) (pa_cons (pe_call (ok_law_next T) (hr.mono (by decide)) (by rfl) T.g_law_next T.F_law_next.kp T.b_law_next .nil pass0 (pa_cons (pv 1) (pa_cons pe_int pa_nil))) pa_nil)))) pa_nil)) (by rfl))
      (pss_cons (ps_asg (pe_tup (pa_cons (pe_ix ix_list (pe_lst (pa_cons pe_int (pa_cons pe_int (pa_cons (pe_op op_pow pe_int pe_int) pa_nil)))) (pe_call (ok_law_next T) (hr.mono (by decide)) (by rfl) T.g_law_next T.F_law_next.kp T.b_law_next .nil pass0 (pa_cons (pv 1) (pa_cons pe_int pa_nil))) (fun _ _ => rfl)) (pa_cons (pe_call (ok_law_next T) (hr.mono (by decide)) (by rfl) T.g_law_next T.F_law_next.kp T.b_law_next .nil pass0 (pa_cons (pv 1) (pa_cons pe_int pa_nil))) pa_nil))) (pg_tup rfl (pgs_cons (pg_name (i := 6) sc_law.nd rfl (Or.inr rfl)) (pgs_cons (pg_name (i := 7) sc_law.nd rfl (Or.inr rfl)) pgs_nil))))
      (pss_one (ps_for PassesOwn.never rfl (pi_tup (pe_op op_catA (pe_op op_catA (pe_call (ok_law_spans T) (hr.mono (by decide)) (by rfl) T.g_law_spans T.F_law_spans.kp T.b_law_spans .nil pass0 (pa_cons (pv 1) (pa_cons (pv 3) (pa_cons pe_int pa_nil)))) (pe_slice sl_tupA (pv 4) po_none (po_some pe_int))) (pe_slice sl_tupA (pv 5) po_none (po_some pe_int)))) (pg_name (i := 8) sc_law.nd rfl (Or.inl rfl))
      (pss_cons (ps_set (i := 9) sc_law.nd rfl (Or.inl rfl) (pe_call (ok_law_demands T) (hr.mono (by decide)) (by rfl) T.g_law_demands T.F_law_demands.kp T.b_law_demands .nil pass0 (pa_cons (pv 3) (pa_cons (pv 4) (pa_cons (pv 5) (pa_cons (pv 8) pa_nil))))))
      (pss_cons (ps_set (i := 10) sc_law.nd rfl (Or.inr rfl) (pe_call (ok_law_due T) (hr.mono (by decide)) (by rfl) T.g_law_due T.F_law_due.kp T.b_law_due .nil pass0 (pa_cons (pv 9) (pa_cons (pv 8) pa_nil))))
      (pss_cons (ps_if (pt_cmpR op_ne (pe_callB (call_reprD hq hr.units) (by rfl) T.z_repr (by decide +kernel) (pa_cons (pe_call (ok_widen T) (hr.mono (by decide)) (by rfl) T.g_widen T.F_widen.kp T.b_widen .nil pass0 (pa_cons (pv 4) (pa_cons (pv 5) (pa_cons (pv 8) pa_nil)))) pa_nil)) (pe_callB (call_reprD hq hr.units) (by rfl) T.z_repr (by decide +kernel) (pa_cons (pv 10) pa_nil)) (nomark _))
      (pss_one (ps_ret pe_bl))
      pss_nil)
      (pss_cons (ps_setLc (i := 11) (own := [("_law_some", 12)]) (g := (gName 12)) (tt := tYes) (by rfl) sc_law.nd rfl rfl (sw_true rfl rfl rfl (by decide +kernel)) (pi_tup (pe_tup (pa_cons (pv 4) (pa_cons (pv 5) (pa_cons (pe_tup (pa_cons (pv 8) pa_nil)) (pa_cons (pe_tup (pa_cons (pv 10) pa_nil)) pa_nil)))))) (blkOk_by (own := [("_law_some", 12)]) (N := N_law) (sc := defScope s_law) (by decide +kernel)) (fun _ _ _ _ _ => (pg_name (i := 12) sc_law.nd rfl (Or.inl rfl))) (fun _ _ _ _ _ => pts_nil) (fun _ _ _ _ _ => (pe_call (ok_law_scaled T) (hr.mono (by decide)) (by rfl) T.g_law_scaled T.F_law_scaled.kp T.b_law_scaled .nil pass0 (pa_cons (pv 12) (pa_cons (pv 6) (pa_cons (pv 7) pa_nil))))))
      (pss_cons (ps_if (pt_cmpR op_ne (pe_callB (call_reprD hq hr.units) (by rfl) T.z_repr (by decide +kernel) (pa_cons (pe_call (ok_widen T) (hr.mono (by decide)) (by rfl) T.g_widen T.F_widen.kp T.b_widen .nil pass0 (pa_cons (pe_ix ix_list (pv 11) pe_int (fun _ _ => rfl)) (pa_cons (pe_ix ix_list (pv 11) pe_int (fun _ _ => rfl)) (pa_cons (pe_ix ix_tup (pe_ix ix_list (pv 11) pe_int (fun _ _ => rfl)) pe_int (fun _ _ => rfl)) pa_nil)))) pa_nil)) (pe_callB (call_reprD hq hr.units) (by rfl) T.z_repr (by decide +kernel) (pa_cons (pe_ix ix_tup (pe_ix ix_list (pv 11) pe_int (fun _ _ => rfl)) pe_int (fun _ _ => rfl)) pa_nil)) (nomark _))
      (pss_one (ps_ret pe_bl))
      pss_nil)
      (pss_one (ps_if (pt_cmpR (op_neL hr.units0) (pe_lc (own := [("_law_demand", 13)]) (g := (gName 13)) (by rfl) sc_law.nd (pi_list (pv 9)) (blkOk_by (own := [("_law_demand", 13)]) (N := N_law) (sc := defScope s_law) (by decide +kernel)) (fun _ _ _ _ _ => (pg_name (i := 13) sc_law.nd rfl (Or.inl rfl))) (fun _ _ _ _ _ => pts_one (pt_not (pt_val (pe_call (ok_law_served T) (hr.mono (by decide)) (by rfl) T.g_law_served T.F_law_served.kp T.b_law_served .nil pass0 (pa_cons (pv 10) (pa_cons (pv 13) pa_nil)))))) (fun _ _ _ _ _ => (pv 13))) (pe_lst pa_nil) (nomark _))
      (pss_one (ps_ret pe_bl))
      pss_nil)))))))))))))
      (pss_one (ps_ret pe_bl)))), ?_⟩
    refine ⟨.ref a, rfl, a, ns, rfl, hS, hlen, fun H1 d c s1 nd dk0 => ?_⟩
    refine ⟨6, rfl, by decide, by decide, for_range (n := 6) (fun i σ H' => (∃ n : Int, Dk H' d c n ∧ 0 ≤ n ∧ n ≤ 300 * i) ∧ ∃ y2 y3 y4 y5 y6 y7 y8 y9 y10 y11 y12 y13, σ = [some (.ref a), some (.ref d), y2, y3, y4, y5, y6, y7, y8, y9, y10, y11, y12, y13])
      ⟨⟨0, dk0, by decide, by decide⟩, _, _, _, _, _, _, _, _, _, _, _, _, rfl⟩ ?_ (fun σ H' _ => q H')⟩
    rintro i σ H2 hi ⟨⟨n, dk2, n0, n1⟩, y2, y3, y4, y5, y6, y7, y8, y9, y10, y11, y12, y13, rfl⟩
    refine ⟨.ref d, rfl, d, c, n, 9, rfl, dk2, n0, by omega, by decide, by decide, fun H3 r kp3 dk3 r0 r1 => ?_⟩
    refine ⟨_, _, rfl, rfl, ?_⟩
    refine ⟨.ref d, rfl, _, rfl, d, c, n + 1, 1 + r, 12, rfl, dk3, by omega, by omega, by omega, by omega, by decide, by decide, fun H4 tt tus ts m4 kp4 dk4 m40 m41 ett tiv trw tl => ?_⟩
    refine ⟨.ref d, rfl, _, rfl, .ref d, rfl, d, c, _, 6, rfl, dk4, by omega, by omega, by decide, by decide, fun H5 mm kp5 dk5 mm0 mm1 => ?_⟩
    refine ⟨d, c, _, 1 + r, mm, rfl, dk5, by omega, by omega, by omega, by omega, mm0, by omega, fun H6 pp us ps m6 kp6 dk6 m60 m61 epp iv prw pl => ?_⟩
    refine ⟨_, _, rfl, ?_⟩
    have kp46 := kp5.trans kp6
    have ett6 := kp46.tup dk4 ett
    have tiv6 := tiv.tps (kp46.tps dk4)
    have lt : ts.length ≤ 12 := by omega
    have lp : ps.length ≤ 5 := by omega
    have lu := tiv.length
    have lus := iv.length
    have ts0 := trw.ok
    have ps0 := prw.ok
    -- far, base
    refine ⟨10, 11, rfl, rfl, ⟨by decide, by decide, by decide⟩, by show 3 ≤ sizeLine; decide, fun p np => ?_⟩
    have off := dk6.off np
    refine ⟨.ref d, rfl, d, c, _, 3, rfl, dk6.kept (same_new np), by omega, by omega, by decide, by decide, fun H8 r3 kp8 dk8 a0 a1 => ?_⟩
    obtain ⟨F, eF, f0, f1⟩ := far3 a0 a1
    refine ⟨p, _, r3, _, rfl, rfl, SqL.of (kp8.keep off upd_same), eF, .ref d, rfl, d, c, _, 9, rfl, dk8, by omega, by omega, by decide, by decide, fun H9 bs kp9 dk9 b0 b1 => ?_⟩
    refine ⟨by show 2 ≤ sizeLine; decide, fun tp ntp => ?_⟩
    have s10 := same_new (o := .tup [.int F, .int bs]) ntp
    have etp := upd_same (H := H9) (a := tp) (o := .tup [.int F, .int bs])
    generalize upd H9 tp (.tup [.int F, .int bs]) = H10 at *
    refine ⟨tp, _, rfl, SqT.of etp, rfl, .int F, [.int bs], rfl, .int bs, [], rfl, rfl, ?_⟩
    have dk10 := dk9.kept s10
    have t610 : Tps H6 H10 := (Tps.same (same_new np)).trans ((kp8.tps (dk6.kept (same_new np))).trans ((kp9.tps dk8).trans (Tps.same s10)))
    have tin : ∀ q ∈ ts, 0 ≤ q.1 ∧ q.1 ≤ q.2 ∧ q.2 < 100 := in_up ts0 (by omega)
    have pin : ∀ q ∈ ps, 0 ≤ q.1 ∧ q.1 ≤ q.2 ∧ q.2 < 100 := in_up ps0 (by omega)
    -- the intervals tried
    refine ⟨.ref d, rfl, _, rfl, d, c, _, 1 + r, 6, rfl, dk10, by omega, by omega, by omega, by omega, by decide, by decide, fun Hd qq qus qs m7 kpd dkd m70 m71 eqq qiv qrw ql => ?_⟩
    have t6d := t610.trans (kpd.tps dk10)
    refine ⟨.ref tt, rfl, 2, rfl, slA_any (t6d _ _ ett6) (fun He p1 se ep1 => ?_)⟩
    rw [show cutV tus none (some 2) = tus.take 2 from cutTo tus 2] at ep1
    have lqu := qiv.length
    have l1 := List.length_take_le 2 us
    have l2 := List.length_take_le 2 tus
    refine catA_any (se _ _ eqq) ep1 (by rw [show sizeLine = 16777216 by decide]; omega) (fun Hf L1 sf eL1 => ?_)
    have t6f := t6d.trans (Tps.same (se.trans sf))
    refine ⟨.ref pp, rfl, 2, rfl, slA_any (t6f _ _ epp) (fun Hg p2 sg ep2 => ?_)⟩
    rw [show cutV us none (some 2) = us.take 2 from cutTo us 2] at ep2
    refine catA_any (sg _ _ eL1) ep2 (by rw [show sizeLine = 16777216 by decide, List.length_append]; omega) (fun Hh L sh eL => ?_)
    have sdh := se.trans (sf.trans (sg.trans sh))
    have t6h := t6d.trans (Tps.same sdh)
    have ivL : Ivs Hh (qus ++ tus.take 2 ++ us.take 2) (qs ++ ts.take 2 ++ ps.take 2) := ((qiv.same sdh).append ((tiv6.take 2).tps t6h)).append ((iv.take 2).tps t6h)
    have okL : ∀ q ∈ qs ++ ts.take 2 ++ ps.take 2, 0 ≤ q.1 ∧ q.1 ≤ q.2 ∧ q.2 < 1 + r := in_two (in_two qrw.ok (in_take ts0 2)) (in_take ps0 2)
    have etth := t6h _ _ ett6
    have tivh := tiv6.tps t6h
    have epph := t6h _ _ epp
    have ivh := iv.tps t6h
    have pc0 : Pc ps := fun q hq => by have := pin q hq; omega
    refine ⟨L, rfl, ⟨_, SqT.of eL⟩, ?_⟩
    refine for_tup (K := K) (a := L) (xs := qus ++ tus.take 2 ++ us.take 2) (D := ⟨_, _, fun _ _ => True, fun _ _ => True⟩) (fun j σ H' => Same Hh H' ∧ ∃ z8 z9 z10 z11 z12 z13, σ = [some (.ref a), some (.ref d), some (.int (0 + (i : Nat))), some (.int (1 + r)), some (.ref tt), some (.ref pp), some (.int F), some (.int bs), z8, z9, z10, z11, z12, z13])
      ⟨Same.refl _, _, _, _, _, _, _, rfl⟩ (fun j σ H' _ h => SqT.of (h.1 _ _ eL)) ?_ ?_
    · rintro j v σ Hi hj ⟨si, z8, z9, z10, z11, z12, z13, rfl⟩
      obtain ⟨t, x, y, rfl, et, ht⟩ := ivL.get hj
      have ht := si _ _ ht
      have oq := okL _ (List.mem_of_getElem? et)
      have oq1 : 0 ≤ x ∧ x ≤ y ∧ y < 1 + r := oq
      refine ⟨_, rfl, .ref tt, rfl, .ref pp, rfl, .ref t, rfl, tt, pp, t, tus, us, ts, ps, 1 + r, x, y, rfl, by omega, by omega, si _ _ etth, tivh.same si, lt, si _ _ epph, ivh.same si, by omega, ht, oq1, fun H20 dl zs ds s20 edl dm ld so co => ?_⟩
      refine ⟨.ref dl, rfl, .ref t, rfl, dl, t, zs, ds, ts, ps, x, y, rfl, edl, dm, ld, s20 _ _ ht, fun d hd => ⟨(so d hd).1, (so d hd).2.2⟩, co, fun H21 du xd yd s21 edu wid => ?_⟩
      have s2021 := s20.trans s21
      have si21 := si.trans s2021
      refine ⟨.ref tt, rfl, .ref pp, rfl, .ref t, rfl, tt, pp, t, tus, us, ts, ps, x, y, rfl, si21 _ _ etth, tivh.same si21, by omega, si21 _ _ epph, ivh.same si21, pc0, by omega, s2021 _ _ ht, by omega, fun H22 r1 x1 y1 s22 er1 wid1 => ?_⟩
      have e12 := wid1.uniq wid
      have exd : x1 = xd := congrArg Prod.fst e12
      have eyd : y1 = yd := congrArg Prod.snd e12
      subst exd eyd
      have wi := widR_in wid ts0 oq
      have wi1 : (0 ≤ x1 ∧ x1 ≤ y1 ∧ y1 < 1 + r) := wi.1
      have si22 := si21.trans s22
      have edu22 := s22 _ _ edu
      refine ⟨.ref r1, .tuple [.int x1, .int y1], _, _, rfl, dp2 er1, sm2 (by omega) (by omega), by decide, by decide, ?_⟩
      refine ⟨.ref du, rfl, .ref du, .tuple [.int x1, .int y1], _, _, rfl, dp2 edu22, sm2 (by omega) (by omega), by decide, by decide, rfl, _, rfl, iteNS rfl ?_⟩
      -- all scaled
      have ht22 := (s2021.trans s22) _ _ ht
      refine ⟨.ref tt, rfl, .ref pp, rfl, .ref t, rfl, by show 1 ≤ sizeLine; decide, fun q1 nq1 => ?_⟩
      have s23 := same_new (o := .tup [.ref t]) nq1
      have eq1 := upd_same (H := H22) (a := q1) (o := .tup [.ref t])
      generalize upd H22 q1 (.tup [.ref t]) = H23 at *
      refine ⟨.ref du, rfl, by show 1 ≤ sizeLine; decide, fun q2 nq2 => ?_⟩
      have s24 := same_new (o := .tup [.ref du]) nq2
      have eq2 := upd_same (H := H23) (a := q2) (o := .tup [.ref du])
      generalize upd H23 q2 (.tup [.ref du]) = H24 at *
      refine ⟨by show 4 ≤ sizeLine; decide, fun q4 nq4 => ?_⟩
      have s25 := same_new (o := .tup [.ref tt, .ref pp, .ref q1, .ref q2]) nq4
      have eq4 := upd_same (H := H24) (a := q4) (o := .tup [.ref tt, .ref pp, .ref q1, .ref q2])
      generalize upd H24 q4 (.tup [.ref tt, .ref pp, .ref q1, .ref q2]) = H25 at *
      have s2225 := s23.trans (s24.trans s25)
      have si25 := si22.trans s2225
      have rws : Rws H25 [.ref tt, .ref pp, .ref q1, .ref q2] [ts, ps, [(x, y)], [(x1, y1)]] :=
        .cons (si25 _ _ etth) (tivh.same si25) (.cons (si25 _ _ epph) (ivh.same si25) (.cons ((s24.trans s25) _ _ eq1) (.cons (s2225 _ _ ht22) .nil) (.cons (s25 _ _ eq2) (.cons (s2225 _ _ edu22) .nil) .nil)))
      have okR : ∀ (j : Nat) (R : List (Int × Int)), [ts, ps, [(x, y)], [(x1, y1)]][j]? = some R → (∀ q ∈ R, 0 ≤ q.1 ∧ q.1 ≤ q.2 ∧ q.2 < 100) ∧ R.length ≤ 12 := fun j R h => by
        match j, h with
        | 0, h => cases h; exact ⟨tin, lt⟩
        | 1, h => cases h; exact ⟨pin, by omega⟩
        | 2, h => cases h; exact ⟨in_one ⟨oq1.1, oq1.2.1, by show y < 100; omega⟩, by show 1 ≤ 12; decide⟩
        | 3, h => cases h; exact ⟨in_one ⟨wi1.1, wi1.2.1, by show y1 < 100; omega⟩, by show 1 ≤ 12; decide⟩
      refine ⟨q4, rfl, ⟨_, SqT.of eq4⟩, fun D nD => ?_⟩
      refine lcT (K := K) (a := q4) (xs := [V.ref tt, .ref pp, .ref q1, .ref q2]) (fun j H' ws => Rws H' ws (([ts, ps, [(x, y)], [(x1, y1)]].take j).map (fun z : List (Int × Int) => z.map (strI F bs)))) nD (fun H' s => SqT.of (s _ _ (eq4))) (by show 4 < 1000; decide) (fun _ _ _ _ t r => r.tps t) (fun j H' ws r => (by rw [r.length, List.length_map]; exact List.length_take_le _ _)) (fun _ => .nil) ?_ ?_
      · rintro j z H' N acc hj sj eA sz rr no yes
        obtain ⟨ra, ru, R, rfl, eR, hra, iR⟩ := (rws.tps (Tps.same sj)).get hj
        obtain ⟨okr, lR⟩ := okR j R eR
        refine ⟨rfl, .ref ra, rfl, .int F, rfl, .int bs, rfl, ra, ru, R, F, bs, rfl, hra, iR, by omega, okr, f0, f1, b0, by omega, fun H26 w1 wu1 s26 ew1 iw1 => yes H26 _ s26 ?_⟩
        rw [List.take_add_one, eR, List.map_append]
        exact (rr.tps (Tps.same s26)).append (.cons ew1 iw1 .nil)
      intro H26 ws s26 eD rr
      replace rr : Rws H26 ws [ts.map (strI F bs), ps.map (strI F bs), [strI F bs (x, y)], [strI F bs (x1, y1)]] := rr
      cases rr with
      | @cons w1 wu1 _ _ _ x1e x1i rr =>
      cases rr with
      | @cons w2 wu2 _ _ _ x2e x2i rr =>
      cases rr with
      | @cons w3 wu3 _ _ _ x3e x3i rr =>
      cases rr with
      | @cons w4 wu4 _ _ _ x4e x4i rr =>
      cases rr
      obtain ⟨b3, rfl, hb3⟩ : ∃ b3, wu3 = [.ref b3] ∧ H26 b3 = some (.tup [.int (x * F + bs), .int (y * F + F - 1 + bs)]) := by
        cases x3i with
        | cons h1 h2 =>
          cases h2
          exact ⟨_, rfl, h1⟩
      obtain ⟨b4, rfl, hb4⟩ : ∃ b4, wu4 = [.ref b4] ∧ H26 b4 = some (.tup [.int (x1 * F + bs), .int (y1 * F + F - 1 + bs)]) := by
        cases x4i with
        | cons h1 h2 =>
          cases h2
          exact ⟨_, rfl, h1⟩
      have pcq := str_pc (wd := 1 + r) (f := F) (s := bs) (in_one oq) (by omega) f0 f1 b0 (by omega) (strI F bs (x, y)) (List.mem_map.mpr ⟨_, List.mem_singleton.mpr rfl, rfl⟩)
      have pcr := str_pc (wd := 1 + r) (f := F) (s := bs) (in_one wi.1) (by omega) f0 f1 b0 (by omega) (strI F bs (x1, y1)) (List.mem_map.mpr ⟨_, List.mem_singleton.mpr rfl, rfl⟩)
      replace pcq : (0 ≤ x * F + bs ∧ x * F + bs ≤ y * F + F - 1 + bs) ∧ y * F + F - 1 + bs < 10 ^ 13 := pcq
      replace pcr : (0 ≤ x1 * F + bs ∧ x1 * F + bs ≤ y1 * F + F - 1 + bs) ∧ y1 * F + F - 1 + bs < 10 ^ 13 := pcr
      refine ⟨.ref D, rfl, D, _, 0, .ref w1, rfl, rfl, SqL.of eD, rfl, .ref D, rfl, D, _, 1, .ref w2, rfl, rfl, SqL.of eD, rfl, .ref D, rfl, D, _, 2, .ref w3, rfl, rfl, SqL.of eD, rfl, w3, _, 0, .ref b3, rfl, rfl, SqT.of x3e, rfl, ?_⟩
      refine ⟨w1, w2, b3, wu1, wu2, ts.map (strI F bs), ps.map (strI F bs), _, _, rfl, x1e, x1i, by rw [List.length_map]; omega, x2e, x2i, str_pc ps0 (by omega) f0 f1 b0 (by omega), by rw [List.length_map]; omega, hb3, by omega, fun H27 r2 x2 y2 s27 er2 wid2 => ?_⟩
      have e34 := wid2.uniq (widR_str f0 wid)
      have ex : x2 = x1 * F + bs := congrArg Prod.fst e34
      have ey : y2 = y1 * F + F - 1 + bs := congrArg Prod.snd e34
      subst ex ey
      refine ⟨.ref r2, .tuple [.int _, .int _], _, _, rfl, dp2 er2, sm2 (by omega) (by omega), by decide, by decide, ?_⟩
      refine ⟨.ref D, rfl, D, _, 3, .ref w4, rfl, rfl, SqL.of (s27 _ _ eD), rfl, w4, _, 0, .ref b4, rfl, rfl, SqT.of (s27 _ _ x4e), rfl, .ref b4, .tuple [.int _, .int _], _, _, rfl, dp2 (s27 _ _ hb4), sm2 (by omega) (by omega), by decide, by decide, rfl, _, rfl, iteNS rfl ?_⟩
      -- the due interval serves them all
      have s2227 := s2225.trans (s26.trans s27)
      have s2127 := s22.trans s2227
      have edl27 := (s21.trans s2127) _ _ edl
      have dm27 := dm.same (s21.trans s2127)
      have edu27 := s2127 _ _ edu
      have lz := dm.length
      refine ⟨.ref dl, rfl, dl, rfl, ⟨_, SqL.of edl27⟩, fun D2 nD2 => ?_⟩
      refine lcL (K := K) (a := dl) (xs := zs) (fun j H' ws => ws = []) nD2 (fun H' s => SqL.of (s _ _ (edl27))) (by omega) (fun _ _ _ _ t r => r) (fun j H' ws r => (by rw [r]; exact Nat.zero_le _)) (fun _ => rfl) ?_ ?_
      · rintro k z H' Nx acc hk sk eA sz rr no yes
        obtain ⟨p, lo, hi2, ed, dz⟩ := (dm27.same sk).get hk
        obtain ⟨o, t2, rfl, eo, et2⟩ := dz.ex
        have md := so _ (List.mem_of_getElem? ed)
        have sg := widR_sv wid md.1 md.2.1 md.2.2
        have e1 := sv_svI (x1, y1) (p, lo, hi2)
        rw [sg] at e1
        replace e1 : svI x1 y1 p lo hi2 = true := e1
        refine ⟨rfl, .ref du, rfl, .ref o, rfl, du, o, t2, x1, y1, p, lo, hi2, rfl, sk _ _ edu27, eo, et2, _, rfl, ?_⟩
        rw [e1]
        exact iteF (no _ (Same.refl _) rr)
      intro H28 ws28 s28 eD2 rr
      refine ⟨by show 0 ≤ sizeLine; decide, fun z9 nz9 => ?_⟩
      have s29 := same_new (o := .lst []) nz9
      refine ⟨D2, z9, ws28, rfl, rfl, SqL.of (s29 _ _ eD2), SqL.of upd_same, _, rfl, ?_⟩
      rw [rr]
      refine iteF ?_
      exact ⟨si22.trans (s2227.trans (s28.trans s29)), _, _, _, _, _, _, rfl⟩
    · rintro σ Hi ⟨si, z8, z9, z10, z11, z12, z13, rfl⟩
      exact ⟨⟨_, (dkd.kept sdh).kept si, by omega, by omega⟩, _, _, _, _, _, _, _, _, _, _, _, _, rfl⟩

end
theorem all_mk {l : PySem.W.OpenLaw} {w : World} {K : PySem.W.Frag} {h : Heap} {mg : Str → Option Value} {fa f1 f2 f3 f4 f5 f6 f7 f8 f9 f10 f11 f12 f13 f14 f15 f16 : Addr} (X : K.In h) (G : h.Ns mainGlobals mg) (hfa : mg "law" = some (.ref fa))
    {od1 an1 od2 an2 od3 an3 od4 an4 od5 an5 od6 an6 od7 an7 od8 an8 od9 an9 od10 an10 od11 an11 od12 an12 od13 an13 od14 an14 od15 an15 od16 an16 : Option Addr} {sl1 sl2 sl3 sl4 sl5 sl6 sl7 sl8 sl9 sl10 sl11 sl12 sl13 sl14 sl15 sl16 : Array (Option Value)} {oc1 kV1 dc1 pm1 cd1 ct1 oc2 kV2 dc2 pm2 cd2 ct2 oc3 kV3 dc3 pm3 cd3 ct3 oc4 kV4 dc4 pm4 cd4 ct4 oc5 kV5 dc5 pm5 cd5 ct5 oc6 kV6 dc6 pm6 cd6 ct6 oc7 kV7 dc7 pm7 cd7 ct7 oc8 kV8 dc8 pm8 cd8 ct8 oc9 kV9 dc9 pm9 cd9 ct9 oc10 kV10 dc10 pm10 cd10 ct10 oc11 kV11 dc11 pm11 cd11 ct11 oc12 kV12 dc12 pm12 cd12 ct12 oc13 kV13 dc13 pm13 cd13 ct13 oc14 kV14 dc14 pm14 cd14 ct14 oc15 kV15 dc15 pm15 cd15 ct15 oc16 kV16 dc16 pm16 cd16 ct16 : Value}
    (a1 : PySem.W.nsIn K mainGlobals "contains" = some (some (.ref f1))) (l1 : K.lookup f1 = some ⟨oc1, od1, .func (PySem.W.fnOf "contains" "contains" (defArgs s_contains) (defBody s_contains) (defScope s_contains) .none kV1 dc1 pm1 an1 cd1 ct1), sl1⟩) (c1 : PySem.W.codeIn K cd1 "contains" = true) (k1 : PySem.W.keepIn K (.ref f1) = true)
    (a2 : PySem.W.nsIn K mainGlobals "intersect" = some (some (.ref f2))) (l2 : K.lookup f2 = some ⟨oc2, od2, .func (PySem.W.fnOf "intersect" "intersect" (defArgs s_intersect) (defBody s_intersect) (defScope s_intersect) .none kV2 dc2 pm2 an2 cd2 ct2), sl2⟩) (c2 : PySem.W.codeIn K cd2 "intersect" = true) (k2 : PySem.W.keepIn K (.ref f2) = true)
    (a3 : PySem.W.nsIn K mainGlobals "pieces_inside" = some (some (.ref f3))) (l3 : K.lookup f3 = some ⟨oc3, od3, .func (PySem.W.fnOf "pieces_inside" "pieces_inside" (defArgs s_pieces_inside) (defBody s_pieces_inside) (defScope s_pieces_inside) .none kV3 dc3 pm3 an3 cd3 ct3), sl3⟩) (c3 : PySem.W.codeIn K cd3 "pieces_inside" = true) (k3 : PySem.W.keepIn K (.ref f3) = true)
    (a4 : PySem.W.nsIn K mainGlobals "first_gap" = some (some (.ref f4))) (l4 : K.lookup f4 = some ⟨oc4, od4, .func (PySem.W.fnOf "first_gap" "first_gap" (defArgs s_first_gap) (defBody s_first_gap) (defScope s_first_gap) .none kV4 dc4 pm4 an4 cd4 ct4), sl4⟩) (c4 : PySem.W.codeIn K cd4 "first_gap" = true) (k4 : PySem.W.keepIn K (.ref f4) = true)
    (a5 : PySem.W.nsIn K mainGlobals "generates" = some (some (.ref f5))) (l5 : K.lookup f5 = some ⟨oc5, od5, .func (PySem.W.fnOf "generates" "generates" (defArgs s_generates) (defBody s_generates) (defScope s_generates) .none kV5 dc5 pm5 an5 cd5 ct5), sl5⟩) (c5 : PySem.W.codeIn K cd5 "generates" = true) (k5 : PySem.W.keepIn K (.ref f5) = true)
    (a6 : PySem.W.nsIn K mainGlobals "has_open_demand" = some (some (.ref f6))) (l6 : K.lookup f6 = some ⟨oc6, od6, .func (PySem.W.fnOf "has_open_demand" "has_open_demand" (defArgs s_has_open_demand) (defBody s_has_open_demand) (defScope s_has_open_demand) .none kV6 dc6 pm6 an6 cd6 ct6), sl6⟩) (c6 : PySem.W.codeIn K cd6 "has_open_demand" = true) (k6 : PySem.W.keepIn K (.ref f6) = true)
    (a7 : PySem.W.nsIn K mainGlobals "widen" = some (some (.ref f7))) (l7 : K.lookup f7 = some ⟨oc7, od7, .func (PySem.W.fnOf "widen" "widen" (defArgs s_widen) (defBody s_widen) (defScope s_widen) .none kV7 dc7 pm7 an7 cd7 ct7), sl7⟩) (c7 : PySem.W.codeIn K cd7 "widen" = true) (k7 : PySem.W.keepIn K (.ref f7) = true)
    (a8 : PySem.W.nsIn K mainGlobals "_law_draws" = some (some (.ref f8))) (l8 : K.lookup f8 = some ⟨oc8, od8, .func (PySem.W.fnOf "_law_draws" "_law_draws" (defArgs s_law_draws) (defBody s_law_draws) (defScope s_law_draws) .none kV8 dc8 pm8 an8 cd8 ct8), sl8⟩) (c8 : PySem.W.codeIn K cd8 "_law_draws" = true) (k8 : PySem.W.keepIn K (.ref f8) = true)
    (a9 : PySem.W.nsIn K mainGlobals "_law_next" = some (some (.ref f9))) (l9 : K.lookup f9 = some ⟨oc9, od9, .func (PySem.W.fnOf "_law_next" "_law_next" (defArgs s_law_next) (defBody s_law_next) (defScope s_law_next) .none kV9 dc9 pm9 an9 cd9 ct9), sl9⟩) (c9 : PySem.W.codeIn K cd9 "_law_next" = true) (k9 : PySem.W.keepIn K (.ref f9) = true)
    (a10 : PySem.W.nsIn K mainGlobals "_law_spans" = some (some (.ref f10))) (l10 : K.lookup f10 = some ⟨oc10, od10, .func (PySem.W.fnOf "_law_spans" "_law_spans" (defArgs s_law_spans) (defBody s_law_spans) (defScope s_law_spans) .none kV10 dc10 pm10 an10 cd10 ct10), sl10⟩) (c10 : PySem.W.codeIn K cd10 "_law_spans" = true) (k10 : PySem.W.keepIn K (.ref f10) = true)
    (a11 : PySem.W.nsIn K mainGlobals "_law_targets" = some (some (.ref f11))) (l11 : K.lookup f11 = some ⟨oc11, od11, .func (PySem.W.fnOf "_law_targets" "_law_targets" (defArgs s_law_targets) (defBody s_law_targets) (defScope s_law_targets) .none kV11 dc11 pm11 an11 cd11 ct11), sl11⟩) (c11 : PySem.W.codeIn K cd11 "_law_targets" = true) (k11 : PySem.W.keepIn K (.ref f11) = true)
    (a12 : PySem.W.nsIn K mainGlobals "_law_scaled" = some (some (.ref f12))) (l12 : K.lookup f12 = some ⟨oc12, od12, .func (PySem.W.fnOf "_law_scaled" "_law_scaled" (defArgs s_law_scaled) (defBody s_law_scaled) (defScope s_law_scaled) .none kV12 dc12 pm12 an12 cd12 ct12), sl12⟩) (c12 : PySem.W.codeIn K cd12 "_law_scaled" = true) (k12 : PySem.W.keepIn K (.ref f12) = true)
    (a13 : PySem.W.nsIn K mainGlobals "_law_served" = some (some (.ref f13))) (l13 : K.lookup f13 = some ⟨oc13, od13, .func (PySem.W.fnOf "_law_served" "_law_served" (defArgs s_law_served) (defBody s_law_served) (defScope s_law_served) .none kV13 dc13 pm13 an13 cd13 ct13), sl13⟩) (c13 : PySem.W.codeIn K cd13 "_law_served" = true) (k13 : PySem.W.keepIn K (.ref f13) = true)
    (a14 : PySem.W.nsIn K mainGlobals "_law_demands" = some (some (.ref f14))) (l14 : K.lookup f14 = some ⟨oc14, od14, .func (PySem.W.fnOf "_law_demands" "_law_demands" (defArgs s_law_demands) (defBody s_law_demands) (defScope s_law_demands) .none kV14 dc14 pm14 an14 cd14 ct14), sl14⟩) (c14 : PySem.W.codeIn K cd14 "_law_demands" = true) (k14 : PySem.W.keepIn K (.ref f14) = true)
    (a15 : PySem.W.nsIn K mainGlobals "_law_due" = some (some (.ref f15))) (l15 : K.lookup f15 = some ⟨oc15, od15, .func (PySem.W.fnOf "_law_due" "_law_due" (defArgs s_law_due) (defBody s_law_due) (defScope s_law_due) .none kV15 dc15 pm15 an15 cd15 ct15), sl15⟩) (c15 : PySem.W.codeIn K cd15 "_law_due" = true) (k15 : PySem.W.keepIn K (.ref f15) = true)
    (a16 : PySem.W.nsIn K mainGlobals "law" = some (some (.ref f16))) (l16 : K.lookup f16 = some ⟨oc16, od16, .func (PySem.W.fnOf "law" "law" (defArgs s_law) (defBody s_law) (defScope s_law) .none kV16 dc16 pm16 an16 cd16 ct16), sl16⟩) (c16 : PySem.W.codeIn K cd16 "law" = true) (k16 : PySem.W.keepIn K (.ref f16) = true)
    (z0 : PySem.W.nsIn K mainGlobals "abs" = some none) (z1 : PySem.W.nsIn K mainGlobals "int" = some none) (z2 : PySem.W.nsIn K mainGlobals "len" = some none) (z3 : PySem.W.nsIn K mainGlobals "max" = some none) (z4 : PySem.W.nsIn K mainGlobals "min" = some none) (z5 : PySem.W.nsIn K mainGlobals "range" = some none) (z6 : PySem.W.nsIn K mainGlobals "repr" = some none) (z7 : PySem.W.nsIn K mainGlobals "set" = some none) (z8 : PySem.W.nsIn K mainGlobals "sorted" = some none) (z9 : PySem.W.nsIn K mainGlobals "tuple" = some none) :
    ∃ fd : FuncData, (∀ (s : Shared) (v : Value), BindsTo s fd ⟨[v], []⟩ [("_law_script", v)]) ∧ ∀ base : Heap, K.In base → base.Ns mainGlobals mg → (∃ mm, base.Ns sysModules mm) → FnG l.prog w K mg base 8 fa fd ["_law_script"] (sp_law K) := by
  have e := hfa.symm.trans (PySem.W.mg_of X G a16)
  cases e
  have F1 := fun_mk (st := s_contains) l1 c1 k1
  have b1 := F1.binds (ps := ["outer", "inner"]) fun _ _ _ _ _ _ us hl => match us, hl with | [_, _], _ => rfl
  have F2 := fun_mk (st := s_intersect) l2 c2 k2
  have b2 := F2.binds (ps := ["first", "second"]) fun _ _ _ _ _ _ us hl => match us, hl with | [_, _], _ => rfl
  have F3 := fun_mk (st := s_pieces_inside) l3 c3 k3
  have b3 := F3.binds (ps := ["pieces", "target"]) fun _ _ _ _ _ _ us hl => match us, hl with | [_, _], _ => rfl
  have F4 := fun_mk (st := s_first_gap) l4 c4 k4
  have b4 := F4.binds (ps := ["pieces", "target"]) fun _ _ _ _ _ _ us hl => match us, hl with | [_, _], _ => rfl
  have F5 := fun_mk (st := s_generates) l5 c5 k5
  have b5 := F5.binds (ps := ["pieces", "target"]) fun _ _ _ _ _ _ us hl => match us, hl with | [_, _], _ => rfl
  have F6 := fun_mk (st := s_has_open_demand) l6 c6 k6
  have b6 := F6.binds (ps := ["target", "pieces", "interval"]) fun _ _ _ _ _ _ us hl => match us, hl with | [_, _, _], _ => rfl
  have F7 := fun_mk (st := s_widen) l7 c7 k7
  have b7 := F7.binds (ps := ["targets", "pieces", "interval"]) fun _ _ _ _ _ _ us hl => match us, hl with | [_, _, _], _ => rfl
  have F8 := fun_mk (st := s_law_draws) l8 c8 k8
  have b8 := F8.binds (ps := ["_law_script"]) fun _ _ _ _ _ _ us hl => match us, hl with | [_], _ => rfl
  have F9 := fun_mk (st := s_law_next) l9 c9 k9
  have b9 := F9.binds (ps := ["_law_state", "_law_many"]) fun _ _ _ _ _ _ us hl => match us, hl with | [_, _], _ => rfl
  have F10 := fun_mk (st := s_law_spans) l10 c10 k10
  have b10 := F10.binds (ps := ["_law_state", "_law_width", "_law_many"]) fun _ _ _ _ _ _ us hl => match us, hl with | [_, _, _], _ => rfl
  have F11 := fun_mk (st := s_law_targets) l11 c11 k11
  have b11 := F11.binds (ps := ["_law_state", "_law_width", "_law_most"]) fun _ _ _ _ _ _ us hl => match us, hl with | [_, _, _], _ => rfl
  have F12 := fun_mk (st := s_law_scaled) l12 c12 k12
  have b12 := F12.binds (ps := ["_law_intervals", "_law_far", "_law_base"]) fun _ _ _ _ _ _ us hl => match us, hl with | [_, _, _], _ => rfl
  have F13 := fun_mk (st := s_law_served) l13 c13 k13
  have b13 := F13.binds (ps := ["_law_piece", "_law_demand"]) fun _ _ _ _ _ _ us hl => match us, hl with | [_, _], _ => rfl
  have F14 := fun_mk (st := s_law_demands) l14 c14 k14
  have b14 := F14.binds (ps := ["_law_width", "_law_targets_here", "_law_pieces", "_law_interval"]) fun _ _ _ _ _ _ us hl => match us, hl with | [_, _, _, _], _ => rfl
  have F15 := fun_mk (st := s_law_due) l15 c15 k15
  have b15 := F15.binds (ps := ["_law_demands_here", "_law_interval"]) fun _ _ _ _ _ _ us hl => match us, hl with | [_, _], _ => rfl
  have F16 := fun_mk (st := s_law) l16 c16 k16
  have b16 := F16.binds (ps := ["_law_script"]) fun _ _ _ _ _ _ us hl => match us, hl with | [_], _ => rfl
  have T : Tx K mg _ _ _ _ _ _ _ _ _ _ _ _ _ _ _ _ _ _ _ _ _ _ _ _ _ _ _ _ _ _ _ _ := ⟨F1, b1, PySem.W.mg_of X G a1, F2, b2, PySem.W.mg_of X G a2, F3, b3, PySem.W.mg_of X G a3, F4, b4, PySem.W.mg_of X G a4, F5, b5, PySem.W.mg_of X G a5, F6, b6, PySem.W.mg_of X G a6, F7, b7, PySem.W.mg_of X G a7, F8, b8, PySem.W.mg_of X G a8, F9, b9, PySem.W.mg_of X G a9, F10, b10, PySem.W.mg_of X G a10, F11, b11, PySem.W.mg_of X G a11, F12, b12, PySem.W.mg_of X G a12, F13, b13, PySem.W.mg_of X G a13, F14, b14, PySem.W.mg_of X G a14, F15, b15, PySem.W.mg_of X G a15, F16, b16, PySem.W.mg_of X G a16, PySem.W.mg_none_of X G z0, PySem.W.mg_none_of X G z1, PySem.W.mg_none_of X G z2, PySem.W.mg_none_of X G z3, PySem.W.mg_none_of X G z4, PySem.W.mg_none_of X G z5, PySem.W.mg_none_of X G z6, PySem.W.mg_none_of X G z7, PySem.W.mg_none_of X G z8, PySem.W.mg_none_of X G z9⟩
  exact ⟨_, fun s v => .of_eq rfl, fun base _ _ hM => ok_law T⟩
end L9
open PySem PySem.W PyProof.Rows
set_option maxHeartbeats 0 in
theorem PySem.Challenge.cw_fewspans_k28_widen_holds : PySem.Challenge.rw_fewspans_k28_widen.Holds := by
  w_on; o_law; k_head; (case hw => w_witness2)
  k_fill
  refine L9.quiet_walk (l := PySem.Challenge.rw_fewspans_k28_widen) (n := 63) (k := 8) (x := "_law_script") (sp := fun w => L9.sp_law _) (by decide +kernel) rfl (by decide) rfl ⟨rfl, by decide, by decide⟩ (fun w h Y => PySem.W.kIn_of Y) ?F (fun _ _ a ns hl _ hS => ⟨a, ns, rfl, hS, hl, fun _ => rfl⟩)
  case F =>
    intro w mg fa h KX G hmg
    refine' L9.all_mk KX G hmg ?a1 ?l1 ?c1 ?k1 ?a2 ?l2 ?c2 ?k2 ?a3 ?l3 ?c3 ?k3 ?a4 ?l4 ?c4 ?k4 ?a5 ?l5 ?c5 ?k5 ?a6 ?l6 ?c6 ?k6 ?a7 ?l7 ?c7 ?k7 ?a8 ?l8 ?c8 ?k8 ?a9 ?l9 ?c9 ?k9 ?a10 ?l10 ?c10 ?k10 ?a11 ?l11 ?c11 ?k11 ?a12 ?l12 ?c12 ?k12 ?a13 ?l13 ?c13 ?k13 ?a14 ?l14 ?c14 ?k14 ?a15 ?l15 ?c15 ?k15 ?a16 ?l16 ?c16 ?k16 ?z0 ?z1 ?z2 ?z3 ?z4 ?z5 ?z6 ?z7 ?z8 ?z9
    (case a1 => k_is)
    (case l1 => k_is)
    (case c1 => k_is)
    (case k1 => k_is)
    (case a2 => k_is)
    (case l2 => k_is)
    (case c2 => k_is)
    (case k2 => k_is)
    (case a3 => k_is)
    (case l3 => k_is)
    (case c3 => k_is)
    (case k3 => k_is)
    (case a4 => k_is)
    (case l4 => k_is)
    (case c4 => k_is)
    (case k4 => k_is)
    (case a5 => k_is)
    (case l5 => k_is)
    (case c5 => k_is)
    (case k5 => k_is)
    (case a6 => k_is)
    (case l6 => k_is)
    (case c6 => k_is)
    (case k6 => k_is)
    (case a7 => k_is)
    (case l7 => k_is)
    (case c7 => k_is)
    (case k7 => k_is)
    (case a8 => k_is)
    (case l8 => k_is)
    (case c8 => k_is)
    (case k8 => k_is)
    (case a9 => k_is)
    (case l9 => k_is)
    (case c9 => k_is)
    (case k9 => k_is)
    (case a10 => k_is)
    (case l10 => k_is)
    (case c10 => k_is)
    (case k10 => k_is)
    (case a11 => k_is)
    (case l11 => k_is)
    (case c11 => k_is)
    (case k11 => k_is)
    (case a12 => k_is)
    (case l12 => k_is)
    (case c12 => k_is)
    (case k12 => k_is)
    (case a13 => k_is)
    (case l13 => k_is)
    (case c13 => k_is)
    (case k13 => k_is)
    (case a14 => k_is)
    (case l14 => k_is)
    (case c14 => k_is)
    (case k14 => k_is)
    (case a15 => k_is)
    (case l15 => k_is)
    (case c15 => k_is)
    (case k15 => k_is)
    (case a16 => k_is)
    (case l16 => k_is)
    (case c16 => k_is)
    (case k16 => k_is)
    (case z0 => k_is)
    (case z1 => k_is)
    (case z2 => k_is)
    (case z3 => k_is)
    (case z4 => k_is)
    (case z5 => k_is)
    (case z6 => k_is)
    (case z7 => k_is)
    (case z8 => k_is)
    (case z9 => k_is)
