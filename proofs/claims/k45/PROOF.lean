import PyProof.Rows.All
import Wide.All
import OpenK.AllK
import Wide.FinOn
import PySem.Challenge.RW_fewspans_k45_targets_joined
import HandS.ForMost
import HandS.Wide
import HandS.IsInst
import HandS.Conv
import HandS.TupLe
import HandS.Strs
import HandS.SetFor
import HandS.Style
import HandS.TupSets
import HandS.Keys
import HandS.Zip
import HandS.SortRule
import HandS.TupAny
import HandS.Flow
import PyProof.NeKinds
set_option Elab.async false
set_option linter.all false
set_option maxRecDepth 100000
set_option maxHeartbeats 4000000
namespace L9
open PySem PySem.Spec PyProof.Rows L2
/-- a statement that is never come to -/
theorem ps_never {X : Cx} {st : Stmt} : PS X st (fun _ _ _ => False) := ⟨fun _ _ _ _ _ _ h => h.elim⟩

/-! ### defs that are run where no text-making of the machine is under way (repr, str of nested data ask for it) -/
abbrev Quiet (A : Around) : Prop := A.guards = some []
structure FnG (P : Program) (w : World) (K : PySem.W.Frag) (mg : Str → Option Value) (base : Heap) (k : Nat) (f : Addr) (fd : FuncData) (ps : List Str) (sp : Sp) : Prop where
  size : ∀ {vs H Q}, sp vs H Q E0 → vs.length = ps.length
  go : ∀ {A outer s H us vs Q}, Room k A → Quiet A → Env0 P w K mg base A outer s H → BindsTo s fd ⟨us, []⟩ (ps.zip us) → Vals vs us → sp vs H Q E0 →
    codeAny (model P w) A (.call (.ref f) ⟨us, []⟩) (CR CX0 outer P w H s Q E0) s
section
variable {P : Program} {w : World} {K : PySem.W.Frag} {mg : Str → Option Value} {base : Heap}
theorem FnG.of {x qual : Str} {st : Stmt} {f : Addr} {fd : FuncData} {N ps : List Str} {k : Nat} {sp : Sp} (F : Fun K x qual st f fd) (S : FnScope N ps (defScope st))
    (size : ∀ {vs H Q}, sp vs H Q E0 → vs.length = ps.length)
    (body : ∀ cdv A outer s H vs Q, Room k (A.deeper (envOfC qual (defScope st) s.heap.objs.size f cdv)) → Quiet (A.deeper (envOfC qual (defScope st) s.heap.objs.size f cdv)) → sp vs H Q E0 →
      ∃ t, PSs (cxOf CX0 P w K mg base N qual (defScope st) f cdv A outer s H E0).nox (defBody st) t ∧ t { nx := fun _ H' => Q .non H', rt := Q } (start N vs) H) :
    FnG P w K mg base (k + 1) f fd ps sp := by
  obtain ⟨oc, od, kV, doc, pm, an, cdv, ct, osl, rfl, look, code⟩ := F.ex
  constructor
  · exact size
  intro A outer s H us vs Q room quiet e0 bind rel want
  have inH : K.In s.heap := e0.mod.kin.keeps fun b o q => (e0.bs b o q).1
  have lim := e0.mod.nolimit.keeps (fun b o q => (e0.bs b o q).1)
  have kinds : ∀ y ∈ ps.zip us, (defScope st).names.lookup y.1 = some .local ∨ ((defScope st).names.lookup y.1 = some .cell ∧ ((cellsFrom (s.heap.objs.size + 1) (defScope st).names []).lookup y.1).isSome = true) := by
    rintro ⟨n, v⟩ hy
    have hn := (List.of_mem_zip hy).1
    cases S.par n hn with
    | inl q => exact Or.inl q
    | inr q => exact Or.inr ⟨q, PySem.W.cellsFrom_some _ _ _ (Or.inl q)⟩
  apply codeAny_call_function room.depth (inH _ _ look) rfl S.co S.gen rfl (PySem.W.codeRec_of inH code)
  apply bind
  apply wpAny_newFunctionEnv_cells S.kind kinds
  intro env he s1 x
  subst he
  refine And.intro (lim.keeps x.toInCall.keep) (codeAny_func ?_)
  obtain ⟨t, ht, hq⟩ := body cdv A outer s H vs Q (room.deeper _) quiet want
  have I := inv_start (CX := CX0) (E := E0) S room.hd e0 (size want) rel x
  apply wpAny_mono (ht.nox.run [] s1 (start N vs) H _ I hq)
  · intro fl s' hs
    cases fl with
    | ret u =>
      obtain ⟨v, σ', H', J, rv, q⟩ := hs
      exact Exists.intro v ⟨H', J.os, J.bare, J.base, J.hok, rv, q⟩
    | next =>
      obtain ⟨σ', H', J, q⟩ := hs
      exact Exists.intro V.non ⟨H', J.os, J.bare, J.base, J.hok, rfl, q⟩
    | brk => exact hs.elim fun _ h => h.elim fun _ h => h.2.elim
    | cont => exact hs.elim fun _ h => h.elim fun _ h => h.2.elim
  · intro e s' hs
    exact hs
end
section
variable {X : Cx} {k : Nat} {f : Addr} {fd : FuncData} {ps : List Str} {sp : Sp} {x : Str} {p pos : Pos} {e : Expr} {es : List Expr} {t : TA}
theorem pe_callG (F : FnG X.prog X.w X.K X.mg X.base k f fd ps sp) (room : Room k X.A) (quiet : Quiet X.A) (hg : Gl X x) (hm : X.mg x = some (.ref f)) (keep : PySem.W.keepIn X.K (.ref f) = true) (bind : Binds X.K fd ps [])
    (args : PA X (e :: es) t) (hdb : (x == ("__debug__" : Str)) = false := by decide) (star : starEach (e :: es) X.env = (false, eval e X.env) :: starEach es X.env := by rfl) (plain : (backTo pos (starEach es X.env)).any (·.1) = false := by rfl) :
    PE X (.Call (.Name x p) (e :: es) [] pos) (tCall sp [] E0 t) := by
  constructor
  intro pins s σ H Q I h
  apply wpAny_Call_Name_kw
  apply ld_glob I hg hm _ hdb
  apply PySem.W.callWith_K (h₀ := X.base) I.ok.mod.kin keep _ star plain
  apply thn (args.run pos pins s σ H _ I h)
  rintro us s1 ⟨vs, H1, I1, rel, q⟩
  refine And.intro I1.kIn ?_
  have q' : sp vs H1 Q E0 := by
    have z := q
    rw [List.append_nil] at z
    exact z
  have same : us.length = ps.length := rel.length.symm.trans (F.size q')
  have b := bind s1 us I1.kIn (by rw [List.append_nil]; exact same)
  rw [List.append_nil] at b
  apply wpAny_call
  apply codeAny_mono (F.go room quiet I1.env0 b rel q')
  intro r s' hr
  match r, hr with
  | .error _, hr => exact hr.elim
  | .ok (.ret u), hr => exact I1.after hr
  | .ok .next, hr => exact False.elim hr
  | .ok .brk, hr => exact False.elim hr
  | .ok .cont, hr => exact False.elim hr
end
/-! ### repr of data at any depth -/
structure Sm (n dp : Nat) (d : PyData) : Prop where
  shows : d.showable = true
  short : d.leavesShort 40 = true
  small : d.weight ≤ n
  flat : d.depth ≤ dp
theorem Sm.mono {n m dp dq : Nat} {d : PyData} (h : Sm n dp d) (h1 : n ≤ m) (h2 : dp ≤ dq) : Sm m dq d := ⟨h.shows, h.short, Nat.le_trans h.small h1, Nat.le_trans h.flat h2⟩
theorem Sm.none : Sm 0 0 .none := ⟨rfl, rfl, Nat.le_refl _, Nat.le_refl _⟩
theorem Sm.bool (b : Bool) : Sm 0 0 (.bool b) := ⟨rfl, rfl, Nat.le_refl _, Nat.le_refl _⟩
theorem log2_small {i : Int} (h : i.natAbs < 10 ^ 30) : i.natAbs.log2 < 100 := PySem.Flt.log2_lt_of (by decide) (Nat.lt_trans h (by decide))
theorem Sm.int {i : Int} (h : i.natAbs < 10 ^ 30) : Sm 100 0 (.int i) := by
  have l := log2_small h
  refine ⟨decide_eq_true (Nat.lt_trans l (by decide)), decide_eq_true ?_, ?_, Nat.le_refl _⟩
  · have q := int_text_length_le10 (a := i) (k := 30) (by decide) h
    show (Str.ofString (toString i)).length ≤ 40
    rw [PySem.ofString_length]
    exact Nat.le_trans q (by decide)
  · show (if i == 0 then 0 else i.natAbs.log2 + 1) ≤ 100
    split <;> omega
theorem smAll {n dp : Nat} : ∀ {ds : List PyData}, (∀ d ∈ ds, Sm n dp d) → PyData.showableAll ds = true ∧ PyData.leavesShortAll 40 ds = true ∧ PyData.weightAll ds ≤ ds.length * (n + 1) ∧ PyData.depthAll ds ≤ dp
  | [], _ => ⟨rfl, rfl, Nat.zero_le _, Nat.zero_le _⟩
  | d :: ds, h => by
    obtain ⟨a, b, c, e⟩ := smAll (ds := ds) fun x hx => h x (List.mem_cons_of_mem _ hx)
    have z := h d List.mem_cons_self
    refine ⟨?_, ?_, ?_, ?_⟩
    · show (d.showable && PyData.showableAll ds) = true
      rw [z.shows, a]
      rfl
    · show (d.leavesShort 40 && PyData.leavesShortAll 40 ds) = true
      rw [z.short, b]
      rfl
    · show d.weight + 1 + PyData.weightAll ds ≤ (ds.length + 1) * (n + 1)
      have := z.small
      rw [Nat.add_mul]
      omega
    · show max d.depth (PyData.depthAll ds) ≤ dp
      exact Nat.max_le.mpr ⟨z.flat, e⟩
theorem Sm.tup {n dp : Nat} {ds : List PyData} (h : ∀ d ∈ ds, Sm n dp d) : Sm (ds.length * (n + 1)) (dp + 1) (.tuple ds) :=
  let ⟨a, b, c, e⟩ := smAll h
  ⟨a, b, c, Nat.succ_le_succ e⟩
theorem Sm.lst {n dp : Nat} {ds : List PyData} (h : ∀ d ∈ ds, Sm n dp d) : Sm (ds.length * (n + 1)) (dp + 1) (.list ds) :=
  let ⟨a, b, c, e⟩ := smAll h
  ⟨a, b, c, Nat.succ_le_succ e⟩
theorem Sm.fits {n dp : Nat} {d : PyData} (h : Sm n dp d) (hn : n ≤ 300000) : d.shown.length ≤ sizeLine := by
  have q := PyData.shown_le 40 (by decide) d h.short
  have := h.small
  have e : sizeLine = 16777216 := by decide
  rw [e]
  omega
/-- data with dicts in it; its lists stand in the heap by themselves -/
def keyD : Key → PyData
  | .inl i => .int i
  | .inr x => .str x
mutual
inductive Dv (K : PySem.W.Frag) (H : Hp) : V → PyData → Prop
  | non : Dv K H .non .none
  | bl (b : Bool) : Dv K H (.bl b) (.bool b)
  | int (i : Int) : Dv K H (.int i) (.int i)
  | str (x : Str) : Dv K H (.str x) (.str x)
  | lst {a : Addr} {xs : List V} {ds : List PyData} : H a = some (.lst xs) → DvAll K H xs ds → Dv K H (.ref a) (.list ds)
  | tup {a : Addr} {xs : List V} {ds : List PyData} : H a = some (.tup xs) → DvAll K H xs ds → Dv K H (.ref a) (.tuple ds)
  | dic {a : Addr} {kvs : List (Key × V)} {ds : List PyData} : H a = some (.dK kvs) → DvAll K H (kvs.map (·.2)) ds → Dv K H (.ref a) (.dict ((kvs.map fun p => keyD p.1).zip ds))
inductive DvAll (K : PySem.W.Frag) (H : Hp) : List V → List PyData → Prop
  | nil : DvAll K H [] []
  | cons {v : V} {vs : List V} {d : PyData} {ds : List PyData} : Dv K H v d → DvAll K H vs ds → DvAll K H (v :: vs) (d :: ds)
end
theorem DvAll.length {K : PySem.W.Frag} {H : Hp} : ∀ {vs : List V} {ds : List PyData}, DvAll K H vs ds → vs.length = ds.length
  | _, _, .nil => rfl
  | _, _, .cons _ h => by rw [List.length_cons, List.length_cons, h.length]
theorem keys_read {P : Program} {w : World} {h : Heap} : ∀ {es : List DictEntry} {vs : List (Key × Value)}, Pairs (mixKind P w) es vs → ReadsAll h (es.map (·.key)) (vs.map fun p => keyD p.1) []
  | _, _, .nil => .nil
  | _, _, .cons (e := e) (kv := kv) hk _ r => by
    have one : Reads h e.key (keyD kv.1) [] := by
      rcases keyIs_shape hk with ⟨i, t, e1, e2⟩ | ⟨x, t, e1, e2⟩
      · rw [e1, e2]
        exact .int i t
      · rw [e1, e2]
        exact .str x t
    exact ReadsAll.cons one (keys_read r)
theorem vals_read {P : Program} {w : World} : ∀ {es : List DictEntry} {vs : List (Key × Value)}, Pairs (mixKind P w) es vs → es.map (·.val) = vs.map (·.2)
  | _, _, .nil => rfl
  | _, _, .cons _ hv r => by rw [List.map_cons, List.map_cons, hv, vals_read r]
theorem kv_vals : ∀ {kvs : List (Key × V)} {vs : List (Key × Value)}, KV kvs vs → Vals (kvs.map (·.2)) (vs.map (·.2)) ∧ (vs.map fun p => keyD p.1) = kvs.map fun p => keyD p.1
  | _, _, .nil => ⟨.nil, rfl⟩
  | _, _, .cons h r => by
    obtain ⟨a, b⟩ := kv_vals r
    refine ⟨.cons h.2 a, ?_⟩
    rw [List.map_cons, List.map_cons, b, h.1]
section
variable {X : Cx} {pins : List (Addr × Obj)} {σ : L2.St} {H : Hp} {s : Shared}
theorem Dv.reads (I : Inv X pins σ H s) (mods : ∃ mm, X.base.Ns sysModules mm) {v : V} {d : PyData} (h : Dv X.K H v d) : ∀ u : Value, RelV v u → ∃ as, Reads s.heap u d as ∧ sysModules ∉ as := by
  have free : H sysModules = none := by
    obtain ⟨mm, o, es, ep, e, _⟩ := mods
    exact (I.bs _ o e).2
  refine Dv.rec (K := X.K) (H := H) (motive_1 := fun v d _ => ∀ u : Value, RelV v u → ∃ as, Reads s.heap u d as ∧ sysModules ∉ as) (motive_2 := fun vs ds _ => ∀ us : List Value, Vals vs us → ∃ as, ReadsAll s.heap us ds as ∧ sysModules ∉ as) ?_ ?_ ?_ ?_ ?_ ?_ ?_ ?_ ?_ h
  · intro u r
    cases r
    exact ⟨_, .none, fun z => nomatch z⟩
  · intro b u r
    cases r
    exact ⟨_, .bool b, fun z => nomatch z⟩
  · intro i u r
    obtain ⟨t, rfl⟩ := r
    exact ⟨_, .int i t, fun z => nomatch z⟩
  · intro x u r
    obtain ⟨t, rfl⟩ := r
    exact ⟨_, .str x t, fun z => nomatch z⟩
  · intro a xs ds e _ ih u r
    cases r
    obtain ⟨_, its, n, rv, q⟩ := I.hok a _ e
    obtain ⟨as, ra, na⟩ := ih _ rv
    refine ⟨a :: as, .list q rfl rfl (by simpa using ra), fun z => ?_⟩
    rcases List.mem_cons.mp z with z | z
    · rw [← z, free] at e
      cases e
    · exact na z
  · intro a xs ds e _ ih u r
    cases r
    obtain ⟨_, its, rv, o, ho, hc, n, hd⟩ := I.hok a _ e
    obtain ⟨as, ra, na⟩ := ih _ rv
    exact ⟨as, .tuple ho hc hd (by simpa using ra), na⟩
  · intro a kvs ds e hall ih u r
    cases r
    obtain ⟨_, hne, vs, kv, o, es, ep, ho, ex, hd, _, prs, _⟩ := I.hok a _ e
    obtain ⟨rv, ek⟩ := kv_vals kv
    obtain ⟨as, ra, na⟩ := ih _ rv
    have len : (kvs.map fun p => keyD p.1).length = ds.length := by
      have z := hall.length
      rw [List.length_map] at z
      rw [List.length_map, z]
    refine ⟨_, .dict ho ex.1 hd (as := []) (bs := as) ?_ ?_, fun z => ?_⟩
    · rw [List.map_fst_zip (by omega), ← ek]
      exact keys_read prs
    · rw [List.map_snd_zip (by omega), vals_read prs]
      exact ra
    · rcases List.mem_cons.mp z with z | z
      · rw [← z] at hne
        exact absurd hne (by decide)
      · exact na z
  · intro us r
    cases r
    exact ⟨_, .nil, fun z => nomatch z⟩
  · intro v vs d ds _ _ ih1 ih2 us r
    cases r with
    | cons r1 r2 =>
      obtain ⟨as, ra, na⟩ := ih1 _ r1
      obtain ⟨bs, rb, nb⟩ := ih2 _ r2
      refine ⟨_, .cons ra rb, fun z => ?_⟩
      rcases List.mem_append.mp z with z | z
      · exact na z
      · exact nb z
theorem call_reprV (mods : ∃ mm, X.base.Ns sysModules mm) (quiet : Quiet X.A) (units : X.A.units + 64 < cLine) : CallR X (.builtin "repr")
    (fun xs H Q => ∃ v d n dp, xs = [v] ∧ Dv X.K H v d ∧ Sm n dp d ∧ n ≤ 300000 ∧ dp ≤ 60 ∧ Q (.str d.shown) H) := by
  intro pins s σ H xs us Q I r h
  obtain ⟨v, d, n, dp, rfl, hd, sm, hn, hdp, q⟩ := h
  obtain ⟨u, rfl, ru⟩ := vals1 r
  have fits := sm.fits hn
  have flat := sm.flat
  obtain ⟨as, rd, off⟩ := Dv.reads I mods hd _ ru
  cases hd with
  | non =>
    cases ru
    exact PySem.P.repr_of_none ⟨.str _, H, I.tok _, ⟨_, rfl⟩, q⟩
  | bl b =>
    cases ru
    exact PySem.P.repr_of_bool ⟨.str _, H, I.tok _, ⟨_, rfl⟩, q⟩
  | int i =>
    obtain ⟨t, rfl⟩ := ru
    exact PySem.P.repr_of_int (of_decide_eq_true sm.shows) ⟨.str _, H, I.tok _, ⟨_, rfl⟩, q⟩
  | str x =>
    obtain ⟨t, rfl⟩ := ru
    exact PySem.P.repr_of_str ⟨.str _, H, I.tok _, ⟨_, rfl⟩, q⟩ fits
  | _ =>
    cases ru
    exact repr_of_reads' rd sm.shows (fun _ => off) quiet (by omega) (fun _ _ e => e) (fun h' t tk more => ⟨.str _, H, I.kept more, ⟨_, rfl⟩, q⟩) fits
end
theorem Dp.noDict {K : PySem.W.Frag} {H : Hp} {v : V} {d : PyData} (h : Dp K H v d) : d.hasDict = false := by
  refine Dp.rec (K := K) (H := H) (motive_1 := fun v d _ => d.hasDict = false) (motive_2 := fun vs ds _ => PyData.hasDictAll ds = false) ?_ ?_ ?_ ?_ ?_ ?_ ?_ ?_ h
  all_goals intros
  all_goals simp_all [PyData.hasDict, PyData.hasDictAll]
section
variable {X : Cx}
theorem call_reprD (quiet : Quiet X.A) (units : X.A.units + 64 < cLine) : CallR X (.builtin "repr")
    (fun xs H Q => ∃ v d n dp, xs = [v] ∧ Dp X.K H v d ∧ Sm n dp d ∧ n ≤ 300000 ∧ dp ≤ 60 ∧ Q (.str d.shown) H) := by
  intro pins s σ H xs us Q I r h
  obtain ⟨v, d, n, dp, rfl, hd, sm, hn, hdp, q⟩ := h
  obtain ⟨u, rfl, ru⟩ := vals1 r
  have fits := sm.fits hn
  have flat := sm.flat
  obtain ⟨as, rd⟩ := Dp.reads I d v u hd ru
  cases hd with
  | non =>
    cases ru
    exact PySem.P.repr_of_none ⟨.str _, H, I.tok _, ⟨_, rfl⟩, q⟩
  | bl b =>
    cases ru
    exact PySem.P.repr_of_bool ⟨.str _, H, I.tok _, ⟨_, rfl⟩, q⟩
  | int i =>
    obtain ⟨t, rfl⟩ := ru
    exact PySem.P.repr_of_int (of_decide_eq_true sm.shows) ⟨.str _, H, I.tok _, ⟨_, rfl⟩, q⟩
  | str x =>
    obtain ⟨t, rfl⟩ := ru
    exact PySem.P.repr_of_str ⟨.str _, H, I.tok _, ⟨_, rfl⟩, q⟩ fits
  | lst h1 h2 =>
    cases ru
    exact repr_of_reads' rd sm.shows (PyData.noDict_hsm (Dp.noDict (Dp.lst h1 h2))) quiet (by omega) (fun _ _ e => e) (fun h' t tk more => ⟨.str _, H, I.kept more, ⟨_, rfl⟩, q⟩) fits
  | tup h1 h2 =>
    cases ru
    exact repr_of_reads' rd sm.shows (PyData.noDict_hsm (Dp.noDict (Dp.tup h1 h2))) quiet (by omega) (fun _ _ e => e) (fun h' t tk more => ⟨.str _, H, I.kept more, ⟨_, rfl⟩, q⟩) fits
end
/-! ### the end of a law row whose def is of the quiet kind -/
theorem quiet_law {P : Program} {w : World} {K : PySem.W.Frag} {mg mb : Str → Option Value} {k : Nat} {fa a : Addr} {fd : FuncData} {x : Str} {sp : Sp} {s₁ : Shared} {vs : List Value} {ns : List Int}
    (inK : K.In s₁.heap) (glob : s₁.heap.Ns mainGlobals mg) (blt : s₁.heap.Ns builtinsNs mb) (bltIs : ∀ y : Str, y ≠ "__name__" → mb y = bootBuiltins y) (lim : s₁.heap.NoLimit) (gens : s₁.gens = #[]) (mods : ∃ mm, s₁.heap.Ns sysModules mm)
    (here : s₁.heap.get? a = some { cls := .type "list", data := .seq vs.toArray }) (whole : IntsAre vs ns) (few : ns.length ≤ sizeLine) (room : Room k callerA)
    (F : ∀ base : Heap, K.In base → base.Ns mainGlobals mg → (∃ mm, base.Ns sysModules mm) → FnG P w K mg base k fa fd [x] sp) (bind : ∀ (s : Shared) (u : Value), BindsTo s fd ⟨[u], []⟩ [(x, u)])
    (want : ∀ H : Hp, Only H → SqL K H a (ns.map V.int) → sp [.ref a] H (fun v _ => v = .bl true) E0) :
    codeAny (model P w) callerA (.call (.ref fa) ⟨[.ref a], []⟩) (fun r s' => r = .ok (.ret (.bool true)) ∧ OldK s₁.heap s'.heap ∧ s'.os = s₁.os ∧ AllBare s'.gens) s₁ := by
  have rel := vals_ints whole
  -- H: the script alone, or nothing
  have main : ∀ H : Hp, Only H → SqL K H a (ns.map V.int) → HOk P w H s₁.heap → (∀ b u, H b = some u → b = a ∧ K.lookup b = none) →
      codeAny (model P w) callerA (.call (.ref fa) ⟨[.ref a], []⟩) (fun r s' => r = .ok (.ret (.bool true)) ∧ OldK s₁.heap s'.heap ∧ s'.os = s₁.os ∧ AllBare s'.gens) s₁ := by
    intro H only sq ok apart
    have untold : ∀ {b o}, s₁.heap.get? b = some o → (b = a → False) → H b = none := by
      intro b o e ne
      cases q : H b with
      | none => rfl
      | some u => exact (ne (apart b u q).1).elim
    have ns1 : ∀ {b m}, s₁.heap.Ns b m → (hidT s₁.heap H).Ns b m := by
      rintro b m ⟨o, es, ep, e, d, r⟩
      refine ⟨o, es, ep, hidT_get e (untold e fun z => ?_), d, r⟩
      subst z
      rw [here] at e
      cases e
      cases d
    have kIn : K.In (hidT s₁.heap H) := by
      intro b o e
      apply hidT_get (inK b o e)
      cases q : H b with
      | none => rfl
      | some u =>
        have z := (apart b u q).2
        rw [e] at z
        cases z
    have lim1 : (hidT s₁.heap H).NoLimit := by
      obtain ⟨mc, h1, h2⟩ := lim
      exact ⟨mc, ns1 h1, h2⟩
    have e0 : Env0 P w K mg (hidT s₁.heap H) callerA [] s₁ H := {
      frames := rfl, mod := ⟨kIn, ns1 glob, ⟨mb, ns1 blt, bltIs⟩, lim1⟩, bs := fun _ _ e => of_hidT e, bsz := Nat.le_of_eq (hidT_size _ _), funs := True.intro, frf := (fun _ hb => nomatch hb), hok := ok, bare := .of_eq gens }
    apply codeAny_mono ((F _ kIn (ns1 glob) (mods.elim fun mm h => ⟨mm, ns1 h⟩)).go (us := [.ref a]) (vs := [.ref a]) room rfl e0 (bind s₁ _) (.cons rfl .nil) (want H only sq))
    intro r s' hr
    match r, hr with
    | .error _, hr => exact hr.elim
    | .ok .next, hr => exact False.elim hr
    | .ok .brk, hr => exact False.elim hr
    | .ok .cont, hr => exact False.elim hr
    | .ok (.ret u), hr =>
      obtain ⟨v, H', os, bare, un, ok', rv, q⟩ := hr
      cases (show v = V.bl true from q)
      cases (show u = Value.bool true from rv)
      refine ⟨rfl, OldK.of_keep ?_, os, bare⟩
      intro b o e
      cases only b with
      | inl n => exact un.keep b o e n (fun z => nomatch z) (fun z => nomatch z)
      | inr n =>
        obtain ⟨ob, xs, z⟩ := n
        have e1 := (ok b _ z).1
        have e2 := (ok' b _ (un.frzs b ob _ z)).1
        rw [e] at e1
        cases e1
        exact e2
  have small : (ns.map V.int).length ≤ sizeLine := by rw [List.length_map]; exact few
  cases known : K.lookup a with
  | some o =>
    have e := inK a o known
    rw [here] at e
    cases e
    have sz : vs.length ≤ sizeLine := by rw [← rel.length]; exact small
    exact main (fun _ => none) (fun _ => .inl rfl) (.inr ⟨_, vs.toArray, _, known, rfl, rfl, rfl, by simpa using sz, by simpa using rel⟩) (fun _ _ z => nomatch z) (fun _ _ z => nomatch z)
  | none =>
    have at1 : ∀ {b u}, (if b = a then some (HO.frz { cls := .type "list", data := .seq vs.toArray } (.lst (ns.map V.int))) else none) = some u → b = a := by
      intro b u z
      by_cases hb : b = a
      · exact hb
      · rw [if_neg hb] at z
        cases z
    refine main (fun b => if b = a then some (.frz { cls := .type "list", data := .seq vs.toArray } (.lst (ns.map V.int))) else none) (fun b => ?_) (.inl (.inr ⟨{ cls := .type "list", data := .seq vs.toArray }, if_pos rfl⟩)) (fun b u z => ?_) (fun b u z => ?_)
    · by_cases hb : b = a
      · exact .inr ⟨_, _, if_pos hb⟩
      · exact .inl (if_neg hb)
    · have hb := at1 z
      subst hb
      have z2 := (if_pos rfl).symm.trans z
      cases z2
      exact ⟨here, small, vs, _, rel, here⟩
    · have hb := at1 z
      subst hb
      exact ⟨rfl, known⟩
theorem quiet_walk {l : PySem.W.OpenLaw} {n k : Nat} {q : Program} {loose : List Str} {XP : (Str → Option Value) → Heap → Prop} {YP : World → Heap → Prop} {d : DefRec} {K : Params → PySem.W.Frag} {sp : World → Sp} {x : Str}
    (noImport : importsNone q = true) (most : l.most = some n) (n2 : n ≤ sizeLine) (defaults : d.params.defaults = []) (room : Room k callerA) (hY : ∀ (w : World) (h : Heap), YP w h → (K w.params).In h)
    (F : ∀ (w : World) (mg : Str → Option Value) (fa : Addr) (h : Heap), (K w.params).In h → h.Ns mainGlobals mg → mg d.name = some (.ref fa) →
      ∃ fd : FuncData, (∀ (s : Shared) (u : Value), BindsTo s fd ⟨[u], []⟩ [(x, u)]) ∧ ∀ base : Heap, (K w.params).In base → base.Ns mainGlobals mg → (∃ mm, base.Ns sysModules mm) → FnG l.prog w (K w.params) mg base k fa fd [x] (sp w))
    (want : ∀ (w : World) (H : Hp) (a : Addr) (ns : List Int), ns.length ≤ n → Only H → SqL (K w.params) H a (ns.map V.int) → sp w [.ref a] H (fun v _ => v = .bl true) E0) :
    PySem.W.WalkO q loose XP YP l.row.toRowW d [] (fun f vs => PySem.call f vs) := by
  apply Att.attach_call most defaults
  intro w s₀ s₁ mg mb fa o pm cd doc a vs ns G Y ho hd hcd hmg hobj hints hlen hg
  obtain ⟨fd, hb, hF⟩ := F w mg fa _ (hY w _ Y) G.T.g hmg
  exact quiet_law (hY w _ Y) G.T.g G.T.b G.T.builtins G.T.nolimit hg ((G.T.seer noImport).mods.elim fun mm h => ⟨mm, h.1⟩) hobj hints (Nat.le_trans hlen n2) room hF hb fun H o1 s1 => want w H a ns hlen o1 s1

/-! ### a op1 b op2 c op3 .. : chains of any length -/
section
variable {X : Cx}
structure PCh (X : Cx) (ops : List CmpOp) (es : List Expr) (t : V → TE) : Prop where
  run : ∀ (pos : Pos) (pins : List (Addr × Obj)) (s : Shared) (σ : L2.St) (H : Hp) (Q : VK) (x : V) (v : Value), Inv X pins σ H s → RelV x v → t x σ H Q → wpAny (model X.prog X.w) X.A (compareChain pos v ops (evalEach es X.env)) (EP X pins σ Q) X.xe s
structure PChT (X : Cx) (ops : List CmpOp) (es : List Expr) (t : V → TE) : Prop where
  run : ∀ (pos : Pos) (pins : List (Addr × Obj)) (s : Shared) (σ : L2.St) (H : Hp) (Q : Bool → Hp → Prop) (x : V) (v : Value), Inv X pins σ H s → RelV x v → (t x σ H fun y H' => ∃ k, y = .bl k ∧ Q k H') → wpAny (model X.prog X.w) X.A (testChain pos v ops (evalEach es X.env)) (TP X pins σ Q) X.xe s
def tLast (r : R2) (tb : TE) : V → TE := fun x σ H Q => tb σ H fun y H2 => r x y H2 Q
def tLink (r : R2) (tb : TE) (rest : V → TE) : V → TE := fun x σ H Q => tb σ H fun y H2 => r x y H2 fun z H3 => ∃ k, z = .bl k ∧ (if k = true then rest y σ H3 Q else Q (.bl false) H3)
def tCh (ta : TE) (rest : V → TE) : TE := fun σ H Q => ta σ H fun x H1 => rest x σ H1 Q
theorem pch_last {op : CmpOp} {r : R2} {b : Expr} {tb : TE} (ho : OpR X (compareOp op) r) (hb : PE X b tb) : PCh X [op] [b] (tLast r tb) :=
  ⟨fun pos pins s σ H Q x v I rx h => chain_last (thn (hb.run pins s σ H _ I h) fun u s2 ⟨y, H2, I2, r2, q2⟩ => ho pins s2 σ H2 x y v u Q I2 rx r2 q2)⟩
theorem pch_link {op op' : CmpOp} {ops : List CmpOp} {r : R2} {b b' : Expr} {bs : List Expr} {tb : TE} {rest : V → TE} (ho : OpR X (compareOp op) r) (hb : PE X b tb) (hr : PCh X (op' :: ops) (b' :: bs) rest) : PCh X (op :: op' :: ops) (b :: b' :: bs) (tLink r tb rest) := by
  refine ⟨fun pos pins s σ H Q x v I rx h => ?_⟩
  refine chain_link (thn (hb.run pins s σ H _ I h) fun u s2 ⟨y, H2, I2, r2, q2⟩ => thn (ho pins s2 σ H2 x y v u _ I2 rx r2 q2) fun d s3 ⟨z, H3, I3, r3, k, e, q3⟩ => ?_)
  subst e
  cases r3
  refine wpAny_truthy_bool ?_
  cases k with
  | false => exact ite_ff ⟨.bl false, H3, I3, rfl, q3⟩
  | true => exact ite_tt (hr.run pos pins s3 σ H3 Q y u I3 r2 q3)
theorem pe_chN {op op' : CmpOp} {ops : List CmpOp} {a b b' : Expr} {bs : List Expr} {pos : Pos} {ta : TE} {rest : V → TE} (ha : PE X a ta) (hr : PCh X (op :: op' :: ops) (b :: b' :: bs) rest)
    (hm : lastMarks (op :: op' :: ops) (b :: b' :: bs) = false := by with_unfolding_all rfl) : PE X (.Compare a (op :: op' :: ops) (b :: b' :: bs) pos) (tCh ta rest) :=
  ⟨fun pins s σ H Q I h => Compare_chain (thn (ha.run pins s σ H _ I h) fun v s1 ⟨x, H1, I1, r1, q1⟩ => hr.run pos pins s1 σ H1 Q x v I1 r1 q1) hm⟩
theorem pchT_last {op : CmpOp} {r : R2} {b : Expr} {tb : TE} (ho : OpR X (compareOp op) r) (hb : PE X b tb) : PChT X [op] [b] (tLast r tb) := by
  refine ⟨fun pos pins s σ H Q x v I rx h => ?_⟩
  refine test_last (thn (hb.run pins s σ H _ I h) fun u s2 ⟨y, H2, I2, r2, q2⟩ => thn (ho pins s2 σ H2 x y v u _ I2 rx r2 q2) fun d s3 ⟨z, H3, I3, r3, k, e, q3⟩ => ?_)
  subst e
  cases r3
  exact wpAny_truthy_bool ⟨H3, I3, q3⟩
theorem pchT_link {op op' : CmpOp} {ops : List CmpOp} {r : R2} {b b' : Expr} {bs : List Expr} {tb : TE} {rest : V → TE} (ho : OpR X (compareOp op) r) (hb : PE X b tb) (hr : PChT X (op' :: ops) (b' :: bs) rest) : PChT X (op :: op' :: ops) (b :: b' :: bs) (tLink r tb rest) := by
  refine ⟨fun pos pins s σ H Q x v I rx h => ?_⟩
  refine test_link (thn (hb.run pins s σ H _ I h) fun u s2 ⟨y, H2, I2, r2, q2⟩ => thn (ho pins s2 σ H2 x y v u _ I2 rx r2 q2) fun d s3 ⟨z, H3, I3, r3, k, e, q3⟩ => ?_)
  subst e
  cases r3
  refine wpAny_truthy_bool ?_
  cases k with
  | false =>
    obtain ⟨k', e', q'⟩ := q3
    cases e'
    exact ite_ff ⟨H3, I3, q'⟩
  | true => exact ite_tt (hr.run pos pins s3 σ H3 Q y u I3 r2 q3)
theorem pt_chN {op op' : CmpOp} {ops : List CmpOp} {a b b' : Expr} {bs : List Expr} {pos : Pos} {ta : TE} {rest : V → TE} (ha : PE X a ta) (hr : PChT X (op :: op' :: ops) (b :: b' :: bs) rest)
    (hm : lastMarks (op :: op' :: ops) (b :: b' :: bs) = false := by with_unfolding_all rfl) : PT X (.Compare a (op :: op' :: ops) (b :: b' :: bs) pos) (tTest (tCh ta rest)) :=
  ⟨fun pins s σ H Q I h => isTrue_chain (thn (ha.run pins s σ H _ I h) fun v s1 ⟨x, H1, I1, r1, q1⟩ => hr.run pos pins s1 σ H1 Q x v I1 r1 q1) hm⟩
end

/-! ### t[::-1] of a tuple; xs == [], xs != [] of a list that may hold anything -/
section
open HT
variable {prog : Program} {w : World} {A : Around} {E : Value → Shared → Prop} {s : Shared}
theorem adjust_rev (n : Nat) : Builtin.Slice.sliceAdjust none none (-1) (n : Int) = ((n : Int) - 1, -1) := by
  unfold Builtin.Slice.sliceAdjust
  have h1 : (-1 : Int) < 0 := by decide
  simp only [h1, if_true]
theorem places_rev (n : Nat) : Builtin.Slice.slicePlaces ((n : Int) - 1) (-1) (-1) = n := by
  unfold Builtin.Slice.slicePlaces
  have h1 : ¬ ((-1 : Int) > 0) := by decide
  simp only [h1, if_false]
  have h2 : (-(-1) : Int) = 1 := by decide
  rw [h2, Int.ediv_one]
  split <;> omega
theorem sliceApplied_rev {sl : Addr} {vl vu vs : Value} {n : Nat} {Q : Int × Int × Nat → Shared → Prop} (hs : s.heap.IsSliceOf sl vl vu vs) (pl : IsPart vl none) (pu : IsPart vu none) (pt : IsPart vs (some (-1)))
    (h : Q ((n : Int) - 1, -1, n) s) : wpAny (model prog w) A (Builtin.Slice.sliceApplied (.ref sl) (pure (n : Int))) Q E s := by
  obtain ⟨os, hos, hcs, hds⟩ := id hs
  unfold Builtin.Slice.sliceApplied Builtin.Slice.sliceFields
  refine wpAny_bind (wpAny_bind (wpAny_field hos hds (x := vl) rfl (wpAny_bind (wpAny_field hos hds (x := vu) rfl (wpAny_bind (wpAny_field hos hds (x := vs) rfl (wpAny_pure ?_)))))))
  refine wpAny_bind (slicePart_ pt ?_)
  show wpAny _ _ (if ((-1 : Int) == 0) = true then _ else _) _ _ s
  rw [if_neg (by decide)]
  refine wpAny_bind (slicePart_ pl (wpAny_bind (slicePart_ pu (wpAny_bind (wpAny_pure ?_)))))
  show wpAny _ _ (match Builtin.Slice.sliceAdjust none none (-1) (n : Int) with | (lo, hi) => pure (lo, (-1 : Int), Builtin.Slice.slicePlaces lo hi (-1))) _ _ s
  rw [adjust_rev]
  show wpAny _ _ (pure ((n : Int) - 1, (-1 : Int), Builtin.Slice.slicePlaces ((n : Int) - 1) (-1) (-1))) _ _ s
  rw [places_rev]
  exact wpAny_pure h
theorem pick_rev (xs : Array Value) : ((List.range xs.size).filterMap fun (k : Nat) => xs[((xs.size : Int) - 1 + (k : Int) * (-1)).toNat]?) = xs.toList.reverse := by
  have e : ∀ m : Nat, m ≤ xs.size → ((List.range m).filterMap fun (k : Nat) => xs[((xs.size : Int) - 1 + (k : Int) * (-1)).toNat]?) = xs.toList.reverse.take m := by
    intro m
    induction m with
    | zero => intro _; rfl
    | succ m ih =>
      intro hm
      rw [List.range_succ, List.filterMap_append, ih (by omega), List.take_add_one]
      congr 1
      have e1 : ((xs.size : Int) - 1 + (m : Int) * (-1)).toNat = xs.size - 1 - m := by omega
      have e2 : xs.toList.reverse[m]? = xs[xs.size - 1 - m]? := by
        rw [List.getElem?_reverse (by rw [Array.length_toList]; omega), Array.length_toList, Array.getElem?_toList]
      rw [e2]
      have lt : xs.size - 1 - m < xs.size := by omega
      simp only [List.filterMap_cons, List.filterMap_nil, e1]
      rw [Array.getElem?_eq_getElem lt]
      rfl
  rw [e _ (Nat.le_refl _), List.take_of_length_le (by rw [List.length_reverse, Array.length_toList]; exact Nat.le_refl _)]
theorem getItem_tuple_rev {t sl : Addr} {items : Array Value} {vl vu vs : Value} {Q : Value → Shared → Prop} (ht : IsTup s.heap t items) (hs : s.heap.IsSliceOf sl vl vu vs) (pl : IsPart vl none) (pu : IsPart vu none) (pt : IsPart vs (some (-1)))
    (h : Q (.ref s.heap.objs.size) { s with heap := s.heap.push { cls := .type "tuple", data := .seq items.toList.reverse.toArray } })
    (hsz : items.size ≤ sizeLine) : wpAny (model prog w) A (getItem (.ref t) (.ref sl)) Q E s := by
  have htake : sizeOk (.seq items.toList.reverse.toArray) := by
    show items.toList.reverse.toArray.size ≤ sizeLine
    rw [List.size_toArray, List.length_reverse, Array.length_toList]
    omega
  obtain ⟨os, hos, hcs, hds⟩ := id hs
  have hTs : s.TypeIs (.ref sl) "slice" := ⟨os, hos, hcs⟩
  unfold getItem
  try with_reducible refine wpAny_holding ?_
  first | refine wpAny_bind (wpAny_pure ?_) | skip
  refine wpAny_bind (wpAny_sequenceKey ht.typeIs (by decide) ?_)
  refine wpAny_bind (wpAny_callSpecial?_slot (name := Str.ofString "__getitem__") ht.typeIs PyProof.Rows.slot_tuple_getitem
    (wpAny_call_entry PyProof.Rows.slot_tuple_getitem ht.typeIs entry_tuple_getitem ?_ (args_tuple_getitem _ _)))
  show wpAny _ _ (Builtin.Tuple.tupleItemsOf (.ref t) >>= _) _ _ s
  refine wpAny_bind (tupleItemsOf_ ht ?_)
  refine wpAny_bind (wpAny_typeOf hTs ?_)
  rw [if_pos (by decide)]
  refine wpAny_bind (sliceApplied_rev hs pl pu pt ?_)
  have hno : ¬ ((((items.size : Int) - 1) == 0 && (-1 : Int) == 1 && items.size == items.size) = true) := by
    intro q
    rw [Bool.and_eq_true, Bool.and_eq_true] at q
    exact absurd q.1.2 (by decide)
  show wpAny _ _ (if (((items.size : Int) - 1) == 0 && (-1 : Int) == 1 && items.size == items.size) = true then _ else _) _ _ s
  rw [if_neg hno, pick_rev]
  first
    | exact wpAny_bind (m := Builtin.Tuple.tupleExact _) (wpAny_newObj_type (wpAny_pure ⟨_, rfl, wpAny_pure h⟩) htake)
    | exact wpAny_bind (m := Builtin.Tuple.tupleExact _) (wpAny_newObj_type (wpAny_bind (wpAny_pure (wpAny_pure ⟨_, rfl, wpAny_pure h⟩))) htake)
    | exact wpAny_bind (wpAny_bind (m := Builtin.Tuple.tupleExact _) (wpAny_newObj_type (wpAny_pure (wpAny_pure ⟨_, rfl, wpAny_pure h⟩)) htake))
    | exact wpAny_bind (wpAny_bind (m := Builtin.Tuple.tupleExact _) (wpAny_newObj_type (wpAny_pure ⟨_, rfl, wpAny_pure h⟩) htake))
end
section
variable {X : Cx}
def tRevT (K : PySem.W.Frag) (te : TE) : TE := fun σ H Q => te σ H fun x H1 => ∃ a xs, x = .ref a ∧ SqT K H1 a xs ∧ ∀ p, H1 p = none → Q (.ref p) (upd H1 p (.tup xs.reverse))
theorem pe_revT {e : Expr} {te : TE} {k : Nat} {p1 p2 p3 pos : Pos} (he : PE X e te) : PE X (.Subscript e (.Slice none none (some (.UnaryOp .USub (.Constant (.int 1) k p1) p2)) p3) pos) (tRevT X.K te) := by
  refine ⟨fun pins s σ H Q I h => ?_⟩
  refine Subscript_ (thn (he.run pins s σ H _ I h) fun v s1 ⟨x, H1, I1, r1, q1⟩ => ?_)
  obtain ⟨a, xs, ex, hx, q⟩ := q1
  subst ex
  cases r1
  have hst : PO X (some (.UnaryOp .USub (.Constant (.int 1) k p1) p2)) (tPart (tUn (rU fun i => .int (-i)) (tC (.int 1)))) := po_some (pe_un un_neg pe_int)
  refine wpAny_Slice (thn (po_none.run pins s1 σ H1 (fun o H2 => o = none ∧ H2 = H1) I1 ⟨rfl, rfl⟩) fun vl s2 ⟨l, H2, I2, pl, el, e2⟩ => ?_)
  subst el e2
  refine thn (po_none.run pins s2 σ H2 (fun o H3 => o = none ∧ H3 = H2) I2 ⟨rfl, rfl⟩) fun vu s3 ⟨u, H3, I3, pu, eu, e3⟩ => ?_
  subst eu e3
  refine thn (hst.run pins s3 σ H3 (fun o H4 => o = some (-1) ∧ H4 = H3) I3 ⟨1, rfl, -1, rfl, rfl, rfl⟩) fun vs s4 ⟨o, H4, I4, ps, eo, e4⟩ => ?_
  subst eo e4
  have I5 : Inv X pins σ H4 { s4 with heap := s4.heap.push { cls := .type "slice", data := .fields #[vl, vu, vs] } } := I4.kept (t' := s4.toks) fun b ob q => Heap.get?_push_of_some _ q
  obtain ⟨its, r, ht, hz⟩ := I5.tuple hx
  have hlen := r.length
  show wpAny (model X.prog X.w) X.A (subscriptTail e (.Slice none none (some (.UnaryOp .USub (.Constant (.int 1) k p1) p2)) p3) (.ref a) (.ref s4.heap.objs.size)) (EP X pins σ Q) X.xe { s4 with heap := s4.heap.push { cls := .type "slice", data := .fields #[vl, vu, vs] } }
  refine tail_any (ops := [.ref a, .ref s4.heap.objs.size]) ht.typeIs (PyProof.Rows.slot_tuple_getitem.lookup) ?_ (by with_unfolding_all rfl)
  refine getItem_tuple_rev ht (Heap.IsSliceOf.new _ vl vu vs) pl pu ps ?_ (by rw [List.size_toArray]; omega)
  refine ⟨.ref _, _, I5.laid (t' := s4.toks) (o := .tup xs.reverse) (fun b ob q => Heap.get?_push_of_some _ q) (Nat.le_refl _) ?_, rfl, q _ (I5.hok.fresh (Nat.le_refl _))⟩
  exact ⟨by rw [List.length_reverse]; exact hz, _, r.reverse, IsTup.new _ _⟩
def rEqL (K : PySem.W.Frag) : R2 := fun x y H Q => ∃ (a b : Addr) (xs : List V), x = .ref a ∧ y = .ref b ∧ SqL K H a xs ∧ SqL K H b [] ∧ Q (.bl xs.isEmpty) H
def rNeL (K : PySem.W.Frag) : R2 := fun x y H Q => ∃ (a b : Addr) (xs : List V), x = .ref a ∧ y = .ref b ∧ SqL K H a xs ∧ SqL K H b [] ∧ Q (.bl (!xs.isEmpty)) H
theorem op_eqL (units : X.A.units < cLine) : OpR X (compareOp .Eq) (rEqL X.K) := by
  intro pins s σ H x y v u Q I rx ry h
  obtain ⟨a, b, xs, rfl, rfl, ha, hb, q⟩ := h
  cases rx
  cases ry
  obtain ⟨its, r1, p1, _⟩ := I.list ha
  obtain ⟨its2, r2, p2, _⟩ := I.list hb
  cases r2
  cases r1 with
  | nil =>
    exact SeqAt.eq_listAt (e := fun _ => true) p1.isList p2.isList rfl units (fun j h1 h2 => absurd h2 (Nat.not_lt_zero j)) ⟨.bl true, H, I, rfl, q⟩
  | cons r t =>
    exact SeqAt.eq_list_lengthsAt p1.isList p2.isList (by simp) units ⟨.bl false, H, I, rfl, q⟩
theorem op_neL (units : X.A.units < cLine) : OpR X (compareOp .NotEq) (rNeL X.K) := by
  intro pins s σ H x y v u Q I rx ry h
  obtain ⟨a, b, xs, rfl, rfl, ha, hb, q⟩ := h
  cases rx
  cases ry
  obtain ⟨its, r1, p1, _⟩ := I.list ha
  obtain ⟨its2, r2, p2, _⟩ := I.list hb
  cases r2
  cases r1 with
  | nil =>
    exact SeqAt.RcNeAt.lists (e := fun _ => true) p1.isList p2.isList rfl units (fun j h1 h2 => absurd h2 (Nat.not_lt_zero j)) X.prog X.w X.xe (EP X pins σ Q) ⟨.bl false, H, I, rfl, q⟩
  | cons r t =>
    exact SeqAt.RcNeAt.lists_lengths p1.isList p2.isList (by simp) units X.prog X.w X.xe (EP X pins σ Q) ⟨.bl true, H, I, rfl, q⟩
end

/-! ### more of tuples: t == (), t >= u -/
section
variable {X : Cx}
def rEqE (K : PySem.W.Frag) : R2 := fun x y H Q => ∃ (a b : Addr) (xs : List V), x = .ref a ∧ y = .ref b ∧ SqT K H a xs ∧ SqT K H b [] ∧ Q (.bl xs.isEmpty) H
theorem op_eqE (units : X.A.units < cLine) : OpR X (compareOp .Eq) (rEqE X.K) := by
  intro pins s σ H x y v u Q I rx ry h
  obtain ⟨a, b, xs, rfl, rfl, ha, hb, q⟩ := h
  cases rx
  cases ry
  obtain ⟨its, r1, p1, _⟩ := I.tuple ha
  obtain ⟨its2, r2, p2, _⟩ := I.tuple hb
  cases r2
  apply SeqAt.eq_tupleAt (e := fun _ => true) (show s.heap.IsTuple a its.toArray from p1) (show s.heap.IsTuple b ([] : List Value).toArray from p2) units
  · intro j h1 h2
    exact absurd h2 (Nat.not_lt_zero j)
  · refine ⟨.bl xs.isEmpty, H, I, ?_, q⟩
    cases r1 with
    | nil => rfl
    | cons r t => rfl
def rGeT (K : PySem.W.Frag) : R2 := fun x y H Q => ∃ (a b : Addr) (ns ms : List Int), x = .ref a ∧ y = .ref b ∧ SqT K H a (ns.map V.int) ∧ SqT K H b (ms.map V.int) ∧
  Q (.bl (Ob.lexAt (fun j => decide (ns.getD j 0 = ms.getD j 0)) (fun j => decide (ms.getD j 0 ≤ ns.getD j 0)) (decide (ns.length ≥ ms.length)) 0 (min ns.length ms.length))) H
theorem op_geT (units : X.A.units < cLine) : OpR X (compareOp .GtE) (rGeT X.K) := by
  intro pins s σ H x y v u Q I rx ry h
  obtain ⟨a, b, ns, ms, rfl, rfl, ha, hb, q⟩ := h
  cases rx
  cases ry
  obtain ⟨us, r1, p1, _⟩ := I.tuple ha
  obtain ⟨ws, r2, p2, _⟩ := I.tuple hb
  have w1 : IntsAre us ns := Vals.ints r1
  have w2 : IntsAre ws ms := Vals.ints r2
  have l1 : us.toArray.size = ns.length := List.size_toArray.trans w1.length
  have l2 : ws.toArray.size = ms.length := List.size_toArray.trans w2.length
  have g1 : ∀ j (hj : j < us.toArray.size), ∃ t, us.toArray[j] = .int (ns.getD j 0) t := by
    intro j hj
    apply PyProof.Rows.IntsAre.int_at w1
    simp at hj
    simp [hj]
  have g2 : ∀ j (hj : j < ws.toArray.size), ∃ t, ws.toArray[j] = .int (ms.getD j 0) t := by
    intro j hj
    apply PyProof.Rows.IntsAre.int_at w2
    simp at hj
    simp [hj]
  have eqs : ∀ (i j : Int) (t u : Tok), SeqAt.EqAt X.A.in1 s (.int i t) (.int j u) (decide (i = j)) := by
    intro i j t u
    have z : (i == j) = decide (i = j) := by
      by_cases e : i = j
      · rw [decide_eq_true e]
        exact beq_iff_eq.mpr e
      · rw [decide_eq_false e]
        exact beq_eq_false_iff_ne.mpr e
    rw [← z]
    exact SeqAt.EqAt.int_int _ _ _ _
  have R := Ob.RcOp.tuples_ge (A := X.A) (s := s) (e := fun j => decide (ns.getD j 0 = ms.getD j 0)) (r := fun j => decide (ms.getD j 0 ≤ ns.getD j 0)) p1 p2 units
    (by
      intro j h1 h2
      obtain ⟨t, et⟩ := g1 j h1
      obtain ⟨t', et'⟩ := g2 j h2
      rw [et, et']
      exact eqs _ _ _ _)
    (by
      intro j h1 h2 _
      obtain ⟨t, et⟩ := g1 j h1
      obtain ⟨t', et'⟩ := g2 j h2
      rw [et, et']
      exact Ob.RcOp.ge_int _ _ _ _)
  rw [l1, l2] at R
  exact R X.prog X.w X.xe (EP X pins σ Q) ⟨.bl _, H, I, rfl, q⟩
end

def topS (i : Nat) : Stmt := PySem.Challenge.pw_fewspans_k45_targets_joined.main.body.getD i (.Pass ⟨0, 0, 0, 0⟩)
abbrev s_is_number : Stmt := topS 7
abbrev N_is_number : List Str := ["value"]
theorem sc_is_number : FnScope N_is_number ["value"] (defScope s_is_number) := ⟨rfl, rfl, rfl, by decide +kernel, rfl, by decide +kernel, by decide +kernel⟩
abbrev s_is_position : Stmt := topS 8
abbrev N_is_position : List Str := ["value"]
theorem sc_is_position : FnScope N_is_position ["value"] (defScope s_is_position) := ⟨rfl, rfl, rfl, by decide +kernel, rfl, by decide +kernel, by decide +kernel⟩
abbrev s_is_tuple_of : Stmt := topS 9
abbrev N_is_tuple_of : List Str := ["value", "length"]
theorem sc_is_tuple_of : FnScope N_is_tuple_of ["value", "length"] (defScope s_is_tuple_of) := ⟨rfl, rfl, rfl, by decide +kernel, rfl, by decide +kernel, by decide +kernel⟩
abbrev s_is_interval : Stmt := topS 10
abbrev N_is_interval : List Str := ["value", "low", "high"]
theorem sc_is_interval : FnScope N_is_interval ["value"] (defScope s_is_interval) := ⟨rfl, rfl, rfl, by decide +kernel, rfl, by decide +kernel, by decide +kernel⟩
abbrev s_require_positions : Stmt := topS 12
abbrev N_require_positions : List Str := ["intervals", "interval"]
theorem sc_require_positions : FnScope N_require_positions ["intervals"] (defScope s_require_positions) := ⟨rfl, rfl, rfl, by decide +kernel, rfl, by decide +kernel, by decide +kernel⟩
abbrev s_shift_targets : Stmt := topS 13
abbrev N_shift_targets : List Str := ["targets", "by", "low", "high"]
theorem sc_shift_targets : FnScope N_shift_targets ["targets", "by"] (defScope s_shift_targets) := ⟨rfl, rfl, rfl, by decide +kernel, rfl, by decide +kernel, by decide +kernel⟩
abbrev s_join_targets : Stmt := topS 14
abbrev N_join_targets : List Str := ["first", "second", "gap", "lowest", "low", "high", "highest"]
theorem sc_join_targets : FnScope N_join_targets ["first", "second", "gap"] (defScope s_join_targets) := ⟨rfl, rfl, rfl, by decide +kernel, rfl, by decide +kernel, by decide +kernel⟩
abbrev s_law_deck : Stmt := topS 16
abbrev N_law_deck : List Str := ["_law_script", "_law_cell"]
theorem sc_law_deck : FnScope N_law_deck ["_law_script"] (defScope s_law_deck) := ⟨rfl, rfl, rfl, by decide +kernel, rfl, by decide +kernel, by decide +kernel⟩
abbrev s_law_draw : Stmt := topS 17
abbrev N_law_draw : List Str := ["_law_deck_here", "_law_many", "_law_cell", "_law_place"]
theorem sc_law_draw : FnScope N_law_draw ["_law_deck_here", "_law_many"] (defScope s_law_draw) := ⟨rfl, rfl, rfl, by decide +kernel, rfl, by decide +kernel, by decide +kernel⟩
abbrev s_law_same : Stmt := topS 18
abbrev N_law_same : List Str := ["_law_found", "_law_due_here", "_law_one", "_law_other"]
theorem sc_law_same : FnScope N_law_same ["_law_found", "_law_due_here"] (defScope s_law_same) := ⟨rfl, rfl, rfl, by decide +kernel, rfl, by decide +kernel, by decide +kernel⟩
abbrev s_law_small : Stmt := topS 19
abbrev N_law_small : List Str := ["_law_deck_here", "_law_most", "_law_span", "_law_found", "_law_k", "_law_low"]
theorem sc_law_small : FnScope N_law_small ["_law_deck_here", "_law_most", "_law_span"] (defScope s_law_small) := ⟨rfl, rfl, rfl, by decide +kernel, rfl, by decide +kernel, by decide +kernel⟩
abbrev s_law_moved : Stmt := topS 20
abbrev N_law_moved : List Str := ["_law_intervals", "_law_by", "_law_low", "_law_high"]
theorem sc_law_moved : FnScope N_law_moved ["_law_intervals", "_law_by"] (defScope s_law_moved) := ⟨rfl, rfl, rfl, by decide +kernel, rfl, by decide +kernel, by decide +kernel⟩
abbrev s_law_due : Stmt := topS 21
abbrev N_law_due : List Str := ["_law_first", "_law_second", "_law_gap", "_law_greatest", "_law_low", "_law_high"]
theorem sc_law_due : FnScope N_law_due ["_law_first", "_law_second", "_law_gap"] (defScope s_law_due) := ⟨rfl, rfl, rfl, by decide +kernel, rfl, by decide +kernel, by decide +kernel⟩
abbrev s_law : Stmt := topS 22
abbrev N_law : List Str := ["_law_script", "_law_deck_here", "_law_turn", "_law_first", "_law_second", "_law_gap", "_law_kept", "_law_one", "_law_other", "_law_low", "_law_high"]
theorem sc_law : FnScope N_law ["_law_script"] (defScope s_law) := ⟨rfl, rfl, rfl, by decide +kernel, rfl, by decide +kernel, by decide +kernel⟩
/-! ### the deck and its draws -/
structure Dk (H : Hp) (d c : Addr) (n : Int) : Prop where
  top : H d = some (.lst [.ref c, .int n])
  cells : ∃ xs : List Int, H c = some (.lst (xs.map V.int)) ∧ xs.length ≤ 63 ∧ ∀ x ∈ xs, 0 ≤ x
theorem Dk.ne {H : Hp} {d c : Addr} {n : Int} (h : Dk H d c n) : c ≠ d := by
  obtain ⟨xs, e, _⟩ := h.cells
  intro z
  subst z
  have q := e.symm.trans h.top
  cases xs with
  | nil => cases q
  | cons x r => cases q
/-- nothing but the deck has changed -/
def Kp (d c : Addr) (H H' : Hp) : Prop := ∀ b o, b ≠ d → b ≠ c → H b = some o → H' b = some o
theorem Kp.trans {d c : Addr} {H H1 H2 : Hp} (h1 : Kp d c H H1) (h2 : Kp d c H1 H2) : Kp d c H H2 := fun b o n1 n2 e => h2 b o n1 n2 (h1 b o n1 n2 e)
theorem Kp.same {d c : Addr} {H H1 : Hp} (h : Same H H1) : Kp d c H H1 := fun b o _ _ e => h b o e
theorem Kp.none {d c : Addr} {H H' : Hp} (k : Kp d c H H') {n m : Int} (h : Dk H d c n) (h' : Dk H' d c m) {t : Addr} (e : H' t = none) : H t = none := by
  by_cases e1 : t = d
  · rw [e1, h'.top] at e
    cases e
  · by_cases e2 : t = c
    · obtain ⟨xs, z, _⟩ := h'.cells
      rw [e2, z] at e
      cases e
    · cases q : H t with
      | none => rfl
      | some o =>
        rw [k t o e1 e2 q] at e
        cases e
theorem Dk.kept {H H' : Hp} {d c : Addr} {n : Int} (h : Dk H d c n) (s : Same H H') : Dk H' d c n :=
  let ⟨xs, e, a⟩ := h.cells
  ⟨s _ _ h.top, xs, s _ _ e, a⟩
theorem Dk.eq {H : Hp} {d c : Addr} {n m : Int} (h : Dk H d c n) (e : n = m) : Dk H d c m := e ▸ h
def sp_law_deck (K : PySem.W.Frag) : Sp := fun vs H Q _ => ∃ (a : Addr) (ns : List Int), vs = [.ref a] ∧ SqL K H a (ns.map V.int) ∧ ns.length ≤ 63 ∧
  ∀ H' d c, Same H H' → H d = none → H c = none → Dk H' d c 0 → Q (.ref d) H'
def sp_law_draw : Sp := fun vs H Q _ => ∃ (d c : Addr) (n lim : Int), vs = [.ref d, .int lim] ∧ Dk H d c n ∧ 0 ≤ n ∧ n < 1000000 ∧ 0 < lim ∧ lim < 2 ^ 63 ∧
  ∀ H' r, Kp d c H H' → Dk H' d c (n + 1) → 0 ≤ r → r < lim → Q (.int r) H'
theorem same_new {H : Hp} {p : Addr} {o : HO} (h : H p = none) : Same H (upd H p o) := fun b x e => by
  rw [upd_ne (ne_of_none e h)]
  exact e
theorem cutTo (xs : List V) (j : Nat) : cutV xs none (some (j : Int)) = xs.take j := by
  unfold cutV
  rw [HT.sIx_none, show HT.sIx xs.length xs.length (some (j : Int)) = min j xs.length from HT.sIx_nat xs.length xs.length j]
  rw [Nat.sub_zero, List.drop_zero]
  rcases Nat.le_total j xs.length with h | h
  · rw [Nat.min_eq_left h]
  · rw [Nat.min_eq_right h, List.take_length, List.take_of_length_le h]
section
structure Tx (K : PySem.W.Frag) (mg : Str → Option Value) (f_is_number f_is_position f_is_tuple_of f_is_interval f_require_positions f_shift_targets f_join_targets f_law_deck f_law_draw f_law_same f_law_small f_law_moved f_law_due f_law : Addr) (d_is_number d_is_position d_is_tuple_of d_is_interval d_require_positions d_shift_targets d_join_targets d_law_deck d_law_draw d_law_same d_law_small d_law_moved d_law_due d_law : FuncData) (t_LAST_POSITION t_MAX_TARGETS : Tok) : Prop where
  F_is_number : Fun K "is_number" "is_number" s_is_number f_is_number d_is_number
  b_is_number : Binds K d_is_number ["value"] []
  g_is_number : mg "is_number" = some (.ref f_is_number)
  F_is_position : Fun K "is_position" "is_position" s_is_position f_is_position d_is_position
  b_is_position : Binds K d_is_position ["value"] []
  g_is_position : mg "is_position" = some (.ref f_is_position)
  F_is_tuple_of : Fun K "is_tuple_of" "is_tuple_of" s_is_tuple_of f_is_tuple_of d_is_tuple_of
  b_is_tuple_of : Binds K d_is_tuple_of ["value", "length"] []
  g_is_tuple_of : mg "is_tuple_of" = some (.ref f_is_tuple_of)
  F_is_interval : Fun K "is_interval" "is_interval" s_is_interval f_is_interval d_is_interval
  b_is_interval : Binds K d_is_interval ["value"] []
  g_is_interval : mg "is_interval" = some (.ref f_is_interval)
  F_require_positions : Fun K "require_positions" "require_positions" s_require_positions f_require_positions d_require_positions
  b_require_positions : Binds K d_require_positions ["intervals"] []
  g_require_positions : mg "require_positions" = some (.ref f_require_positions)
  F_shift_targets : Fun K "shift_targets" "shift_targets" s_shift_targets f_shift_targets d_shift_targets
  b_shift_targets : Binds K d_shift_targets ["targets", "by"] []
  g_shift_targets : mg "shift_targets" = some (.ref f_shift_targets)
  F_join_targets : Fun K "join_targets" "join_targets" s_join_targets f_join_targets d_join_targets
  b_join_targets : Binds K d_join_targets ["first", "second", "gap"] []
  g_join_targets : mg "join_targets" = some (.ref f_join_targets)
  F_law_deck : Fun K "_law_deck" "_law_deck" s_law_deck f_law_deck d_law_deck
  b_law_deck : Binds K d_law_deck ["_law_script"] []
  g_law_deck : mg "_law_deck" = some (.ref f_law_deck)
  F_law_draw : Fun K "_law_draw" "_law_draw" s_law_draw f_law_draw d_law_draw
  b_law_draw : Binds K d_law_draw ["_law_deck_here", "_law_many"] []
  g_law_draw : mg "_law_draw" = some (.ref f_law_draw)
  F_law_same : Fun K "_law_same" "_law_same" s_law_same f_law_same d_law_same
  b_law_same : Binds K d_law_same ["_law_found", "_law_due_here"] []
  g_law_same : mg "_law_same" = some (.ref f_law_same)
  F_law_small : Fun K "_law_small" "_law_small" s_law_small f_law_small d_law_small
  b_law_small : Binds K d_law_small ["_law_deck_here", "_law_most", "_law_span"] []
  g_law_small : mg "_law_small" = some (.ref f_law_small)
  F_law_moved : Fun K "_law_moved" "_law_moved" s_law_moved f_law_moved d_law_moved
  b_law_moved : Binds K d_law_moved ["_law_intervals", "_law_by"] []
  g_law_moved : mg "_law_moved" = some (.ref f_law_moved)
  F_law_due : Fun K "_law_due" "_law_due" s_law_due f_law_due d_law_due
  b_law_due : Binds K d_law_due ["_law_first", "_law_second", "_law_gap"] []
  g_law_due : mg "_law_due" = some (.ref f_law_due)
  F_law : Fun K "law" "law" s_law f_law d_law
  b_law : Binds K d_law ["_law_script"] []
  g_law : mg "law" = some (.ref f_law)
  c_LAST_POSITION : mg "LAST_POSITION" = some (.int 1000000000000 t_LAST_POSITION)
  c_MAX_TARGETS : mg "MAX_TARGETS" = some (.int 24 t_MAX_TARGETS)
  z_abs : mg "abs" = none
  z_all : mg "all" = none
  z_bool : mg "bool" = none
  z_int : mg "int" = none
  z_isinstance : mg "isinstance" = none
  z_len : mg "len" = none
  z_max : mg "max" = none
  z_min : mg "min" = none
  z_range : mg "range" = none
  z_repr : mg "repr" = none
  z_set : mg "set" = none
  z_sorted : mg "sorted" = none
  z_str : mg "str" = none
  z_tuple : mg "tuple" = none
  z_zip : mg "zip" = none
variable {P : Program} {w : World} {K : PySem.W.Frag} {mg : Str → Option Value} {base : Heap} {f_is_number f_is_position f_is_tuple_of f_is_interval f_require_positions f_shift_targets f_join_targets f_law_deck f_law_draw f_law_same f_law_small f_law_moved f_law_due f_law : Addr} {d_is_number d_is_position d_is_tuple_of d_is_interval d_require_positions d_shift_targets d_join_targets d_law_deck d_law_draw d_law_same d_law_small d_law_moved d_law_due d_law : FuncData} {t_LAST_POSITION t_MAX_TARGETS : Tok}
abbrev TxA (K : PySem.W.Frag) (mg : Str → Option Value) (f_is_number f_is_position f_is_tuple_of f_is_interval f_require_positions f_shift_targets f_join_targets f_law_deck f_law_draw f_law_same f_law_small f_law_moved f_law_due f_law : Addr) (d_is_number d_is_position d_is_tuple_of d_is_interval d_require_positions d_shift_targets d_join_targets d_law_deck d_law_draw d_law_same d_law_small d_law_moved d_law_due d_law : FuncData) (t_LAST_POSITION t_MAX_TARGETS : Tok) := Tx K mg f_is_number f_is_position f_is_tuple_of f_is_interval f_require_positions f_shift_targets f_join_targets f_law_deck f_law_draw f_law_same f_law_small f_law_moved f_law_due f_law d_is_number d_is_position d_is_tuple_of d_is_interval d_require_positions d_shift_targets d_join_targets d_law_deck d_law_draw d_law_same d_law_small d_law_moved d_law_due d_law t_LAST_POSITION t_MAX_TARGETS
theorem ok_law_deck (T : Tx K mg f_is_number f_is_position f_is_tuple_of f_is_interval f_require_positions f_shift_targets f_join_targets f_law_deck f_law_draw f_law_same f_law_small f_law_moved f_law_due f_law d_is_number d_is_position d_is_tuple_of d_is_interval d_require_positions d_shift_targets d_join_targets d_law_deck d_law_draw d_law_same d_law_small d_law_moved d_law_due d_law t_LAST_POSITION t_MAX_TARGETS) : FnOk P w K mg base CX0 1 f_law_deck d_law_deck ["_law_script"] (sp_law_deck K) := by
  refine T.F_law_deck.ok sc_law_deck (fun vs H Q E h => ?_) (fun cdv A outer s H vs Q E hr h => ?_)
  · obtain ⟨a, ns, rfl, _⟩ := h
    rfl
  · obtain ⟨a, ns0, rfl, hS, hlen, q⟩ := h
    refine ⟨_, (pss_one (ps_ret (pe_lst (pa_cons (pe_lc (own := [("_law_cell", 1)]) (g := (gName 1)) (tt := tYes) (by rfl) sc_law_deck.nd (pi_list (pe_slice sl_list (pv 0) po_none (po_some pe_int))) (blkOk_by (own := [("_law_cell", 1)]) (N := N_law_deck) (sc := defScope s_law_deck) (by decide +kernel)) (fun _ _ _ _ _ => (pg_name (i := 1) sc_law_deck.nd rfl (Or.inl rfl))) (fun _ _ _ _ _ => pts_nil) (fun _ _ _ _ _ => (pe_callB call_abs (by rfl) T.z_abs (by decide +kernel) (pa_cons (pv 1) pa_nil)))) (pa_cons pe_int pa_nil))))), ?_⟩
    refine ⟨.ref a, rfl, 63, rfl, a, ns0.map V.int, rfl, hS, fun p np => ?_⟩
    rw [show cutV (ns0.map V.int) none (some 63) = (ns0.take 63).map V.int by rw [List.map_take]; exact cutTo _ 63]
    have hlen : (ns0.take 63).length ≤ 63 := Nat.le_trans (List.length_take_le' _ _) hlen
    generalize ns0.take 63 = ns at *
    have s1 : Same H (upd H p (.lst (ns.map V.int))) := same_new np
    refine ⟨p, rfl, ⟨_, SqL.of upd_same⟩, fun D nD => ?_⟩
    have nDp : D ≠ p := fun e => by
      rw [e, upd_same] at nD
      cases nD
    have nD0 : H D = none := by
      rw [upd_ne nDp] at nD
      exact nD
    refine lc_list (K := K) (a := p) (xs := ns.map V.int) (fun i H' => Same (upd H p (.lst (ns.map V.int))) H' ∧ H' D = some (.lst (((ns.take i).map fun (x : Int) => if x < 0 then -x else x).map V.int))) ⟨same_new nD, upd_same⟩ (fun i H' _ h => h.1.seq (SqL.of upd_same)) ?_ ?_
    · rintro i x H' hi ⟨sm, eD⟩
      rw [List.getElem?_map] at hi
      obtain ⟨n, en, rfl⟩ := Option.map_eq_some_iff.mp hi
      refine ⟨rfl, .int n, rfl, n, rfl, _, eD, ?_, ?_, ?_⟩
      · have : (List.take i ns).length ≤ ns.length := List.length_take_le' i ns
        simp only [List.length_map]
        exact small1000 (by omega)
      · intro b o e
        have nb : b ≠ D := ne_of_none e nD
        rw [upd_ne nb]
        exact sm b o e
      · rw [upd_same, List.take_add_one, en]
        simp
    · rintro H' ⟨sm, eD⟩
      rw [List.length_map, List.take_length] at eD
      refine ⟨by show 2 ≤ sizeLine; decide, fun d nd => ?_⟩
      have nDd : D ≠ d := ne_of_none eD nd
      have nd0 : H d = none := s1.free (sm.free nd)
      refine q _ d D (s1.trans (sm.trans (same_new nd))) nd0 nD0 ⟨upd_same, _, by rw [upd_ne nDd]; exact eD, by rw [List.length_map]; exact hlen, fun x hx => ?_⟩
      obtain ⟨y, _, rfl⟩ := List.mem_map.mp hx
      split <;> omega
theorem ok_law_draw (T : Tx K mg f_is_number f_is_position f_is_tuple_of f_is_interval f_require_positions f_shift_targets f_join_targets f_law_deck f_law_draw f_law_same f_law_small f_law_moved f_law_due f_law d_is_number d_is_position d_is_tuple_of d_is_interval d_require_positions d_shift_targets d_join_targets d_law_deck d_law_draw d_law_same d_law_small d_law_moved d_law_due d_law t_LAST_POSITION t_MAX_TARGETS) : FnOk P w K mg base CX0 1 f_law_draw d_law_draw ["_law_deck_here", "_law_many"] sp_law_draw := by
  refine T.F_law_draw.ok sc_law_draw (fun vs H Q E h => ?_) (fun cdv A outer s H vs Q E hr h => ?_)
  · obtain ⟨d, c, n, lim, rfl, _⟩ := h
    rfl
  · obtain ⟨d, c, n, lim, rfl, dk, n0, n1, l0, l1, q⟩ := h
    obtain ⟨xs, ec, xl, xp⟩ := dk.cells
    have ncd := dk.ne
    have ed := dk.top
    have l64 : lim.natAbs < 2 ^ 64 := by omega
    have n64 : (n + 1).natAbs < 2 ^ 64 := by omega
    refine ⟨_, (pss_cons (ps_asg (pe_op op_add (pe_ix ix_list (pv 0) pe_int (fun _ _ => rfl)) pe_int) (pg_sub (pv 0) pe_int set_list))
      (pss_cons (ps_set (i := 2) sc_law_draw.nd rfl (Or.inl rfl) pe_int)
      (pss_cons (ps_set (i := 3) sc_law_draw.nd rfl (Or.inl rfl) (pe_un un_neg pe_int))
      (pss_cons (ps_if (pt_cmpR op_gt (pe_callB call_len_seq (by rfl) T.z_len PySem.boot_len (pa_cons (pe_ix ix_list (pv 0) pe_int (fun _ _ => rfl)) pa_nil)) pe_int (nomark _))
      (pss_cons (ps_set (i := 3) sc_law_draw.nd rfl (Or.inl rfl) (pe_op op_mod (pe_ix ix_list (pv 0) pe_int (fun _ _ => rfl)) (pe_callB call_len_seq (by rfl) T.z_len PySem.boot_len (pa_cons (pe_ix ix_list (pv 0) pe_int (fun _ _ => rfl)) pa_nil))))
      (pss_one (ps_set (i := 2) sc_law_draw.nd rfl (Or.inl rfl) (pe_ix ix_list (pe_ix ix_list (pv 0) pe_int (fun _ _ => rfl)) (pv 3) (fun _ _ => rfl)))))
      pss_nil)
      (pss_cons (ps_if (pt_cmpR op_ge (pv 2) (pe_op op_pow pe_int pe_int) (nomark _))
      (pss_cons (ps_asg (pe_op op_fdivW (pv 2) (pv 1)) (pg_sub (pe_ix ix_list (pv 0) pe_int (fun _ _ => rfl)) (pv 3) set_list))
      (pss_one (ps_ret (pe_op op_mod (pv 2) (pv 1)))))
      pss_nil)
      (pss_one (ps_ret (pe_op op_mod (pe_op op_mod (pe_op op_pow (pe_op op_add (pe_op op_add (pe_op op_mod (pv 2) pe_int) (pe_op op_mulW pe_int (pe_ix ix_list (pv 0) pe_int (fun _ _ => rfl)))) pe_int) pe_int) pe_int) (pv 1))))))))), ?_⟩
    refine ⟨.ref d, rfl, d, _, 1, .int n, rfl, rfl, SqL.of ed, rfl, n, 1, rfl, rfl, .ref d, rfl, d, _, 1, 1, rfl, rfl, ed, rfl, ?_⟩
    generalize eH : upd H d (.lst ([V.ref c, V.int n].set 1 (.int (n + 1)))) = H1
    have ed1 : H1 d = some (.lst [.ref c, .int (n + 1)]) := by
      rw [← eH, upd_same]
      rfl
    have ec1 : H1 c = some (.lst (xs.map V.int)) := by
      rw [← eH, upd_ne ncd]
      exact ec
    have kp1 : Kp d c H H1 := fun b o nb _ e => by
      rw [← eH, upd_ne nb]
      exact e
    have dk1 : Dk H1 d c (n + 1) := ⟨ed1, xs, ec1, xl, xp⟩
    refine ⟨1, rfl, ?_⟩
    refine ⟨.ref d, rfl, d, _, 0, .ref c, rfl, rfl, SqL.of ed1, rfl, c, _, rfl, .inl (SqL.of ec1), _, _, rfl, rfl, _, rfl, ite2 (fun e => ?_) (fun e => ?_)⟩
    · have e1 := of_decide_eq_true e
      rw [List.length_map] at e1
      have lp : (0 : Int) < (xs.map V.int).length := by rw [List.length_map]; exact e1
      have rem0 : 0 ≤ (n + 1) % ((xs.map V.int).length : Int) := Int.emod_nonneg _ (by omega)
      have rem1 : (n + 1) % ((xs.map V.int).length : Int) < (xs.map V.int).length := Int.emod_lt_of_pos _ lp
      obtain ⟨j, ej⟩ : ∃ j : Nat, (n + 1) % ((xs.map V.int).length : Int) = j := ⟨_, (Int.toNat_of_nonneg rem0).symm⟩
      have hj : j < xs.length := by
        rw [ej, List.length_map] at rem1
        omega
      have gj : (xs.map V.int)[j]? = some (.int xs[j]) := by
        rw [List.getElem?_map, List.getElem?_eq_getElem hj]
        rfl
      have x0 : 0 ≤ xs[j] := xp _ (List.getElem_mem hj)
      refine ⟨.ref d, rfl, d, _, 1, .int (n + 1), rfl, rfl, SqL.of ed1, rfl, .ref d, rfl, d, _, 0, .ref c, rfl, rfl, SqL.of ed1, rfl, c, _, rfl, .inl (SqL.of ec1), _, _, rfl, rfl, lp, ?_⟩
      refine ⟨.ref d, rfl, d, _, 0, .ref c, rfl, rfl, SqL.of ed1, rfl, .int _, rfl, c, _, _, .int xs[j], rfl, rfl, SqL.of ec1, (by rw [ej]; exact atI_nat gj), ?_⟩
      refine ⟨.int xs[j], rfl, 10, 18, rfl, rfl, ⟨by decide, by decide, by decide⟩, _, _, rfl, rfl, _, rfl, ite2 (fun e2 => ?_) (fun e2 => ?_)⟩
      · refine ⟨.int xs[j], rfl, .int lim, rfl, _, _, rfl, rfl, wide_div l0 l64 (by decide) (by decide), .ref d, rfl, d, _, 0, .ref c, rfl, rfl, SqL.of ed1, rfl, .int _, rfl, c, _, _, j, rfl, rfl, ec1, ?_, ?_⟩
        · rw [ej]
          unfold ixN
          rw [if_pos (by omega), if_pos (by rw [List.length_map]; omega)]
          rfl
        · refine ⟨.int xs[j], rfl, .int lim, rfl, _, _, rfl, rfl, l0, ?_⟩
          refine q _ _ ?_ ⟨?_, xs.set j (xs[j] / lim), ?_, ?_, ?_⟩ (Int.emod_nonneg _ (by omega)) (Int.emod_lt_of_pos _ l0)
          · intro b o nb nc e
            rw [upd_ne nc]
            exact kp1 b o nb nc e
          · rw [upd_ne ncd.symm]
            exact ed1
          · rw [upd_same, List.map_set]
          · rw [List.length_set]
            exact xl
          · intro x hx
            rcases List.mem_or_eq_of_mem_set hx with hm | he
            · exact xp x hm
            · rw [he]
              exact Int.ediv_nonneg x0 (by omega)
      · refine ⟨.int xs[j], rfl, _, _, rfl, rfl, (by show (0 : Int) < 2147483587; decide), .ref d, rfl, d, _, 1, .int (n + 1), rfl, rfl, SqL.of ed1, rfl, _, _, rfl, rfl, wide_mul (a := 13) (b := 64) (by decide) n64 (by decide) (by decide) (by decide), _, _, rfl, rfl, _, _, rfl, rfl, _, _, rfl, rfl, ⟨by decide, by decide, ?_⟩, _, _, rfl, rfl, (by show (0 : Int) < 2147483647; decide), .int lim, rfl, _, _, rfl, rfl, l0, ?_⟩
        · have a0 := Int.emod_nonneg xs[j] (show (2147483587 : Int) ≠ 0 by decide)
          have a1 := Int.emod_lt_of_pos xs[j] (show (0 : Int) < 2147483587 by decide)
          omega
        · exact q _ _ kp1 dk1 (Int.emod_nonneg _ (by omega)) (Int.emod_lt_of_pos _ l0)
    · refine ⟨.int 0, rfl, 10, 18, rfl, rfl, ⟨by decide, by decide, by decide⟩, _, _, rfl, rfl, _, rfl, ite2 (fun e2 => ?_) (fun e2 => ?_)⟩
      · exact absurd e2 (by decide)
      · refine ⟨.int 0, rfl, _, _, rfl, rfl, (by show (0 : Int) < 2147483587; decide), .ref d, rfl, d, _, 1, .int (n + 1), rfl, rfl, SqL.of ed1, rfl, _, _, rfl, rfl, wide_mul (a := 13) (b := 64) (by decide) n64 (by decide) (by decide) (by decide), _, _, rfl, rfl, _, _, rfl, rfl, _, _, rfl, rfl, ⟨by decide, by decide, ?_⟩, _, _, rfl, rfl, (by show (0 : Int) < 2147483647; decide), .int lim, rfl, _, _, rfl, rfl, l0, ?_⟩
        · have a0 := Int.emod_nonneg 0 (show (2147483587 : Int) ≠ 0 by decide)
          have a1 := Int.emod_lt_of_pos 0 (show (0 : Int) < 2147483587 by decide)
          omega
        · exact q _ _ kp1 dk1 (Int.emod_nonneg _ (by omega)) (Int.emod_lt_of_pos _ l0)
theorem Kp.keep {d c : Addr} {H H' : Hp} (k : Kp d c H H') {a : Addr} {o : HO} (n1 : a ≠ d ∧ a ≠ c) (h : H a = some o) : H' a = some o := k a o n1.1 n1.2 h
theorem Kp.tup {d c : Addr} {n : Int} {H H' : Hp} (k : Kp d c H H') (dk : Dk H d c n) {a : Addr} {xs : List V} (h : H a = some (.tup xs)) : H' a = some (.tup xs) := by
  obtain ⟨ys, e, _⟩ := dk.cells
  exact k a _ (ne_of h dk.top (fun z => by cases z)) (ne_of h e (fun z => by cases z)) h
theorem Dk.off {H : Hp} {d c : Addr} {n : Int} (h : Dk H d c n) {p : Addr} (e : H p = none) : p ≠ d ∧ p ≠ c := by
  obtain ⟨ys, z, _⟩ := h.cells
  exact ⟨(ne_of_none h.top e).symm, (ne_of_none z e).symm⟩
theorem Dk.upd {H : Hp} {d c : Addr} {n : Int} (h : Dk H d c n) {p : Addr} {o : HO} (off : p ≠ d ∧ p ≠ c) : Dk (upd H p o) d c n := by
  obtain ⟨ys, z, w⟩ := h.cells
  exact ⟨by rw [upd_ne off.1.symm]; exact h.top, ys, by rw [upd_ne off.2.symm]; exact z, w⟩

/-! ### what stays when the heap grows, or the deck is drawn from -/
theorem rd_same {H H' : Hp} (s : Same H H') {a : Addr} {u : HO} (h : Rd H a u) : Rd H' a u := by
  rcases h with h | ⟨o, h⟩
  · exact .inl (s _ _ h)
  · exact .inr ⟨o, s _ _ h⟩
theorem sqT_same {K : PySem.W.Frag} {H H' : Hp} (s : Same H H') {a : Addr} {xs : List V} (h : SqT K H a xs) : SqT K H' a xs := by
  rcases h with h | h
  · exact .inl (rd_same s h)
  · exact .inr h
theorem dp_same {K : PySem.W.Frag} {H H' : Hp} (s : Same H H') {v : V} {d : PyData} (h : Dp K H v d) : Dp K H' v d := by
  refine Dp.rec (K := K) (H := H) (motive_1 := fun v d _ => Dp K H' v d) (motive_2 := fun vs ds _ => DpAll K H' vs ds) .non (fun b => .bl b) (fun i => .int i) (fun x => .str x) (fun hs _ q => .lst (s.seq hs) q) (fun hs _ q => .tup (sqT_same s hs) q) .nil (fun _ _ a b => .cons a b) h
theorem dp2 {K : PySem.W.Frag} {H : Hp} {t : Addr} {x y : Int} (h : H t = some (.tup [.int x, .int y])) : Dp K H (.ref t) (.tuple [.int x, .int y]) := .tup (SqT.of h) (.cons (.int x) (.cons (.int y) .nil))
theorem sm2 {x y : Int} (h1 : x.natAbs < 10 ^ 30) (h2 : y.natAbs < 10 ^ 30) : Sm 202 1 (.tuple [.int x, .int y]) := by
  have h := Sm.tup (n := 100) (dp := 0) (ds := [.int x, .int y]) (fun d hd => by
    rcases List.mem_cons.mp hd with rfl | hd
    · exact Sm.int h1
    · rcases List.mem_cons.mp hd with rfl | hd
      · exact Sm.int h2
      · cases hd)
  exact h
/-- an interval, or None -/
def optD : Option (Int × Int) → PyData
  | none => .none
  | some (x, y) => .tuple [.int x, .int y]
def OV (H : Hp) (v : V) : Option (Int × Int) → Prop
  | none => v = .non
  | some (x, y) => ∃ t, v = .ref t ∧ H t = some (.tup [.int x, .int y])
theorem OV.same {H H' : Hp} (s : Same H H') {v : V} {o : Option (Int × Int)} (h : OV H v o) : OV H' v o := by
  match o, h with
  | none, h => exact h
  | some (x, y), h =>
    obtain ⟨t, e, z⟩ := h
    exact ⟨t, e, s _ _ z⟩
theorem OV.kp {d c : Addr} {n : Int} {H H' : Hp} (k : Kp d c H H') (dk : Dk H d c n) {v : V} {o : Option (Int × Int)} (h : OV H v o) : OV H' v o := by
  match o, h with
  | none, h => exact h
  | some (x, y), h =>
    obtain ⟨t, e, z⟩ := h
    exact ⟨t, e, k.tup dk z⟩
theorem OV.dp {K : PySem.W.Frag} {H : Hp} {v : V} {o : Option (Int × Int)} (h : OV H v o) : Dp K H v (optD o) := by
  match o, h with
  | none, h =>
    cases h
    exact .non
  | some (x, y), h =>
    obtain ⟨t, e, z⟩ := h
    subst e
    exact dp2 z

/-! ### rows of intervals -/
inductive Ivs (H : Hp) : List V → List (Int × Int) → Prop
  | nil : Ivs H [] []
  | cons {a : Addr} {x y : Int} {vs : List V} {ps : List (Int × Int)} : H a = some (.tup [.int x, .int y]) → Ivs H vs ps → Ivs H (.ref a :: vs) ((x, y) :: ps)
theorem Ivs.length {H : Hp} {vs : List V} {ps : List (Int × Int)} (h : Ivs H vs ps) : vs.length = ps.length := by
  induction h with
  | nil => rfl
  | cons _ _ ih => rw [List.length_cons, List.length_cons, ih]
theorem Ivs.same {H H' : Hp} (s : Same H H') {vs : List V} {ps : List (Int × Int)} (h : Ivs H vs ps) : Ivs H' vs ps := by
  induction h with
  | nil => exact .nil
  | cons e _ ih => exact .cons (s _ _ e) ih
theorem Ivs.kp {d c : Addr} {n : Int} {H H' : Hp} (k : Kp d c H H') (dk : Dk H d c n) {vs : List V} {ps : List (Int × Int)} (h : Ivs H vs ps) : Ivs H' vs ps := by
  induction h with
  | nil => exact .nil
  | cons e _ ih => exact .cons (k.tup dk e) ih
theorem Ivs.get {H : Hp} {vs : List V} {ps : List (Int × Int)} (h : Ivs H vs ps) : ∀ {i : Nat} {v : V}, vs[i]? = some v → ∃ a x y, v = .ref a ∧ ps[i]? = some (x, y) ∧ H a = some (.tup [.int x, .int y]) := by
  induction h with
  | nil =>
    intro i v e
    simp at e
  | cons e _ ih =>
    intro i v q
    cases i with
    | zero =>
      cases q
      exact ⟨_, _, _, rfl, rfl, e⟩
    | succ i => exact ih q
theorem Ivs.snoc {H : Hp} {vs : List V} {ps : List (Int × Int)} {a : Addr} {x y : Int} (h : Ivs H vs ps) (e : H a = some (.tup [.int x, .int y])) : Ivs H (vs ++ [.ref a]) (ps ++ [(x, y)]) := by
  induction h with
  | nil => exact .cons e .nil
  | cons z _ ih => exact .cons z ih
def pairD (p : Int × Int) : PyData := .tuple [.int p.1, .int p.2]
theorem Ivs.dp {K : PySem.W.Frag} {H : Hp} {vs : List V} {ps : List (Int × Int)} (h : Ivs H vs ps) : DpAll K H vs (ps.map pairD) := by
  induction h with
  | nil => exact .nil
  | cons e _ ih => exact .cons (dp2 e) ih

/-! ### comprehensions that change nothing but make new objects -/
/-- the tuples stay -/
def Tps (H H' : Hp) : Prop := ∀ b xs, H b = some (.tup xs) → H' b = some (.tup xs)
theorem Tps.refl (H : Hp) : Tps H H := fun _ _ e => e
theorem Tps.trans {H H1 H2 : Hp} (h : Tps H H1) (h2 : Tps H1 H2) : Tps H H2 := fun b xs e => h2 b xs (h b xs e)
theorem Tps.same {H H1 : Hp} (h : Same H H1) : Tps H H1 := fun b xs e => h b _ e
theorem Kp.tps {d c : Addr} {n : Int} {H H' : Hp} (k : Kp d c H H') (dk : Dk H d c n) : Tps H H' := fun _ _ e => k.tup dk e
theorem Tps.lst {H : Hp} {D : Addr} {ws vs : List V} (e : H D = some (.lst ws)) : Tps H (upd H D (.lst vs)) := fun b xs h => by
  rw [upd_ne (ne_of h e (fun z => by cases z))]
  exact h
theorem same_off {H0 H : Hp} {D : Addr} {o : HO} (n : H0 D = none) (s : Same H0 H) : Same H0 (upd H D o) := fun b u e => by
  rw [upd_ne (ne_of_none e n)]
  exact s b u e
theorem few_line {n : Nat} (h : n < 1000) : n < sizeLine := by
  rw [show sizeLine = 16777216 by decide]
  omega
theorem lcL {K : PySem.W.Frag} {a : Addr} {xs : List V} {g : TG} {tt : TT} {te : TE} {vs : List Nat} {σ : L2.St} {H1 : Hp} {D : Addr} {Qd : Hp → Prop} (R : Nat → Hp → List V → Prop) (nD : H1 D = none) (hl : ∀ H', Same H1 H' → SqL K H' a xs) (few : xs.length < 1000)
    (mono : ∀ i H' H'' ws, Tps H' H'' → R i H' ws → R i H'' ws) (len : ∀ i H' ws, R i H' ws → ws.length ≤ i) (r0 : ∀ H', R 0 H' [])
    (hs : ∀ i x H' (N : Hp → Prop) acc, xs[i]? = some x → Same H1 H' → H' D = some (.lst acc) → acc.length < sizeLine → R i H' acc → (∀ H'', Same H' H'' → R (i + 1) H'' acc → N H'') → (∀ H'' y, Same H' H'' → R (i + 1) H'' (acc ++ [y]) → ∃ acc', H'' D = some (.lst acc') ∧ acc'.length < sizeLine ∧ N (upd H'' D (.lst (acc' ++ [y])))) →
      g x (wipe σ vs) H' fun σ2 H2 => wipe σ2 vs = wipe σ vs ∧ tt σ2 H2 fun b H3 => if b = true then te σ2 H3 fun y H4 => ∃ acc, H4 D = some (.lst acc) ∧ acc.length < sizeLine ∧ N (upd H4 D (.lst (acc ++ [y]))) else N H3)
    (hd : ∀ H' ws, Same H1 H' → H' D = some (.lst ws) → R xs.length H' ws → Qd H') :
    ∃ W : Nat → Nat → Hp → Prop, (∃ m, W 0 m (upd H1 D (.lst []))) ∧ ∀ i m H, W i m H →
      ((Itl K a).stop i H ∧ Qd H) ∨ ((Itl K a).go i H ∧ ∃ Nx : Hp → Prop, (∀ H', Nx H' → ∃ m', m' < m ∧ W (i + 1) m' H') ∧ ∀ x H', (Itl K a).yld i H x H' → g x (wipe σ vs) H' fun σ2 H2 => wipe σ2 vs = wipe σ vs ∧ tt σ2 H2 fun b H3 =>
        if b = true then te σ2 H3 fun y H4 => ∃ acc, H4 D = some (.lst acc) ∧ acc.length < sizeLine ∧ Nx (upd H4 D (.lst (acc ++ [y]))) else Nx H3) := by
  refine lc_list (K := K) (a := a) (xs := xs) (fun i H' => Same H1 H' ∧ ∃ ws, H' D = some (.lst ws) ∧ R i H' ws) ⟨same_new nD, [], upd_same, r0 _⟩ (fun i H' _ h => hl H' h.1) ?_ ?_
  · rintro i x H' hi ⟨sm, ws, eD, r⟩
    have lt := (List.getElem?_eq_some_iff.mp hi).1
    have lw := len i H' ws r
    have sz : ws.length < sizeLine := few_line (by omega)
    refine hs i x H' _ ws hi sm eD sz r (fun H'' s r2 => ⟨sm.trans s, ws, s _ _ eD, r2⟩) (fun H'' y s r2 => ?_)
    exact ⟨ws, s _ _ eD, sz, same_off nD (sm.trans s), _, upd_same, mono _ _ _ _ (Tps.lst (s _ _ eD)) r2⟩
  · rintro H' ⟨sm, ws, eD, r⟩
    exact hd H' ws sm eD r
theorem lcT {K : PySem.W.Frag} {a : Addr} {xs : List V} {g : TG} {tt : TT} {te : TE} {vs : List Nat} {σ : L2.St} {H1 : Hp} {D : Addr} {Qd : Hp → Prop} (R : Nat → Hp → List V → Prop) (nD : H1 D = none) (hl : ∀ H', Same H1 H' → SqT K H' a xs) (few : xs.length < 1000)
    (mono : ∀ i H' H'' ws, Tps H' H'' → R i H' ws → R i H'' ws) (len : ∀ i H' ws, R i H' ws → ws.length ≤ i) (r0 : ∀ H', R 0 H' [])
    (hs : ∀ i x H' (N : Hp → Prop) acc, xs[i]? = some x → Same H1 H' → H' D = some (.lst acc) → acc.length < sizeLine → R i H' acc → (∀ H'', Same H' H'' → R (i + 1) H'' acc → N H'') → (∀ H'' y, Same H' H'' → R (i + 1) H'' (acc ++ [y]) → ∃ acc', H'' D = some (.lst acc') ∧ acc'.length < sizeLine ∧ N (upd H'' D (.lst (acc' ++ [y])))) →
      g x (wipe σ vs) H' fun σ2 H2 => wipe σ2 vs = wipe σ vs ∧ tt σ2 H2 fun b H3 => if b = true then te σ2 H3 fun y H4 => ∃ acc, H4 D = some (.lst acc) ∧ acc.length < sizeLine ∧ N (upd H4 D (.lst (acc ++ [y]))) else N H3)
    (hd : ∀ H' ws, Same H1 H' → H' D = some (.lst ws) → R xs.length H' ws → Qd H') :
    ∃ W : Nat → Nat → Hp → Prop, (∃ m, W 0 m (upd H1 D (.lst []))) ∧ ∀ i m H, W i m H →
      ((Itt K a).stop i H ∧ Qd H) ∨ ((Itt K a).go i H ∧ ∃ Nx : Hp → Prop, (∀ H', Nx H' → ∃ m', m' < m ∧ W (i + 1) m' H') ∧ ∀ x H', (Itt K a).yld i H x H' → g x (wipe σ vs) H' fun σ2 H2 => wipe σ2 vs = wipe σ vs ∧ tt σ2 H2 fun b H3 =>
        if b = true then te σ2 H3 fun y H4 => ∃ acc, H4 D = some (.lst acc) ∧ acc.length < sizeLine ∧ Nx (upd H4 D (.lst (acc ++ [y]))) else Nx H3) := by
  refine lc_tup (K := K) (a := a) (xs := xs) (fun i H' => Same H1 H' ∧ ∃ ws, H' D = some (.lst ws) ∧ R i H' ws) ⟨same_new nD, [], upd_same, r0 _⟩ (fun i H' _ h => hl H' h.1) ?_ ?_
  · rintro i x H' hi ⟨sm, ws, eD, r⟩
    have lt := (List.getElem?_eq_some_iff.mp hi).1
    have lw := len i H' ws r
    have sz : ws.length < sizeLine := few_line (by omega)
    refine hs i x H' _ ws hi sm eD sz r (fun H'' s r2 => ⟨sm.trans s, ws, s _ _ eD, r2⟩) (fun H'' y s r2 => ?_)
    exact ⟨ws, s _ _ eD, sz, same_off nD (sm.trans s), _, upd_same, mono _ _ _ _ (Tps.lst (s _ _ eD)) r2⟩
  · rintro H' ⟨sm, ws, eD, r⟩
    exact hd H' ws sm eD r
theorem map_filter_len {α : Type} {ns : List α} {p : α → Bool} {f : α → V} (i : Nat) : (((ns.take i).filter p).map f).length ≤ i := by
  rw [List.length_map]
  exact Nat.le_trans (List.length_filter_le _ _) (List.length_take_le _ _)
theorem take_filter {α : Type} {ns : List α} {i : Nat} {n : α} {p : α → Bool} (h : ns[i]? = some n) : (ns.take (i + 1)).filter p = (ns.take i).filter p ++ (if p n = true then [n] else []) := by
  rw [List.take_add_one, h, List.filter_append]
  congr 1
  show List.filter p [n] = _
  rw [List.filter_cons]
  split <;> rfl
theorem nodup_le {α : Type} [DecidableEq α] : ∀ {l m : List α}, l.Nodup → (∀ x ∈ l, x ∈ m) → l.length ≤ m.length
  | [], _, _, _ => Nat.zero_le _
  | a :: l, m, h, hs => by
    have hm := hs a List.mem_cons_self
    have h' := List.nodup_cons.mp h
    have ih := nodup_le (l := l) (m := m.erase a) h'.2 (fun x hx => (List.mem_erase_of_ne (fun e => h'.1 (by rw [← e]; exact hx))).mpr (hs x (List.mem_cons_of_mem _ hx)))
    rw [List.length_erase_of_mem hm] at ih
    have := List.length_pos_of_mem hm
    rw [List.length_cons]
    omega

theorem Ivs.tps {H H' : Hp} (s : Tps H H') {vs : List V} {ps : List (Int × Int)} (h : Ivs H vs ps) : Ivs H' vs ps := by
  induction h with
  | nil => exact .nil
  | cons e _ ih => exact .cons (s _ _ e) ih
theorem Ivs.append {H : Hp} {vs us : List V} {ps qs : List (Int × Int)} (h : Ivs H vs ps) (h2 : Ivs H us qs) : Ivs H (vs ++ us) (ps ++ qs) := by
  induction h with
  | nil => exact h2
  | cons e _ ih => exact .cons e ih
theorem Ivs.isEmpty {H : Hp} {vs : List V} {ps : List (Int × Int)} (h : Ivs H vs ps) : vs.isEmpty = ps.isEmpty := by
  cases h <;> rfl

/-! ### sorted(set(pairs)) -/
def ltP (a b : Int × Int) : Prop := a.1 < b.1 ∨ (a.1 = b.1 ∧ a.2 < b.2)
def prL (q : Int × Int) : List Int := [q.1, q.2]
theorem prL_inj {a b : Int × Int} (h : prL a = prL b) : a = b := by
  unfold prL at h
  cases a
  cases b
  simp at h
  rw [h.1, h.2]
theorem mem_prL {q : Int × Int} {ps : List (Int × Int)} : prL q ∈ ps.map prL ↔ q ∈ ps := by
  rw [List.mem_map]
  exact ⟨fun ⟨a, ha, e⟩ => prL_inj e ▸ ha, fun h => ⟨q, h, rfl⟩⟩
theorem Ivs.keys {H : Hp} {us : List V} {ps : List (Int × Int)} (h : Ivs H us ps) : ∃ ks : List (Addr × List Int), us = ks.map (fun p => V.ref p.1) ∧ ks.map (·.2) = ps.map prL ∧ ∀ p ∈ ks, ∃ x y : Int, p.2 = [x, y] ∧ H p.1 = some (.tup [.int x, .int y]) := by
  induction h with
  | nil => exact ⟨[], rfl, rfl, fun p hp => nomatch hp⟩
  | cons e _ ih =>
    obtain ⟨ks, e1, e2, e3⟩ := ih
    refine ⟨(_, [_, _]) :: ks, by rw [List.map_cons, e1], by rw [List.map_cons, List.map_cons, e2]; rfl, fun p hp => ?_⟩
    rcases List.mem_cons.mp hp with rfl | hp
    · exact ⟨_, _, rfl, e⟩
    · exact e3 p hp
theorem Ivs.ofKeys {H : Hp} : ∀ {L : List (Addr × List Int)}, (∀ p ∈ L, ∃ x y : Int, p.2 = [x, y] ∧ H p.1 = some (.tup [.int x, .int y])) → ∃ ps, Ivs H (L.map fun p => V.ref p.1) ps ∧ L.map (·.2) = ps.map prL
  | [], _ => ⟨[], .nil, rfl⟩
  | p :: L, h => by
    obtain ⟨x, y, e, e1⟩ := h p List.mem_cons_self
    obtain ⟨ps, i, e2⟩ := Ivs.ofKeys (L := L) fun q hq => h q (List.mem_cons_of_mem _ hq)
    exact ⟨(x, y) :: ps, .cons e1 i, by rw [List.map_cons, List.map_cons, e2, e]; rfl⟩
theorem Ivs.tpsMem {H : Hp} {us : List V} {ps : List (Int × Int)} (h : Ivs H us ps) {q : Int × Int} (hq : q ∈ ps) : ∃ a, V.ref a ∈ us ∧ H a = some (.tup [.int q.1, .int q.2]) := by
  induction h with
  | nil => cases hq
  | cons e _ ih =>
    rcases List.mem_cons.mp hq with rfl | hq
    · exact ⟨_, List.mem_cons_self, e⟩
    · obtain ⟨a, h1, h2⟩ := ih hq
      exact ⟨a, List.mem_cons_of_mem _ h1, h2⟩
theorem sorted_keys {K : PySem.W.Frag} {P : Program} {w : World} {H : Hp} {ps : List (Int × Int)} {Q : VK} {ks L : List (Addr × List Int)} {a : Addr} (e2 : ks.map (·.2) = ps.map prL) (e3 : ∀ p ∈ ks, ∃ x y : Int, p.2 = [x, y] ∧ H p.1 = some (.tup [.int x, .int y])) (na : H a = none) (h1 : ∀ p ∈ L, p ∈ ks) (h2 : ∀ p ∈ ks, p.2 ∈ L.map (·.2)) (bd : ∀ q ∈ ps, (0 ≤ q.1 ∧ q.1 < 10 ^ 13) ∧ 0 ≤ q.2 ∧ q.2 < 10 ^ 13)
    (fin : ∀ H' p us' ps', Same H H' → H p = none → H' p = some (.lst us') → Ivs H' us' ps' → ps'.Pairwise ltP → (∀ q, q ∈ ps' ↔ q ∈ ps) → Q (.ref p) H') :
    rSortedT K P w [.ref a] (upd H a (SetTO P w a L)) Q := by
  have s1 : Same H (upd H a (SetTO P w a L)) := same_new na
  refine ⟨a, L, 2, 10 ^ 13, rfl, upd_same, fun p hp => ?_, by decide, fun p hp => ?_, fun L' p pm nd fw pw np => ?_⟩
  · obtain ⟨x, y, e, e1⟩ := e3 p (h1 p hp)
    rw [e]
    exact SqT.of (s1 _ _ e1)
  · have m : p.2 ∈ ks.map (·.2) := List.mem_map.mpr ⟨p, h1 p hp, rfl⟩
    rw [e2] at m
    obtain ⟨q, hq, e⟩ := List.mem_map.mp m
    have b := bd q hq
    rw [← e]
    refine ⟨rfl, fun m hm => ?_⟩
    unfold prL at hm
    rcases List.mem_cons.mp hm with rfl | hm
    · exact b.1
    · rw [List.mem_singleton.mp hm]
      exact b.2
  · have s2 : Same (upd H a (SetTO P w a L)) (upd (upd H a (SetTO P w a L)) p (.lst (L'.map fun q => V.ref q.1))) := same_new np
    obtain ⟨ps', i, e4⟩ := Ivs.ofKeys (H := H) (L := L') fun q hq => e3 q (h1 q (pm.mem_iff.mp hq))
    have mem : ∀ q, q ∈ ps' ↔ q ∈ ps := fun q => by
      rw [← mem_prL, ← e4, ← mem_prL (ps := ps), ← e2, (pm.map (·.2)).mem_iff]
      constructor
      · intro h
        obtain ⟨p, hp, e⟩ := List.mem_map.mp h
        exact List.mem_map.mpr ⟨p, h1 p hp, e⟩
      · intro h
        obtain ⟨p, hp, e⟩ := List.mem_map.mp h
        rw [← e]
        exact h2 p hp
    refine fin _ p _ ps' (s1.trans s2) (s1.free np) upd_same (i.same (s1.trans s2)) ?_ mem
    have pw2 : (L'.map (·.2)).Pairwise (fun q r => TS.code (10 ^ 13) q ≤ TS.code (10 ^ 13) r) := List.pairwise_map.mpr pw
    have both := pw2.and nd
    rw [e4] at both
    refine (List.pairwise_map.mp both).imp_of_mem fun {x y} hx hy h => ?_
    have bx := bd x ((mem x).mp hx)
    have bY := bd y ((mem y).mp hy)
    have tb : ∀ {z : Int × Int}, ((0 ≤ z.1 ∧ z.1 < 10 ^ 13) ∧ 0 ≤ z.2 ∧ z.2 < 10 ^ 13) → TS.Bd (10 ^ 13) [z.1, z.2] := fun b m hm => by
      rcases List.mem_cons.mp hm with rfl | hm
      · exact b.1
      · rw [List.mem_singleton.mp hm]
        exact b.2
    rcases code_lex (tb bx) (tb bY) h.1 with c | ⟨c1, c2⟩
    · exact .inl c
    · refine .inr ⟨c1, ?_⟩
      rcases Int.lt_or_eq_of_le c2 with z | z
      · exact z
      · exact absurd (show prL x = prL y by unfold prL; rw [c1, z]) h.2
theorem sorted_set_pairs {K : PySem.W.Frag} {P : Program} {w : World} {H : Hp} {l : Addr} {us : List V} {ps : List (Int × Int)} {Q : VK} (hl : SqL K H l us) (iv : Ivs H us ps) (few : ps.length < 64) (bd : ∀ q ∈ ps, (0 ≤ q.1 ∧ q.1 < 10 ^ 13) ∧ 0 ≤ q.2 ∧ q.2 < 10 ^ 13)
    (fin : ∀ H' p us' ps', Same H H' → H p = none → H' p = some (.lst us') → Ivs H' us' ps' → ps'.Pairwise ltP → (∀ q, q ∈ ps' ↔ q ∈ ps) → Q (.ref p) H') :
    rSetOfT K P w [.ref l] H (fun x H1 => rSortedT K P w [x] H1 Q) := by
  obtain ⟨ks, rfl, e2, e3⟩ := iv.keys
  have lk : ks.length = ps.length := by
    have z := congrArg List.length e2
    rw [List.length_map, List.length_map] at z
    exact z
  refine ⟨l, ks, rfl, hl, fun p hp => ?_, by omega, fun a L na h1 h2 => ?_⟩
  · obtain ⟨x, y, e, e1⟩ := e3 p hp
    rw [e]
    exact SqT.of e1
  exact sorted_keys e2 e3 na h1 h2 bd fin

/-! ### a comprehension over two tuples -/
theorem lcZ {K : PySem.W.Frag} {a b : Addr} {xs ys : List V} {g : TG} {tt : TT} {te : TE} {vs : List Nat} {σ : L2.St} {H1 : Hp} {D : Addr} {Qd : Hp → Prop} (R : Nat → Hp → List V → Prop) (nD : H1 D = none) (ha : ∀ H', Same H1 H' → SqT K H' a xs) (hb : ∀ H', Same H1 H' → SqT K H' b ys) (few : xs.length < 1000)
    (mono : ∀ i H' H'' ws, Tps H' H'' → R i H' ws → R i H'' ws) (len : ∀ i H' ws, R i H' ws → ws.length ≤ i) (r0 : ∀ H', R 0 H' [])
    (hs : ∀ i x y T H' (N : Hp → Prop) acc, xs[i]? = some x → ys[i]? = some y → Same H1 H' → H' T = some (.tup [x, y]) → H' D = some (.lst acc) → acc.length < sizeLine → R i H' acc → (∀ H'', Same H' H'' → R (i + 1) H'' acc → N H'') → (∀ H'' y, Same H' H'' → R (i + 1) H'' (acc ++ [y]) → ∃ acc', H'' D = some (.lst acc') ∧ acc'.length < sizeLine ∧ N (upd H'' D (.lst (acc' ++ [y])))) →
      g (.ref T) (wipe σ vs) H' fun σ2 H2 => wipe σ2 vs = wipe σ vs ∧ tt σ2 H2 fun b H3 => if b = true then te σ2 H3 fun y H4 => ∃ acc, H4 D = some (.lst acc) ∧ acc.length < sizeLine ∧ N (upd H4 D (.lst (acc ++ [y]))) else N H3)
    (hd : ∀ i H' ws, i ≤ xs.length → Same H1 H' → H' D = some (.lst ws) → R i H' ws → Qd H') :
    ∃ W : Nat → Nat → Hp → Prop, (∃ m, W 0 m (upd H1 D (.lst []))) ∧ ∀ i m H, W i m H →
      ((RZ.ItzT K a b).stop i H ∧ Qd H) ∨ ((RZ.ItzT K a b).go i H ∧ ∃ Nx : Hp → Prop, (∀ H', Nx H' → ∃ m', m' < m ∧ W (i + 1) m' H') ∧ ∀ x H', (RZ.ItzT K a b).yld i H x H' → g x (wipe σ vs) H' fun σ2 H2 => wipe σ2 vs = wipe σ vs ∧ tt σ2 H2 fun b H3 =>
        if b = true then te σ2 H3 fun y H4 => ∃ acc, H4 D = some (.lst acc) ∧ acc.length < sizeLine ∧ Nx (upd H4 D (.lst (acc ++ [y]))) else Nx H3) := by
  refine ⟨fun i m H => m = xs.length - i ∧ i ≤ xs.length ∧ Same H1 H ∧ ∃ ws, H D = some (.lst ws) ∧ R i H ws, ⟨_, rfl, Nat.zero_le _, same_new nD, [], upd_same, r0 _⟩, ?_⟩
  rintro i m H ⟨rfl, hi, sm, ws, eD, r⟩
  have q1 := ha H sm
  have q2 := hb H sm
  by_cases c : i < xs.length ∧ i < ys.length
  · refine .inr ⟨⟨xs, ys, xs[i]'c.1, ys[i]'c.2, q1, q2, List.getElem?_eq_getElem c.1, List.getElem?_eq_getElem c.2⟩, (fun H => i + 1 ≤ xs.length ∧ Same H1 H ∧ ∃ ws, H D = some (.lst ws) ∧ R (i + 1) H ws), fun H' p' => ⟨xs.length - (i + 1), by omega, rfl, p'⟩, fun v H' hy => ?_⟩
    obtain ⟨T, x, y, rfl, nT, rfl, f1, f2⟩ := hy
    have sT := same_new (o := .tup [x, y]) nT
    have lw := len i H ws r
    have sz : ws.length < sizeLine := few_line (by omega)
    refine hs i x y T _ _ ws (f1 xs q1) (f2 ys q2) (sm.trans sT) upd_same (sT _ _ eD) sz (mono _ _ _ _ (Tps.same sT) r) (fun H'' s r2 => ⟨c.1, sm.trans (sT.trans s), ws, s _ _ (sT _ _ eD), r2⟩) (fun H'' y s r2 => ?_)
    exact ⟨ws, s _ _ (sT _ _ eD), sz, c.1, same_off nD (sm.trans (sT.trans s)), _, upd_same, mono _ _ _ _ (Tps.lst (s _ _ (sT _ _ eD))) r2⟩
  · exact .inl ⟨⟨xs, ys, q1, q2, by omega⟩, hd i H ws hi sm eD r⟩
/-! ### the law's comparison: equal values are the same -/
def sp_same0 : Sp := fun _ _ _ _ => False
theorem ok_same0 {f : Addr} {fd : FuncData} {a b : Str} : FnOk P w K mg base CX0 0 f fd [a, b] sp_same0 := ⟨fun _ _ _ _ h => h.elim, fun _ _ _ _ _ _ _ _ _ _ _ _ _ h => h.elim⟩
def sp_same1 : Sp := fun vs H Q _ => ∃ i : Int, vs = [.int i, .int i] ∧ Q (.bl true) H
theorem ok_same1 (T : Tx K mg f_is_number f_is_position f_is_tuple_of f_is_interval f_require_positions f_shift_targets f_join_targets f_law_deck f_law_draw f_law_same f_law_small f_law_moved f_law_due f_law d_is_number d_is_position d_is_tuple_of d_is_interval d_require_positions d_shift_targets d_join_targets d_law_deck d_law_draw d_law_same d_law_small d_law_moved d_law_due d_law t_LAST_POSITION t_MAX_TARGETS) : FnOk P w K mg base CX0 1 f_law_same d_law_same ["_law_found", "_law_due_here"] sp_same1 := by
  have ok_law_same : Tx K mg f_is_number f_is_position f_is_tuple_of f_is_interval f_require_positions f_shift_targets f_join_targets f_law_deck f_law_draw f_law_same f_law_small f_law_moved f_law_due f_law d_is_number d_is_position d_is_tuple_of d_is_interval d_require_positions d_shift_targets d_join_targets d_law_deck d_law_draw d_law_same d_law_small d_law_moved d_law_due d_law t_LAST_POSITION t_MAX_TARGETS → FnOk P w K mg base CX0 0 f_law_same d_law_same ["_law_found", "_law_due_here"] sp_same0 := fun _ => ok_same0
  refine T.F_law_same.ok sc_law_same (fun vs H Q E h => ?_) (fun cdv A outer s H vs Q E hr h => ?_)
  · obtain ⟨i, rfl, _⟩ := h
    rfl
  · obtain ⟨i, rfl, q⟩ := h
    refine ⟨_, (pss_cons (ps_if (pt_val (pe_callB call_isi (by rfl) T.z_isinstance (by decide +kernel) (pa_cons (pv 1) (pa_cons (pe_bltn (v := .ty "tuple") (u := .type "tuple") (by rfl) T.z_tuple (by decide +kernel) rfl) pa_nil))))
      (pss_cons (ps_if (PW.pt (pw_or (pt_not (pt_val (pe_callB call_isi (by rfl) T.z_isinstance (by decide +kernel) (pa_cons (pv 0) (pa_cons (pe_bltn (v := .ty "tuple") (u := .type "tuple") (by rfl) T.z_tuple (by decide +kernel) rfl) pa_nil))))) (pw_or1 (pt_cmpR op_ne (pe_callB call_len_seq (by rfl) T.z_len PySem.boot_len (pa_cons (pv 0) pa_nil)) (pe_callB call_len_seq (by rfl) T.z_len PySem.boot_len (pa_cons (pv 1) pa_nil)) (nomark _)))))
      (pss_one (ps_ret pe_bl))
      pss_nil)
      (pss_one (ps_ret (pe_cmpR (op_eqL hr.units0) (pe_lc (own := [("_law_one", 2), ("_law_other", 3)]) (g := (gTup K 2 (gCons (gName 2) (gCons (gName 3) gNil)))) (by rfl) sc_law_same.nd (RZ.pi_zipA (by rfl) T.z_zip (pa_cons (pv 0) (pa_cons (pv 1) pa_nil))) (blkOk_by (own := [("_law_one", 2), ("_law_other", 3)]) (N := N_law_same) (sc := defScope s_law_same) (by decide +kernel)) (fun _ _ _ _ _ => (pg_tup rfl (pgs_cons (pg_name (i := 2) sc_law_same.nd rfl (Or.inl rfl)) (pgs_cons (pg_name (i := 3) sc_law_same.nd rfl (Or.inl rfl)) pgs_nil)))) (fun _ _ _ _ _ => pts_one (pt_not (pt_val (pe_call (ok_law_same T) (hr.mono (by decide)) (by rfl) T.g_law_same T.F_law_same.kp T.b_law_same .nil pass0 (pa_cons (pv 2) (pa_cons (pv 3) pa_nil)))))) (fun _ _ _ _ _ => pe_int)) (pe_lst pa_nil) (nomark _)))))
      pss_nil)
      (pss_cons (ps_if (pt_cmpR op_isN (pv 1) pe_non (nomark _))
      (pss_one (ps_ret (pe_cmpR op_isN (pv 0) pe_non (nomark _))))
      pss_nil)
      (pss_cons (ps_if (pt_val (pe_callB call_isi (by rfl) T.z_isinstance (by decide +kernel) (pa_cons (pv 1) (pa_cons (pe_bltn (v := .ty "str") (u := .type "str") (by rfl) T.z_str (by decide +kernel) rfl) pa_nil))))
      (pss_one (ps_ret (pe_and (pe_callB call_isi (by rfl) T.z_isinstance (by decide +kernel) (pa_cons (pv 0) (pa_cons (pe_bltn (v := .ty "str") (u := .type "str") (by rfl) T.z_str (by decide +kernel) rfl) pa_nil))) (pe_one (pe_cmpR op_eq (pv 0) (pv 1) (nomark _))))))
      pss_nil)
      (pss_one (ps_ret (pe_and (pe_callB call_isi (by rfl) T.z_isinstance (by decide +kernel) (pa_cons (pv 0) (pa_cons (pe_bltn (v := .ty "int") (u := .type "int") (by rfl) T.z_int (by decide +kernel) rfl) pa_nil))) (pe_and (pe_cmpR op_eq (pe_callB call_isi (by rfl) T.z_isinstance (by decide +kernel) (pa_cons (pv 0) (pa_cons (pe_bltn (v := .ty "bool") (u := .type "bool") (by rfl) T.z_bool (by decide +kernel) rfl) pa_nil))) (pe_callB call_isi (by rfl) T.z_isinstance (by decide +kernel) (pa_cons (pv 1) (pa_cons (pe_bltn (v := .ty "bool") (u := .type "bool") (by rfl) T.z_bool (by decide +kernel) rfl) pa_nil))) (nomark _)) (pe_one (pe_cmpR op_eq (pv 0) (pv 1) (nomark _)))))))))), ?_⟩
    refine ⟨.int i, rfl, .int i, .ty "tuple", _, _, _, rfl, .ty "tuple", .base (.int i), kit_ty (a := "int") (b := "tuple") (r := false) (by decide +kernel), _, rfl, iteF ?_⟩
    refine ⟨.int i, rfl, rfl, _, rfl, iteF ?_⟩
    refine ⟨.int i, rfl, .int i, .ty "str", _, _, _, rfl, .ty "str", .base (.int i), kit_ty (a := "int") (b := "str") (r := false) (by decide +kernel), _, rfl, iteF ?_⟩
    refine ⟨.int i, rfl, .int i, .ty "int", _, _, _, rfl, .ty "int", .base (.int i), kit_ty (a := "int") (b := "int") (r := true) (by decide +kernel), _, rfl, iteT ?_⟩
    refine ⟨.int i, rfl, .int i, .ty "bool", _, _, _, rfl, .ty "bool", .base (.int i), kit_ty (a := "int") (b := "bool") (r := false) (by decide +kernel), .int i, rfl, .int i, .ty "bool", _, _, _, rfl, .ty "bool", .base (.int i), kit_ty (a := "int") (b := "bool") (r := false) (by decide +kernel), rfl, _, rfl, iteT ?_⟩
    refine ⟨.int i, rfl, .int i, rfl, rfl, ?_⟩
    rw [decide_eq_true rfl]
    exact q
def sp_same2 : Sp := fun vs H Q _ => ∃ (a b : Addr) (x y : Int), vs = [.ref a, .ref b] ∧ H a = some (.tup [.int x, .int y]) ∧ H b = some (.tup [.int x, .int y]) ∧ ∀ H', Same H H' → Q (.bl true) H'
theorem ok_same2 (T : Tx K mg f_is_number f_is_position f_is_tuple_of f_is_interval f_require_positions f_shift_targets f_join_targets f_law_deck f_law_draw f_law_same f_law_small f_law_moved f_law_due f_law d_is_number d_is_position d_is_tuple_of d_is_interval d_require_positions d_shift_targets d_join_targets d_law_deck d_law_draw d_law_same d_law_small d_law_moved d_law_due d_law t_LAST_POSITION t_MAX_TARGETS) : FnOk P w K mg base CX0 2 f_law_same d_law_same ["_law_found", "_law_due_here"] sp_same2 := by
  have ok_law_same := fun T : Tx K mg f_is_number f_is_position f_is_tuple_of f_is_interval f_require_positions f_shift_targets f_join_targets f_law_deck f_law_draw f_law_same f_law_small f_law_moved f_law_due f_law d_is_number d_is_position d_is_tuple_of d_is_interval d_require_positions d_shift_targets d_join_targets d_law_deck d_law_draw d_law_same d_law_small d_law_moved d_law_due d_law t_LAST_POSITION t_MAX_TARGETS => ok_same1 (P := P) (w := w) (base := base) T
  refine T.F_law_same.ok sc_law_same (fun vs H Q E h => ?_) (fun cdv A outer s H vs Q E hr h => ?_)
  · obtain ⟨a, b, x, y, rfl, _⟩ := h
    rfl
  · obtain ⟨a, b, x, y, rfl, ha, hb, q⟩ := h
    refine ⟨_, (pss_cons (ps_if (pt_val (pe_callB call_isi (by rfl) T.z_isinstance (by decide +kernel) (pa_cons (pv 1) (pa_cons (pe_bltn (v := .ty "tuple") (u := .type "tuple") (by rfl) T.z_tuple (by decide +kernel) rfl) pa_nil))))
      (pss_cons (ps_if (PW.pt (pw_or (pt_not (pt_val (pe_callB call_isi (by rfl) T.z_isinstance (by decide +kernel) (pa_cons (pv 0) (pa_cons (pe_bltn (v := .ty "tuple") (u := .type "tuple") (by rfl) T.z_tuple (by decide +kernel) rfl) pa_nil))))) (pw_or1 (pt_cmpR op_ne (pe_callB call_len_seq (by rfl) T.z_len PySem.boot_len (pa_cons (pv 0) pa_nil)) (pe_callB call_len_seq (by rfl) T.z_len PySem.boot_len (pa_cons (pv 1) pa_nil)) (nomark _)))))
      (pss_one (ps_ret pe_bl))
      pss_nil)
      (pss_one (ps_ret (pe_cmpR (op_eqL hr.units0) (pe_lc (own := [("_law_one", 2), ("_law_other", 3)]) (g := (gTup K 2 (gCons (gName 2) (gCons (gName 3) gNil)))) (by rfl) sc_law_same.nd (RZ.pi_zipA (by rfl) T.z_zip (pa_cons (pv 0) (pa_cons (pv 1) pa_nil))) (blkOk_by (own := [("_law_one", 2), ("_law_other", 3)]) (N := N_law_same) (sc := defScope s_law_same) (by decide +kernel)) (fun _ _ _ _ _ => (pg_tup rfl (pgs_cons (pg_name (i := 2) sc_law_same.nd rfl (Or.inl rfl)) (pgs_cons (pg_name (i := 3) sc_law_same.nd rfl (Or.inl rfl)) pgs_nil)))) (fun _ _ _ _ _ => pts_one (pt_not (pt_val (pe_call (ok_law_same T) (hr.mono (by decide)) (by rfl) T.g_law_same T.F_law_same.kp T.b_law_same .nil pass0 (pa_cons (pv 2) (pa_cons (pv 3) pa_nil)))))) (fun _ _ _ _ _ => pe_int)) (pe_lst pa_nil) (nomark _)))))
      pss_nil)
      (pss_cons (ps_if (pt_cmpR op_isN (pv 1) pe_non (nomark _))
      (pss_one (ps_ret (pe_cmpR op_isN (pv 0) pe_non (nomark _))))
      pss_nil)
      (pss_cons (ps_if (pt_val (pe_callB call_isi (by rfl) T.z_isinstance (by decide +kernel) (pa_cons (pv 1) (pa_cons (pe_bltn (v := .ty "str") (u := .type "str") (by rfl) T.z_str (by decide +kernel) rfl) pa_nil))))
      (pss_one (ps_ret (pe_and (pe_callB call_isi (by rfl) T.z_isinstance (by decide +kernel) (pa_cons (pv 0) (pa_cons (pe_bltn (v := .ty "str") (u := .type "str") (by rfl) T.z_str (by decide +kernel) rfl) pa_nil))) (pe_one (pe_cmpR op_eq (pv 0) (pv 1) (nomark _))))))
      pss_nil)
      (pss_one (ps_ret (pe_and (pe_callB call_isi (by rfl) T.z_isinstance (by decide +kernel) (pa_cons (pv 0) (pa_cons (pe_bltn (v := .ty "int") (u := .type "int") (by rfl) T.z_int (by decide +kernel) rfl) pa_nil))) (pe_and (pe_cmpR op_eq (pe_callB call_isi (by rfl) T.z_isinstance (by decide +kernel) (pa_cons (pv 0) (pa_cons (pe_bltn (v := .ty "bool") (u := .type "bool") (by rfl) T.z_bool (by decide +kernel) rfl) pa_nil))) (pe_callB call_isi (by rfl) T.z_isinstance (by decide +kernel) (pa_cons (pv 1) (pa_cons (pe_bltn (v := .ty "bool") (u := .type "bool") (by rfl) T.z_bool (by decide +kernel) rfl) pa_nil))) (nomark _)) (pe_one (pe_cmpR op_eq (pv 0) (pv 1) (nomark _)))))))))), ?_⟩
    refine ⟨.ref b, rfl, .ref b, .ty "tuple", _, _, _, rfl, .ty "tuple", .base (.tup hb), kit_ty (a := "tuple") (b := "tuple") (r := true) (by decide +kernel), _, rfl, iteT ?_⟩
    refine ⟨.ref a, rfl, .ref a, .ty "tuple", _, _, _, rfl, .ty "tuple", .base (.tup ha), kit_ty (a := "tuple") (b := "tuple") (r := true) (by decide +kernel), _, rfl, iteF ?_⟩
    refine ⟨.ref a, rfl, a, _, rfl, .inr (SqT.of ha), .ref b, rfl, b, _, rfl, .inr (SqT.of hb), rfl, _, rfl, iteF ?_⟩
    refine ⟨.ref a, rfl, .ref b, rfl, a, b, _, _, rfl, .inr ⟨SqT.of ha, SqT.of hb, fun D nD => ?_⟩⟩
    refine lcZ (K := K) (a := a) (b := b) (xs := [.int x, .int y]) (ys := [.int x, .int y]) (fun j H' ws => ws = []) nD (fun H' s => SqT.of (s _ _ ha)) (fun H' s => SqT.of (s _ _ hb)) (by show 2 < 1000; decide) (fun _ _ _ _ _ h => h) (fun i H' ws h => by rw [h]; exact Nat.zero_le _) (fun _ => rfl) ?_ ?_
    · rintro j u v TT H' N acc hu hv sm eT eD sz r no yes
      have euv : ∃ k : Int, u = .int k ∧ v = .int k := by
        match j, hu, hv with
        | 0, hu, hv =>
          cases hu
          cases hv
          exact ⟨x, rfl, rfl⟩
        | 1, hu, hv =>
          cases hu
          cases hv
          exact ⟨y, rfl, rfl⟩
        | j + 2, hu, _ => simp at hu
      obtain ⟨k, rfl, rfl⟩ := euv
      refine ⟨TT, _, rfl, SqT.of eT, rfl, .int k, [.int k], rfl, .int k, [], rfl, rfl, rfl, .int k, rfl, .int k, rfl, k, rfl, _, rfl, iteF ?_⟩
      exact no H' (Same.refl _) r
    · rintro j H' ws jl sm eD r
      subst r
      refine ⟨by show 0 ≤ sizeLine; decide, fun z nz => ?_⟩
      have sz := same_new (o := .lst []) nz
      exact ⟨D, z, [], rfl, rfl, SqL.of (sz _ _ eD), SqL.of upd_same, q _ (sm.trans sz)⟩
def sp_law_same : Sp := fun vs H Q _ => ∃ (a b : Addr) (us ws : List V) (ps : List (Int × Int)), vs = [.ref a, .ref b] ∧ H a = some (.tup us) ∧ H b = some (.tup ws) ∧ Ivs H us ps ∧ Ivs H ws ps ∧ ps.length < 1000 ∧ ∀ H', Same H H' → Q (.bl true) H'
theorem ok_law_same (T : Tx K mg f_is_number f_is_position f_is_tuple_of f_is_interval f_require_positions f_shift_targets f_join_targets f_law_deck f_law_draw f_law_same f_law_small f_law_moved f_law_due f_law d_is_number d_is_position d_is_tuple_of d_is_interval d_require_positions d_shift_targets d_join_targets d_law_deck d_law_draw d_law_same d_law_small d_law_moved d_law_due d_law t_LAST_POSITION t_MAX_TARGETS) : FnOk P w K mg base CX0 3 f_law_same d_law_same ["_law_found", "_law_due_here"] sp_law_same := by
  have ok_law_same := fun T : Tx K mg f_is_number f_is_position f_is_tuple_of f_is_interval f_require_positions f_shift_targets f_join_targets f_law_deck f_law_draw f_law_same f_law_small f_law_moved f_law_due f_law d_is_number d_is_position d_is_tuple_of d_is_interval d_require_positions d_shift_targets d_join_targets d_law_deck d_law_draw d_law_same d_law_small d_law_moved d_law_due d_law t_LAST_POSITION t_MAX_TARGETS => ok_same2 (P := P) (w := w) (base := base) T
  refine T.F_law_same.ok sc_law_same (fun vs H Q E h => ?_) (fun cdv A outer s H vs Q E hr h => ?_)
  · obtain ⟨a, b, us, ws, ps, rfl, _⟩ := h
    rfl
  · obtain ⟨a, b, us, ws, ps, rfl, ha, hb, iv1, iv2, few, q⟩ := h
    have l1 := iv1.length
    have l2 := iv2.length
    refine ⟨_, (pss_cons (ps_if (pt_val (pe_callB call_isi (by rfl) T.z_isinstance (by decide +kernel) (pa_cons (pv 1) (pa_cons (pe_bltn (v := .ty "tuple") (u := .type "tuple") (by rfl) T.z_tuple (by decide +kernel) rfl) pa_nil))))
      (pss_cons (ps_if (PW.pt (pw_or (pt_not (pt_val (pe_callB call_isi (by rfl) T.z_isinstance (by decide +kernel) (pa_cons (pv 0) (pa_cons (pe_bltn (v := .ty "tuple") (u := .type "tuple") (by rfl) T.z_tuple (by decide +kernel) rfl) pa_nil))))) (pw_or1 (pt_cmpR op_ne (pe_callB call_len_seq (by rfl) T.z_len PySem.boot_len (pa_cons (pv 0) pa_nil)) (pe_callB call_len_seq (by rfl) T.z_len PySem.boot_len (pa_cons (pv 1) pa_nil)) (nomark _)))))
      (pss_one (ps_ret pe_bl))
      pss_nil)
      (pss_one (ps_ret (pe_cmpR (op_eqL hr.units0) (pe_lc (own := [("_law_one", 2), ("_law_other", 3)]) (g := (gTup K 2 (gCons (gName 2) (gCons (gName 3) gNil)))) (by rfl) sc_law_same.nd (RZ.pi_zipA (by rfl) T.z_zip (pa_cons (pv 0) (pa_cons (pv 1) pa_nil))) (blkOk_by (own := [("_law_one", 2), ("_law_other", 3)]) (N := N_law_same) (sc := defScope s_law_same) (by decide +kernel)) (fun _ _ _ _ _ => (pg_tup rfl (pgs_cons (pg_name (i := 2) sc_law_same.nd rfl (Or.inl rfl)) (pgs_cons (pg_name (i := 3) sc_law_same.nd rfl (Or.inl rfl)) pgs_nil)))) (fun _ _ _ _ _ => pts_one (pt_not (pt_val (pe_call (ok_law_same T) (hr.mono (by decide)) (by rfl) T.g_law_same T.F_law_same.kp T.b_law_same .nil pass0 (pa_cons (pv 2) (pa_cons (pv 3) pa_nil)))))) (fun _ _ _ _ _ => pe_int)) (pe_lst pa_nil) (nomark _)))))
      pss_nil)
      (pss_cons (ps_if (pt_cmpR op_isN (pv 1) pe_non (nomark _))
      (pss_one (ps_ret (pe_cmpR op_isN (pv 0) pe_non (nomark _))))
      pss_nil)
      (pss_cons (ps_if (pt_val (pe_callB call_isi (by rfl) T.z_isinstance (by decide +kernel) (pa_cons (pv 1) (pa_cons (pe_bltn (v := .ty "str") (u := .type "str") (by rfl) T.z_str (by decide +kernel) rfl) pa_nil))))
      (pss_one (ps_ret (pe_and (pe_callB call_isi (by rfl) T.z_isinstance (by decide +kernel) (pa_cons (pv 0) (pa_cons (pe_bltn (v := .ty "str") (u := .type "str") (by rfl) T.z_str (by decide +kernel) rfl) pa_nil))) (pe_one (pe_cmpR op_eq (pv 0) (pv 1) (nomark _))))))
      pss_nil)
      (pss_one (ps_ret (pe_and (pe_callB call_isi (by rfl) T.z_isinstance (by decide +kernel) (pa_cons (pv 0) (pa_cons (pe_bltn (v := .ty "int") (u := .type "int") (by rfl) T.z_int (by decide +kernel) rfl) pa_nil))) (pe_and (pe_cmpR op_eq (pe_callB call_isi (by rfl) T.z_isinstance (by decide +kernel) (pa_cons (pv 0) (pa_cons (pe_bltn (v := .ty "bool") (u := .type "bool") (by rfl) T.z_bool (by decide +kernel) rfl) pa_nil))) (pe_callB call_isi (by rfl) T.z_isinstance (by decide +kernel) (pa_cons (pv 1) (pa_cons (pe_bltn (v := .ty "bool") (u := .type "bool") (by rfl) T.z_bool (by decide +kernel) rfl) pa_nil))) (nomark _)) (pe_one (pe_cmpR op_eq (pv 0) (pv 1) (nomark _)))))))))), ?_⟩
    refine ⟨.ref b, rfl, .ref b, .ty "tuple", _, _, _, rfl, .ty "tuple", .base (.tup hb), kit_ty (a := "tuple") (b := "tuple") (r := true) (by decide +kernel), _, rfl, iteT ?_⟩
    refine ⟨.ref a, rfl, .ref a, .ty "tuple", _, _, _, rfl, .ty "tuple", .base (.tup ha), kit_ty (a := "tuple") (b := "tuple") (r := true) (by decide +kernel), _, rfl, iteF ?_⟩
    refine ⟨.ref a, rfl, a, _, rfl, .inr (SqT.of ha), .ref b, rfl, b, _, rfl, .inr (SqT.of hb), rfl, _, rfl, ?_⟩
    rw [l1, l2, decide_eq_true rfl]
    refine iteF ?_
    refine ⟨.ref a, rfl, .ref b, rfl, a, b, _, _, rfl, .inr ⟨SqT.of ha, SqT.of hb, fun D nD => ?_⟩⟩
    refine lcZ (K := K) (a := a) (b := b) (xs := us) (ys := ws) (fun j H' ws => ws = []) nD (fun H' s => SqT.of (s _ _ ha)) (fun H' s => SqT.of (s _ _ hb)) (by omega) (fun _ _ _ _ _ h => h) (fun i H' ws h => by rw [h]; exact Nat.zero_le _) (fun _ => rfl) ?_ ?_
    · rintro j u v TT H' N acc hu hv sm eT eD sz r no yes
      obtain ⟨b1, x1, y1, rfl, ep1, hb1⟩ := iv1.get hu
      obtain ⟨b2, x2, y2, rfl, ep2, hb2⟩ := iv2.get hv
      rw [ep1] at ep2
      cases ep2
      refine ⟨TT, _, rfl, SqT.of eT, rfl, .ref b1, [.ref b2], rfl, .ref b2, [], rfl, rfl, rfl, .ref b1, rfl, .ref b2, rfl, b1, b2, x1, y1, rfl, sm _ _ hb1, sm _ _ hb2, fun H2 s2 => ⟨_, rfl, iteF ?_⟩⟩
      exact no H2 s2 r
    · rintro j H' ws jl sm eD r
      subst r
      refine ⟨by show 0 ≤ sizeLine; decide, fun z nz => ?_⟩
      have sz := same_new (o := .lst []) nz
      exact ⟨D, z, [], rfl, rfl, SqL.of (sz _ _ eD), SqL.of upd_same, q _ (sm.trans sz)⟩
/-! ### drawn targets, moved targets -/
structure Sml (span : Int) (ps : List (Int × Int)) : Prop where
  asc : ps.Pairwise ltP
  ok : ∀ q ∈ ps, (0 ≤ q.1 ∧ q.1 ≤ q.2) ∧ q.2 < span
def sp_law_small : Sp := fun vs H Q _ => ∃ (d c : Addr) (n most span : Int), vs = [.ref d, .int most, .int span] ∧ Dk H d c n ∧ 0 ≤ n ∧ n < 999000 ∧ 0 ≤ most ∧ most ≤ 30 ∧ 1 ≤ span ∧ span ≤ 100 ∧
  ∀ H' t us ps m, Kp d c H H' → Dk H' d c m → n ≤ m → m ≤ n + 1 + 2 * most → H' t = some (.tup us) → Ivs H' us ps → Sml span ps → (ps.length : Int) ≤ most → Q (.ref t) H'
theorem ok_law_small (T : Tx K mg f_is_number f_is_position f_is_tuple_of f_is_interval f_require_positions f_shift_targets f_join_targets f_law_deck f_law_draw f_law_same f_law_small f_law_moved f_law_due f_law d_is_number d_is_position d_is_tuple_of d_is_interval d_require_positions d_shift_targets d_join_targets d_law_deck d_law_draw d_law_same d_law_small d_law_moved d_law_due d_law t_LAST_POSITION t_MAX_TARGETS) : FnOk P w K mg base CX0 2 f_law_small d_law_small ["_law_deck_here", "_law_most", "_law_span"] sp_law_small := by
  refine T.F_law_small.ok sc_law_small (fun vs H Q E h => ?_) (fun cdv A outer s H vs Q E hr h => ?_)
  · obtain ⟨d, c, n, most, span, rfl, _⟩ := h
    rfl
  · obtain ⟨d, c, n, most, span, rfl, dk, n0, n1, m0, m1, s0, s1, q⟩ := h
    refine ⟨_, (pss_cons (ps_set (i := 3) sc_law_small.nd rfl (Or.inl rfl) (pe_lst pa_nil))
      (pss_cons (ps_for PassesOwn.never rfl (pi_range1 (by rfl) T.z_range (pa_cons (pe_call (ok_law_draw T) (hr.mono (by decide)) (by rfl) T.g_law_draw T.F_law_draw.kp T.b_law_draw .nil pass0 (pa_cons (pv 0) (pa_cons (pe_op op_add (pv 1) pe_int) pa_nil))) pa_nil)) (pg_name (i := 4) sc_law_small.nd rfl (Or.inl rfl))
      (pss_cons (ps_set (i := 5) sc_law_small.nd rfl (Or.inl rfl) (pe_call (ok_law_draw T) (hr.mono (by decide)) (by rfl) T.g_law_draw T.F_law_draw.kp T.b_law_draw .nil pass0 (pa_cons (pv 0) (pa_cons (pv 2) pa_nil))))
      (pss_one (ps_expr (pe_bm PySem.F.plainAttrs_list PySem.F.slot_list_append PySem.F.type_list_append mt_append (pv 3) (pa_cons (pe_tup (pa_cons (pv 5) (pa_cons (pe_op op_add (pv 5) (pe_call (ok_law_draw T) (hr.mono (by decide)) (by rfl) T.g_law_draw T.F_law_draw.kp T.b_law_draw .nil pass0 (pa_cons (pv 0) (pa_cons (pe_op op_sub (pv 2) (pv 5)) pa_nil)))) pa_nil))) pa_nil))))))
      (pss_one (ps_ret (pe_callTy call_tuple_of (by rfl) T.z_tuple (by decide +kernel) (pa_cons (pe_callB (cr_sortedT rfl) (by rfl) T.z_sorted (by decide +kernel) (pa_cons (pe_callTy (cr_setOfT rfl hr.units) (by rfl) T.z_set (by decide +kernel) (pa_cons (pv 3) pa_nil)) pa_nil)) pa_nil)))))), ?_⟩
    refine ⟨by show 0 ≤ sizeLine; decide, fun l nl => ?_⟩
    have offl := dk.off nl
    have sl := same_new (o := .lst []) nl
    have el := upd_same (H := H) (a := l) (o := .lst [])
    have dkl := dk.kept sl
    generalize upd H l (.lst []) = Hl at *
    refine ⟨.ref d, rfl, .int most, rfl, _, _, rfl, rfl, d, c, n, most + 1, rfl, dkl, n0, by omega, by omega, by omega, fun H1 r kp1 dk1 r0 r1 => ?_⟩
    have kpA : Kp d c H H1 := (Kp.same sl).trans kp1
    refine ⟨r, rfl, by omega, by omega, for_range (n := r.toNat) (D := ⟨_, _, fun _ _ => True, fun _ _ => True⟩) (fun i σ H' => (Kp d c H H' ∧ Dk H' d c (n + 1 + 2 * i)) ∧ (∃ ws ps, H' l = some (.lst ws) ∧ Ivs H' ws ps ∧ ps.length = i ∧ ∀ q ∈ ps, (0 ≤ q.1 ∧ q.1 ≤ q.2) ∧ q.2 < span) ∧ ∃ y4 y5, σ = [some (.ref d), some (.int most), some (.int span), some (.ref l), y4, y5])
      ⟨⟨kpA, dk1.eq (by simp)⟩, ⟨[], [], kp1.keep offl el, .nil, rfl, fun q hq => nomatch hq⟩, _, _, rfl⟩ ?_ ?_⟩
    · rintro i σ H2 hi ⟨⟨kp2, dk2⟩, ⟨ws, ps, el2, iv, pl, ok⟩, y4, y5, rfl⟩
      refine ⟨.ref d, rfl, .int span, rfl, d, c, _, span, rfl, dk2, by omega, by omega, by omega, by omega, fun H3 lo kp3 dk3 lo0 lo1 => ?_⟩
      have el3 := kp3.keep offl el2
      refine ⟨.ref l, rfl, .inl ⟨rfl, _, SqL.of el3⟩, .int lo, rfl, .int lo, rfl, .ref d, rfl, .int span, rfl, .int lo, rfl, _, _, rfl, rfl, d, c, _, span - lo, rfl, dk3, by omega, by omega, by omega, by omega, fun H4 r4 kp4 dk4 r40 r41 => ?_⟩
      refine ⟨_, _, rfl, rfl, by show 2 ≤ sizeLine; decide, fun t nt => ?_⟩
      have st := same_new (o := .tup [.int lo, .int (lo + r4)]) nt
      have et := upd_same (H := H4) (a := t) (o := .tup [.int lo, .int (lo + r4)])
      have el5 := st _ _ (kp4.keep offl el3)
      have dk5 := dk4.kept st
      have t25 : Tps H2 (upd H4 t (.tup [.int lo, .int (lo + r4)])) := (kp3.tps dk2).trans ((kp4.tps dk3).trans (Tps.same st))
      have kp25 : Kp d c H (upd H4 t (.tup [.int lo, .int (lo + r4)])) := kp2.trans (kp3.trans (kp4.trans (Kp.same st)))
      generalize upd H4 t (.tup [.int lo, .int (lo + r4)]) = H5 at *
      refine ⟨l, _, _, rfl, rfl, el5, few_line (by rw [iv.length]; omega), ⟨fun b o n1 n2 e => ?_, (dk5.upd offl).eq (by omega)⟩, ⟨_, ps ++ [(lo, lo + r4)], upd_same, ((iv.tps t25).snoc et).tps (Tps.lst el5), by rw [List.length_append, pl]; rfl, fun q hq => ?_⟩, _, _, rfl⟩
      · rw [upd_ne (ne_of_none e nl)]
        exact kp25 b o n1 n2 e
      · rcases List.mem_append.mp hq with hq | hq
        · exact ok q hq
        · rw [List.mem_singleton.mp hq]
          exact ⟨⟨lo0, by show lo ≤ lo + r4; omega⟩, by show lo + r4 < span; omega⟩
    · rintro σ H6 ⟨⟨kp6, dk6⟩, ⟨ws, ps, el6, iv, pl, ok⟩, y4, y5, rfl⟩
      refine ⟨.ref l, rfl, ?_⟩
      dsimp only [tNil]
      refine sorted_set_pairs (SqL.of el6) iv (by omega) (fun q hq => by have := ok q hq; omega) (fun H7 p us' ps' s7 np ep iv' asc mem => ?_)
      refine ⟨p, us', rfl, .inl ⟨SqL.of ep, fun t nt => ?_⟩⟩
      have s8 := same_new (o := .tup us') nt
      have nd : ps'.length ≤ ps.length := by
        have ndp : ps'.Nodup := asc.imp fun {a b} h e => by
          subst e
          rcases h with h | h <;> omega
        exact nodup_le ndp fun x hx => (mem x).mp hx
      exact q _ t us' ps' _ (kp6.trans (Kp.same (s7.trans s8))) (dk6.kept (s7.trans s8)) (by omega) (by omega) upd_same (iv'.same s8) ⟨asc, fun q hq => ok q ((mem q).mp hq)⟩ (by omega)
def mvI (b : Int) (q : Int × Int) : Int × Int := (q.1 + b, q.2 + b)
def sp_law_moved : Sp := fun vs H Q _ => ∃ (a : Addr) (b : Int) (us : List V) (ps : List (Int × Int)), vs = [.ref a, .int b] ∧ H a = some (.tup us) ∧ Ivs H us ps ∧ ps.length < 1000 ∧
  ∀ H' p ws, Same H H' → H' p = some (.tup ws) → Ivs H' ws (ps.map (mvI b)) → Q (.ref p) H'
theorem map_take_snoc {α β : Type} {ns : List α} {i : Nat} {n : α} {f : α → β} (h : ns[i]? = some n) : (ns.take (i + 1)).map f = (ns.take i).map f ++ [f n] := by
  rw [List.take_add_one, h, List.map_append]
  rfl
theorem ok_law_moved (T : Tx K mg f_is_number f_is_position f_is_tuple_of f_is_interval f_require_positions f_shift_targets f_join_targets f_law_deck f_law_draw f_law_same f_law_small f_law_moved f_law_due f_law d_is_number d_is_position d_is_tuple_of d_is_interval d_require_positions d_shift_targets d_join_targets d_law_deck d_law_draw d_law_same d_law_small d_law_moved d_law_due d_law t_LAST_POSITION t_MAX_TARGETS) : FnOk P w K mg base CX0 1 f_law_moved d_law_moved ["_law_intervals", "_law_by"] sp_law_moved := by
  refine T.F_law_moved.ok sc_law_moved (fun vs H Q E h => ?_) (fun cdv A outer s H vs Q E hr h => ?_)
  · obtain ⟨a, b, us, ps, rfl, _⟩ := h
    rfl
  · obtain ⟨a, b, us, ps, rfl, ha, iv, few, q⟩ := h
    refine ⟨_, (pss_one (ps_ret (pe_callTy call_tuple_of (by rfl) T.z_tuple (by decide +kernel) (pa_cons (pe_lc (own := [("_law_low", 2), ("_law_high", 3)]) (g := (gTup K 2 (gCons (gName 2) (gCons (gName 3) gNil)))) (tt := tYes) (by rfl) sc_law_moved.nd (pi_tup (pv 0)) (blkOk_by (own := [("_law_low", 2), ("_law_high", 3)]) (N := N_law_moved) (sc := defScope s_law_moved) (by decide +kernel)) (fun _ _ _ _ _ => (pg_tup rfl (pgs_cons (pg_name (i := 2) sc_law_moved.nd rfl (Or.inl rfl)) (pgs_cons (pg_name (i := 3) sc_law_moved.nd rfl (Or.inl rfl)) pgs_nil)))) (fun _ _ _ _ _ => pts_nil) (fun _ _ _ _ _ => (pe_tup (pa_cons (pe_op op_add (pv 2) (pv 1)) (pa_cons (pe_op op_add (pv 3) (pv 1)) pa_nil))))) pa_nil)))), ?_⟩
    refine ⟨.ref a, rfl, a, rfl, ⟨_, SqT.of ha⟩, fun D nD => ?_⟩
    refine lcT (K := K) (a := a) (xs := us) (fun j H' ws => Ivs H' ws ((ps.take j).map (mvI b)) ∧ ws.length ≤ j) nD (fun H' s => SqT.of (s _ _ ha)) (by rw [iv.length]; omega) (fun _ _ _ _ t h => ⟨h.1.tps t, h.2⟩) (fun j H' ws h => h.2) (fun _ => ⟨.nil, Nat.le_refl _⟩) ?_ ?_
    · rintro j v H' N acc hj sm eA sz ⟨r, rl⟩ no yes
      obtain ⟨bb, x, y, rfl, ep, hb⟩ := iv.get hj
      refine ⟨bb, _, rfl, SqT.of (sm _ _ hb), rfl, .int x, [.int y], rfl, .int y, [], rfl, rfl, rfl, .int x, rfl, .int b, rfl, _, _, rfl, rfl, .int y, rfl, .int b, rfl, _, _, rfl, rfl, by show 2 ≤ sizeLine; decide, fun t nt => yes _ _ (same_new nt) ⟨?_, by rw [List.length_append]; show acc.length + 1 ≤ _; omega⟩⟩
      rw [map_take_snoc ep]
      exact (r.same (same_new nt)).snoc upd_same
    · rintro H' ws sm eD ⟨r, rl⟩
      rw [iv.length, List.take_length] at r
      refine ⟨D, ws, rfl, .inl ⟨SqL.of eD, fun l nl => ?_⟩⟩
      exact q _ l ws (sm.trans (same_new nl)) upd_same (r.same (same_new nl))
theorem sm_rowT {ps : List (Int × Int)} {n : Nat} (h : ∀ p ∈ ps, p.1.natAbs < 10 ^ 30 ∧ p.2.natAbs < 10 ^ 30) (hn : ps.length ≤ n) : Sm (n * 203) 2 (.tuple (ps.map pairD)) := by
  have z := Sm.tup (n := 202) (dp := 1) (ds := ps.map pairD) (fun d hd => by
    obtain ⟨p, hp, rfl⟩ := List.mem_map.mp hd
    exact sm2 (h p hp).1 (h p hp).2)
  rw [List.length_map] at z
  exact z.mono (Nat.mul_le_mul_right _ hn) (Nat.le_refl _)
/-- a row of pairs, as one opaque value that repr shows -/
theorem row_data {K : PySem.W.Frag} {ps : List (Int × Int)} (h : ∀ p ∈ ps, p.1.natAbs < 10 ^ 30 ∧ p.2.natAbs < 10 ^ 30) (hn : ps.length ≤ 60) : ∃ dd : PyData, Sm (60 * 203) 2 dd ∧ ∀ (H : Hp) (a : Addr) (us : List V), H a = some (.tup us) → Ivs H us ps → Dp K H (.ref a) dd :=
  ⟨_, sm_rowT h hn, fun _ _ _ e iv => .tup (SqT.of e) iv.dp⟩

/-! ### sorted(list of pairs) -/
theorem Ivs.perm {H : Hp} {xs ys : List V} (pm : ys.Perm xs) : ∀ {ps : List (Int × Int)}, Ivs H xs ps → ∃ ps', Ivs H ys ps' ∧ ps'.Perm ps := by
  induction pm with
  | nil =>
    intro ps h
    exact ⟨ps, h, .refl _⟩
  | cons x _ ih =>
    intro ps h
    cases h with
    | cons e h =>
      obtain ⟨ps', h', p'⟩ := ih h
      exact ⟨_ :: ps', .cons e h', p'.cons _⟩
  | swap x y l =>
    intro ps h
    cases h with
    | cons e h =>
      cases h with
      | cons e2 h => exact ⟨_, .cons e2 (.cons e h), .swap _ _ _⟩
  | trans _ _ ih1 ih2 =>
    intro ps h
    obtain ⟨p2, h2, q2⟩ := ih2 h
    obtain ⟨p1, h1, q1⟩ := ih1 h2
    exact ⟨p1, h1, q1.trans q2⟩
theorem Ivs.pair {H : Hp} {R : V → V → Prop} {S : Int × Int → Int × Int → Prop} (rs : ∀ a b x y u v, H a = some (.tup [.int x, .int y]) → H b = some (.tup [.int u, .int v]) → R (.ref a) (.ref b) → S (x, y) (u, v)) {vs : List V} {ps : List (Int × Int)} (h : Ivs H vs ps) (pw : vs.Pairwise R) : ps.Pairwise S := by
  induction h with
  | nil => exact .nil
  | cons e h ih =>
    have p := List.pairwise_cons.mp pw
    refine List.pairwise_cons.mpr ⟨fun q hq => ?_, ih p.2⟩
    obtain ⟨b, hb, eb⟩ := h.tpsMem hq
    exact rs _ b _ _ q.1 q.2 e eb (p.1 _ hb)
theorem Ivs.mem {H : Hp} {vs : List V} {ps : List (Int × Int)} (h : Ivs H vs ps) {v : V} (hv : v ∈ vs) : ∃ a q, q ∈ ps ∧ v = .ref a ∧ H a = some (.tup [.int q.1, .int q.2]) := by
  obtain ⟨i, ei⟩ := List.getElem?_of_mem hv
  obtain ⟨a, x, y, e, ep, ea⟩ := h.get ei
  exact ⟨a, (x, y), List.mem_of_getElem? ep, e, ea⟩
def leP (a b : Int × Int) : Prop := a.1 < b.1 ∨ (a.1 = b.1 ∧ a.2 ≤ b.2)
theorem leP_of_lt {ps : List (Int × Int)} (h : ps.Pairwise ltP) : ps.Pairwise leP := h.imp fun {a b} h => by
  rcases h with h | h
  · exact .inl h
  · exact .inr ⟨h.1, by omega⟩
theorem leP_uniq {ps qs : List (Int × Int)} (h1 : ps.Pairwise leP) (h2 : qs.Pairwise leP) (pm : ps.Perm qs) : ps = qs := by
  refine pm.eq_of_pairwise (le := leP) (fun a b _ _ x y => ?_) h1 h2
  have : a.1 = b.1 ∧ a.2 = b.2 := by
    unfold leP at x y
    omega
  exact Prod.ext this.1 this.2
theorem bd2 {z : Int × Int} (b : (0 ≤ z.1 ∧ z.1 < 10 ^ 13) ∧ 0 ≤ z.2 ∧ z.2 < 10 ^ 13) : TS.Bd (10 ^ 13) [z.1, z.2] := fun m hm => by
  rcases List.mem_cons.mp hm with rfl | hm
  · exact b.1
  · rw [List.mem_singleton.mp hm]
    exact b.2
theorem sort_pairs {K : PySem.W.Frag} {H : Hp} {l : Addr} {us : List V} {ps : List (Int × Int)} {Q : VK} (hl : SqL K H l us) (iv : Ivs H us ps) (few : ps.length < 64) (bd : ∀ q ∈ ps, (0 ≤ q.1 ∧ q.1 < 10 ^ 13) ∧ 0 ≤ q.2 ∧ q.2 < 10 ^ 13)
    (fin : ∀ H' p us' ps', Same H H' → H p = none → H' p = some (.lst us') → Ivs H' us' ps' → ps'.Pairwise leP → ps'.Perm ps → Q (.ref p) H') :
    rSortU K 2 (10 ^ 13) [.ref l] H Q := by
  refine ⟨l, us, rfl, hl, by rw [iv.length]; exact few, fun x hx => ?_, fun ys p2 pm pw np2 => ?_⟩
  · obtain ⟨b, qq, hqq, e, eb⟩ := iv.mem hx
    exact ⟨[qq.1, qq.2], ⟨b, e, SqT.of eb⟩, rfl, bd2 (bd qq hqq)⟩
  obtain ⟨gs, ivg, pmg⟩ := Ivs.perm pm iv
  have z : gs.Pairwise (fun a b => TS.code (10 ^ 13) [a.1, a.2] ≤ TS.code (10 ^ 13) [b.1, b.2]) := Ivs.pair (S := fun a b => TS.code (10 ^ 13) [a.1, a.2] ≤ TS.code (10 ^ 13) [b.1, b.2]) (fun a b x y u v ea eb h => h [x, y] [u, v] ⟨a, rfl, SqT.of ea⟩ ⟨b, rfl, SqT.of eb⟩) ivg pw
  have s2 := same_new (o := .lst ys) np2
  refine fin _ p2 ys gs s2 np2 upd_same (ivg.same s2) (z.imp_of_mem fun {x y} hx hy h => ?_) pmg
  exact code_lex (bd2 (bd x (pmg.mem_iff.mp hx))) (bd2 (bd y (pmg.mem_iff.mp hy))) h

theorem ltP_nodup {ps : List (Int × Int)} (h : ps.Pairwise ltP) : ps.Nodup := h.imp fun {a b} h e => by
  subst e
  rcases h with h | h <;> omega
theorem ltP_uniq {ps qs : List (Int × Int)} (h1 : ps.Pairwise ltP) (h2 : qs.Pairwise ltP) (m : ∀ q, q ∈ ps ↔ q ∈ qs) : ps = qs :=
  leP_uniq (leP_of_lt h1) (leP_of_lt h2) ((List.perm_ext_iff_of_nodup (ltP_nodup h1) (ltP_nodup h2)).mpr m)
theorem mv_ltP {B : Int} {ps : List (Int × Int)} (h : ps.Pairwise ltP) : (ps.map (mvI B)).Pairwise ltP := List.pairwise_map.mpr (h.imp fun {a b} h => by
  unfold ltP at h
  unfold mvI ltP
  show a.1 + B < b.1 + B ∨ a.1 + B = b.1 + B ∧ a.2 + B < b.2 + B
  omega)
theorem mv_inj {B : Int} {a b : Int × Int} (h : mvI B a = mvI B b) : a = b := by
  unfold mvI at h
  have h1 := congrArg Prod.fst h
  have h2 := congrArg Prod.snd h
  simp only at h1 h2
  exact Prod.ext (by omega) (by omega)
theorem at3 {α : Type} {r : Int} (h0 : 0 ≤ r) (h1 : r < 3) (x y z : α) : ∃ v, atI [x, y, z] r = some v ∧ (v = x ∨ v = y ∨ v = z) := by
  have : r = 0 ∨ r = 1 ∨ r = 2 := by omega
  rcases this with rfl | rfl | rfl
  · exact ⟨x, rfl, .inl rfl⟩
  · exact ⟨y, rfl, .inr (.inl rfl)⟩
  · exact ⟨z, rfl, .inr (.inr rfl)⟩
theorem eqv_pair (x y u v : Int) : PyData.eqv (.tuple [.int x, .int y]) (.tuple [.int u, .int v]) = decide ((x, y) = (u, v)) := by
  show ((x == u) && ((y == v) && true)) = _
  rw [Bool.and_true]
  by_cases h : (x, y) = (u, v)
  · cases h
    simp
  · rw [decide_eq_false h]
    simp at h ⊢
    exact h

/-! ### what is an interval passes the program's checks -/
def sp_is_number : Sp := fun vs H Q _ => ∃ i : Int, vs = [.int i] ∧ Q (.bl true) H
theorem ok_is_number (T : Tx K mg f_is_number f_is_position f_is_tuple_of f_is_interval f_require_positions f_shift_targets f_join_targets f_law_deck f_law_draw f_law_same f_law_small f_law_moved f_law_due f_law d_is_number d_is_position d_is_tuple_of d_is_interval d_require_positions d_shift_targets d_join_targets d_law_deck d_law_draw d_law_same d_law_small d_law_moved d_law_due d_law t_LAST_POSITION t_MAX_TARGETS) : FnOk P w K mg base CX0 1 f_is_number d_is_number ["value"] sp_is_number := by
  refine T.F_is_number.ok sc_is_number (fun vs H Q E h => ?_) (fun cdv A outer s H vs Q E hr h => ?_)
  · obtain ⟨i, rfl, _⟩ := h
    rfl
  · obtain ⟨i, rfl, q⟩ := h
    refine ⟨_, (pss_one (ps_ret (pe_and (pe_callB call_isi (by rfl) T.z_isinstance (by decide +kernel) (pa_cons (pv 0) (pa_cons (pe_bltn (v := .ty "int") (u := .type "int") (by rfl) T.z_int (by decide +kernel) rfl) pa_nil))) (pe_one (pe_not (pe_callB call_isi (by rfl) T.z_isinstance (by decide +kernel) (pa_cons (pv 0) (pa_cons (pe_bltn (v := .ty "bool") (u := .type "bool") (by rfl) T.z_bool (by decide +kernel) rfl) pa_nil)))))))), ?_⟩
    refine ⟨.int i, rfl, .int i, .ty "int", _, _, _, rfl, .ty "int", .base (.int i), kit_ty (a := "int") (b := "int") (r := true) (by decide +kernel), _, rfl, iteT ?_⟩
    exact ⟨.int i, rfl, .int i, .ty "bool", _, _, _, rfl, .ty "bool", .base (.int i), kit_ty (a := "int") (b := "bool") (r := false) (by decide +kernel), _, rfl, q⟩
def sp_is_position : Sp := fun vs H Q _ => ∃ i : Int, vs = [.int i] ∧ (0 ≤ i ∧ i ≤ 1000000000000) ∧ Q (.bl true) H
theorem ok_is_position (T : Tx K mg f_is_number f_is_position f_is_tuple_of f_is_interval f_require_positions f_shift_targets f_join_targets f_law_deck f_law_draw f_law_same f_law_small f_law_moved f_law_due f_law d_is_number d_is_position d_is_tuple_of d_is_interval d_require_positions d_shift_targets d_join_targets d_law_deck d_law_draw d_law_same d_law_small d_law_moved d_law_due d_law t_LAST_POSITION t_MAX_TARGETS) : FnOk P w K mg base CX0 2 f_is_position d_is_position ["value"] sp_is_position := by
  refine T.F_is_position.ok sc_is_position (fun vs H Q E h => ?_) (fun cdv A outer s H vs Q E hr h => ?_)
  · obtain ⟨i, rfl, _⟩ := h
    rfl
  · obtain ⟨i, rfl, b, q⟩ := h
    refine ⟨_, (pss_one (ps_ret (pe_and (pe_call (ok_is_number T) (hr.mono (by decide)) (by rfl) T.g_is_number T.F_is_number.kp T.b_is_number .nil pass0 (pa_cons (pv 0) pa_nil)) (pe_one (pe_chain op_le op_le pe_int (pv 0) (pe_glob (v := .int 1000000000000) (by rfl) T.c_LAST_POSITION ⟨_, rfl⟩)))))), ?_⟩
    refine ⟨.int i, rfl, i, rfl, _, rfl, iteT ?_⟩
    refine ⟨.int i, rfl, _, _, rfl, rfl, _, rfl, ?_⟩
    rw [decide_eq_true b.1]
    refine iteT ⟨_, _, rfl, rfl, ?_⟩
    have q' : Q (.bl (decide (i ≤ 1000000000000))) H := by
      rw [decide_eq_true b.2]
      exact q
    exact q'
def sp_is_tuple_of : Sp := fun vs H Q _ => ∃ (a : Addr) (x y : Int), vs = [.ref a, .int 2] ∧ H a = some (.tup [.int x, .int y]) ∧ Q (.bl true) H
theorem ok_is_tuple_of (T : Tx K mg f_is_number f_is_position f_is_tuple_of f_is_interval f_require_positions f_shift_targets f_join_targets f_law_deck f_law_draw f_law_same f_law_small f_law_moved f_law_due f_law d_is_number d_is_position d_is_tuple_of d_is_interval d_require_positions d_shift_targets d_join_targets d_law_deck d_law_draw d_law_same d_law_small d_law_moved d_law_due d_law t_LAST_POSITION t_MAX_TARGETS) : FnOk P w K mg base CX0 1 f_is_tuple_of d_is_tuple_of ["value", "length"] sp_is_tuple_of := by
  refine T.F_is_tuple_of.ok sc_is_tuple_of (fun vs H Q E h => ?_) (fun cdv A outer s H vs Q E hr h => ?_)
  · obtain ⟨a, x, y, rfl, _⟩ := h
    rfl
  · obtain ⟨a, x, y, rfl, ha, q⟩ := h
    refine ⟨_, (pss_one (ps_ret (pe_and (pe_callB call_isi (by rfl) T.z_isinstance (by decide +kernel) (pa_cons (pv 0) (pa_cons (pe_bltn (v := .ty "tuple") (u := .type "tuple") (by rfl) T.z_tuple (by decide +kernel) rfl) pa_nil))) (pe_one (pe_cmpR op_eq (pe_callB call_len_seq (by rfl) T.z_len PySem.boot_len (pa_cons (pv 0) pa_nil)) (pv 1) (nomark _)))))), ?_⟩
    refine ⟨.ref a, rfl, .ref a, .ty "tuple", _, _, _, rfl, .ty "tuple", .base (.tup ha), kit_ty (a := "tuple") (b := "tuple") (r := true) (by decide +kernel), _, rfl, iteT ?_⟩
    exact ⟨.ref a, rfl, a, _, rfl, .inr (SqT.of ha), .int 2, rfl, rfl, q⟩
def sp_is_interval : Sp := fun vs H Q _ => ∃ (a : Addr) (x y : Int), vs = [.ref a] ∧ H a = some (.tup [.int x, .int y]) ∧ ((0 ≤ x ∧ x ≤ y) ∧ y ≤ 1000000000000) ∧ Q (.bl true) H
theorem ok_is_interval (T : Tx K mg f_is_number f_is_position f_is_tuple_of f_is_interval f_require_positions f_shift_targets f_join_targets f_law_deck f_law_draw f_law_same f_law_small f_law_moved f_law_due f_law d_is_number d_is_position d_is_tuple_of d_is_interval d_require_positions d_shift_targets d_join_targets d_law_deck d_law_draw d_law_same d_law_small d_law_moved d_law_due d_law t_LAST_POSITION t_MAX_TARGETS) : FnOk P w K mg base CX0 3 f_is_interval d_is_interval ["value"] sp_is_interval := by
  refine T.F_is_interval.ok sc_is_interval (fun vs H Q E h => ?_) (fun cdv A outer s H vs Q E hr h => ?_)
  · obtain ⟨a, x, y, rfl, _⟩ := h
    rfl
  · obtain ⟨a, x, y, rfl, ha, b, q⟩ := h
    refine ⟨_, (pss_cons (ps_if (pt_not (pt_val (pe_call (ok_is_tuple_of T) (hr.mono (by decide)) (by rfl) T.g_is_tuple_of T.F_is_tuple_of.kp T.b_is_tuple_of .nil pass0 (pa_cons (pv 0) (pa_cons pe_int pa_nil)))))
      (pss_one (ps_ret pe_bl))
      pss_nil)
      (pss_cons (ps_asg (pv 0) (pg_tup rfl (pgs_cons (pg_name (i := 1) sc_is_interval.nd rfl (Or.inl rfl)) (pgs_cons (pg_name (i := 2) sc_is_interval.nd rfl (Or.inl rfl)) pgs_nil))))
      (pss_one (ps_ret (pe_and (pe_call (ok_is_position T) (hr.mono (by decide)) (by rfl) T.g_is_position T.F_is_position.kp T.b_is_position .nil pass0 (pa_cons (pv 1) pa_nil)) (pe_and (pe_call (ok_is_position T) (hr.mono (by decide)) (by rfl) T.g_is_position T.F_is_position.kp T.b_is_position .nil pass0 (pa_cons (pv 2) pa_nil)) (pe_one (pe_cmpR op_le (pv 1) (pv 2) (nomark _))))))))), ?_⟩
    refine ⟨.ref a, rfl, a, x, y, rfl, ha, _, rfl, iteF ?_⟩
    refine ⟨.ref a, rfl, a, _, rfl, SqT.of ha, rfl, .int x, [.int y], rfl, .int y, [], rfl, rfl, ?_⟩
    refine ⟨.int x, rfl, x, rfl, by omega, _, rfl, iteT ?_⟩
    refine ⟨.int y, rfl, y, rfl, by omega, _, rfl, iteT ?_⟩
    refine ⟨.int x, rfl, .int y, rfl, _, _, rfl, rfl, ?_⟩
    have q' : Q (.bl (decide (x ≤ y))) H := by
      rw [decide_eq_true b.1.2]
      exact q
    exact q'
def Vld (ps : List (Int × Int)) : Prop := ∀ q ∈ ps, (0 ≤ q.1 ∧ q.1 ≤ q.2) ∧ q.2 ≤ 1000000000000
def sp_require_positions : Sp := fun vs H Q _ => ∃ (a : Addr) (us : List V) (ps : List (Int × Int)), vs = [.ref a] ∧ H a = some (.tup us) ∧ Ivs H us ps ∧ ps.length < 1000 ∧ Vld ps ∧ ∀ H', Same H H' → Q (.ref a) H'
theorem all_true (n : Nat) : (List.replicate n true).all id = true := by
  induction n with
  | zero => rfl
  | succ n ih =>
    rw [List.replicate_succ, List.all_cons, ih]
    rfl
theorem ok_require_positions (T : Tx K mg f_is_number f_is_position f_is_tuple_of f_is_interval f_require_positions f_shift_targets f_join_targets f_law_deck f_law_draw f_law_same f_law_small f_law_moved f_law_due f_law d_is_number d_is_position d_is_tuple_of d_is_interval d_require_positions d_shift_targets d_join_targets d_law_deck d_law_draw d_law_same d_law_small d_law_moved d_law_due d_law t_LAST_POSITION t_MAX_TARGETS) : FnOk P w K mg base CX0 4 f_require_positions d_require_positions ["intervals"] sp_require_positions := by
  refine T.F_require_positions.ok sc_require_positions (fun vs H Q E h => ?_) (fun cdv A outer s H vs Q E hr h => ?_)
  · obtain ⟨a, us, ps, rfl, _⟩ := h
    rfl
  · obtain ⟨a, us, ps, rfl, ha, iv, few, vld, q⟩ := h
    have lu := iv.length
    refine ⟨_, (pss_cons (ps_if (pt_not (pt_val (pe_callB (cr_all rfl) (by rfl) T.z_all (by decide +kernel) (pa_cons (pe_lc (own := [("interval", 1)]) (g := (gName 1)) (tt := tYes) (by rfl) sc_require_positions.nd (pi_tup (pv 0)) (blkOk_by (own := [("interval", 1)]) (N := N_require_positions) (sc := defScope s_require_positions) (by decide +kernel)) (fun _ _ _ _ _ => (pg_name (i := 1) sc_require_positions.nd rfl (Or.inl rfl))) (fun _ _ _ _ _ => pts_nil) (fun _ _ _ _ _ => (pe_call (ok_is_interval T) (hr.mono (by decide)) (by rfl) T.g_is_interval T.F_is_interval.kp T.b_is_interval .nil pass0 (pa_cons (pv 1) pa_nil)))) pa_nil))))
      (pss_one ps_never)
      pss_nil)
      (pss_one (ps_ret (pv 0)))), ?_⟩
    refine ⟨.ref a, rfl, a, rfl, ⟨_, SqT.of ha⟩, fun D nD => ?_⟩
    refine lcT (K := K) (a := a) (xs := us) (fun j H' ws => ws = (List.replicate j true).map V.bl) nD (fun H' s => SqT.of (s _ _ ha)) (by omega) (fun _ _ _ _ _ h => h) (fun j H' ws h => by rw [h, List.length_map, List.length_replicate]; exact Nat.le_refl _) (fun _ => rfl) ?_ ?_
    · rintro j v H' N acc hj sm eA sz r no yes
      obtain ⟨bb, x, y, rfl, ep, hb⟩ := iv.get hj
      have b := vld _ (List.mem_of_getElem? ep)
      refine ⟨rfl, .ref bb, rfl, bb, x, y, rfl, sm _ _ hb, b, yes _ _ (Same.refl _) ?_⟩
      rw [r, List.replicate_succ', List.map_append]
      rfl
    · rintro H1 ws s1 eD r
      subst r
      refine ⟨D, _, rfl, SqL.of eD, _, rfl, ?_⟩
      rw [all_true]
      exact iteF ⟨.ref a, rfl, q H1 s1⟩

/-! ### shift_targets, where nothing leaves the range -/
def sp_shift_targets : Sp := fun vs H Q _ => ∃ (a : Addr) (b : Int) (us : List V) (ps : List (Int × Int)), vs = [.ref a, .int b] ∧ H a = some (.tup us) ∧ Ivs H us ps ∧ ps.length < 1000 ∧ Vld (ps.map (mvI b)) ∧
  ∀ H' p ws, Same H H' → H' p = some (.tup ws) → Ivs H' ws (ps.map (mvI b)) → Q (.ref p) H'
theorem ok_shift_targets (T : Tx K mg f_is_number f_is_position f_is_tuple_of f_is_interval f_require_positions f_shift_targets f_join_targets f_law_deck f_law_draw f_law_same f_law_small f_law_moved f_law_due f_law d_is_number d_is_position d_is_tuple_of d_is_interval d_require_positions d_shift_targets d_join_targets d_law_deck d_law_draw d_law_same d_law_small d_law_moved d_law_due d_law t_LAST_POSITION t_MAX_TARGETS) : FnOk P w K mg base CX0 5 f_shift_targets d_shift_targets ["targets", "by"] sp_shift_targets := by
  refine T.F_shift_targets.ok sc_shift_targets (fun vs H Q E h => ?_) (fun cdv A outer s H vs Q E hr h => ?_)
  · obtain ⟨a, b, us, ps, rfl, _⟩ := h
    rfl
  · obtain ⟨a, b, us, ps, rfl, ha, iv, few, vld, q⟩ := h
    refine ⟨_, (pss_one (ps_ret (pe_call (ok_require_positions T) (hr.mono (by decide)) (by rfl) T.g_require_positions T.F_require_positions.kp T.b_require_positions .nil pass0 (pa_cons (pe_callTy call_tuple_of (by rfl) T.z_tuple (by decide +kernel) (pa_cons (pe_lc (own := [("low", 2), ("high", 3)]) (g := (gTup K 2 (gCons (gName 2) (gCons (gName 3) gNil)))) (tt := tYes) (by rfl) sc_shift_targets.nd (pi_tup (pv 0)) (blkOk_by (own := [("low", 2), ("high", 3)]) (N := N_shift_targets) (sc := defScope s_shift_targets) (by decide +kernel)) (fun _ _ _ _ _ => (pg_tup rfl (pgs_cons (pg_name (i := 2) sc_shift_targets.nd rfl (Or.inl rfl)) (pgs_cons (pg_name (i := 3) sc_shift_targets.nd rfl (Or.inl rfl)) pgs_nil)))) (fun _ _ _ _ _ => pts_nil) (fun _ _ _ _ _ => (pe_tup (pa_cons (pe_op op_add (pv 2) (pv 1)) (pa_cons (pe_op op_add (pv 3) (pv 1)) pa_nil))))) pa_nil)) pa_nil)))), ?_⟩
    refine ⟨.ref a, rfl, a, rfl, ⟨_, SqT.of ha⟩, fun D nD => ?_⟩
    refine lcT (K := K) (a := a) (xs := us) (fun j H' ws => Ivs H' ws ((ps.take j).map (mvI b)) ∧ ws.length ≤ j) nD (fun H' s => SqT.of (s _ _ ha)) (by rw [iv.length]; omega) (fun _ _ _ _ t h => ⟨h.1.tps t, h.2⟩) (fun j H' ws h => h.2) (fun _ => ⟨.nil, Nat.le_refl _⟩) ?_ ?_
    · rintro j v H' N acc hj sm eA sz ⟨r, rl⟩ no yes
      obtain ⟨bb, x, y, rfl, ep, hb⟩ := iv.get hj
      refine ⟨bb, _, rfl, SqT.of (sm _ _ hb), rfl, .int x, [.int y], rfl, .int y, [], rfl, rfl, rfl, .int x, rfl, .int b, rfl, _, _, rfl, rfl, .int y, rfl, .int b, rfl, _, _, rfl, rfl, by show 2 ≤ sizeLine; decide, fun t nt => yes _ _ (same_new nt) ⟨?_, by rw [List.length_append]; show acc.length + 1 ≤ _; omega⟩⟩
      rw [map_take_snoc ep]
      exact (r.same (same_new nt)).snoc upd_same
    · rintro H' ws sm eD ⟨r, rl⟩
      rw [iv.length, List.take_length] at r
      refine ⟨D, ws, rfl, .inl ⟨SqL.of eD, fun l nl => ?_⟩⟩
      have s2 := same_new (o := .tup ws) nl
      have e2 := upd_same (H := H') (a := l) (o := .tup ws)
      replace r := r.same s2
      generalize upd H' l (.tup ws) = H2 at *
      refine ⟨l, ws, _, rfl, e2, r, by rw [List.length_map]; exact few, vld, fun H3 s3 => ?_⟩
      exact q _ l ws (sm.trans (s2.trans s3)) (s3 _ _ e2) (r.same s3)
theorem mv_mv {a b : Int} {ps : List (Int × Int)} : (ps.map (mvI a)).map (mvI b) = ps.map (mvI (a + b)) := by
  rw [List.map_map]
  refine List.map_congr_left fun q _ => ?_
  show (q.1 + a + b, q.2 + a + b) = (q.1 + (a + b), q.2 + (a + b))
  rw [Int.add_assoc, Int.add_assoc]
theorem mv_zero {ps : List (Int × Int)} : ps.map (mvI 0) = ps := by
  refine (List.map_congr_left fun q _ => ?_).trans (List.map_id _)
  show (q.1 + 0, q.2 + 0) = q
  rw [Int.add_zero, Int.add_zero]

/-! ### tuples joined and cut, whichever object comes out -/
theorem catA_any {K : PySem.W.Frag} {H : Hp} {a b : Addr} {xs ys : List V} {Q : VK} (h1 : H a = some (.tup xs)) (h2 : H b = some (.tup ys)) (sz : xs.length + ys.length ≤ sizeLine) (k : ∀ H' p, Same H H' → H' p = some (.tup (xs ++ ys)) → Q (.ref p) H') : rCatA K (.ref a) (.ref b) H Q := by
  refine ⟨a, b, xs, ys, rfl, rfl, SqT.of h1, SqT.of h2, sz, fun e => k H b (Same.refl _) ?_, fun _ e => k H a (Same.refl _) ?_, fun _ _ p np => k _ p (same_new np) upd_same⟩
  · rw [e]
    exact h2
  · rw [e, List.append_nil]
    exact h1
theorem slA_any {K : PySem.W.Frag} {H : Hp} {a : Addr} {xs : List V} {lo hi : Option Int} {Q : VK} (h1 : H a = some (.tup xs)) (k : ∀ H' p, Same H H' → H' p = some (.tup (cutV xs lo hi)) → Q (.ref p) H') : rSlA K (.ref a) lo hi H Q := by
  refine ⟨a, xs, rfl, SqT.of h1, fun e => k H a (Same.refl _) ?_, fun _ p np => k _ p (same_new np) upd_same⟩
  have e2 : cutV xs lo hi = xs := by
    unfold cutV
    rw [e.1, e.2]
    simp
  rw [e2]
  exact h1
theorem Ivs.take {H : Hp} {vs : List V} {ps : List (Int × Int)} (h : Ivs H vs ps) : ∀ n : Nat, Ivs H (vs.take n) (ps.take n) := by
  induction h with
  | nil =>
    intro n
    rw [List.take_nil, List.take_nil]
    exact .nil
  | cons e _ ih =>
    intro n
    cases n with
    | zero => exact .nil
    | succ n => exact .cons e (ih n)

def IsHi (ps : List (Int × Int)) (hi : Int) : Prop := hi ∈ ps.map (fun q : Int × Int => q.2) ∧ ∀ y ∈ ps.map (fun q : Int × Int => q.2), y ≤ hi
def IsLo (ps : List (Int × Int)) (lo : Int) : Prop := lo ∈ ps.map (fun q : Int × Int => q.1) ∧ ∀ y ∈ ps.map (fun q : Int × Int => q.1), lo ≤ y
theorem IsHi.uniq {ps : List (Int × Int)} {a b : Int} (h : IsHi ps a) (k : IsHi ps b) : a = b := Int.le_antisymm (k.2 a h.1) (h.2 b k.1)
theorem IsLo.uniq {ps : List (Int × Int)} {a b : Int} (h : IsLo ps a) (k : IsLo ps b) : a = b := Int.le_antisymm (h.2 b k.1) (k.2 a h.1)
theorem exists_lo : ∀ {ps : List (Int × Int)}, ps ≠ [] → ∃ lo, IsLo ps lo
  | [], h => absurd rfl h
  | [p], _ => ⟨p.1, List.mem_singleton.mpr rfl, fun y hy => by rw [List.mem_singleton.mp hy]; exact Int.le_refl _⟩
  | p :: r :: ps, _ => by
    obtain ⟨lo, h1, h2⟩ := exists_lo (ps := r :: ps) (by simp)
    rcases Int.le_total p.1 lo with z | z
    · refine ⟨p.1, List.mem_cons_self, fun y hy => ?_⟩
      rcases List.mem_cons.mp hy with rfl | hy
      · exact Int.le_refl _
      · exact Int.le_trans z (h2 y hy)
    · refine ⟨lo, List.mem_cons_of_mem _ h1, fun y hy => ?_⟩
      rcases List.mem_cons.mp hy with rfl | hy
      · exact z
      · exact h2 y hy
def JoinR (ps qs : List (Int × Int)) (g : Int) (R : List (Int × Int)) : Prop :=
  ((ps = [] ∨ qs = []) ∧ R = ps ++ qs) ∨ ((ps ≠ [] ∧ qs ≠ []) ∧ ∃ hi lo, IsHi ps hi ∧ IsLo qs lo ∧ R = ps ++ qs.map (mvI (hi + g - lo)))
def sp_join_targets : Sp := fun vs H Q _ => ∃ (a b : Addr) (g : Int) (us ws : List V) (ps qs R : List (Int × Int)), vs = [.ref a, .ref b, .int g] ∧ H a = some (.tup us) ∧ H b = some (.tup ws) ∧ Ivs H us ps ∧ Ivs H ws qs ∧ ps.length ≤ 12 ∧ qs.length ≤ 12 ∧ JoinR ps qs g R ∧ Vld R ∧
  ∀ H' p zs, Same H H' → H' p = some (.tup zs) → Ivs H' zs R → Q (.ref p) H'
theorem ok_join_targets (T : Tx K mg f_is_number f_is_position f_is_tuple_of f_is_interval f_require_positions f_shift_targets f_join_targets f_law_deck f_law_draw f_law_same f_law_small f_law_moved f_law_due f_law d_is_number d_is_position d_is_tuple_of d_is_interval d_require_positions d_shift_targets d_join_targets d_law_deck d_law_draw d_law_same d_law_small d_law_moved d_law_due d_law t_LAST_POSITION t_MAX_TARGETS) : FnOk P w K mg base CX0 6 f_join_targets d_join_targets ["first", "second", "gap"] sp_join_targets := by
  refine T.F_join_targets.ok sc_join_targets (fun vs H Q E h => ?_) (fun cdv A outer s H vs Q E hr h => ?_)
  · obtain ⟨a, b, g, us, ws, ps, qs, R, rfl, _⟩ := h
    rfl
  · obtain ⟨a, b, g, us, ws, ps, qs, R, rfl, ha, hb, ivp, ivq, lp, lq, jr, vld, q⟩ := h
    have lu := ivp.length
    have lw := ivq.length
    have ep := ivp.isEmpty
    have eq := ivq.isEmpty
    refine ⟨_, (pss_cons (ps_if (PW.pt (pw_or (pt_not (pt_truth (pv 0) (by intro _; rfl))) (pw_or1 (pt_not (pt_truth (pv 1) (by intro _; rfl))))))
      (pss_one (ps_ret (pe_orT (pv 0) (pe_one (pv 1)))))
      pss_nil)
      (pss_cons (ps_if (pt_cmpR op_gt (pe_op op_add (pe_callB call_len_seq (by rfl) T.z_len PySem.boot_len (pa_cons (pv 0) pa_nil)) (pe_callB call_len_seq (by rfl) T.z_len PySem.boot_len (pa_cons (pv 1) pa_nil))) (pe_glob (v := .int 24) (by rfl) T.c_MAX_TARGETS ⟨_, rfl⟩) (nomark _))
      (pss_one ps_never)
      pss_nil)
      (pss_cons (ps_set (i := 3) sc_join_targets.nd rfl (Or.inl rfl) (pe_callB (cr_min rfl) (by rfl) T.z_min (by decide +kernel) (pa_cons (pe_lc (own := [("low", 4), ("high", 5)]) (g := (gTup K 2 (gCons (gName 4) (gCons (gName 5) gNil)))) (tt := tYes) (by rfl) sc_join_targets.nd (pi_tup (pv 1)) (blkOk_by (own := [("low", 4), ("high", 5)]) (N := N_join_targets) (sc := defScope s_join_targets) (by decide +kernel)) (fun _ _ _ _ _ => (pg_tup rfl (pgs_cons (pg_name (i := 4) sc_join_targets.nd rfl (Or.inl rfl)) (pgs_cons (pg_name (i := 5) sc_join_targets.nd rfl (Or.inl rfl)) pgs_nil)))) (fun _ _ _ _ _ => pts_nil) (fun _ _ _ _ _ => (pv 4))) pa_nil)))
      (pss_cons (ps_set (i := 6) sc_join_targets.nd rfl (Or.inl rfl) (pe_callB (cr_max rfl) (by rfl) T.z_max (by decide +kernel) (pa_cons (pe_lc (own := [("low", 4), ("high", 5)]) (g := (gTup K 2 (gCons (gName 4) (gCons (gName 5) gNil)))) (tt := tYes) (by rfl) sc_join_targets.nd (pi_tup (pv 0)) (blkOk_by (own := [("low", 4), ("high", 5)]) (N := N_join_targets) (sc := defScope s_join_targets) (by decide +kernel)) (fun _ _ _ _ _ => (pg_tup rfl (pgs_cons (pg_name (i := 4) sc_join_targets.nd rfl (Or.inl rfl)) (pgs_cons (pg_name (i := 5) sc_join_targets.nd rfl (Or.inl rfl)) pgs_nil)))) (fun _ _ _ _ _ => pts_nil) (fun _ _ _ _ _ => (pv 5))) pa_nil)))
      (pss_one (ps_ret (pe_op op_catA (pv 0) (pe_call (ok_shift_targets T) (hr.mono (by decide)) (by rfl) T.g_shift_targets T.F_shift_targets.kp T.b_shift_targets .nil pass0 (pa_cons (pv 1) (pa_cons (pe_op op_sub (pe_op op_add (pv 6) (pv 2)) (pv 3)) pa_nil)))))))))), ?_⟩
    refine ⟨.ref a, rfl, _, .inr (.inl ⟨us, SqT.of ha, rfl⟩), ?_⟩
    rw [ep]
    by_cases c1 : ps = []
    · subst c1
      refine iteT (iteT ⟨.ref a, rfl, _, .inr (.inl ⟨us, SqT.of ha, rfl⟩), ?_⟩)
      rw [ep]
      refine iteF ⟨.ref b, rfl, ?_⟩
      rcases jr with ⟨_, rfl⟩ | ⟨z, _⟩
      · exact q H b ws (Same.refl _) hb ivq
      · exact absurd rfl z.1
    have n1 : ps.isEmpty = false := by
      cases ps with
      | nil => exact absurd rfl c1
      | cons x r => rfl
    rw [n1]
    refine iteF ⟨.ref b, rfl, _, .inr (.inl ⟨ws, SqT.of hb, rfl⟩), ?_⟩
    rw [eq]
    by_cases c2 : qs = []
    · subst c2
      refine iteT ⟨.ref a, rfl, _, .inr (.inl ⟨us, SqT.of ha, rfl⟩), ?_⟩
      rw [ep, n1]
      refine iteT ?_
      rcases jr with ⟨_, rfl⟩ | ⟨z, _⟩
      · rw [List.append_nil] at q
        exact q H a us (Same.refl _) ha ivp
      · exact absurd rfl z.2
    have n2 : qs.isEmpty = false := by
      cases qs with
      | nil => exact absurd rfl c2
      | cons x r => rfl
    rw [n2]
    refine iteF ?_
    have p1 : 0 < ps.length := by
      cases ps with
      | nil => exact absurd rfl c1
      | cons x r => exact Nat.succ_pos _
    have p2 : 0 < qs.length := by
      cases qs with
      | nil => exact absurd rfl c2
      | cons x r => exact Nat.succ_pos _
    obtain ⟨hi, lo, hhi, hlo, rfl⟩ : ∃ hi lo, IsHi ps hi ∧ IsLo qs lo ∧ R = ps ++ qs.map (mvI (hi + g - lo)) := by
      rcases jr with ⟨z, _⟩ | ⟨_, z⟩
      · rcases z with z | z
        · exact absurd z c1
        · exact absurd z c2
      · exact z
    refine ⟨.ref a, rfl, a, us, rfl, .inr (SqT.of ha), .ref b, rfl, b, ws, rfl, .inr (SqT.of hb), _, _, rfl, rfl, _, _, rfl, rfl, _, rfl, ite2 (fun c => ?_) (fun _ => ?_)⟩
    · have c := of_decide_eq_true c
      rw [lu, lw] at c
      exact absurd c (by omega)
    -- lowest
    refine ⟨.ref b, rfl, b, rfl, ⟨_, SqT.of hb⟩, fun D nD => ?_⟩
    refine lcT (K := K) (a := b) (xs := ws) (fun j H' zs => zs = ((qs.take j).map (fun q : Int × Int => q.1)).map V.int) nD (fun H' s => SqT.of (s _ _ hb)) (by omega) (fun _ _ _ _ _ h => h) (fun j H' ws h => by rw [h, List.length_map, List.length_map]; exact List.length_take_le _ _) (fun _ => rfl) ?_ ?_
    · rintro j v H' N acc hj sm eA sz r no yes
      obtain ⟨bb, x, y, rfl, ep, hb⟩ := ivq.get hj
      refine ⟨bb, _, rfl, SqT.of (sm _ _ hb), rfl, .int x, [.int y], rfl, .int y, [], rfl, rfl, rfl, .int x, rfl, yes _ _ (Same.refl _) ?_⟩
      rw [map_take_snoc ep, List.map_append, r]
      rfl
    rintro H1 zs s1 eD r
    rw [lw, List.take_length] at r
    subst r
    refine ⟨D, qs.map (fun q : Int × Int => q.1), rfl, SqL.of eD, by rw [List.length_map]; exact p2, fun lo' hl bot => ?_⟩
    have e1 : lo' = lo := IsLo.uniq ⟨hl, bot⟩ hlo
    subst e1
    have ha1 := s1 _ _ ha
    -- highest
    refine ⟨.ref a, rfl, a, rfl, ⟨_, SqT.of ha1⟩, fun D2 nD2 => ?_⟩
    have ivp1 := ivp.same s1
    refine lcT (K := K) (a := a) (xs := us) (fun j H' zs => zs = ((ps.take j).map (fun q : Int × Int => q.2)).map V.int) nD2 (fun H' s => SqT.of (s _ _ ha1)) (by omega) (fun _ _ _ _ _ h => h) (fun j H' ws h => by rw [h, List.length_map, List.length_map]; exact List.length_take_le _ _) (fun _ => rfl) ?_ ?_
    · rintro j v H' N acc hj sm eA sz r no yes
      obtain ⟨bb, x, y, rfl, ep, hb⟩ := ivp1.get hj
      refine ⟨bb, _, rfl, SqT.of (sm _ _ hb), rfl, .int x, [.int y], rfl, .int y, [], rfl, rfl, rfl, .int y, rfl, yes _ _ (Same.refl _) ?_⟩
      rw [map_take_snoc ep, List.map_append, r]
      rfl
    rintro H2 zs s2 eD2 r
    rw [lu, List.take_length] at r
    subst r
    refine ⟨D2, ps.map (fun q : Int × Int => q.2), rfl, SqL.of eD2, by rw [List.length_map]; exact p1, fun hi' hh top => ?_⟩
    have e2 : hi' = hi := IsHi.uniq ⟨hh, top⟩ hhi
    subst e2
    have s12 := s1.trans s2
    refine ⟨.ref a, rfl, .ref b, rfl, .int hi', rfl, .int g, rfl, _, _, rfl, rfl, .int lo', rfl, _, _, rfl, rfl, b, _, ws, qs, rfl, s12 _ _ hb, ivq.same s12, by omega, (fun z hz => vld z (List.mem_append_right _ hz)), fun H3 p zs s3 e3 iv3 => ?_⟩
    have s13 := s12.trans s3
    have lz := iv3.length
    rw [List.length_map] at lz
    refine catA_any (s13 _ _ ha) e3 (by rw [show sizeLine = 16777216 by decide]; omega) (fun H4 p4 s4 e4 => ?_)
    exact q H4 p4 _ (s13.trans s4) e4 ((ivp.same (s13.trans s4)).append (iv3.same s4))
def sp_law_due : Sp := fun vs H Q _ => ∃ (a b : Addr) (g : Int) (us ws : List V) (ps qs R : List (Int × Int)), vs = [.ref a, .ref b, .int g] ∧ H a = some (.tup us) ∧ H b = some (.tup ws) ∧ Ivs H us ps ∧ Ivs H ws qs ∧ ps.length ≤ 12 ∧ qs.length ≤ 12 ∧ JoinR ps qs g R ∧
  ∀ H' p zs, Same H H' → H' p = some (.tup zs) → Ivs H' zs R → Q (.ref p) H'
theorem ok_law_due (T : Tx K mg f_is_number f_is_position f_is_tuple_of f_is_interval f_require_positions f_shift_targets f_join_targets f_law_deck f_law_draw f_law_same f_law_small f_law_moved f_law_due f_law d_is_number d_is_position d_is_tuple_of d_is_interval d_require_positions d_shift_targets d_join_targets d_law_deck d_law_draw d_law_same d_law_small d_law_moved d_law_due d_law t_LAST_POSITION t_MAX_TARGETS) : FnOk P w K mg base CX0 2 f_law_due d_law_due ["_law_first", "_law_second", "_law_gap"] sp_law_due := by
  refine T.F_law_due.ok sc_law_due (fun vs H Q E h => ?_) (fun cdv A outer s H vs Q E hr h => ?_)
  · obtain ⟨a, b, g, us, ws, ps, qs, R, rfl, _⟩ := h
    rfl
  · obtain ⟨a, b, g, us, ws, ps, qs, R, rfl, ha, hb, ivp, ivq, lp, lq, jr, q⟩ := h
    have lu := ivp.length
    have lw := ivq.length
    have ep := ivp.isEmpty
    have eq := ivq.isEmpty
    have both : ∀ H1, Same H H1 → (ps = [] ∨ qs = []) → rCatA K (.ref a) (.ref b) H1 Q := fun H1 s1 o => by
      refine catA_any (s1 _ _ ha) (s1 _ _ hb) (by rw [show sizeLine = 16777216 by decide]; omega) (fun H4 p4 s4 e4 => ?_)
      have e : R = ps ++ qs := by
        rcases jr with ⟨_, z⟩ | ⟨z, _⟩
        · exact z
        · rcases o with o | o
          · exact absurd o z.1
          · exact absurd o z.2
      refine q H4 p4 _ (s1.trans s4) e4 ?_
      rw [e]
      exact (ivp.same (s1.trans s4)).append (ivq.same (s1.trans s4))
    refine ⟨_, (pss_cons (ps_if (PW.pt (pw_or (pt_cmpR (op_eqE hr.units0) (pv 0) (pe_tup pa_nil) (nomark _)) (pw_or1 (pt_cmpR (op_eqE hr.units0) (pv 1) (pe_tup pa_nil) (nomark _)))))
      (pss_one (ps_ret (pe_op op_catA (pv 0) (pv 1))))
      pss_nil)
      (pss_cons (ps_set (i := 3) sc_law_due.nd rfl (Or.inl rfl) (pe_callB (cr_max rfl) (by rfl) T.z_max (by decide +kernel) (pa_cons (pe_lc (own := [("_law_low", 4), ("_law_high", 5)]) (g := (gTup K 2 (gCons (gName 4) (gCons (gName 5) gNil)))) (tt := tYes) (by rfl) sc_law_due.nd (pi_tup (pv 0)) (blkOk_by (own := [("_law_low", 4), ("_law_high", 5)]) (N := N_law_due) (sc := defScope s_law_due) (by decide +kernel)) (fun _ _ _ _ _ => (pg_tup rfl (pgs_cons (pg_name (i := 4) sc_law_due.nd rfl (Or.inl rfl)) (pgs_cons (pg_name (i := 5) sc_law_due.nd rfl (Or.inl rfl)) pgs_nil)))) (fun _ _ _ _ _ => pts_nil) (fun _ _ _ _ _ => (pv 5))) pa_nil)))
      (pss_one (ps_ret (pe_op op_catA (pv 0) (pe_call (ok_law_moved T) (hr.mono (by decide)) (by rfl) T.g_law_moved T.F_law_moved.kp T.b_law_moved .nil pass0 (pa_cons (pv 1) (pa_cons (pe_op op_sub (pe_op op_add (pv 3) (pv 2)) (pe_callB (cr_min rfl) (by rfl) T.z_min (by decide +kernel) (pa_cons (pe_lc (own := [("_law_low", 4), ("_law_high", 5)]) (g := (gTup K 2 (gCons (gName 4) (gCons (gName 5) gNil)))) (tt := tYes) (by rfl) sc_law_due.nd (pi_tup (pv 1)) (blkOk_by (own := [("_law_low", 4), ("_law_high", 5)]) (N := N_law_due) (sc := defScope s_law_due) (by decide +kernel)) (fun _ _ _ _ _ => (pg_tup rfl (pgs_cons (pg_name (i := 4) sc_law_due.nd rfl (Or.inl rfl)) (pgs_cons (pg_name (i := 5) sc_law_due.nd rfl (Or.inl rfl)) pgs_nil)))) (fun _ _ _ _ _ => pts_nil) (fun _ _ _ _ _ => (pv 4))) pa_nil))) pa_nil)))))))), ?_⟩
    refine ⟨.ref a, rfl, by show 0 ≤ sizeLine; decide, fun e0 ne0 => ?_⟩
    have s0 := same_new (o := .tup []) ne0
    refine ⟨a, e0, us, rfl, rfl, SqT.of (s0 _ _ ha), SqT.of upd_same, _, rfl, ?_⟩
    generalize upd H e0 (.tup []) = H0 at *
    rw [ep]
    by_cases c1 : ps = []
    · rw [show ps.isEmpty = true by rw [c1]; rfl]
      exact iteT (iteT ⟨.ref a, rfl, .ref b, rfl, both H0 s0 (.inl c1)⟩)
    have n1 : ps.isEmpty = false := by
      cases ps with
      | nil => exact absurd rfl c1
      | cons x r => rfl
    rw [n1]
    refine iteF ?_
    refine ⟨.ref b, rfl, by show 0 ≤ sizeLine; decide, fun e1 ne1 => ?_⟩
    have s1 := same_new (o := .tup []) ne1
    refine ⟨b, e1, ws, rfl, rfl, SqT.of (s1 _ _ (s0 _ _ hb)), SqT.of upd_same, _, rfl, ?_⟩
    generalize upd H0 e1 (.tup []) = H1 at *
    have s01 := s0.trans s1
    rw [eq]
    by_cases c2 : qs = []
    · rw [show qs.isEmpty = true by rw [c2]; rfl]
      exact iteT ⟨.ref a, rfl, .ref b, rfl, both H1 s01 (.inr c2)⟩
    have n2 : qs.isEmpty = false := by
      cases qs with
      | nil => exact absurd rfl c2
      | cons x r => rfl
    rw [n2]
    refine iteF ?_
    have p1 : 0 < ps.length := by
      cases ps with
      | nil => exact absurd rfl c1
      | cons x r => exact Nat.succ_pos _
    have p2 : 0 < qs.length := by
      cases qs with
      | nil => exact absurd rfl c2
      | cons x r => exact Nat.succ_pos _
    obtain ⟨hi, lo, hhi, hlo, rfl⟩ : ∃ hi lo, IsHi ps hi ∧ IsLo qs lo ∧ R = ps ++ qs.map (mvI (hi + g - lo)) := by
      rcases jr with ⟨z, _⟩ | ⟨_, z⟩
      · rcases z with z | z
        · exact absurd z c1
        · exact absurd z c2
      · exact z
    have ha1 := s01 _ _ ha
    have hb1 := s01 _ _ hb
    have ivp1 := ivp.same s01
    have ivq1 := ivq.same s01
    refine ⟨.ref a, rfl, a, rfl, ⟨_, SqT.of ha1⟩, fun D2 nD2 => ?_⟩
    refine lcT (K := K) (a := a) (xs := us) (fun j H' zs => zs = ((ps.take j).map (fun q : Int × Int => q.2)).map V.int) nD2 (fun H' s => SqT.of (s _ _ ha1)) (by omega) (fun _ _ _ _ _ h => h) (fun j H' ws h => by rw [h, List.length_map, List.length_map]; exact List.length_take_le _ _) (fun _ => rfl) ?_ ?_
    · rintro j v H' N acc hj sm eA sz r no yes
      obtain ⟨bb, x, y, rfl, ep, hb⟩ := ivp1.get hj
      refine ⟨bb, _, rfl, SqT.of (sm _ _ hb), rfl, .int x, [.int y], rfl, .int y, [], rfl, rfl, rfl, .int y, rfl, yes _ _ (Same.refl _) ?_⟩
      rw [map_take_snoc ep, List.map_append, r]
      rfl
    rintro H2 zs s2 eD2 r
    rw [lu, List.take_length] at r
    subst r
    refine ⟨D2, ps.map (fun q : Int × Int => q.2), rfl, SqL.of eD2, by rw [List.length_map]; exact p1, fun hi' hh top => ?_⟩
    have e2 : hi' = hi := IsHi.uniq ⟨hh, top⟩ hhi
    subst e2
    have hb2 := s2 _ _ hb1
    have ivq2 := ivq1.same s2
    refine ⟨.ref a, rfl, .ref b, rfl, .int hi', rfl, .int g, rfl, _, _, rfl, rfl, ?_⟩
    refine ⟨.ref b, rfl, b, rfl, ⟨_, SqT.of hb2⟩, fun D nD => ?_⟩
    refine lcT (K := K) (a := b) (xs := ws) (fun j H' zs => zs = ((qs.take j).map (fun q : Int × Int => q.1)).map V.int) nD (fun H' s => SqT.of (s _ _ hb2)) (by omega) (fun _ _ _ _ _ h => h) (fun j H' ws h => by rw [h, List.length_map, List.length_map]; exact List.length_take_le _ _) (fun _ => rfl) ?_ ?_
    · rintro j v H' N acc hj sm eA sz r no yes
      obtain ⟨bb, x, y, rfl, ep, hb⟩ := ivq2.get hj
      refine ⟨bb, _, rfl, SqT.of (sm _ _ hb), rfl, .int x, [.int y], rfl, .int y, [], rfl, rfl, rfl, .int x, rfl, yes _ _ (Same.refl _) ?_⟩
      rw [map_take_snoc ep, List.map_append, r]
      rfl
    rintro H3 zs s3 eD r
    rw [lw, List.take_length] at r
    subst r
    refine ⟨D, qs.map (fun q : Int × Int => q.1), rfl, SqL.of eD, by rw [List.length_map]; exact p2, fun lo' hl bot => ?_⟩
    have e1 : lo' = lo := IsLo.uniq ⟨hl, bot⟩ hlo
    subst e1
    have s03 := s01.trans (s2.trans s3)
    refine ⟨_, _, rfl, rfl, b, _, ws, qs, rfl, s03 _ _ hb, ivq.same s03, by omega, fun H4 p zs s4 e4 iv4 => ?_⟩
    have s04 := s03.trans s4
    have lz := iv4.length
    rw [List.length_map] at lz
    refine catA_any (s04 _ _ ha) e4 (by rw [show sizeLine = 16777216 by decide]; omega) (fun H5 p5 s5 e5 => ?_)
    exact q H5 p5 _ (s04.trans s5) e5 ((ivp.same (s04.trans s5)).append (iv4.same s5))
structure Gd (ps : List (Int × Int)) : Prop where
  len : ps.length ≤ 12
  ok : Vld ps
  near : ∃ b : Int, ∀ q ∈ ps, b ≤ q.1 ∧ q.2 ≤ b + 9
theorem Gd.take {ps : List (Int × Int)} (h : Gd ps) (n : Nat) : Gd (ps.take n) := by
  obtain ⟨b, hb⟩ := h.near
  exact ⟨Nat.le_trans (List.length_take_le' _ _) h.len, fun q hq => h.ok q (List.mem_of_mem_take hq), b, fun q hq => hb q (List.mem_of_mem_take hq)⟩
theorem Gd.nil : Gd [] := ⟨by decide, (fun q hq => nomatch hq), 0, (fun q hq => nomatch hq)⟩
theorem Gd.of {ps : List (Int × Int)} {B : Int} (h : Sml 10 ps) (hl : (ps.length : Int) ≤ 12) (h0 : 0 ≤ B) (h1 : B ≤ 999999999991) : Gd (ps.map (mvI B)) := by
  refine ⟨by rw [List.length_map]; omega, fun q hq => ?_, B, fun q hq => ?_⟩
  all_goals
    obtain ⟨z, hz, rfl⟩ := List.mem_map.mp hq
    have := h.ok z hz
    unfold mvI
  · show (0 ≤ z.1 + B ∧ z.1 + B ≤ z.2 + B) ∧ z.2 + B ≤ 1000000000000
    omega
  · show B ≤ z.1 + B ∧ z.2 + B ≤ B + 9
    omega
theorem join_ok {ps qs : List (Int × Int)} {g : Int} (hp : Gd ps) (hq : Gd qs) (g0 : 1 ≤ g) (g1 : g ≤ 100000000000) (h : ps = [] ∨ ∃ hi, IsHi ps hi ∧ hi < 800000000000) : ∃ R, JoinR ps qs g R ∧ Vld R ∧ R.length ≤ 24 := by
  have l1 := hp.len
  have l2 := hq.len
  by_cases c1 : ps = [] ∨ qs = []
  · refine ⟨ps ++ qs, .inl ⟨c1, rfl⟩, fun z hz => ?_, by rw [List.length_append]; omega⟩
    rcases List.mem_append.mp hz with hz | hz
    · exact hp.ok z hz
    · exact hq.ok z hz
  · have n1 : ps ≠ [] := fun e => c1 (.inl e)
    have n2 : qs ≠ [] := fun e => c1 (.inr e)
    obtain ⟨lo, hlo⟩ := exists_lo n2
    rcases h with h | ⟨hi, hhi, hb⟩
    · exact absurd h n1
    · refine ⟨_, .inr ⟨⟨n1, n2⟩, hi, lo, hhi, hlo, rfl⟩, fun z hz => ?_, by rw [List.length_append, List.length_map]; omega⟩
      rcases List.mem_append.mp hz with hz | hz
      · exact hp.ok z hz
      · obtain ⟨y, hy, rfl⟩ := List.mem_map.mp hz
        obtain ⟨b, hnear⟩ := hq.near
        have b1 := hnear y hy
        have b2 := hlo.2 _ (List.mem_map.mpr ⟨y, hy, rfl⟩)
        obtain ⟨w, hw, ew⟩ := List.mem_map.mp hlo.1
        have b3 := hnear w hw
        have b4 := hq.ok y hy
        obtain ⟨v, hv, ev⟩ := List.mem_map.mp hhi.1
        have b5 := hp.ok v hv
        replace b2 : lo ≤ y.1 := b2
        replace ew : w.1 = lo := ew
        replace ev : v.2 = hi := ev
        unfold mvI
        show (0 ≤ y.1 + (hi + g - lo) ∧ y.1 + (hi + g - lo) ≤ y.2 + (hi + g - lo)) ∧ y.2 + (hi + g - lo) ≤ 1000000000000
        omega
def Pr (H : Hp) (v : V) : Prop := ∃ (t x y : Addr) (us ws : List V) (ps qs : List (Int × Int)), v = .ref t ∧ H t = some (.tup [.ref x, .ref y]) ∧ H x = some (.tup us) ∧ H y = some (.tup ws) ∧ Ivs H us ps ∧ Ivs H ws qs ∧ Gd ps ∧ Gd qs
theorem Pr.tps {H H' : Hp} (s : Tps H H') {v : V} (h : Pr H v) : Pr H' v := by
  obtain ⟨t, x, y, us, ws, ps, qs, e, e1, e2, e3, i1, i2, r⟩ := h
  exact ⟨t, x, y, us, ws, ps, qs, e, s _ _ e1, s _ _ e2, s _ _ e3, i1.tps s, i2.tps s, r⟩
theorem sm_pair {A B : PyData} {n : Nat} (h1 : Sm n 2 A) (h2 : Sm n 2 B) : Sm (2 * (n + 1)) 3 (.list [A, B]) := Sm.lst (n := n) (dp := 2) (ds := [A, B]) (fun d hd => by
  rcases List.mem_cons.mp hd with rfl | hd
  · exact h1
  · rcases List.mem_cons.mp hd with rfl | hd
    · exact h2
    · cases hd)
theorem at4 {α : Type} {r : Int} (h0 : 0 ≤ r) (h1 : r < 4) (x y z w : α) : ∃ v, atI [x, y, z, w] r = some v ∧ (v = x ∨ v = y ∨ v = z ∨ v = w) := by
  have : r = 0 ∨ r = 1 ∨ r = 2 ∨ r = 3 := by omega
  rcases this with rfl | rfl | rfl | rfl
  · exact ⟨x, rfl, .inl rfl⟩
  · exact ⟨y, rfl, .inr (.inl rfl)⟩
  · exact ⟨z, rfl, .inr (.inr (.inl rfl))⟩
  · exact ⟨w, rfl, .inr (.inr (.inr rfl))⟩
def sp_law (K : PySem.W.Frag) : Sp := fun vs H Q _ => ∃ (a : Addr) (ns : List Int), vs = [.ref a] ∧ SqL K H a (ns.map V.int) ∧ ns.length ≤ 63 ∧ ∀ H', Q (.bl true) H'
theorem ok_law (T : Tx K mg f_is_number f_is_position f_is_tuple_of f_is_interval f_require_positions f_shift_targets f_join_targets f_law_deck f_law_draw f_law_same f_law_small f_law_moved f_law_due f_law d_is_number d_is_position d_is_tuple_of d_is_interval d_require_positions d_shift_targets d_join_targets d_law_deck d_law_draw d_law_same d_law_small d_law_moved d_law_due d_law t_LAST_POSITION t_MAX_TARGETS) : FnG P w K mg base 7 f_law d_law ["_law_script"] (sp_law K) := by
  refine FnG.of T.F_law sc_law (fun {vs H Q} h => ?_) (fun cdv A outer s H vs Q hr hq h => ?_)
  · obtain ⟨a, ns, rfl, _⟩ := h
    rfl
  · obtain ⟨a, ns, rfl, hS, hlen, q⟩ := h
    refine ⟨_, (pss_cons (ps_set (i := 1) sc_law.nd rfl (Or.inl rfl) (pe_call (ok_law_deck T) (hr.mono (by decide)) (by rfl) T.g_law_deck T.F_law_deck.kp T.b_law_deck .nil pass0 (pa_cons (pv 0) pa_nil)))
      (pss_cons (ps_for PassesOwn.never rfl (pi_range1 (by rfl) T.z_range (pa_cons pe_int pa_nil)) (pg_name (i := 2) sc_law.nd rfl (Or.inl rfl))
      (pss_cons (ps_set (i := 3) sc_law.nd rfl (Or.inl rfl) (pe_call (ok_law_moved T) (hr.mono (by decide)) (by rfl) T.g_law_moved T.F_law_moved.kp T.b_law_moved .nil pass0 (pa_cons (pe_call (ok_law_small T) (hr.mono (by decide)) (by rfl) T.g_law_small T.F_law_small.kp T.b_law_small .nil pass0 (pa_cons (pv 1) (pa_cons pe_int (pa_cons pe_int pa_nil)))) (pa_cons (pe_ix ix_list (pe_lst (pa_cons pe_int (pa_cons pe_int (pa_cons (pe_op op_pow pe_int pe_int) pa_nil)))) (pe_call (ok_law_draw T) (hr.mono (by decide)) (by rfl) T.g_law_draw T.F_law_draw.kp T.b_law_draw .nil pass0 (pa_cons (pv 1) (pa_cons pe_int pa_nil))) (fun _ _ => rfl)) pa_nil))))
      (pss_cons (ps_set (i := 4) sc_law.nd rfl (Or.inl rfl) (pe_call (ok_law_moved T) (hr.mono (by decide)) (by rfl) T.g_law_moved T.F_law_moved.kp T.b_law_moved .nil pass0 (pa_cons (pe_call (ok_law_small T) (hr.mono (by decide)) (by rfl) T.g_law_small T.F_law_small.kp T.b_law_small .nil pass0 (pa_cons (pv 1) (pa_cons pe_int (pa_cons pe_int pa_nil)))) (pa_cons (pe_ix ix_list (pe_lst (pa_cons pe_int (pa_cons pe_int (pa_cons (pe_op op_sub (pe_op op_pow pe_int pe_int) pe_int) pa_nil)))) (pe_call (ok_law_draw T) (hr.mono (by decide)) (by rfl) T.g_law_draw T.F_law_draw.kp T.b_law_draw .nil pass0 (pa_cons (pv 1) (pa_cons pe_int pa_nil))) (fun _ _ => rfl)) pa_nil))))
      (pss_cons (ps_set (i := 5) sc_law.nd rfl (Or.inl rfl) (pe_ix ix_list (pe_lst (pa_cons pe_int (pa_cons pe_int (pa_cons (pe_op op_add pe_int (pe_call (ok_law_draw T) (hr.mono (by decide)) (by rfl) T.g_law_draw T.F_law_draw.kp T.b_law_draw .nil pass0 (pa_cons (pv 1) (pa_cons pe_int pa_nil)))) (pa_cons (pe_op op_pow pe_int pe_int) pa_nil))))) (pe_call (ok_law_draw T) (hr.mono (by decide)) (by rfl) T.g_law_draw T.F_law_draw.kp T.b_law_draw .nil pass0 (pa_cons (pv 1) (pa_cons pe_int pa_nil))) (fun _ _ => rfl)))
      (pss_cons (ps_set (i := 6) sc_law.nd rfl (Or.inl rfl) (pe_callB (call_reprD hq hr.units) (by rfl) T.z_repr (by decide +kernel) (pa_cons (pe_lst (pa_cons (pv 3) (pa_cons (pv 4) pa_nil))) pa_nil)))
      (pss_cons (ps_for PassesOwn.never rfl (pi_list (pe_lst (pa_cons (pe_tup (pa_cons (pv 3) (pa_cons (pv 4) pa_nil))) (pa_cons (pe_tup (pa_cons (pe_slice sl_tupA (pv 4) po_none (po_some pe_int)) (pa_cons (pv 3) pa_nil))) (pa_cons (pe_tup (pa_cons (pv 3) (pa_cons (pe_tup pa_nil) pa_nil))) (pa_cons (pe_tup (pa_cons (pe_tup pa_nil) (pa_cons (pv 4) pa_nil))) (pa_cons (pe_tup (pa_cons (pe_tup pa_nil) (pa_cons (pe_tup pa_nil) pa_nil))) (pa_cons (pe_tup (pa_cons (pv 3) (pa_cons (pv 3) pa_nil))) pa_nil)))))))) (pg_tup rfl (pgs_cons (pg_name (i := 7) sc_law.nd rfl (Or.inl rfl)) (pgs_cons (pg_name (i := 8) sc_law.nd rfl (Or.inl rfl)) pgs_nil)))
      (pss_one (ps_if (PW.pt (pw_or (pt_cmpR (op_eqE hr.units0) (pv 7) (pe_tup pa_nil) (nomark _)) (pw_or1 (pt_cmpR op_lt (pe_callB (cr_max rfl) (by rfl) T.z_max (by decide +kernel) (pa_cons (pe_lc (own := [("_law_low", 9), ("_law_high", 10)]) (g := (gTup K 2 (gCons (gName 9) (gCons (gName 10) gNil)))) (tt := tYes) (by rfl) sc_law.nd (pi_tup (pv 7)) (blkOk_by (own := [("_law_low", 9), ("_law_high", 10)]) (N := N_law) (sc := defScope s_law) (by decide +kernel)) (fun _ _ _ _ _ => (pg_tup rfl (pgs_cons (pg_name (i := 9) sc_law.nd rfl (Or.inl rfl)) (pgs_cons (pg_name (i := 10) sc_law.nd rfl (Or.inl rfl)) pgs_nil)))) (fun _ _ _ _ _ => pts_nil) (fun _ _ _ _ _ => (pv 10))) pa_nil)) (pe_op op_sub (pe_op op_pow pe_int pe_int) (pe_op op_mulW pe_int (pe_op op_pow pe_int pe_int))) (nomark _)))))
      (pss_one (ps_if (pt_not (pt_val (pe_call (ok_law_same T) (hr.mono (by decide)) (by rfl) T.g_law_same T.F_law_same.kp T.b_law_same .nil pass0 (pa_cons (pe_call (ok_join_targets T) (hr.mono (by decide)) (by rfl) T.g_join_targets T.F_join_targets.kp T.b_join_targets .nil pass0 (pa_cons (pv 7) (pa_cons (pv 8) (pa_cons (pv 5) pa_nil)))) (pa_cons (pe_call (ok_law_due T) (hr.mono (by decide)) (by rfl) T.g_law_due T.F_law_due.kp T.b_law_due .nil pass0 (pa_cons (pv 7) (pa_cons (pv 8) (pa_cons (pv 5) pa_nil)))) pa_nil)))))
      (pss_one (ps_ret pe_bl))
      pss_nil))
      pss_nil)))
      (pss_one (ps_if (pt_cmpR op_ne (pe_callB (call_reprD hq hr.units) (by rfl) T.z_repr (by decide +kernel) (pa_cons (pe_lst (pa_cons (pv 3) (pa_cons (pv 4) pa_nil))) pa_nil)) (pv 6) (nomark _))
      (pss_one (ps_ret pe_bl))
      pss_nil))))))))
      (pss_one (ps_ret pe_bl)))), ?_⟩
    refine ⟨.ref a, rfl, a, ns, rfl, hS, hlen, fun H1 d c s1 nd nc dk0 => ?_⟩
    refine ⟨5, rfl, by decide, by decide, for_range (n := 5) (fun i σ H' => (∃ n : Int, Dk H' d c n ∧ 0 ≤ n ∧ n ≤ 100 * i) ∧ ∃ y2 y3 y4 y5 y6 y7 y8 y9 y10, σ = [some (.ref a), some (.ref d), y2, y3, y4, y5, y6, y7, y8, y9, y10])
      ⟨⟨0, dk0, by decide, by decide⟩, _, _, _, _, _, _, _, _, _, rfl⟩ ?_ (fun σ H' _ => q H')⟩
    rintro i σ H2 hi ⟨⟨n, dk2, n0, n1⟩, y2, y3, y4, y5, y6, y7, y8, y9, y10, rfl⟩
    -- first
    refine ⟨.ref d, rfl, d, c, n, 12, 10, rfl, dk2, n0, by omega, by decide, by decide, by decide, by decide, fun H3 t0 us0 ts0 m3 kp3 dk3 m30 m31 et0 iv0 row0 tl0 => ?_⟩
    refine ⟨10, 11, rfl, rfl, ⟨by decide, by decide, by decide⟩, by show 3 ≤ sizeLine; decide, fun p np => ?_⟩
    have offp := dk3.off np
    have sp := same_new (o := .lst [.int 0, .int 5, .int ((10 : Int) ^ (11 : Int).toNat)]) np
    refine ⟨.ref d, rfl, d, c, m3, 3, rfl, dk3.kept sp, by omega, by omega, by decide, by decide, fun H4 r kp4 dk4 r0 r1 => ?_⟩
    obtain ⟨B, eB, B0, B1⟩ : ∃ B : Int, atI [V.int 0, .int 5, .int ((10 : Int) ^ (11 : Int).toNat)] r = some (.int B) ∧ 0 ≤ B ∧ B ≤ 999999999991 := by
      obtain ⟨v, ev, h⟩ := at3 r0 r1 (V.int 0) (.int 5) (.int ((10 : Int) ^ (11 : Int).toNat))
      rcases h with rfl | rfl | rfl
      · exact ⟨_, ev, by decide, by decide⟩
      · exact ⟨_, ev, by decide, by decide⟩
      · exact ⟨_, ev, by decide, by decide⟩
    refine ⟨p, _, r, _, rfl, rfl, SqL.of (kp4.keep offp upd_same), eB, ?_⟩
    have t34 : Tps H3 H4 := (Tps.same sp).trans (kp4.tps (dk3.kept sp))
    refine ⟨t0, B, us0, ts0, rfl, t34 _ _ et0, iv0.tps t34, by omega, fun H5 ff fus s5 eff fiv => ?_⟩
    have gf : Gd (ts0.map (mvI B)) := Gd.of row0 tl0 B0 B1
    generalize ts0.map (mvI B) = fs at *
    have dk5 := dk4.kept s5
    -- second
    refine ⟨.ref d, rfl, d, c, m3 + 1, 12, 10, rfl, dk5, by omega, by omega, by decide, by decide, by decide, by decide, fun H6 t1 us1 ts1 m6 kp6 dk6 m60 m61 et1 iv1 row1 tl1 => ?_⟩
    refine ⟨10, 12, rfl, rfl, ⟨by decide, by decide, by decide⟩, _, _, rfl, rfl, by show 3 ≤ sizeLine; decide, fun p2 np2 => ?_⟩
    have offp2 := dk6.off np2
    have sp2 := same_new (o := .lst [.int 0, .int 7, .int ((10 : Int) ^ (12 : Int).toNat - 9)]) np2
    refine ⟨.ref d, rfl, d, c, m6, 3, rfl, dk6.kept sp2, by omega, by omega, by decide, by decide, fun H7 r2 kp7 dk7 r20 r21 => ?_⟩
    obtain ⟨B2, eB2, B20, B21⟩ : ∃ B : Int, atI [V.int 0, .int 7, .int ((10 : Int) ^ (12 : Int).toNat - 9)] r2 = some (.int B) ∧ 0 ≤ B ∧ B ≤ 999999999991 := by
      obtain ⟨v, ev, h⟩ := at3 r20 r21 (V.int 0) (.int 7) (.int ((10 : Int) ^ (12 : Int).toNat - 9))
      rcases h with rfl | rfl | rfl
      · exact ⟨_, ev, by decide, by decide⟩
      · exact ⟨_, ev, by decide, by decide⟩
      · exact ⟨_, ev, by decide, by decide⟩
    refine ⟨p2, _, r2, _, rfl, rfl, SqL.of (kp7.keep offp2 upd_same), eB2, ?_⟩
    have t67 : Tps H6 H7 := (Tps.same sp2).trans (kp7.tps (dk6.kept sp2))
    refine ⟨t1, B2, us1, ts1, rfl, t67 _ _ et1, iv1.tps t67, by omega, fun H8 gg gus s8 egg giv => ?_⟩
    have ggd : Gd (ts1.map (mvI B2)) := Gd.of row1 tl1 B20 B21
    generalize ts1.map (mvI B2) = gs at *
    have dk8 := dk7.kept s8
    have t58 : Tps H5 H8 := (kp6.tps dk5).trans (t67.trans (Tps.same s8))
    have eff8 := t58 _ _ eff
    have fiv8 := fiv.tps t58
    -- gap
    refine ⟨.ref d, rfl, d, c, m6 + 1, 50, rfl, dk8, by omega, by omega, by decide, by decide, fun H9 r3 kp9 dk9 r30 r31 => ?_⟩
    refine ⟨_, _, rfl, rfl, 10, 11, rfl, rfl, ⟨by decide, by decide, by decide⟩, by show 4 ≤ sizeLine; decide, fun p3 np3 => ?_⟩
    have offp3 := dk9.off np3
    have sp3 := same_new (o := .lst [.int 1, .int 2, .int (1 + r3), .int ((10 : Int) ^ (11 : Int).toNat)]) np3
    refine ⟨.ref d, rfl, d, c, m6 + 1 + 1, 4, rfl, dk9.kept sp3, by omega, by omega, by decide, by decide, fun Ha r4 kpa dka r40 r41 => ?_⟩
    obtain ⟨g, eg, g0, g1⟩ : ∃ g : Int, atI [V.int 1, .int 2, .int (1 + r3), .int ((10 : Int) ^ (11 : Int).toNat)] r4 = some (.int g) ∧ 1 ≤ g ∧ g ≤ 100000000000 := by
      obtain ⟨v, ev, h⟩ := at4 r40 r41 (V.int 1) (.int 2) (.int (1 + r3)) (.int ((10 : Int) ^ (11 : Int).toNat))
      rcases h with rfl | rfl | rfl | rfl
      · exact ⟨_, ev, by decide, by decide⟩
      · exact ⟨_, ev, by decide, by decide⟩
      · exact ⟨_, ev, by omega, by omega⟩
      · exact ⟨_, ev, by decide, by decide⟩
    refine ⟨p3, _, r4, _, rfl, rfl, SqL.of (kpa.keep offp3 upd_same), eg, ?_⟩
    have t8a : Tps H8 Ha := (kp9.tps dk8).trans ((Tps.same sp3).trans (kpa.tps (dk9.kept sp3)))
    have effa := t8a _ _ eff8
    have fiva := fiv8.tps t8a
    have egga := t8a _ _ egg
    have giva := giv.tps t8a
    -- kept
    have lf := gf.len
    have lg := ggd.len
    have bnd : ∀ {xs : List (Int × Int)}, Gd xs → ∀ q ∈ xs, q.1.natAbs < 10 ^ 30 ∧ q.2.natAbs < 10 ^ 30 := fun h q hq => by
      have := h.ok q hq
      omega
    obtain ⟨dd, dpl, smd⟩ : ∃ dd : PyData, (∀ (H' : Hp) (l : Addr), Same Ha H' → H' l = some (.lst [.ref ff, .ref gg]) → Dp K H' (.ref l) dd) ∧ Sm 20000 3 dd :=
      ⟨.list [.tuple (fs.map pairD), .tuple (gs.map pairD)], fun H' l s e => .lst (SqL.of e) (.cons (.tup (SqT.of (s _ _ effa)) (fiva.same s).dp) (.cons (.tup (SqT.of (s _ _ egga)) (giva.same s).dp) .nil)), (sm_pair (sm_rowT (n := 12) (bnd gf) lf) (sm_rowT (n := 12) (bnd ggd) lg)).mono (by decide) (by decide)⟩
    refine ⟨.ref ff, rfl, .ref gg, rfl, by show 2 ≤ sizeLine; decide, fun l0 nl0 => ?_⟩
    have sb := same_new (o := .lst [.ref ff, .ref gg]) nl0
    refine ⟨.ref l0, dd, _, _, rfl, dpl _ _ sb upd_same, smd, by decide, by decide, ?_⟩
    generalize upd Ha l0 (.lst [.ref ff, .ref gg]) = Hb at *
    -- the six pairs
    refine ⟨.ref ff, rfl, .ref gg, rfl, by show 2 ≤ sizeLine; decide, fun w1 nw1 => ?_⟩
    have sc := same_new (o := .tup [.ref ff, .ref gg]) nw1
    have ew1 := upd_same (H := Hb) (a := w1) (o := .tup [.ref ff, .ref gg])
    generalize upd Hb w1 (.tup [.ref ff, .ref gg]) = Hc at *
    refine ⟨.ref gg, rfl, 3, rfl, slA_any (sc _ _ (sb _ _ egga)) (fun Hd cu sd ecu => ?_)⟩
    rw [show cutV gus none (some 3) = gus.take 3 from cutTo gus 3] at ecu
    refine ⟨.ref ff, rfl, by show 2 ≤ sizeLine; decide, fun w2 nw2 => ?_⟩
    have se := same_new (o := .tup [.ref cu, .ref ff]) nw2
    have ew2 := upd_same (H := Hd) (a := w2) (o := .tup [.ref cu, .ref ff])
    generalize upd Hd w2 (.tup [.ref cu, .ref ff]) = He at *
    refine ⟨.ref ff, rfl, by show 0 ≤ sizeLine; decide, fun o1 no1 => ?_⟩
    have sf := same_new (o := .tup []) no1
    have eo1 := upd_same (H := He) (a := o1) (o := .tup [])
    generalize upd He o1 (.tup []) = Hf at *
    refine ⟨by show 2 ≤ sizeLine; decide, fun w3 nw3 => ?_⟩
    have sg := same_new (o := .tup [.ref ff, .ref o1]) nw3
    have ew3 := upd_same (H := Hf) (a := w3) (o := .tup [.ref ff, .ref o1])
    generalize upd Hf w3 (.tup [.ref ff, .ref o1]) = Hg at *
    refine ⟨by show 0 ≤ sizeLine; decide, fun o2 no2 => ?_⟩
    have sh := same_new (o := .tup []) no2
    have eo2 := upd_same (H := Hg) (a := o2) (o := .tup [])
    generalize upd Hg o2 (.tup []) = Hh at *
    refine ⟨.ref gg, rfl, by show 2 ≤ sizeLine; decide, fun w4 nw4 => ?_⟩
    have si := same_new (o := .tup [.ref o2, .ref gg]) nw4
    have ew4 := upd_same (H := Hh) (a := w4) (o := .tup [.ref o2, .ref gg])
    generalize upd Hh w4 (.tup [.ref o2, .ref gg]) = Hi at *
    refine ⟨by show 0 ≤ sizeLine; decide, fun o3 no3 => ?_⟩
    have sj := same_new (o := .tup []) no3
    have eo3 := upd_same (H := Hi) (a := o3) (o := .tup [])
    generalize upd Hi o3 (.tup []) = Hj at *
    refine ⟨by show 0 ≤ sizeLine; decide, fun o4 no4 => ?_⟩
    have sk := same_new (o := .tup []) no4
    have eo4 := upd_same (H := Hj) (a := o4) (o := .tup [])
    generalize upd Hj o4 (.tup []) = Hk at *
    refine ⟨by show 2 ≤ sizeLine; decide, fun w5 nw5 => ?_⟩
    have sl := same_new (o := .tup [.ref o3, .ref o4]) nw5
    have ew5 := upd_same (H := Hk) (a := w5) (o := .tup [.ref o3, .ref o4])
    generalize upd Hk w5 (.tup [.ref o3, .ref o4]) = Hl at *
    refine ⟨.ref ff, rfl, .ref ff, rfl, by show 2 ≤ sizeLine; decide, fun w6 nw6 => ?_⟩
    have sm := same_new (o := .tup [.ref ff, .ref ff]) nw6
    have ew6 := upd_same (H := Hl) (a := w6) (o := .tup [.ref ff, .ref ff])
    generalize upd Hl w6 (.tup [.ref ff, .ref ff]) = Hm at *
    refine ⟨by show 6 ≤ sizeLine; decide, fun pl npl => ?_⟩
    have sn := same_new (o := .lst [.ref w1, .ref w2, .ref w3, .ref w4, .ref w5, .ref w6]) npl
    have epl := upd_same (H := Hm) (a := pl) (o := .lst [.ref w1, .ref w2, .ref w3, .ref w4, .ref w5, .ref w6])
    generalize upd Hm pl (.lst [.ref w1, .ref w2, .ref w3, .ref w4, .ref w5, .ref w6]) = Hn at *
    have sln := sm.trans sn
    have skn := sl.trans sln
    have sjn := sk.trans skn
    have sin := sj.trans sjn
    have shn := si.trans sin
    have sgn := sh.trans shn
    have sfn := sg.trans sgn
    have sen := sf.trans sfn
    have sdn := se.trans sen
    have scn := sd.trans sdn
    have sbn := sc.trans scn
    have san := sb.trans sbn
    have effn := san _ _ effa
    have fivn := fiva.same san
    have eggn := san _ _ egga
    have givn := giva.same san
    have all : ∀ v ∈ [V.ref w1, .ref w2, .ref w3, .ref w4, .ref w5, .ref w6], Pr Hn v := fun v hv => by
      rcases List.mem_cons.mp hv with rfl | hv
      · exact ⟨w1, ff, gg, fus, gus, fs, gs, rfl, scn _ _ ew1, effn, eggn, fivn, givn, gf, ggd⟩
      rcases List.mem_cons.mp hv with rfl | hv
      · exact ⟨w2, cu, ff, _, fus, _, fs, rfl, sen _ _ ew2, sdn _ _ ecu, effn, givn.take 3, fivn, ggd.take 3, gf⟩
      rcases List.mem_cons.mp hv with rfl | hv
      · exact ⟨w3, ff, o1, fus, _, fs, [], rfl, sgn _ _ ew3, effn, sfn _ _ eo1, fivn, .nil, gf, Gd.nil⟩
      rcases List.mem_cons.mp hv with rfl | hv
      · exact ⟨w4, o2, gg, _, gus, [], gs, rfl, sin _ _ ew4, shn _ _ eo2, eggn, .nil, givn, Gd.nil, ggd⟩
      rcases List.mem_cons.mp hv with rfl | hv
      · exact ⟨w5, o3, o4, _, _, [], [], rfl, sln _ _ ew5, sjn _ _ eo3, skn _ _ eo4, .nil, .nil, Gd.nil, Gd.nil⟩
      · rw [List.mem_singleton.mp hv]
        exact ⟨w6, ff, ff, fus, fus, fs, fs, rfl, sn _ _ ew6, effn, effn, fivn, fivn, gf, gf⟩
    generalize [V.ref w1, .ref w2, .ref w3, .ref w4, .ref w5, .ref w6] = wl at *
    refine ⟨pl, rfl, ⟨_, SqL.of epl⟩, ?_⟩
    refine for_list (K := K) (a := pl) (xs := wl) (D := ⟨_, _, fun _ _ => True, fun _ _ => True⟩) (fun j σ H' => Same Hn H' ∧ ∃ x6 z7 z8 z9 z10, x6 = some (V.str _) ∧ σ = [some (.ref a), some (.ref d), some (.int (0 + (i : Nat))), some (.ref ff), some (.ref gg), some (.int g), x6, z7, z8, z9, z10])
      ⟨Same.refl _, _, _, _, _, _, rfl, rfl⟩ (fun j σ H' _ h => SqL.of (h.1 _ _ epl)) ?_ ?_
    · rintro j v σ Ho hj ⟨so, x6, z7, z8, z9, z10, e6, rfl⟩
      subst e6
      obtain ⟨t, x, y, us, ws, ps, qs, rfl, et, ex, ey, ivp, ivq, gp, gq⟩ := (all v (List.mem_of_getElem? hj)).tps (Tps.same so)
      refine ⟨t, _, rfl, SqT.of et, rfl, .ref x, [.ref y], rfl, .ref y, [], rfl, rfl, ?_⟩
      refine ⟨.ref x, rfl, by show 0 ≤ sizeLine; decide, fun e0 ne0 => ?_⟩
      have s0 := same_new (o := .tup []) ne0
      have ee0 := upd_same (H := Ho) (a := e0) (o := .tup [])
      generalize upd Ho e0 (.tup []) = Hp at *
      have lp := gp.len
      have lq := gq.len
      have lu := ivp.length
      refine ⟨x, e0, us, rfl, rfl, SqT.of (s0 _ _ ex), SqT.of ee0, _, rfl, ?_⟩
      rw [ivp.isEmpty]
      by_cases c1 : ps = []
      · rw [show ps.isEmpty = true by rw [c1]; rfl]
        refine iteT (iteT ?_)
        obtain ⟨R, jr, vr, lr⟩ := join_ok gp gq g0 g1 (.inl c1)
        refine ⟨.ref x, rfl, .ref y, rfl, .int g, rfl, x, y, g, us, ws, ps, qs, R, rfl, s0 _ _ ex, s0 _ _ ey, ivp.same s0, ivq.same s0, lp, lq, jr, vr, fun H1 f1 fz s1 ef1 fiv1 => ?_⟩
        have s01 := s0.trans s1
        refine ⟨.ref x, rfl, .ref y, rfl, .int g, rfl, x, y, g, us, ws, ps, qs, R, rfl, s01 _ _ ex, s01 _ _ ey, ivp.same s01, ivq.same s01, lp, lq, jr, fun H2 f2 fz2 s2 ef2 fiv2 => ?_⟩
        refine ⟨f1, f2, fz, fz2, R, rfl, s2 _ _ ef1, ef2, fiv1.same s2, fiv2, by omega, fun H3 s3 => ?_⟩
        refine ⟨_, rfl, iteF ?_⟩
        exact ⟨so.trans (s01.trans (s2.trans s3)), _, _, _, _, _, rfl, rfl⟩
      have n1 : ps.isEmpty = false := by
        cases ps with
        | nil => exact absurd rfl c1
        | cons x r => rfl
      rw [n1]
      refine iteF ?_
      have p1 : 0 < ps.length := by
        cases ps with
        | nil => exact absurd rfl c1
        | cons x r => exact Nat.succ_pos _
      have ex0 := s0 _ _ ex
      have ivp0 := ivp.same s0
      refine ⟨.ref x, rfl, x, rfl, ⟨_, SqT.of ex0⟩, fun D2 nD2 => ?_⟩
      refine lcT (K := K) (a := x) (xs := us) (fun j H' zs => zs = ((ps.take j).map (fun q : Int × Int => q.2)).map V.int) nD2 (fun H' s => SqT.of (s _ _ ex0)) (by omega) (fun _ _ _ _ _ h => h) (fun j H' ws h => by rw [h, List.length_map, List.length_map]; exact List.length_take_le _ _) (fun _ => rfl) ?_ ?_
      · rintro j v H' N acc hj sm eA sz r no yes
        obtain ⟨bb, x, y, rfl, ep, hb⟩ := ivp0.get hj
        refine ⟨bb, _, rfl, SqT.of (sm _ _ hb), rfl, .int x, [.int y], rfl, .int y, [], rfl, rfl, rfl, .int y, rfl, yes _ _ (Same.refl _) ?_⟩
        rw [map_take_snoc ep, List.map_append, r]
        rfl
      rintro Hq zs s1 eD2 r
      rw [lu, List.take_length] at r
      subst r
      refine ⟨D2, ps.map (fun q : Int × Int => q.2), rfl, SqL.of eD2, by rw [List.length_map]; exact p1, fun hi' hh top => ?_⟩
      have s01 := s0.trans s1
      refine ⟨10, 12, rfl, rfl, ⟨by decide, by decide, by decide⟩, 10, 11, rfl, rfl, ⟨by decide, by decide, by decide⟩, _, _, rfl, rfl, wide_mul (a := 2) (b := 38) (by decide) (by decide) (by decide) (by decide) (by decide), _, _, rfl, rfl, _, _, rfl, rfl, _, rfl, ite2 (fun c2 => ?_) (fun _ => ?_)⟩
      · have c2 := of_decide_eq_true c2
        rw [show (10 : Int) ^ (12 : Int).toNat - 2 * (10 : Int) ^ (11 : Int).toNat = 800000000000 by decide] at c2
        obtain ⟨R, jr, vr, lr⟩ := join_ok gp gq g0 g1 (.inr ⟨hi', ⟨hh, top⟩, c2⟩)
        refine ⟨.ref x, rfl, .ref y, rfl, .int g, rfl, x, y, g, us, ws, ps, qs, R, rfl, s01 _ _ ex, s01 _ _ ey, ivp.same s01, ivq.same s01, lp, lq, jr, vr, fun H1 f1 fz s2 ef1 fiv1 => ?_⟩
        have s02 := s01.trans s2
        refine ⟨.ref x, rfl, .ref y, rfl, .int g, rfl, x, y, g, us, ws, ps, qs, R, rfl, s02 _ _ ex, s02 _ _ ey, ivp.same s02, ivq.same s02, lp, lq, jr, fun H2 f2 fz2 s3 ef2 fiv2 => ?_⟩
        refine ⟨f1, f2, fz, fz2, R, rfl, s3 _ _ ef1, ef2, fiv1.same s3, fiv2, by omega, fun H3 s4 => ?_⟩
        refine ⟨_, rfl, iteF ?_⟩
        exact ⟨so.trans (s02.trans (s3.trans s4)), _, _, _, _, _, rfl, rfl⟩
      · exact ⟨so.trans s01, _, _, _, _, _, rfl, rfl⟩
    · rintro σ Ho ⟨so, x6, z7, z8, z9, z10, e6, rfl⟩
      subst e6
      refine ⟨.ref ff, rfl, .ref gg, rfl, by show 2 ≤ sizeLine; decide, fun l1 nl1 => ?_⟩
      have sp9 := same_new (o := .lst [.ref ff, .ref gg]) nl1
      refine ⟨.ref l1, dd, _, _, rfl, dpl _ _ (san.trans (so.trans sp9)) upd_same, smd, by decide, by decide, _, rfl, rfl, _, rfl, iteNS rfl ?_⟩
      exact ⟨⟨_, dka.kept (san.trans (so.trans sp9)), by omega, by omega⟩, _, _, _, _, _, _, _, _, _, rfl⟩

end
theorem all_mk {l : PySem.W.OpenLaw} {w : World} {K : PySem.W.Frag} {h : Heap} {mg : Str → Option Value} {fa f1 f2 f3 f4 f5 f6 f7 f8 f9 f10 f11 f12 f13 f14 : Addr} (X : K.In h) (G : h.Ns mainGlobals mg) (hfa : mg "law" = some (.ref fa))
    {od1 an1 od2 an2 od3 an3 od4 an4 od5 an5 od6 an6 od7 an7 od8 an8 od9 an9 od10 an10 od11 an11 od12 an12 od13 an13 od14 an14 : Option Addr} {sl1 sl2 sl3 sl4 sl5 sl6 sl7 sl8 sl9 sl10 sl11 sl12 sl13 sl14 : Array (Option Value)} {oc1 kV1 dc1 pm1 cd1 ct1 oc2 kV2 dc2 pm2 cd2 ct2 oc3 kV3 dc3 pm3 cd3 ct3 oc4 kV4 dc4 pm4 cd4 ct4 oc5 kV5 dc5 pm5 cd5 ct5 oc6 kV6 dc6 pm6 cd6 ct6 oc7 kV7 dc7 pm7 cd7 ct7 oc8 kV8 dc8 pm8 cd8 ct8 oc9 kV9 dc9 pm9 cd9 ct9 oc10 kV10 dc10 pm10 cd10 ct10 oc11 kV11 dc11 pm11 cd11 ct11 oc12 kV12 dc12 pm12 cd12 ct12 oc13 kV13 dc13 pm13 cd13 ct13 oc14 kV14 dc14 pm14 cd14 ct14 : Value} {tk0 tk1 : Tok}
    (a1 : PySem.W.nsIn K mainGlobals "is_number" = some (some (.ref f1))) (l1 : K.lookup f1 = some ⟨oc1, od1, .func (PySem.W.fnOf "is_number" "is_number" (defArgs s_is_number) (defBody s_is_number) (defScope s_is_number) .none kV1 dc1 pm1 an1 cd1 ct1), sl1⟩) (c1 : PySem.W.codeIn K cd1 "is_number" = true) (k1 : PySem.W.keepIn K (.ref f1) = true)
    (a2 : PySem.W.nsIn K mainGlobals "is_position" = some (some (.ref f2))) (l2 : K.lookup f2 = some ⟨oc2, od2, .func (PySem.W.fnOf "is_position" "is_position" (defArgs s_is_position) (defBody s_is_position) (defScope s_is_position) .none kV2 dc2 pm2 an2 cd2 ct2), sl2⟩) (c2 : PySem.W.codeIn K cd2 "is_position" = true) (k2 : PySem.W.keepIn K (.ref f2) = true)
    (a3 : PySem.W.nsIn K mainGlobals "is_tuple_of" = some (some (.ref f3))) (l3 : K.lookup f3 = some ⟨oc3, od3, .func (PySem.W.fnOf "is_tuple_of" "is_tuple_of" (defArgs s_is_tuple_of) (defBody s_is_tuple_of) (defScope s_is_tuple_of) .none kV3 dc3 pm3 an3 cd3 ct3), sl3⟩) (c3 : PySem.W.codeIn K cd3 "is_tuple_of" = true) (k3 : PySem.W.keepIn K (.ref f3) = true)
    (a4 : PySem.W.nsIn K mainGlobals "is_interval" = some (some (.ref f4))) (l4 : K.lookup f4 = some ⟨oc4, od4, .func (PySem.W.fnOf "is_interval" "is_interval" (defArgs s_is_interval) (defBody s_is_interval) (defScope s_is_interval) .none kV4 dc4 pm4 an4 cd4 ct4), sl4⟩) (c4 : PySem.W.codeIn K cd4 "is_interval" = true) (k4 : PySem.W.keepIn K (.ref f4) = true)
    (a5 : PySem.W.nsIn K mainGlobals "require_positions" = some (some (.ref f5))) (l5 : K.lookup f5 = some ⟨oc5, od5, .func (PySem.W.fnOf "require_positions" "require_positions" (defArgs s_require_positions) (defBody s_require_positions) (defScope s_require_positions) .none kV5 dc5 pm5 an5 cd5 ct5), sl5⟩) (c5 : PySem.W.codeIn K cd5 "require_positions" = true) (k5 : PySem.W.keepIn K (.ref f5) = true)
    (a6 : PySem.W.nsIn K mainGlobals "shift_targets" = some (some (.ref f6))) (l6 : K.lookup f6 = some ⟨oc6, od6, .func (PySem.W.fnOf "shift_targets" "shift_targets" (defArgs s_shift_targets) (defBody s_shift_targets) (defScope s_shift_targets) .none kV6 dc6 pm6 an6 cd6 ct6), sl6⟩) (c6 : PySem.W.codeIn K cd6 "shift_targets" = true) (k6 : PySem.W.keepIn K (.ref f6) = true)
    (a7 : PySem.W.nsIn K mainGlobals "join_targets" = some (some (.ref f7))) (l7 : K.lookup f7 = some ⟨oc7, od7, .func (PySem.W.fnOf "join_targets" "join_targets" (defArgs s_join_targets) (defBody s_join_targets) (defScope s_join_targets) .none kV7 dc7 pm7 an7 cd7 ct7), sl7⟩) (c7 : PySem.W.codeIn K cd7 "join_targets" = true) (k7 : PySem.W.keepIn K (.ref f7) = true)
    (a8 : PySem.W.nsIn K mainGlobals "_law_deck" = some (some (.ref f8))) (l8 : K.lookup f8 = some ⟨oc8, od8, .func (PySem.W.fnOf "_law_deck" "_law_deck" (defArgs s_law_deck) (defBody s_law_deck) (defScope s_law_deck) .none kV8 dc8 pm8 an8 cd8 ct8), sl8⟩) (c8 : PySem.W.codeIn K cd8 "_law_deck" = true) (k8 : PySem.W.keepIn K (.ref f8) = true)
    (a9 : PySem.W.nsIn K mainGlobals "_law_draw" = some (some (.ref f9))) (l9 : K.lookup f9 = some ⟨oc9, od9, .func (PySem.W.fnOf "_law_draw" "_law_draw" (defArgs s_law_draw) (defBody s_law_draw) (defScope s_law_draw) .none kV9 dc9 pm9 an9 cd9 ct9), sl9⟩) (c9 : PySem.W.codeIn K cd9 "_law_draw" = true) (k9 : PySem.W.keepIn K (.ref f9) = true)
    (a10 : PySem.W.nsIn K mainGlobals "_law_same" = some (some (.ref f10))) (l10 : K.lookup f10 = some ⟨oc10, od10, .func (PySem.W.fnOf "_law_same" "_law_same" (defArgs s_law_same) (defBody s_law_same) (defScope s_law_same) .none kV10 dc10 pm10 an10 cd10 ct10), sl10⟩) (c10 : PySem.W.codeIn K cd10 "_law_same" = true) (k10 : PySem.W.keepIn K (.ref f10) = true)
    (a11 : PySem.W.nsIn K mainGlobals "_law_small" = some (some (.ref f11))) (l11 : K.lookup f11 = some ⟨oc11, od11, .func (PySem.W.fnOf "_law_small" "_law_small" (defArgs s_law_small) (defBody s_law_small) (defScope s_law_small) .none kV11 dc11 pm11 an11 cd11 ct11), sl11⟩) (c11 : PySem.W.codeIn K cd11 "_law_small" = true) (k11 : PySem.W.keepIn K (.ref f11) = true)
    (a12 : PySem.W.nsIn K mainGlobals "_law_moved" = some (some (.ref f12))) (l12 : K.lookup f12 = some ⟨oc12, od12, .func (PySem.W.fnOf "_law_moved" "_law_moved" (defArgs s_law_moved) (defBody s_law_moved) (defScope s_law_moved) .none kV12 dc12 pm12 an12 cd12 ct12), sl12⟩) (c12 : PySem.W.codeIn K cd12 "_law_moved" = true) (k12 : PySem.W.keepIn K (.ref f12) = true)
    (a13 : PySem.W.nsIn K mainGlobals "_law_due" = some (some (.ref f13))) (l13 : K.lookup f13 = some ⟨oc13, od13, .func (PySem.W.fnOf "_law_due" "_law_due" (defArgs s_law_due) (defBody s_law_due) (defScope s_law_due) .none kV13 dc13 pm13 an13 cd13 ct13), sl13⟩) (c13 : PySem.W.codeIn K cd13 "_law_due" = true) (k13 : PySem.W.keepIn K (.ref f13) = true)
    (a14 : PySem.W.nsIn K mainGlobals "law" = some (some (.ref f14))) (l14 : K.lookup f14 = some ⟨oc14, od14, .func (PySem.W.fnOf "law" "law" (defArgs s_law) (defBody s_law) (defScope s_law) .none kV14 dc14 pm14 an14 cd14 ct14), sl14⟩) (c14 : PySem.W.codeIn K cd14 "law" = true) (k14 : PySem.W.keepIn K (.ref f14) = true)
    (y0 : PySem.W.nsIn K mainGlobals "LAST_POSITION" = some (some (.int 1000000000000 tk0))) (y1 : PySem.W.nsIn K mainGlobals "MAX_TARGETS" = some (some (.int 24 tk1))) (z0 : PySem.W.nsIn K mainGlobals "abs" = some none) (z1 : PySem.W.nsIn K mainGlobals "all" = some none) (z2 : PySem.W.nsIn K mainGlobals "bool" = some none) (z3 : PySem.W.nsIn K mainGlobals "int" = some none) (z4 : PySem.W.nsIn K mainGlobals "isinstance" = some none) (z5 : PySem.W.nsIn K mainGlobals "len" = some none) (z6 : PySem.W.nsIn K mainGlobals "max" = some none) (z7 : PySem.W.nsIn K mainGlobals "min" = some none) (z8 : PySem.W.nsIn K mainGlobals "range" = some none) (z9 : PySem.W.nsIn K mainGlobals "repr" = some none) (z10 : PySem.W.nsIn K mainGlobals "set" = some none) (z11 : PySem.W.nsIn K mainGlobals "sorted" = some none) (z12 : PySem.W.nsIn K mainGlobals "str" = some none) (z13 : PySem.W.nsIn K mainGlobals "tuple" = some none) (z14 : PySem.W.nsIn K mainGlobals "zip" = some none) :
    ∃ fd : FuncData, (∀ (s : Shared) (v : Value), BindsTo s fd ⟨[v], []⟩ [("_law_script", v)]) ∧ ∀ base : Heap, K.In base → base.Ns mainGlobals mg → (∃ mm, base.Ns sysModules mm) → FnG l.prog w K mg base 7 fa fd ["_law_script"] (sp_law K) := by
  have e := hfa.symm.trans (PySem.W.mg_of X G a14)
  cases e
  have F1 := fun_mk (st := s_is_number) l1 c1 k1
  have b1 := F1.binds (ps := ["value"]) fun _ _ _ _ _ _ us hl => match us, hl with | [_], _ => rfl
  have F2 := fun_mk (st := s_is_position) l2 c2 k2
  have b2 := F2.binds (ps := ["value"]) fun _ _ _ _ _ _ us hl => match us, hl with | [_], _ => rfl
  have F3 := fun_mk (st := s_is_tuple_of) l3 c3 k3
  have b3 := F3.binds (ps := ["value", "length"]) fun _ _ _ _ _ _ us hl => match us, hl with | [_, _], _ => rfl
  have F4 := fun_mk (st := s_is_interval) l4 c4 k4
  have b4 := F4.binds (ps := ["value"]) fun _ _ _ _ _ _ us hl => match us, hl with | [_], _ => rfl
  have F5 := fun_mk (st := s_require_positions) l5 c5 k5
  have b5 := F5.binds (ps := ["intervals"]) fun _ _ _ _ _ _ us hl => match us, hl with | [_], _ => rfl
  have F6 := fun_mk (st := s_shift_targets) l6 c6 k6
  have b6 := F6.binds (ps := ["targets", "by"]) fun _ _ _ _ _ _ us hl => match us, hl with | [_, _], _ => rfl
  have F7 := fun_mk (st := s_join_targets) l7 c7 k7
  have b7 := F7.binds (ps := ["first", "second", "gap"]) fun _ _ _ _ _ _ us hl => match us, hl with | [_, _, _], _ => rfl
  have F8 := fun_mk (st := s_law_deck) l8 c8 k8
  have b8 := F8.binds (ps := ["_law_script"]) fun _ _ _ _ _ _ us hl => match us, hl with | [_], _ => rfl
  have F9 := fun_mk (st := s_law_draw) l9 c9 k9
  have b9 := F9.binds (ps := ["_law_deck_here", "_law_many"]) fun _ _ _ _ _ _ us hl => match us, hl with | [_, _], _ => rfl
  have F10 := fun_mk (st := s_law_same) l10 c10 k10
  have b10 := F10.binds (ps := ["_law_found", "_law_due_here"]) fun _ _ _ _ _ _ us hl => match us, hl with | [_, _], _ => rfl
  have F11 := fun_mk (st := s_law_small) l11 c11 k11
  have b11 := F11.binds (ps := ["_law_deck_here", "_law_most", "_law_span"]) fun _ _ _ _ _ _ us hl => match us, hl with | [_, _, _], _ => rfl
  have F12 := fun_mk (st := s_law_moved) l12 c12 k12
  have b12 := F12.binds (ps := ["_law_intervals", "_law_by"]) fun _ _ _ _ _ _ us hl => match us, hl with | [_, _], _ => rfl
  have F13 := fun_mk (st := s_law_due) l13 c13 k13
  have b13 := F13.binds (ps := ["_law_first", "_law_second", "_law_gap"]) fun _ _ _ _ _ _ us hl => match us, hl with | [_, _, _], _ => rfl
  have F14 := fun_mk (st := s_law) l14 c14 k14
  have b14 := F14.binds (ps := ["_law_script"]) fun _ _ _ _ _ _ us hl => match us, hl with | [_], _ => rfl
  have T : Tx K mg _ _ _ _ _ _ _ _ _ _ _ _ _ _ _ _ _ _ _ _ _ _ _ _ _ _ _ _ tk0 tk1 := ⟨F1, b1, PySem.W.mg_of X G a1, F2, b2, PySem.W.mg_of X G a2, F3, b3, PySem.W.mg_of X G a3, F4, b4, PySem.W.mg_of X G a4, F5, b5, PySem.W.mg_of X G a5, F6, b6, PySem.W.mg_of X G a6, F7, b7, PySem.W.mg_of X G a7, F8, b8, PySem.W.mg_of X G a8, F9, b9, PySem.W.mg_of X G a9, F10, b10, PySem.W.mg_of X G a10, F11, b11, PySem.W.mg_of X G a11, F12, b12, PySem.W.mg_of X G a12, F13, b13, PySem.W.mg_of X G a13, F14, b14, PySem.W.mg_of X G a14, PySem.W.mg_of X G y0, PySem.W.mg_of X G y1, PySem.W.mg_none_of X G z0, PySem.W.mg_none_of X G z1, PySem.W.mg_none_of X G z2, PySem.W.mg_none_of X G z3, PySem.W.mg_none_of X G z4, PySem.W.mg_none_of X G z5, PySem.W.mg_none_of X G z6, PySem.W.mg_none_of X G z7, PySem.W.mg_none_of X G z8, PySem.W.mg_none_of X G z9, PySem.W.mg_none_of X G z10, PySem.W.mg_none_of X G z11, PySem.W.mg_none_of X G z12, PySem.W.mg_none_of X G z13, PySem.W.mg_none_of X G z14⟩
  exact ⟨_, fun s v => .of_eq rfl, fun base _ _ hM => ok_law T⟩
end L9
open PySem PySem.W PyProof.Rows
set_option maxHeartbeats 0 in
theorem PySem.Challenge.cw_fewspans_k45_targets_joined_holds : PySem.Challenge.rw_fewspans_k45_targets_joined.Holds := by
  w_on; o_law; k_head; (case hw => w_witness2)
  k_fill
  refine L9.quiet_walk (l := PySem.Challenge.rw_fewspans_k45_targets_joined) (n := 63) (k := 7) (x := "_law_script") (sp := fun w => L9.sp_law _) (by decide +kernel) rfl (by decide) rfl ⟨rfl, by decide, by decide⟩ (fun w h Y => PySem.W.kIn_of Y) ?F (fun _ _ a ns hl _ hS => ⟨a, ns, rfl, hS, hl, fun _ => rfl⟩)
  case F =>
    intro w mg fa h KX G hmg
    refine' L9.all_mk KX G hmg ?a1 ?l1 ?c1 ?k1 ?a2 ?l2 ?c2 ?k2 ?a3 ?l3 ?c3 ?k3 ?a4 ?l4 ?c4 ?k4 ?a5 ?l5 ?c5 ?k5 ?a6 ?l6 ?c6 ?k6 ?a7 ?l7 ?c7 ?k7 ?a8 ?l8 ?c8 ?k8 ?a9 ?l9 ?c9 ?k9 ?a10 ?l10 ?c10 ?k10 ?a11 ?l11 ?c11 ?k11 ?a12 ?l12 ?c12 ?k12 ?a13 ?l13 ?c13 ?k13 ?a14 ?l14 ?c14 ?k14 ?y0 ?y1 ?z0 ?z1 ?z2 ?z3 ?z4 ?z5 ?z6 ?z7 ?z8 ?z9 ?z10 ?z11 ?z12 ?z13 ?z14
    (case a1 => k_is)
    (case l1 => k_is)
    (case c1 => k_is)
    (case k1 => k_is)
    (case a2 => k_is)
    (case l2 => k_is)
    (case c2 => k_is)
    (case k2 => k_is)
    (case a3 => k_is)
    (case l3 => k_is)
    (case c3 => k_is)
    (case k3 => k_is)
    (case a4 => k_is)
    (case l4 => k_is)
    (case c4 => k_is)
    (case k4 => k_is)
    (case a5 => k_is)
    (case l5 => k_is)
    (case c5 => k_is)
    (case k5 => k_is)
    (case a6 => k_is)
    (case l6 => k_is)
    (case c6 => k_is)
    (case k6 => k_is)
    (case a7 => k_is)
    (case l7 => k_is)
    (case c7 => k_is)
    (case k7 => k_is)
    (case a8 => k_is)
    (case l8 => k_is)
    (case c8 => k_is)
    (case k8 => k_is)
    (case a9 => k_is)
    (case l9 => k_is)
    (case c9 => k_is)
    (case k9 => k_is)
    (case a10 => k_is)
    (case l10 => k_is)
    (case c10 => k_is)
    (case k10 => k_is)
    (case a11 => k_is)
    (case l11 => k_is)
    (case c11 => k_is)
    (case k11 => k_is)
    (case a12 => k_is)
    (case l12 => k_is)
    (case c12 => k_is)
    (case k12 => k_is)
    (case a13 => k_is)
    (case l13 => k_is)
    (case c13 => k_is)
    (case k13 => k_is)
    (case a14 => k_is)
    (case l14 => k_is)
    (case c14 => k_is)
    (case k14 => k_is)
    (case y0 => k_is)
    (case y1 => k_is)
    (case z0 => k_is)
    (case z1 => k_is)
    (case z2 => k_is)
    (case z3 => k_is)
    (case z4 => k_is)
    (case z5 => k_is)
    (case z6 => k_is)
    (case z7 => k_is)
    (case z8 => k_is)
    (case z9 => k_is)
    (case z10 => k_is)
    (case z11 => k_is)
    (case z12 => k_is)
    (case z13 => k_is)
    (case z14 => k_is)
