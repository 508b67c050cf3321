import PyProof.Rows.All
import Wide.All
import OpenK.AllK
import Wide.FinOn
import PySem.Challenge.RW_fewspans_k58_rectangles_judged
import HandS.ForMost
import HandS.Wide
import HandS.IsInst
import HandS.Conv
import HandS.TupLe
import HandS.Strs
import HandS.Style
import HandS.TupSets
import HandS.TupAny
import HandS.SetBool
import HandS.Keys
import HandS.Zip
import HandS.TupMul
import HandS.NoneIn
import PyProof.NeKinds
import KE.GoesEnum
import KE.GoesMore
set_option Elab.async false
set_option linter.all false
set_option maxRecDepth 100000
set_option maxHeartbeats 4000000
namespace L9
open PySem PySem.Spec PyProof.Rows L2
/-! ### defs that are run where no text-making of the machine is under way (repr, str of nested data ask for it) -/
abbrev Quiet (A : Around) : Prop := A.guards = some []
structure FnG (P : Program) (w : World) (K : PySem.W.Frag) (mg : Str → Option Value) (base : Heap) (k : Nat) (f : Addr) (fd : FuncData) (ps : List Str) (sp : Sp) : Prop where
  size : ∀ {vs H Q}, sp vs H Q E0 → vs.length = ps.length
  go : ∀ {A outer s H us vs Q}, Room k A → Quiet A → Env0 P w K mg base A outer s H → BindsTo s fd ⟨us, []⟩ (ps.zip us) → Vals vs us → sp vs H Q E0 →
    codeAny (model P w) A (.call (.ref f) ⟨us, []⟩) (CR CX0 outer P w H s Q E0) s
section
variable {P : Program} {w : World} {K : PySem.W.Frag} {mg : Str → Option Value} {base : Heap}
theorem FnG.of {x qual : Str} {st : Stmt} {f : Addr} {fd : FuncData} {N ps : List Str} {k : Nat} {sp : Sp} (F : Fun K x qual st f fd) (S : FnScope N ps (defScope st))
    (size : ∀ {vs H Q}, sp vs H Q E0 → vs.length = ps.length)
    (body : ∀ cdv A outer s H vs Q, Room k (A.deeper (envOfC qual (defScope st) s.heap.objs.size f cdv)) → Quiet (A.deeper (envOfC qual (defScope st) s.heap.objs.size f cdv)) → sp vs H Q E0 →
      ∃ t, PSs (cxOf CX0 P w K mg base N qual (defScope st) f cdv A outer s H E0).nox (defBody st) t ∧ t { nx := fun _ H' => Q .non H', rt := Q } (start N vs) H) :
    FnG P w K mg base (k + 1) f fd ps sp := by
  obtain ⟨oc, od, kV, doc, pm, an, cdv, ct, osl, rfl, look, code⟩ := F.ex
  constructor
  · exact size
  intro A outer s H us vs Q room quiet e0 bind rel want
  have inH : K.In s.heap := e0.mod.kin.keeps fun b o q => (e0.bs b o q).1
  have lim := e0.mod.nolimit.keeps (fun b o q => (e0.bs b o q).1)
  have kinds : ∀ y ∈ ps.zip us, (defScope st).names.lookup y.1 = some .local ∨ ((defScope st).names.lookup y.1 = some .cell ∧ ((cellsFrom (s.heap.objs.size + 1) (defScope st).names []).lookup y.1).isSome = true) := by
    rintro ⟨n, v⟩ hy
    have hn := (List.of_mem_zip hy).1
    cases S.par n hn with
    | inl q => exact Or.inl q
    | inr q => exact Or.inr ⟨q, PySem.W.cellsFrom_some _ _ _ (Or.inl q)⟩
  apply codeAny_call_function room.depth (inH _ _ look) rfl S.co S.gen rfl (PySem.W.codeRec_of inH code)
  apply bind
  apply wpAny_newFunctionEnv_cells S.kind kinds
  intro env he s1 x
  subst he
  refine And.intro (lim.keeps x.toInCall.keep) (codeAny_func ?_)
  obtain ⟨t, ht, hq⟩ := body cdv A outer s H vs Q (room.deeper _) quiet want
  have I := inv_start (CX := CX0) (E := E0) S room.hd e0 (size want) rel x
  apply wpAny_mono (ht.nox.run [] s1 (start N vs) H _ I hq)
  · intro fl s' hs
    cases fl with
    | ret u =>
      obtain ⟨v, σ', H', J, rv, q⟩ := hs
      exact Exists.intro v ⟨H', J.os, J.bare, J.base, J.hok, rv, q⟩
    | next =>
      obtain ⟨σ', H', J, q⟩ := hs
      exact Exists.intro V.non ⟨H', J.os, J.bare, J.base, J.hok, rfl, q⟩
    | brk => exact hs.elim fun _ h => h.elim fun _ h => h.2.elim
    | cont => exact hs.elim fun _ h => h.elim fun _ h => h.2.elim
  · intro e s' hs
    exact hs
end
section
variable {X : Cx} {k : Nat} {f : Addr} {fd : FuncData} {ps : List Str} {sp : Sp} {x : Str} {p pos : Pos} {e : Expr} {es : List Expr} {t : TA}
theorem pe_callG (F : FnG X.prog X.w X.K X.mg X.base k f fd ps sp) (room : Room k X.A) (quiet : Quiet X.A) (hg : Gl X x) (hm : X.mg x = some (.ref f)) (keep : PySem.W.keepIn X.K (.ref f) = true) (bind : Binds X.K fd ps [])
    (args : PA X (e :: es) t) (hdb : (x == ("__debug__" : Str)) = false := by decide) (star : starEach (e :: es) X.env = (false, eval e X.env) :: starEach es X.env := by rfl) (plain : (backTo pos (starEach es X.env)).any (·.1) = false := by rfl) :
    PE X (.Call (.Name x p) (e :: es) [] pos) (tCall sp [] E0 t) := by
  constructor
  intro pins s σ H Q I h
  apply wpAny_Call_Name_kw
  apply ld_glob I hg hm _ hdb
  apply PySem.W.callWith_K (h₀ := X.base) I.ok.mod.kin keep _ star plain
  apply thn (args.run pos pins s σ H _ I h)
  rintro us s1 ⟨vs, H1, I1, rel, q⟩
  refine And.intro I1.kIn ?_
  have q' : sp vs H1 Q E0 := by
    have z := q
    rw [List.append_nil] at z
    exact z
  have same : us.length = ps.length := rel.length.symm.trans (F.size q')
  have b := bind s1 us I1.kIn (by rw [List.append_nil]; exact same)
  rw [List.append_nil] at b
  apply wpAny_call
  apply codeAny_mono (F.go room quiet I1.env0 b rel q')
  intro r s' hr
  match r, hr with
  | .error _, hr => exact hr.elim
  | .ok (.ret u), hr => exact I1.after hr
  | .ok .next, hr => exact False.elim hr
  | .ok .brk, hr => exact False.elim hr
  | .ok .cont, hr => exact False.elim hr
end
/-! ### repr of data at any depth -/
structure Sm (n dp : Nat) (d : PyData) : Prop where
  shows : d.showable = true
  short : d.leavesShort 40 = true
  small : d.weight ≤ n
  flat : d.depth ≤ dp
theorem Sm.mono {n m dp dq : Nat} {d : PyData} (h : Sm n dp d) (h1 : n ≤ m) (h2 : dp ≤ dq) : Sm m dq d := ⟨h.shows, h.short, Nat.le_trans h.small h1, Nat.le_trans h.flat h2⟩
theorem Sm.none : Sm 0 0 .none := ⟨rfl, rfl, Nat.le_refl _, Nat.le_refl _⟩
theorem Sm.bool (b : Bool) : Sm 0 0 (.bool b) := ⟨rfl, rfl, Nat.le_refl _, Nat.le_refl _⟩
theorem log2_small {i : Int} (h : i.natAbs < 10 ^ 30) : i.natAbs.log2 < 100 := PySem.Flt.log2_lt_of (by decide) (Nat.lt_trans h (by decide))
theorem Sm.int {i : Int} (h : i.natAbs < 10 ^ 30) : Sm 100 0 (.int i) := by
  have l := log2_small h
  refine ⟨decide_eq_true (Nat.lt_trans l (by decide)), decide_eq_true ?_, ?_, Nat.le_refl _⟩
  · have q := int_text_length_le10 (a := i) (k := 30) (by decide) h
    show (Str.ofString (toString i)).length ≤ 40
    rw [PySem.ofString_length]
    exact Nat.le_trans q (by decide)
  · show (if i == 0 then 0 else i.natAbs.log2 + 1) ≤ 100
    split <;> omega
theorem smAll {n dp : Nat} : ∀ {ds : List PyData}, (∀ d ∈ ds, Sm n dp d) → PyData.showableAll ds = true ∧ PyData.leavesShortAll 40 ds = true ∧ PyData.weightAll ds ≤ ds.length * (n + 1) ∧ PyData.depthAll ds ≤ dp
  | [], _ => ⟨rfl, rfl, Nat.zero_le _, Nat.zero_le _⟩
  | d :: ds, h => by
    obtain ⟨a, b, c, e⟩ := smAll (ds := ds) fun x hx => h x (List.mem_cons_of_mem _ hx)
    have z := h d List.mem_cons_self
    refine ⟨?_, ?_, ?_, ?_⟩
    · show (d.showable && PyData.showableAll ds) = true
      rw [z.shows, a]
      rfl
    · show (d.leavesShort 40 && PyData.leavesShortAll 40 ds) = true
      rw [z.short, b]
      rfl
    · show d.weight + 1 + PyData.weightAll ds ≤ (ds.length + 1) * (n + 1)
      have := z.small
      rw [Nat.add_mul]
      omega
    · show max d.depth (PyData.depthAll ds) ≤ dp
      exact Nat.max_le.mpr ⟨z.flat, e⟩
theorem Sm.tup {n dp : Nat} {ds : List PyData} (h : ∀ d ∈ ds, Sm n dp d) : Sm (ds.length * (n + 1)) (dp + 1) (.tuple ds) :=
  let ⟨a, b, c, e⟩ := smAll h
  ⟨a, b, c, Nat.succ_le_succ e⟩
theorem Sm.lst {n dp : Nat} {ds : List PyData} (h : ∀ d ∈ ds, Sm n dp d) : Sm (ds.length * (n + 1)) (dp + 1) (.list ds) :=
  let ⟨a, b, c, e⟩ := smAll h
  ⟨a, b, c, Nat.succ_le_succ e⟩
theorem Sm.fits {n dp : Nat} {d : PyData} (h : Sm n dp d) (hn : n ≤ 300000) : d.shown.length ≤ sizeLine := by
  have q := PyData.shown_le 40 (by decide) d h.short
  have := h.small
  have e : sizeLine = 16777216 := by decide
  rw [e]
  omega
/-- data with dicts in it; its lists stand in the heap by themselves -/
def keyD : Key → PyData
  | .inl i => .int i
  | .inr x => .str x
mutual
inductive Dv (K : PySem.W.Frag) (H : Hp) : V → PyData → Prop
  | non : Dv K H .non .none
  | bl (b : Bool) : Dv K H (.bl b) (.bool b)
  | int (i : Int) : Dv K H (.int i) (.int i)
  | str (x : Str) : Dv K H (.str x) (.str x)
  | lst {a : Addr} {xs : List V} {ds : List PyData} : H a = some (.lst xs) → DvAll K H xs ds → Dv K H (.ref a) (.list ds)
  | tup {a : Addr} {xs : List V} {ds : List PyData} : H a = some (.tup xs) → DvAll K H xs ds → Dv K H (.ref a) (.tuple ds)
  | dic {a : Addr} {kvs : List (Key × V)} {ds : List PyData} : H a = some (.dK kvs) → DvAll K H (kvs.map (·.2)) ds → Dv K H (.ref a) (.dict ((kvs.map fun p => keyD p.1).zip ds))
inductive DvAll (K : PySem.W.Frag) (H : Hp) : List V → List PyData → Prop
  | nil : DvAll K H [] []
  | cons {v : V} {vs : List V} {d : PyData} {ds : List PyData} : Dv K H v d → DvAll K H vs ds → DvAll K H (v :: vs) (d :: ds)
end
theorem DvAll.length {K : PySem.W.Frag} {H : Hp} : ∀ {vs : List V} {ds : List PyData}, DvAll K H vs ds → vs.length = ds.length
  | _, _, .nil => rfl
  | _, _, .cons _ h => by rw [List.length_cons, List.length_cons, h.length]
theorem keys_read {P : Program} {w : World} {h : Heap} : ∀ {es : List DictEntry} {vs : List (Key × Value)}, Pairs (mixKind P w) es vs → ReadsAll h (es.map (·.key)) (vs.map fun p => keyD p.1) []
  | _, _, .nil => .nil
  | _, _, .cons (e := e) (kv := kv) hk _ r => by
    have one : Reads h e.key (keyD kv.1) [] := by
      rcases keyIs_shape hk with ⟨i, t, e1, e2⟩ | ⟨x, t, e1, e2⟩
      · rw [e1, e2]
        exact .int i t
      · rw [e1, e2]
        exact .str x t
    exact ReadsAll.cons one (keys_read r)
theorem vals_read {P : Program} {w : World} : ∀ {es : List DictEntry} {vs : List (Key × Value)}, Pairs (mixKind P w) es vs → es.map (·.val) = vs.map (·.2)
  | _, _, .nil => rfl
  | _, _, .cons _ hv r => by rw [List.map_cons, List.map_cons, hv, vals_read r]
theorem kv_vals : ∀ {kvs : List (Key × V)} {vs : List (Key × Value)}, KV kvs vs → Vals (kvs.map (·.2)) (vs.map (·.2)) ∧ (vs.map fun p => keyD p.1) = kvs.map fun p => keyD p.1
  | _, _, .nil => ⟨.nil, rfl⟩
  | _, _, .cons h r => by
    obtain ⟨a, b⟩ := kv_vals r
    refine ⟨.cons h.2 a, ?_⟩
    rw [List.map_cons, List.map_cons, b, h.1]
section
variable {X : Cx} {pins : List (Addr × Obj)} {σ : L2.St} {H : Hp} {s : Shared}
theorem Dv.reads (I : Inv X pins σ H s) (mods : ∃ mm, X.base.Ns sysModules mm) {v : V} {d : PyData} (h : Dv X.K H v d) : ∀ u : Value, RelV v u → ∃ as, Reads s.heap u d as ∧ sysModules ∉ as := by
  have free : H sysModules = none := by
    obtain ⟨mm, o, es, ep, e, _⟩ := mods
    exact (I.bs _ o e).2
  refine Dv.rec (K := X.K) (H := H) (motive_1 := fun v d _ => ∀ u : Value, RelV v u → ∃ as, Reads s.heap u d as ∧ sysModules ∉ as) (motive_2 := fun vs ds _ => ∀ us : List Value, Vals vs us → ∃ as, ReadsAll s.heap us ds as ∧ sysModules ∉ as) ?_ ?_ ?_ ?_ ?_ ?_ ?_ ?_ ?_ h
  · intro u r
    cases r
    exact ⟨_, .none, fun z => nomatch z⟩
  · intro b u r
    cases r
    exact ⟨_, .bool b, fun z => nomatch z⟩
  · intro i u r
    obtain ⟨t, rfl⟩ := r
    exact ⟨_, .int i t, fun z => nomatch z⟩
  · intro x u r
    obtain ⟨t, rfl⟩ := r
    exact ⟨_, .str x t, fun z => nomatch z⟩
  · intro a xs ds e _ ih u r
    cases r
    obtain ⟨_, its, n, rv, q⟩ := I.hok a _ e
    obtain ⟨as, ra, na⟩ := ih _ rv
    refine ⟨a :: as, .list q rfl rfl (by simpa using ra), fun z => ?_⟩
    rcases List.mem_cons.mp z with z | z
    · rw [← z, free] at e
      cases e
    · exact na z
  · intro a xs ds e _ ih u r
    cases r
    obtain ⟨_, its, rv, o, ho, hc, n, hd⟩ := I.hok a _ e
    obtain ⟨as, ra, na⟩ := ih _ rv
    exact ⟨as, .tuple ho hc hd (by simpa using ra), na⟩
  · intro a kvs ds e hall ih u r
    cases r
    obtain ⟨_, hne, vs, kv, o, es, ep, ho, ex, hd, _, prs, _⟩ := I.hok a _ e
    obtain ⟨rv, ek⟩ := kv_vals kv
    obtain ⟨as, ra, na⟩ := ih _ rv
    have len : (kvs.map fun p => keyD p.1).length = ds.length := by
      have z := hall.length
      rw [List.length_map] at z
      rw [List.length_map, z]
    refine ⟨_, .dict ho ex.1 hd (as := []) (bs := as) ?_ ?_, fun z => ?_⟩
    · rw [List.map_fst_zip (by omega), ← ek]
      exact keys_read prs
    · rw [List.map_snd_zip (by omega), vals_read prs]
      exact ra
    · rcases List.mem_cons.mp z with z | z
      · rw [← z] at hne
        exact absurd hne (by decide)
      · exact na z
  · intro us r
    cases r
    exact ⟨_, .nil, fun z => nomatch z⟩
  · intro v vs d ds _ _ ih1 ih2 us r
    cases r with
    | cons r1 r2 =>
      obtain ⟨as, ra, na⟩ := ih1 _ r1
      obtain ⟨bs, rb, nb⟩ := ih2 _ r2
      refine ⟨_, .cons ra rb, fun z => ?_⟩
      rcases List.mem_append.mp z with z | z
      · exact na z
      · exact nb z
theorem call_reprV (mods : ∃ mm, X.base.Ns sysModules mm) (quiet : Quiet X.A) (units : X.A.units + 64 < cLine) : CallR X (.builtin "repr")
    (fun xs H Q => ∃ v d n dp, xs = [v] ∧ Dv X.K H v d ∧ Sm n dp d ∧ n ≤ 300000 ∧ dp ≤ 60 ∧ Q (.str d.shown) H) := by
  intro pins s σ H xs us Q I r h
  obtain ⟨v, d, n, dp, rfl, hd, sm, hn, hdp, q⟩ := h
  obtain ⟨u, rfl, ru⟩ := vals1 r
  have fits := sm.fits hn
  have flat := sm.flat
  obtain ⟨as, rd, off⟩ := Dv.reads I mods hd _ ru
  cases hd with
  | non =>
    cases ru
    exact PySem.P.repr_of_none ⟨.str _, H, I.tok _, ⟨_, rfl⟩, q⟩
  | bl b =>
    cases ru
    exact PySem.P.repr_of_bool ⟨.str _, H, I.tok _, ⟨_, rfl⟩, q⟩
  | int i =>
    obtain ⟨t, rfl⟩ := ru
    exact PySem.P.repr_of_int (of_decide_eq_true sm.shows) ⟨.str _, H, I.tok _, ⟨_, rfl⟩, q⟩
  | str x =>
    obtain ⟨t, rfl⟩ := ru
    exact PySem.P.repr_of_str ⟨.str _, H, I.tok _, ⟨_, rfl⟩, q⟩ fits
  | _ =>
    cases ru
    exact repr_of_reads' rd sm.shows (fun _ => off) quiet (by omega) (fun _ _ e => e) (fun h' t tk more => ⟨.str _, H, I.kept more, ⟨_, rfl⟩, q⟩) fits
end
theorem Dp.noDict {K : PySem.W.Frag} {H : Hp} {v : V} {d : PyData} (h : Dp K H v d) : d.hasDict = false := by
  refine Dp.rec (K := K) (H := H) (motive_1 := fun v d _ => d.hasDict = false) (motive_2 := fun vs ds _ => PyData.hasDictAll ds = false) ?_ ?_ ?_ ?_ ?_ ?_ ?_ ?_ h
  all_goals intros
  all_goals simp_all [PyData.hasDict, PyData.hasDictAll]
section
variable {X : Cx}
theorem call_reprD (quiet : Quiet X.A) (units : X.A.units + 64 < cLine) : CallR X (.builtin "repr")
    (fun xs H Q => ∃ v d n dp, xs = [v] ∧ Dp X.K H v d ∧ Sm n dp d ∧ n ≤ 300000 ∧ dp ≤ 60 ∧ Q (.str d.shown) H) := by
  intro pins s σ H xs us Q I r h
  obtain ⟨v, d, n, dp, rfl, hd, sm, hn, hdp, q⟩ := h
  obtain ⟨u, rfl, ru⟩ := vals1 r
  have fits := sm.fits hn
  have flat := sm.flat
  obtain ⟨as, rd⟩ := Dp.reads I d v u hd ru
  cases hd with
  | non =>
    cases ru
    exact PySem.P.repr_of_none ⟨.str _, H, I.tok _, ⟨_, rfl⟩, q⟩
  | bl b =>
    cases ru
    exact PySem.P.repr_of_bool ⟨.str _, H, I.tok _, ⟨_, rfl⟩, q⟩
  | int i =>
    obtain ⟨t, rfl⟩ := ru
    exact PySem.P.repr_of_int (of_decide_eq_true sm.shows) ⟨.str _, H, I.tok _, ⟨_, rfl⟩, q⟩
  | str x =>
    obtain ⟨t, rfl⟩ := ru
    exact PySem.P.repr_of_str ⟨.str _, H, I.tok _, ⟨_, rfl⟩, q⟩ fits
  | lst h1 h2 =>
    cases ru
    exact repr_of_reads' rd sm.shows (PyData.noDict_hsm (Dp.noDict (Dp.lst h1 h2))) quiet (by omega) (fun _ _ e => e) (fun h' t tk more => ⟨.str _, H, I.kept more, ⟨_, rfl⟩, q⟩) fits
  | tup h1 h2 =>
    cases ru
    exact repr_of_reads' rd sm.shows (PyData.noDict_hsm (Dp.noDict (Dp.tup h1 h2))) quiet (by omega) (fun _ _ e => e) (fun h' t tk more => ⟨.str _, H, I.kept more, ⟨_, rfl⟩, q⟩) fits
end
/-! ### the end of a law row whose def is of the quiet kind -/
theorem quiet_law {P : Program} {w : World} {K : PySem.W.Frag} {mg mb : Str → Option Value} {k : Nat} {fa a : Addr} {fd : FuncData} {x : Str} {sp : Sp} {s₁ : Shared} {vs : List Value} {ns : List Int}
    (inK : K.In s₁.heap) (glob : s₁.heap.Ns mainGlobals mg) (blt : s₁.heap.Ns builtinsNs mb) (bltIs : ∀ y : Str, y ≠ "__name__" → mb y = bootBuiltins y) (lim : s₁.heap.NoLimit) (gens : s₁.gens = #[]) (mods : ∃ mm, s₁.heap.Ns sysModules mm)
    (here : s₁.heap.get? a = some { cls := .type "list", data := .seq vs.toArray }) (whole : IntsAre vs ns) (few : ns.length ≤ sizeLine) (room : Room k callerA)
    (F : ∀ base : Heap, K.In base → base.Ns mainGlobals mg → (∃ mm, base.Ns sysModules mm) → FnG P w K mg base k fa fd [x] sp) (bind : ∀ (s : Shared) (u : Value), BindsTo s fd ⟨[u], []⟩ [(x, u)])
    (want : ∀ H : Hp, Only H → SqL K H a (ns.map V.int) → sp [.ref a] H (fun v _ => v = .bl true) E0) :
    codeAny (model P w) callerA (.call (.ref fa) ⟨[.ref a], []⟩) (fun r s' => r = .ok (.ret (.bool true)) ∧ OldK s₁.heap s'.heap ∧ s'.os = s₁.os ∧ AllBare s'.gens) s₁ := by
  have rel := vals_ints whole
  -- H: the script alone, or nothing
  have main : ∀ H : Hp, Only H → SqL K H a (ns.map V.int) → HOk P w H s₁.heap → (∀ b u, H b = some u → b = a ∧ K.lookup b = none) →
      codeAny (model P w) callerA (.call (.ref fa) ⟨[.ref a], []⟩) (fun r s' => r = .ok (.ret (.bool true)) ∧ OldK s₁.heap s'.heap ∧ s'.os = s₁.os ∧ AllBare s'.gens) s₁ := by
    intro H only sq ok apart
    have untold : ∀ {b o}, s₁.heap.get? b = some o → (b = a → False) → H b = none := by
      intro b o e ne
      cases q : H b with
      | none => rfl
      | some u => exact (ne (apart b u q).1).elim
    have ns1 : ∀ {b m}, s₁.heap.Ns b m → (hidT s₁.heap H).Ns b m := by
      rintro b m ⟨o, es, ep, e, d, r⟩
      refine ⟨o, es, ep, hidT_get e (untold e fun z => ?_), d, r⟩
      subst z
      rw [here] at e
      cases e
      cases d
    have kIn : K.In (hidT s₁.heap H) := by
      intro b o e
      apply hidT_get (inK b o e)
      cases q : H b with
      | none => rfl
      | some u =>
        have z := (apart b u q).2
        rw [e] at z
        cases z
    have lim1 : (hidT s₁.heap H).NoLimit := by
      obtain ⟨mc, h1, h2⟩ := lim
      exact ⟨mc, ns1 h1, h2⟩
    have e0 : Env0 P w K mg (hidT s₁.heap H) callerA [] s₁ H := {
      frames := rfl, mod := ⟨kIn, ns1 glob, ⟨mb, ns1 blt, bltIs⟩, lim1⟩, bs := fun _ _ e => of_hidT e, bsz := Nat.le_of_eq (hidT_size _ _), funs := True.intro, frf := (fun _ hb => nomatch hb), hok := ok, bare := .of_eq gens }
    apply codeAny_mono ((F _ kIn (ns1 glob) (mods.elim fun mm h => ⟨mm, ns1 h⟩)).go (us := [.ref a]) (vs := [.ref a]) room rfl e0 (bind s₁ _) (.cons rfl .nil) (want H only sq))
    intro r s' hr
    match r, hr with
    | .error _, hr => exact hr.elim
    | .ok .next, hr => exact False.elim hr
    | .ok .brk, hr => exact False.elim hr
    | .ok .cont, hr => exact False.elim hr
    | .ok (.ret u), hr =>
      obtain ⟨v, H', os, bare, un, ok', rv, q⟩ := hr
      cases (show v = V.bl true from q)
      cases (show u = Value.bool true from rv)
      refine ⟨rfl, OldK.of_keep ?_, os, bare⟩
      intro b o e
      cases only b with
      | inl n => exact un.keep b o e n (fun z => nomatch z) (fun z => nomatch z)
      | inr n =>
        obtain ⟨ob, xs, z⟩ := n
        have e1 := (ok b _ z).1
        have e2 := (ok' b _ (un.frzs b ob _ z)).1
        rw [e] at e1
        cases e1
        exact e2
  have small : (ns.map V.int).length ≤ sizeLine := by rw [List.length_map]; exact few
  cases known : K.lookup a with
  | some o =>
    have e := inK a o known
    rw [here] at e
    cases e
    have sz : vs.length ≤ sizeLine := by rw [← rel.length]; exact small
    exact main (fun _ => none) (fun _ => .inl rfl) (.inr ⟨_, vs.toArray, _, known, rfl, rfl, rfl, by simpa using sz, by simpa using rel⟩) (fun _ _ z => nomatch z) (fun _ _ z => nomatch z)
  | none =>
    have at1 : ∀ {b u}, (if b = a then some (HO.frz { cls := .type "list", data := .seq vs.toArray } (.lst (ns.map V.int))) else none) = some u → b = a := by
      intro b u z
      by_cases hb : b = a
      · exact hb
      · rw [if_neg hb] at z
        cases z
    refine main (fun b => if b = a then some (.frz { cls := .type "list", data := .seq vs.toArray } (.lst (ns.map V.int))) else none) (fun b => ?_) (.inl (.inr ⟨{ cls := .type "list", data := .seq vs.toArray }, if_pos rfl⟩)) (fun b u z => ?_) (fun b u z => ?_)
    · by_cases hb : b = a
      · exact .inr ⟨_, _, if_pos hb⟩
      · exact .inl (if_neg hb)
    · have hb := at1 z
      subst hb
      have z2 := (if_pos rfl).symm.trans z
      cases z2
      exact ⟨here, small, vs, _, rel, here⟩
    · have hb := at1 z
      subst hb
      exact ⟨rfl, known⟩
theorem quiet_walk {l : PySem.W.OpenLaw} {n k : Nat} {q : Program} {loose : List Str} {XP : (Str → Option Value) → Heap → Prop} {YP : World → Heap → Prop} {d : DefRec} {K : Params → PySem.W.Frag} {sp : World → Sp} {x : Str}
    (noImport : importsNone q = true) (most : l.most = some n) (n2 : n ≤ sizeLine) (defaults : d.params.defaults = []) (room : Room k callerA) (hY : ∀ (w : World) (h : Heap), YP w h → (K w.params).In h)
    (F : ∀ (w : World) (mg : Str → Option Value) (fa : Addr) (h : Heap), (K w.params).In h → h.Ns mainGlobals mg → mg d.name = some (.ref fa) →
      ∃ fd : FuncData, (∀ (s : Shared) (u : Value), BindsTo s fd ⟨[u], []⟩ [(x, u)]) ∧ ∀ base : Heap, (K w.params).In base → base.Ns mainGlobals mg → (∃ mm, base.Ns sysModules mm) → FnG l.prog w (K w.params) mg base k fa fd [x] (sp w))
    (want : ∀ (w : World) (H : Hp) (a : Addr) (ns : List Int), ns.length ≤ n → Only H → SqL (K w.params) H a (ns.map V.int) → sp w [.ref a] H (fun v _ => v = .bl true) E0) :
    PySem.W.WalkO q loose XP YP l.row.toRowW d [] (fun f vs => PySem.call f vs) := by
  apply Att.attach_call most defaults
  intro w s₀ s₁ mg mb fa o pm cd doc a vs ns G Y ho hd hcd hmg hobj hints hlen hg
  obtain ⟨fd, hb, hF⟩ := F w mg fa _ (hY w _ Y) G.T.g hmg
  exact quiet_law (hY w _ Y) G.T.g G.T.b G.T.builtins G.T.nolimit hg ((G.T.seer noImport).mods.elim fun mm h => ⟨mm, h.1⟩) hobj hints (Nat.le_trans hlen n2) room hF hb fun H o1 s1 => want w H a ns hlen o1 s1

/-! ### a op1 b op2 c op3 .. : chains of any length -/
section
variable {X : Cx}
structure PCh (X : Cx) (ops : List CmpOp) (es : List Expr) (t : V → TE) : Prop where
  run : ∀ (pos : Pos) (pins : List (Addr × Obj)) (s : Shared) (σ : L2.St) (H : Hp) (Q : VK) (x : V) (v : Value), Inv X pins σ H s → RelV x v → t x σ H Q → wpAny (model X.prog X.w) X.A (compareChain pos v ops (evalEach es X.env)) (EP X pins σ Q) X.xe s
structure PChT (X : Cx) (ops : List CmpOp) (es : List Expr) (t : V → TE) : Prop where
  run : ∀ (pos : Pos) (pins : List (Addr × Obj)) (s : Shared) (σ : L2.St) (H : Hp) (Q : Bool → Hp → Prop) (x : V) (v : Value), Inv X pins σ H s → RelV x v → (t x σ H fun y H' => ∃ k, y = .bl k ∧ Q k H') → wpAny (model X.prog X.w) X.A (testChain pos v ops (evalEach es X.env)) (TP X pins σ Q) X.xe s
def tLast (r : R2) (tb : TE) : V → TE := fun x σ H Q => tb σ H fun y H2 => r x y H2 Q
def tLink (r : R2) (tb : TE) (rest : V → TE) : V → TE := fun x σ H Q => tb σ H fun y H2 => r x y H2 fun z H3 => ∃ k, z = .bl k ∧ (if k = true then rest y σ H3 Q else Q (.bl false) H3)
def tCh (ta : TE) (rest : V → TE) : TE := fun σ H Q => ta σ H fun x H1 => rest x σ H1 Q
theorem pch_last {op : CmpOp} {r : R2} {b : Expr} {tb : TE} (ho : OpR X (compareOp op) r) (hb : PE X b tb) : PCh X [op] [b] (tLast r tb) :=
  ⟨fun pos pins s σ H Q x v I rx h => chain_last (thn (hb.run pins s σ H _ I h) fun u s2 ⟨y, H2, I2, r2, q2⟩ => ho pins s2 σ H2 x y v u Q I2 rx r2 q2)⟩
theorem pch_link {op op' : CmpOp} {ops : List CmpOp} {r : R2} {b b' : Expr} {bs : List Expr} {tb : TE} {rest : V → TE} (ho : OpR X (compareOp op) r) (hb : PE X b tb) (hr : PCh X (op' :: ops) (b' :: bs) rest) : PCh X (op :: op' :: ops) (b :: b' :: bs) (tLink r tb rest) := by
  refine ⟨fun pos pins s σ H Q x v I rx h => ?_⟩
  refine chain_link (thn (hb.run pins s σ H _ I h) fun u s2 ⟨y, H2, I2, r2, q2⟩ => thn (ho pins s2 σ H2 x y v u _ I2 rx r2 q2) fun d s3 ⟨z, H3, I3, r3, k, e, q3⟩ => ?_)
  subst e
  cases r3
  refine wpAny_truthy_bool ?_
  cases k with
  | false => exact ite_ff ⟨.bl false, H3, I3, rfl, q3⟩
  | true => exact ite_tt (hr.run pos pins s3 σ H3 Q y u I3 r2 q3)
theorem pe_chN {op op' : CmpOp} {ops : List CmpOp} {a b b' : Expr} {bs : List Expr} {pos : Pos} {ta : TE} {rest : V → TE} (ha : PE X a ta) (hr : PCh X (op :: op' :: ops) (b :: b' :: bs) rest)
    (hm : lastMarks (op :: op' :: ops) (b :: b' :: bs) = false := by with_unfolding_all rfl) : PE X (.Compare a (op :: op' :: ops) (b :: b' :: bs) pos) (tCh ta rest) :=
  ⟨fun pins s σ H Q I h => Compare_chain (thn (ha.run pins s σ H _ I h) fun v s1 ⟨x, H1, I1, r1, q1⟩ => hr.run pos pins s1 σ H1 Q x v I1 r1 q1) hm⟩
theorem pchT_last {op : CmpOp} {r : R2} {b : Expr} {tb : TE} (ho : OpR X (compareOp op) r) (hb : PE X b tb) : PChT X [op] [b] (tLast r tb) := by
  refine ⟨fun pos pins s σ H Q x v I rx h => ?_⟩
  refine test_last (thn (hb.run pins s σ H _ I h) fun u s2 ⟨y, H2, I2, r2, q2⟩ => thn (ho pins s2 σ H2 x y v u _ I2 rx r2 q2) fun d s3 ⟨z, H3, I3, r3, k, e, q3⟩ => ?_)
  subst e
  cases r3
  exact wpAny_truthy_bool ⟨H3, I3, q3⟩
theorem pchT_link {op op' : CmpOp} {ops : List CmpOp} {r : R2} {b b' : Expr} {bs : List Expr} {tb : TE} {rest : V → TE} (ho : OpR X (compareOp op) r) (hb : PE X b tb) (hr : PChT X (op' :: ops) (b' :: bs) rest) : PChT X (op :: op' :: ops) (b :: b' :: bs) (tLink r tb rest) := by
  refine ⟨fun pos pins s σ H Q x v I rx h => ?_⟩
  refine test_link (thn (hb.run pins s σ H _ I h) fun u s2 ⟨y, H2, I2, r2, q2⟩ => thn (ho pins s2 σ H2 x y v u _ I2 rx r2 q2) fun d s3 ⟨z, H3, I3, r3, k, e, q3⟩ => ?_)
  subst e
  cases r3
  refine wpAny_truthy_bool ?_
  cases k with
  | false =>
    obtain ⟨k', e', q'⟩ := q3
    cases e'
    exact ite_ff ⟨H3, I3, q'⟩
  | true => exact ite_tt (hr.run pos pins s3 σ H3 Q y u I3 r2 q3)
theorem pt_chN {op op' : CmpOp} {ops : List CmpOp} {a b b' : Expr} {bs : List Expr} {pos : Pos} {ta : TE} {rest : V → TE} (ha : PE X a ta) (hr : PChT X (op :: op' :: ops) (b :: b' :: bs) rest)
    (hm : lastMarks (op :: op' :: ops) (b :: b' :: bs) = false := by with_unfolding_all rfl) : PT X (.Compare a (op :: op' :: ops) (b :: b' :: bs) pos) (tTest (tCh ta rest)) :=
  ⟨fun pins s σ H Q I h => isTrue_chain (thn (ha.run pins s σ H _ I h) fun v s1 ⟨x, H1, I1, r1, q1⟩ => hr.run pos pins s1 σ H1 Q x v I1 r1 q1) hm⟩
end

theorem pi_listK {X : Cx} {K : PySem.W.Frag} {tg l : Expr} {tl : TE} (hK : X.K = K) (hl : PE X l tl) : PI X tg l (iList K tl) := hK ▸ pi_list hl
theorem pi_tupK {X : Cx} {K : PySem.W.Frag} {tg l : Expr} {tl : TE} (hK : X.K = K) (hl : PE X l tl) : PI X tg l (iTup K tl) := hK ▸ pi_tup hl

/-! ### t[::-1] of a tuple; xs == [], xs != [] of a list that may hold anything -/
section
open HT
variable {prog : Program} {w : World} {A : Around} {E : Value → Shared → Prop} {s : Shared}
theorem adjust_rev (n : Nat) : Builtin.Slice.sliceAdjust none none (-1) (n : Int) = ((n : Int) - 1, -1) := by
  unfold Builtin.Slice.sliceAdjust
  have h1 : (-1 : Int) < 0 := by decide
  simp only [h1, if_true]
theorem places_rev (n : Nat) : Builtin.Slice.slicePlaces ((n : Int) - 1) (-1) (-1) = n := by
  unfold Builtin.Slice.slicePlaces
  have h1 : ¬ ((-1 : Int) > 0) := by decide
  simp only [h1, if_false]
  have h2 : (-(-1) : Int) = 1 := by decide
  rw [h2, Int.ediv_one]
  split <;> omega
theorem sliceApplied_rev {sl : Addr} {vl vu vs : Value} {n : Nat} {Q : Int × Int × Nat → Shared → Prop} (hs : s.heap.IsSliceOf sl vl vu vs) (pl : IsPart vl none) (pu : IsPart vu none) (pt : IsPart vs (some (-1)))
    (h : Q ((n : Int) - 1, -1, n) s) : wpAny (model prog w) A (Builtin.Slice.sliceApplied (.ref sl) (pure (n : Int))) Q E s := by
  obtain ⟨os, hos, hcs, hds⟩ := id hs
  unfold Builtin.Slice.sliceApplied Builtin.Slice.sliceFields
  refine wpAny_bind (wpAny_bind (wpAny_field hos hds (x := vl) rfl (wpAny_bind (wpAny_field hos hds (x := vu) rfl (wpAny_bind (wpAny_field hos hds (x := vs) rfl (wpAny_pure ?_)))))))
  refine wpAny_bind (slicePart_ pt ?_)
  show wpAny _ _ (if ((-1 : Int) == 0) = true then _ else _) _ _ s
  rw [if_neg (by decide)]
  refine wpAny_bind (slicePart_ pl (wpAny_bind (slicePart_ pu (wpAny_bind (wpAny_pure ?_)))))
  show wpAny _ _ (match Builtin.Slice.sliceAdjust none none (-1) (n : Int) with | (lo, hi) => pure (lo, (-1 : Int), Builtin.Slice.slicePlaces lo hi (-1))) _ _ s
  rw [adjust_rev]
  show wpAny _ _ (pure ((n : Int) - 1, (-1 : Int), Builtin.Slice.slicePlaces ((n : Int) - 1) (-1) (-1))) _ _ s
  rw [places_rev]
  exact wpAny_pure h
theorem pick_rev (xs : Array Value) : ((List.range xs.size).filterMap fun (k : Nat) => xs[((xs.size : Int) - 1 + (k : Int) * (-1)).toNat]?) = xs.toList.reverse := by
  have e : ∀ m : Nat, m ≤ xs.size → ((List.range m).filterMap fun (k : Nat) => xs[((xs.size : Int) - 1 + (k : Int) * (-1)).toNat]?) = xs.toList.reverse.take m := by
    intro m
    induction m with
    | zero => intro _; rfl
    | succ m ih =>
      intro hm
      rw [List.range_succ, List.filterMap_append, ih (by omega), List.take_add_one]
      congr 1
      have e1 : ((xs.size : Int) - 1 + (m : Int) * (-1)).toNat = xs.size - 1 - m := by omega
      have e2 : xs.toList.reverse[m]? = xs[xs.size - 1 - m]? := by
        rw [List.getElem?_reverse (by rw [Array.length_toList]; omega), Array.length_toList, Array.getElem?_toList]
      rw [e2]
      have lt : xs.size - 1 - m < xs.size := by omega
      simp only [List.filterMap_cons, List.filterMap_nil, e1]
      rw [Array.getElem?_eq_getElem lt]
      rfl
  rw [e _ (Nat.le_refl _), List.take_of_length_le (by rw [List.length_reverse, Array.length_toList]; exact Nat.le_refl _)]
theorem getItem_tuple_rev {t sl : Addr} {items : Array Value} {vl vu vs : Value} {Q : Value → Shared → Prop} (ht : IsTup s.heap t items) (hs : s.heap.IsSliceOf sl vl vu vs) (pl : IsPart vl none) (pu : IsPart vu none) (pt : IsPart vs (some (-1)))
    (h : Q (.ref s.heap.objs.size) { s with heap := s.heap.push { cls := .type "tuple", data := .seq items.toList.reverse.toArray } })
    (hsz : items.size ≤ sizeLine) : wpAny (model prog w) A (getItem (.ref t) (.ref sl)) Q E s := by
  have htake : sizeOk (.seq items.toList.reverse.toArray) := by
    show items.toList.reverse.toArray.size ≤ sizeLine
    rw [List.size_toArray, List.length_reverse, Array.length_toList]
    omega
  obtain ⟨os, hos, hcs, hds⟩ := id hs
  have hTs : s.TypeIs (.ref sl) "slice" := ⟨os, hos, hcs⟩
  unfold getItem
  try with_reducible refine wpAny_holding ?_
  first | refine wpAny_bind (wpAny_pure ?_) | skip
  refine wpAny_bind (wpAny_sequenceKey ht.typeIs (by decide) ?_)
  refine wpAny_bind (wpAny_callSpecial?_slot (name := Str.ofString "__getitem__") ht.typeIs PyProof.Rows.slot_tuple_getitem
    (wpAny_call_entry PyProof.Rows.slot_tuple_getitem ht.typeIs entry_tuple_getitem ?_ (args_tuple_getitem _ _)))
  show wpAny _ _ (Builtin.Tuple.tupleItemsOf (.ref t) >>= _) _ _ s
  refine wpAny_bind (tupleItemsOf_ ht ?_)
  refine wpAny_bind (wpAny_typeOf hTs ?_)
  rw [if_pos (by decide)]
  refine wpAny_bind (sliceApplied_rev hs pl pu pt ?_)
  have hno : ¬ ((((items.size : Int) - 1) == 0 && (-1 : Int) == 1 && items.size == items.size) = true) := by
    intro q
    rw [Bool.and_eq_true, Bool.and_eq_true] at q
    exact absurd q.1.2 (by decide)
  show wpAny _ _ (if (((items.size : Int) - 1) == 0 && (-1 : Int) == 1 && items.size == items.size) = true then _ else _) _ _ s
  rw [if_neg hno, pick_rev]
  first
    | exact wpAny_bind (m := Builtin.Tuple.tupleExact _) (wpAny_newObj_type (wpAny_pure ⟨_, rfl, wpAny_pure h⟩) htake)
    | exact wpAny_bind (m := Builtin.Tuple.tupleExact _) (wpAny_newObj_type (wpAny_bind (wpAny_pure (wpAny_pure ⟨_, rfl, wpAny_pure h⟩))) htake)
    | exact wpAny_bind (wpAny_bind (m := Builtin.Tuple.tupleExact _) (wpAny_newObj_type (wpAny_pure (wpAny_pure ⟨_, rfl, wpAny_pure h⟩)) htake))
    | exact wpAny_bind (wpAny_bind (m := Builtin.Tuple.tupleExact _) (wpAny_newObj_type (wpAny_pure ⟨_, rfl, wpAny_pure h⟩) htake))
end
section
variable {X : Cx}
def tRevT (K : PySem.W.Frag) (te : TE) : TE := fun σ H Q => te σ H fun x H1 => ∃ a xs, x = .ref a ∧ SqT K H1 a xs ∧ ∀ p, H1 p = none → Q (.ref p) (upd H1 p (.tup xs.reverse))
theorem pe_revT {e : Expr} {te : TE} {k : Nat} {p1 p2 p3 pos : Pos} (he : PE X e te) : PE X (.Subscript e (.Slice none none (some (.UnaryOp .USub (.Constant (.int 1) k p1) p2)) p3) pos) (tRevT X.K te) := by
  refine ⟨fun pins s σ H Q I h => ?_⟩
  refine Subscript_ (thn (he.run pins s σ H _ I h) fun v s1 ⟨x, H1, I1, r1, q1⟩ => ?_)
  obtain ⟨a, xs, ex, hx, q⟩ := q1
  subst ex
  cases r1
  have hst : PO X (some (.UnaryOp .USub (.Constant (.int 1) k p1) p2)) (tPart (tUn (rU fun i => .int (-i)) (tC (.int 1)))) := po_some (pe_un un_neg pe_int)
  refine wpAny_Slice (thn (po_none.run pins s1 σ H1 (fun o H2 => o = none ∧ H2 = H1) I1 ⟨rfl, rfl⟩) fun vl s2 ⟨l, H2, I2, pl, el, e2⟩ => ?_)
  subst el e2
  refine thn (po_none.run pins s2 σ H2 (fun o H3 => o = none ∧ H3 = H2) I2 ⟨rfl, rfl⟩) fun vu s3 ⟨u, H3, I3, pu, eu, e3⟩ => ?_
  subst eu e3
  refine thn (hst.run pins s3 σ H3 (fun o H4 => o = some (-1) ∧ H4 = H3) I3 ⟨1, rfl, -1, rfl, rfl, rfl⟩) fun vs s4 ⟨o, H4, I4, ps, eo, e4⟩ => ?_
  subst eo e4
  have I5 : Inv X pins σ H4 { s4 with heap := s4.heap.push { cls := .type "slice", data := .fields #[vl, vu, vs] } } := I4.kept (t' := s4.toks) fun b ob q => Heap.get?_push_of_some _ q
  obtain ⟨its, r, ht, hz⟩ := I5.tuple hx
  have hlen := r.length
  show wpAny (model X.prog X.w) X.A (subscriptTail e (.Slice none none (some (.UnaryOp .USub (.Constant (.int 1) k p1) p2)) p3) (.ref a) (.ref s4.heap.objs.size)) (EP X pins σ Q) X.xe { s4 with heap := s4.heap.push { cls := .type "slice", data := .fields #[vl, vu, vs] } }
  refine tail_any (ops := [.ref a, .ref s4.heap.objs.size]) ht.typeIs (PyProof.Rows.slot_tuple_getitem.lookup) ?_ (by with_unfolding_all rfl)
  refine getItem_tuple_rev ht (Heap.IsSliceOf.new _ vl vu vs) pl pu ps ?_ (by rw [List.size_toArray]; omega)
  refine ⟨.ref _, _, I5.laid (t' := s4.toks) (o := .tup xs.reverse) (fun b ob q => Heap.get?_push_of_some _ q) (Nat.le_refl _) ?_, rfl, q _ (I5.hok.fresh (Nat.le_refl _))⟩
  exact ⟨by rw [List.length_reverse]; exact hz, _, r.reverse, IsTup.new _ _⟩
def rEqL (K : PySem.W.Frag) : R2 := fun x y H Q => ∃ (a b : Addr) (xs : List V), x = .ref a ∧ y = .ref b ∧ SqL K H a xs ∧ SqL K H b [] ∧ Q (.bl xs.isEmpty) H
def rNeL (K : PySem.W.Frag) : R2 := fun x y H Q => ∃ (a b : Addr) (xs : List V), x = .ref a ∧ y = .ref b ∧ SqL K H a xs ∧ SqL K H b [] ∧ Q (.bl (!xs.isEmpty)) H
theorem op_eqL (units : X.A.units < cLine) : OpR X (compareOp .Eq) (rEqL X.K) := by
  intro pins s σ H x y v u Q I rx ry h
  obtain ⟨a, b, xs, rfl, rfl, ha, hb, q⟩ := h
  cases rx
  cases ry
  obtain ⟨its, r1, p1, _⟩ := I.list ha
  obtain ⟨its2, r2, p2, _⟩ := I.list hb
  cases r2
  cases r1 with
  | nil =>
    exact SeqAt.eq_listAt (e := fun _ => true) p1.isList p2.isList rfl units (fun j h1 h2 => absurd h2 (Nat.not_lt_zero j)) ⟨.bl true, H, I, rfl, q⟩
  | cons r t =>
    exact SeqAt.eq_list_lengthsAt p1.isList p2.isList (by simp) units ⟨.bl false, H, I, rfl, q⟩
theorem op_neL (units : X.A.units < cLine) : OpR X (compareOp .NotEq) (rNeL X.K) := by
  intro pins s σ H x y v u Q I rx ry h
  obtain ⟨a, b, xs, rfl, rfl, ha, hb, q⟩ := h
  cases rx
  cases ry
  obtain ⟨its, r1, p1, _⟩ := I.list ha
  obtain ⟨its2, r2, p2, _⟩ := I.list hb
  cases r2
  cases r1 with
  | nil =>
    exact SeqAt.RcNeAt.lists (e := fun _ => true) p1.isList p2.isList rfl units (fun j h1 h2 => absurd h2 (Nat.not_lt_zero j)) X.prog X.w X.xe (EP X pins σ Q) ⟨.bl false, H, I, rfl, q⟩
  | cons r t =>
    exact SeqAt.RcNeAt.lists_lengths p1.isList p2.isList (by simp) units X.prog X.w X.xe (EP X pins σ Q) ⟨.bl true, H, I, rfl, q⟩
end

/-! ### a walk over a tuple, whatever its body is (comprehensions with two for) -/
theorem walkT {K : PySem.W.Frag} {a : Addr} {xs : List V} {B : V → Hp → (Hp → Prop) → Prop} {H0 : Hp} {Qd : Hp → Prop} (Pv : Nat → Hp → Prop) (h0 : Pv 0 H0) (hl : ∀ i H, i ≤ xs.length → Pv i H → SqT K H a xs)
    (hs : ∀ i x H, xs[i]? = some x → Pv i H → B x H (Pv (i + 1))) (hd : ∀ H, Pv xs.length H → Qd H) :
    ∃ W : Nat → Nat → Hp → Prop, (∃ m, W 0 m H0) ∧ ∀ i m H, W i m H →
      ((Itt K a).stop i H ∧ Qd H) ∨ ((Itt K a).go i H ∧ ∃ Nx : Hp → Prop, (∀ H', Nx H' → ∃ m', m' < m ∧ W (i + 1) m' H') ∧ ∀ x H', (Itt K a).yld i H x H' → B x H' Nx) := by
  refine ⟨fun i m H => m = xs.length - i ∧ i ≤ xs.length ∧ Pv i H, ⟨xs.length, by simp, Nat.zero_le _, h0⟩, ?_⟩
  rintro i m H ⟨rfl, hi, p⟩
  have q := hl i H hi p
  by_cases hlt : i < xs.length
  · refine .inr ⟨⟨xs, xs[i], q, by simp [hlt]⟩, Pv (i + 1), fun H' p' => ⟨xs.length - (i + 1), by omega, rfl, hlt, p'⟩, fun x H' y => ?_⟩
    obtain ⟨e, y⟩ := y
    subst e
    exact hs i x _ (y xs q) p
  · have e : i = xs.length := by omega
    subst e
    exact .inl ⟨⟨xs, q, by omega⟩, hd H p⟩

/-! ### t * 1 is t -/
theorem tuple_mul1 (l : Addr) (items : Array Value) (n : Nat) (dd : Option Addr) (sl : Array (Option Value)) (u : Tok) :
    Meets (Builtin.«tuple.__mul__» ⟨[.ref l, .int 1 u], []⟩) (fun _ R s => s.heap.get? l = some { cls := .type "tuple", dict := dd, data := .seq items n, slots := sl } ∧ R (.ok (.ret (Value.ref l))) s) :=
  .of_wp fun prog w A R s h => by
    obtain ⟨hp, g, d, tk, os⟩ := s
    obtain ⟨hl, h⟩ := h
    have f1 := AutoSeq1.idx_int
    wp_walk using wpAny_loadPart' hl
    repeat (first
      | (refine wpAny_ite_false (by decide) ?_; wp_walk using wpAny_loadPart' hl)
      | (refine wpAny_ite_true (by rw [show ((1 : Int) == 1) = true from rfl, Bool.or_true]) ?_; wp_walk using wpAny_loadPart' hl))
    exact ⟨_, rfl, h⟩
section
variable {X : Cx}
def rRep1 (K : PySem.W.Frag) : R2 := fun x y H Q => ∃ l xs, x = .ref l ∧ y = .int 1 ∧ SqT K H l xs ∧ Q (.ref l) H
theorem op_rep1 : OpR X (binaryOp .Mult) (rRep1 X.K) := by
  intro pins s σ H x y v u Q I rx ry ⟨l, xs, ex, ey, hT, q⟩
  subst ex ey
  cases rx
  obtain ⟨t, rfl⟩ := ry
  obtain ⟨its, r, ⟨⟨cl, dd, dt, sl⟩, ho, hc, n, hd⟩, _⟩ := I.tuple hT
  simp only at hc hd
  subst hc hd
  have isT : Shared.TypeIs s (.ref l) "tuple" := Exists.intro _ (And.intro ho rfl)
  refine wpAny_binaryOp_repeat_ref (T := "tuple") (U := "int") (by decide) isT (fun s' => typeIs_int s' 1 t) noFill_tuple_mul F.fills_int_mul F.slot_int_rmul repeat_tuple F.slot_int_index.lookup ?_
  refine call_meets F.slot_int_rmul (typeIs_int s 1 t) F.entry_int_rmul (F.args_int_rmul_2 _ _) (int_rmul_tuple 1 t l _ n dd sl) (And.intro ho (And.intro rfl (And.intro isT ?_)))
  refine call_meets F.slot_tuple_mul isT F.entry_tuple_mul (F.args_tuple_mul_2 _ _) (tuple_mul1 l _ n dd sl t) (And.intro ho ?_)
  exact ⟨.ref l, H, I, rfl, q⟩
end

def topS (i : Nat) : Stmt := PySem.Challenge.pw_fewspans_k58_rectangles_judged.main.body.getD i (.Pass ⟨0, 0, 0, 0⟩)
abbrev s_is_number : Stmt := topS 1
abbrev N_is_number : List Str := ["value"]
theorem sc_is_number : FnScope N_is_number ["value"] (defScope s_is_number) := ⟨rfl, rfl, rfl, by decide +kernel, rfl, by decide +kernel, by decide +kernel⟩
abbrev s_is_tuple_of : Stmt := topS 2
abbrev N_is_tuple_of : List Str := ["value", "length"]
theorem sc_is_tuple_of : FnScope N_is_tuple_of ["value", "length"] (defScope s_is_tuple_of) := ⟨rfl, rfl, rfl, by decide +kernel, rfl, by decide +kernel, by decide +kernel⟩
abbrev s_contains : Stmt := topS 3
abbrev N_contains : List Str := ["outer", "inner"]
theorem sc_contains : FnScope N_contains ["outer", "inner"] (defScope s_contains) := ⟨rfl, rfl, rfl, by decide +kernel, rfl, by decide +kernel, by decide +kernel⟩
abbrev s_is_rectangle : Stmt := topS 5
abbrev N_is_rectangle : List Str := ["board", "value", "item", "left", "right", "bottom", "top", "columns", "column"]
theorem sc_is_rectangle : FnScope N_is_rectangle ["board", "value"] (defScope s_is_rectangle) := ⟨rfl, rfl, rfl, by decide +kernel, rfl, by decide +kernel, by decide +kernel⟩
abbrev s_law_draws : Stmt := topS 7
abbrev N_law_draws : List Str := ["_law_script", "_law_cells", "_law_cell"]
theorem sc_law_draws : FnScope N_law_draws ["_law_script"] (defScope s_law_draws) := ⟨rfl, rfl, rfl, by decide +kernel, rfl, by decide +kernel, by decide +kernel⟩
abbrev s_law_next : Stmt := topS 8
abbrev N_law_next : List Str := ["_law_drawn", "_law_many", "_law_cells", "_law_nth", "_law_rests", "_law_spot", "_law_digit", "_law_mixed", "_law_more"]
theorem sc_law_next : FnScope N_law_next ["_law_drawn", "_law_many"] (defScope s_law_next) := ⟨rfl, rfl, rfl, by decide +kernel, rfl, by decide +kernel, by decide +kernel⟩
abbrev s_law_pick : Stmt := topS 9
abbrev N_law_pick : List Str := ["_law_drawn", "_law_items"]
theorem sc_law_pick : FnScope N_law_pick ["_law_drawn", "_law_items"] (defScope s_law_pick) := ⟨rfl, rfl, rfl, by decide +kernel, rfl, by decide +kernel, by decide +kernel⟩
abbrev s_law_column : Stmt := topS 10
abbrev N_law_column : List Str := ["_law_drawn", "_law_height", "_law_first", "_law_second", "_law_shape"]
theorem sc_law_column : FnScope N_law_column ["_law_drawn", "_law_height"] (defScope s_law_column) := ⟨rfl, rfl, rfl, by decide +kernel, rfl, by decide +kernel, by decide +kernel⟩
abbrev s_law_board : Stmt := topS 11
abbrev N_law_board : List Str := ["_law_drawn", "_law_most", "_law_height", "_law_columns", "_law_index", "_law_shape"]
theorem sc_law_board : FnScope N_law_board ["_law_drawn", "_law_most", "_law_height"] (defScope s_law_board) := ⟨rfl, rfl, rfl, by decide +kernel, rfl, by decide +kernel, by decide +kernel⟩
abbrev s_law_stretch : Stmt := topS 12
abbrev N_law_stretch : List Str := ["_law_board_here", "_law_base", "_law_gap", "_law_columns", "_law_column_here"]
theorem sc_law_stretch : FnScope N_law_stretch ["_law_board_here", "_law_base", "_law_gap"] (defScope s_law_stretch) := ⟨rfl, rfl, rfl, by decide +kernel, rfl, by decide +kernel, by decide +kernel⟩
abbrev s_law_any_board : Stmt := topS 13
abbrev N_law_any_board : List Str := ["_law_drawn", "_law_most", "_law_height", "_law_gap", "_law_base"]
theorem sc_law_any_board : FnScope N_law_any_board ["_law_drawn", "_law_most"] (defScope s_law_any_board) := ⟨rfl, rfl, rfl, by decide +kernel, rfl, by decide +kernel, by decide +kernel⟩
abbrev s_law_is_int : Stmt := topS 14
abbrev N_law_is_int : List Str := ["_law_value", "_law_low", "_law_high"]
theorem sc_law_is_int : FnScope N_law_is_int ["_law_value", "_law_low", "_law_high"] (defScope s_law_is_int) := ⟨rfl, rfl, rfl, by decide +kernel, rfl, by decide +kernel, by decide +kernel⟩
abbrev s_law_inside : Stmt := topS 15
abbrev N_law_inside : List Str := ["_law_board_here", "_law_column_here", "_law_row"]
theorem sc_law_inside : FnScope N_law_inside ["_law_board_here", "_law_column_here", "_law_row"] (defScope s_law_inside) := ⟨rfl, rfl, rfl, by decide +kernel, rfl, by decide +kernel, by decide +kernel⟩
abbrev s_law_full : Stmt := topS 16
abbrev N_law_full : List Str := ["_law_board_here", "_law_left", "_law_right", "_law_bottom", "_law_top", "_law_good", "_law_c"]
theorem sc_law_full : FnScope N_law_full ["_law_board_here", "_law_left", "_law_right", "_law_bottom", "_law_top"] (defScope s_law_full) := ⟨rfl, rfl, rfl, by decide +kernel, rfl, by decide +kernel, by decide +kernel⟩
abbrev s_law_is_rectangle : Stmt := topS 17
abbrev N_law_is_rectangle : List Str := ["_law_board_here", "_law_value", "_law_item", "_law_left", "_law_right", "_law_bottom", "_law_top"]
theorem sc_law_is_rectangle : FnScope N_law_is_rectangle ["_law_board_here", "_law_value"] (defScope s_law_is_rectangle) := ⟨rfl, rfl, rfl, by decide +kernel, rfl, by decide +kernel, by decide +kernel⟩
abbrev s_law_odd : Stmt := topS 18
abbrev N_law_odd : List Str := ["_law_drawn", "_law_odd_here"]
theorem sc_law_odd : FnScope N_law_odd ["_law_drawn"] (defScope s_law_odd) := ⟨rfl, rfl, rfl, by decide +kernel, rfl, by decide +kernel, by decide +kernel⟩
abbrev s_law_bent : Stmt := topS 19
abbrev N_law_bent : List Str := ["_law_drawn", "_law_value", "_law_depth", "_law_at", "_law_way"]
theorem sc_law_bent : FnScope N_law_bent ["_law_drawn", "_law_value", "_law_depth"] (defScope s_law_bent) := ⟨rfl, rfl, rfl, by decide +kernel, rfl, by decide +kernel, by decide +kernel⟩
abbrev s_law_tried : Stmt := topS 20
abbrev N_law_tried : List Str := ["_law_drawn", "_law_board_here", "_law_left", "_law_right", "_law_rows", "_law_column_here", "_law_bottom", "_law_top", "_law_shape"]
theorem sc_law_tried : FnScope N_law_tried ["_law_drawn", "_law_board_here"] (defScope s_law_tried) := ⟨rfl, rfl, rfl, by decide +kernel, rfl, by decide +kernel, by decide +kernel⟩
abbrev s_law : Stmt := topS 21
abbrev N_law : List Str := ["_law_script", "_law_drawn", "_law_turn", "_law_board_here", "_law_values", "_law_k", "_law_value", "_law_before", "_law_answer"]
theorem sc_law : FnScope N_law ["_law_script"] (defScope s_law) := ⟨rfl, rfl, rfl, by decide +kernel, rfl, by decide +kernel, by decide +kernel⟩
/-! ### the deck of three: the cells, how many draws, the rests of large cells -/
structure Dk (H : Hp) (d : Addr) (c : Addr × Addr) (n : Int) : Prop where
  ex : ∃ (xs ys : List Int), H d = some (.lst [.ref c.2, .int n, .ref c.1]) ∧ H c.2 = some (.lst (xs.map V.int)) ∧ H c.1 = some (.lst (ys.map V.int)) ∧ c.2 ≠ c.1 ∧ 0 < xs.length ∧ xs.length ≤ 64 ∧ ys.length = xs.length ∧ ∀ y ∈ ys, 0 ≤ y
theorem ints_ne {H : Hp} {d c e : Addr} {n : Int} {ys : List Int} (h1 : H d = some (.lst [.ref e, .int n, .ref c])) (h3 : H c = some (.lst (ys.map V.int))) : c ≠ d := by
  intro z
  subst z
  have q := h3.symm.trans h1
  match ys, q with
  | [], q => cases q
  | y :: r, q => cases q
def Kp (d : Addr) (c : Addr × Addr) (H H' : Hp) : Prop := ∀ b o, b ≠ d → b ≠ c.1 → H b = some o → H' b = some o
theorem Kp.trans {d : Addr} {c : Addr × Addr} {H H1 H2 : Hp} (h1 : Kp d c H H1) (h2 : Kp d c H1 H2) : Kp d c H H2 := fun b o n1 n2 e => h2 b o n1 n2 (h1 b o n1 n2 e)
theorem Kp.same {d : Addr} {c : Addr × Addr} {H H1 : Hp} (h : Same H H1) : Kp d c H H1 := fun b o _ _ e => h b o e
theorem Dk.two {H : Hp} {d : Addr} {c : Addr × Addr} {n : Int} (h : Dk H d c n) : (∃ us, H d = some (.lst us)) ∧ (∃ us, H c.1 = some (.lst us)) ∧ ∃ us, H c.2 = some (.lst us) := by
  obtain ⟨xs, ys, h1, h2, h3, _⟩ := h.ex
  exact ⟨⟨_, h1⟩, ⟨_, h3⟩, _, h2⟩
theorem Kp.none {d : Addr} {c : Addr × Addr} {H H' : Hp} (k : Kp d c H H') {n m : Int} (h : Dk H d c n) (h' : Dk H' d c m) {t : Addr} (e : H' t = none) : H t = none := by
  obtain ⟨⟨u1, e1⟩, ⟨u2, e2⟩, _⟩ := h'.two
  by_cases c1 : t = d
  · rw [c1, e1] at e
    cases e
  · by_cases c2 : t = c.1
    · rw [c2, e2] at e
      cases e
    · cases q : H t with
      | none => rfl
      | some o =>
        rw [k t o c1 c2 q] at e
        cases e
theorem Dk.kept {H H' : Hp} {d : Addr} {c : Addr × Addr} {n : Int} (h : Dk H d c n) (s : Same H H') : Dk H' d c n :=
  let ⟨xs, ys, h1, h2, h3, r⟩ := h.ex
  ⟨xs, ys, s _ _ h1, s _ _ h2, s _ _ h3, r⟩
theorem Dk.eq {H : Hp} {d : Addr} {c : Addr × Addr} {n m : Int} (h : Dk H d c n) (e : n = m) : Dk H d c m := e ▸ h
theorem same_new {H : Hp} {p : Addr} {o : HO} (h : H p = none) : Same H (upd H p o) := fun b x e => by
  rw [upd_ne (ne_of_none e h)]
  exact e
theorem cutTo (xs : List V) (j : Nat) : cutV xs none (some (j : Int)) = xs.take j := by
  unfold cutV
  rw [HT.sIx_none, show HT.sIx xs.length xs.length (some (j : Int)) = min j xs.length from HT.sIx_nat xs.length xs.length j]
  rw [Nat.sub_zero, List.drop_zero]
  rcases Nat.le_total j xs.length with h | h
  · rw [Nat.min_eq_left h]
  · rw [Nat.min_eq_right h, List.take_length, List.take_of_length_le h]
/-- p is no part of the deck -/
abbrev Off (d : Addr) (c : Addr × Addr) (p : Addr) : Prop := p ≠ d ∧ p ≠ c.1 ∧ p ≠ c.2
theorem Kp.keep {d : Addr} {c : Addr × Addr} {H H' : Hp} (k : Kp d c H H') {a : Addr} {o : HO} (n1 : Off d c a) (h : H a = some o) : H' a = some o := k a o n1.1 n1.2.1 h
theorem Kp.tup {d : Addr} {c : Addr × Addr} {n : Int} {H H' : Hp} (k : Kp d c H H') (dk : Dk H d c n) {a : Addr} {xs : List V} (h : H a = some (.tup xs)) : H' a = some (.tup xs) := by
  obtain ⟨⟨u1, e1⟩, ⟨u2, e2⟩, _⟩ := dk.two
  exact k a _ (ne_of h e1 (fun z => by cases z)) (ne_of h e2 (fun z => by cases z)) h
theorem Dk.off {H : Hp} {d : Addr} {c : Addr × Addr} {n : Int} (h : Dk H d c n) {p : Addr} (e : H p = none) : Off d c p := by
  obtain ⟨⟨u1, e1⟩, ⟨u2, e2⟩, u3, e3⟩ := h.two
  exact ⟨(ne_of_none e1 e).symm, (ne_of_none e2 e).symm, (ne_of_none e3 e).symm⟩
theorem Dk.upd {H : Hp} {d : Addr} {c : Addr × Addr} {n : Int} (h : Dk H d c n) {p : Addr} {o : HO} (off : Off d c p) : Dk (upd H p o) d c n := by
  obtain ⟨xs, ys, h1, h2, h3, r⟩ := h.ex
  exact ⟨xs, ys, by rw [upd_ne off.1.symm]; exact h1, by rw [upd_ne off.2.2.symm]; exact h2, by rw [upd_ne off.2.1.symm]; exact h3, r⟩
def mxI (i j : Int) : Int := if j > i then j else i
def mnI (i j : Int) : Int := if j < i then j else i
def sp_law_draws (K : PySem.W.Frag) : Sp := fun vs H Q _ => ∃ (a : Addr) (ns : List Int), vs = [.ref a] ∧ SqL K H a (ns.map V.int) ∧ ns.length ≤ 63 ∧
  ∀ H' d c, Same H H' → H d = none → Dk H' d c 0 → Q (.ref d) H'
def sp_law_next : Sp := fun vs H Q _ => ∃ (d : Addr) (c : Addr × Addr) (n lim : Int), vs = [.ref d, .int lim] ∧ Dk H d c n ∧ 0 ≤ n ∧ n < 1000000 ∧ 0 < lim ∧ lim < 2 ^ 63 ∧
  ∀ H' r, Kp d c H H' → Dk H' d c (n + 1) → 0 ≤ r → r < lim → Q (.int r) H'
section
structure Tx (K : PySem.W.Frag) (mg : Str → Option Value) (f_is_number f_is_tuple_of f_contains f_is_rectangle f_law_draws f_law_next f_law_pick f_law_column f_law_board f_law_stretch f_law_any_board f_law_is_int f_law_inside f_law_full f_law_is_rectangle f_law_odd f_law_bent f_law_tried f_law : Addr) (d_is_number d_is_tuple_of d_contains d_is_rectangle d_law_draws d_law_next d_law_pick d_law_column d_law_board d_law_stretch d_law_any_board d_law_is_int d_law_inside d_law_full d_law_is_rectangle d_law_odd d_law_bent d_law_tried d_law : FuncData) : Prop where
  F_is_number : Fun K "is_number" "is_number" s_is_number f_is_number d_is_number
  b_is_number : Binds K d_is_number ["value"] []
  g_is_number : mg "is_number" = some (.ref f_is_number)
  F_is_tuple_of : Fun K "is_tuple_of" "is_tuple_of" s_is_tuple_of f_is_tuple_of d_is_tuple_of
  b_is_tuple_of : Binds K d_is_tuple_of ["value", "length"] []
  g_is_tuple_of : mg "is_tuple_of" = some (.ref f_is_tuple_of)
  F_contains : Fun K "contains" "contains" s_contains f_contains d_contains
  b_contains : Binds K d_contains ["outer", "inner"] []
  g_contains : mg "contains" = some (.ref f_contains)
  F_is_rectangle : Fun K "is_rectangle" "is_rectangle" s_is_rectangle f_is_rectangle d_is_rectangle
  b_is_rectangle : Binds K d_is_rectangle ["board", "value"] []
  g_is_rectangle : mg "is_rectangle" = some (.ref f_is_rectangle)
  F_law_draws : Fun K "_law_draws" "_law_draws" s_law_draws f_law_draws d_law_draws
  b_law_draws : Binds K d_law_draws ["_law_script"] []
  g_law_draws : mg "_law_draws" = some (.ref f_law_draws)
  F_law_next : Fun K "_law_next" "_law_next" s_law_next f_law_next d_law_next
  b_law_next : Binds K d_law_next ["_law_drawn", "_law_many"] []
  g_law_next : mg "_law_next" = some (.ref f_law_next)
  F_law_pick : Fun K "_law_pick" "_law_pick" s_law_pick f_law_pick d_law_pick
  b_law_pick : Binds K d_law_pick ["_law_drawn", "_law_items"] []
  g_law_pick : mg "_law_pick" = some (.ref f_law_pick)
  F_law_column : Fun K "_law_column" "_law_column" s_law_column f_law_column d_law_column
  b_law_column : Binds K d_law_column ["_law_drawn", "_law_height"] []
  g_law_column : mg "_law_column" = some (.ref f_law_column)
  F_law_board : Fun K "_law_board" "_law_board" s_law_board f_law_board d_law_board
  b_law_board : Binds K d_law_board ["_law_drawn", "_law_most", "_law_height"] []
  g_law_board : mg "_law_board" = some (.ref f_law_board)
  F_law_stretch : Fun K "_law_stretch" "_law_stretch" s_law_stretch f_law_stretch d_law_stretch
  b_law_stretch : Binds K d_law_stretch ["_law_board_here", "_law_base", "_law_gap"] []
  g_law_stretch : mg "_law_stretch" = some (.ref f_law_stretch)
  F_law_any_board : Fun K "_law_any_board" "_law_any_board" s_law_any_board f_law_any_board d_law_any_board
  b_law_any_board : Binds K d_law_any_board ["_law_drawn", "_law_most"] []
  g_law_any_board : mg "_law_any_board" = some (.ref f_law_any_board)
  F_law_is_int : Fun K "_law_is_int" "_law_is_int" s_law_is_int f_law_is_int d_law_is_int
  b_law_is_int : Binds K d_law_is_int ["_law_value", "_law_low", "_law_high"] []
  g_law_is_int : mg "_law_is_int" = some (.ref f_law_is_int)
  F_law_inside : Fun K "_law_inside" "_law_inside" s_law_inside f_law_inside d_law_inside
  b_law_inside : Binds K d_law_inside ["_law_board_here", "_law_column_here", "_law_row"] []
  g_law_inside : mg "_law_inside" = some (.ref f_law_inside)
  F_law_full : Fun K "_law_full" "_law_full" s_law_full f_law_full d_law_full
  b_law_full : Binds K d_law_full ["_law_board_here", "_law_left", "_law_right", "_law_bottom", "_law_top"] []
  g_law_full : mg "_law_full" = some (.ref f_law_full)
  F_law_is_rectangle : Fun K "_law_is_rectangle" "_law_is_rectangle" s_law_is_rectangle f_law_is_rectangle d_law_is_rectangle
  b_law_is_rectangle : Binds K d_law_is_rectangle ["_law_board_here", "_law_value"] []
  g_law_is_rectangle : mg "_law_is_rectangle" = some (.ref f_law_is_rectangle)
  F_law_odd : Fun K "_law_odd" "_law_odd" s_law_odd f_law_odd d_law_odd
  b_law_odd : Binds K d_law_odd ["_law_drawn"] []
  g_law_odd : mg "_law_odd" = some (.ref f_law_odd)
  F_law_bent : Fun K "_law_bent" "_law_bent" s_law_bent f_law_bent d_law_bent
  b_law_bent : Binds K d_law_bent ["_law_drawn", "_law_value", "_law_depth"] []
  g_law_bent : mg "_law_bent" = some (.ref f_law_bent)
  F_law_tried : Fun K "_law_tried" "_law_tried" s_law_tried f_law_tried d_law_tried
  b_law_tried : Binds K d_law_tried ["_law_drawn", "_law_board_here"] []
  g_law_tried : mg "_law_tried" = some (.ref f_law_tried)
  F_law : Fun K "law" "law" s_law f_law d_law
  b_law : Binds K d_law ["_law_script"] []
  g_law : mg "law" = some (.ref f_law)
  z_all : mg "all" = none
  z_bool : mg "bool" = none
  z_int : mg "int" = none
  z_isinstance : mg "isinstance" = none
  z_len : mg "len" = none
  z_list : mg "list" = none
  z_max : mg "max" = none
  z_min : mg "min" = none
  z_range : mg "range" = none
  z_repr : mg "repr" = none
  z_str : mg "str" = none
  z_tuple : mg "tuple" = none
variable {P : Program} {w : World} {K : PySem.W.Frag} {mg : Str → Option Value} {base : Heap} {f_is_number f_is_tuple_of f_contains f_is_rectangle f_law_draws f_law_next f_law_pick f_law_column f_law_board f_law_stretch f_law_any_board f_law_is_int f_law_inside f_law_full f_law_is_rectangle f_law_odd f_law_bent f_law_tried f_law : Addr} {d_is_number d_is_tuple_of d_contains d_is_rectangle d_law_draws d_law_next d_law_pick d_law_column d_law_board d_law_stretch d_law_any_board d_law_is_int d_law_inside d_law_full d_law_is_rectangle d_law_odd d_law_bent d_law_tried d_law : FuncData}
abbrev TxA (K : PySem.W.Frag) (mg : Str → Option Value) (f_is_number f_is_tuple_of f_contains f_is_rectangle f_law_draws f_law_next f_law_pick f_law_column f_law_board f_law_stretch f_law_any_board f_law_is_int f_law_inside f_law_full f_law_is_rectangle f_law_odd f_law_bent f_law_tried f_law : Addr) (d_is_number d_is_tuple_of d_contains d_is_rectangle d_law_draws d_law_next d_law_pick d_law_column d_law_board d_law_stretch d_law_any_board d_law_is_int d_law_inside d_law_full d_law_is_rectangle d_law_odd d_law_bent d_law_tried d_law : FuncData) := Tx K mg f_is_number f_is_tuple_of f_contains f_is_rectangle f_law_draws f_law_next f_law_pick f_law_column f_law_board f_law_stretch f_law_any_board f_law_is_int f_law_inside f_law_full f_law_is_rectangle f_law_odd f_law_bent f_law_tried f_law d_is_number d_is_tuple_of d_contains d_is_rectangle d_law_draws d_law_next d_law_pick d_law_column d_law_board d_law_stretch d_law_any_board d_law_is_int d_law_inside d_law_full d_law_is_rectangle d_law_odd d_law_bent d_law_tried d_law 
theorem ok_law_draws (T : Tx K mg f_is_number f_is_tuple_of f_contains f_is_rectangle f_law_draws f_law_next f_law_pick f_law_column f_law_board f_law_stretch f_law_any_board f_law_is_int f_law_inside f_law_full f_law_is_rectangle f_law_odd f_law_bent f_law_tried f_law d_is_number d_is_tuple_of d_contains d_is_rectangle d_law_draws d_law_next d_law_pick d_law_column d_law_board d_law_stretch d_law_any_board d_law_is_int d_law_inside d_law_full d_law_is_rectangle d_law_odd d_law_bent d_law_tried d_law) : FnOk P w K mg base CX0 1 f_law_draws d_law_draws ["_law_script"] (sp_law_draws K) := by
  refine T.F_law_draws.ok sc_law_draws (fun vs H Q E h => ?_) (fun cdv A outer s H vs Q E hr h => ?_)
  · obtain ⟨a, ns0, rfl, _⟩ := h
    rfl
  · obtain ⟨a, ns0, rfl, hS, hlen, q⟩ := h
    refine ⟨_, (pss_cons (ps_set (i := 1) sc_law_draws.nd rfl (Or.inl rfl) (pe_op op_cat (pe_callTy call_list_of (by rfl) T.z_list (by decide +kernel) (pa_cons (pe_slice sl_list (pv 0) po_none (po_some pe_int)) pa_nil)) (pe_op op_rep (pe_lst (pa_cons pe_int pa_nil)) (pe_callTy call_int1 (by rfl) T.z_int (by decide +kernel) (pa_cons (pe_cmpR op_eq (pe_callB call_len_seq (by rfl) T.z_len PySem.boot_len (pa_cons (pv 0) pa_nil)) pe_int (nomark _)) pa_nil)))))
      (pss_one (ps_ret (pe_lst (pa_cons (pv 1) (pa_cons pe_int (pa_cons (pe_lc (own := [("_law_cell", 2)]) (g := (gName 2)) (tt := tYes) (by rfl) sc_law_draws.nd (pi_list (pv 1)) (blkOk_by (own := [("_law_cell", 2)]) (N := N_law_draws) (sc := defScope s_law_draws) (by decide +kernel)) (fun _ _ _ _ _ => (pg_name (i := 2) sc_law_draws.nd rfl (Or.inl rfl))) (fun _ _ _ _ _ => pts_nil) (fun _ _ _ _ _ => (pe_op op_mul (pv 2) (pe_callTy call_int1 (by rfl) T.z_int (by decide +kernel) (pa_cons (pe_cmpR op_ge (pv 2) (pe_op op_pow pe_int pe_int) (nomark _)) pa_nil))))) pa_nil))))))), ?_⟩
    refine ⟨.ref a, rfl, 63, rfl, a, ns0.map V.int, rfl, hS, fun p np => ?_⟩
    rw [show cutV (ns0.map V.int) none (some 63) = (ns0.take 63).map V.int by rw [List.map_take]; exact cutTo _ 63]
    have tk : ns0.take 63 = ns0 := List.take_of_length_le hlen
    rw [tk]
    have s1 := same_new (o := .lst (ns0.map V.int)) np
    have e1 := upd_same (H := H) (a := p) (o := .lst (ns0.map V.int))
    generalize upd H p (.lst (ns0.map V.int)) = H1 at *
    refine ⟨p, _, rfl, .inl (SqL.of e1), fun D nD => ?_⟩
    have s2 := same_new (o := .lst (ns0.map V.int)) nD
    have eD := upd_same (H := H1) (a := D) (o := .lst (ns0.map V.int))
    generalize upd H1 D (.lst (ns0.map V.int)) = H2 at *
    have s12 := s1.trans s2
    refine ⟨by show 1 ≤ sizeLine; decide, fun z nz => ?_⟩
    have s3 := same_new (o := .lst [.int 0]) nz
    have ez := upd_same (H := H2) (a := z) (o := .lst [.int 0])
    generalize upd H2 z (.lst [.int 0]) = H3 at *
    have s13 := s12.trans s3
    refine ⟨.ref a, rfl, a, _, rfl, .inl (s13.seq hS), rfl, .inr ⟨_, rfl, ?_⟩⟩
    obtain ⟨k, ek⟩ : ∃ k : Int, k = (if decide (V.int ((ns0.map V.int).length : Int) = V.int 0) = true then 1 else 0) := ⟨_, rfl⟩
    have ek2 : (k = 1 ∧ ns0.length = 0) ∨ (k = 0 ∧ 0 < ns0.length) := by
      rw [List.length_map] at ek
      by_cases c : ns0.length = 0
      · rw [if_pos (decide_eq_true (by rw [c]; rfl))] at ek
        exact .inl ⟨ek, c⟩
      · rw [if_neg (fun z => c (by have := of_decide_eq_true z; injection this with this; omega))] at ek
        exact .inr ⟨ek, by omega⟩
    rw [← ek]
    refine ⟨z, k, _, rfl, rfl, ez, by omega, by omega, by rw [show sizeLine = 16777216 by decide]; show 1 * _ ≤ _; omega, fun zz nzz => ?_⟩
    have s4 := same_new (o := .lst (List.replicate k.toNat [V.int 0]).flatten) nzz
    have ezz := upd_same (H := H3) (a := zz) (o := .lst (List.replicate k.toNat [V.int 0]).flatten)
    generalize upd H3 zz (.lst (List.replicate k.toNat [V.int 0]).flatten) = H4 at *
    obtain ⟨cs, ecs⟩ : ∃ cs : List Int, cs = (ns0 ++ List.replicate k.toNat 0) := ⟨_, rfl⟩
    have elst : ns0.map V.int ++ (List.replicate k.toNat [V.int 0]).flatten = cs.map V.int := by
      rw [ecs, List.map_append, List.map_replicate]
      rcases ek2 with ⟨e, _⟩ | ⟨e, _⟩ <;> rw [e] <;> rfl
    have lcs : 0 < cs.length ∧ cs.length ≤ 64 := by
      rw [ecs, List.length_append, List.length_replicate]
      omega
    have s34 := s3.trans s4
    refine ⟨D, zz, _, _, rfl, rfl, s34 _ _ eD, ezz, ?_, fun e ne => ?_⟩
    · have := congrArg List.length elst
      rw [List.length_append, List.length_map (f := V.int)] at this
      rw [show sizeLine = 16777216 by decide]
      simp only [List.length_map] at *
      omega
    rw [elst]
    have s5 := same_new (o := .lst (cs.map V.int)) ne
    have ee := upd_same (H := H4) (a := e) (o := .lst (cs.map V.int))
    generalize upd H4 e (.lst (cs.map V.int)) = H5 at *
    have s05 := s12.trans (s34.trans s5)
    refine ⟨.ref e, rfl, .ref e, rfl, e, rfl, ⟨_, SqL.of ee⟩, fun c nc => ?_⟩
    refine lc_list (K := K) (a := e) (xs := cs.map V.int) (fun i H' => Same H5 H' ∧ ∃ ys : List Int, H' c = some (.lst (ys.map V.int)) ∧ ys.length = i ∧ ∀ y ∈ ys, 0 ≤ y) ⟨same_new nc, [], upd_same, rfl, fun y hy => nomatch hy⟩ (fun i H' _ h => SqL.of (h.1 _ _ ee)) ?_ ?_
    · rintro i x H' hi ⟨sm, ys, eC, ly, py⟩
      have il := (List.getElem?_eq_some_iff.mp hi).1
      rw [List.getElem?_map] at hi
      obtain ⟨n, en, rfl⟩ := Option.map_eq_some_iff.mp hi
      rw [List.length_map] at il
      refine ⟨rfl, .int n, rfl, .int n, rfl, 10, 18, rfl, rfl, ⟨by decide, by decide, by decide⟩, _, _, rfl, rfl, .inr ⟨_, rfl, ?_⟩⟩
      obtain ⟨k2, ek3, h0⟩ : ∃ k2 : Int, (if decide ((10 : Int) ^ (18 : Int).toNat ≤ n) = true then 1 else 0) = k2 ∧ ((k2 = 1 ∧ 0 ≤ n) ∨ k2 = 0) := by
        refine ⟨_, rfl, ?_⟩
        split
        · next h =>
          have h := of_decide_eq_true h
          have : (10 : Int) ^ (18 : Int).toNat = 1000000000000000000 := by decide
          omega
        · exact .inr rfl
      rw [ek3]
      refine ⟨_, _, rfl, rfl, .inr ⟨by omega, by omega⟩, ys.map V.int, eC, by rw [List.length_map]; exact small1000 (by omega), (fun b u e => by rw [upd_ne (ne_of_none e nc)]; exact sm b u e), ys ++ [n * k2], ?_, by rw [List.length_append, ly]; rfl, fun y hy => ?_⟩
      · rw [upd_same, List.map_append]
        rfl
      · rcases List.mem_append.mp hy with hy | hy
        · exact py y hy
        · rw [List.mem_singleton.mp hy]
          rcases h0 with ⟨rfl, h⟩ | rfl
          · rw [Int.mul_one]
            exact h
          · rw [Int.mul_zero]
            exact Int.le_refl _
    rintro H6 ⟨s6, ys, eC, ly, py⟩
    rw [List.length_map] at ly
    refine ⟨by show 3 ≤ sizeLine; decide, fun d nd => ?_⟩
    have s7 := same_new (o := .lst [.ref e, .int 0, .ref c]) nd
    have s07 := s05.trans (s6.trans s7)
    refine q _ d (c, e) s07 ((s05.trans s6).free nd) ⟨cs, ys, upd_same, s7 _ _ (s6 _ _ ee), s7 _ _ eC, ne_of_none ee nc, lcs.1, lcs.2, ly, py⟩
theorem ok_law_next (T : Tx K mg f_is_number f_is_tuple_of f_contains f_is_rectangle f_law_draws f_law_next f_law_pick f_law_column f_law_board f_law_stretch f_law_any_board f_law_is_int f_law_inside f_law_full f_law_is_rectangle f_law_odd f_law_bent f_law_tried f_law d_is_number d_is_tuple_of d_contains d_is_rectangle d_law_draws d_law_next d_law_pick d_law_column d_law_board d_law_stretch d_law_any_board d_law_is_int d_law_inside d_law_full d_law_is_rectangle d_law_odd d_law_bent d_law_tried d_law) : FnOk P w K mg base CX0 1 f_law_next d_law_next ["_law_drawn", "_law_many"] sp_law_next := by
  refine T.F_law_next.ok sc_law_next (fun vs H Q E h => ?_) (fun cdv A outer s H vs Q E hr h => ?_)
  · obtain ⟨d, c, n, lim, rfl, _⟩ := h
    rfl
  · obtain ⟨d, c, n, lim, rfl, dk, n0, n1, l0, l1, q⟩ := h
    refine ⟨_, (pss_cons (ps_asg (pv 0) (pg_unl rfl (pgs_cons (pg_name (i := 2) sc_law_next.nd rfl (Or.inl rfl)) (pgs_cons (pg_name (i := 3) sc_law_next.nd rfl (Or.inl rfl)) (pgs_cons (pg_name (i := 4) sc_law_next.nd rfl (Or.inl rfl)) pgs_nil)))))
      (pss_cons (ps_set (i := 5) sc_law_next.nd rfl (Or.inl rfl) (pe_op op_mod (pv 3) (pe_callB call_len_seq (by rfl) T.z_len PySem.boot_len (pa_cons (pv 2) pa_nil))))
      (pss_cons (ps_asg (pe_op op_add (pv 3) pe_int) (pg_sub (pv 0) pe_int set_list))
      (pss_cons (ps_if (pt_cmpR op_gt (pe_ix ix_list (pv 4) (pv 5) (fun _ _ => rfl)) pe_int (nomark _))
      (pss_cons (ps_set (i := 6) sc_law_next.nd rfl (Or.inl rfl) (pe_op op_mod (pe_ix ix_list (pv 4) (pv 5) (fun _ _ => rfl)) (pv 1)))
      (pss_cons (ps_asg (pe_op op_fdivW (pe_ix ix_list (pv 4) (pv 5) (fun _ _ => rfl)) (pv 1)) (pg_sub (pv 4) (pv 5) set_list))
      (pss_one (ps_ret (pv 6)))))
      pss_nil)
      (pss_cons (ps_set (i := 7) sc_law_next.nd rfl (Or.inl rfl) (pe_op op_mod (pe_op op_pow (pe_op op_add (pe_op op_add (pe_op op_mod (pe_ix ix_list (pv 2) (pv 5) (fun _ _ => rfl)) pe_int) (pe_op op_mulW pe_int (pv 3))) pe_int) pe_int) pe_int))
      (pss_cons (ps_set (i := 8) sc_law_next.nd rfl (Or.inl rfl) (pe_op op_mod (pe_op op_pow (pe_op op_add (pe_op op_add (pv 7) (pe_op op_mulW (pe_op op_mulW pe_int (pv 3)) (pv 3))) pe_int) pe_int) pe_int))
      (pss_one (ps_ret (pe_op op_mod (pe_op op_mod (pe_op op_add (pe_op op_mulW (pv 8) pe_int) (pv 7)) pe_int) (pv 1)))))))))), ?_⟩
    obtain ⟨xs, ys, h1, h2, h3, ec, x0, x64, ly, py⟩ := dk.ex
    have nd1 : c.1 ≠ d := ints_ne h1 h3
    have nd2 : c.2 ≠ d := fun z => by
      have q := (z ▸ h2).symm.trans h1
      match xs, q with
      | [], q => cases q
      | y :: r, q => cases q
    have n64 : n.natAbs < 2 ^ 64 := by omega
    have l64 : lim.natAbs < 2 ^ 64 := by omega
    refine ⟨.ref d, rfl, d, _, rfl, SqL.of h1, rfl, .ref c.2, _, rfl, .int n, _, rfl, .ref c.1, [], rfl, rfl, ?_⟩
    refine ⟨.int n, rfl, .ref c.2, rfl, c.2, _, rfl, .inl (SqL.of h2), _, _, rfl, rfl, by rw [List.length_map]; omega, ?_⟩
    rw [List.length_map]
    obtain ⟨j, ej, jl⟩ : ∃ j : Nat, n % (xs.length : Int) = j ∧ j < xs.length := ⟨(n % (xs.length : Int)).toNat, (Int.toNat_of_nonneg (Int.emod_nonneg _ (by omega))).symm, by
      have := Int.emod_lt_of_pos n (show (0 : Int) < xs.length by omega)
      have := Int.emod_nonneg n (show (xs.length : Int) ≠ 0 by omega)
      omega⟩
    show gName 5 (V.int (n % (xs.length : Int))) _ _ _
    rw [ej]
    have gx : (xs.map V.int)[j]? = some (.int xs[j]) := by rw [List.getElem?_map, List.getElem?_eq_getElem jl]; rfl
    have jl2 : j < ys.length := by omega
    have gy : (ys.map V.int)[j]? = some (.int ys[j]) := by rw [List.getElem?_map, List.getElem?_eq_getElem jl2]; rfl
    have yp := py _ (List.getElem_mem jl2)
    generalize ys[j] = y at *
    generalize xs[j] = x at *
    refine ⟨.int n, rfl, _, _, rfl, rfl, .ref d, rfl, d, _, 1, 1, rfl, rfl, h1, rfl, ?_⟩
    generalize eH : upd H d (.lst ([V.ref c.2, V.int n, V.ref c.1].set 1 (.int (n + 1)))) = H1
    have d1 : H1 d = some (.lst [.ref c.2, .int (n + 1), .ref c.1]) := by
      rw [← eH, upd_same]
      rfl
    have kp1 : Kp d c H H1 := fun b o nb _ e => by
      rw [← eH, upd_ne nb]
      exact e
    have a2 : H1 c.2 = some (.lst (xs.map V.int)) := by rw [← eH, upd_ne nd2]; exact h2
    have a3 : H1 c.1 = some (.lst (ys.map V.int)) := by rw [← eH, upd_ne nd1]; exact h3
    have dk1 : Dk H1 d c (n + 1) := ⟨xs, ys, d1, a2, a3, ec, x0, x64, ly, py⟩
    refine ⟨.ref c.1, rfl, .int j, rfl, c.1, _, _, .int y, rfl, rfl, SqL.of a3, atI_nat gy, _, _, rfl, rfl, _, rfl, ite2 (fun e => ?_) (fun e => ?_)⟩
    · refine ⟨.ref c.1, rfl, .int j, rfl, c.1, _, _, .int y, rfl, rfl, SqL.of a3, atI_nat gy, .int lim, rfl, _, _, rfl, rfl, l0, ?_⟩
      refine ⟨.ref c.1, rfl, .int j, rfl, c.1, _, _, .int y, rfl, rfl, SqL.of a3, atI_nat gy, .int lim, rfl, _, _, rfl, rfl, wide_div l0 l64 (by decide) (by decide), .ref c.1, rfl, .int j, rfl, c.1, _, _, j, rfl, rfl, a3, ?_, ?_⟩
      · unfold ixN
        rw [if_pos (by omega), if_pos (by rw [List.length_map]; omega)]
        rfl
      refine ⟨_, rfl, ?_⟩
      refine q _ _ (fun b o nb nc e => ?_) ⟨xs, ys.set j (y / lim), ?_, ?_, ?_, ec, x0, x64, by rw [List.length_set]; exact ly, fun z hz => ?_⟩ (Int.emod_nonneg _ (by omega)) (Int.emod_lt_of_pos _ l0)
      · rw [upd_ne nc]
        exact kp1 b o nb nc e
      · rw [upd_ne nd1.symm]
        exact d1
      · rw [upd_ne ec]
        exact a2
      · rw [upd_same, List.map_set]
      · rcases List.mem_or_eq_of_mem_set hz with hm | he
        · exact py z hm
        · rw [he]
          exact Int.ediv_nonneg yp (by omega)
    · refine ⟨.ref c.2, rfl, .int j, rfl, c.2, _, _, .int x, rfl, rfl, SqL.of a2, atI_nat gx, _, _, rfl, rfl, (by show (0 : Int) < 2147483647; decide), .int n, rfl, _, _, rfl, rfl, wide_mul (a := 17) (b := 64) (by decide) n64 (by decide) (by decide) (by decide), _, _, rfl, rfl, _, _, rfl, rfl, _, _, rfl, rfl, ⟨by decide, by decide, ?_⟩, _, _, rfl, rfl, (by show (0 : Int) < 2147483629; decide), ?_⟩
      · have a0 := Int.emod_nonneg x (show (2147483647 : Int) ≠ 0 by decide)
        have a1 := Int.emod_lt_of_pos x (show (0 : Int) < 2147483647 by decide)
        omega
      generalize (x % 2147483647 + 69621 * n + 30269) ^ (3 : Int).toNat = big
      have b0 := Int.emod_nonneg big (show (2147483629 : Int) ≠ 0 by decide)
      have b1 := Int.emod_lt_of_pos big (show (0 : Int) < 2147483629 by decide)
      have nn : (6007 * n * n).natAbs ≤ 6007 * 1000000 * 1000000 := by
        rw [Int.natAbs_mul, Int.natAbs_mul]
        exact Nat.mul_le_mul (Nat.mul_le_mul (by decide) (by omega)) (by omega)
      have nn0 : 0 ≤ 6007 * n * n := Int.mul_nonneg (Int.mul_nonneg (by decide) n0) n0
      refine ⟨_, rfl, .int n, rfl, _, _, rfl, rfl, wide_mul (a := 17) (b := 64) (by decide) n64 (by decide) (by decide) (by decide), .int n, rfl, _, _, rfl, rfl, wide_mul (a := 100) (b := 64) ?_ n64 (by decide) (by decide) (by decide), _, _, rfl, rfl, _, _, rfl, rfl, _, _, rfl, rfl, ⟨by decide, by decide, ?_⟩, _, _, rfl, rfl, (by show (0 : Int) < 2147483587; decide), ?_⟩
      · have : (6007 * n).natAbs ≤ 6007 * 1000000 := by
          rw [Int.natAbs_mul]
          exact Nat.mul_le_mul (by decide) (by omega)
        omega
      · omega
      generalize (big % 2147483629 + 6007 * n * n + 17) ^ (3 : Int).toNat = big2
      have c0 := Int.emod_nonneg big2 (show (2147483587 : Int) ≠ 0 by decide)
      have c1 := Int.emod_lt_of_pos big2 (show (0 : Int) < 2147483587 by decide)
      refine ⟨_, rfl, _, _, rfl, rfl, wide_mul (a := 40) (b := 40) (by show (big2 % 2147483587).natAbs < _; omega) (by decide) (by decide) (by decide) (by decide), _, rfl, _, _, rfl, rfl, _, _, rfl, rfl, (by show (0 : Int) < 4611686018427387847; decide), .int lim, rfl, _, _, rfl, rfl, l0, ?_⟩
      exact q _ _ kp1 dk1 (Int.emod_nonneg _ (by omega)) (Int.emod_lt_of_pos _ l0)

/-! ### what stays when the heap grows, or the deck is drawn from -/
theorem rd_same {H H' : Hp} (s : Same H H') {a : Addr} {u : HO} (h : Rd H a u) : Rd H' a u := by
  rcases h with h | ⟨o, h⟩
  · exact .inl (s _ _ h)
  · exact .inr ⟨o, s _ _ h⟩
theorem sqT_same {K : PySem.W.Frag} {H H' : Hp} (s : Same H H') {a : Addr} {xs : List V} (h : SqT K H a xs) : SqT K H' a xs := by
  rcases h with h | h
  · exact .inl (rd_same s h)
  · exact .inr h
theorem dp_same {K : PySem.W.Frag} {H H' : Hp} (s : Same H H') {v : V} {d : PyData} (h : Dp K H v d) : Dp K H' v d := by
  refine Dp.rec (K := K) (H := H) (motive_1 := fun v d _ => Dp K H' v d) (motive_2 := fun vs ds _ => DpAll K H' vs ds) .non (fun b => .bl b) (fun i => .int i) (fun x => .str x) (fun hs _ q => .lst (s.seq hs) q) (fun hs _ q => .tup (sqT_same s hs) q) .nil (fun _ _ a b => .cons a b) h
theorem dp2 {K : PySem.W.Frag} {H : Hp} {t : Addr} {x y : Int} (h : H t = some (.tup [.int x, .int y])) : Dp K H (.ref t) (.tuple [.int x, .int y]) := .tup (SqT.of h) (.cons (.int x) (.cons (.int y) .nil))
theorem sm2 {x y : Int} (h1 : x.natAbs < 10 ^ 30) (h2 : y.natAbs < 10 ^ 30) : Sm 202 1 (.tuple [.int x, .int y]) := by
  have h := Sm.tup (n := 100) (dp := 0) (ds := [.int x, .int y]) (fun d hd => by
    rcases List.mem_cons.mp hd with rfl | hd
    · exact Sm.int h1
    · rcases List.mem_cons.mp hd with rfl | hd
      · exact Sm.int h2
      · cases hd)
  exact h
/-- an interval, or None -/
def optD : Option (Int × Int) → PyData
  | none => .none
  | some (x, y) => .tuple [.int x, .int y]
def OV (H : Hp) (v : V) : Option (Int × Int) → Prop
  | none => v = .non
  | some (x, y) => ∃ t, v = .ref t ∧ H t = some (.tup [.int x, .int y])
theorem OV.same {H H' : Hp} (s : Same H H') {v : V} {o : Option (Int × Int)} (h : OV H v o) : OV H' v o := by
  match o, h with
  | none, h => exact h
  | some (x, y), h =>
    obtain ⟨t, e, z⟩ := h
    exact ⟨t, e, s _ _ z⟩
theorem OV.kp {d : Addr} {c : Addr × Addr} {n : Int} {H H' : Hp} (k : Kp d c H H') (dk : Dk H d c n) {v : V} {o : Option (Int × Int)} (h : OV H v o) : OV H' v o := by
  match o, h with
  | none, h => exact h
  | some (x, y), h =>
    obtain ⟨t, e, z⟩ := h
    exact ⟨t, e, k.tup dk z⟩
theorem OV.dp {K : PySem.W.Frag} {H : Hp} {v : V} {o : Option (Int × Int)} (h : OV H v o) : Dp K H v (optD o) := by
  match o, h with
  | none, h =>
    cases h
    exact .non
  | some (x, y), h =>
    obtain ⟨t, e, z⟩ := h
    subst e
    exact dp2 z

/-! ### rows of intervals -/
inductive Ivs (H : Hp) : List V → List (Int × Int) → Prop
  | nil : Ivs H [] []
  | cons {a : Addr} {x y : Int} {vs : List V} {ps : List (Int × Int)} : H a = some (.tup [.int x, .int y]) → Ivs H vs ps → Ivs H (.ref a :: vs) ((x, y) :: ps)
theorem Ivs.length {H : Hp} {vs : List V} {ps : List (Int × Int)} (h : Ivs H vs ps) : vs.length = ps.length := by
  induction h with
  | nil => rfl
  | cons _ _ ih => rw [List.length_cons, List.length_cons, ih]
theorem Ivs.same {H H' : Hp} (s : Same H H') {vs : List V} {ps : List (Int × Int)} (h : Ivs H vs ps) : Ivs H' vs ps := by
  induction h with
  | nil => exact .nil
  | cons e _ ih => exact .cons (s _ _ e) ih
theorem Ivs.kp {d : Addr} {c : Addr × Addr} {n : Int} {H H' : Hp} (k : Kp d c H H') (dk : Dk H d c n) {vs : List V} {ps : List (Int × Int)} (h : Ivs H vs ps) : Ivs H' vs ps := by
  induction h with
  | nil => exact .nil
  | cons e _ ih => exact .cons (k.tup dk e) ih
theorem Ivs.get {H : Hp} {vs : List V} {ps : List (Int × Int)} (h : Ivs H vs ps) : ∀ {i : Nat} {v : V}, vs[i]? = some v → ∃ a x y, v = .ref a ∧ ps[i]? = some (x, y) ∧ H a = some (.tup [.int x, .int y]) := by
  induction h with
  | nil =>
    intro i v e
    simp at e
  | cons e _ ih =>
    intro i v q
    cases i with
    | zero =>
      cases q
      exact ⟨_, _, _, rfl, rfl, e⟩
    | succ i => exact ih q
theorem Ivs.snoc {H : Hp} {vs : List V} {ps : List (Int × Int)} {a : Addr} {x y : Int} (h : Ivs H vs ps) (e : H a = some (.tup [.int x, .int y])) : Ivs H (vs ++ [.ref a]) (ps ++ [(x, y)]) := by
  induction h with
  | nil => exact .cons e .nil
  | cons z _ ih => exact .cons z ih
def pairD (p : Int × Int) : PyData := .tuple [.int p.1, .int p.2]
theorem Ivs.dp {K : PySem.W.Frag} {H : Hp} {vs : List V} {ps : List (Int × Int)} (h : Ivs H vs ps) : DpAll K H vs (ps.map pairD) := by
  induction h with
  | nil => exact .nil
  | cons e _ ih => exact .cons (dp2 e) ih

/-! ### comprehensions that change nothing but make new objects -/
/-- the tuples stay -/
def Tps (H H' : Hp) : Prop := ∀ b xs, H b = some (.tup xs) → H' b = some (.tup xs)
theorem Tps.refl (H : Hp) : Tps H H := fun _ _ e => e
theorem Tps.trans {H H1 H2 : Hp} (h : Tps H H1) (h2 : Tps H1 H2) : Tps H H2 := fun b xs e => h2 b xs (h b xs e)
theorem Tps.same {H H1 : Hp} (h : Same H H1) : Tps H H1 := fun b xs e => h b _ e
theorem Kp.tps {d : Addr} {c : Addr × Addr} {n : Int} {H H' : Hp} (k : Kp d c H H') (dk : Dk H d c n) : Tps H H' := fun _ _ e => k.tup dk e
theorem Tps.lst {H : Hp} {D : Addr} {ws vs : List V} (e : H D = some (.lst ws)) : Tps H (upd H D (.lst vs)) := fun b xs h => by
  rw [upd_ne (ne_of h e (fun z => by cases z))]
  exact h
theorem same_off {H0 H : Hp} {D : Addr} {o : HO} (n : H0 D = none) (s : Same H0 H) : Same H0 (upd H D o) := fun b u e => by
  rw [upd_ne (ne_of_none e n)]
  exact s b u e
theorem few_line {n : Nat} (h : n < 1000) : n < sizeLine := by
  rw [show sizeLine = 16777216 by decide]
  omega
theorem lcL {K : PySem.W.Frag} {a : Addr} {xs : List V} {g : TG} {tt : TT} {te : TE} {vs : List Nat} {σ : L2.St} {H1 : Hp} {D : Addr} {Qd : Hp → Prop} (R : Nat → Hp → List V → Prop) (nD : H1 D = none) (hl : ∀ H', Same H1 H' → SqL K H' a xs) (few : xs.length < 1000)
    (mono : ∀ i H' H'' ws, Tps H' H'' → R i H' ws → R i H'' ws) (len : ∀ i H' ws, R i H' ws → ws.length ≤ i) (r0 : ∀ H', R 0 H' [])
    (hs : ∀ i x H' (N : Hp → Prop) acc, xs[i]? = some x → Same H1 H' → H' D = some (.lst acc) → acc.length < sizeLine → R i H' acc → (∀ H'', Same H' H'' → R (i + 1) H'' acc → N H'') → (∀ H'' y, Same H' H'' → R (i + 1) H'' (acc ++ [y]) → ∃ acc', H'' D = some (.lst acc') ∧ acc'.length < sizeLine ∧ N (upd H'' D (.lst (acc' ++ [y])))) →
      g x (wipe σ vs) H' fun σ2 H2 => wipe σ2 vs = wipe σ vs ∧ tt σ2 H2 fun b H3 => if b = true then te σ2 H3 fun y H4 => ∃ acc, H4 D = some (.lst acc) ∧ acc.length < sizeLine ∧ N (upd H4 D (.lst (acc ++ [y]))) else N H3)
    (hd : ∀ H' ws, Same H1 H' → H' D = some (.lst ws) → R xs.length H' ws → Qd H') :
    ∃ W : Nat → Nat → Hp → Prop, (∃ m, W 0 m (upd H1 D (.lst []))) ∧ ∀ i m H, W i m H →
      ((Itl K a).stop i H ∧ Qd H) ∨ ((Itl K a).go i H ∧ ∃ Nx : Hp → Prop, (∀ H', Nx H' → ∃ m', m' < m ∧ W (i + 1) m' H') ∧ ∀ x H', (Itl K a).yld i H x H' → g x (wipe σ vs) H' fun σ2 H2 => wipe σ2 vs = wipe σ vs ∧ tt σ2 H2 fun b H3 =>
        if b = true then te σ2 H3 fun y H4 => ∃ acc, H4 D = some (.lst acc) ∧ acc.length < sizeLine ∧ Nx (upd H4 D (.lst (acc ++ [y]))) else Nx H3) := by
  refine lc_list (K := K) (a := a) (xs := xs) (fun i H' => Same H1 H' ∧ ∃ ws, H' D = some (.lst ws) ∧ R i H' ws) ⟨same_new nD, [], upd_same, r0 _⟩ (fun i H' _ h => hl H' h.1) ?_ ?_
  · rintro i x H' hi ⟨sm, ws, eD, r⟩
    have lt := (List.getElem?_eq_some_iff.mp hi).1
    have lw := len i H' ws r
    have sz : ws.length < sizeLine := few_line (by omega)
    refine hs i x H' _ ws hi sm eD sz r (fun H'' s r2 => ⟨sm.trans s, ws, s _ _ eD, r2⟩) (fun H'' y s r2 => ?_)
    exact ⟨ws, s _ _ eD, sz, same_off nD (sm.trans s), _, upd_same, mono _ _ _ _ (Tps.lst (s _ _ eD)) r2⟩
  · rintro H' ⟨sm, ws, eD, r⟩
    exact hd H' ws sm eD r
theorem lcT {K : PySem.W.Frag} {a : Addr} {xs : List V} {g : TG} {tt : TT} {te : TE} {vs : List Nat} {σ : L2.St} {H1 : Hp} {D : Addr} {Qd : Hp → Prop} (R : Nat → Hp → List V → Prop) (nD : H1 D = none) (hl : ∀ H', Same H1 H' → SqT K H' a xs) (few : xs.length < 1000)
    (mono : ∀ i H' H'' ws, Tps H' H'' → R i H' ws → R i H'' ws) (len : ∀ i H' ws, R i H' ws → ws.length ≤ i) (r0 : ∀ H', R 0 H' [])
    (hs : ∀ i x H' (N : Hp → Prop) acc, xs[i]? = some x → Same H1 H' → H' D = some (.lst acc) → acc.length < sizeLine → R i H' acc → (∀ H'', Same H' H'' → R (i + 1) H'' acc → N H'') → (∀ H'' y, Same H' H'' → R (i + 1) H'' (acc ++ [y]) → ∃ acc', H'' D = some (.lst acc') ∧ acc'.length < sizeLine ∧ N (upd H'' D (.lst (acc' ++ [y])))) →
      g x (wipe σ vs) H' fun σ2 H2 => wipe σ2 vs = wipe σ vs ∧ tt σ2 H2 fun b H3 => if b = true then te σ2 H3 fun y H4 => ∃ acc, H4 D = some (.lst acc) ∧ acc.length < sizeLine ∧ N (upd H4 D (.lst (acc ++ [y]))) else N H3)
    (hd : ∀ H' ws, Same H1 H' → H' D = some (.lst ws) → R xs.length H' ws → Qd H') :
    ∃ W : Nat → Nat → Hp → Prop, (∃ m, W 0 m (upd H1 D (.lst []))) ∧ ∀ i m H, W i m H →
      ((Itt K a).stop i H ∧ Qd H) ∨ ((Itt K a).go i H ∧ ∃ Nx : Hp → Prop, (∀ H', Nx H' → ∃ m', m' < m ∧ W (i + 1) m' H') ∧ ∀ x H', (Itt K a).yld i H x H' → g x (wipe σ vs) H' fun σ2 H2 => wipe σ2 vs = wipe σ vs ∧ tt σ2 H2 fun b H3 =>
        if b = true then te σ2 H3 fun y H4 => ∃ acc, H4 D = some (.lst acc) ∧ acc.length < sizeLine ∧ Nx (upd H4 D (.lst (acc ++ [y]))) else Nx H3) := by
  refine lc_tup (K := K) (a := a) (xs := xs) (fun i H' => Same H1 H' ∧ ∃ ws, H' D = some (.lst ws) ∧ R i H' ws) ⟨same_new nD, [], upd_same, r0 _⟩ (fun i H' _ h => hl H' h.1) ?_ ?_
  · rintro i x H' hi ⟨sm, ws, eD, r⟩
    have lt := (List.getElem?_eq_some_iff.mp hi).1
    have lw := len i H' ws r
    have sz : ws.length < sizeLine := few_line (by omega)
    refine hs i x H' _ ws hi sm eD sz r (fun H'' s r2 => ⟨sm.trans s, ws, s _ _ eD, r2⟩) (fun H'' y s r2 => ?_)
    exact ⟨ws, s _ _ eD, sz, same_off nD (sm.trans s), _, upd_same, mono _ _ _ _ (Tps.lst (s _ _ eD)) r2⟩
  · rintro H' ⟨sm, ws, eD, r⟩
    exact hd H' ws sm eD r
theorem map_filter_len {α : Type} {ns : List α} {p : α → Bool} {f : α → V} (i : Nat) : (((ns.take i).filter p).map f).length ≤ i := by
  rw [List.length_map]
  exact Nat.le_trans (List.length_filter_le _ _) (List.length_take_le _ _)
theorem take_filter {α : Type} {ns : List α} {i : Nat} {n : α} {p : α → Bool} (h : ns[i]? = some n) : (ns.take (i + 1)).filter p = (ns.take i).filter p ++ (if p n = true then [n] else []) := by
  rw [List.take_add_one, h, List.filter_append]
  congr 1
  show List.filter p [n] = _
  rw [List.filter_cons]
  split <;> rfl
theorem nodup_le {α : Type} [DecidableEq α] : ∀ {l m : List α}, l.Nodup → (∀ x ∈ l, x ∈ m) → l.length ≤ m.length
  | [], _, _, _ => Nat.zero_le _
  | a :: l, m, h, hs => by
    have hm := hs a List.mem_cons_self
    have h' := List.nodup_cons.mp h
    have ih := nodup_le (l := l) (m := m.erase a) h'.2 (fun x hx => (List.mem_erase_of_ne (fun e => h'.1 (by rw [← e]; exact hx))).mpr (hs x (List.mem_cons_of_mem _ hx)))
    rw [List.length_erase_of_mem hm] at ih
    have := List.length_pos_of_mem hm
    rw [List.length_cons]
    omega

theorem Ivs.tps {H H' : Hp} (s : Tps H H') {vs : List V} {ps : List (Int × Int)} (h : Ivs H vs ps) : Ivs H' vs ps := by
  induction h with
  | nil => exact .nil
  | cons e _ ih => exact .cons (s _ _ e) ih
theorem Ivs.append {H : Hp} {vs us : List V} {ps qs : List (Int × Int)} (h : Ivs H vs ps) (h2 : Ivs H us qs) : Ivs H (vs ++ us) (ps ++ qs) := by
  induction h with
  | nil => exact h2
  | cons e _ ih => exact .cons e ih
theorem Ivs.isEmpty {H : Hp} {vs : List V} {ps : List (Int × Int)} (h : Ivs H vs ps) : vs.isEmpty = ps.isEmpty := by
  cases h <;> rfl

/-! ### what a value is -/
def tyD : PyData → String
  | .none => "NoneType"
  | .bool _ => "bool"
  | .int _ => "int"
  | .str _ => "str"
  | .list _ => "list"
  | .tuple _ => "tuple"
  | .dict _ => "dict"
theorem Dv.ty {K : PySem.W.Frag} {H : Hp} {v : V} {d : PyData} (h : Dv K H v d) : TyX K H v (.type (tyD d)) := by
  cases h with
  | non => exact .base .non
  | bl b => exact .base (.bl b)
  | int i => exact .base (.int i)
  | str x => exact .base (.str x)
  | lst e _ => exact .base (.lst e)
  | tup e _ => exact .base (.tup e)
  | dic e _ => exact .base (.dK e)
def intB : PyData → Bool
  | .bool _ => true
  | .int _ => true
  | _ => false
def boolB : PyData → Bool
  | .bool _ => true
  | _ => false
def tupB : PyData → Bool
  | .tuple _ => true
  | _ => false
theorem kit_int {K : PySem.W.Frag} (d : PyData) : PySem.W.kitOne K (.type (tyD d)) (.type "int") = some (intB d) := by
  cases d with
  | none => exact kit_ty (a := "NoneType") (b := "int") (r := false) (by decide +kernel)
  | bool _ => exact kit_ty (a := "bool") (b := "int") (r := true) (by decide +kernel)
  | int _ => exact kit_ty (a := "int") (b := "int") (r := true) (by decide +kernel)
  | str _ => exact kit_ty (a := "str") (b := "int") (r := false) (by decide +kernel)
  | list _ => exact kit_ty (a := "list") (b := "int") (r := false) (by decide +kernel)
  | tuple _ => exact kit_ty (a := "tuple") (b := "int") (r := false) (by decide +kernel)
  | dict _ => exact kit_ty (a := "dict") (b := "int") (r := false) (by decide +kernel)
theorem kit_bool {K : PySem.W.Frag} (d : PyData) : PySem.W.kitOne K (.type (tyD d)) (.type "bool") = some (boolB d) := by
  cases d with
  | none => exact kit_ty (a := "NoneType") (b := "bool") (r := false) (by decide +kernel)
  | bool _ => exact kit_ty (a := "bool") (b := "bool") (r := true) (by decide +kernel)
  | int _ => exact kit_ty (a := "int") (b := "bool") (r := false) (by decide +kernel)
  | str _ => exact kit_ty (a := "str") (b := "bool") (r := false) (by decide +kernel)
  | list _ => exact kit_ty (a := "list") (b := "bool") (r := false) (by decide +kernel)
  | tuple _ => exact kit_ty (a := "tuple") (b := "bool") (r := false) (by decide +kernel)
  | dict _ => exact kit_ty (a := "dict") (b := "bool") (r := false) (by decide +kernel)
theorem kit_tup {K : PySem.W.Frag} (d : PyData) : PySem.W.kitOne K (.type (tyD d)) (.type "tuple") = some (tupB d) := by
  cases d with
  | none => exact kit_ty (a := "NoneType") (b := "tuple") (r := false) (by decide +kernel)
  | bool _ => exact kit_ty (a := "bool") (b := "tuple") (r := false) (by decide +kernel)
  | int _ => exact kit_ty (a := "int") (b := "tuple") (r := false) (by decide +kernel)
  | str _ => exact kit_ty (a := "str") (b := "tuple") (r := false) (by decide +kernel)
  | list _ => exact kit_ty (a := "list") (b := "tuple") (r := false) (by decide +kernel)
  | tuple _ => exact kit_ty (a := "tuple") (b := "tuple") (r := true) (by decide +kernel)
  | dict _ => exact kit_ty (a := "dict") (b := "tuple") (r := false) (by decide +kernel)
def inB (lo hi : Int) : PyData → Bool
  | .int i => decide (lo ≤ i) && decide (i ≤ hi)
  | _ => false
def leB : PyData → PyData → Bool
  | .int x, .int y => decide (x ≤ y)
  | _, _ => false
def ivB : PyData → Bool
  | .tuple [a, b] => inB 0 1000000000000 a && (inB 0 1000000000000 b && leB a b)
  | _ => false
theorem Dv.asInt {K : PySem.W.Frag} {H : Hp} {v : V} {i : Int} (h : Dv K H v (.int i)) : v = .int i := by
  cases h
  rfl
theorem dv_same {K : PySem.W.Frag} {H H' : Hp} (s : Same H H') {v : V} {d : PyData} (h : Dv K H v d) : Dv K H' v d :=
  Dv.rec (K := K) (H := H) (motive_1 := fun v d _ => Dv K H' v d) (motive_2 := fun vs ds _ => DvAll K H' vs ds) .non (fun b => .bl b) (fun i => .int i) (fun x => .str x) (fun e _ q => .lst (s _ _ e) q) (fun e _ q => .tup (s _ _ e) q) (fun e _ q => .dic (s _ _ e) q) .nil (fun _ _ a b => .cons a b) h
theorem dvAll_same {K : PySem.W.Frag} {H H' : Hp} (s : Same H H') : ∀ {vs : List V} {ds : List PyData}, DvAll K H vs ds → DvAll K H' vs ds
  | _, _, .nil => .nil
  | _, _, .cons a b => .cons (dv_same s a) (dvAll_same s b)
theorem DvAll.get {K : PySem.W.Frag} {H : Hp} : ∀ {vs : List V} {ds : List PyData}, DvAll K H vs ds → ∀ {i : Nat} {v : V}, vs[i]? = some v → ∃ d, ds[i]? = some d ∧ Dv K H v d
  | _, _, .nil, _, _, e => by simp at e
  | _, _, .cons a b, 0, _, e => by
    cases e
    exact ⟨_, rfl, a⟩
  | _, _, .cons a b, i + 1, _, e => b.get (i := i) e
theorem DvAll.append {K : PySem.W.Frag} {H : Hp} : ∀ {vs us : List V} {ds es : List PyData}, DvAll K H vs ds → DvAll K H us es → DvAll K H (vs ++ us) (ds ++ es)
  | _, _, _, _, .nil, h => h
  | _, _, _, _, .cons a b, h => .cons a (b.append h)
theorem Dv.dp {K : PySem.W.Frag} {H : Hp} {v : V} {d : PyData} (h : Dv K H v d) : d.canLay0 = true → Dp K H v d := by
  refine Dv.rec (K := K) (H := H) (motive_1 := fun v d _ => d.canLay0 = true → Dp K H v d) (motive_2 := fun vs ds _ => PyData.canLayAll0 ds = true → DpAll K H vs ds) (fun _ => .non) (fun b _ => .bl b) (fun i _ => .int i) (fun x _ => .str x) (fun e _ q z => .lst (SqL.of e) (q z)) (fun e _ q z => .tup (SqT.of e) (q z)) (fun _ _ _ z => ?_) (fun _ => .nil) (fun _ _ a b z => ?_) h
  · cases z
  · have z' := Bool.and_eq_true_iff.mp z
    exact .cons (a z'.1) (b z'.2)
/-- a value that may be asked whether it is an interval: what stands in it, if it is a tuple, has no dicts -/
def PlainT (d : PyData) : Prop := ∀ ds, d = .tuple ds → PyData.canLayAll0 ds = true ∧ PyData.depthAll ds ≤ 60

/-! ### is_number, is_tuple_of, of any data -/
def sp_is_number (K : PySem.W.Frag) : Sp := fun vs H Q _ => ∃ (v : V) (d : PyData), vs = [v] ∧ Dv K H v d ∧ Q (.bl (intB d && !boolB d)) H
theorem ok_is_number (T : Tx K mg f_is_number f_is_tuple_of f_contains f_is_rectangle f_law_draws f_law_next f_law_pick f_law_column f_law_board f_law_stretch f_law_any_board f_law_is_int f_law_inside f_law_full f_law_is_rectangle f_law_odd f_law_bent f_law_tried f_law d_is_number d_is_tuple_of d_contains d_is_rectangle d_law_draws d_law_next d_law_pick d_law_column d_law_board d_law_stretch d_law_any_board d_law_is_int d_law_inside d_law_full d_law_is_rectangle d_law_odd d_law_bent d_law_tried d_law) : FnOk P w K mg base CX0 1 f_is_number d_is_number ["value"] (sp_is_number K) := by
  refine T.F_is_number.ok sc_is_number (fun vs H Q E h => ?_) (fun cdv A outer s H vs Q E hr h => ?_)
  · obtain ⟨v, d, rfl, _⟩ := h
    rfl
  · obtain ⟨v, d, rfl, hd, q⟩ := h
    refine ⟨_, (pss_one (ps_ret (pe_and (pe_callB call_isi (by rfl) T.z_isinstance (by decide +kernel) (pa_cons (pv 0) (pa_cons (pe_bltn (v := .ty "int") (u := .type "int") (by rfl) T.z_int (by decide +kernel) rfl) pa_nil))) (pe_one (pe_not (pe_callB call_isi (by rfl) T.z_isinstance (by decide +kernel) (pa_cons (pv 0) (pa_cons (pe_bltn (v := .ty "bool") (u := .type "bool") (by rfl) T.z_bool (by decide +kernel) rfl) pa_nil)))))))), ?_⟩
    refine ⟨v, rfl, v, .ty "int", _, _, _, rfl, .ty "int", hd.ty, kit_int d, _, rfl, ite2 (fun e => ?_) (fun e => ?_)⟩
    · refine ⟨v, rfl, v, .ty "bool", _, _, _, rfl, .ty "bool", hd.ty, kit_bool d, _, rfl, ?_⟩
      rw [e] at q
      exact q
    · rw [Bool.not_eq_true] at e
      rw [e] at q
      exact q
theorem num_int {d : PyData} (h : (intB d && !boolB d) = true) : ∃ i, d = .int i := by
  cases d with
  | int i => exact ⟨i, rfl⟩
  | _ => exact (Bool.false_ne_true h).elim
theorem num_no {d : PyData} {lo hi : Int} (h : (intB d && !boolB d) = false) : inB lo hi d = false := by
  cases d with
  | int i => exact Bool.noConfusion (show true = false from h)
  | _ => rfl
def tlB (n : Int) : PyData → Bool
  | .tuple ds => decide ((ds.length : Int) = n)
  | _ => false
def sp_is_tuple_of (K : PySem.W.Frag) : Sp := fun vs H Q _ => ∃ (v : V) (d : PyData) (n : Int), vs = [v, .int n] ∧ Dv K H v d ∧ Q (.bl (tlB n d)) H
theorem tl_not {n : Int} {d : PyData} (h : tupB d = false) : tlB n d = false := by
  cases d with
  | tuple ds => cases h
  | _ => rfl
theorem ok_is_tuple_of (T : Tx K mg f_is_number f_is_tuple_of f_contains f_is_rectangle f_law_draws f_law_next f_law_pick f_law_column f_law_board f_law_stretch f_law_any_board f_law_is_int f_law_inside f_law_full f_law_is_rectangle f_law_odd f_law_bent f_law_tried f_law d_is_number d_is_tuple_of d_contains d_is_rectangle d_law_draws d_law_next d_law_pick d_law_column d_law_board d_law_stretch d_law_any_board d_law_is_int d_law_inside d_law_full d_law_is_rectangle d_law_odd d_law_bent d_law_tried d_law) : FnOk P w K mg base CX0 1 f_is_tuple_of d_is_tuple_of ["value", "length"] (sp_is_tuple_of K) := by
  refine T.F_is_tuple_of.ok sc_is_tuple_of (fun vs H Q E h => ?_) (fun cdv A outer s H vs Q E hr h => ?_)
  · obtain ⟨v, d, n, rfl, _⟩ := h
    rfl
  · obtain ⟨v, d, n, rfl, hd, q⟩ := h
    refine ⟨_, (pss_one (ps_ret (pe_and (pe_callB call_isi (by rfl) T.z_isinstance (by decide +kernel) (pa_cons (pv 0) (pa_cons (pe_bltn (v := .ty "tuple") (u := .type "tuple") (by rfl) T.z_tuple (by decide +kernel) rfl) pa_nil))) (pe_one (pe_cmpR op_eq (pe_callB call_len_seq (by rfl) T.z_len PySem.boot_len (pa_cons (pv 0) pa_nil)) (pv 1) (nomark _)))))), ?_⟩
    refine ⟨v, rfl, v, .ty "tuple", _, _, _, rfl, .ty "tuple", hd.ty, kit_tup d, _, rfl, ?_⟩
    cases tb : tupB d with
    | false =>
      refine iteF ?_
      rw [tl_not tb] at q
      exact q
    | true =>
      refine iteT ?_
      cases hd with
      | @tup a xs ds e all =>
        have len := all.length
        refine ⟨.ref a, rfl, a, xs, rfl, .inr (SqT.of e), .int n, rfl, rfl, ?_⟩
        have z : tlB n (.tuple ds) = decide (V.int (xs.length : Nat) = V.int n) := by
          show decide ((ds.length : Int) = n) = _
          rw [← len]
          by_cases y : ((xs.length : Nat) : Int) = n
          · rw [decide_eq_true y, decide_eq_true (by rw [y])]
          · rw [decide_eq_false y, decide_eq_false (fun z => y (V.int.inj z))]
        rw [z] at q
        exact q
      | _ => exact (Bool.false_ne_true tb).elim

def sp_law_is_int (K : PySem.W.Frag) : Sp := fun vs H Q _ => ∃ (v : V) (d : PyData) (lo hi : Int), vs = [v, .int lo, .int hi] ∧ Dv K H v d ∧ Q (.bl (inB lo hi d)) H
theorem ok_law_is_int (T : Tx K mg f_is_number f_is_tuple_of f_contains f_is_rectangle f_law_draws f_law_next f_law_pick f_law_column f_law_board f_law_stretch f_law_any_board f_law_is_int f_law_inside f_law_full f_law_is_rectangle f_law_odd f_law_bent f_law_tried f_law d_is_number d_is_tuple_of d_contains d_is_rectangle d_law_draws d_law_next d_law_pick d_law_column d_law_board d_law_stretch d_law_any_board d_law_is_int d_law_inside d_law_full d_law_is_rectangle d_law_odd d_law_bent d_law_tried d_law) : FnOk P w K mg base CX0 1 f_law_is_int d_law_is_int ["_law_value", "_law_low", "_law_high"] (sp_law_is_int K) := by
  refine T.F_law_is_int.ok sc_law_is_int (fun vs H Q E h => ?_) (fun cdv A outer s H vs Q E hr h => ?_)
  · obtain ⟨v, d, lo, hi, rfl, _⟩ := h
    rfl
  · obtain ⟨v, d, lo, hi, rfl, hd, q⟩ := h
    refine ⟨_, (pss_one (ps_ret (pe_and (pe_callB call_isi (by rfl) T.z_isinstance (by decide +kernel) (pa_cons (pv 0) (pa_cons (pe_bltn (v := .ty "int") (u := .type "int") (by rfl) T.z_int (by decide +kernel) rfl) pa_nil))) (pe_and (pe_not (pe_callB call_isi (by rfl) T.z_isinstance (by decide +kernel) (pa_cons (pv 0) (pa_cons (pe_bltn (v := .ty "bool") (u := .type "bool") (by rfl) T.z_bool (by decide +kernel) rfl) pa_nil)))) (pe_one (pe_chain op_le op_le (pv 1) (pv 0) (pv 2))))))), ?_⟩
    refine ⟨v, rfl, v, .ty "int", _, _, _, rfl, .ty "int", hd.ty, kit_int d, _, rfl, ite2 (fun e => ?_) (fun e => ?_)⟩
    · refine ⟨v, rfl, v, .ty "bool", _, _, _, rfl, .ty "bool", hd.ty, kit_bool d, _, rfl, _, rfl, ite2 (fun e2 => ?_) (fun e2 => ?_)⟩
      · obtain ⟨i, rfl⟩ := num_int (d := d) (by rw [e, e2]; rfl)
        have ev := hd.asInt
        subst ev
        refine ⟨.int lo, rfl, .int i, rfl, _, _, rfl, rfl, _, rfl, ite2 (fun e3 => ?_) (fun e3 => ?_)⟩
        · refine ⟨.int hi, rfl, _, _, rfl, rfl, ?_⟩
          have q' : Q (.bl (decide (lo ≤ i) && decide (i ≤ hi))) H := q
          rw [e3] at q'
          exact q'
        · have q' : Q (.bl (decide (lo ≤ i) && decide (i ≤ hi))) H := q
          rw [Bool.not_eq_true] at e3
          rw [e3] at q'
          exact q'
      · rw [Bool.not_eq_true] at e2
        rw [num_no (by rw [e, e2]; rfl)] at q
        exact q
    · rw [Bool.not_eq_true] at e
      rw [num_no (by rw [e]; rfl)] at q
      exact q

def strI (f s : Int) (p : Int × Int) : Int × Int := (p.1 * f + s, p.2 * f + f - 1 + s)

/-! ### tuples joined and cut, whichever object comes out -/
theorem catA_any {K : PySem.W.Frag} {H : Hp} {a b : Addr} {xs ys : List V} {Q : VK} (h1 : H a = some (.tup xs)) (h2 : H b = some (.tup ys)) (sz : xs.length + ys.length ≤ sizeLine) (k : ∀ H' p, Same H H' → H' p = some (.tup (xs ++ ys)) → Q (.ref p) H') : rCatA K (.ref a) (.ref b) H Q := by
  refine ⟨a, b, xs, ys, rfl, rfl, SqT.of h1, SqT.of h2, sz, fun e => k H b (Same.refl _) ?_, fun _ e => k H a (Same.refl _) ?_, fun _ _ p np => k _ p (same_new np) upd_same⟩
  · rw [e]
    exact h2
  · rw [e, List.append_nil]
    exact h1
theorem slA_any {K : PySem.W.Frag} {H : Hp} {a : Addr} {xs : List V} {lo hi : Option Int} {Q : VK} (h1 : H a = some (.tup xs)) (k : ∀ H' p, Same H H' → H' p = some (.tup (cutV xs lo hi)) → Q (.ref p) H') : rSlA K (.ref a) lo hi H Q := by
  refine ⟨a, xs, rfl, SqT.of h1, fun e => k H a (Same.refl _) ?_, fun _ p np => k _ p (same_new np) upd_same⟩
  have e2 : cutV xs lo hi = xs := by
    unfold cutV
    rw [e.1, e.2]
    simp
  rw [e2]
  exact h1
theorem Ivs.take {H : Hp} {vs : List V} {ps : List (Int × Int)} (h : Ivs H vs ps) : ∀ n : Nat, Ivs H (vs.take n) (ps.take n) := by
  induction h with
  | nil =>
    intro n
    rw [List.take_nil, List.take_nil]
    exact .nil
  | cons e _ ih =>
    intro n
    cases n with
    | zero => exact .nil
    | succ n => exact .cons e (ih n)

theorem cutFrom (xs : List V) (j : Nat) : cutV xs (some (j : Int)) none = xs.drop j := by
  unfold cutV
  rw [show HT.sIx xs.length 0 (some (j : Int)) = min j xs.length from HT.sIx_nat xs.length 0 j, HT.sIx_none]
  rcases Nat.le_total j xs.length with h | h
  · rw [Nat.min_eq_left h]
    exact List.take_of_length_le (by rw [List.length_drop]; exact Nat.le_refl _)
  · rw [Nat.min_eq_right h, List.drop_of_length_le (Nat.le_refl _), List.drop_of_length_le h]
    exact List.take_nil

/-! ### comprehensions over a range that change nothing but make new objects -/
theorem lcR {lo : Int} {n : Nat} {g : TG} {tt : TT} {te : TE} {vs : List Nat} {σ : L2.St} {H1 : Hp} {D : Addr} {Qd : Hp → Prop} (R : Nat → Hp → List V → Prop) (nD : H1 D = none) (few : n < 1000)
    (mono : ∀ i H' H'' ws, Tps H' H'' → R i H' ws → R i H'' ws) (len : ∀ i H' ws, R i H' ws → ws.length ≤ i) (r0 : ∀ H', R 0 H' [])
    (hs : ∀ i H' (N : Hp → Prop) acc, i < n → Same H1 H' → H' D = some (.lst acc) → acc.length < sizeLine → R i H' acc → (∀ H'', Same H' H'' → R (i + 1) H'' acc → N H'') → (∀ H'' y, Same H' H'' → R (i + 1) H'' (acc ++ [y]) → ∃ acc', H'' D = some (.lst acc') ∧ acc'.length < sizeLine ∧ N (upd H'' D (.lst (acc' ++ [y])))) →
      g (.int (lo + i)) (wipe σ vs) H' fun σ2 H2 => wipe σ2 vs = wipe σ vs ∧ tt σ2 H2 fun b H3 => if b = true then te σ2 H3 fun y H4 => ∃ acc, H4 D = some (.lst acc) ∧ acc.length < sizeLine ∧ N (upd H4 D (.lst (acc ++ [y]))) else N H3)
    (hd : ∀ H' ws, Same H1 H' → H' D = some (.lst ws) → R n H' ws → Qd H') :
    ∃ W : Nat → Nat → Hp → Prop, (∃ m, W 0 m (upd H1 D (.lst []))) ∧ ∀ i m H, W i m H →
      ((Itr lo n).stop i H ∧ Qd H) ∨ ((Itr lo n).go i H ∧ ∃ Nx : Hp → Prop, (∀ H', Nx H' → ∃ m', m' < m ∧ W (i + 1) m' H') ∧ ∀ x H', (Itr lo n).yld i H x H' → g x (wipe σ vs) H' fun σ2 H2 => wipe σ2 vs = wipe σ vs ∧ tt σ2 H2 fun b H3 =>
        if b = true then te σ2 H3 fun y H4 => ∃ acc, H4 D = some (.lst acc) ∧ acc.length < sizeLine ∧ Nx (upd H4 D (.lst (acc ++ [y]))) else Nx H3) := by
  refine lc_range (lo := lo) (n := n) (fun i H' => Same H1 H' ∧ ∃ ws, H' D = some (.lst ws) ∧ R i H' ws) ⟨same_new nD, [], upd_same, r0 _⟩ ?_ ?_
  · rintro i H' hi ⟨sm, ws, eD, r⟩
    have lw := len i H' ws r
    have sz : ws.length < sizeLine := few_line (by omega)
    refine hs i H' _ ws hi sm eD sz r (fun H'' s r2 => ⟨sm.trans s, ws, s _ _ eD, r2⟩) (fun H'' y s r2 => ?_)
    exact ⟨ws, s _ _ eD, sz, same_off nD (sm.trans s), _, upd_same, mono _ _ _ _ (Tps.lst (s _ _ eD)) r2⟩
  · rintro H' ⟨sm, ws, eD, r⟩
    exact hd H' ws sm eD r

/-! ### drawn boards -/
theorem OV.tps {H H' : Hp} (s : Tps H H') {v : V} {o : Option (Int × Int)} (h : OV H v o) : OV H' v o := by
  match o, h with
  | none, h => exact h
  | some (x, y), h =>
    obtain ⟨t, e, h⟩ := h
    exact ⟨t, e, s _ _ h⟩
theorem OV.isN {H : Hp} {r : V} {o : Option (Int × Int)} (h : OV H r o) : decide (r = .non) = o.isNone := by
  match o, h with
  | none, h =>
    cases h
    rfl
  | some (x, y), h =>
    obtain ⟨t, e, _⟩ := h
    rw [e]
    exact decide_eq_false (fun z => by cases z)
def OVs (H : Hp) (vs : List V) (os : List (Option (Int × Int))) : Prop := vs.length = os.length ∧ ∀ (i : Nat) (v : V), vs[i]? = some v → ∃ o, os[i]? = some o ∧ OV H v o
theorem OVs.tps {H H' : Hp} (s : Tps H H') {vs : List V} {os : List (Option (Int × Int))} (h : OVs H vs os) : OVs H' vs os := ⟨h.1, fun i v e => by
  obtain ⟨o, e1, e2⟩ := h.2 i v e
  exact ⟨o, e1, e2.tps s⟩⟩
theorem OVs.same {H H' : Hp} (s : Same H H') {vs : List V} {os : List (Option (Int × Int))} (h : OVs H vs os) : OVs H' vs os := h.tps (Tps.same s)
theorem OVs.nil (H : Hp) : OVs H [] [] := ⟨rfl, by intro i v e; simp at e⟩
theorem OVs.snoc {H : Hp} {vs : List V} {os : List (Option (Int × Int))} (h : OVs H vs os) {v : V} {o : Option (Int × Int)} (e : OV H v o) : OVs H (vs ++ [v]) (os ++ [o]) := by
  refine ⟨by rw [List.length_append, List.length_append, h.1]; rfl, fun i u hu => ?_⟩
  rcases Nat.lt_or_ge i vs.length with l | l
  · rw [List.getElem?_append_left l] at hu
    obtain ⟨o', e1, e2⟩ := h.2 i u hu
    exact ⟨o', by rw [List.getElem?_append_left (by rw [← h.1]; exact l)]; exact e1, e2⟩
  · rw [List.getElem?_append_right l] at hu
    have z : i - vs.length = 0 := by
      have := (List.getElem?_eq_some_iff.mp hu).1
      simp at this
      omega
    rw [z] at hu
    cases hu
    exact ⟨o, by rw [List.getElem?_append_right (by rw [← h.1]; exact l), ← h.1, z]; rfl, e⟩
theorem OVs.set {H : Hp} {vs : List V} {os : List (Option (Int × Int))} (h : OVs H vs os) (k : Nat) {v : V} {o : Option (Int × Int)} (e : OV H v o) : OVs H (vs.set k v) (os.set k o) := by
  refine ⟨by rw [List.length_set, List.length_set]; exact h.1, fun i u hu => ?_⟩
  rw [List.getElem?_set] at hu ⊢
  rw [← h.1]
  by_cases c : k = i
  · rw [if_pos c] at hu ⊢
    split at hu
    · next l =>
      cases hu
      rw [if_pos l]
      exact ⟨o, rfl, e⟩
    · cases hu
  · rw [if_neg c] at hu ⊢
    exact h.2 i u hu
/-- a column of rows below h -/
def ColOk (h : Int) : Option (Int × Int) → Prop
  | none => True
  | some (x, y) => 0 ≤ x ∧ x ≤ y ∧ y < h
def sp_law_column : Sp := fun vs H Q _ => ∃ (d : Addr) (c : Addr × Addr) (n h : Int), vs = [.ref d, .int h] ∧ Dk H d c n ∧ 0 ≤ n ∧ n < 900000 ∧ 1 ≤ h ∧ h ≤ 100 ∧
  ∀ H' t x y, Kp d c H H' → Dk H' d c (n + 3) → H' t = some (.tup [.int x, .int y]) → 0 ≤ x → x ≤ y → y < h → Q (.ref t) H'
theorem ok_law_column (T : Tx K mg f_is_number f_is_tuple_of f_contains f_is_rectangle f_law_draws f_law_next f_law_pick f_law_column f_law_board f_law_stretch f_law_any_board f_law_is_int f_law_inside f_law_full f_law_is_rectangle f_law_odd f_law_bent f_law_tried f_law d_is_number d_is_tuple_of d_contains d_is_rectangle d_law_draws d_law_next d_law_pick d_law_column d_law_board d_law_stretch d_law_any_board d_law_is_int d_law_inside d_law_full d_law_is_rectangle d_law_odd d_law_bent d_law_tried d_law) : FnOk P w K mg base CX0 2 f_law_column d_law_column ["_law_drawn", "_law_height"] sp_law_column := by
  refine T.F_law_column.ok sc_law_column (fun vs H Q E h => ?_) (fun cdv A outer s H vs Q E hr h => ?_)
  · obtain ⟨d, c, n, h, rfl, _⟩ := h
    rfl
  · obtain ⟨d, c, n, h, rfl, dk, n0, n1, h0, h1, q⟩ := h
    refine ⟨_, (pss_cons (ps_par (by rfl) sc_law_column.nd (i := 2) (j := 3) rfl rfl (by decide) rfl rfl (pa_cons (pe_call (ok_law_next T) (hr.mono (by decide)) (by rfl) T.g_law_next T.F_law_next.kp T.b_law_next .nil pass0 (pa_cons (pv 0) (pa_cons (pv 1) pa_nil))) (pa_cons (pe_call (ok_law_next T) (hr.mono (by decide)) (by rfl) T.g_law_next T.F_law_next.kp T.b_law_next .nil pass0 (pa_cons (pv 0) (pa_cons (pv 1) pa_nil))) pa_nil)) (by rfl))
      (pss_cons (ps_set (i := 4) sc_law_column.nd rfl (Or.inl rfl) (pe_call (ok_law_next T) (hr.mono (by decide)) (by rfl) T.g_law_next T.F_law_next.kp T.b_law_next .nil pass0 (pa_cons (pv 0) (pa_cons pe_int pa_nil))))
      (pss_cons (ps_if (pt_cmpR op_eq (pv 4) pe_int (nomark _))
      (pss_one (ps_ret (pe_tup (pa_cons (pv 2) (pa_cons (pv 2) pa_nil)))))
      pss_nil)
      (pss_cons (ps_if (pt_cmpR op_eq (pv 4) pe_int (nomark _))
      (pss_one (ps_ret (pe_tup (pa_cons pe_int (pa_cons (pv 2) pa_nil)))))
      pss_nil)
      (pss_one (ps_ret (pe_tup (pa_cons (pe_callB (call_min2 rfl) (by rfl) T.z_min (by decide +kernel) (pa_cons (pv 2) (pa_cons (pv 3) pa_nil))) (pa_cons (pe_callB (call_max2 rfl) (by rfl) T.z_max (by decide +kernel) (pa_cons (pv 2) (pa_cons (pv 3) pa_nil))) pa_nil))))))))), ?_⟩
    refine ⟨.ref d, rfl, .int h, rfl, d, c, n, h, rfl, dk, n0, by omega, by omega, by omega, fun H1 a kp1 dk1 a0 a1 => ?_⟩
    refine ⟨.ref d, rfl, .int h, rfl, d, c, n + 1, h, rfl, dk1, by omega, by omega, by omega, by omega, fun H2 b kp2 dk2 b0 b1 => ?_⟩
    refine ⟨_, _, rfl, ?_⟩
    refine ⟨.ref d, rfl, d, c, _, 6, rfl, dk2, by omega, by omega, by decide, by decide, fun H3 s kp3 dk3 s0 s1 => ?_⟩
    have kp := kp1.trans (kp2.trans kp3)
    have dk4 : Dk H3 d c (n + 3) := dk3.eq (by omega)
    refine ⟨.int s, rfl, rfl, _, rfl, ite2 (fun _ => ?_) (fun _ => ?_)⟩
    · refine ⟨.int a, rfl, .int a, rfl, by show 2 ≤ sizeLine; decide, fun t nt => ?_⟩
      exact q _ t a a (kp.trans (Kp.same (same_new nt))) (dk4.kept (same_new nt)) upd_same a0 (Int.le_refl _) a1
    · refine ⟨.int s, rfl, rfl, _, rfl, ite2 (fun _ => ?_) (fun _ => ?_)⟩
      · refine ⟨.int a, rfl, by show 2 ≤ sizeLine; decide, fun t nt => ?_⟩
        exact q _ t 0 a (kp.trans (Kp.same (same_new nt))) (dk4.kept (same_new nt)) upd_same (Int.le_refl _) a0 a1
      · refine ⟨.int a, rfl, .int b, rfl, _, _, rfl, .int a, rfl, .int b, rfl, _, _, rfl, by show 2 ≤ sizeLine; decide, fun t nt => ?_⟩
        refine q _ t (if b < a then b else a) (if b > a then b else a) (kp.trans (Kp.same (same_new nt))) (dk4.kept (same_new nt)) upd_same ?_ ?_ ?_
        · split <;> omega
        · split <;> split <;> omega
        · split <;> omega
def sp_law_board : Sp := fun vs H Q _ => ∃ (d : Addr) (c : Addr × Addr) (n most h : Int), vs = [.ref d, .int most, .int h] ∧ Dk H d c n ∧ 0 ≤ n ∧ n < 800000 ∧ 1 ≤ most ∧ most ≤ 8 ∧ 1 ≤ h ∧ h ≤ 100 ∧
  ∀ H' t us bs m, Kp d c H H' → Dk H' d c m → n ≤ m → m ≤ n + 41 → H' t = some (.tup us) → OVs H' us bs → 1 ≤ bs.length → (bs.length : Int) ≤ most → (∀ o ∈ bs, ColOk h o) → Q (.ref t) H'
theorem ok_law_board (T : Tx K mg f_is_number f_is_tuple_of f_contains f_is_rectangle f_law_draws f_law_next f_law_pick f_law_column f_law_board f_law_stretch f_law_any_board f_law_is_int f_law_inside f_law_full f_law_is_rectangle f_law_odd f_law_bent f_law_tried f_law d_is_number d_is_tuple_of d_contains d_is_rectangle d_law_draws d_law_next d_law_pick d_law_column d_law_board d_law_stretch d_law_any_board d_law_is_int d_law_inside d_law_full d_law_is_rectangle d_law_odd d_law_bent d_law_tried d_law) : FnOk P w K mg base CX0 3 f_law_board d_law_board ["_law_drawn", "_law_most", "_law_height"] sp_law_board := by
  refine T.F_law_board.ok sc_law_board (fun vs H Q E h => ?_) (fun cdv A outer s H vs Q E hr h => ?_)
  · obtain ⟨d, c, n, most, h, rfl, _⟩ := h
    rfl
  · obtain ⟨d, c, n, most, h, rfl, dk, n0, n1, m0, m1, h0, h1, q⟩ := h
    refine ⟨_, (pss_cons (ps_set (i := 3) sc_law_board.nd rfl (Or.inl rfl) (pe_lst pa_nil))
      (pss_cons (ps_for PassesOwn.never rfl (pi_range1 (by rfl) T.z_range (pa_cons (pe_op op_add pe_int (pe_call (ok_law_next T) (hr.mono (by decide)) (by rfl) T.g_law_next T.F_law_next.kp T.b_law_next .nil pass0 (pa_cons (pv 0) (pa_cons (pv 1) pa_nil)))) pa_nil)) (pg_name (i := 4) sc_law_board.nd rfl (Or.inl rfl))
      (pss_cons (ps_set (i := 5) sc_law_board.nd rfl (Or.inl rfl) (pe_call (ok_law_next T) (hr.mono (by decide)) (by rfl) T.g_law_next T.F_law_next.kp T.b_law_next .nil pass0 (pa_cons (pv 0) (pa_cons pe_int pa_nil))))
      (pss_cons (ps_expr (pe_bm PySem.F.plainAttrs_list PySem.F.slot_list_append PySem.F.type_list_append mt_append (pv 3) (pa_cons (pe_call (ok_law_column T) (hr.mono (by decide)) (by rfl) T.g_law_column T.F_law_column.kp T.b_law_column .nil pass0 (pa_cons (pv 0) (pa_cons (pv 2) pa_nil))) pa_nil)))
      (pss_cons (ps_if (pt_cmpR op_eq (pv 5) pe_int (nomark _))
      (pss_one (ps_asg pe_non (pg_sub (pv 3) (pv 4) set_list)))
      pss_nil)
      (pss_one (ps_if (pt_cmpR op_eq (pv 5) pe_int (nomark _))
      (pss_one (ps_asg (pe_ix ix_list (pv 3) (pe_call (ok_law_next T) (hr.mono (by decide)) (by rfl) T.g_law_next T.F_law_next.kp T.b_law_next .nil pass0 (pa_cons (pv 0) (pa_cons (pe_op op_add (pv 4) pe_int) pa_nil))) (fun _ _ => rfl)) (pg_sub (pv 3) (pv 4) set_list)))
      pss_nil))))))
      (pss_one (ps_ret (pe_callTy call_tuple_of (by rfl) T.z_tuple (by decide +kernel) (pa_cons (pv 3) pa_nil)))))), ?_⟩
    refine ⟨by show 0 ≤ sizeLine; decide, fun l nl => ?_⟩
    have offl := dk.off nl
    have s0 := same_new (o := .lst []) nl
    refine ⟨.ref d, rfl, .int most, rfl, d, c, n, most, rfl, dk.kept s0, n0, by omega, by omega, by omega, fun H1 r kp1 dk1 r0 r1 => ?_⟩
    have el0 := kp1.keep offl (upd_same (H := H) (a := l) (o := .lst []))
    have kp01 := (Kp.same s0).trans kp1
    refine ⟨_, _, rfl, rfl, 1 + r, rfl, by omega, by omega, ?_⟩
    refine for_range (D := ⟨_, _, fun _ _ => True, fun _ _ => True⟩) (n := (1 + r).toNat) (fun i σ H' => Kp d c H H' ∧ (∃ m : Int, Dk H' d c m ∧ n + 1 ≤ m ∧ m ≤ n + 1 + 5 * i) ∧ (∃ us bs, H' l = some (.lst us) ∧ OVs H' us bs ∧ bs.length = i ∧ ∀ o ∈ bs, ColOk h o) ∧ ∃ y4 y5, σ = [some (.ref d), some (.int most), some (.int h), some (.ref l), y4, y5])
      ⟨kp01, ⟨n + 1, dk1, Int.le_refl _, by omega⟩, ⟨[], [], el0, OVs.nil _, rfl, fun o ho => nomatch ho⟩, _, _, rfl⟩ ?_ ?_
    · rintro i σ H2 hi ⟨kp2, ⟨m, dk2, b0, b1⟩, ⟨us, bs, el, ovs, lb, ok⟩, y4, y5, rfl⟩
      have lus := ovs.1
      refine ⟨.ref d, rfl, d, c, m, 8, rfl, dk2, by omega, by omega, by decide, by decide, fun H3 s kp3 dk3 s0' s1 => ?_⟩
      refine ⟨.ref l, rfl, .inl ⟨rfl, _, SqL.of (kp3.keep offl el)⟩, ?_⟩
      refine ⟨.ref d, rfl, .int h, rfl, d, c, _, h, rfl, dk3, by omega, by omega, h0, h1, fun H4 t x y kp4 dk4 et x0 xy yh => ?_⟩
      have kp34 := kp3.trans kp4
      have el4 := kp34.keep offl el
      have ovs4 := ovs.tps (kp34.tps dk2)
      have ok2 : ∀ o ∈ bs ++ [some (x, y)], ColOk h o := fun o ho => by
        rcases List.mem_append.mp ho with ho | ho
        · exact ok o ho
        · rw [List.mem_singleton.mp ho]
          exact ⟨x0, xy, yh⟩
      refine ⟨l, us, _, rfl, rfl, el4, small1000 (by omega), ?_⟩
      have ovs5 : OVs (upd H4 l (.lst (us ++ [V.ref t]))) (us ++ [V.ref t]) (bs ++ [some (x, y)]) := (ovs4.snoc (v := V.ref t) (o := some (x, y)) ⟨t, rfl, et⟩).tps (Tps.lst el4)
      have kp5 : Kp d c H (upd H4 l (.lst (us ++ [V.ref t]))) := fun b o c1 c2 e => by
        rw [upd_ne (ne_of_none e nl)]
        exact (kp2.trans kp34) b o c1 c2 e
      have dk5 : Dk (upd H4 l (.lst (us ++ [V.ref t]))) d c (m + 1 + 3) := dk4.upd offl
      have el5 : upd H4 l (.lst (us ++ [V.ref t])) l = some (.lst (us ++ [V.ref t])) := upd_same
      have lus5 : (us ++ [V.ref t]).length = i + 1 := by
        rw [List.length_append, lus, lb]
        rfl
      have lb5 : (bs ++ [some (x, y)]).length = i + 1 := by
        rw [List.length_append, lb]
        rfl
      generalize upd H4 l (.lst (us ++ [V.ref t])) = H5 at *
      generalize us ++ [V.ref t] = us' at *
      generalize bs ++ [some (x, y)] = bs' at *
      have ixi : ∀ u' : List V, u'.length = i + 1 → ixN u'.length (0 + (i : Int)) = some i := fun u' e => by
        unfold ixN
        rw [if_pos (by omega), if_pos (by omega)]
        congr 1
        omega
      -- an empty column
      refine ⟨.int s, rfl, rfl, _, rfl, ite2 (fun cs => ?_) (fun cs => ?_)⟩
      · have cs := of_decide_eq_true cs
        injection cs with cs
        refine ⟨.ref l, rfl, .int (0 + (i : Nat)), rfl, l, us', _, i, rfl, rfl, el5, ixi us' lus5, ?_⟩
        have ovs6 : OVs (upd H5 l (.lst (us'.set i .non))) (us'.set i .non) (bs'.set i none) := (ovs5.set i (show OV H5 V.non none from rfl)).tps (Tps.lst el5)
        have ok6 : ∀ o ∈ bs'.set i none, ColOk h o := fun o ho => by
          rcases List.mem_or_eq_of_mem_set ho with z | z
          · exact ok2 o z
          · rw [z]
            trivial
        refine ⟨.int s, rfl, rfl, _, rfl, ite2 (fun cs2 => ?_) (fun _ => ?_)⟩
        · have cs2 := of_decide_eq_true cs2
          injection cs2 with cs2
          omega
        · exact ⟨fun b o c1 c2 e => by rw [upd_ne (ne_of_none e nl)]; exact kp5 b o c1 c2 e, ⟨_, dk5.upd offl, by omega, by omega⟩, ⟨_, _, upd_same, ovs6, by rw [List.length_set]; exact lb5, ok6⟩, _, _, rfl⟩
      · refine ⟨.int s, rfl, rfl, _, rfl, ite2 (fun cs2 => ?_) (fun _ => ?_)⟩
        · refine ⟨.ref l, rfl, .ref d, rfl, .int (0 + (i : Nat)), rfl, _, _, rfl, rfl, d, c, _, 0 + (i : Nat) + 1, rfl, dk5, by omega, by omega, by omega, by omega, fun H6 k kp6 dk6 k0 k1 => ?_⟩
          have el6 := kp6.keep offl el5
          obtain ⟨kn, rfl⟩ : ∃ kn : Nat, k = kn := ⟨k.toNat, by omega⟩
          have kl : kn < us'.length := by omega
          refine ⟨l, us', (kn : Int), us'[kn], rfl, rfl, SqL.of el6, atI_nat (List.getElem?_eq_getElem kl), ?_⟩
          have ovs6 := ovs5.tps (kp6.tps dk5)
          obtain ⟨o, eo, ov⟩ := ovs6.2 kn _ (List.getElem?_eq_getElem kl)
          refine ⟨.ref l, rfl, .int (0 + (i : Nat)), rfl, l, us', _, i, rfl, rfl, el6, ixi us' lus5, ?_⟩
          have ovs7 : OVs (upd H6 l (.lst (us'.set i us'[kn]))) (us'.set i us'[kn]) (bs'.set i o) := (ovs6.set i ov).tps (Tps.lst el6)
          have ok7 : ∀ o' ∈ bs'.set i o, ColOk h o' := fun o' ho => by
            rcases List.mem_or_eq_of_mem_set ho with z | z
            · exact ok2 o' z
            · rw [z]
              exact ok2 o (List.mem_of_getElem? eo)
          exact ⟨fun b o c1 c2 e => by rw [upd_ne (ne_of_none e nl)]; exact (kp5.trans kp6) b o c1 c2 e, ⟨_, dk6.upd offl, by omega, by omega⟩, ⟨_, _, upd_same, ovs7, by rw [List.length_set]; exact lb5, ok7⟩, _, _, rfl⟩
        · exact ⟨kp5, ⟨_, dk5, by omega, by omega⟩, ⟨_, _, el5, ovs5, lb5, ok2⟩, _, _, rfl⟩
    · rintro σ H2 ⟨kp2, ⟨m, dk2, b0, b1⟩, ⟨us, bs, el, ovs, lb, ok⟩, y4, y5, rfl⟩
      refine ⟨.ref l, rfl, l, us, rfl, .inl ⟨SqL.of el, fun t nt => ?_⟩⟩
      exact q _ t us bs m (kp2.trans (Kp.same (same_new nt))) (dk2.kept (same_new nt)) (by omega) (by omega) upd_same (ovs.same (same_new nt)) (by omega) (by omega) ok
def strC (f s : Int) (o : Option (Int × Int)) : Option (Int × Int) := o.map (strI f s)
def sp_law_stretch : Sp := fun vs H Q _ => ∃ (a : Addr) (us : List V) (bs : List (Option (Int × Int))) (s f : Int), vs = [.ref a, .int s, .int f] ∧ H a = some (.tup us) ∧ OVs H us bs ∧ bs.length < 1000 ∧ (∀ o ∈ bs, ColOk 16 o) ∧ 0 < f ∧ f ≤ 10000000000 ∧ 0 ≤ s ∧ s ≤ 1000000000000 ∧
  ∀ H' t ws, Same H H' → H' t = some (.tup ws) → OVs H' ws (bs.map (strC f s)) → Q (.ref t) H'
theorem ok_law_stretch (T : Tx K mg f_is_number f_is_tuple_of f_contains f_is_rectangle f_law_draws f_law_next f_law_pick f_law_column f_law_board f_law_stretch f_law_any_board f_law_is_int f_law_inside f_law_full f_law_is_rectangle f_law_odd f_law_bent f_law_tried f_law d_is_number d_is_tuple_of d_contains d_is_rectangle d_law_draws d_law_next d_law_pick d_law_column d_law_board d_law_stretch d_law_any_board d_law_is_int d_law_inside d_law_full d_law_is_rectangle d_law_odd d_law_bent d_law_tried d_law) : FnOk P w K mg base CX0 1 f_law_stretch d_law_stretch ["_law_board_here", "_law_base", "_law_gap"] sp_law_stretch := by
  refine T.F_law_stretch.ok sc_law_stretch (fun vs H Q E h => ?_) (fun cdv A outer s H vs Q E hr h => ?_)
  · obtain ⟨a, us, bs, s, f, rfl, _⟩ := h
    rfl
  · obtain ⟨a, us, bs, s, f, rfl, ha, ovs, few, ok, f0, f1, s0, s1, q⟩ := h
    refine ⟨_, (pss_cons (ps_set (i := 3) sc_law_stretch.nd rfl (Or.inl rfl) (pe_lst pa_nil))
      (pss_cons (ps_for PassesOwn.never rfl (pi_tup (pv 0)) (pg_name (i := 4) sc_law_stretch.nd rfl (Or.inl rfl))
      (pss_one (ps_if (pt_cmpR op_isN (pv 4) pe_non (nomark _))
      (pss_one (ps_expr (pe_bm PySem.F.plainAttrs_list PySem.F.slot_list_append PySem.F.type_list_append mt_append (pv 3) (pa_cons pe_non pa_nil))))
      (pss_one (ps_expr (pe_bm PySem.F.plainAttrs_list PySem.F.slot_list_append PySem.F.type_list_append mt_append (pv 3) (pa_cons (pe_tup (pa_cons (pe_op op_add (pv 1) (pe_op op_mulW (pv 2) (pe_ix ix_tup (pv 4) pe_int (fun _ _ => rfl)))) (pa_cons (pe_op op_sub (pe_op op_add (pe_op op_add (pv 1) (pe_op op_mulW (pv 2) (pe_ix ix_tup (pv 4) pe_int (fun _ _ => rfl)))) (pv 2)) pe_int) pa_nil))) pa_nil)))))))
      (pss_one (ps_ret (pe_callTy call_tuple_of (by rfl) T.z_tuple (by decide +kernel) (pa_cons (pv 3) pa_nil)))))), ?_⟩
    have lu := ovs.1
    refine ⟨by show 0 ≤ sizeLine; decide, fun l nl => ?_⟩
    have sl := same_new (o := .lst []) nl
    refine ⟨.ref a, rfl, a, rfl, ⟨_, SqT.of (sl _ _ ha)⟩, ?_⟩
    refine for_tup (K := K) (a := a) (xs := us) (D := ⟨_, _, fun _ _ => True, fun _ _ => True⟩) (fun j σ H' => Same H H' ∧ (∃ ws, H' l = some (.lst ws) ∧ OVs H' ws ((bs.take j).map (strC f s))) ∧ ∃ y4, σ = [some (.ref a), some (.int s), some (.int f), some (.ref l), y4])
      ⟨sl, ⟨[], upd_same, OVs.nil _⟩, _, rfl⟩ (fun j σ H' _ h => SqT.of (h.1 _ _ ha)) ?_ ?_
    · rintro j v σ H1 hj ⟨s1', ⟨ws, el, ow⟩, y4, rfl⟩
      obtain ⟨o, eo, ov⟩ := ovs.2 j v hj
      have ov := ov.same s1'
      have jl := (List.getElem?_eq_some_iff.mp hj).1
      have lw := ow.1
      rw [List.length_map, List.length_take] at lw
      have up : (bs.take (j + 1)).map (strC f s) = (bs.take j).map (strC f s) ++ [strC f s o] := by
        rw [List.take_add_one, eo, List.map_append]
        rfl
      refine ⟨v, rfl, rfl, ?_⟩
      have isn := ov.isN
      rw [isn]
      match o, ov, eo, up with
      | none, ov, eo, up =>
        refine ⟨_, rfl, iteT ⟨.ref l, rfl, .inl ⟨rfl, _, SqL.of el⟩, l, ws, _, rfl, rfl, el, small1000 (by omega), ?_⟩⟩
        refine ⟨same_off nl s1', ⟨_, upd_same, ?_⟩, _, rfl⟩
        rw [up]
        exact (ow.snoc (show OV H1 V.non none from rfl)).tps (Tps.lst el)
      | some (x, y), ov, eo, up =>
        obtain ⟨b, rfl, hb⟩ := ov
        have okx : 0 ≤ x ∧ x ≤ y ∧ y < 16 := ok _ (List.mem_of_getElem? eo)
        have x64 : x.natAbs < 2 ^ 64 := by omega
        have y64 : y.natAbs < 2 ^ 64 := by omega
        have f64 : f.natAbs < 2 ^ 64 := by omega
        refine ⟨_, rfl, iteF ⟨.ref l, rfl, .inl ⟨rfl, _, SqL.of el⟩, ?_⟩⟩
        refine ⟨.int s, rfl, .int f, rfl, .ref b, rfl, b, _, 0, .int x, rfl, rfl, SqT.of hb, rfl, _, _, rfl, rfl, wide_mul (a := 64) (b := 64) f64 x64 (by decide) (by decide) (by decide), _, _, rfl, rfl, ?_⟩
        refine ⟨.int s, rfl, .int f, rfl, .ref b, rfl, b, _, 1, .int y, rfl, rfl, SqT.of hb, rfl, _, _, rfl, rfl, wide_mul (a := 64) (b := 64) f64 y64 (by decide) (by decide) (by decide), _, _, rfl, rfl, .int f, rfl, _, _, rfl, rfl, _, _, rfl, rfl, by show 2 ≤ sizeLine; decide, fun t nt => ?_⟩
        have st := same_new (o := .tup [.int (s + f * x), .int (s + f * y + f - 1)]) nt
        have et : upd H1 t (.tup [.int (s + f * x), .int (s + f * y + f - 1)]) t = some (.tup [.int (x * f + s), .int (y * f + f - 1 + s)]) := by
          rw [upd_same, show x * f + s = s + f * x by rw [Int.mul_comm]; omega, show y * f + f - 1 + s = s + f * y + f - 1 by rw [Int.mul_comm]; omega]
        refine ⟨l, ws, _, rfl, rfl, st _ _ el, small1000 (by omega), ?_⟩
        refine ⟨same_off nl (s1'.trans st), ⟨_, upd_same, ?_⟩, _, rfl⟩
        rw [up]
        exact ((ow.same st).snoc (o := some (x * f + s, y * f + f - 1 + s)) ⟨t, rfl, et⟩).tps (Tps.lst (st _ _ el))
    · rintro σ H1 ⟨s1', ⟨ws, el, ow⟩, y4, rfl⟩
      rw [lu, List.take_length] at ow
      refine ⟨.ref l, rfl, l, ws, rfl, .inl ⟨SqL.of el, fun t nt => ?_⟩⟩
      exact q _ t ws (s1'.trans (same_new nt)) upd_same (ow.same (same_new nt))
def sp_law_any_board : Sp := fun vs H Q _ => ∃ (d : Addr) (c : Addr × Addr) (n most : Int), vs = [.ref d, .int most] ∧ Dk H d c n ∧ 0 ≤ n ∧ n < 700000 ∧ 1 ≤ most ∧ most ≤ 8 ∧
  ∀ H' t us bs m, Kp d c H H' → Dk H' d c m → n ≤ m → m ≤ n + 44 → H' t = some (.tup us) → OVs H' us bs → 1 ≤ bs.length → (bs.length : Int) ≤ most → (∀ o ∈ bs, ColOk 1000000000001 o) → Q (.ref t) H'
theorem pick4 {r : Int} (h0 : 0 ≤ r) (h1 : r < 4) (a b e f : Int) : ∃ v : Int, atI [V.int a, .int b, .int e, .int f] r = some (.int v) ∧ (v = a ∨ v = b ∨ v = e ∨ v = f) := by
  have : r = 0 ∨ r = 1 ∨ r = 2 ∨ r = 3 := by omega
  rcases this with rfl | rfl | rfl | rfl
  · exact ⟨a, rfl, .inl rfl⟩
  · exact ⟨b, rfl, .inr (.inl rfl)⟩
  · exact ⟨e, rfl, .inr (.inr (.inl rfl))⟩
  · exact ⟨f, rfl, .inr (.inr (.inr rfl))⟩
theorem pick3 {r : Int} (h0 : 0 ≤ r) (h1 : r < 3) (a b e : Int) : ∃ v : Int, atI [V.int a, .int b, .int e] r = some (.int v) ∧ (v = a ∨ v = b ∨ v = e) := by
  have : r = 0 ∨ r = 1 ∨ r = 2 := by omega
  rcases this with rfl | rfl | rfl
  · exact ⟨a, rfl, .inl rfl⟩
  · exact ⟨b, rfl, .inr (.inl rfl)⟩
  · exact ⟨e, rfl, .inr (.inr rfl)⟩
theorem ok_law_any_board (T : Tx K mg f_is_number f_is_tuple_of f_contains f_is_rectangle f_law_draws f_law_next f_law_pick f_law_column f_law_board f_law_stretch f_law_any_board f_law_is_int f_law_inside f_law_full f_law_is_rectangle f_law_odd f_law_bent f_law_tried f_law d_is_number d_is_tuple_of d_contains d_is_rectangle d_law_draws d_law_next d_law_pick d_law_column d_law_board d_law_stretch d_law_any_board d_law_is_int d_law_inside d_law_full d_law_is_rectangle d_law_odd d_law_bent d_law_tried d_law) : FnOk P w K mg base CX0 4 f_law_any_board d_law_any_board ["_law_drawn", "_law_most"] sp_law_any_board := by
  refine T.F_law_any_board.ok sc_law_any_board (fun vs H Q E h => ?_) (fun cdv A outer s H vs Q E hr h => ?_)
  · obtain ⟨d, c, n, most, rfl, _⟩ := h
    rfl
  · obtain ⟨d, c, n, most, rfl, dk, n0, n1, m0, m1, q⟩ := h
    refine ⟨_, (pss_cons (ps_set (i := 2) sc_law_any_board.nd rfl (Or.inl rfl) (pe_ix ix_list (pe_lst (pa_cons pe_int (pa_cons pe_int (pa_cons pe_int (pa_cons pe_int pa_nil))))) (pe_call (ok_law_next T) (hr.mono (by decide)) (by rfl) T.g_law_next T.F_law_next.kp T.b_law_next .nil pass0 (pa_cons (pv 0) (pa_cons pe_int pa_nil))) (fun _ _ => rfl)))
      (pss_cons (ps_set (i := 3) sc_law_any_board.nd rfl (Or.inl rfl) (pe_ix ix_list (pe_lst (pa_cons pe_int (pa_cons pe_int (pa_cons pe_int (pa_cons (pe_op op_pow pe_int pe_int) pa_nil))))) (pe_call (ok_law_next T) (hr.mono (by decide)) (by rfl) T.g_law_next T.F_law_next.kp T.b_law_next .nil pass0 (pa_cons (pv 0) (pa_cons pe_int pa_nil))) (fun _ _ => rfl)))
      (pss_cons (ps_set (i := 4) sc_law_any_board.nd rfl (Or.inl rfl) (pe_ix ix_list (pe_lst (pa_cons pe_int (pa_cons pe_int (pa_cons (pe_op op_sub (pe_op op_add (pe_op op_pow pe_int pe_int) pe_int) (pe_op op_mulW pe_int (pv 3))) pa_nil)))) (pe_call (ok_law_next T) (hr.mono (by decide)) (by rfl) T.g_law_next T.F_law_next.kp T.b_law_next .nil pass0 (pa_cons (pv 0) (pa_cons pe_int pa_nil))) (fun _ _ => rfl)))
      (pss_one (ps_ret (pe_call (ok_law_stretch T) (hr.mono (by decide)) (by rfl) T.g_law_stretch T.F_law_stretch.kp T.b_law_stretch .nil pass0 (pa_cons (pe_call (ok_law_board T) (hr.mono (by decide)) (by rfl) T.g_law_board T.F_law_board.kp T.b_law_board .nil pass0 (pa_cons (pv 0) (pa_cons (pv 1) (pa_cons (pv 2) pa_nil)))) (pa_cons (pv 4) (pa_cons (pv 3) pa_nil))))))))), ?_⟩
    refine ⟨by show 4 ≤ sizeLine; decide, fun l1 nl1 => ?_⟩
    have off1 := dk.off nl1
    refine ⟨.ref d, rfl, d, c, n, 4, rfl, dk.kept (same_new nl1), n0, by omega, by decide, by decide, fun H1 r1 kp1 dk1 a0 a1 => ?_⟩
    obtain ⟨hh, e1, hv⟩ := pick4 a0 a1 2 4 8 16
    refine ⟨l1, _, r1, _, rfl, rfl, SqL.of (kp1.keep off1 upd_same), e1, ?_⟩
    have kp01 := (Kp.same (same_new nl1)).trans kp1
    -- the gap
    refine ⟨10, 10, rfl, rfl, ⟨by decide, by decide, by decide⟩, by show 4 ≤ sizeLine; decide, fun l2 nl2 => ?_⟩
    have off2 := dk1.off nl2
    refine ⟨.ref d, rfl, d, c, n + 1, 4, rfl, dk1.kept (same_new nl2), by omega, by omega, by decide, by decide, fun H2 r2 kp2 dk2 b0 b1 => ?_⟩
    obtain ⟨gp, e2, gv⟩ := pick4 b0 b1 1 1 3 ((10 : Int) ^ (10 : Int).toNat)
    have g10 : (10 : Int) ^ (10 : Int).toNat = 10000000000 := by decide
    refine ⟨l2, _, r2, _, rfl, rfl, SqL.of (kp2.keep off2 upd_same), e2, ?_⟩
    have kp02 := kp01.trans ((Kp.same (same_new nl2)).trans kp2)
    have gp64 : gp.natAbs < 2 ^ 64 := by omega
    -- the base
    refine ⟨10, 12, rfl, rfl, ⟨by decide, by decide, by decide⟩, _, _, rfl, rfl, .int gp, rfl, _, _, rfl, rfl, wide_mul (a := 10) (b := 64) (by decide) gp64 (by decide) (by decide) (by decide), _, _, rfl, rfl, by show 3 ≤ sizeLine; decide, fun l3 nl3 => ?_⟩
    have off3 := dk2.off nl3
    refine ⟨.ref d, rfl, d, c, n + 1 + 1, 3, rfl, dk2.kept (same_new nl3), by omega, by omega, by decide, by decide, fun H3 r3 kp3 dk3 c0 c1 => ?_⟩
    obtain ⟨bb, e3, bv⟩ := pick3 c0 c1 0 5 ((10 : Int) ^ (12 : Int).toNat + 1 - 16 * gp)
    have g12 : (10 : Int) ^ (12 : Int).toNat = 1000000000000 := by decide
    refine ⟨l3, _, r3, _, rfl, rfl, SqL.of (kp3.keep off3 upd_same), e3, ?_⟩
    have kp03 := kp02.trans ((Kp.same (same_new nl3)).trans kp3)
    -- the board
    refine ⟨.ref d, rfl, .int most, rfl, .int hh, rfl, d, c, _, most, hh, rfl, dk3, by omega, by omega, m0, m1, by omega, by omega, fun H4 t us bs m kp4 dk4 q0 q1 et ovs l1' l2' ok => ?_⟩
    have ok16 : ∀ o ∈ bs, ColOk 16 o := fun o ho => by
      have := ok o ho
      match o, this with
      | none, _ => trivial
      | some (x, y), z =>
        have z : 0 ≤ x ∧ x ≤ y ∧ y < hh := z
        show 0 ≤ x ∧ x ≤ y ∧ y < 16
        omega
    refine ⟨.int bb, rfl, .int gp, rfl, t, us, bs, bb, gp, rfl, et, ovs, by omega, ok16, by omega, by omega, by omega, by omega, fun H5 t2 ws s5 et2 ow => ?_⟩
    refine q H5 t2 ws _ m (kp03.trans (kp4.trans (Kp.same s5))) (dk4.kept s5) (by omega) (by omega) et2 ow (by rw [List.length_map]; exact l1') (by rw [List.length_map]; exact l2') (fun o ho => ?_)
    obtain ⟨o', ho', rfl⟩ := List.mem_map.mp ho
    have := ok o' ho'
    match o', this with
    | none, _ => trivial
    | some (x, y), z =>
      have z : 0 ≤ x ∧ x ≤ y ∧ y < hh := z
      have a1 : 0 ≤ x * gp := Int.mul_nonneg z.1 (by omega)
      have a2 : x * gp ≤ y * gp := Int.mul_le_mul_of_nonneg_right z.2.1 (by omega)
      have a3 : y * gp ≤ 15 * gp := Int.mul_le_mul_of_nonneg_right (by omega) (by omega)
      show 0 ≤ x * gp + bb ∧ x * gp + bb ≤ y * gp + gp - 1 + bb ∧ y * gp + gp - 1 + bb < 1000000000001
      omega

/-! ### the law's odd values -/
/-- the heap but for the deck and the list D -/
def OffH (d : Addr) (c : Addr × Addr) (D : Addr) (H : Hp) : Hp := fun b => if b = d ∨ b = c.1 ∨ b = D then none else H b
theorem offH_get {d : Addr} {c : Addr × Addr} {D : Addr} {H : Hp} {b : Addr} {o : HO} (n : Off d c b) (m : b ≠ D) (e : H b = some o) : OffH d c D H b = some o := by
  unfold OffH
  rw [if_neg (fun z => z.elim n.1 fun z => z.elim n.2.1 m)]
  exact e
theorem offH_at {d : Addr} {c : Addr × Addr} {D : Addr} {H : Hp} {b : Addr} {o : HO} (e : OffH d c D H b = some o) : b ≠ d ∧ b ≠ c.1 ∧ b ≠ D ∧ H b = some o := by
  unfold OffH at e
  by_cases z : b = d ∨ b = c.1 ∨ b = D
  · rw [if_pos z] at e
    cases e
  · rw [if_neg z] at e
    exact ⟨fun q => z (.inl q), fun q => z (.inr (.inl q)), fun q => z (.inr (.inr q)), e⟩
theorem offH_sub {d : Addr} {c : Addr × Addr} {D : Addr} {H : Hp} : Same (OffH d c D H) H := fun _ _ e => (offH_at e).2.2.2
theorem offH_kp {d : Addr} {c : Addr × Addr} {D : Addr} {H H' : Hp} (k : Kp d c H H') : Same (OffH d c D H) (OffH d c D H') := fun b o e => by
  obtain ⟨n1, n2, n3, z⟩ := offH_at e
  unfold OffH
  rw [if_neg (fun z => z.elim n1 fun z => z.elim n2 n3)]
  exact k b o n1 n2 z
theorem offH_upd {d : Addr} {c : Addr × Addr} {D : Addr} {H : Hp} {o : HO} : Same (OffH d c D H) (OffH d c D (upd H D o)) := fun b u e => by
  obtain ⟨n1, n2, n3, z⟩ := offH_at e
  unfold OffH
  rw [if_neg (fun z => z.elim n1 fun z => z.elim n2 n3), upd_ne n3]
  exact z
/-- D is a list, and no part of the deck that changes -/
def LsD (d : Addr) (c : Addr × Addr) (D : Addr) (H : Hp) : Prop := D ≠ d ∧ D ≠ c.1 ∧ ∃ us, H D = some (.lst us)
theorem LsD.kp {d : Addr} {c : Addr × Addr} {D : Addr} {H H' : Hp} (h : LsD d c D H) (k : Kp d c H H') : LsD d c D H' := by
  obtain ⟨a, b, us, e⟩ := h
  exact ⟨a, b, us, k D _ a b e⟩
theorem LsD.new {d : Addr} {c : Addr × Addr} {D : Addr} {H : Hp} (h : LsD d c D H) {b : Addr} (e : H b = none) : b ≠ D := by
  obtain ⟨_, _, us, e2⟩ := h
  intro z
  rw [z, e2] at e
  cases e
theorem LsD.tup {d : Addr} {c : Addr × Addr} {D : Addr} {H : Hp} (h : LsD d c D H) {b : Addr} {us : List V} (e : H b = some (.tup us)) : b ≠ D := by
  obtain ⟨_, _, vs, e2⟩ := h
  intro z
  rw [z, e2] at e
  cases e
theorem Dk.lsd {H : Hp} {d : Addr} {c : Addr × Addr} {n : Int} (h : Dk H d c n) : LsD d c c.2 H := by
  obtain ⟨xs, ys, h1, h2, h3, h4, h5, h6, h7, h8⟩ := h.ex
  refine ⟨fun z => ?_, h4, _, h2⟩
  rw [z, h1] at h2
  match xs, h2 with
  | [], h2 => cases h2
  | x :: r, h2 => cases h2
def oddD : List PyData := [.none, .bool true, .bool false, .int (-1), .int 0, .int 1, .int (10 ^ 29), .str "", .str "0-1", .tuple [], .list [], .dict [], .tuple [.int 0], .list [.int 0, .int 1], .tuple [.int 1, .int 0], .tuple [.int 0, .bool true], .dict [(.str "a", .int 1)]]
def fineB (d : PyData) : Bool := d.showable && (d.leavesShort 40 && (decide (d.weight ≤ 1000) && decide (d.depth ≤ 3)))
theorem odd_fine : oddD.all fineB = true := by decide +kernel
theorem odd_ok {d : PyData} (h : d ∈ oddD) : Sm 1000 3 d := by
  have h := List.all_eq_true.mp odd_fine d h
  have h1 := Bool.and_eq_true_iff.mp h
  have h2 := Bool.and_eq_true_iff.mp h1.2
  have h3 := Bool.and_eq_true_iff.mp h2.2
  exact ⟨h1.1, h2.1, of_decide_eq_true h3.1, of_decide_eq_true h3.2⟩
/-- data, and small -/
def Gn (K : PySem.W.Frag) (n dp : Nat) (G : Hp) (v : V) : Prop := ∃ dd, Dv K G v dd ∧ Sm n dp dd
theorem Gn.same {K : PySem.W.Frag} {n dp : Nat} {G G' : Hp} {v : V} (h : Gn K n dp G v) (s : Same G G') : Gn K n dp G' v :=
  let ⟨dd, a, b⟩ := h
  ⟨dd, dv_same s a, b⟩
theorem Gn.mono {K : PySem.W.Frag} {n dp m dq : Nat} {G : Hp} {v : V} (h : Gn K n dp G v) (h1 : n ≤ m) (h2 : dp ≤ dq) : Gn K m dq G v :=
  let ⟨dd, a, b⟩ := h
  ⟨dd, a, b.mono h1 h2⟩
def sp_law_odd (K : PySem.W.Frag) : Sp := fun vs H Q _ => ∃ (d : Addr) (c : Addr × Addr) (D : Addr) (n : Int), vs = [.ref d] ∧ Dk H d c n ∧ LsD d c D H ∧ 0 ≤ n ∧ n < 999990 ∧
  ∀ H' v, Kp d c H H' → Dk H' d c (n + 1) → Gn K 1000 3 (OffH d c D H') v → Q v H'
theorem ok_law_odd (T : Tx K mg f_is_number f_is_tuple_of f_contains f_is_rectangle f_law_draws f_law_next f_law_pick f_law_column f_law_board f_law_stretch f_law_any_board f_law_is_int f_law_inside f_law_full f_law_is_rectangle f_law_odd f_law_bent f_law_tried f_law d_is_number d_is_tuple_of d_contains d_is_rectangle d_law_draws d_law_next d_law_pick d_law_column d_law_board d_law_stretch d_law_any_board d_law_is_int d_law_inside d_law_full d_law_is_rectangle d_law_odd d_law_bent d_law_tried d_law) : FnOk P w K mg base CX0 2 f_law_odd d_law_odd ["_law_drawn"] (sp_law_odd K) := by
  refine T.F_law_odd.ok sc_law_odd (fun vs H Q E h => ?_) (fun cdv A outer s H vs Q E hr h => ?_)
  · obtain ⟨d, c, D, n, rfl, _⟩ := h
    rfl
  · obtain ⟨d, c, D, n, rfl, dk, lD, n0, n1, q⟩ := h
    refine ⟨_, (pss_cons (ps_set (i := 1) sc_law_odd.nd rfl (Or.inl rfl) (pe_lst (pa_cons pe_non (pa_cons pe_bl (pa_cons pe_bl (pa_cons (pe_un un_neg pe_int) (pa_cons pe_int (pa_cons pe_int (pa_cons (pe_op op_pow pe_int pe_int) (pa_cons pe_str (pa_cons pe_str (pa_cons (pe_tup pa_nil) (pa_cons (pe_lst pa_nil) (pa_cons pe_dnewK (pa_cons (pe_tup (pa_cons pe_int pa_nil)) (pa_cons (pe_lst (pa_cons pe_int (pa_cons pe_int pa_nil))) (pa_cons (pe_tup (pa_cons pe_int (pa_cons pe_int pa_nil))) (pa_cons (pe_tup (pa_cons pe_int (pa_cons pe_bl pa_nil))) (pa_cons (pe_disp (pps_cons pe_str pe_int pps_nil) (by rfl) (by rfl) (fun z => by cases z) (by decide)) pa_nil)))))))))))))))))))
      (pss_one (ps_ret (pe_ix ix_list (pv 1) (pe_call (ok_law_next T) (hr.mono (by decide)) (by rfl) T.g_law_next T.F_law_next.kp T.b_law_next .nil pass0 (pa_cons (pv 0) (pa_cons pe_int pa_nil))) (fun _ _ => rfl))))), ?_⟩
    refine ⟨1, rfl, 10, 29, rfl, rfl, ⟨by decide, by decide, by decide⟩, by show 0 ≤ sizeLine; decide, fun p1 m1 => ?_⟩
    have s1 := same_new (H := H) (p := p1) (o := .tup []) m1
    have e1 := upd_same (H := H) (a := p1) (o := .tup [])
    generalize upd H p1 (.tup []) = H1 at *
    refine ⟨by show 0 ≤ sizeLine; decide, fun p2 m2 => ?_⟩
    have s2 := same_new (H := H1) (p := p2) (o := .lst []) m2
    have e2 := upd_same (H := H1) (a := p2) (o := .lst [])
    generalize upd H1 p2 (.lst []) = H2 at *
    refine fun p3 m3 => ?_
    have s3 := same_new (H := H2) (p := p3) (o := .dK []) m3
    have e3 := upd_same (H := H2) (a := p3) (o := .dK [])
    generalize upd H2 p3 (.dK []) = H3 at *
    refine ⟨by show 1 ≤ sizeLine; decide, fun p4 m4 => ?_⟩
    have s4 := same_new (H := H3) (p := p4) (o := .tup [.int 0]) m4
    have e4 := upd_same (H := H3) (a := p4) (o := .tup [.int 0])
    generalize upd H3 p4 (.tup [.int 0]) = H4 at *
    refine ⟨by show 2 ≤ sizeLine; decide, fun p5 m5 => ?_⟩
    have s5 := same_new (H := H4) (p := p5) (o := .lst [.int 0, .int 1]) m5
    have e5 := upd_same (H := H4) (a := p5) (o := .lst [.int 0, .int 1])
    generalize upd H4 p5 (.lst [.int 0, .int 1]) = H5 at *
    refine ⟨by show 2 ≤ sizeLine; decide, fun p6 m6 => ?_⟩
    have s6 := same_new (H := H5) (p := p6) (o := .tup [.int 1, .int 0]) m6
    have e6 := upd_same (H := H5) (a := p6) (o := .tup [.int 1, .int 0])
    generalize upd H5 p6 (.tup [.int 1, .int 0]) = H6 at *
    refine ⟨by show 2 ≤ sizeLine; decide, fun p7 m7 => ?_⟩
    have s7 := same_new (H := H6) (p := p7) (o := .tup [.int 0, .bl true]) m7
    have e7 := upd_same (H := H6) (a := p7) (o := .tup [.int 0, .bl true])
    generalize upd H6 p7 (.tup [.int 0, .bl true]) = H7 at *
    refine fun p8 m8 => ⟨upd_same, [(.inr "a", .int 1)], rfl, by decide, ?_⟩
    have s8 : Same H7 (upd (upd H7 p8 (.dK [])) p8 (.dK (mergeK [] [(.inr "a", .int 1)]))) := by
      rw [upd_upd]
      exact same_new m8
    have e8 := upd_same (H := upd H7 p8 (.dK [])) (a := p8) (o := .dK (mergeK [] [(.inr "a", .int 1)]))
    generalize upd (upd H7 p8 (.dK [])) p8 (.dK (mergeK [] [(.inr "a", .int 1)])) = H8 at *
    refine ⟨by show 17 ≤ sizeLine; decide, fun p9 m9 => ?_⟩
    have s9 := same_new (H := H8) (p := p9) (o := .lst [.non, .bl true, .bl false, .int (-1), .int 0, .int 1, .int (10 ^ (29 : Int).toNat), .str "", .str "0-1", .ref p1, .ref p2, .ref p3, .ref p4, .ref p5, .ref p6, .ref p7, .ref p8]) m9
    have e9 := upd_same (H := H8) (a := p9) (o := .lst [.non, .bl true, .bl false, .int (-1), .int 0, .int 1, .int (10 ^ (29 : Int).toNat), .str "", .str "0-1", .ref p1, .ref p2, .ref p3, .ref p4, .ref p5, .ref p6, .ref p7, .ref p8])
    generalize upd H8 p9 (.lst [.non, .bl true, .bl false, .int (-1), .int 0, .int 1, .int (10 ^ (29 : Int).toNat), .str "", .str "0-1", .ref p1, .ref p2, .ref p3, .ref p4, .ref p5, .ref p6, .ref p7, .ref p8]) = H9 at *
    have hs : Same H H9 := s1.trans ( s2.trans ( s3.trans ( s4.trans ( s5.trans ( s6.trans ( s7.trans ( s8.trans (s9))))))))
    have o1 : OffH d c D H9 p1 = some _ := offH_get (dk.off m1) (lD.new m1) (s9 _ _ (s8 _ _ (s7 _ _ (s6 _ _ (s5 _ _ (s4 _ _ (s3 _ _ (s2 _ _ (e1)))))))))
    have o2 : OffH d c D H9 p2 = some _ := offH_get (dk.off (s1.free m2)) (lD.new (s1.free m2)) (s9 _ _ (s8 _ _ (s7 _ _ (s6 _ _ (s5 _ _ (s4 _ _ (s3 _ _ (e2))))))))
    have o3 : OffH d c D H9 p3 = some _ := offH_get (dk.off (s1.free (s2.free m3))) (lD.new (s1.free (s2.free m3))) (s9 _ _ (s8 _ _ (s7 _ _ (s6 _ _ (s5 _ _ (s4 _ _ (e3)))))))
    have o4 : OffH d c D H9 p4 = some _ := offH_get (dk.off (s1.free (s2.free (s3.free m4)))) (lD.new (s1.free (s2.free (s3.free m4)))) (s9 _ _ (s8 _ _ (s7 _ _ (s6 _ _ (s5 _ _ (e4))))))
    have o5 : OffH d c D H9 p5 = some _ := offH_get (dk.off (s1.free (s2.free (s3.free (s4.free m5))))) (lD.new (s1.free (s2.free (s3.free (s4.free m5))))) (s9 _ _ (s8 _ _ (s7 _ _ (s6 _ _ (e5)))))
    have o6 : OffH d c D H9 p6 = some _ := offH_get (dk.off (s1.free (s2.free (s3.free (s4.free (s5.free m6)))))) (lD.new (s1.free (s2.free (s3.free (s4.free (s5.free m6)))))) (s9 _ _ (s8 _ _ (s7 _ _ (e6))))
    have o7 : OffH d c D H9 p7 = some _ := offH_get (dk.off (s1.free (s2.free (s3.free (s4.free (s5.free (s6.free m7))))))) (lD.new (s1.free (s2.free (s3.free (s4.free (s5.free (s6.free m7))))))) (s9 _ _ (s8 _ _ (e7)))
    have o8 : OffH d c D H9 p8 = some _ := offH_get (dk.off (s1.free (s2.free (s3.free (s4.free (s5.free (s6.free (s7.free m8)))))))) (lD.new (s1.free (s2.free (s3.free (s4.free (s5.free (s6.free (s7.free m8)))))))) (s9 _ _ (e8))
    have oL := ((((((((dk.kept s1).kept s2).kept s3).kept s4).kept s5).kept s6).kept s7).kept s8).off m9
    have all : DvAll K (OffH d c D H9) [.non, .bl true, .bl false, .int (-1), .int 0, .int 1, .int (10 ^ (29 : Int).toNat), .str "", .str "0-1", .ref p1, .ref p2, .ref p3, .ref p4, .ref p5, .ref p6, .ref p7, .ref p8] oddD := .cons (.non) (.cons (.bl true) (.cons (.bl false) (.cons (.int _) (.cons (.int _) (.cons (.int _) (.cons (.int _) (.cons (.str _) (.cons (.str _) (.cons (.tup o1 .nil) (.cons (.lst o2 .nil) (.cons (.dic o3 .nil) (.cons (.tup o4 (.cons (.int _) (.nil))) (.cons (.lst o5 (.cons (.int _) (.cons (.int _) (.nil)))) (.cons (.tup o6 (.cons (.int _) (.cons (.int _) (.nil)))) (.cons (.tup o7 (.cons (.int _) (.cons (.bl _) (.nil)))) (.cons (.dic o8 (.cons (.int _) (.nil))) (.nil)))))))))))))))))
    generalize ([.non, .bl true, .bl false, .int (-1), .int 0, .int 1, .int (10 ^ (29 : Int).toNat), .str "", .str "0-1", .ref p1, .ref p2, .ref p3, .ref p4, .ref p5, .ref p6, .ref p7, .ref p8] : List V) = items at *
    have len : items.length = 17 := all.length
    refine ⟨.ref p9, rfl, .ref d, rfl, d, c, n, 17, rfl, dk.kept hs, n0, by omega, by decide, by decide, fun Hd r kp dk2 r0 r1 => ?_⟩
    obtain ⟨j, rfl⟩ : ∃ j : Nat, r = j := ⟨r.toNat, by omega⟩
    have hj : j < items.length := by omega
    have ej : items[j]? = some items[j] := List.getElem?_eq_getElem hj
    obtain ⟨dd, ed, hdv⟩ := all.get ej
    refine ⟨p9, items, j, items[j], rfl, rfl, SqL.of (kp.keep oL e9), atI_nat ej, ?_⟩
    exact q _ _ ((Kp.same hs).trans kp) dk2 ⟨dd, dv_same (offH_kp kp) hdv, odd_ok (List.mem_of_getElem? ed)⟩

/-! ### contains -/
def inI (x y u v : Int) : Bool := decide (x ≤ u) && decide (v ≤ y)
def sp_contains : Sp := fun vs H Q _ => ∃ (a b : Addr) (x y u v : Int), vs = [.ref a, .ref b] ∧ H a = some (.tup [.int x, .int y]) ∧ H b = some (.tup [.int u, .int v]) ∧ Q (.bl (inI x y u v)) H
theorem ok_contains (T : Tx K mg f_is_number f_is_tuple_of f_contains f_is_rectangle f_law_draws f_law_next f_law_pick f_law_column f_law_board f_law_stretch f_law_any_board f_law_is_int f_law_inside f_law_full f_law_is_rectangle f_law_odd f_law_bent f_law_tried f_law d_is_number d_is_tuple_of d_contains d_is_rectangle d_law_draws d_law_next d_law_pick d_law_column d_law_board d_law_stretch d_law_any_board d_law_is_int d_law_inside d_law_full d_law_is_rectangle d_law_odd d_law_bent d_law_tried d_law) : FnOk P w K mg base CX0 1 f_contains d_contains ["outer", "inner"] sp_contains := by
  refine T.F_contains.ok sc_contains (fun vs H Q E h => ?_) (fun cdv A outer s H vs Q E hr h => ?_)
  · obtain ⟨a, b, x, y, u, v, rfl, _⟩ := h
    rfl
  · obtain ⟨a, b, x, y, u, v, rfl, ha, hb, q⟩ := h
    refine ⟨_, (pss_one (ps_ret (pe_and (pe_cmpR op_le (pe_ix ix_tup (pv 0) pe_int (fun _ _ => rfl)) (pe_ix ix_tup (pv 1) pe_int (fun _ _ => rfl)) (nomark _)) (pe_one (pe_cmpR op_le (pe_ix ix_tup (pv 1) pe_int (fun _ _ => rfl)) (pe_ix ix_tup (pv 0) pe_int (fun _ _ => rfl)) (nomark _)))))), ?_⟩
    unfold inI at q
    refine ⟨.ref a, rfl, a, _, 0, .int x, rfl, rfl, SqT.of ha, rfl, .ref b, rfl, b, _, 0, .int u, rfl, rfl, SqT.of hb, rfl, _, _, rfl, rfl, _, rfl, ite2 (fun e => ?_) (fun e => ?_)⟩
    · refine ⟨.ref b, rfl, b, _, 1, .int v, rfl, rfl, SqT.of hb, rfl, .ref a, rfl, a, _, 1, .int y, rfl, rfl, SqT.of ha, rfl, _, _, rfl, rfl, ?_⟩
      rw [e] at q
      exact q
    · rw [Bool.not_eq_true] at e
      rw [e] at q
      exact q

/-! ### rectangles -/
def inC (b t : Int) : Option (Int × Int) → Bool
  | none => false
  | some (x, y) => decide (x ≤ b) && decide (t ≤ y)
/-- columns l to r contain rows b to t -/
def RectP (bs : List (Option (Int × Int))) (l r b t : Int) : Prop := ∀ c : Nat, l ≤ c → (c : Int) ≤ r → ∃ x y : Int, bs[c]? = some (some (x, y)) ∧ x ≤ b ∧ t ≤ y
theorem rect_all {bs : List (Option (Int × Int))} {l r : Nat} {b t : Int} (hr : r < bs.length) (hl : l ≤ r) : (((bs.drop l).take (r + 1 - l)).map (inC b t)).all id = true ↔ RectP bs l r b t := by
  rw [List.all_eq_true]
  constructor
  · intro h c c1 c2
    have c1 : l ≤ c := by omega
    have c2 : c ≤ r := by omega
    have e : ((bs.drop l).take (r + 1 - l))[c - l]? = bs[c]? := by
      rw [List.getElem?_take_of_lt (by omega), List.getElem?_drop]
      congr 1
      omega
    have e2 : bs[c]? = some bs[c] := List.getElem?_eq_getElem (by omega)
    have := h (inC b t bs[c]) (List.mem_map.mpr ⟨bs[c], List.mem_of_getElem? (e.trans e2), rfl⟩)
    rw [e2]
    match bs[c], this with
    | some (x, y), this =>
      have z := Bool.and_eq_true_iff.mp (show (decide (x ≤ b) && decide (t ≤ y)) = true from this)
      exact ⟨x, y, rfl, of_decide_eq_true z.1, of_decide_eq_true z.2⟩
  · intro h k hk
    obtain ⟨o, ho, rfl⟩ := List.mem_map.mp hk
    obtain ⟨j, ej⟩ := List.getElem?_of_mem ho
    have jl := (List.getElem?_eq_some_iff.mp ej).1
    rw [List.length_take, List.length_drop] at jl
    rw [List.getElem?_take_of_lt (by omega), List.getElem?_drop] at ej
    obtain ⟨x, y, e, z1, z2⟩ := h (l + j) (by omega) (by omega)
    rw [e] at ej
    cases ej
    show (decide (x ≤ b) && decide (t ≤ y)) = true
    rw [decide_eq_true z1, decide_eq_true z2]
    rfl
theorem cutMid (xs : List V) (l r : Nat) (h : r ≤ xs.length) (hl : l ≤ r) : cutV xs (some (l : Int)) (some (r : Int)) = (xs.drop l).take (r - l) := by
  unfold cutV
  rw [show HT.sIx xs.length 0 (some (l : Int)) = min l xs.length from HT.sIx_nat xs.length 0 l, show HT.sIx xs.length xs.length (some (r : Int)) = min r xs.length from HT.sIx_nat xs.length xs.length r, Nat.min_eq_left h, Nat.min_eq_left (by omega)]

def inRow (b : Int) : Option (Int × Int) → Bool
  | none => false
  | some (x, y) => decide (x ≤ b) && decide (b ≤ y)
def sp_law_inside : Sp := fun vs H Q _ => ∃ (a : Addr) (us : List V) (bs : List (Option (Int × Int))) (c : Nat) (o : Option (Int × Int)) (b : Int), vs = [.ref a, .int c, .int b] ∧ H a = some (.tup us) ∧ OVs H us bs ∧ bs[c]? = some o ∧ Q (.bl (inRow b o)) H
theorem ok_law_inside (T : Tx K mg f_is_number f_is_tuple_of f_contains f_is_rectangle f_law_draws f_law_next f_law_pick f_law_column f_law_board f_law_stretch f_law_any_board f_law_is_int f_law_inside f_law_full f_law_is_rectangle f_law_odd f_law_bent f_law_tried f_law d_is_number d_is_tuple_of d_contains d_is_rectangle d_law_draws d_law_next d_law_pick d_law_column d_law_board d_law_stretch d_law_any_board d_law_is_int d_law_inside d_law_full d_law_is_rectangle d_law_odd d_law_bent d_law_tried d_law) : FnOk P w K mg base CX0 1 f_law_inside d_law_inside ["_law_board_here", "_law_column_here", "_law_row"] sp_law_inside := by
  refine T.F_law_inside.ok sc_law_inside (fun vs H Q E h => ?_) (fun cdv A outer s H vs Q E hr h => ?_)
  · obtain ⟨a, us, bs, c, o, b, rfl, _⟩ := h
    rfl
  · obtain ⟨a, us, bs, c, o, b, rfl, ha, ovs, ho, q⟩ := h
    refine ⟨_, (pss_one (ps_ret (pe_and (pe_cmpR op_notN (pe_ix ix_tup (pv 0) (pv 1) (fun _ _ => rfl)) pe_non (nomark _)) (pe_one (pe_chain op_le op_le (pe_ix ix_tup (pe_ix ix_tup (pv 0) (pv 1) (fun _ _ => rfl)) pe_int (fun _ _ => rfl)) (pv 2) (pe_ix ix_tup (pe_ix ix_tup (pv 0) (pv 1) (fun _ _ => rfl)) pe_int (fun _ _ => rfl))))))), ?_⟩
    have cl := (List.getElem?_eq_some_iff.mp ho).1
    have lu := ovs.1
    have ev : us[c]? = some us[c] := List.getElem?_eq_getElem (by omega)
    obtain ⟨o', eo', ov⟩ := ovs.2 c _ ev
    rw [ho] at eo'
    cases eo'
    generalize us[c] = v at *
    refine ⟨.ref a, rfl, .int c, rfl, a, us, c, v, rfl, rfl, SqT.of ha, atI_nat ev, rfl, _, rfl, ?_⟩
    rw [ov.isN]
    match o, ov, q with
    | none, ov, q => exact iteF q
    | some (x, y), ov, q =>
      obtain ⟨bb, rfl, hb⟩ := ov
      refine iteT ⟨.ref a, rfl, .int c, rfl, a, us, c, .ref bb, rfl, rfl, SqT.of ha, atI_nat ev, bb, _, 0, .int x, rfl, rfl, SqT.of hb, rfl, .int b, rfl, _, _, rfl, rfl, _, rfl, ite2 (fun e1 => ?_) (fun e1 => ?_)⟩
      · refine ⟨.ref a, rfl, .int c, rfl, a, us, c, .ref bb, rfl, rfl, SqT.of ha, atI_nat ev, bb, _, 1, .int y, rfl, rfl, SqT.of hb, rfl, _, _, rfl, rfl, ?_⟩
        have q : Q (.bl (decide (x ≤ b) && decide (b ≤ y))) H := q
        rw [e1] at q
        exact q
      · have q : Q (.bl (decide (x ≤ b) && decide (b ≤ y))) H := q
        rw [Bool.not_eq_true] at e1
        rw [e1] at q
        exact q
def sp_law_full : Sp := fun vs H Q _ => ∃ (a : Addr) (us : List V) (bs : List (Option (Int × Int))) (l r : Nat) (b t : Int), vs = [.ref a, .int l, .int r, .int b, .int t] ∧ H a = some (.tup us) ∧ OVs H us bs ∧ bs.length < 100 ∧ l ≤ r ∧ r < bs.length ∧ b ≤ t ∧
  ∀ H' k, Same H H' → (k = true ↔ RectP bs l r b t) → Q (.bl k) H'
theorem full_len {bs : List (Option (Int × Int))} {l r : Nat} {b t : Int} (hr : r < bs.length) (lr : l ≤ r) (bt : b ≤ t) : ((List.range (r + 1 - l)).filter fun j => (bs[l + j]?.map fun o => inRow b o && inRow t o) == some true).length = r + 1 - l ↔ RectP bs l r b t := by
  have h0 : ∀ n (p : Nat → Bool), ((List.range n).filter p).length = n ↔ ∀ j, j < n → p j = true := fun n p => by
    have := List.length_filter_eq_length_iff (p := p) (l := List.range n)
    rw [List.length_range] at this
    rw [this]
    exact ⟨fun h j hj => h j (List.mem_range.mpr hj), fun h j hj => h j (List.mem_range.mp hj)⟩
  rw [h0]
  constructor
  · intro h c c1 c2
    have := h (c - l) (by omega)
    rw [show l + (c - l) = c by omega] at this
    have e2 : bs[c]? = some bs[c] := List.getElem?_eq_getElem (by omega)
    rw [e2] at this ⊢
    match bs[c], this with
    | none, this => simp [inRow] at this
    | some (x, y), this =>
      simp [inRow] at this
      exact ⟨x, y, rfl, by omega, by omega⟩
  · intro h j hj
    obtain ⟨x, y, e, z1, z2⟩ := h (l + j) (by omega) (by omega)
    rw [e]
    simp [inRow]
    omega
theorem ok_law_full (T : Tx K mg f_is_number f_is_tuple_of f_contains f_is_rectangle f_law_draws f_law_next f_law_pick f_law_column f_law_board f_law_stretch f_law_any_board f_law_is_int f_law_inside f_law_full f_law_is_rectangle f_law_odd f_law_bent f_law_tried f_law d_is_number d_is_tuple_of d_contains d_is_rectangle d_law_draws d_law_next d_law_pick d_law_column d_law_board d_law_stretch d_law_any_board d_law_is_int d_law_inside d_law_full d_law_is_rectangle d_law_odd d_law_bent d_law_tried d_law) : FnOk P w K mg base CX0 2 f_law_full d_law_full ["_law_board_here", "_law_left", "_law_right", "_law_bottom", "_law_top"] sp_law_full := by
  refine T.F_law_full.ok sc_law_full (fun vs H Q E h => ?_) (fun cdv A outer s H vs Q E hr h => ?_)
  · obtain ⟨a, us, bs, l, r, b, t, rfl, _⟩ := h
    rfl
  · obtain ⟨a, us, bs, l, r, b, t, rfl, ha, ovs, few, lr, rl, bt, q⟩ := h
    refine ⟨_, (pss_cons (ps_setLc (i := 5) (own := [("_law_c", 6)]) (g := (gName 6)) (by rfl) sc_law_full.nd rfl rfl (sw_true rfl rfl rfl (by decide +kernel)) (pi_range2 (by rfl) T.z_range (pa_cons (pv 1) (pa_cons (pe_op op_add (pv 2) pe_int) pa_nil))) (blkOk_by (own := [("_law_c", 6)]) (N := N_law_full) (sc := defScope s_law_full) (by decide +kernel)) (fun _ _ _ _ _ => (pg_name (i := 6) sc_law_full.nd rfl (Or.inl rfl))) (fun _ _ _ _ _ => pts_one (PW.pt (pw_and (pt_val (pe_call (ok_law_inside T) (hr.mono (by decide)) (by rfl) T.g_law_inside T.F_law_inside.kp T.b_law_inside .nil pass0 (pa_cons (pv 0) (pa_cons (pv 6) (pa_cons (pv 3) pa_nil))))) (pw_and1 (pt_val (pe_call (ok_law_inside T) (hr.mono (by decide)) (by rfl) T.g_law_inside T.F_law_inside.kp T.b_law_inside .nil pass0 (pa_cons (pv 0) (pa_cons (pv 6) (pa_cons (pv 4) pa_nil))))))))) (fun _ _ _ _ _ => (pv 6)))
      (pss_one (ps_ret (pe_cmpR op_eq (pe_callB call_len_seq (by rfl) T.z_len PySem.boot_len (pa_cons (pv 5) pa_nil)) (pe_op op_sub (pe_op op_add (pv 2) pe_int) (pv 1)) (nomark _))))), ?_⟩
    have lu := ovs.1
    refine ⟨.int l, rfl, .int r, rfl, _, _, rfl, rfl, l, r + 1, rfl, ⟨by omega, by omega, by omega, by omega⟩, fun D nD => ?_⟩
    refine lcR (lo := (l : Int)) (n := ((r : Int) + 1 - l).toNat) (fun j H' ws => ws.length = ((List.range j).filter fun j => (bs[l + j]?.map fun o => inRow b o && inRow t o) == some true).length) nD (by omega) (fun _ _ _ _ _ h => h) (fun j H' ws h => by rw [h]; exact Nat.le_trans (List.length_filter_le _ _) (by rw [List.length_range]; exact Nat.le_refl _)) (fun _ => rfl) ?_ ?_
    · rintro j H' N acc hj sj eA sz rr no yes
      have e2 : bs[l + j]? = some bs[l + j] := List.getElem?_eq_getElem (by omega)
      generalize bs[l + j] = o at *
      have out : (inRow b o && inRow t o) = false → N H' := fun z => by
        refine no H' (Same.refl _) ?_
        rw [List.range_succ, List.filter_append, List.length_append, rr]
        simp [e2, z]
      refine ⟨rfl, .ref a, rfl, .int ((l : Int) + (j : Nat)), rfl, .int b, rfl, a, us, bs, l + j, o, b, by rw [show (((l + j : Nat) : Nat) : Int) = (l : Int) + (j : Nat) by omega]; rfl, sj _ _ ha, ovs.same sj, e2, _, rfl, ite2 (fun z1 => ?_) (fun z1 => ?_)⟩
      · refine ⟨.ref a, rfl, .int ((l : Int) + (j : Nat)), rfl, .int t, rfl, a, us, bs, l + j, o, t, by rw [show (((l + j : Nat) : Nat) : Int) = (l : Int) + (j : Nat) by omega]; rfl, sj _ _ ha, ovs.same sj, e2, _, rfl, ite2 (fun z2 => ?_) (fun z2 => ?_)⟩
        · refine ⟨_, rfl, yes H' _ (Same.refl _) ?_⟩
          rw [List.length_append, List.range_succ, List.filter_append, List.length_append, rr]
          simp [e2, z1, z2]
        · exact out (by rw [Bool.not_eq_true] at z2; rw [z2, Bool.and_false])
      · exact out (by rw [Bool.not_eq_true] at z1; rw [z1, Bool.false_and])
    · intro H1 ws s1 eD rr
      rw [show ((r : Int) + 1 - l).toNat = r + 1 - l by omega] at rr
      refine ⟨.ref D, rfl, D, ws, rfl, .inl (SqL.of eD), .int r, rfl, _, _, rfl, rfl, .int l, rfl, _, _, rfl, rfl, rfl, ?_⟩
      refine q H1 _ s1 ?_
      rw [decide_eq_true_iff, ← full_len rl lr bt, ← rr]
      constructor
      · intro z
        injection z with z
        omega
      · intro z
        show V.int (ws.length : Int) = V.int ((r : Int) + 1 - l)
        congr 1
        omega

def sp_law_pick : Sp := fun vs H Q _ => ∃ (d : Addr) (c : Addr × Addr) (n : Int) (a : Addr) (is : List Int), vs = [.ref d, .ref a] ∧ Dk H d c n ∧ 0 ≤ n ∧ n < 900000 ∧ Off d c a ∧ H a = some (.lst (is.map V.int)) ∧ 0 < is.length ∧ is.length < 1000 ∧
  ∀ H' i, Kp d c H H' → Dk H' d c (n + 1) → i ∈ is → Q (.int i) H'
theorem ok_law_pick (T : Tx K mg f_is_number f_is_tuple_of f_contains f_is_rectangle f_law_draws f_law_next f_law_pick f_law_column f_law_board f_law_stretch f_law_any_board f_law_is_int f_law_inside f_law_full f_law_is_rectangle f_law_odd f_law_bent f_law_tried f_law d_is_number d_is_tuple_of d_contains d_is_rectangle d_law_draws d_law_next d_law_pick d_law_column d_law_board d_law_stretch d_law_any_board d_law_is_int d_law_inside d_law_full d_law_is_rectangle d_law_odd d_law_bent d_law_tried d_law) : FnOk P w K mg base CX0 2 f_law_pick d_law_pick ["_law_drawn", "_law_items"] sp_law_pick := by
  refine T.F_law_pick.ok sc_law_pick (fun vs H Q E h => ?_) (fun cdv A outer s H vs Q E hr h => ?_)
  · obtain ⟨d, c, n, a, is, rfl, _⟩ := h
    rfl
  · obtain ⟨d, c, n, a, is, rfl, dk, n0, n1, off, ha, l0, l1, q⟩ := h
    refine ⟨_, (pss_one (ps_ret (pe_ix ix_list (pv 1) (pe_call (ok_law_next T) (hr.mono (by decide)) (by rfl) T.g_law_next T.F_law_next.kp T.b_law_next .nil pass0 (pa_cons (pv 0) (pa_cons (pe_callB call_len_seq (by rfl) T.z_len PySem.boot_len (pa_cons (pv 1) pa_nil)) pa_nil))) (fun _ _ => rfl)))), ?_⟩
    have li : (is.map V.int).length = is.length := List.length_map _
    refine ⟨.ref a, rfl, .ref d, rfl, .ref a, rfl, a, is.map V.int, rfl, .inl (SqL.of ha), d, c, n, ((is.map V.int).length : Int), rfl, dk, n0, by omega, by omega, by omega, fun H1 r kp dk1 r0 r1 => ?_⟩
    obtain ⟨j, rfl⟩ : ∃ j : Nat, r = j := ⟨r.toNat, by omega⟩
    have jl : j < is.length := by omega
    have ej : (is.map V.int)[j]? = some (.int is[j]) := by
      rw [List.getElem?_map, List.getElem?_eq_getElem jl]
      rfl
    refine ⟨a, is.map V.int, (j : Int), .int is[j], rfl, rfl, SqL.of (kp.keep off ha), atI_nat ej, ?_⟩
    exact q H1 _ kp dk1 (List.getElem_mem jl)

/-! ### bent values -/
section
variable {X : Cx}
def rNeE (K : PySem.W.Frag) : R2 := fun x y H Q => ∃ (a b : Addr) (xs : List V), x = .ref a ∧ y = .ref b ∧ SqT K H a xs ∧ SqT K H b [] ∧ Q (.bl (!xs.isEmpty)) H
theorem op_neE (units : X.A.units < cLine) : OpR X (compareOp .NotEq) (rNeE X.K) := by
  intro pins s σ H x y v u Q I rx ry h
  obtain ⟨a, b, xs, rfl, rfl, ha, hb, q⟩ := h
  cases rx
  cases ry
  obtain ⟨its, r1, p1, _⟩ := I.tuple ha
  obtain ⟨its2, r2, p2, _⟩ := I.tuple hb
  cases r2
  refine SeqAt.RcNeAt.tuples (e := fun _ => true) (show s.heap.IsTuple a its.toArray from p1) (show s.heap.IsTuple b ([] : List Value).toArray from p2) units (fun j h1 h2 => absurd h2 (Nat.not_lt_zero j)) X.prog X.w X.xe (EP X pins σ Q) ⟨.bl (!xs.isEmpty), H, I, ?_, q⟩
  cases r1 with
  | nil => rfl
  | cons r t => rfl
end
theorem noPart_of {σ : L2.St} {H : Hp} {Q : Option Int → Hp → Prop} (h : Q none H) : tNoPart σ H Q := h
theorem sm_istr {i : Int} (h : i.natAbs < 10 ^ 30) : Sm 1000 0 (.str (Str.ofString (toString i))) := by
  refine ⟨rfl, ?_, ?_, Nat.le_refl _⟩
  · show ((Str.ofString (toString i)).cps.toList.all fun c => decide (c < 16 ^ 8)) = true
    rw [Str.ofString_eq_toList, List.all_eq_true]
    intro c hc
    have hc : c ∈ ((toString i).toList.map Char.toNat) := by simpa using hc
    obtain ⟨x, _, rfl⟩ := List.mem_map.mp hc
    refine decide_eq_true ?_
    have := x.val.toNat_lt
    show x.val.toNat < 16 ^ 8
    omega
  · have q := int_text_length_le10 (a := i) (k := 30) (by decide) h
    show (Str.ofString (toString i)).length ≤ 1000
    rw [PySem.ofString_length]
    exact Nat.le_trans q (by decide)
/-- a row of small items -/
def RwN (K : PySem.W.Frag) (n dp : Nat) (G : Hp) (N : Nat) (us : List V) : Prop := ∃ ds, DvAll K G us ds ∧ (∀ x ∈ ds, Sm n dp x) ∧ ds.length ≤ N
theorem RwN.same {K : PySem.W.Frag} {n dp : Nat} {G G' : Hp} {N : Nat} {us : List V} (h : RwN K n dp G N us) (s : Same G G') : RwN K n dp G' N us :=
  let ⟨ds, a, b, c⟩ := h
  ⟨ds, dvAll_same s a, b, c⟩
theorem RwN.len {K : PySem.W.Frag} {n dp : Nat} {G : Hp} {N : Nat} {us : List V} (h : RwN K n dp G N us) : us.length ≤ N := by
  obtain ⟨ds, a, b, c⟩ := h
  rw [a.length]
  exact c
theorem RwN.up {K : PySem.W.Frag} {n dp : Nat} {G : Hp} {N M : Nat} {us : List V} (h : RwN K n dp G N us) (k : us.length ≤ M) : RwN K n dp G M us := by
  obtain ⟨ds, a, b, c⟩ := h
  exact ⟨ds, a, b, by rw [← a.length]; exact k⟩
theorem dvAll_take {K : PySem.W.Frag} {G : Hp} : ∀ {us : List V} {ds : List PyData}, DvAll K G us ds → ∀ n : Nat, DvAll K G (us.take n) (ds.take n)
  | _, _, .nil, n => by
    rw [List.take_nil, List.take_nil]
    exact .nil
  | _, _, .cons a b, 0 => .nil
  | _, _, .cons a b, n + 1 => .cons a (dvAll_take b n)
theorem dvAll_drop {K : PySem.W.Frag} {G : Hp} : ∀ {us : List V} {ds : List PyData}, DvAll K G us ds → ∀ n : Nat, DvAll K G (us.drop n) (ds.drop n)
  | _, _, .nil, n => by
    rw [List.drop_nil, List.drop_nil]
    exact .nil
  | _, _, .cons a b, 0 => .cons a b
  | _, _, .cons a b, n + 1 => dvAll_drop b n
theorem dvAll_rev {K : PySem.W.Frag} {H : Hp} : ∀ {vs : List V} {ds : List PyData}, DvAll K H vs ds → DvAll K H vs.reverse ds.reverse
  | _, _, .nil => .nil
  | _, _, .cons a b => by
    rw [List.reverse_cons, List.reverse_cons]
    exact (dvAll_rev b).append (.cons a .nil)
theorem RwN.cut {K : PySem.W.Frag} {n dp : Nat} {G : Hp} {N : Nat} {us : List V} (h : RwN K n dp G N us) (lo hi : Option Int) : RwN K n dp G N (cutV us lo hi) := by
  obtain ⟨ds, a, b, c⟩ := h
  unfold cutV
  refine ⟨_, dvAll_take (dvAll_drop a _) _, fun x hx => b x (List.mem_of_mem_drop (List.mem_of_mem_take hx)), ?_⟩
  rw [List.length_take, List.length_drop]
  omega
theorem RwN.cat {K : PySem.W.Frag} {n dp : Nat} {G : Hp} {N M : Nat} {us vs : List V} (h : RwN K n dp G N us) (h2 : RwN K n dp G M vs) : RwN K n dp G (N + M) (us ++ vs) := by
  obtain ⟨ds, a, b, c⟩ := h
  obtain ⟨es, a2, b2, c2⟩ := h2
  refine ⟨_, a.append a2, fun x hx => ?_, by rw [List.length_append]; omega⟩
  rcases List.mem_append.mp hx with hx | hx
  · exact b x hx
  · exact b2 x hx
theorem RwN.rev {K : PySem.W.Frag} {n dp : Nat} {G : Hp} {N : Nat} {us : List V} (h : RwN K n dp G N us) : RwN K n dp G N us.reverse := by
  obtain ⟨ds, a, b, c⟩ := h
  exact ⟨_, dvAll_rev a, fun x hx => b x (List.mem_reverse.mp hx), by rw [List.length_reverse]; exact c⟩
theorem RwN.nil {K : PySem.W.Frag} {n dp : Nat} {G : Hp} : RwN K n dp G 0 [] := ⟨[], .nil, (fun x hx => nomatch hx), Nat.le_refl _⟩
theorem RwN.cons {K : PySem.W.Frag} {n dp : Nat} {G : Hp} {N : Nat} {v : V} {us : List V} (h : Gn K n dp G v) (h2 : RwN K n dp G N us) : RwN K n dp G (N + 1) (v :: us) := by
  obtain ⟨d, a, b⟩ := h
  obtain ⟨ds, a2, b2, c2⟩ := h2
  refine ⟨d :: ds, .cons a a2, fun x hx => ?_, Nat.succ_le_succ c2⟩
  rcases List.mem_cons.mp hx with rfl | hx
  · exact b
  · exact b2 x hx
theorem RwN.of {K : PySem.W.Frag} {n dp : Nat} {G : Hp} : ∀ {us : List V}, (∀ u ∈ us, Gn K n dp G u) → RwN K n dp G us.length us
  | [], _ => .nil
  | u :: us, h => .cons (h u List.mem_cons_self) (RwN.of fun v hv => h v (List.mem_cons_of_mem _ hv))
theorem RwN.tup {K : PySem.W.Frag} {n dp : Nat} {G : Hp} {N : Nat} {us : List V} {p : Addr} (h : RwN K n dp G N us) (e : G p = some (.tup us)) : Gn K (N * (n + 1)) (dp + 1) G (.ref p) := by
  obtain ⟨ds, a, b, c⟩ := h
  exact ⟨_, .tup e a, (Sm.tup b).mono (Nat.mul_le_mul_right _ c) (Nat.le_refl _)⟩
theorem RwN.lst {K : PySem.W.Frag} {n dp : Nat} {G : Hp} {N : Nat} {us : List V} {p : Addr} (h : RwN K n dp G N us) (e : G p = some (.lst us)) : Gn K (N * (n + 1)) (dp + 1) G (.ref p) := by
  obtain ⟨ds, a, b, c⟩ := h
  exact ⟨_, .lst e a, (Sm.lst b).mono (Nat.mul_le_mul_right _ c) (Nat.le_refl _)⟩
theorem Dk.offT {H : Hp} {d : Addr} {c : Addr × Addr} {n : Int} (h : Dk H d c n) {p : Addr} {xs : List V} (e : H p = some (.tup xs)) : Off d c p := by
  obtain ⟨⟨u1, e1⟩, ⟨u2, e2⟩, u3, e3⟩ := h.two
  exact ⟨ne_of e e1 (fun z => by cases z), ne_of e e2 (fun z => by cases z), ne_of e e3 (fun z => by cases z)⟩
def sp_bent (K : PySem.W.Frag) (n dp : Nat) (D : Int) (In : Hp → V → Prop) : Sp := fun vs H Q _ => ∃ (d : Addr) (c : Addr × Addr) (Dl : Addr) (m : Int) (v : V), vs = [.ref d, v, .int D] ∧ Dk H d c m ∧ LsD d c Dl H ∧ 0 ≤ m ∧ m + 4 * (D + 1) < 900000 ∧ In (OffH d c Dl H) v ∧
  ∀ H' v' m', Kp d c H H' → Dk H' d c m' → m ≤ m' → m' ≤ m + 4 * (D + 1) → Gn K n dp (OffH d c Dl H') v' → Q v' H'
/-- a whole number that is not large -/
def In0 (G : Hp) (v : V) : Prop := ∃ i : Int, v = .int i ∧ i.natAbs < 10 ^ 20
theorem at6 {α : Type} {r : Int} (h0 : 0 ≤ r) (h1 : r < 6) (a b e f g h : α) : ∃ v, atI [a, b, e, f, g, h] r = some v ∧ (v = a ∨ v = b ∨ v = e ∨ v = f ∨ v = g ∨ v = h) := by
  have : r = 0 ∨ r = 1 ∨ r = 2 ∨ r = 3 ∨ r = 4 ∨ r = 5 := by omega
  rcases this with rfl | rfl | rfl | rfl | rfl | rfl
  · exact ⟨a, rfl, .inl rfl⟩
  · exact ⟨b, rfl, .inr (.inl rfl)⟩
  · exact ⟨e, rfl, .inr (.inr (.inl rfl))⟩
  · exact ⟨f, rfl, .inr (.inr (.inr (.inl rfl)))⟩
  · exact ⟨g, rfl, .inr (.inr (.inr (.inr (.inl rfl))))⟩
  · exact ⟨h, rfl, .inr (.inr (.inr (.inr (.inr rfl))))⟩
theorem ok_bent0 (T : Tx K mg f_is_number f_is_tuple_of f_contains f_is_rectangle f_law_draws f_law_next f_law_pick f_law_column f_law_board f_law_stretch f_law_any_board f_law_is_int f_law_inside f_law_full f_law_is_rectangle f_law_odd f_law_bent f_law_tried f_law d_is_number d_is_tuple_of d_contains d_is_rectangle d_law_draws d_law_next d_law_pick d_law_column d_law_board d_law_stretch d_law_any_board d_law_is_int d_law_inside d_law_full d_law_is_rectangle d_law_odd d_law_bent d_law_tried d_law) (D : Int) (D0 : 0 ≤ D) (ih : FnOk P w K mg base CX0 3 f_law_bent d_law_bent ["_law_drawn", "_law_value", "_law_depth"] (fun _ _ _ _ => False)) : FnOk P w K mg base CX0 4 f_law_bent d_law_bent ["_law_drawn", "_law_value", "_law_depth"] (sp_bent K 1000 3 D In0) := by
  refine T.F_law_bent.ok sc_law_bent (fun vs H Q E h => ?_) (fun cdv A outer s H vs Q E hr h => ?_)
  · obtain ⟨d, c, Dl, m, v, rfl, _⟩ := h
    rfl
  · obtain ⟨d, c, Dl, m, v, rfl, dk, lD, m0, m1, ⟨i, rfl, hi⟩, q⟩ := h
    refine ⟨_, (pss_cons (ps_if (PW.pt (pw_and (pt_val (pe_callB call_isi (by rfl) T.z_isinstance (by decide +kernel) (pa_cons (pv 1) (pa_cons (pe_bltn (v := .ty "tuple") (u := .type "tuple") (by rfl) T.z_tuple (by decide +kernel) rfl) pa_nil)))) (pw_and (pt_cmpR (show OpR _ (compareOp .NotEq) (rNeE K) from op_neE hr.units0) (pv 1) (pe_tup pa_nil) (nomark _)) (pw_and (pt_cmpR op_gt (pv 2) pe_int (nomark _)) (pw_and1 (pt_cmpR op_gt (pe_call (ok_law_next T) (hr.mono (by omega)) (by rfl) T.g_law_next T.F_law_next.kp T.b_law_next .nil pass0 (pa_cons (pv 0) (pa_cons pe_int pa_nil))) pe_int (nomark _)))))))
      (pss_cons (ps_set (i := 3) sc_law_bent.nd rfl (Or.inl rfl) (pe_call (ok_law_next T) (hr.mono (by omega)) (by rfl) T.g_law_next T.F_law_next.kp T.b_law_next .nil pass0 (pa_cons (pv 0) (pa_cons (pe_callB call_len_seq (by rfl) T.z_len PySem.boot_len (pa_cons (pv 1) pa_nil)) pa_nil))))
      (pss_one (ps_ret (pe_op op_catA (pe_op op_catA (pe_slice sl_tupA (pv 1) po_none (po_some (pv 3))) (pe_tup (pa_cons (pe_call ih (hr.mono (by omega)) (by rfl) T.g_law_bent T.F_law_bent.kp T.b_law_bent .nil pass0 (pa_cons (pv 0) (pa_cons (pe_ix ix_tup (pv 1) (pv 3) (fun _ _ => rfl)) (pa_cons (pe_op op_sub (pv 2) pe_int) pa_nil)))) pa_nil))) (pe_slice sl_tupA (pv 1) (po_some (pe_op op_add (pv 3) pe_int)) po_none)))))
      pss_nil)
      (pss_cons (ps_set (i := 4) sc_law_bent.nd rfl (Or.inl rfl) (pe_call (ok_law_next T) (hr.mono (by omega)) (by rfl) T.g_law_next T.F_law_next.kp T.b_law_next .nil pass0 (pa_cons (pv 0) (pa_cons pe_int pa_nil))))
      (pss_cons (ps_if (PW.pt (pw_and (pt_val (pe_callB call_isi (by rfl) T.z_isinstance (by decide +kernel) (pa_cons (pv 1) (pa_cons (pe_bltn (v := .ty "tuple") (u := .type "tuple") (by rfl) T.z_tuple (by decide +kernel) rfl) pa_nil)))) (pw_and1 (pt_cmpR op_gt (pv 4) pe_int (nomark _)))))
      (pss_cons (ps_set (i := 3) sc_law_bent.nd rfl (Or.inl rfl) (pe_call (ok_law_next T) (hr.mono (by omega)) (by rfl) T.g_law_next T.F_law_next.kp T.b_law_next .nil pass0 (pa_cons (pv 0) (pa_cons (pe_op op_add (pe_callB call_len_seq (by rfl) T.z_len PySem.boot_len (pa_cons (pv 1) pa_nil)) pe_int) pa_nil))))
      (pss_one (ps_ret (pe_ix ix_list (pe_lst (pa_cons (pe_slice sl_tupA (pv 1) (po_some pe_int) po_none) (pa_cons (pe_op op_catA (pe_op op_catA (pe_slice sl_tupA (pv 1) po_none (po_some (pv 3))) (pe_slice sl_tupA (pv 1) po_none (po_some pe_int))) (pe_slice sl_tupA (pv 1) (po_some (pv 3)) po_none)) (pa_cons (pe_callTy call_list_of (by rfl) T.z_list (by decide +kernel) (pa_cons (pv 1) pa_nil)) (pa_cons (pe_revT (pv 1)) (pa_cons (pe_slice sl_tupA (pv 1) po_none (po_some (pe_un un_neg pe_int))) (pa_cons (pe_tup pa_nil) pa_nil))))))) (pe_op op_sub (pv 4) pe_int) (fun _ _ => rfl)))))
      pss_nil)
      (pss_cons (ps_if (PW.pt (pw_and (pt_val (pe_callB call_isi (by rfl) T.z_isinstance (by decide +kernel) (pa_cons (pv 1) (pa_cons (pe_bltn (v := .ty "int") (u := .type "int") (by rfl) T.z_int (by decide +kernel) rfl) pa_nil)))) (pw_and (pt_not (pt_val (pe_callB call_isi (by rfl) T.z_isinstance (by decide +kernel) (pa_cons (pv 1) (pa_cons (pe_bltn (v := .ty "bool") (u := .type "bool") (by rfl) T.z_bool (by decide +kernel) rfl) pa_nil))))) (pw_and1 (pt_cmpR op_gt (pv 4) pe_int (nomark _))))))
      (pss_one (ps_ret (pe_ix ix_list (pe_lst (pa_cons (pe_op op_add (pv 1) pe_int) (pa_cons (pe_op op_sub (pv 1) pe_int) (pa_cons (pe_cmpR op_eq (pv 1) pe_int (nomark _)) (pa_cons (pe_callTy call_str_int (by rfl) T.z_str (by decide +kernel) (pa_cons (pv 1) pa_nil)) (pa_cons (pe_op op_add (pv 1) (pe_op op_pow pe_int pe_int)) (pa_cons pe_int pa_nil))))))) (pe_op op_sub (pv 4) pe_int) (fun _ _ => rfl))))
      pss_nil)
      (pss_one (ps_ret (pe_call (ok_law_odd T) (hr.mono (by omega)) (by rfl) T.g_law_odd T.F_law_odd.kp T.b_law_odd .nil pass0 (pa_cons (pv 0) pa_nil)))))))), ?_⟩
    refine ⟨.int i, rfl, .int i, .ty "tuple", _, _, _, rfl, .ty "tuple", .base (.int i), kit_ty (a := "int") (b := "tuple") (r := false) (by decide +kernel), _, rfl, iteF ?_⟩
    refine ⟨.ref d, rfl, d, c, m, 7, rfl, dk, m0, by omega, by decide, by decide, fun H1 r kp1 dk1 r0 r1 => ?_⟩
    refine ⟨.int i, rfl, .int i, .ty "tuple", _, _, _, rfl, .ty "tuple", .base (.int i), kit_ty (a := "int") (b := "tuple") (r := false) (by decide +kernel), _, rfl, iteF ?_⟩
    refine ⟨.int i, rfl, .int i, .ty "int", _, _, _, rfl, .ty "int", .base (.int i), kit_ty (a := "int") (b := "int") (r := true) (by decide +kernel), _, rfl, iteT ?_⟩
    refine ⟨.int i, rfl, .int i, .ty "bool", _, _, _, rfl, .ty "bool", .base (.int i), kit_ty (a := "int") (b := "bool") (r := false) (by decide +kernel), _, rfl, iteT ?_⟩
    refine ⟨.int r, rfl, _, _, rfl, rfl, _, rfl, ite2 (fun cc => ?_) (fun cc => ?_)⟩
    · have cc := of_decide_eq_true cc
      have l2 : i.natAbs.log2 < 1920 := Nat.lt_trans (log2_small (i := i) (by omega)) (by decide)
      have p12 : (10 : Int) ^ (12 : Int).toNat = 1000000000000 := by decide
      refine ⟨.int i, rfl, _, _, rfl, rfl, .int i, rfl, _, _, rfl, rfl, .int i, rfl, rfl, .int i, rfl, i, rfl, l2, .int i, rfl, 10, 12, rfl, rfl, ⟨by decide, by decide, by decide⟩, _, _, rfl, rfl, by show 6 ≤ sizeLine; decide, fun l nl => ?_⟩
      have sl := same_new (o := .lst [.int (i + 1), .int (i - 1), .bl (decide (V.int i = V.int 1)), .str (toString i), .int (i + (10 : Int) ^ (12 : Int).toNat), .int 0]) nl
      obtain ⟨v, ev, hv⟩ := at6 (r := r - 1) (by omega) (by omega) (V.int (i + 1)) (.int (i - 1)) (.bl (decide (V.int i = V.int 1))) (.str (toString i)) (.int (i + (10 : Int) ^ (12 : Int).toNat)) (.int 0)
      refine ⟨.int r, rfl, _, _, rfl, rfl, l, _, r - 1, v, rfl, rfl, SqL.of upd_same, ev, ?_⟩
      refine q _ v (m + 1) (kp1.trans (Kp.same sl)) (dk1.kept sl) (by omega) (by omega) ?_
      rcases hv with rfl | rfl | rfl | rfl | rfl | rfl
      · exact ⟨_, .int _, (Sm.int (by omega)).mono (by decide) (by decide)⟩
      · exact ⟨_, .int _, (Sm.int (by omega)).mono (by decide) (by decide)⟩
      · exact ⟨_, .bl _, (Sm.bool _).mono (by decide) (by decide)⟩
      · exact ⟨_, .str _, (sm_istr (by omega)).mono (by decide) (by decide)⟩
      · exact ⟨_, .int _, (Sm.int (by omega)).mono (by decide) (by decide)⟩
      · exact ⟨_, .int _, (Sm.int (by decide)).mono (by decide) (by decide)⟩
    · refine ⟨.ref d, rfl, d, c, Dl, m + 1, rfl, dk1, lD.kp kp1, by omega, by omega, fun H2 v kp2 dk2 g => ?_⟩
      exact q _ v _ (kp1.trans kp2) dk2 (by omega) (by omega) g
def InS (In : Hp → V → Prop) (G : Hp) (v : V) : Prop := v = .non ∨ ∃ (a : Addr) (us : List V), v = .ref a ∧ G a = some (.tup us) ∧ us.length ≤ 9 ∧ 0 < us.length ∧ ∀ u ∈ us, In G u
theorem ok_bentS (T : Tx K mg f_is_number f_is_tuple_of f_contains f_is_rectangle f_law_draws f_law_next f_law_pick f_law_column f_law_board f_law_stretch f_law_any_board f_law_is_int f_law_inside f_law_full f_law_is_rectangle f_law_odd f_law_bent f_law_tried f_law d_is_number d_is_tuple_of d_contains d_is_rectangle d_law_draws d_law_next d_law_pick d_law_column d_law_board d_law_stretch d_law_any_board d_law_is_int d_law_inside d_law_full d_law_is_rectangle d_law_odd d_law_bent d_law_tried d_law) (n dp lv : Nat) (D : Int) (In : Hp → V → Prop) (hn : 1000 ≤ n) (hdp : 3 ≤ dp) (lv4 : 4 ≤ lv) (D0 : 0 ≤ D ∧ D < 10) (mono : ∀ G G' v, Same G G' → In G v → In G' v) (sub : ∀ G v, In G v → Gn K n dp G v)
    (ih : FnOk P w K mg base CX0 lv f_law_bent d_law_bent ["_law_drawn", "_law_value", "_law_depth"] (sp_bent K n dp D In)) : FnOk P w K mg base CX0 (lv + 1) f_law_bent d_law_bent ["_law_drawn", "_law_value", "_law_depth"] (sp_bent K (11 * (n + 1)) (dp + 1) (D + 1) (InS In)) := by
  refine T.F_law_bent.ok sc_law_bent (fun vs H Q E h => ?_) (fun cdv A outer s H vs Q E hr h => ?_)
  · obtain ⟨d, c, Dl, m, v, rfl, _⟩ := h
    rfl
  · obtain ⟨d, c, Dl, m, v, rfl, dk, lD, m0, m1, hin, q⟩ := h
    refine ⟨_, (pss_cons (ps_if (PW.pt (pw_and (pt_val (pe_callB call_isi (by rfl) T.z_isinstance (by decide +kernel) (pa_cons (pv 1) (pa_cons (pe_bltn (v := .ty "tuple") (u := .type "tuple") (by rfl) T.z_tuple (by decide +kernel) rfl) pa_nil)))) (pw_and (pt_cmpR (show OpR _ (compareOp .NotEq) (rNeE K) from op_neE hr.units0) (pv 1) (pe_tup pa_nil) (nomark _)) (pw_and (pt_cmpR op_gt (pv 2) pe_int (nomark _)) (pw_and1 (pt_cmpR op_gt (pe_call (ok_law_next T) (hr.mono (by omega)) (by rfl) T.g_law_next T.F_law_next.kp T.b_law_next .nil pass0 (pa_cons (pv 0) (pa_cons pe_int pa_nil))) pe_int (nomark _)))))))
      (pss_cons (ps_set (i := 3) sc_law_bent.nd rfl (Or.inl rfl) (pe_call (ok_law_next T) (hr.mono (by omega)) (by rfl) T.g_law_next T.F_law_next.kp T.b_law_next .nil pass0 (pa_cons (pv 0) (pa_cons (pe_callB call_len_seq (by rfl) T.z_len PySem.boot_len (pa_cons (pv 1) pa_nil)) pa_nil))))
      (pss_one (ps_ret (pe_op op_catA (pe_op op_catA (pe_slice sl_tupA (pv 1) po_none (po_some (pv 3))) (pe_tup (pa_cons (pe_call ih (hr.mono (by omega)) (by rfl) T.g_law_bent T.F_law_bent.kp T.b_law_bent .nil pass0 (pa_cons (pv 0) (pa_cons (pe_ix ix_tup (pv 1) (pv 3) (fun _ _ => rfl)) (pa_cons (pe_op op_sub (pv 2) pe_int) pa_nil)))) pa_nil))) (pe_slice sl_tupA (pv 1) (po_some (pe_op op_add (pv 3) pe_int)) po_none)))))
      pss_nil)
      (pss_cons (ps_set (i := 4) sc_law_bent.nd rfl (Or.inl rfl) (pe_call (ok_law_next T) (hr.mono (by omega)) (by rfl) T.g_law_next T.F_law_next.kp T.b_law_next .nil pass0 (pa_cons (pv 0) (pa_cons pe_int pa_nil))))
      (pss_cons (ps_if (PW.pt (pw_and (pt_val (pe_callB call_isi (by rfl) T.z_isinstance (by decide +kernel) (pa_cons (pv 1) (pa_cons (pe_bltn (v := .ty "tuple") (u := .type "tuple") (by rfl) T.z_tuple (by decide +kernel) rfl) pa_nil)))) (pw_and1 (pt_cmpR op_gt (pv 4) pe_int (nomark _)))))
      (pss_cons (ps_set (i := 3) sc_law_bent.nd rfl (Or.inl rfl) (pe_call (ok_law_next T) (hr.mono (by omega)) (by rfl) T.g_law_next T.F_law_next.kp T.b_law_next .nil pass0 (pa_cons (pv 0) (pa_cons (pe_op op_add (pe_callB call_len_seq (by rfl) T.z_len PySem.boot_len (pa_cons (pv 1) pa_nil)) pe_int) pa_nil))))
      (pss_one (ps_ret (pe_ix ix_list (pe_lst (pa_cons (pe_slice sl_tupA (pv 1) (po_some pe_int) po_none) (pa_cons (pe_op op_catA (pe_op op_catA (pe_slice sl_tupA (pv 1) po_none (po_some (pv 3))) (pe_slice sl_tupA (pv 1) po_none (po_some pe_int))) (pe_slice sl_tupA (pv 1) (po_some (pv 3)) po_none)) (pa_cons (pe_callTy call_list_of (by rfl) T.z_list (by decide +kernel) (pa_cons (pv 1) pa_nil)) (pa_cons (pe_revT (pv 1)) (pa_cons (pe_slice sl_tupA (pv 1) po_none (po_some (pe_un un_neg pe_int))) (pa_cons (pe_tup pa_nil) pa_nil))))))) (pe_op op_sub (pv 4) pe_int) (fun _ _ => rfl)))))
      pss_nil)
      (pss_cons (ps_if (PW.pt (pw_and (pt_val (pe_callB call_isi (by rfl) T.z_isinstance (by decide +kernel) (pa_cons (pv 1) (pa_cons (pe_bltn (v := .ty "int") (u := .type "int") (by rfl) T.z_int (by decide +kernel) rfl) pa_nil)))) (pw_and (pt_not (pt_val (pe_callB call_isi (by rfl) T.z_isinstance (by decide +kernel) (pa_cons (pv 1) (pa_cons (pe_bltn (v := .ty "bool") (u := .type "bool") (by rfl) T.z_bool (by decide +kernel) rfl) pa_nil))))) (pw_and1 (pt_cmpR op_gt (pv 4) pe_int (nomark _))))))
      (pss_one (ps_ret (pe_ix ix_list (pe_lst (pa_cons (pe_op op_add (pv 1) pe_int) (pa_cons (pe_op op_sub (pv 1) pe_int) (pa_cons (pe_cmpR op_eq (pv 1) pe_int (nomark _)) (pa_cons (pe_callTy call_str_int (by rfl) T.z_str (by decide +kernel) (pa_cons (pv 1) pa_nil)) (pa_cons (pe_op op_add (pv 1) (pe_op op_pow pe_int pe_int)) (pa_cons pe_int pa_nil))))))) (pe_op op_sub (pv 4) pe_int) (fun _ _ => rfl))))
      pss_nil)
      (pss_one (ps_ret (pe_call (ok_law_odd T) (hr.mono (by omega)) (by rfl) T.g_law_odd T.F_law_odd.kp T.b_law_odd .nil pass0 (pa_cons (pv 0) pa_nil)))))))), ?_⟩
    have odd : ∀ H1 (m2 : Int), Kp d c H H1 → Dk H1 d c m2 → m ≤ m2 → m2 ≤ m + 4 → sp_law_odd K [.ref d] H1 Q E0 := fun H1 m2 kp1 dk1 b0 b1 => by
      refine ⟨d, c, Dl, m2, rfl, dk1, lD.kp kp1, by omega, by omega, fun H2 v kp2 dk2 g => ?_⟩
      exact q _ v _ (kp1.trans kp2) dk2 (by omega) (by omega) (g.mono (by omega) (by omega))
    rcases hin with rfl | ⟨a, us, rfl, ha, l9, l0, hus⟩
    · -- None
      refine ⟨.non, rfl, .non, .ty "tuple", _, _, _, rfl, .ty "tuple", .base .non, kit_ty (a := "NoneType") (b := "tuple") (r := false) (by decide +kernel), _, rfl, iteF ?_⟩
      refine ⟨.ref d, rfl, d, c, m, 7, rfl, dk, m0, by omega, by decide, by decide, fun H1 r kp1 dk1 r0 r1 => ?_⟩
      refine ⟨.non, rfl, .non, .ty "tuple", _, _, _, rfl, .ty "tuple", .base .non, kit_ty (a := "NoneType") (b := "tuple") (r := false) (by decide +kernel), _, rfl, iteF ?_⟩
      refine ⟨.non, rfl, .non, .ty "int", _, _, _, rfl, .ty "int", .base .non, kit_ty (a := "NoneType") (b := "int") (r := false) (by decide +kernel), _, rfl, iteF ?_⟩
      exact ⟨.ref d, rfl, odd H1 _ kp1 dk1 (by omega) (by omega)⟩
    · -- a tuple
      have aH := (offH_at ha).2.2.2
      have offa := dk.offT aH
      have rowH : RwN K n dp (OffH d c Dl H) us.length us := RwN.of fun u hu => sub _ _ (hus u hu)
      have tyT : ∀ H', H' a = some (.tup us) → TyX K H' (.ref a) (.type "tuple") := fun H' e => .base (.tup e)
      have big : sizeLine = 16777216 := by decide
      have cl : ∀ lo hi, (cutV us lo hi).length ≤ 9 := fun lo hi => Nat.le_trans (rowH.cut lo hi).len l9
      refine ⟨.ref a, rfl, .ref a, .ty "tuple", _, _, _, rfl, .ty "tuple", tyT H aH, kit_ty (a := "tuple") (b := "tuple") (r := true) (by decide +kernel), _, rfl, iteT ?_⟩
      refine ⟨.ref a, rfl, by show 0 ≤ sizeLine; decide, fun e0 ne0 => ?_⟩
      have s1 := same_new (o := .tup []) ne0
      have ee0 := upd_same (H := H) (a := e0) (o := .tup [])
      generalize upd H e0 (.tup []) = H1 at *
      have dk1 := dk.kept s1
      have a1 := s1 _ _ aH
      refine ⟨a, e0, us, rfl, rfl, SqT.of a1, SqT.of ee0, _, rfl, ?_⟩
      have ne : (!us.isEmpty) = true := by
        cases us with
        | nil => cases l0
        | cons _ _ => rfl
      rw [ne]
      refine iteT ⟨.int (D + 1), rfl, _, _, rfl, rfl, _, rfl, ite2 (fun _ => ?_) (fun cc => absurd (decide_eq_true (by omega)) cc)⟩
      refine ⟨.ref d, rfl, d, c, m, 5, rfl, dk1, m0, by omega, by decide, by decide, fun H2 r kp2 dk2 r0 r1 => ?_⟩
      have kpH2 : Kp d c H H2 := (Kp.same s1).trans kp2
      have a2 := kp2.tup dk1 a1
      refine ⟨_, _, rfl, rfl, _, rfl, ite2 (fun _ => ?_) (fun _ => ?_)⟩
      · -- an item is bent
        refine ⟨.ref d, rfl, .ref a, rfl, a, us, rfl, .inr (SqT.of a2), d, c, m + 1, (us.length : Int), rfl, dk2, by omega, by omega, by omega, by omega, fun H3 at1 kp3 dk3 b0 b1 => ?_⟩
        obtain ⟨j, rfl⟩ : ∃ j : Nat, at1 = j := ⟨at1.toNat, by omega⟩
        have jl : j < us.length := by omega
        have ej : us[j]? = some us[j] := List.getElem?_eq_getElem jl
        have mj := List.getElem_mem jl
        generalize us[j] = u at *
        have a3 := kp3.tup dk2 a2
        refine ⟨.ref a, rfl, .int j, rfl, (j : Int), rfl, slA_any a3 (fun H4 p4 s4 ep4 => ?_)⟩
        have kpH4 : Kp d c H H4 := kpH2.trans (kp3.trans (Kp.same s4))
        have dk4 := dk3.kept s4
        have a4 := s4 _ _ a3
        refine ⟨.ref d, rfl, .ref a, rfl, .int j, rfl, a, us, (j : Int), u, rfl, rfl, SqT.of a4, atI_nat ej, .int (D + 1), rfl, _, _, rfl, rfl, ?_⟩
        refine ⟨d, c, Dl, m + 1 + 1, u, by show [V.ref d, u, V.int (D + 1 - 1)] = _; rw [show D + 1 - 1 = D by omega], dk4, lD.kp kpH4, by omega, by omega, mono _ _ _ (offH_kp kpH4) (hus u mj), fun H5 v5 m5 kp5 dk5 q0 q1 g5 => ?_⟩
        refine ⟨by show 1 ≤ sizeLine; decide, fun t nt => ?_⟩
        have off5 := dk5.off nt
        have s6 := same_new (o := .tup [v5]) nt
        have et := upd_same (H := H5) (a := t) (o := .tup [v5])
        generalize upd H5 t (.tup [v5]) = H6 at *
        have t46 : Tps H4 H6 := (kp5.tps dk4).trans (Tps.same s6)
        have c1 := cl none (some (j : Int))
        have c2 := cl (some ((j : Int) + 1)) none
        refine catA_any (t46 _ _ ep4) et (by rw [big]; show _ + 1 ≤ _; omega) (fun H7 p7 s7 ep7 => ?_)
        have a7 := (t46.trans (Tps.same s7)) _ _ a4
        refine ⟨.ref a, rfl, .int j, rfl, _, _, rfl, rfl, (j : Int) + 1, rfl, ?_⟩
        refine noPart_of ?_
        refine slA_any a7 (fun H8 p8 s8 ep8 => ?_)
        refine catA_any (s8 _ _ ep7) ep8 (by rw [big, List.length_append]; show _ + 1 + _ ≤ _; omega) (fun H9 p9 s9 ep9 => ?_)
        have s69 := s6.trans (s7.trans (s8.trans s9))
        have kpH9 : Kp d c H H9 := kpH4.trans (kp5.trans (Kp.same s69))
        have dk9 := dk5.kept s69
        have off9 := dk9.offT ep9
        have rw9 := rowH.same (offH_kp kpH9)
        have g9 := g5.same (offH_kp (Kp.same s69))
        have row := ((rw9.cut none (some (j : Int))).cat (RwN.cons g9 .nil)).cat (rw9.cut (some ((j : Int) + 1)) none)
        have len9 : (cutV us none (some (j : Int)) ++ [v5] ++ cutV us (some ((j : Int) + 1)) none).length ≤ 11 := by
          rw [cutTo, show ((j : Int) + 1) = ((j + 1 : Nat) : Int) by omega, cutFrom, List.length_append, List.length_append, List.length_take, List.length_drop]
          show min j us.length + 1 + _ ≤ 11
          omega
        refine q H9 _ m5 kpH9 dk9 (by omega) (by omega) ?_
        exact (row.up len9).tup (offH_get off9 ((lD.kp kpH9).tup ep9) ep9)
      · -- the whole is bent
        refine ⟨.ref d, rfl, d, c, m + 1, 7, rfl, dk2, by omega, by omega, by decide, by decide, fun H3 wy kp3 dk3 y0 y1 => ?_⟩
        have kpH3 := kpH2.trans kp3
        have a3 := kp3.tup dk2 a2
        refine ⟨.ref a, rfl, .ref a, .ty "tuple", _, _, _, rfl, .ty "tuple", tyT H3 a3, kit_ty (a := "tuple") (b := "tuple") (r := true) (by decide +kernel), _, rfl, iteT ?_⟩
        refine ⟨.int wy, rfl, _, _, rfl, rfl, _, rfl, ite2 (fun cc => ?_) (fun _ => ?_)⟩
        · have cc := of_decide_eq_true cc
          refine ⟨.ref d, rfl, .ref a, rfl, a, us, rfl, .inr (SqT.of a3), _, _, rfl, rfl, d, c, m + 1 + 1, (us.length : Int) + 1, rfl, dk3, by omega, by omega, by omega, by omega, fun H4 at1 kp4 dk4 b0 b1 => ?_⟩
          obtain ⟨j, rfl⟩ : ∃ j : Nat, at1 = j := ⟨at1.toNat, by omega⟩
          have kpH4 := kpH3.trans kp4
          have a4 := kp4.tup dk3 a3
          have c1 := cl none (some (j : Int))
          have c2 := cl none (some 1)
          have c3 := cl (some (j : Int)) none
          refine ⟨.ref a, rfl, 1, rfl, ?_⟩
          refine noPart_of ?_
          refine slA_any a4 (fun H5 q1 s5 e5 => ?_)
          refine ⟨.ref a, rfl, .int j, rfl, (j : Int), rfl, slA_any (s5 _ _ a4) (fun H6 q2 s6 e6 => ?_)⟩
          have s46 := s5.trans s6
          refine ⟨.ref a, rfl, 1, rfl, slA_any (s46 _ _ a4) (fun H7 q3 s7 e7 => ?_)⟩
          refine catA_any (s7 _ _ e6) e7 (by rw [big]; omega) (fun H8 q4 s8 e8 => ?_)
          have s48 := s46.trans (s7.trans s8)
          refine ⟨.ref a, rfl, .int j, rfl, (j : Int), rfl, ?_⟩
          refine noPart_of ?_
          refine slA_any (s48 _ _ a4) (fun H9 q5 s9 e9 => ?_)
          refine catA_any (s9 _ _ e8) e9 (by rw [big, List.length_append]; omega) (fun H10 q6 s10 e10 => ?_)
          have s410 := s48.trans (s9.trans s10)
          refine ⟨.ref a, rfl, a, us, rfl, .inr (SqT.of (s410 _ _ a4)), fun q7 n7 => ?_⟩
          have s11 := same_new (o := .lst us) n7
          have e11 := upd_same (H := H10) (a := q7) (o := .lst us)
          generalize upd H10 q7 (.lst us) = H11 at *
          have s411 := s410.trans s11
          refine ⟨.ref a, rfl, a, us, rfl, SqT.of (s411 _ _ a4), fun q8 n8 => ?_⟩
          have s12 := same_new (o := .tup us.reverse) n8
          have e12 := upd_same (H := H11) (a := q8) (o := .tup us.reverse)
          generalize upd H11 q8 (.tup us.reverse) = H12 at *
          have s412 := s411.trans s12
          refine ⟨.ref a, rfl, 1, rfl, -1, rfl, slA_any (s412 _ _ a4) (fun H13 q9 s13 e13 => ?_)⟩
          refine ⟨by show 0 ≤ sizeLine; decide, fun q10 n10 => ?_⟩
          have s14 := same_new (o := .tup []) n10
          have e14 := upd_same (H := H13) (a := q10) (o := .tup [])
          generalize upd H13 q10 (.tup []) = H14 at *
          refine ⟨by show 6 ≤ sizeLine; decide, fun l nl => ?_⟩
          have s15 := same_new (o := .lst [.ref q1, .ref q6, .ref q7, .ref q8, .ref q9, .ref q10]) nl
          have s414 := s412.trans (s13.trans s14)
          have s415 := s414.trans s15
          have kpH := kpH4.trans (Kp.same s415)
          have dk15 := dk4.kept s415
          have rwF := rowH.same (offH_kp kpH)
          obtain ⟨v, ev, hv⟩ := at6 (r := wy - 1) (by omega) (by omega) (V.ref q1) (.ref q6) (.ref q7) (.ref q8) (.ref q9) (.ref q10)
          refine ⟨.int wy, rfl, _, _, rfl, rfl, l, _, wy - 1, v, rfl, rfl, SqL.of upd_same, ev, ?_⟩
          refine q _ v (m + 1 + 1 + 1) kpH dk15 (by omega) (by omega) ?_
          have tupG : ∀ {x : Addr} {vs : List V} {N : Nat}, upd H14 l (.lst [.ref q1, .ref q6, .ref q7, .ref q8, .ref q9, .ref q10]) x = some (.tup vs) → RwN K n dp (OffH d c Dl (upd H14 l (.lst [.ref q1, .ref q6, .ref q7, .ref q8, .ref q9, .ref q10]))) N vs → vs.length ≤ 11 → Gn K (11 * (n + 1)) (dp + 1) (OffH d c Dl (upd H14 l (.lst [.ref q1, .ref q6, .ref q7, .ref q8, .ref q9, .ref q10]))) (.ref x) := fun e rr k => (rr.up k).tup (offH_get (dk15.offT e) ((lD.kp kpH).tup e) e)
          have s1015 := s11.trans (s12.trans (s13.trans (s14.trans s15)))
          rcases hv with rfl | rfl | rfl | rfl | rfl | rfl
          · exact tupG ((s6.trans (s7.trans (s8.trans (s9.trans (s10.trans s1015))))) _ _ e5) (rwF.cut _ _) (Nat.le_trans (cl _ _) (by decide))
          · refine tupG (s1015 _ _ e10) (((rwF.cut _ _).cat (rwF.cut _ _)).cat (rwF.cut _ _)) ?_
            rw [cutTo, show (1 : Int) = ((1 : Nat) : Int) from rfl, cutTo, cutFrom, List.length_append, List.length_append, List.length_take, List.length_take, List.length_drop]
            omega
          · have e := (s12.trans (s13.trans (s14.trans s15))) _ _ e11
            exact (rwF.up (show us.length ≤ 11 by omega)).lst (offH_get (((dk4.kept s410).off n7)) ((lD.kp (kpH4.trans (Kp.same s410))).new n7) e)
          · exact tupG ((s13.trans (s14.trans s15)) _ _ e12) rwF.rev (by rw [List.length_reverse]; omega)
          · exact tupG ((s14.trans s15) _ _ e13) (rwF.cut _ _) (Nat.le_trans (cl _ _) (by decide))
          · exact tupG (s15 _ _ e14) .nil (by decide)
        · refine ⟨.ref a, rfl, .ref a, .ty "int", _, _, _, rfl, .ty "int", tyT H3 a3, kit_ty (a := "tuple") (b := "int") (r := false) (by decide +kernel), _, rfl, iteF ?_⟩
          exact ⟨.ref d, rfl, odd H3 _ kpH3 dk3 (by omega) (by omega)⟩

/-! ### the bent values of a board -/
theorem in0_mono {G G' : Hp} {v : V} (_ : Same G G') (h : In0 G v) : In0 G' v := h
theorem in0_sub {K : PySem.W.Frag} {G : Hp} {v : V} (h : In0 G v) : Gn K 1000 3 G v := by
  obtain ⟨i, rfl, hi⟩ := h
  exact ⟨_, .int i, (Sm.int (by omega)).mono (by decide) (by decide)⟩
theorem inS_mono {In : Hp → V → Prop} (m : ∀ G G' v, Same G G' → In G v → In G' v) {G G' : Hp} {v : V} (s : Same G G') (h : InS In G v) : InS In G' v := by
  rcases h with h | ⟨a, us, e, ha, l9, l0, all⟩
  · exact .inl h
  · exact .inr ⟨a, us, e, s _ _ ha, l9, l0, fun u hu => m _ _ _ s (all u hu)⟩
theorem inS_sub {K : PySem.W.Frag} {n dp : Nat} {In : Hp → V → Prop} (sub : ∀ G v, In G v → Gn K n dp G v) {G : Hp} {v : V} (h : InS In G v) : Gn K (11 * (n + 1)) (dp + 1) G v := by
  rcases h with rfl | ⟨a, us, rfl, ha, l9, l0, all⟩
  · exact ⟨_, .non, Sm.none.mono (Nat.zero_le _) (Nat.zero_le _)⟩
  · exact ((RwN.of fun u hu => sub _ _ (all u hu)).up (by omega)).tup ha
theorem col_big : ((10 : Nat) ^ 20) = 100000000000000000000 := by decide
/-- a drawn board's columns, seen without the deck -/
theorem col_in {d : Addr} {c : Addr × Addr} {D : Addr} {n : Int} {H : Hp} (dk : Dk H d c n) (lD : LsD d c D H) {v : V} {o : Option (Int × Int)} (ov : OV H v o) (ok : ColOk 1000000000001 o) : InS In0 (OffH d c D H) v := by
  match o, ov, ok with
  | none, ov, _ => exact .inl ov
  | some (x, y), ⟨t, e, ht⟩, ok =>
    have ok : 0 ≤ x ∧ x ≤ y ∧ y < 1000000000001 := ok
    refine .inr ⟨t, _, e, offH_get (dk.offT ht) (lD.tup ht) ht, by show 2 ≤ 9; decide, by show 0 < 2; decide, fun u hu => ?_⟩
    have b20 := col_big
    simp only [List.mem_cons, List.not_mem_nil, or_false] at hu
    rcases hu with rfl | rfl
    · exact ⟨x, rfl, by omega⟩
    · exact ⟨y, rfl, by omega⟩
theorem cols_in {d : Addr} {c : Addr × Addr} {D : Addr} {n : Int} {H : Hp} (dk : Dk H d c n) (lD : LsD d c D H) {us : List V} {bs : List (Option (Int × Int))} (ovs : OVs H us bs) (ok : ∀ o ∈ bs, ColOk 1000000000001 o) : ∀ u ∈ us, InS In0 (OffH d c D H) u := by
  intro u hu
  obtain ⟨i, hi, rfl⟩ := List.getElem_of_mem hu
  obtain ⟨o, eo, ov⟩ := ovs.2 i _ (List.getElem?_eq_getElem hi)
  exact col_in dk lD ov (ok o (List.mem_of_getElem? eo))
/-- a row of columns is small data -/
theorem row_gn {K : PySem.W.Frag} {d : Addr} {c : Addr × Addr} {D : Addr} {H : Hp} {us : List V} (h : ∀ u ∈ us, InS In0 (OffH d c D H) u) (l : us.length ≤ 11) {p : Addr} (e : OffH d c D H p = some (.tup us)) : Gn K 121132 5 (OffH d c D H) (.ref p) :=
  (((RwN.of fun u hu => inS_sub (fun _ _ h => in0_sub h) (h u hu)).up l).tup e)

abbrev InB : Hp → V → Prop := InS In0
theorem ok_law_bent (T : Tx K mg f_is_number f_is_tuple_of f_contains f_is_rectangle f_law_draws f_law_next f_law_pick f_law_column f_law_board f_law_stretch f_law_any_board f_law_is_int f_law_inside f_law_full f_law_is_rectangle f_law_odd f_law_bent f_law_tried f_law d_is_number d_is_tuple_of d_contains d_is_rectangle d_law_draws d_law_next d_law_pick d_law_column d_law_board d_law_stretch d_law_any_board d_law_is_int d_law_inside d_law_full d_law_is_rectangle d_law_odd d_law_bent d_law_tried d_law) : FnOk P w K mg base CX0 5 f_law_bent d_law_bent ["_law_drawn", "_law_value", "_law_depth"] (sp_bent K 11011 4 2 InB) :=
  ok_bentS T 1000 3 4 1 In0 (by decide) (by decide) (by decide) (by decide) (fun _ _ _ _ h => h) (fun _ _ h => in0_sub h)
    (ok_bent0 T 1 (by decide) ⟨fun _ _ _ _ h => h.elim, fun _ _ _ _ _ _ _ _ _ _ _ _ _ h => h.elim⟩)
/-! ### is it a rectangle of the board -/
def RectD (bs : List (Option (Int × Int))) (d : PyData) : Prop := ∃ l r b t : Int, d = .tuple [.int l, .int r, .int b, .int t] ∧ 0 ≤ l ∧ l ≤ r ∧ r < bs.length ∧ b ≤ t ∧ RectP bs l r b t
theorem tl_four {d : PyData} (h : tlB 4 d = true) : ∃ d1 d2 d3 d4, d = .tuple [d1, d2, d3, d4] := by
  cases d with
  | tuple ds =>
    have h' : (ds.length : Int) = 4 := of_decide_eq_true (show decide ((ds.length : Int) = 4) = true from h)
    match ds, h' with
    | [d1, d2, d3, d4], _ => exact ⟨d1, d2, d3, d4, rfl⟩
    | [], h' => simp at h'
    | [_], h' => simp at h'
    | [_, _], h' => simp at h'
    | [_, _, _], h' => simp at h'
    | _ :: _ :: _ :: _ :: _ :: _, h' => simp at h'; omega
  | _ => cases h
theorem dvAll_four {K : PySem.W.Frag} {H : Hp} {xs : List V} {d1 d2 d3 d4 : PyData} (h : DvAll K H xs [d1, d2, d3, d4]) : ∃ v1 v2 v3 v4, xs = [v1, v2, v3, v4] ∧ Dv K H v1 d1 ∧ Dv K H v2 d2 ∧ Dv K H v3 d3 ∧ Dv K H v4 d4 := by
  cases h with
  | cons h1 h =>
  cases h with
  | cons h2 h =>
  cases h with
  | cons h3 h =>
  cases h with
  | cons h4 h =>
  cases h
  exact ⟨_, _, _, _, rfl, h1, h2, h3, h4⟩
def numB (d : PyData) : Bool := intB d && !boolB d
def sp_is_rectangle (K : PySem.W.Frag) : Sp := fun vs H Q _ => ∃ (a : Addr) (us : List V) (bs : List (Option (Int × Int))) (v : V) (d : PyData), vs = [.ref a, v] ∧ H a = some (.tup us) ∧ OVs H us bs ∧ bs.length < 100 ∧ Dv K H v d ∧
  ∀ H' k, Same H H' → (k = true ↔ RectD bs d) → Q (.bl k) H'
theorem ok_is_rectangle (T : Tx K mg f_is_number f_is_tuple_of f_contains f_is_rectangle f_law_draws f_law_next f_law_pick f_law_column f_law_board f_law_stretch f_law_any_board f_law_is_int f_law_inside f_law_full f_law_is_rectangle f_law_odd f_law_bent f_law_tried f_law d_is_number d_is_tuple_of d_contains d_is_rectangle d_law_draws d_law_next d_law_pick d_law_column d_law_board d_law_stretch d_law_any_board d_law_is_int d_law_inside d_law_full d_law_is_rectangle d_law_odd d_law_bent d_law_tried d_law) : FnOk P w K mg base CX0 2 f_is_rectangle d_is_rectangle ["board", "value"] (sp_is_rectangle K) := by
  refine T.F_is_rectangle.ok sc_is_rectangle (fun vs H Q E h => ?_) (fun cdv A outer s H vs Q E hr h => ?_)
  · obtain ⟨a, us, bs, v, d, rfl, _⟩ := h
    rfl
  · obtain ⟨a, us, bs, v, d, rfl, ha, ovs, few, hd, q⟩ := h
    refine ⟨_, (pss_cons (ps_if (PW.pt (pw_or (pt_not (pt_val (pe_call (ok_is_tuple_of T) (hr.mono (by decide)) (by rfl) T.g_is_tuple_of T.F_is_tuple_of.kp T.b_is_tuple_of .nil pass0 (pa_cons (pv 1) (pa_cons pe_int pa_nil))))) (pw_or1 (pt_not (pt_val (pe_callB (cr_all rfl) (by rfl) T.z_all (by decide +kernel) (pa_cons (pe_lc (own := [("item", 2)]) (g := (gName 2)) (tt := tYes) (by rfl) sc_is_rectangle.nd (pi_tup (pv 1)) (blkOk_by (own := [("item", 2)]) (N := N_is_rectangle) (sc := defScope s_is_rectangle) (by decide +kernel)) (fun _ _ _ _ _ => (pg_name (i := 2) sc_is_rectangle.nd rfl (Or.inl rfl))) (fun _ _ _ _ _ => pts_nil) (fun _ _ _ _ _ => (pe_call (ok_is_number T) (hr.mono (by decide)) (by rfl) T.g_is_number T.F_is_number.kp T.b_is_number .nil pass0 (pa_cons (pv 2) pa_nil)))) pa_nil)))))))
      (pss_one (ps_ret pe_bl))
      pss_nil)
      (pss_cons (ps_asg (pv 1) (pg_tup rfl (pgs_cons (pg_name (i := 3) sc_is_rectangle.nd rfl (Or.inl rfl)) (pgs_cons (pg_name (i := 4) sc_is_rectangle.nd rfl (Or.inl rfl)) (pgs_cons (pg_name (i := 5) sc_is_rectangle.nd rfl (Or.inr rfl)) (pgs_cons (pg_name (i := 6) sc_is_rectangle.nd rfl (Or.inr rfl)) pgs_nil))))))
      (pss_cons (ps_if (PW.pt (pw_or (pt_not (pt_chN pe_int (pchT_link op_le (pv 3) (pchT_link op_le (pv 4) (pchT_last op_lt (pe_callB call_len_seq (by rfl) T.z_len PySem.boot_len (pa_cons (pv 0) pa_nil))))))) (pw_or1 (pt_cmpR op_gt (pv 5) (pv 6) (nomark _)))))
      (pss_one (ps_ret pe_bl))
      pss_nil)
      (pss_cons (ps_set (i := 7) sc_is_rectangle.nd rfl (Or.inl rfl) (pe_slice sl_tupA (pv 0) (po_some (pv 3)) (po_some (pe_op op_add (pv 4) pe_int))))
      (pss_one (ps_ret (pe_callB (cr_all rfl) (by rfl) T.z_all (by decide +kernel) (pa_cons (pe_lc (own := [("column", 8)]) (g := (gName 8)) (tt := tYes) (by rfl) sc_is_rectangle.nd (pi_tup (pv 7)) (blkOk_by (own := [("column", 8)]) (N := N_is_rectangle) (sc := defScope s_is_rectangle) (by decide +kernel)) (fun _ _ _ _ _ => (pg_name (i := 8) sc_is_rectangle.nd rfl (Or.inl rfl))) (fun _ _ _ _ _ => pts_nil) (fun _ _ _ _ _ => (pe_and (pe_cmpR op_notN (pv 8) pe_non (nomark _)) (pe_one (pe_call (ok_contains T) (hr.mono (by decide)) (by rfl) T.g_contains T.F_contains.kp T.b_contains .nil pass0 (pa_cons (pv 8) (pa_cons (pe_tup (pa_cons (pv 5) (pa_cons (pv 6) pa_nil))) pa_nil))))))) pa_nil)))))))), ?_⟩
    have lu := ovs.1
    have no : ∀ H', Same H H' → ¬ RectD bs d → Q (.bl false) H' := fun H' s n => q H' false s ⟨fun z => (nomatch z), fun z => absurd z n⟩
    refine ⟨v, rfl, v, d, 4, rfl, hd, _, rfl, ?_⟩
    cases tb : tlB 4 d with
    | false =>
      refine iteT (no H (Same.refl _) ?_)
      rintro ⟨l, r, b, t, e, _⟩
      rw [e] at tb
      exact nomatch (show true = false from tb)
    | true =>
      refine iteF ?_
      obtain ⟨d1, d2, d3, d4, rfl⟩ := tl_four tb
      cases hd with
      | @tup e xs ds he all =>
        obtain ⟨v1, v2, v3, v4, rfl, h1, h2, h3, h4⟩ := dvAll_four all
        refine ⟨.ref e, rfl, e, rfl, ⟨_, SqT.of he⟩, fun D nD => ?_⟩
        refine lcT (K := K) (a := e) (xs := [v1, v2, v3, v4]) (fun j H' ws => ws = (([d1, d2, d3, d4].take j).map numB).map V.bl) nD (fun H' s => SqT.of (s _ _ (he))) (by show 4 < 1000; decide) (fun _ _ _ _ t r => r) (fun j H' ws r => (by rw [r, List.length_map, List.length_map]; exact List.length_take_le _ _)) (fun _ => rfl) ?_ ?_
        · rintro j v H' N acc hj sm eA sz rr no' yes
          obtain ⟨x, ex, hx⟩ := all.get hj
          refine ⟨rfl, v, rfl, v, x, rfl, dv_same sm hx, yes _ _ (Same.refl _) ?_⟩
          rw [rr, List.take_add_one, ex, List.map_append, List.map_append]
          rfl
        intro H1 ws s1 eD rr
        subst rr
        refine ⟨D, _, rfl, SqL.of eD, _, rfl, ?_⟩
        have ea : (([d1, d2, d3, d4].take [v1, v2, v3, v4].length).map numB).all id = (numB d1 && (numB d2 && (numB d3 && numB d4))) := by
          show (numB d1 && (numB d2 && (numB d3 && (numB d4 && true)))) = _
          rw [Bool.and_true]
        rw [ea]
        cases nb : (numB d1 && (numB d2 && (numB d3 && numB d4))) with
        | false =>
          refine iteT (no H1 s1 ?_)
          rintro ⟨l, r, b, t, e, _⟩
          cases e
          exact nomatch (show true = false from nb)
        | true =>
          refine iteF ?_
          have n1 := Bool.and_eq_true_iff.mp nb
          have n2 := Bool.and_eq_true_iff.mp n1.2
          have n3 := Bool.and_eq_true_iff.mp n2.2
          obtain ⟨l, rfl⟩ := num_int n1.1
          obtain ⟨r, rfl⟩ := num_int n2.1
          obtain ⟨b, rfl⟩ := num_int n3.1
          obtain ⟨t, rfl⟩ := num_int n3.2
          have x1 := h1.asInt
          have x2 := h2.asInt
          have x3 := h3.asInt
          have x4 := h4.asInt
          subst x1 x2 x3 x4
          have un : RectD bs (.tuple [.int l, .int r, .int b, .int t]) ↔ (0 ≤ l ∧ l ≤ r ∧ r < bs.length ∧ b ≤ t ∧ RectP bs l r b t) := by
            constructor
            · rintro ⟨l', r', b', t', e, z⟩
              cases e
              exact z
            · exact fun z => ⟨l, r, b, t, rfl, z⟩
          rw [un] at no
          have he1 := s1 _ _ he
          have ha1 := s1 _ _ ha
          have ovs1 := ovs.same s1
          refine ⟨.ref e, rfl, e, _, rfl, SqT.of he1, rfl, .int l, _, rfl, .int r, _, rfl, .int b, _, rfl, .int t, [], rfl, rfl, ?_⟩
          refine ⟨.int l, rfl, _, _, rfl, rfl, _, rfl, ite2 (fun c1 => ?_) (fun c1 => ⟨_, rfl, iteT (no H1 s1 (fun z => c1 (decide_eq_true z.1)))⟩)⟩
          have l0 := of_decide_eq_true c1
          refine ⟨.int r, rfl, _, _, rfl, rfl, _, rfl, ite2 (fun c2 => ?_) (fun c2 => ⟨_, rfl, iteT (no H1 s1 (fun z => c2 (decide_eq_true z.2.1)))⟩)⟩
          have lr := of_decide_eq_true c2
          refine ⟨.ref a, rfl, a, us, rfl, .inr (SqT.of ha1), _, _, rfl, rfl, _, rfl, ?_⟩
          by_cases c3 : r < (us.length : Int)
          · rw [decide_eq_true c3]
            refine iteF ⟨.int b, rfl, .int t, rfl, _, _, rfl, rfl, _, rfl, ite2 (fun cc => no H1 s1 (fun z => absurd (of_decide_eq_true cc) (by omega))) (fun cc => ?_)⟩
            have bt : b ≤ t := by
              rw [decide_eq_true_iff] at cc
              omega
            obtain ⟨ln, rfl⟩ : ∃ n : Nat, l = n := ⟨l.toNat, by omega⟩
            obtain ⟨rn, rfl⟩ : ∃ n : Nat, r = n := ⟨r.toNat, by omega⟩
            have lrn : ln ≤ rn := by omega
            have rl : rn < bs.length := by omega
            refine ⟨.ref a, rfl, .int ln, rfl, ln, rfl, .int rn, rfl, _, _, rfl, rfl, rn + 1, rfl, slA_any ha1 (fun H2 p s2 ep => ?_)⟩
            rw [show ((rn : Int) + 1) = ((rn + 1 : Nat) : Int) by omega, cutMid us ln (rn + 1) (by omega) (by omega)] at ep
            have s12 := s1.trans s2
            have ovs2 := ovs1.same s2
            refine ⟨.ref p, rfl, p, rfl, ⟨_, SqT.of ep⟩, fun D2 nD2 => ?_⟩
            have lcut : ((us.drop ln).take (rn + 1 - ln)).length ≤ us.length := by
              rw [List.length_take, List.length_drop]
              omega
            refine lcT (K := K) (a := p) (xs := (us.drop ln).take (rn + 1 - ln)) (fun j H' ws => ws = ((((bs.drop ln).take (rn + 1 - ln)).take j).map (inC b t)).map V.bl) nD2 (fun H' s => SqT.of (s _ _ (ep))) (by omega) (fun _ _ _ _ t r => r) (fun j H' ws r => (by rw [r, List.length_map, List.length_map]; exact List.length_take_le _ _)) (fun _ => rfl) ?_ ?_
            · rintro j v H' N acc hj sm eA sz rr no' yes
              have jl := (List.getElem?_eq_some_iff.mp hj).1
              rw [List.length_take, List.length_drop] at jl
              have hj2 := hj
              rw [List.getElem?_take_of_lt (by omega), List.getElem?_drop] at hj2
              obtain ⟨o, eo, ov⟩ := ovs2.2 _ v hj2
              have ov := ov.same sm
              have eo2 : ((bs.drop ln).take (rn + 1 - ln))[j]? = some o := by
                rw [List.getElem?_take_of_lt (by omega), List.getElem?_drop]
                exact eo
              have up : (((bs.drop ln).take (rn + 1 - ln)).take (j + 1)).map (inC b t) = (((bs.drop ln).take (rn + 1 - ln)).take j).map (inC b t) ++ [inC b t o] := by
                rw [List.take_add_one, eo2, List.map_append]
                rfl
              refine ⟨rfl, v, rfl, rfl, _, rfl, ?_⟩
              rw [ov.isN]
              match o, ov, up with
              | none, ov, up =>
                refine iteF (yes _ _ (Same.refl _) ?_)
                rw [up, List.map_append, rr]
                rfl
              | some (x, y), ov, up =>
                obtain ⟨bb, rfl, hb⟩ := ov
                refine iteT ⟨.ref bb, rfl, .int b, rfl, .int t, rfl, by show 2 ≤ sizeLine; decide, fun tp ntp => ?_⟩
                have st := same_new (o := .tup [.int b, .int t]) ntp
                refine ⟨bb, tp, x, y, b, t, rfl, st _ _ hb, upd_same, yes _ _ st ?_⟩
                rw [up, List.map_append, rr]
                rfl
            intro H3 ws3 s3 eD2 rr
            rw [List.take_of_length_le (by rw [List.length_take, List.length_drop, List.length_take, List.length_drop, lu]; omega)] at rr
            subst rr
            refine ⟨D2, _, rfl, SqL.of eD2, ?_⟩
            refine q H3 _ (s12.trans s3) ?_
            rw [rect_all rl lrn, un]
            exact ⟨fun z => ⟨by omega, by omega, by omega, bt, z⟩, fun z => z.2.2.2.2⟩
          · rw [decide_eq_false c3]
            exact iteT (no H1 s1 (fun z => c3 (by omega)))
def sp_law_is_rectangle (K : PySem.W.Frag) : Sp := fun vs H Q _ => ∃ (a : Addr) (us : List V) (bs : List (Option (Int × Int))) (v : V) (d : PyData), vs = [.ref a, v] ∧ H a = some (.tup us) ∧ OVs H us bs ∧ bs.length < 100 ∧ (∀ o ∈ bs, ColOk 1000000000001 o) ∧ Dv K H v d ∧
  ∀ H' k, Same H H' → (k = true ↔ RectD bs d) → Q (.bl k) H'
theorem rectD_in {bs : List (Option (Int × Int))} (ok : ∀ o ∈ bs, ColOk 1000000000001 o) (few : bs.length < 100) {l r b t : Int} (z : 0 ≤ l ∧ l ≤ r ∧ r < bs.length ∧ b ≤ t ∧ RectP bs l r b t) : inB 0 1000000000000 (.int l) = true ∧ inB 0 1000000000000 (.int r) = true ∧ inB 0 1000000000000 (.int b) = true ∧ inB 0 1000000000000 (.int t) = true := by
  obtain ⟨l0, lr, rl, bt, rp⟩ := z
  obtain ⟨x, y, e, z1, z2⟩ := rp l.toNat (by omega) (by omega)
  have c : 0 ≤ x ∧ x ≤ y ∧ y < 1000000000001 := ok _ (List.mem_of_getElem? e)
  refine ⟨?_, ?_, ?_, ?_⟩ <;> exact Bool.and_eq_true_iff.mpr ⟨decide_eq_true (by omega), decide_eq_true (by omega)⟩
theorem ok_law_is_rectangle (T : Tx K mg f_is_number f_is_tuple_of f_contains f_is_rectangle f_law_draws f_law_next f_law_pick f_law_column f_law_board f_law_stretch f_law_any_board f_law_is_int f_law_inside f_law_full f_law_is_rectangle f_law_odd f_law_bent f_law_tried f_law d_is_number d_is_tuple_of d_contains d_is_rectangle d_law_draws d_law_next d_law_pick d_law_column d_law_board d_law_stretch d_law_any_board d_law_is_int d_law_inside d_law_full d_law_is_rectangle d_law_odd d_law_bent d_law_tried d_law) : FnOk P w K mg base CX0 3 f_law_is_rectangle d_law_is_rectangle ["_law_board_here", "_law_value"] (sp_law_is_rectangle K) := by
  refine T.F_law_is_rectangle.ok sc_law_is_rectangle (fun vs H Q E h => ?_) (fun cdv A outer s H vs Q E hr h => ?_)
  · obtain ⟨a, us, bs, v, d, rfl, _⟩ := h
    rfl
  · obtain ⟨a, us, bs, v, d, rfl, ha, ovs, few, ok, hd, q⟩ := h
    refine ⟨_, (pss_cons (ps_if (PW.pt (pw_or (pt_not (pt_val (pe_callB call_isi (by rfl) T.z_isinstance (by decide +kernel) (pa_cons (pv 1) (pa_cons (pe_bltn (v := .ty "tuple") (u := .type "tuple") (by rfl) T.z_tuple (by decide +kernel) rfl) pa_nil))))) (pw_or1 (pt_cmpR op_ne (pe_callB call_len_seq (by rfl) T.z_len PySem.boot_len (pa_cons (pv 1) pa_nil)) pe_int (nomark _)))))
      (pss_one (ps_ret pe_bl))
      pss_nil)
      (pss_cons (ps_if (pt_cmpR (op_neL hr.units0) (pe_lc (own := [("_law_item", 2)]) (g := (gName 2)) (by rfl) sc_law_is_rectangle.nd (pi_tup (pv 1)) (blkOk_by (own := [("_law_item", 2)]) (N := N_law_is_rectangle) (sc := defScope s_law_is_rectangle) (by decide +kernel)) (fun _ _ _ _ _ => (pg_name (i := 2) sc_law_is_rectangle.nd rfl (Or.inl rfl))) (fun _ _ _ _ _ => pts_one (pt_not (pt_val (pe_call (ok_law_is_int T) (hr.mono (by decide)) (by rfl) T.g_law_is_int T.F_law_is_int.kp T.b_law_is_int .nil pass0 (pa_cons (pv 2) (pa_cons pe_int (pa_cons (pe_op op_pow pe_int pe_int) pa_nil))))))) (fun _ _ _ _ _ => (pv 2))) (pe_lst pa_nil) (nomark _))
      (pss_one (ps_ret pe_bl))
      pss_nil)
      (pss_cons (ps_asg (pv 1) (pg_tup rfl (pgs_cons (pg_name (i := 3) sc_law_is_rectangle.nd rfl (Or.inl rfl)) (pgs_cons (pg_name (i := 4) sc_law_is_rectangle.nd rfl (Or.inl rfl)) (pgs_cons (pg_name (i := 5) sc_law_is_rectangle.nd rfl (Or.inl rfl)) (pgs_cons (pg_name (i := 6) sc_law_is_rectangle.nd rfl (Or.inl rfl)) pgs_nil))))))
      (pss_cons (ps_if (PW.pt (pw_or (pt_not (pt_chain op_le op_lt (pv 3) (pv 4) (pe_callB call_len_seq (by rfl) T.z_len PySem.boot_len (pa_cons (pv 0) pa_nil)))) (pw_or1 (pt_cmpR op_gt (pv 5) (pv 6) (nomark _)))))
      (pss_one (ps_ret pe_bl))
      pss_nil)
      (pss_one (ps_ret (pe_call (ok_law_full T) (hr.mono (by decide)) (by rfl) T.g_law_full T.F_law_full.kp T.b_law_full .nil pass0 (pa_cons (pv 0) (pa_cons (pv 3) (pa_cons (pv 4) (pa_cons (pv 5) (pa_cons (pv 6) pa_nil)))))))))))), ?_⟩
    have lu := ovs.1
    have no : ∀ H', Same H H' → ¬ RectD bs d → Q (.bl false) H' := fun H' s n => q H' false s ⟨fun z => (nomatch z), fun z => absurd z n⟩
    have p12 : (10 : Int) ^ (12 : Int).toNat = 1000000000000 := by decide
    refine ⟨v, rfl, v, .ty "tuple", _, _, _, rfl, .ty "tuple", hd.ty, kit_tup d, _, rfl, ?_⟩
    cases tb : tupB d with
    | false =>
      refine iteT (no H (Same.refl _) ?_)
      rintro ⟨l, r, b, t, e, _⟩
      rw [e] at tb
      exact nomatch (show true = false from tb)
    | true =>
      refine iteF ?_
      cases hd with
      | @tup e xs ds he all =>
        have lx := all.length
        refine ⟨.ref e, rfl, e, xs, rfl, .inr (SqT.of he), rfl, _, rfl, ?_⟩
        by_cases c4 : xs.length = 4
        · rw [show (!decide (V.int (xs.length : Int) = V.int 4)) = false by rw [c4]; rfl]
          refine iteF ?_
          obtain ⟨d1, d2, d3, d4, rfl⟩ : ∃ d1 d2 d3 d4, ds = [d1, d2, d3, d4] := by
            obtain ⟨d1, d2, d3, d4, e⟩ := tl_four (d := .tuple ds) (decide_eq_true (by omega))
            cases e
            exact ⟨_, _, _, _, rfl⟩
          obtain ⟨v1, v2, v3, v4, rfl, h1, h2, h3, h4⟩ := dvAll_four all
          refine ⟨.ref e, rfl, e, rfl, ⟨_, SqT.of he⟩, fun D nD => ?_⟩
          refine lcT (K := K) (a := e) (xs := [v1, v2, v3, v4]) (fun j H' ws => ws.length = (([d1, d2, d3, d4].take j).filter fun x => !inB 0 1000000000000 x).length) nD (fun H' s => SqT.of (s _ _ (he))) (by show 4 < 1000; decide) (fun _ _ _ _ t r => r) (fun j H' ws r => (by rw [r]; exact Nat.le_trans (List.length_filter_le _ _) (List.length_take_le _ _))) (fun _ => rfl) ?_ ?_
          · rintro j v H' N acc hj sm eA sz rr no' yes
            obtain ⟨x, ex, hx⟩ := all.get hj
            refine ⟨rfl, v, rfl, 10, 12, rfl, rfl, ⟨by decide, by decide, by decide⟩, v, x, 0, (10 : Int) ^ (12 : Int).toNat, rfl, dv_same sm hx, _, rfl, ?_⟩
            rw [p12]
            refine ite2 (fun cc => ?_) (fun cc => ?_)
            · refine ⟨v, rfl, yes _ _ (Same.refl _) ?_⟩
              rw [take_filter ex, if_pos cc, List.length_append, List.length_append, rr]
              rfl
            · refine no' _ (Same.refl _) ?_
              rw [take_filter ex, if_neg cc, List.append_nil]
              exact rr
          intro H1 ws s1 eD rr
          replace rr : ws.length = ([d1, d2, d3, d4].filter fun x => !inB 0 1000000000000 x).length := rr
          refine ⟨by show 0 ≤ sizeLine; decide, fun z nz => ?_⟩
          have s2 := same_new (o := .lst []) nz
          have ez := upd_same (H := H1) (a := z) (o := .lst [])
          generalize upd H1 z (.lst []) = H2 at *
          have s12 := s1.trans s2
          refine ⟨D, z, ws, rfl, rfl, SqL.of (s2 _ _ eD), SqL.of ez, _, rfl, ?_⟩
          cases wb : ws.isEmpty with
          | false =>
            refine iteT (no H2 s12 ?_)
            rintro ⟨l, r, b, t, e, z⟩
            cases e
            obtain ⟨b1, b2, b3, b4⟩ := rectD_in ok few z
            simp only [List.filter_cons, b1, b2, b3, b4, Bool.not_true, Bool.false_eq_true, if_false, List.filter_nil] at rr
            rw [List.length_eq_zero_iff.mp rr] at wb
            exact absurd wb (by decide)
          | true =>
            rw [List.isEmpty_iff.mp wb] at rr
            have mem := List.filter_eq_nil_iff.mp (List.length_eq_zero_iff.mp rr.symm)
            have bb : ∀ x ∈ [d1, d2, d3, d4], inB 0 1000000000000 x = true := fun x hx => by
              have := mem x hx
              cases c : inB 0 1000000000000 x with
              | true => rfl
              | false =>
                rw [c] at this
                exact absurd rfl this
            have toI : ∀ x, inB 0 1000000000000 x = true → ∃ i, x = .int i ∧ 0 ≤ i := fun x hx => by
              cases x with
              | int i => exact ⟨i, rfl, of_decide_eq_true (Bool.and_eq_true_iff.mp hx).1⟩
              | _ => cases hx
            obtain ⟨l, rfl, l0⟩ := toI d1 (bb _ (by simp))
            obtain ⟨r, rfl, r0⟩ := toI d2 (bb _ (by simp))
            obtain ⟨b, rfl, b0⟩ := toI d3 (bb _ (by simp))
            obtain ⟨t, rfl, t0⟩ := toI d4 (bb _ (by simp))
            have x1 := h1.asInt
            have x2 := h2.asInt
            have x3 := h3.asInt
            have x4 := h4.asInt
            subst x1 x2 x3 x4
            have un : RectD bs (.tuple [.int l, .int r, .int b, .int t]) ↔ (0 ≤ l ∧ l ≤ r ∧ r < bs.length ∧ b ≤ t ∧ RectP bs l r b t) := by
              constructor
              · rintro ⟨l', r', b', t', e, z⟩
                cases e
                exact z
              · exact fun z => ⟨l, r, b, t, rfl, z⟩
            rw [un] at no
            have he2 := s12 _ _ he
            have ha2 := s12 _ _ ha
            refine iteF ⟨.ref e, rfl, e, _, rfl, SqT.of he2, rfl, .int l, _, rfl, .int r, _, rfl, .int b, _, rfl, .int t, [], rfl, rfl, ?_⟩
            refine ⟨.int l, rfl, .int r, rfl, _, _, rfl, rfl, _, rfl, ite2 (fun c2 => ?_) (fun c2 => ⟨_, rfl, iteT (no H2 s12 (fun z => c2 (decide_eq_true z.2.1)))⟩)⟩
            have lr := of_decide_eq_true c2
            refine ⟨.ref a, rfl, a, us, rfl, .inr (SqT.of ha2), _, _, rfl, rfl, _, rfl, ?_⟩
            by_cases c3 : r < (us.length : Int)
            · rw [decide_eq_true c3]
              refine iteF ⟨.int b, rfl, .int t, rfl, _, _, rfl, rfl, _, rfl, ite2 (fun cc => no H2 s12 (fun z => absurd (of_decide_eq_true cc) (by omega))) (fun cc => ?_)⟩
              have bt : b ≤ t := by
                rw [decide_eq_true_iff] at cc
                omega
              obtain ⟨ln, rfl⟩ : ∃ n : Nat, l = n := ⟨l.toNat, by omega⟩
              obtain ⟨rn, rfl⟩ : ∃ n : Nat, r = n := ⟨r.toNat, by omega⟩
              refine ⟨.ref a, rfl, .int ln, rfl, .int rn, rfl, .int b, rfl, .int t, rfl, a, us, bs, ln, rn, b, t, rfl, ha2, ovs.same s12, few, by omega, by omega, bt, fun H3 k s3 hk => ?_⟩
              refine q H3 k (s12.trans s3) ?_
              rw [hk, un]
              exact ⟨fun z => ⟨by omega, by omega, by omega, bt, z⟩, fun z => z.2.2.2.2⟩
            · rw [decide_eq_false c3]
              exact iteT (no H2 s12 (fun z => c3 (by omega)))
        · rw [show (!decide (V.int (xs.length : Int) = V.int 4)) = true by rw [decide_eq_false (fun z => c4 (by injection z with z; omega))]; rfl]
          refine iteT (no H (Same.refl _) ?_)
          rintro ⟨l, r, b, t, e, _⟩
          cases e
          exact c4 lx
      | _ => cases tb
/-! ### drawn tries -/
/-- a tuple of four numbers that are not large -/
def T4 (H : Hp) (v : V) : Prop := ∃ (t : Addr) (x y u z : Int), v = .ref t ∧ H t = some (.tup [.int x, .int y, .int u, .int z]) ∧ (0 ≤ x ∧ x ≤ 2000000000000) ∧ (0 ≤ y ∧ y ≤ 2000000000000) ∧ (0 ≤ u ∧ u ≤ 2000000000000) ∧ (0 ≤ z ∧ z ≤ 2000000000000)
theorem T4.tps {H H' : Hp} (s : Tps H H') {v : V} (h : T4 H v) : T4 H' v := by
  obtain ⟨t, x, y, u, z, e, ht, r⟩ := h
  exact ⟨t, x, y, u, z, e, s _ _ ht, r⟩
def sp_law_tried : Sp := fun vs H Q _ => ∃ (d : Addr) (c : Addr × Addr) (n : Int) (a : Addr) (us : List V) (bs : List (Option (Int × Int))), vs = [.ref d, .ref a] ∧ Dk H d c n ∧ 0 ≤ n ∧ n < 800000 ∧ H a = some (.tup us) ∧ OVs H us bs ∧ 1 ≤ bs.length ∧ bs.length ≤ 8 ∧ (∀ o ∈ bs, ColOk 1000000000001 o) ∧
  ∀ H' v, Kp d c H H' → Dk H' d c (n + 5) → T4 H' v → Q v H'
theorem ok_law_tried (T : Tx K mg f_is_number f_is_tuple_of f_contains f_is_rectangle f_law_draws f_law_next f_law_pick f_law_column f_law_board f_law_stretch f_law_any_board f_law_is_int f_law_inside f_law_full f_law_is_rectangle f_law_odd f_law_bent f_law_tried f_law d_is_number d_is_tuple_of d_contains d_is_rectangle d_law_draws d_law_next d_law_pick d_law_column d_law_board d_law_stretch d_law_any_board d_law_is_int d_law_inside d_law_full d_law_is_rectangle d_law_odd d_law_bent d_law_tried d_law) : FnOk P w K mg base CX0 3 f_law_tried d_law_tried ["_law_drawn", "_law_board_here"] sp_law_tried := by
  refine T.F_law_tried.ok sc_law_tried (fun vs H Q E h => ?_) (fun cdv A outer s H vs Q E hr h => ?_)
  · obtain ⟨d, c, n, a, us, bs, rfl, _⟩ := h
    rfl
  · obtain ⟨d, c, n, a, us, bs, rfl, dk, n0, n1, ha, ovs, lb1, lb2, ok, q⟩ := h
    refine ⟨_, (pss_cons (ps_par (by rfl) sc_law_tried.nd (i := 2) (j := 3) rfl rfl (by decide) rfl rfl (pa_cons (pe_call (ok_law_next T) (hr.mono (by decide)) (by rfl) T.g_law_next T.F_law_next.kp T.b_law_next .nil pass0 (pa_cons (pv 0) (pa_cons (pe_callB call_len_seq (by rfl) T.z_len PySem.boot_len (pa_cons (pv 1) pa_nil)) pa_nil))) (pa_cons (pe_call (ok_law_next T) (hr.mono (by decide)) (by rfl) T.g_law_next T.F_law_next.kp T.b_law_next .nil pass0 (pa_cons (pv 0) (pa_cons (pe_callB call_len_seq (by rfl) T.z_len PySem.boot_len (pa_cons (pv 1) pa_nil)) pa_nil))) pa_nil)) (by rfl))
      (pss_cons (ps_set (i := 4) sc_law_tried.nd rfl (Or.inl rfl) (pe_lst (pa_cons pe_int pa_nil)))
      (pss_cons (ps_for PassesOwn.never rfl (pi_tup (pe_slice sl_tupA (pv 1) (po_some (pe_callB (call_min2 rfl) (by rfl) T.z_min (by decide +kernel) (pa_cons (pv 2) (pa_cons (pv 3) pa_nil)))) (po_some (pe_op op_add (pe_callB (call_max2 rfl) (by rfl) T.z_max (by decide +kernel) (pa_cons (pv 2) (pa_cons (pv 3) pa_nil))) pe_int)))) (pg_name (i := 5) sc_law_tried.nd rfl (Or.inl rfl))
      (pss_one (ps_if (pt_cmpR op_notN (pv 5) pe_non (nomark _))
      (pss_one (ps_set (i := 4) sc_law_tried.nd rfl (Or.inl rfl) (pe_op op_cat (pv 4) (pe_callTy call_list_of (by rfl) T.z_list (by decide +kernel) (pa_cons (pv 5) pa_nil)))))
      pss_nil)))
      (pss_cons (ps_par (by rfl) sc_law_tried.nd (i := 6) (j := 7) rfl rfl (by decide) rfl rfl (pa_cons (pe_call (ok_law_pick T) (hr.mono (by decide)) (by rfl) T.g_law_pick T.F_law_pick.kp T.b_law_pick .nil pass0 (pa_cons (pv 0) (pa_cons (pv 4) pa_nil))) (pa_cons (pe_call (ok_law_pick T) (hr.mono (by decide)) (by rfl) T.g_law_pick T.F_law_pick.kp T.b_law_pick .nil pass0 (pa_cons (pv 0) (pa_cons (pv 4) pa_nil))) pa_nil)) (by rfl))
      (pss_cons (ps_set (i := 8) sc_law_tried.nd rfl (Or.inl rfl) (pe_call (ok_law_next T) (hr.mono (by decide)) (by rfl) T.g_law_next T.F_law_next.kp T.b_law_next .nil pass0 (pa_cons (pv 0) (pa_cons pe_int pa_nil))))
      (pss_cons (ps_if (pt_cmpR op_eq (pv 8) pe_int (nomark _))
      (pss_one (ps_ret (pe_tup (pa_cons (pv 2) (pa_cons (pv 3) (pa_cons (pv 6) (pa_cons (pv 7) pa_nil)))))))
      pss_nil)
      (pss_cons (ps_if (pt_cmpR op_eq (pv 8) pe_int (nomark _))
      (pss_one (ps_ret (pe_tup (pa_cons (pe_callB (call_min2 rfl) (by rfl) T.z_min (by decide +kernel) (pa_cons (pv 2) (pa_cons (pv 3) pa_nil))) (pa_cons (pe_callB (call_max2 rfl) (by rfl) T.z_max (by decide +kernel) (pa_cons (pv 2) (pa_cons (pv 3) pa_nil))) (pa_cons (pe_callB (call_max2 rfl) (by rfl) T.z_max (by decide +kernel) (pa_cons pe_int (pa_cons (pe_op op_sub (pe_callB (call_min2 rfl) (by rfl) T.z_min (by decide +kernel) (pa_cons (pv 6) (pa_cons (pv 7) pa_nil))) pe_int) pa_nil))) (pa_cons (pe_op op_add (pe_callB (call_max2 rfl) (by rfl) T.z_max (by decide +kernel) (pa_cons (pv 6) (pa_cons (pv 7) pa_nil))) pe_int) pa_nil)))))))
      pss_nil)
      (pss_cons (ps_if (pt_cmpR op_eq (pv 8) pe_int (nomark _))
      (pss_one (ps_ret (pe_tup (pa_cons (pv 2) (pa_cons (pv 2) (pa_cons (pe_callB (call_min2 rfl) (by rfl) T.z_min (by decide +kernel) (pa_cons (pv 6) (pa_cons (pv 7) pa_nil))) (pa_cons (pe_callB (call_max2 rfl) (by rfl) T.z_max (by decide +kernel) (pa_cons (pv 6) (pa_cons (pv 7) pa_nil))) pa_nil)))))))
      pss_nil)
      (pss_one (ps_ret (pe_tup (pa_cons (pe_callB (call_min2 rfl) (by rfl) T.z_min (by decide +kernel) (pa_cons (pv 2) (pa_cons (pv 3) pa_nil))) (pa_cons (pe_callB (call_max2 rfl) (by rfl) T.z_max (by decide +kernel) (pa_cons (pv 2) (pa_cons (pv 3) pa_nil))) (pa_cons (pe_callB (call_min2 rfl) (by rfl) T.z_min (by decide +kernel) (pa_cons (pv 6) (pa_cons (pv 7) pa_nil))) (pa_cons (pe_callB (call_max2 rfl) (by rfl) T.z_max (by decide +kernel) (pa_cons (pv 6) (pa_cons (pv 7) pa_nil))) pa_nil))))))))))))))), ?_⟩
    have lu := ovs.1
    have big : sizeLine = 16777216 := by decide
    refine ⟨.ref d, rfl, .ref a, rfl, a, us, rfl, .inr (SqT.of ha), d, c, n, (us.length : Int), rfl, dk, n0, by omega, by omega, by omega, fun H1 l kp1 dk1 l0 l1 => ?_⟩
    have ha1 := kp1.tup dk ha
    refine ⟨.ref d, rfl, .ref a, rfl, a, us, rfl, .inr (SqT.of ha1), d, c, n + 1, (us.length : Int), rfl, dk1, by omega, by omega, by omega, by omega, fun H2 r kp2 dk2 r0 r1 => ?_⟩
    have ha2 := kp2.tup dk1 ha1
    have ovs2 := ovs.tps ((kp1.trans kp2).tps dk)
    refine ⟨_, _, rfl, ?_⟩
    refine ⟨by show 1 ≤ sizeLine; decide, fun rw0 nrw => ?_⟩
    have off0 := dk2.off nrw
    have s3 := same_new (o := .lst [.int 0]) nrw
    have erw := upd_same (H := H2) (a := rw0) (o := .lst [.int 0])
    generalize upd H2 rw0 (.lst [.int 0]) = H3 at *
    have dk3 := dk2.kept s3
    have ha3 := s3 _ _ ha2
    refine ⟨.ref a, rfl, .int l, rfl, .int r, rfl, _, _, rfl, _, rfl, .int l, rfl, .int r, rfl, _, _, rfl, _, _, rfl, rfl, _, rfl, slA_any ha3 (fun H4 p s4 ep => ?_)⟩
    have dk4 := dk3.kept s4
    have ovs4 := (ovs2.same s3).same s4
    generalize ecut : cutV us _ _ = cs at ep
    have mem : ∀ v ∈ cs, v ∈ us := by
      rw [← ecut]
      intro v hv
      unfold cutV at hv
      exact List.mem_of_mem_drop (List.mem_of_mem_take hv)
    have lc : cs.length ≤ us.length := by
      rw [← ecut]
      unfold cutV
      rw [List.length_take, List.length_drop]
      omega
    refine ⟨p, rfl, ⟨_, SqT.of ep⟩, ?_⟩
    refine for_tup (K := K) (a := p) (xs := cs) (D := ⟨_, _, fun _ _ => True, fun _ _ => True⟩) (fun j σ H' => Same H4 H' ∧ (∃ rw is, H' rw = some (.lst (is.map V.int)) ∧ Off d c rw ∧ 0 < is.length ∧ is.length ≤ 1 + 2 * j ∧ (∀ i ∈ is, 0 ≤ i ∧ i ≤ 1000000000000) ∧ ∃ y5 y6 y7 y8, σ = [some (.ref d), some (.ref a), some (.int l), some (.int r), some (.ref rw), y5, y6, y7, y8]))
      ⟨Same.refl _, rw0, [0], s4 _ _ erw, off0, by decide, by show 1 ≤ 1 + 2 * 0; decide, fun i hi => by rw [List.mem_singleton.mp hi]; decide, _, _, _, _, rfl⟩ (fun j σ H' _ h => SqT.of (h.1 _ _ ep)) ?_ ?_
    · rintro j v σ H5 hj ⟨s5, rw, is, er, offr, i0, il, ib, y5, y6, y7, y8, rfl⟩
      obtain ⟨k, hk, ek⟩ := List.getElem_of_mem (mem v (List.mem_of_getElem? hj))
      obtain ⟨o, eo, ov⟩ := ovs4.2 k v (by rw [List.getElem?_eq_getElem hk, ek])
      have ov := ov.same s5
      have okO := ok o (List.mem_of_getElem? eo)
      have jl := (List.getElem?_eq_some_iff.mp hj).1
      refine ⟨v, rfl, rfl, _, rfl, ?_⟩
      rw [ov.isN]
      match o, ov, okO with
      | none, ov, _ => exact iteF ⟨s5, rw, is, er, offr, i0, by omega, ib, _, _, _, _, rfl⟩
      | some (x, y), ov, okO =>
        obtain ⟨bb, rfl, hb⟩ := ov
        have z : 0 ≤ x ∧ x ≤ y ∧ y < 1000000000001 := okO
        refine iteT ⟨.ref rw, rfl, .ref bb, rfl, bb, [.int x, .int y], rfl, .inr (SqT.of hb), fun l2 nl2 => ?_⟩
        have s6 := same_new (o := .lst [.int x, .int y]) nl2
        have e6 := upd_same (H := H5) (a := l2) (o := .lst [.int x, .int y])
        generalize upd H5 l2 (.lst [.int x, .int y]) = H6 at *
        refine ⟨rw, l2, _, _, rfl, rfl, s6 _ _ er, e6, by rw [big, List.length_map]; show _ + 2 ≤ _; omega, fun l3 nl3 => ?_⟩
        have offl3 := (((dk4.kept s5).kept s6).off nl3)
        have s7 := same_new (o := .lst (is.map V.int ++ [.int x, .int y])) nl3
        have e7 := upd_same (H := H6) (a := l3) (o := .lst (is.map V.int ++ [.int x, .int y]))
        generalize upd H6 l3 (.lst (is.map V.int ++ [.int x, .int y])) = H7 at *
        refine ⟨s5.trans (s6.trans s7), l3, is ++ [x, y], by rw [List.map_append]; exact e7, offl3, by rw [List.length_append]; omega, by rw [List.length_append]; show _ + 2 ≤ _; omega, fun i hi => ?_, _, _, _, _, rfl⟩
        rcases List.mem_append.mp hi with hi | hi
        · exact ib i hi
        · simp only [List.mem_cons, List.not_mem_nil, or_false] at hi
          rcases hi with rfl | rfl
          · omega
          · omega
    · rintro σ H5 ⟨s5, rw, is, er, offr, i0, il, ib, y5, y6, y7, y8, rfl⟩
      have dk5 := dk4.kept s5
      refine ⟨.ref d, rfl, .ref rw, rfl, d, c, n + 1 + 1, rw, is, rfl, dk5, by omega, by omega, offr, er, i0, by omega, fun H6 b kp6 dk6 hb => ?_⟩
      refine ⟨.ref d, rfl, .ref rw, rfl, d, c, n + 1 + 1 + 1, rw, is, rfl, dk6, by omega, by omega, offr, kp6.keep offr er, i0, by omega, fun H7 t kp7 dk7 ht => ?_⟩
      refine ⟨_, _, rfl, ?_⟩
      refine ⟨.ref d, rfl, d, c, _, 5, rfl, dk7, by omega, by omega, by decide, by decide, fun H8 sh kp8 dk8 h0 h1 => ?_⟩
      have kp28 : Kp d c H H8 := kp1.trans (kp2.trans ((Kp.same (s3.trans (s4.trans s5))).trans (kp6.trans (kp7.trans kp8))))
      have dk9 : Dk H8 d c (n + 5) := dk8.eq (by omega)
      have bb := ib b hb
      have tt := ib t ht
      have fin : ∀ (x y u z : Int) tp, H8 tp = none → (0 ≤ x ∧ x ≤ 2000000000000) → (0 ≤ y ∧ y ≤ 2000000000000) → (0 ≤ u ∧ u ≤ 2000000000000) → (0 ≤ z ∧ z ≤ 2000000000000) → Q (.ref tp) (upd H8 tp (.tup [.int x, .int y, .int u, .int z])) := fun x y u z tp ntp b1 b2 b3 b4 =>
        q _ _ (kp28.trans (Kp.same (same_new ntp))) (dk9.kept (same_new ntp)) ⟨tp, x, y, u, z, rfl, upd_same, b1, b2, b3, b4⟩
      refine ⟨.int sh, rfl, rfl, _, rfl, ite2 (fun _ => ?_) (fun _ => ?_)⟩
      · refine ⟨.int l, rfl, .int r, rfl, .int b, rfl, .int t, rfl, by show 4 ≤ sizeLine; decide, fun tp ntp => fin _ _ _ _ tp ntp (by omega) (by omega) (by omega) (by omega)⟩
      · refine ⟨.int sh, rfl, rfl, _, rfl, ite2 (fun _ => ?_) (fun _ => ?_)⟩
        · refine ⟨.int l, rfl, .int r, rfl, _, _, rfl, .int l, rfl, .int r, rfl, _, _, rfl, .int b, rfl, .int t, rfl, _, _, rfl, _, _, rfl, rfl, _, _, rfl, .int b, rfl, .int t, rfl, _, _, rfl, _, _, rfl, rfl, by show 4 ≤ sizeLine; decide, fun tp ntp => fin _ _ _ _ tp ntp ?_ ?_ ?_ ?_⟩
          · split <;> omega
          · split <;> omega
          · repeat' split
            all_goals omega
          · split <;> omega
        · refine ⟨.int sh, rfl, rfl, _, rfl, ite2 (fun _ => ?_) (fun _ => ?_)⟩
          · refine ⟨.int l, rfl, .int l, rfl, .int b, rfl, .int t, rfl, _, _, rfl, .int b, rfl, .int t, rfl, _, _, rfl, by show 4 ≤ sizeLine; decide, fun tp ntp => fin _ _ _ _ tp ntp (by omega) (by omega) ?_ ?_⟩
            · split <;> omega
            · split <;> omega
          · refine ⟨.int l, rfl, .int r, rfl, _, _, rfl, .int l, rfl, .int r, rfl, _, _, rfl, .int b, rfl, .int t, rfl, _, _, rfl, .int b, rfl, .int t, rfl, _, _, rfl, by show 4 ≤ sizeLine; decide, fun tp ntp => fin _ _ _ _ tp ntp ?_ ?_ ?_ ?_⟩
            · split <;> omega
            · split <;> omega
            · split <;> omega
            · split <;> omega
theorem t4_in {d : Addr} {c : Addr × Addr} {D : Addr} {n : Int} {H : Hp} (dk : Dk H d c n) (lD : LsD d c D H) {v : V} (h : T4 H v) : InB (OffH d c D H) v := by
  obtain ⟨t, x, y, u, z, rfl, ht, b1, b2, b3, b4⟩ := h
  have b20 := col_big
  refine .inr ⟨t, _, rfl, offH_get (dk.offT ht) (lD.tup ht) ht, by show 4 ≤ 9; decide, by show 0 < 4; decide, fun e he => ?_⟩
  simp only [List.mem_cons, List.not_mem_nil, or_false] at he
  rcases he with rfl | rfl | rfl | rfl
  · exact ⟨x, rfl, by omega⟩
  · exact ⟨y, rfl, by omega⟩
  · exact ⟨u, rfl, by omega⟩
  · exact ⟨z, rfl, by omega⟩
theorem t4_gn {K : PySem.W.Frag} {d : Addr} {c : Addr × Addr} {n : Int} {H : Hp} (dk : Dk H d c n) {v : V} (h : T4 H v) : Gn K 121132 5 H v :=
  ((inS_sub (K := K) (fun _ _ h => in0_sub h) (t4_in dk dk.lsd h)).same offH_sub).mono (by decide) (by decide)
def sp_law (K : PySem.W.Frag) : Sp := fun vs H Q _ => ∃ (a : Addr) (ns : List Int), vs = [.ref a] ∧ SqL K H a (ns.map V.int) ∧ ns.length ≤ 63 ∧ ∀ H', Q (.bl true) H'
theorem ok_law (T : Tx K mg f_is_number f_is_tuple_of f_contains f_is_rectangle f_law_draws f_law_next f_law_pick f_law_column f_law_board f_law_stretch f_law_any_board f_law_is_int f_law_inside f_law_full f_law_is_rectangle f_law_odd f_law_bent f_law_tried f_law d_is_number d_is_tuple_of d_contains d_is_rectangle d_law_draws d_law_next d_law_pick d_law_column d_law_board d_law_stretch d_law_any_board d_law_is_int d_law_inside d_law_full d_law_is_rectangle d_law_odd d_law_bent d_law_tried d_law) (hM : ∃ mm, base.Ns sysModules mm) : FnG P w K mg base 8 f_law d_law ["_law_script"] (sp_law K) := by
  refine FnG.of T.F_law sc_law (fun {vs H Q} h => ?_) (fun cdv A outer s H vs Q hr hq h => ?_)
  · obtain ⟨a, ns, rfl, _⟩ := h
    rfl
  · obtain ⟨a, ns, rfl, hS, hlen, q⟩ := h
    refine ⟨_, (pss_cons (ps_set (i := 1) sc_law.nd rfl (Or.inr rfl) (pe_call (ok_law_draws T) (hr.mono (by decide)) (by rfl) T.g_law_draws T.F_law_draws.kp T.b_law_draws .nil pass0 (pa_cons (pv 0) pa_nil)))
      (pss_cons (ps_for PassesOwn.never rfl (pi_range1 (by rfl) T.z_range (pa_cons pe_int pa_nil)) (pg_name (i := 2) sc_law.nd rfl (Or.inl rfl))
      (pss_cons (ps_set (i := 3) sc_law.nd rfl (Or.inr rfl) (pe_call (ok_law_any_board T) (hr.mono (by decide)) (by rfl) T.g_law_any_board T.F_law_any_board.kp T.b_law_any_board .nil pass0 (pa_cons (pv 1) (pa_cons pe_int pa_nil))))
      (pss_cons (ps_setLc (i := 4) (own := [("_law_k", 5)]) (g := (gName 5)) (tt := tYes) (by rfl) sc_law.nd rfl rfl (sw_true rfl rfl rfl (by decide +kernel)) (pi_range1 (by rfl) T.z_range (pa_cons pe_int pa_nil)) (blkOk_by (own := [("_law_k", 5)]) (N := N_law) (sc := defScope s_law) (by decide +kernel)) (fun _ _ _ _ _ => (pg_name (i := 5) sc_law.nd rfl (Or.inl rfl))) (fun _ _ _ _ _ => pts_nil) (fun _ _ _ _ _ => (pe_call (ok_law_tried T) (hr.mono (by decide)) (by rfl) T.g_law_tried T.F_law_tried.kp T.b_law_tried .nil pass0 (pa_cons (pv 1) (pa_cons (pv 3) pa_nil)))))
      (pss_cons (ps_set (i := 4) sc_law.nd rfl (Or.inl rfl) (pe_op op_cat (pe_op op_cat (pv 4) (pe_lc (own := [("_law_value", 6)]) (g := (gName 6)) (tt := tYes) (by rfl) sc_law.nd (pi_list (pe_slice sl_list (pv 4) po_none (po_some pe_int))) (blkOk_by (own := [("_law_value", 6)]) (N := N_law) (sc := defScope s_law) (by decide +kernel)) (fun _ _ _ _ _ => (pg_name (i := 6) sc_law.nd rfl (Or.inl rfl))) (fun _ _ _ _ _ => pts_nil) (fun _ _ _ _ _ => (pe_call (ok_law_bent T) (hr.mono (by decide)) (by rfl) T.g_law_bent T.F_law_bent.kp T.b_law_bent .nil pass0 (pa_cons (pv 1) (pa_cons (pv 6) (pa_cons pe_int pa_nil))))))) (pe_lst (pa_cons (pe_call (ok_law_odd T) (hr.mono (by decide)) (by rfl) T.g_law_odd T.F_law_odd.kp T.b_law_odd .nil pass0 (pa_cons (pv 1) pa_nil)) pa_nil))))
      (pss_cons (ps_expr (pe_bm PySem.F.plainAttrs_list PySem.F.slot_list_append PySem.F.type_list_append mt_append (pv 4) (pa_cons (pe_tup (pa_cons pe_int (pa_cons (pe_callB call_len_seq (by rfl) T.z_len PySem.boot_len (pa_cons (pv 3) pa_nil)) (pa_cons pe_int (pa_cons pe_int pa_nil))))) pa_nil)))
      (pss_one (ps_for PassesOwn.never rfl (pi_list (pv 4)) (pg_name (i := 6) sc_law.nd rfl (Or.inl rfl))
      (pss_cons (ps_set (i := 7) sc_law.nd rfl (Or.inl rfl) (pe_callB (call_reprV hM hq hr.units) (by rfl) T.z_repr (by decide +kernel) (pa_cons (pe_lst (pa_cons (pv 3) (pa_cons (pv 6) pa_nil))) pa_nil)))
      (pss_cons (ps_set (i := 8) sc_law.nd rfl (Or.inl rfl) (pe_call (ok_is_rectangle T) (hr.mono (by decide)) (by rfl) T.g_is_rectangle T.F_is_rectangle.kp T.b_is_rectangle .nil pass0 (pa_cons (pv 3) (pa_cons (pv 6) pa_nil))))
      (pss_cons (ps_if (PW.pt (pw_or (pt_not (pt_val (pe_callB call_isi (by rfl) T.z_isinstance (by decide +kernel) (pa_cons (pv 8) (pa_cons (pe_bltn (v := .ty "bool") (u := .type "bool") (by rfl) T.z_bool (by decide +kernel) rfl) pa_nil))))) (pw_or1 (pt_cmpR op_ne (pv 8) (pe_call (ok_law_is_rectangle T) (hr.mono (by decide)) (by rfl) T.g_law_is_rectangle T.F_law_is_rectangle.kp T.b_law_is_rectangle .nil pass0 (pa_cons (pv 3) (pa_cons (pv 6) pa_nil))) (nomark _)))))
      (pss_one (ps_ret pe_bl))
      pss_nil)
      (pss_one (ps_if (pt_cmpR op_ne (pe_callB (call_reprV hM hq hr.units) (by rfl) T.z_repr (by decide +kernel) (pa_cons (pe_lst (pa_cons (pv 3) (pa_cons (pv 6) pa_nil))) pa_nil)) (pv 7) (nomark _))
      (pss_one (ps_ret pe_bl))
      pss_nil))))))))))))
      (pss_one (ps_ret pe_bl)))), ?_⟩
    refine ⟨.ref a, rfl, a, ns, rfl, hS, hlen, fun H1 d c s1 nd dk0 => ?_⟩
    refine ⟨5, rfl, by decide, by decide, for_range (D := ⟨_, _, fun _ _ => True, fun _ _ => True⟩) (n := 5) (fun i σ H' => (∃ n : Int, Dk H' d c n ∧ 0 ≤ n ∧ n ≤ 200 * i) ∧ ∃ y2 y3 y4 y5 y6 y7 y8, σ = [some (.ref a), some (.ref d), y2, y3, y4, y5, y6, y7, y8])
      ⟨⟨0, dk0, by decide, by decide⟩, _, _, _, _, _, _, _, rfl⟩ ?_ (fun σ H' _ => q H')⟩
    rintro i σ H2 hi ⟨⟨n, dk2, n0, n1⟩, y2, y3, y4, y5, y6, y7, y8, rfl⟩
    refine ⟨.ref d, rfl, d, c, n, 8, rfl, dk2, n0, by omega, by decide, by decide, fun H3 bd us bs m3 kp3 dk3 b30 b31 ebd ovs lb1 lb2 okb => ?_⟩
    have lu := ovs.1
    have lus : us.length ≤ 8 := by omega
    have big : sizeLine = 16777216 := by decide
    -- the tries
    refine ⟨10, rfl, by decide, by decide, fun D nD => ?_⟩
    have offD := dk3.off nD
    refine lc_range (lo := 0) (n := 10) (fun k H' => Kp d c H3 H' ∧ Dk H' d c (m3 + 5 * k) ∧ ∃ ws, H' D = some (.lst ws) ∧ ws.length = k ∧ ∀ v ∈ ws, T4 H' v) ⟨Kp.same (same_new nD), (dk3.upd offD).eq (by simp), [], upd_same, rfl, fun v hv => nomatch hv⟩ ?_ ?_
    · rintro k H' hk ⟨kp', dk', ws, eD, lw, all⟩
      refine ⟨rfl, .ref d, rfl, .ref bd, rfl, d, c, _, bd, us, bs, rfl, dk', by omega, by omega, kp'.tup dk3 ebd, ovs.tps (kp'.tps dk3), lb1, by omega, okb, fun H'' v' kp'' dk'' t4 => ?_⟩
      have eD'' := kp''.keep offD eD
      refine ⟨ws, eD'', small1000 (by omega), fun b o n1 n2 e => ?_, (dk''.upd offD).eq (by omega), ws ++ [v'], upd_same, by rw [List.length_append, lw]; rfl, fun v hv => ?_⟩
      · rw [upd_ne (ne_of_none e nD)]
        exact (kp'.trans kp'') b o n1 n2 e
      · rcases List.mem_append.mp hv with hv | hv
        · exact ((all v hv).tps (kp''.tps dk')).tps (Tps.lst eD'')
        · rw [List.mem_singleton.mp hv]
          exact t4.tps (Tps.lst eD'')
    rintro H4 ⟨kp4, dk4, ws, eD, lw, all4⟩
    have dk4 : Dk H4 d c (m3 + 50) := dk4.eq (by omega)
    have t34 := kp4.tps dk3
    have ebd4 := t34 _ _ ebd
    -- the bent ones
    refine ⟨.ref D, rfl, .ref D, rfl, 6, rfl, D, ws, rfl, SqL.of eD, fun p6 np6 => ?_⟩
    rw [show cutV ws none (some 6) = ws.take 6 from cutTo ws 6]
    have off6 := dk4.off np6
    have s5 := same_new (o := .lst (ws.take 6)) np6
    have e6 := upd_same (H := H4) (a := p6) (o := .lst (ws.take 6))
    generalize upd H4 p6 (.lst (ws.take 6)) = H5 at *
    have dk5 := dk4.kept s5
    have offD5 : Off d c D := offD
    have l6 : (ws.take 6).length = 6 := by rw [List.length_take, lw]; rfl
    refine ⟨p6, rfl, ⟨_, SqL.of e6⟩, fun D2 nD2 => ?_⟩
    have offD2 := dk5.off nD2
    refine lc_list (K := K) (a := p6) (xs := ws.take 6) (fun k H' => Kp d c H5 H' ∧ (∃ m : Int, Dk H' d c m ∧ m3 + 50 ≤ m ∧ m ≤ m3 + 50 + 12 * k) ∧ ∃ zs, H' D2 = some (.lst zs) ∧ zs.length ≤ k ∧ ∀ v ∈ zs, Gn K 121132 5 (OffH d c D2 H') v) ⟨Kp.same (same_new nD2), ⟨m3 + 50, dk5.upd offD2, by omega, by omega⟩, [], upd_same, Nat.le_refl _, fun v hv => nomatch hv⟩ (fun k H' _ h => SqL.of (h.1.keep off6 e6)) ?_ ?_
    · rintro k v H' hk ⟨kp', ⟨m, dk', b0, b1⟩, zs, eD2, lz, all⟩
      have kl := (List.getElem?_eq_some_iff.mp hk).1
      have lD : LsD d c D2 H' := ⟨offD2.1, offD2.2.1, zs, eD2⟩
      have t4 := (all4 v (List.mem_of_mem_take (List.mem_of_getElem? hk))).tps ((Tps.same s5).trans (kp'.tps dk5))
      refine ⟨rfl, .ref d, rfl, v, rfl, d, c, D2, m, v, rfl, dk', lD, by omega, by omega, t4_in dk' lD t4, fun H'' v' m' kp'' dk'' q0 q1 g => ?_⟩
      refine ⟨zs, kp''.keep offD2 eD2, small1000 (by omega), fun b o n1 n2 e => ?_, ⟨m', dk''.upd offD2, by omega, by omega⟩, zs ++ [v'], upd_same, by rw [List.length_append]; exact Nat.succ_le_succ lz, fun w hw => ?_⟩
      · rw [upd_ne (ne_of_none e nD2)]
        exact (kp'.trans kp'') b o n1 n2 e
      · rcases List.mem_append.mp hw with hw | hw
        · exact ((all w hw).same (offH_kp kp'')).same offH_upd
        · rw [List.mem_singleton.mp hw]
          exact (g.mono (by decide) (by decide)).same offH_upd
    rintro H6 ⟨kp6, ⟨m6, dk6, b0, b1⟩, zs, eD2, lz, all6⟩
    have kp46 : Kp d c H4 H6 := (Kp.same s5).trans kp6
    refine ⟨D, D2, ws, zs, rfl, rfl, kp46.keep offD eD, eD2, by rw [big]; omega, fun l1 nl1 => ?_⟩
    have offl1 := dk6.off nl1
    have s7 := same_new (o := .lst (ws ++ zs)) nl1
    have e7 := upd_same (H := H6) (a := l1) (o := .lst (ws ++ zs))
    generalize upd H6 l1 (.lst (ws ++ zs)) = H7 at *
    have dk7 := dk6.kept s7
    refine ⟨.ref d, rfl, d, c, c.2, m6, rfl, dk7, dk7.lsd, by omega, by omega, fun H8 vo kp8 dk8 go => ?_⟩
    refine ⟨by show 1 ≤ sizeLine; decide, fun l2 nl2 => ?_⟩
    have s9 := same_new (o := .lst [vo]) nl2
    have e9 := upd_same (H := H8) (a := l2) (o := .lst [vo])
    generalize upd H8 l2 (.lst [vo]) = H9 at *
    have dk9 := dk8.kept s9
    have vals : ∀ v ∈ (ws ++ zs) ++ [vo], Gn K 121132 5 H9 v := by
      have k68 : Kp d c H6 H9 := (Kp.same s7).trans (kp8.trans (Kp.same s9))
      intro v hv
      rcases List.mem_append.mp hv with hv | hv
      · rcases List.mem_append.mp hv with hv | hv
        · exact t4_gn dk9 ((all4 v hv).tps ((kp46.tps dk4).trans (k68.tps dk6)))
        · exact ((all6 v hv).same (offH_kp k68)).same offH_sub
      · rw [List.mem_singleton.mp hv]
        exact ((go.mono (by decide) (by decide)).same offH_sub).same s9
    have k49 : Kp d c H4 H9 := kp46.trans ((Kp.same s7).trans (kp8.trans (Kp.same s9)))
    have t39 : Tps H3 H9 := t34.trans (k49.tps dk4)
    have ebd9 := t39 _ _ ebd
    have ovs9 := ovs.tps t39
    refine ⟨l1, l2, ws ++ zs, [vo], rfl, rfl, s9 _ _ (kp8.keep offl1 e7), e9, by rw [big, List.length_append]; show _ + _ + 1 ≤ _; omega, fun lv nlv => ?_⟩
    have lvs : (ws ++ zs ++ [vo]).length < 1000 := by
      rw [List.length_append, List.length_append]
      show _ + _ + 1 < 1000
      omega
    generalize ws ++ zs ++ [vo] = vs at *
    have s10 := same_new (o := .lst vs) nlv
    have e10 := upd_same (H := H9) (a := lv) (o := .lst vs)
    have hfree : ∀ H', Same (upd H9 lv (.lst vs)) H' → ∀ o, Same H9 (upd H' lv o) := fun H' s o => same_off nlv (s10.trans s)
    have dk10 := dk9.kept s10
    have offlv := dk9.off nlv
    generalize upd H9 lv (.lst vs) = H10 at *
    -- one beyond the board
    refine ⟨.ref lv, rfl, .inl ⟨rfl, _, SqL.of e10⟩, .ref bd, rfl, bd, us, rfl, .inr (SqT.of (s10 _ _ ebd9)), by show 4 ≤ sizeLine; decide, fun t nt => ?_⟩
    have s11 := same_new (o := .tup [.int 0, .int us.length, .int 0, .int 0]) nt
    have e11 := upd_same (H := H10) (a := t) (o := .tup [.int 0, .int us.length, .int 0, .int 0])
    generalize upd H10 t (.tup [.int 0, .int us.length, .int 0, .int 0]) = H11 at *
    have s911 := hfree H11 s11
    refine ⟨lv, vs, _, rfl, rfl, s11 _ _ e10, small1000 (by omega), ?_⟩
    have s12 := s911 (.lst (vs ++ [.ref t]))
    have e12 : upd H11 lv (.lst (vs ++ [.ref t])) lv = some (.lst (vs ++ [.ref t])) := upd_same
    have et : upd H11 lv (.lst (vs ++ [.ref t])) t = some (.tup [.int 0, .int us.length, .int 0, .int 0]) := (Tps.lst (s11 _ _ e10)) _ _ e11
    have dk12 : Dk (upd H11 lv (.lst (vs ++ [.ref t]))) d c m6 ∨ True := .inr trivial
    have dkF : Dk (upd H11 lv (.lst (vs ++ [.ref t]))) d c (m6 + 1) := (dk10.kept s11).upd offlv
    generalize upd H11 lv (.lst (vs ++ [.ref t])) = H12 at *
    have t4l : T4 H12 (.ref t) := ⟨t, 0, us.length, 0, 0, rfl, et, by omega, by omega, by omega, by omega⟩
    have vals2 : ∀ v ∈ vs ++ [.ref t], Gn K 121132 5 H12 v := fun v hv => by
      rcases List.mem_append.mp hv with hv | hv
      · exact (vals v hv).same s12
      · rw [List.mem_singleton.mp hv]
        exact t4_gn dkF t4l
    generalize vs ++ [V.ref t] = vs2 at *
    have ebdF := s12 _ _ ebd9
    have ovsF := ovs9.same s12
    have gb : Gn K 121132 5 H12 (.ref bd) := (row_gn (cols_in dkF dkF.lsd ovsF okb) (by omega) (offH_get (dkF.offT ebdF) (dkF.lsd.tup ebdF) ebdF)).same offH_sub
    obtain ⟨bdd, hbd, smb⟩ := gb
    refine ⟨.ref lv, rfl, lv, rfl, ⟨_, SqL.of e12⟩, ?_⟩
    refine for_list (K := K) (a := lv) (xs := vs2) (D := ⟨_, _, fun _ _ => True, fun _ _ => True⟩) (fun j σ H' => Same H12 H' ∧ ∃ y5 y6 y7 y8, σ = [some (.ref a), some (.ref d), some (.int (0 + (i : Nat))), some (.ref bd), some (.ref lv), y5, y6, y7, y8])
      ⟨Same.refl _, _, _, _, _, rfl⟩ (fun j σ H' _ h => SqL.of (h.1 _ _ e12)) ?_ ?_
    · rintro j v σ Ha hj ⟨sa, y5, y6, y7, y8, rfl⟩
      obtain ⟨x, hv, smv⟩ := vals2 v (List.mem_of_getElem? hj)
      have both : Sm 300000 60 (.list [bdd, x]) := (Sm.lst (ds := [bdd, x]) (n := 121132) (dp := 5) (fun e he => by
        simp only [List.mem_cons, List.not_mem_nil, or_false] at he
        rcases he with rfl | rfl
        · exact smb
        · exact smv)).mono (by show 2 * (121132 + 1) ≤ 300000; decide) (by decide)
      refine ⟨.ref bd, rfl, v, rfl, by show 2 ≤ sizeLine; decide, fun w1 nw1 => ?_⟩
      have sb := same_new (o := .lst [.ref bd, v]) nw1
      have eb1 := upd_same (H := Ha) (a := w1) (o := .lst [.ref bd, v])
      generalize upd Ha w1 (.lst [.ref bd, v]) = Hb at *
      have s12b := sa.trans sb
      refine ⟨.ref w1, .list [bdd, x], _, _, rfl, .lst eb1 (.cons (dv_same s12b hbd) (.cons (dv_same s12b hv) .nil)), both, by decide, by decide, ?_⟩
      refine ⟨.ref bd, rfl, v, rfl, bd, us, bs, v, x, rfl, s12b _ _ ebdF, ovsF.same s12b, by omega, dv_same s12b hv, fun Hc k sc hk => ?_⟩
      have s12c := s12b.trans sc
      refine ⟨.bl k, rfl, .bl k, .ty "bool", _, _, _, rfl, .ty "bool", .base (.bl k), kit_ty (a := "bool") (b := "bool") (r := true) (by decide +kernel), _, rfl, iteF ?_⟩
      refine ⟨.bl k, rfl, .ref bd, rfl, v, rfl, bd, us, bs, v, x, rfl, s12c _ _ ebdF, ovsF.same s12c, by omega, okb, dv_same s12c hv, fun Hd k' sd hk' => ?_⟩
      have ek : k = k' := by rw [Bool.eq_iff_iff, hk, hk']
      subst ek
      have s12d := s12c.trans sd
      refine ⟨rfl, _, rfl, iteNS rfl ?_⟩
      refine ⟨.ref bd, rfl, v, rfl, by show 2 ≤ sizeLine; decide, fun w2 nw2 => ?_⟩
      have se := same_new (o := .lst [.ref bd, v]) nw2
      have eb2 := upd_same (H := Hd) (a := w2) (o := .lst [.ref bd, v])
      generalize upd Hd w2 (.lst [.ref bd, v]) = He at *
      have s12e := s12d.trans se
      refine ⟨.ref w2, .list [bdd, x], _, _, rfl, .lst eb2 (.cons (dv_same s12e hbd) (.cons (dv_same s12e hv) .nil)), both, by decide, by decide, .str _, rfl, rfl, _, rfl, iteNS rfl ?_⟩
      exact ⟨s12e, _, _, _, _, rfl⟩
    · rintro σ Ha ⟨sa, y5, y6, y7, y8, rfl⟩
      exact ⟨⟨_, dkF.kept sa, by omega, by omega⟩, _, _, _, _, _, _, _, rfl⟩

end
theorem all_mk {l : PySem.W.OpenLaw} {w : World} {K : PySem.W.Frag} {h : Heap} {mg : Str → Option Value} {fa f1 f2 f3 f4 f5 f6 f7 f8 f9 f10 f11 f12 f13 f14 f15 f16 f17 f18 f19 : Addr} (X : K.In h) (G : h.Ns mainGlobals mg) (hfa : mg "law" = some (.ref fa))
    {od1 an1 od2 an2 od3 an3 od4 an4 od5 an5 od6 an6 od7 an7 od8 an8 od9 an9 od10 an10 od11 an11 od12 an12 od13 an13 od14 an14 od15 an15 od16 an16 od17 an17 od18 an18 od19 an19 : Option Addr} {sl1 sl2 sl3 sl4 sl5 sl6 sl7 sl8 sl9 sl10 sl11 sl12 sl13 sl14 sl15 sl16 sl17 sl18 sl19 : Array (Option Value)} {oc1 kV1 dc1 pm1 cd1 ct1 oc2 kV2 dc2 pm2 cd2 ct2 oc3 kV3 dc3 pm3 cd3 ct3 oc4 kV4 dc4 pm4 cd4 ct4 oc5 kV5 dc5 pm5 cd5 ct5 oc6 kV6 dc6 pm6 cd6 ct6 oc7 kV7 dc7 pm7 cd7 ct7 oc8 kV8 dc8 pm8 cd8 ct8 oc9 kV9 dc9 pm9 cd9 ct9 oc10 kV10 dc10 pm10 cd10 ct10 oc11 kV11 dc11 pm11 cd11 ct11 oc12 kV12 dc12 pm12 cd12 ct12 oc13 kV13 dc13 pm13 cd13 ct13 oc14 kV14 dc14 pm14 cd14 ct14 oc15 kV15 dc15 pm15 cd15 ct15 oc16 kV16 dc16 pm16 cd16 ct16 oc17 kV17 dc17 pm17 cd17 ct17 oc18 kV18 dc18 pm18 cd18 ct18 oc19 kV19 dc19 pm19 cd19 ct19 : Value}
    (a1 : PySem.W.nsIn K mainGlobals "is_number" = some (some (.ref f1))) (l1 : K.lookup f1 = some ⟨oc1, od1, .func (PySem.W.fnOf "is_number" "is_number" (defArgs s_is_number) (defBody s_is_number) (defScope s_is_number) .none kV1 dc1 pm1 an1 cd1 ct1), sl1⟩) (c1 : PySem.W.codeIn K cd1 "is_number" = true) (k1 : PySem.W.keepIn K (.ref f1) = true)
    (a2 : PySem.W.nsIn K mainGlobals "is_tuple_of" = some (some (.ref f2))) (l2 : K.lookup f2 = some ⟨oc2, od2, .func (PySem.W.fnOf "is_tuple_of" "is_tuple_of" (defArgs s_is_tuple_of) (defBody s_is_tuple_of) (defScope s_is_tuple_of) .none kV2 dc2 pm2 an2 cd2 ct2), sl2⟩) (c2 : PySem.W.codeIn K cd2 "is_tuple_of" = true) (k2 : PySem.W.keepIn K (.ref f2) = true)
    (a3 : PySem.W.nsIn K mainGlobals "contains" = some (some (.ref f3))) (l3 : K.lookup f3 = some ⟨oc3, od3, .func (PySem.W.fnOf "contains" "contains" (defArgs s_contains) (defBody s_contains) (defScope s_contains) .none kV3 dc3 pm3 an3 cd3 ct3), sl3⟩) (c3 : PySem.W.codeIn K cd3 "contains" = true) (k3 : PySem.W.keepIn K (.ref f3) = true)
    (a4 : PySem.W.nsIn K mainGlobals "is_rectangle" = some (some (.ref f4))) (l4 : K.lookup f4 = some ⟨oc4, od4, .func (PySem.W.fnOf "is_rectangle" "is_rectangle" (defArgs s_is_rectangle) (defBody s_is_rectangle) (defScope s_is_rectangle) .none kV4 dc4 pm4 an4 cd4 ct4), sl4⟩) (c4 : PySem.W.codeIn K cd4 "is_rectangle" = true) (k4 : PySem.W.keepIn K (.ref f4) = true)
    (a5 : PySem.W.nsIn K mainGlobals "_law_draws" = some (some (.ref f5))) (l5 : K.lookup f5 = some ⟨oc5, od5, .func (PySem.W.fnOf "_law_draws" "_law_draws" (defArgs s_law_draws) (defBody s_law_draws) (defScope s_law_draws) .none kV5 dc5 pm5 an5 cd5 ct5), sl5⟩) (c5 : PySem.W.codeIn K cd5 "_law_draws" = true) (k5 : PySem.W.keepIn K (.ref f5) = true)
    (a6 : PySem.W.nsIn K mainGlobals "_law_next" = some (some (.ref f6))) (l6 : K.lookup f6 = some ⟨oc6, od6, .func (PySem.W.fnOf "_law_next" "_law_next" (defArgs s_law_next) (defBody s_law_next) (defScope s_law_next) .none kV6 dc6 pm6 an6 cd6 ct6), sl6⟩) (c6 : PySem.W.codeIn K cd6 "_law_next" = true) (k6 : PySem.W.keepIn K (.ref f6) = true)
    (a7 : PySem.W.nsIn K mainGlobals "_law_pick" = some (some (.ref f7))) (l7 : K.lookup f7 = some ⟨oc7, od7, .func (PySem.W.fnOf "_law_pick" "_law_pick" (defArgs s_law_pick) (defBody s_law_pick) (defScope s_law_pick) .none kV7 dc7 pm7 an7 cd7 ct7), sl7⟩) (c7 : PySem.W.codeIn K cd7 "_law_pick" = true) (k7 : PySem.W.keepIn K (.ref f7) = true)
    (a8 : PySem.W.nsIn K mainGlobals "_law_column" = some (some (.ref f8))) (l8 : K.lookup f8 = some ⟨oc8, od8, .func (PySem.W.fnOf "_law_column" "_law_column" (defArgs s_law_column) (defBody s_law_column) (defScope s_law_column) .none kV8 dc8 pm8 an8 cd8 ct8), sl8⟩) (c8 : PySem.W.codeIn K cd8 "_law_column" = true) (k8 : PySem.W.keepIn K (.ref f8) = true)
    (a9 : PySem.W.nsIn K mainGlobals "_law_board" = some (some (.ref f9))) (l9 : K.lookup f9 = some ⟨oc9, od9, .func (PySem.W.fnOf "_law_board" "_law_board" (defArgs s_law_board) (defBody s_law_board) (defScope s_law_board) .none kV9 dc9 pm9 an9 cd9 ct9), sl9⟩) (c9 : PySem.W.codeIn K cd9 "_law_board" = true) (k9 : PySem.W.keepIn K (.ref f9) = true)
    (a10 : PySem.W.nsIn K mainGlobals "_law_stretch" = some (some (.ref f10))) (l10 : K.lookup f10 = some ⟨oc10, od10, .func (PySem.W.fnOf "_law_stretch" "_law_stretch" (defArgs s_law_stretch) (defBody s_law_stretch) (defScope s_law_stretch) .none kV10 dc10 pm10 an10 cd10 ct10), sl10⟩) (c10 : PySem.W.codeIn K cd10 "_law_stretch" = true) (k10 : PySem.W.keepIn K (.ref f10) = true)
    (a11 : PySem.W.nsIn K mainGlobals "_law_any_board" = some (some (.ref f11))) (l11 : K.lookup f11 = some ⟨oc11, od11, .func (PySem.W.fnOf "_law_any_board" "_law_any_board" (defArgs s_law_any_board) (defBody s_law_any_board) (defScope s_law_any_board) .none kV11 dc11 pm11 an11 cd11 ct11), sl11⟩) (c11 : PySem.W.codeIn K cd11 "_law_any_board" = true) (k11 : PySem.W.keepIn K (.ref f11) = true)
    (a12 : PySem.W.nsIn K mainGlobals "_law_is_int" = some (some (.ref f12))) (l12 : K.lookup f12 = some ⟨oc12, od12, .func (PySem.W.fnOf "_law_is_int" "_law_is_int" (defArgs s_law_is_int) (defBody s_law_is_int) (defScope s_law_is_int) .none kV12 dc12 pm12 an12 cd12 ct12), sl12⟩) (c12 : PySem.W.codeIn K cd12 "_law_is_int" = true) (k12 : PySem.W.keepIn K (.ref f12) = true)
    (a13 : PySem.W.nsIn K mainGlobals "_law_inside" = some (some (.ref f13))) (l13 : K.lookup f13 = some ⟨oc13, od13, .func (PySem.W.fnOf "_law_inside" "_law_inside" (defArgs s_law_inside) (defBody s_law_inside) (defScope s_law_inside) .none kV13 dc13 pm13 an13 cd13 ct13), sl13⟩) (c13 : PySem.W.codeIn K cd13 "_law_inside" = true) (k13 : PySem.W.keepIn K (.ref f13) = true)
    (a14 : PySem.W.nsIn K mainGlobals "_law_full" = some (some (.ref f14))) (l14 : K.lookup f14 = some ⟨oc14, od14, .func (PySem.W.fnOf "_law_full" "_law_full" (defArgs s_law_full) (defBody s_law_full) (defScope s_law_full) .none kV14 dc14 pm14 an14 cd14 ct14), sl14⟩) (c14 : PySem.W.codeIn K cd14 "_law_full" = true) (k14 : PySem.W.keepIn K (.ref f14) = true)
    (a15 : PySem.W.nsIn K mainGlobals "_law_is_rectangle" = some (some (.ref f15))) (l15 : K.lookup f15 = some ⟨oc15, od15, .func (PySem.W.fnOf "_law_is_rectangle" "_law_is_rectangle" (defArgs s_law_is_rectangle) (defBody s_law_is_rectangle) (defScope s_law_is_rectangle) .none kV15 dc15 pm15 an15 cd15 ct15), sl15⟩) (c15 : PySem.W.codeIn K cd15 "_law_is_rectangle" = true) (k15 : PySem.W.keepIn K (.ref f15) = true)
    (a16 : PySem.W.nsIn K mainGlobals "_law_odd" = some (some (.ref f16))) (l16 : K.lookup f16 = some ⟨oc16, od16, .func (PySem.W.fnOf "_law_odd" "_law_odd" (defArgs s_law_odd) (defBody s_law_odd) (defScope s_law_odd) .none kV16 dc16 pm16 an16 cd16 ct16), sl16⟩) (c16 : PySem.W.codeIn K cd16 "_law_odd" = true) (k16 : PySem.W.keepIn K (.ref f16) = true)
    (a17 : PySem.W.nsIn K mainGlobals "_law_bent" = some (some (.ref f17))) (l17 : K.lookup f17 = some ⟨oc17, od17, .func (PySem.W.fnOf "_law_bent" "_law_bent" (defArgs s_law_bent) (defBody s_law_bent) (defScope s_law_bent) .none kV17 dc17 pm17 an17 cd17 ct17), sl17⟩) (c17 : PySem.W.codeIn K cd17 "_law_bent" = true) (k17 : PySem.W.keepIn K (.ref f17) = true)
    (a18 : PySem.W.nsIn K mainGlobals "_law_tried" = some (some (.ref f18))) (l18 : K.lookup f18 = some ⟨oc18, od18, .func (PySem.W.fnOf "_law_tried" "_law_tried" (defArgs s_law_tried) (defBody s_law_tried) (defScope s_law_tried) .none kV18 dc18 pm18 an18 cd18 ct18), sl18⟩) (c18 : PySem.W.codeIn K cd18 "_law_tried" = true) (k18 : PySem.W.keepIn K (.ref f18) = true)
    (a19 : PySem.W.nsIn K mainGlobals "law" = some (some (.ref f19))) (l19 : K.lookup f19 = some ⟨oc19, od19, .func (PySem.W.fnOf "law" "law" (defArgs s_law) (defBody s_law) (defScope s_law) .none kV19 dc19 pm19 an19 cd19 ct19), sl19⟩) (c19 : PySem.W.codeIn K cd19 "law" = true) (k19 : PySem.W.keepIn K (.ref f19) = true)
    (z0 : PySem.W.nsIn K mainGlobals "all" = some none) (z1 : PySem.W.nsIn K mainGlobals "bool" = some none) (z2 : PySem.W.nsIn K mainGlobals "int" = some none) (z3 : PySem.W.nsIn K mainGlobals "isinstance" = some none) (z4 : PySem.W.nsIn K mainGlobals "len" = some none) (z5 : PySem.W.nsIn K mainGlobals "list" = some none) (z6 : PySem.W.nsIn K mainGlobals "max" = some none) (z7 : PySem.W.nsIn K mainGlobals "min" = some none) (z8 : PySem.W.nsIn K mainGlobals "range" = some none) (z9 : PySem.W.nsIn K mainGlobals "repr" = some none) (z10 : PySem.W.nsIn K mainGlobals "str" = some none) (z11 : PySem.W.nsIn K mainGlobals "tuple" = some none) :
    ∃ fd : FuncData, (∀ (s : Shared) (v : Value), BindsTo s fd ⟨[v], []⟩ [("_law_script", v)]) ∧ ∀ base : Heap, K.In base → base.Ns mainGlobals mg → (∃ mm, base.Ns sysModules mm) → FnG l.prog w K mg base 8 fa fd ["_law_script"] (sp_law K) := by
  have e := hfa.symm.trans (PySem.W.mg_of X G a19)
  cases e
  have F1 := fun_mk (st := s_is_number) l1 c1 k1
  have b1 := F1.binds (ps := ["value"]) fun _ _ _ _ _ _ us hl => match us, hl with | [_], _ => rfl
  have F2 := fun_mk (st := s_is_tuple_of) l2 c2 k2
  have b2 := F2.binds (ps := ["value", "length"]) fun _ _ _ _ _ _ us hl => match us, hl with | [_, _], _ => rfl
  have F3 := fun_mk (st := s_contains) l3 c3 k3
  have b3 := F3.binds (ps := ["outer", "inner"]) fun _ _ _ _ _ _ us hl => match us, hl with | [_, _], _ => rfl
  have F4 := fun_mk (st := s_is_rectangle) l4 c4 k4
  have b4 := F4.binds (ps := ["board", "value"]) fun _ _ _ _ _ _ us hl => match us, hl with | [_, _], _ => rfl
  have F5 := fun_mk (st := s_law_draws) l5 c5 k5
  have b5 := F5.binds (ps := ["_law_script"]) fun _ _ _ _ _ _ us hl => match us, hl with | [_], _ => rfl
  have F6 := fun_mk (st := s_law_next) l6 c6 k6
  have b6 := F6.binds (ps := ["_law_drawn", "_law_many"]) fun _ _ _ _ _ _ us hl => match us, hl with | [_, _], _ => rfl
  have F7 := fun_mk (st := s_law_pick) l7 c7 k7
  have b7 := F7.binds (ps := ["_law_drawn", "_law_items"]) fun _ _ _ _ _ _ us hl => match us, hl with | [_, _], _ => rfl
  have F8 := fun_mk (st := s_law_column) l8 c8 k8
  have b8 := F8.binds (ps := ["_law_drawn", "_law_height"]) fun _ _ _ _ _ _ us hl => match us, hl with | [_, _], _ => rfl
  have F9 := fun_mk (st := s_law_board) l9 c9 k9
  have b9 := F9.binds (ps := ["_law_drawn", "_law_most", "_law_height"]) fun _ _ _ _ _ _ us hl => match us, hl with | [_, _, _], _ => rfl
  have F10 := fun_mk (st := s_law_stretch) l10 c10 k10
  have b10 := F10.binds (ps := ["_law_board_here", "_law_base", "_law_gap"]) fun _ _ _ _ _ _ us hl => match us, hl with | [_, _, _], _ => rfl
  have F11 := fun_mk (st := s_law_any_board) l11 c11 k11
  have b11 := F11.binds (ps := ["_law_drawn", "_law_most"]) fun _ _ _ _ _ _ us hl => match us, hl with | [_, _], _ => rfl
  have F12 := fun_mk (st := s_law_is_int) l12 c12 k12
  have b12 := F12.binds (ps := ["_law_value", "_law_low", "_law_high"]) fun _ _ _ _ _ _ us hl => match us, hl with | [_, _, _], _ => rfl
  have F13 := fun_mk (st := s_law_inside) l13 c13 k13
  have b13 := F13.binds (ps := ["_law_board_here", "_law_column_here", "_law_row"]) fun _ _ _ _ _ _ us hl => match us, hl with | [_, _, _], _ => rfl
  have F14 := fun_mk (st := s_law_full) l14 c14 k14
  have b14 := F14.binds (ps := ["_law_board_here", "_law_left", "_law_right", "_law_bottom", "_law_top"]) fun _ _ _ _ _ _ us hl => match us, hl with | [_, _, _, _, _], _ => rfl
  have F15 := fun_mk (st := s_law_is_rectangle) l15 c15 k15
  have b15 := F15.binds (ps := ["_law_board_here", "_law_value"]) fun _ _ _ _ _ _ us hl => match us, hl with | [_, _], _ => rfl
  have F16 := fun_mk (st := s_law_odd) l16 c16 k16
  have b16 := F16.binds (ps := ["_law_drawn"]) fun _ _ _ _ _ _ us hl => match us, hl with | [_], _ => rfl
  have F17 := fun_mk (st := s_law_bent) l17 c17 k17
  have b17 := F17.binds (ps := ["_law_drawn", "_law_value", "_law_depth"]) fun _ _ _ _ _ _ us hl => match us, hl with | [_, _, _], _ => rfl
  have F18 := fun_mk (st := s_law_tried) l18 c18 k18
  have b18 := F18.binds (ps := ["_law_drawn", "_law_board_here"]) fun _ _ _ _ _ _ us hl => match us, hl with | [_, _], _ => rfl
  have F19 := fun_mk (st := s_law) l19 c19 k19
  have b19 := F19.binds (ps := ["_law_script"]) fun _ _ _ _ _ _ us hl => match us, hl with | [_], _ => rfl
  have T : Tx K mg _ _ _ _ _ _ _ _ _ _ _ _ _ _ _ _ _ _ _ _ _ _ _ _ _ _ _ _ _ _ _ _ _ _ _ _ _ _ := ⟨F1, b1, PySem.W.mg_of X G a1, F2, b2, PySem.W.mg_of X G a2, F3, b3, PySem.W.mg_of X G a3, F4, b4, PySem.W.mg_of X G a4, F5, b5, PySem.W.mg_of X G a5, F6, b6, PySem.W.mg_of X G a6, F7, b7, PySem.W.mg_of X G a7, F8, b8, PySem.W.mg_of X G a8, F9, b9, PySem.W.mg_of X G a9, F10, b10, PySem.W.mg_of X G a10, F11, b11, PySem.W.mg_of X G a11, F12, b12, PySem.W.mg_of X G a12, F13, b13, PySem.W.mg_of X G a13, F14, b14, PySem.W.mg_of X G a14, F15, b15, PySem.W.mg_of X G a15, F16, b16, PySem.W.mg_of X G a16, F17, b17, PySem.W.mg_of X G a17, F18, b18, PySem.W.mg_of X G a18, F19, b19, PySem.W.mg_of X G a19, PySem.W.mg_none_of X G z0, PySem.W.mg_none_of X G z1, PySem.W.mg_none_of X G z2, PySem.W.mg_none_of X G z3, PySem.W.mg_none_of X G z4, PySem.W.mg_none_of X G z5, PySem.W.mg_none_of X G z6, PySem.W.mg_none_of X G z7, PySem.W.mg_none_of X G z8, PySem.W.mg_none_of X G z9, PySem.W.mg_none_of X G z10, PySem.W.mg_none_of X G z11⟩
  exact ⟨_, fun s v => .of_eq rfl, fun base _ _ hM => ok_law T hM⟩
end L9
open PySem PySem.W PyProof.Rows
set_option maxHeartbeats 0 in
theorem PySem.Challenge.cw_fewspans_k58_rectangles_judged_holds : PySem.Challenge.rw_fewspans_k58_rectangles_judged.Holds := by
  w_on; o_law; k_head; (case hw => w_witness2)
  k_fill
  refine L9.quiet_walk (l := PySem.Challenge.rw_fewspans_k58_rectangles_judged) (n := 63) (k := 8) (x := "_law_script") (sp := fun w => L9.sp_law _) (by decide +kernel) rfl (by decide) rfl ⟨rfl, by decide, by decide⟩ (fun w h Y => PySem.W.kIn_of Y) ?F (fun _ _ a ns hl _ hS => ⟨a, ns, rfl, hS, hl, fun _ => rfl⟩)
  case F =>
    intro w mg fa h KX G hmg
    refine' L9.all_mk KX G hmg ?a1 ?l1 ?c1 ?k1 ?a2 ?l2 ?c2 ?k2 ?a3 ?l3 ?c3 ?k3 ?a4 ?l4 ?c4 ?k4 ?a5 ?l5 ?c5 ?k5 ?a6 ?l6 ?c6 ?k6 ?a7 ?l7 ?c7 ?k7 ?a8 ?l8 ?c8 ?k8 ?a9 ?l9 ?c9 ?k9 ?a10 ?l10 ?c10 ?k10 ?a11 ?l11 ?c11 ?k11 ?a12 ?l12 ?c12 ?k12 ?a13 ?l13 ?c13 ?k13 ?a14 ?l14 ?c14 ?k14 ?a15 ?l15 ?c15 ?k15 ?a16 ?l16 ?c16 ?k16 ?a17 ?l17 ?c17 ?k17 ?a18 ?l18 ?c18 ?k18 ?a19 ?l19 ?c19 ?k19 ?z0 ?z1 ?z2 ?z3 ?z4 ?z5 ?z6 ?z7 ?z8 ?z9 ?z10 ?z11
    (case a1 => k_is)
    (case l1 => k_is)
    (case c1 => k_is)
    (case k1 => k_is)
    (case a2 => k_is)
    (case l2 => k_is)
    (case c2 => k_is)
    (case k2 => k_is)
    (case a3 => k_is)
    (case l3 => k_is)
    (case c3 => k_is)
    (case k3 => k_is)
    (case a4 => k_is)
    (case l4 => k_is)
    (case c4 => k_is)
    (case k4 => k_is)
    (case a5 => k_is)
    (case l5 => k_is)
    (case c5 => k_is)
    (case k5 => k_is)
    (case a6 => k_is)
    (case l6 => k_is)
    (case c6 => k_is)
    (case k6 => k_is)
    (case a7 => k_is)
    (case l7 => k_is)
    (case c7 => k_is)
    (case k7 => k_is)
    (case a8 => k_is)
    (case l8 => k_is)
    (case c8 => k_is)
    (case k8 => k_is)
    (case a9 => k_is)
    (case l9 => k_is)
    (case c9 => k_is)
    (case k9 => k_is)
    (case a10 => k_is)
    (case l10 => k_is)
    (case c10 => k_is)
    (case k10 => k_is)
    (case a11 => k_is)
    (case l11 => k_is)
    (case c11 => k_is)
    (case k11 => k_is)
    (case a12 => k_is)
    (case l12 => k_is)
    (case c12 => k_is)
    (case k12 => k_is)
    (case a13 => k_is)
    (case l13 => k_is)
    (case c13 => k_is)
    (case k13 => k_is)
    (case a14 => k_is)
    (case l14 => k_is)
    (case c14 => k_is)
    (case k14 => k_is)
    (case a15 => k_is)
    (case l15 => k_is)
    (case c15 => k_is)
    (case k15 => k_is)
    (case a16 => k_is)
    (case l16 => k_is)
    (case c16 => k_is)
    (case k16 => k_is)
    (case a17 => k_is)
    (case l17 => k_is)
    (case c17 => k_is)
    (case k17 => k_is)
    (case a18 => k_is)
    (case l18 => k_is)
    (case c18 => k_is)
    (case k18 => k_is)
    (case a19 => k_is)
    (case l19 => k_is)
    (case c19 => k_is)
    (case k19 => k_is)
    (case z0 => k_is)
    (case z1 => k_is)
    (case z2 => k_is)
    (case z3 => k_is)
    (case z4 => k_is)
    (case z5 => k_is)
    (case z6 => k_is)
    (case z7 => k_is)
    (case z8 => k_is)
    (case z9 => k_is)
    (case z10 => k_is)
    (case z11 => k_is)
