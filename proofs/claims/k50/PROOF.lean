import PyProof.Rows.All
import Wide.All
import OpenK.AllK
import Wide.FinOn
import PySem.Challenge.RW_fewspans_k50_interval_texts
import HandS.ForMost
import HandS.Wide
import HandS.IsInst
import HandS.Conv
import HandS.TupLe
import HandS.Strs
import HandS.SetFor
import HandS.Style
import HandS.TupSets
import HandS.Keys
import HandS.Zip
import HandS.SortRule
import HandS.TupAny
import HandS.Flow
import HandS.NoneIn
import HandS.TupMul
import HandS.Deep
import HandS.Text
import HandS.StrMore
import HandS.FStr
import PyProof.NeKinds
set_option Elab.async false
set_option linter.all false
set_option maxRecDepth 100000
set_option maxHeartbeats 4000000
namespace L9
open PySem PySem.Spec PyProof.Rows L2

/-- a statement that is never come to -/
theorem ps_never {X : Cx} {st : Stmt} : PS X st (fun _ _ _ => False) := ⟨fun _ _ _ _ _ _ h => h.elim⟩

/-! ### defs that are run where no text-making of the machine is under way (repr, str of nested data ask for it) -/
abbrev Quiet (A : Around) : Prop := A.guards = some []
structure FnG (P : Program) (w : World) (K : PySem.W.Frag) (mg : Str → Option Value) (base : Heap) (k : Nat) (f : Addr) (fd : FuncData) (ps : List Str) (sp : Sp) : Prop where
  size : ∀ {vs H Q}, sp vs H Q E0 → vs.length = ps.length
  go : ∀ {A outer s H us vs Q}, Room k A → Quiet A → Env0 P w K mg base A outer s H → BindsTo s fd ⟨us, []⟩ (ps.zip us) → Vals vs us → sp vs H Q E0 →
    codeAny (model P w) A (.call (.ref f) ⟨us, []⟩) (CR CX0 outer P w H s Q E0) s
section
variable {P : Program} {w : World} {K : PySem.W.Frag} {mg : Str → Option Value} {base : Heap}
theorem FnG.of {x qual : Str} {st : Stmt} {f : Addr} {fd : FuncData} {N ps : List Str} {k : Nat} {sp : Sp} (F : Fun K x qual st f fd) (S : FnScope N ps (defScope st))
    (size : ∀ {vs H Q}, sp vs H Q E0 → vs.length = ps.length)
    (body : ∀ cdv A outer s H vs Q, Room k (A.deeper (envOfC qual (defScope st) s.heap.objs.size f cdv)) → Quiet (A.deeper (envOfC qual (defScope st) s.heap.objs.size f cdv)) → sp vs H Q E0 →
      ∃ t, PSs (cxOf CX0 P w K mg base N qual (defScope st) f cdv A outer s H E0).nox (defBody st) t ∧ t { nx := fun _ H' => Q .non H', rt := Q } (start N vs) H) :
    FnG P w K mg base (k + 1) f fd ps sp := by
  obtain ⟨oc, od, kV, doc, pm, an, cdv, ct, osl, rfl, look, code⟩ := F.ex
  constructor
  · exact size
  intro A outer s H us vs Q room quiet e0 bind rel want
  have inH : K.In s.heap := e0.mod.kin.keeps fun b o q => (e0.bs b o q).1
  have lim := e0.mod.nolimit.keeps (fun b o q => (e0.bs b o q).1)
  have kinds : ∀ y ∈ ps.zip us, (defScope st).names.lookup y.1 = some .local ∨ ((defScope st).names.lookup y.1 = some .cell ∧ ((cellsFrom (s.heap.objs.size + 1) (defScope st).names []).lookup y.1).isSome = true) := by
    rintro ⟨n, v⟩ hy
    have hn := (List.of_mem_zip hy).1
    cases S.par n hn with
    | inl q => exact Or.inl q
    | inr q => exact Or.inr ⟨q, PySem.W.cellsFrom_some _ _ _ (Or.inl q)⟩
  apply codeAny_call_function room.depth (inH _ _ look) rfl S.co S.gen rfl (PySem.W.codeRec_of inH code)
  apply bind
  apply wpAny_newFunctionEnv_cells S.kind kinds
  intro env he s1 x
  subst he
  refine And.intro (lim.keeps x.toInCall.keep) (codeAny_func ?_)
  obtain ⟨t, ht, hq⟩ := body cdv A outer s H vs Q (room.deeper _) quiet want
  have I := inv_start (CX := CX0) (E := E0) S room.hd e0 (size want) rel x
  apply wpAny_mono (ht.nox.run [] s1 (start N vs) H _ I hq)
  · intro fl s' hs
    cases fl with
    | ret u =>
      obtain ⟨v, σ', H', J, rv, q⟩ := hs
      exact Exists.intro v ⟨H', J.os, J.bare, J.base, J.hok, rv, q⟩
    | next =>
      obtain ⟨σ', H', J, q⟩ := hs
      exact Exists.intro V.non ⟨H', J.os, J.bare, J.base, J.hok, rfl, q⟩
    | brk => exact hs.elim fun _ h => h.elim fun _ h => h.2.elim
    | cont => exact hs.elim fun _ h => h.elim fun _ h => h.2.elim
  · intro e s' hs
    exact hs
end
section
variable {X : Cx} {k : Nat} {f : Addr} {fd : FuncData} {ps : List Str} {sp : Sp} {x : Str} {p pos : Pos} {e : Expr} {es : List Expr} {t : TA}
theorem pe_callG (F : FnG X.prog X.w X.K X.mg X.base k f fd ps sp) (room : Room k X.A) (quiet : Quiet X.A) (hg : Gl X x) (hm : X.mg x = some (.ref f)) (keep : PySem.W.keepIn X.K (.ref f) = true) (bind : Binds X.K fd ps [])
    (args : PA X (e :: es) t) (hdb : (x == ("__debug__" : Str)) = false := by decide) (star : starEach (e :: es) X.env = (false, eval e X.env) :: starEach es X.env := by rfl) (plain : (backTo pos (starEach es X.env)).any (·.1) = false := by rfl) :
    PE X (.Call (.Name x p) (e :: es) [] pos) (tCall sp [] E0 t) := by
  constructor
  intro pins s σ H Q I h
  apply wpAny_Call_Name_kw
  apply ld_glob I hg hm _ hdb
  apply PySem.W.callWith_K (h₀ := X.base) I.ok.mod.kin keep _ star plain
  apply thn (args.run pos pins s σ H _ I h)
  rintro us s1 ⟨vs, H1, I1, rel, q⟩
  refine And.intro I1.kIn ?_
  have q' : sp vs H1 Q E0 := by
    have z := q
    rw [List.append_nil] at z
    exact z
  have same : us.length = ps.length := rel.length.symm.trans (F.size q')
  have b := bind s1 us I1.kIn (by rw [List.append_nil]; exact same)
  rw [List.append_nil] at b
  apply wpAny_call
  apply codeAny_mono (F.go room quiet I1.env0 b rel q')
  intro r s' hr
  match r, hr with
  | .error _, hr => exact hr.elim
  | .ok (.ret u), hr => exact I1.after hr
  | .ok .next, hr => exact False.elim hr
  | .ok .brk, hr => exact False.elim hr
  | .ok .cont, hr => exact False.elim hr
end
/-! ### repr of data at any depth -/
structure Sm (n dp : Nat) (d : PyData) : Prop where
  shows : d.showable = true
  short : d.leavesShort 40 = true
  small : d.weight ≤ n
  flat : d.depth ≤ dp
theorem Sm.mono {n m dp dq : Nat} {d : PyData} (h : Sm n dp d) (h1 : n ≤ m) (h2 : dp ≤ dq) : Sm m dq d := ⟨h.shows, h.short, Nat.le_trans h.small h1, Nat.le_trans h.flat h2⟩
theorem Sm.none : Sm 0 0 .none := ⟨rfl, rfl, Nat.le_refl _, Nat.le_refl _⟩
theorem Sm.bool (b : Bool) : Sm 0 0 (.bool b) := ⟨rfl, rfl, Nat.le_refl _, Nat.le_refl _⟩
theorem log2_small {i : Int} (h : i.natAbs < 10 ^ 30) : i.natAbs.log2 < 100 := PySem.Flt.log2_lt_of (by decide) (Nat.lt_trans h (by decide))
theorem Sm.int {i : Int} (h : i.natAbs < 10 ^ 30) : Sm 100 0 (.int i) := by
  have l := log2_small h
  refine ⟨decide_eq_true (Nat.lt_trans l (by decide)), decide_eq_true ?_, ?_, Nat.le_refl _⟩
  · have q := int_text_length_le10 (a := i) (k := 30) (by decide) h
    show (Str.ofString (toString i)).length ≤ 40
    rw [PySem.ofString_length]
    exact Nat.le_trans q (by decide)
  · show (if i == 0 then 0 else i.natAbs.log2 + 1) ≤ 100
    split <;> omega
theorem smAll {n dp : Nat} : ∀ {ds : List PyData}, (∀ d ∈ ds, Sm n dp d) → PyData.showableAll ds = true ∧ PyData.leavesShortAll 40 ds = true ∧ PyData.weightAll ds ≤ ds.length * (n + 1) ∧ PyData.depthAll ds ≤ dp
  | [], _ => ⟨rfl, rfl, Nat.zero_le _, Nat.zero_le _⟩
  | d :: ds, h => by
    obtain ⟨a, b, c, e⟩ := smAll (ds := ds) fun x hx => h x (List.mem_cons_of_mem _ hx)
    have z := h d List.mem_cons_self
    refine ⟨?_, ?_, ?_, ?_⟩
    · show (d.showable && PyData.showableAll ds) = true
      rw [z.shows, a]
      rfl
    · show (d.leavesShort 40 && PyData.leavesShortAll 40 ds) = true
      rw [z.short, b]
      rfl
    · show d.weight + 1 + PyData.weightAll ds ≤ (ds.length + 1) * (n + 1)
      have := z.small
      rw [Nat.add_mul]
      omega
    · show max d.depth (PyData.depthAll ds) ≤ dp
      exact Nat.max_le.mpr ⟨z.flat, e⟩
theorem Sm.tup {n dp : Nat} {ds : List PyData} (h : ∀ d ∈ ds, Sm n dp d) : Sm (ds.length * (n + 1)) (dp + 1) (.tuple ds) :=
  let ⟨a, b, c, e⟩ := smAll h
  ⟨a, b, c, Nat.succ_le_succ e⟩
theorem Sm.lst {n dp : Nat} {ds : List PyData} (h : ∀ d ∈ ds, Sm n dp d) : Sm (ds.length * (n + 1)) (dp + 1) (.list ds) :=
  let ⟨a, b, c, e⟩ := smAll h
  ⟨a, b, c, Nat.succ_le_succ e⟩
theorem Sm.fits {n dp : Nat} {d : PyData} (h : Sm n dp d) (hn : n ≤ 300000) : d.shown.length ≤ sizeLine := by
  have q := PyData.shown_le 40 (by decide) d h.short
  have := h.small
  have e : sizeLine = 16777216 := by decide
  rw [e]
  omega
/-- data with dicts in it; its lists stand in the heap by themselves -/
def keyD : Key → PyData
  | .inl i => .int i
  | .inr x => .str x
mutual
inductive Dv (K : PySem.W.Frag) (H : Hp) : V → PyData → Prop
  | non : Dv K H .non .none
  | bl (b : Bool) : Dv K H (.bl b) (.bool b)
  | int (i : Int) : Dv K H (.int i) (.int i)
  | str (x : Str) : Dv K H (.str x) (.str x)
  | lst {a : Addr} {xs : List V} {ds : List PyData} : H a = some (.lst xs) → DvAll K H xs ds → Dv K H (.ref a) (.list ds)
  | tup {a : Addr} {xs : List V} {ds : List PyData} : H a = some (.tup xs) → DvAll K H xs ds → Dv K H (.ref a) (.tuple ds)
  | dic {a : Addr} {kvs : List (Key × V)} {ds : List PyData} : H a = some (.dK kvs) → DvAll K H (kvs.map (·.2)) ds → Dv K H (.ref a) (.dict ((kvs.map fun p => keyD p.1).zip ds))
inductive DvAll (K : PySem.W.Frag) (H : Hp) : List V → List PyData → Prop
  | nil : DvAll K H [] []
  | cons {v : V} {vs : List V} {d : PyData} {ds : List PyData} : Dv K H v d → DvAll K H vs ds → DvAll K H (v :: vs) (d :: ds)
end
theorem DvAll.length {K : PySem.W.Frag} {H : Hp} : ∀ {vs : List V} {ds : List PyData}, DvAll K H vs ds → vs.length = ds.length
  | _, _, .nil => rfl
  | _, _, .cons _ h => by rw [List.length_cons, List.length_cons, h.length]
theorem keys_read {P : Program} {w : World} {h : Heap} : ∀ {es : List DictEntry} {vs : List (Key × Value)}, Pairs (mixKind P w) es vs → ReadsAll h (es.map (·.key)) (vs.map fun p => keyD p.1) []
  | _, _, .nil => .nil
  | _, _, .cons (e := e) (kv := kv) hk _ r => by
    have one : Reads h e.key (keyD kv.1) [] := by
      rcases keyIs_shape hk with ⟨i, t, e1, e2⟩ | ⟨x, t, e1, e2⟩
      · rw [e1, e2]
        exact .int i t
      · rw [e1, e2]
        exact .str x t
    exact ReadsAll.cons one (keys_read r)
theorem vals_read {P : Program} {w : World} : ∀ {es : List DictEntry} {vs : List (Key × Value)}, Pairs (mixKind P w) es vs → es.map (·.val) = vs.map (·.2)
  | _, _, .nil => rfl
  | _, _, .cons _ hv r => by rw [List.map_cons, List.map_cons, hv, vals_read r]
theorem kv_vals : ∀ {kvs : List (Key × V)} {vs : List (Key × Value)}, KV kvs vs → Vals (kvs.map (·.2)) (vs.map (·.2)) ∧ (vs.map fun p => keyD p.1) = kvs.map fun p => keyD p.1
  | _, _, .nil => ⟨.nil, rfl⟩
  | _, _, .cons h r => by
    obtain ⟨a, b⟩ := kv_vals r
    refine ⟨.cons h.2 a, ?_⟩
    rw [List.map_cons, List.map_cons, b, h.1]
section
variable {X : Cx} {pins : List (Addr × Obj)} {σ : L2.St} {H : Hp} {s : Shared}
theorem Dv.reads (I : Inv X pins σ H s) (mods : ∃ mm, X.base.Ns sysModules mm) {v : V} {d : PyData} (h : Dv X.K H v d) : ∀ u : Value, RelV v u → ∃ as, Reads s.heap u d as ∧ sysModules ∉ as := by
  have free : H sysModules = none := by
    obtain ⟨mm, o, es, ep, e, _⟩ := mods
    exact (I.bs _ o e).2
  refine Dv.rec (K := X.K) (H := H) (motive_1 := fun v d _ => ∀ u : Value, RelV v u → ∃ as, Reads s.heap u d as ∧ sysModules ∉ as) (motive_2 := fun vs ds _ => ∀ us : List Value, Vals vs us → ∃ as, ReadsAll s.heap us ds as ∧ sysModules ∉ as) ?_ ?_ ?_ ?_ ?_ ?_ ?_ ?_ ?_ h
  · intro u r
    cases r
    exact ⟨_, .none, fun z => nomatch z⟩
  · intro b u r
    cases r
    exact ⟨_, .bool b, fun z => nomatch z⟩
  · intro i u r
    obtain ⟨t, rfl⟩ := r
    exact ⟨_, .int i t, fun z => nomatch z⟩
  · intro x u r
    obtain ⟨t, rfl⟩ := r
    exact ⟨_, .str x t, fun z => nomatch z⟩
  · intro a xs ds e _ ih u r
    cases r
    obtain ⟨_, its, n, rv, q⟩ := I.hok a _ e
    obtain ⟨as, ra, na⟩ := ih _ rv
    refine ⟨a :: as, .list q rfl rfl (by simpa using ra), fun z => ?_⟩
    rcases List.mem_cons.mp z with z | z
    · rw [← z, free] at e
      cases e
    · exact na z
  · intro a xs ds e _ ih u r
    cases r
    obtain ⟨_, its, rv, o, ho, hc, n, hd⟩ := I.hok a _ e
    obtain ⟨as, ra, na⟩ := ih _ rv
    exact ⟨as, .tuple ho hc hd (by simpa using ra), na⟩
  · intro a kvs ds e hall ih u r
    cases r
    obtain ⟨_, hne, vs, kv, o, es, ep, ho, ex, hd, _, prs, _⟩ := I.hok a _ e
    obtain ⟨rv, ek⟩ := kv_vals kv
    obtain ⟨as, ra, na⟩ := ih _ rv
    have len : (kvs.map fun p => keyD p.1).length = ds.length := by
      have z := hall.length
      rw [List.length_map] at z
      rw [List.length_map, z]
    refine ⟨_, .dict ho ex.1 hd (as := []) (bs := as) ?_ ?_, fun z => ?_⟩
    · rw [List.map_fst_zip (by omega), ← ek]
      exact keys_read prs
    · rw [List.map_snd_zip (by omega), vals_read prs]
      exact ra
    · rcases List.mem_cons.mp z with z | z
      · rw [← z] at hne
        exact absurd hne (by decide)
      · exact na z
  · intro us r
    cases r
    exact ⟨_, .nil, fun z => nomatch z⟩
  · intro v vs d ds _ _ ih1 ih2 us r
    cases r with
    | cons r1 r2 =>
      obtain ⟨as, ra, na⟩ := ih1 _ r1
      obtain ⟨bs, rb, nb⟩ := ih2 _ r2
      refine ⟨_, .cons ra rb, fun z => ?_⟩
      rcases List.mem_append.mp z with z | z
      · exact na z
      · exact nb z
theorem call_reprV (mods : ∃ mm, X.base.Ns sysModules mm) (quiet : Quiet X.A) (units : X.A.units + 64 < cLine) : CallR X (.builtin "repr")
    (fun xs H Q => ∃ v d n dp, xs = [v] ∧ Dv X.K H v d ∧ Sm n dp d ∧ n ≤ 300000 ∧ dp ≤ 60 ∧ Q (.str d.shown) H) := by
  intro pins s σ H xs us Q I r h
  obtain ⟨v, d, n, dp, rfl, hd, sm, hn, hdp, q⟩ := h
  obtain ⟨u, rfl, ru⟩ := vals1 r
  have fits := sm.fits hn
  have flat := sm.flat
  obtain ⟨as, rd, off⟩ := Dv.reads I mods hd _ ru
  cases hd with
  | non =>
    cases ru
    exact PySem.P.repr_of_none ⟨.str _, H, I.tok _, ⟨_, rfl⟩, q⟩
  | bl b =>
    cases ru
    exact PySem.P.repr_of_bool ⟨.str _, H, I.tok _, ⟨_, rfl⟩, q⟩
  | int i =>
    obtain ⟨t, rfl⟩ := ru
    exact PySem.P.repr_of_int (of_decide_eq_true sm.shows) ⟨.str _, H, I.tok _, ⟨_, rfl⟩, q⟩
  | str x =>
    obtain ⟨t, rfl⟩ := ru
    exact PySem.P.repr_of_str ⟨.str _, H, I.tok _, ⟨_, rfl⟩, q⟩ fits
  | _ =>
    cases ru
    exact repr_of_reads' rd sm.shows (fun _ => off) quiet (by omega) (fun _ _ e => e) (fun h' t tk more => ⟨.str _, H, I.kept more, ⟨_, rfl⟩, q⟩) fits
end
theorem Dp.noDict {K : PySem.W.Frag} {H : Hp} {v : V} {d : PyData} (h : Dp K H v d) : d.hasDict = false := by
  refine Dp.rec (K := K) (H := H) (motive_1 := fun v d _ => d.hasDict = false) (motive_2 := fun vs ds _ => PyData.hasDictAll ds = false) ?_ ?_ ?_ ?_ ?_ ?_ ?_ ?_ h
  all_goals intros
  all_goals simp_all [PyData.hasDict, PyData.hasDictAll]
section
variable {X : Cx}
theorem call_reprD (quiet : Quiet X.A) (units : X.A.units + 64 < cLine) : CallR X (.builtin "repr")
    (fun xs H Q => ∃ v d n dp, xs = [v] ∧ Dp X.K H v d ∧ Sm n dp d ∧ n ≤ 300000 ∧ dp ≤ 60 ∧ Q (.str d.shown) H) := by
  intro pins s σ H xs us Q I r h
  obtain ⟨v, d, n, dp, rfl, hd, sm, hn, hdp, q⟩ := h
  obtain ⟨u, rfl, ru⟩ := vals1 r
  have fits := sm.fits hn
  have flat := sm.flat
  obtain ⟨as, rd⟩ := Dp.reads I d v u hd ru
  cases hd with
  | non =>
    cases ru
    exact PySem.P.repr_of_none ⟨.str _, H, I.tok _, ⟨_, rfl⟩, q⟩
  | bl b =>
    cases ru
    exact PySem.P.repr_of_bool ⟨.str _, H, I.tok _, ⟨_, rfl⟩, q⟩
  | int i =>
    obtain ⟨t, rfl⟩ := ru
    exact PySem.P.repr_of_int (of_decide_eq_true sm.shows) ⟨.str _, H, I.tok _, ⟨_, rfl⟩, q⟩
  | str x =>
    obtain ⟨t, rfl⟩ := ru
    exact PySem.P.repr_of_str ⟨.str _, H, I.tok _, ⟨_, rfl⟩, q⟩ fits
  | lst h1 h2 =>
    cases ru
    exact repr_of_reads' rd sm.shows (PyData.noDict_hsm (Dp.noDict (Dp.lst h1 h2))) quiet (by omega) (fun _ _ e => e) (fun h' t tk more => ⟨.str _, H, I.kept more, ⟨_, rfl⟩, q⟩) fits
  | tup h1 h2 =>
    cases ru
    exact repr_of_reads' rd sm.shows (PyData.noDict_hsm (Dp.noDict (Dp.tup h1 h2))) quiet (by omega) (fun _ _ e => e) (fun h' t tk more => ⟨.str _, H, I.kept more, ⟨_, rfl⟩, q⟩) fits
end
/-! ### the end of a law row whose def is of the quiet kind -/
theorem quiet_law {P : Program} {w : World} {K : PySem.W.Frag} {mg mb : Str → Option Value} {k : Nat} {fa a : Addr} {fd : FuncData} {x : Str} {sp : Sp} {s₁ : Shared} {vs : List Value} {ns : List Int}
    (inK : K.In s₁.heap) (glob : s₁.heap.Ns mainGlobals mg) (blt : s₁.heap.Ns builtinsNs mb) (bltIs : ∀ y : Str, y ≠ "__name__" → mb y = bootBuiltins y) (lim : s₁.heap.NoLimit) (gens : s₁.gens = #[]) (mods : ∃ mm, s₁.heap.Ns sysModules mm)
    (here : s₁.heap.get? a = some { cls := .type "list", data := .seq vs.toArray }) (whole : IntsAre vs ns) (few : ns.length ≤ sizeLine) (room : Room k callerA)
    (F : ∀ base : Heap, K.In base → base.Ns mainGlobals mg → (∃ mm, base.Ns sysModules mm) → FnG P w K mg base k fa fd [x] sp) (bind : ∀ (s : Shared) (u : Value), BindsTo s fd ⟨[u], []⟩ [(x, u)])
    (want : ∀ H : Hp, Only H → SqL K H a (ns.map V.int) → sp [.ref a] H (fun v _ => v = .bl true) E0) :
    codeAny (model P w) callerA (.call (.ref fa) ⟨[.ref a], []⟩) (fun r s' => r = .ok (.ret (.bool true)) ∧ OldK s₁.heap s'.heap ∧ s'.os = s₁.os ∧ AllBare s'.gens) s₁ := by
  have rel := vals_ints whole
  -- H: the script alone, or nothing
  have main : ∀ H : Hp, Only H → SqL K H a (ns.map V.int) → HOk P w H s₁.heap → (∀ b u, H b = some u → b = a ∧ K.lookup b = none) →
      codeAny (model P w) callerA (.call (.ref fa) ⟨[.ref a], []⟩) (fun r s' => r = .ok (.ret (.bool true)) ∧ OldK s₁.heap s'.heap ∧ s'.os = s₁.os ∧ AllBare s'.gens) s₁ := by
    intro H only sq ok apart
    have untold : ∀ {b o}, s₁.heap.get? b = some o → (b = a → False) → H b = none := by
      intro b o e ne
      cases q : H b with
      | none => rfl
      | some u => exact (ne (apart b u q).1).elim
    have ns1 : ∀ {b m}, s₁.heap.Ns b m → (hidT s₁.heap H).Ns b m := by
      rintro b m ⟨o, es, ep, e, d, r⟩
      refine ⟨o, es, ep, hidT_get e (untold e fun z => ?_), d, r⟩
      subst z
      rw [here] at e
      cases e
      cases d
    have kIn : K.In (hidT s₁.heap H) := by
      intro b o e
      apply hidT_get (inK b o e)
      cases q : H b with
      | none => rfl
      | some u =>
        have z := (apart b u q).2
        rw [e] at z
        cases z
    have lim1 : (hidT s₁.heap H).NoLimit := by
      obtain ⟨mc, h1, h2⟩ := lim
      exact ⟨mc, ns1 h1, h2⟩
    have e0 : Env0 P w K mg (hidT s₁.heap H) callerA [] s₁ H := {
      frames := rfl, mod := ⟨kIn, ns1 glob, ⟨mb, ns1 blt, bltIs⟩, lim1⟩, bs := fun _ _ e => of_hidT e, bsz := Nat.le_of_eq (hidT_size _ _), funs := True.intro, frf := (fun _ hb => nomatch hb), hok := ok, bare := .of_eq gens }
    apply codeAny_mono ((F _ kIn (ns1 glob) (mods.elim fun mm h => ⟨mm, ns1 h⟩)).go (us := [.ref a]) (vs := [.ref a]) room rfl e0 (bind s₁ _) (.cons rfl .nil) (want H only sq))
    intro r s' hr
    match r, hr with
    | .error _, hr => exact hr.elim
    | .ok .next, hr => exact False.elim hr
    | .ok .brk, hr => exact False.elim hr
    | .ok .cont, hr => exact False.elim hr
    | .ok (.ret u), hr =>
      obtain ⟨v, H', os, bare, un, ok', rv, q⟩ := hr
      cases (show v = V.bl true from q)
      cases (show u = Value.bool true from rv)
      refine ⟨rfl, OldK.of_keep ?_, os, bare⟩
      intro b o e
      cases only b with
      | inl n => exact un.keep b o e n (fun z => nomatch z) (fun z => nomatch z)
      | inr n =>
        obtain ⟨ob, xs, z⟩ := n
        have e1 := (ok b _ z).1
        have e2 := (ok' b _ (un.frzs b ob _ z)).1
        rw [e] at e1
        cases e1
        exact e2
  have small : (ns.map V.int).length ≤ sizeLine := by rw [List.length_map]; exact few
  cases known : K.lookup a with
  | some o =>
    have e := inK a o known
    rw [here] at e
    cases e
    have sz : vs.length ≤ sizeLine := by rw [← rel.length]; exact small
    exact main (fun _ => none) (fun _ => .inl rfl) (.inr ⟨_, vs.toArray, _, known, rfl, rfl, rfl, by simpa using sz, by simpa using rel⟩) (fun _ _ z => nomatch z) (fun _ _ z => nomatch z)
  | none =>
    have at1 : ∀ {b u}, (if b = a then some (HO.frz { cls := .type "list", data := .seq vs.toArray } (.lst (ns.map V.int))) else none) = some u → b = a := by
      intro b u z
      by_cases hb : b = a
      · exact hb
      · rw [if_neg hb] at z
        cases z
    refine main (fun b => if b = a then some (.frz { cls := .type "list", data := .seq vs.toArray } (.lst (ns.map V.int))) else none) (fun b => ?_) (.inl (.inr ⟨{ cls := .type "list", data := .seq vs.toArray }, if_pos rfl⟩)) (fun b u z => ?_) (fun b u z => ?_)
    · by_cases hb : b = a
      · exact .inr ⟨_, _, if_pos hb⟩
      · exact .inl (if_neg hb)
    · have hb := at1 z
      subst hb
      have z2 := (if_pos rfl).symm.trans z
      cases z2
      exact ⟨here, small, vs, _, rel, here⟩
    · have hb := at1 z
      subst hb
      exact ⟨rfl, known⟩
theorem quiet_walk {l : PySem.W.OpenLaw} {n k : Nat} {q : Program} {loose : List Str} {XP : (Str → Option Value) → Heap → Prop} {YP : World → Heap → Prop} {d : DefRec} {K : Params → PySem.W.Frag} {sp : World → Sp} {x : Str}
    (noImport : importsNone q = true) (most : l.most = some n) (n2 : n ≤ sizeLine) (defaults : d.params.defaults = []) (room : Room k callerA) (hY : ∀ (w : World) (h : Heap), YP w h → (K w.params).In h)
    (F : ∀ (w : World) (mg : Str → Option Value) (fa : Addr) (h : Heap), (K w.params).In h → h.Ns mainGlobals mg → mg d.name = some (.ref fa) →
      ∃ fd : FuncData, (∀ (s : Shared) (u : Value), BindsTo s fd ⟨[u], []⟩ [(x, u)]) ∧ ∀ base : Heap, (K w.params).In base → base.Ns mainGlobals mg → (∃ mm, base.Ns sysModules mm) → FnG l.prog w (K w.params) mg base k fa fd [x] (sp w))
    (want : ∀ (w : World) (H : Hp) (a : Addr) (ns : List Int), ns.length ≤ n → Only H → SqL (K w.params) H a (ns.map V.int) → sp w [.ref a] H (fun v _ => v = .bl true) E0) :
    PySem.W.WalkO q loose XP YP l.row.toRowW d [] (fun f vs => PySem.call f vs) := by
  apply Att.attach_call most defaults
  intro w s₀ s₁ mg mb fa o pm cd doc a vs ns G Y ho hd hcd hmg hobj hints hlen hg
  obtain ⟨fd, hb, hF⟩ := F w mg fa _ (hY w _ Y) G.T.g hmg
  exact quiet_law (hY w _ Y) G.T.g G.T.b G.T.builtins G.T.nolimit hg ((G.T.seer noImport).mods.elim fun mm h => ⟨mm, h.1⟩) hobj hints (Nat.le_trans hlen n2) room hF hb fun H o1 s1 => want w H a ns hlen o1 s1

/-! ### a op1 b op2 c op3 .. : chains of any length -/
section
variable {X : Cx}
structure PCh (X : Cx) (ops : List CmpOp) (es : List Expr) (t : V → TE) : Prop where
  run : ∀ (pos : Pos) (pins : List (Addr × Obj)) (s : Shared) (σ : L2.St) (H : Hp) (Q : VK) (x : V) (v : Value), Inv X pins σ H s → RelV x v → t x σ H Q → wpAny (model X.prog X.w) X.A (compareChain pos v ops (evalEach es X.env)) (EP X pins σ Q) X.xe s
structure PChT (X : Cx) (ops : List CmpOp) (es : List Expr) (t : V → TE) : Prop where
  run : ∀ (pos : Pos) (pins : List (Addr × Obj)) (s : Shared) (σ : L2.St) (H : Hp) (Q : Bool → Hp → Prop) (x : V) (v : Value), Inv X pins σ H s → RelV x v → (t x σ H fun y H' => ∃ k, y = .bl k ∧ Q k H') → wpAny (model X.prog X.w) X.A (testChain pos v ops (evalEach es X.env)) (TP X pins σ Q) X.xe s
def tLast (r : R2) (tb : TE) : V → TE := fun x σ H Q => tb σ H fun y H2 => r x y H2 Q
def tLink (r : R2) (tb : TE) (rest : V → TE) : V → TE := fun x σ H Q => tb σ H fun y H2 => r x y H2 fun z H3 => ∃ k, z = .bl k ∧ (if k = true then rest y σ H3 Q else Q (.bl false) H3)
def tCh (ta : TE) (rest : V → TE) : TE := fun σ H Q => ta σ H fun x H1 => rest x σ H1 Q
theorem pch_last {op : CmpOp} {r : R2} {b : Expr} {tb : TE} (ho : OpR X (compareOp op) r) (hb : PE X b tb) : PCh X [op] [b] (tLast r tb) :=
  ⟨fun pos pins s σ H Q x v I rx h => chain_last (thn (hb.run pins s σ H _ I h) fun u s2 ⟨y, H2, I2, r2, q2⟩ => ho pins s2 σ H2 x y v u Q I2 rx r2 q2)⟩
theorem pch_link {op op' : CmpOp} {ops : List CmpOp} {r : R2} {b b' : Expr} {bs : List Expr} {tb : TE} {rest : V → TE} (ho : OpR X (compareOp op) r) (hb : PE X b tb) (hr : PCh X (op' :: ops) (b' :: bs) rest) : PCh X (op :: op' :: ops) (b :: b' :: bs) (tLink r tb rest) := by
  refine ⟨fun pos pins s σ H Q x v I rx h => ?_⟩
  refine chain_link (thn (hb.run pins s σ H _ I h) fun u s2 ⟨y, H2, I2, r2, q2⟩ => thn (ho pins s2 σ H2 x y v u _ I2 rx r2 q2) fun d s3 ⟨z, H3, I3, r3, k, e, q3⟩ => ?_)
  subst e
  cases r3
  refine wpAny_truthy_bool ?_
  cases k with
  | false => exact ite_ff ⟨.bl false, H3, I3, rfl, q3⟩
  | true => exact ite_tt (hr.run pos pins s3 σ H3 Q y u I3 r2 q3)
theorem pe_chN {op op' : CmpOp} {ops : List CmpOp} {a b b' : Expr} {bs : List Expr} {pos : Pos} {ta : TE} {rest : V → TE} (ha : PE X a ta) (hr : PCh X (op :: op' :: ops) (b :: b' :: bs) rest)
    (hm : lastMarks (op :: op' :: ops) (b :: b' :: bs) = false := by with_unfolding_all rfl) : PE X (.Compare a (op :: op' :: ops) (b :: b' :: bs) pos) (tCh ta rest) :=
  ⟨fun pins s σ H Q I h => Compare_chain (thn (ha.run pins s σ H _ I h) fun v s1 ⟨x, H1, I1, r1, q1⟩ => hr.run pos pins s1 σ H1 Q x v I1 r1 q1) hm⟩
theorem pchT_last {op : CmpOp} {r : R2} {b : Expr} {tb : TE} (ho : OpR X (compareOp op) r) (hb : PE X b tb) : PChT X [op] [b] (tLast r tb) := by
  refine ⟨fun pos pins s σ H Q x v I rx h => ?_⟩
  refine test_last (thn (hb.run pins s σ H _ I h) fun u s2 ⟨y, H2, I2, r2, q2⟩ => thn (ho pins s2 σ H2 x y v u _ I2 rx r2 q2) fun d s3 ⟨z, H3, I3, r3, k, e, q3⟩ => ?_)
  subst e
  cases r3
  exact wpAny_truthy_bool ⟨H3, I3, q3⟩
theorem pchT_link {op op' : CmpOp} {ops : List CmpOp} {r : R2} {b b' : Expr} {bs : List Expr} {tb : TE} {rest : V → TE} (ho : OpR X (compareOp op) r) (hb : PE X b tb) (hr : PChT X (op' :: ops) (b' :: bs) rest) : PChT X (op :: op' :: ops) (b :: b' :: bs) (tLink r tb rest) := by
  refine ⟨fun pos pins s σ H Q x v I rx h => ?_⟩
  refine test_link (thn (hb.run pins s σ H _ I h) fun u s2 ⟨y, H2, I2, r2, q2⟩ => thn (ho pins s2 σ H2 x y v u _ I2 rx r2 q2) fun d s3 ⟨z, H3, I3, r3, k, e, q3⟩ => ?_)
  subst e
  cases r3
  refine wpAny_truthy_bool ?_
  cases k with
  | false =>
    obtain ⟨k', e', q'⟩ := q3
    cases e'
    exact ite_ff ⟨H3, I3, q'⟩
  | true => exact ite_tt (hr.run pos pins s3 σ H3 Q y u I3 r2 q3)
theorem pt_chN {op op' : CmpOp} {ops : List CmpOp} {a b b' : Expr} {bs : List Expr} {pos : Pos} {ta : TE} {rest : V → TE} (ha : PE X a ta) (hr : PChT X (op :: op' :: ops) (b :: b' :: bs) rest)
    (hm : lastMarks (op :: op' :: ops) (b :: b' :: bs) = false := by with_unfolding_all rfl) : PT X (.Compare a (op :: op' :: ops) (b :: b' :: bs) pos) (tTest (tCh ta rest)) :=
  ⟨fun pins s σ H Q I h => isTrue_chain (thn (ha.run pins s σ H _ I h) fun v s1 ⟨x, H1, I1, r1, q1⟩ => hr.run pos pins s1 σ H1 Q x v I1 r1 q1) hm⟩
end

/-! ### t[::-1] of a tuple; xs == [], xs != [] of a list that may hold anything -/
section
open HT
variable {prog : Program} {w : World} {A : Around} {E : Value → Shared → Prop} {s : Shared}
theorem adjust_rev (n : Nat) : Builtin.Slice.sliceAdjust none none (-1) (n : Int) = ((n : Int) - 1, -1) := by
  unfold Builtin.Slice.sliceAdjust
  have h1 : (-1 : Int) < 0 := by decide
  simp only [h1, if_true]
theorem places_rev (n : Nat) : Builtin.Slice.slicePlaces ((n : Int) - 1) (-1) (-1) = n := by
  unfold Builtin.Slice.slicePlaces
  have h1 : ¬ ((-1 : Int) > 0) := by decide
  simp only [h1, if_false]
  have h2 : (-(-1) : Int) = 1 := by decide
  rw [h2, Int.ediv_one]
  split <;> omega
theorem sliceApplied_rev {sl : Addr} {vl vu vs : Value} {n : Nat} {Q : Int × Int × Nat → Shared → Prop} (hs : s.heap.IsSliceOf sl vl vu vs) (pl : IsPart vl none) (pu : IsPart vu none) (pt : IsPart vs (some (-1)))
    (h : Q ((n : Int) - 1, -1, n) s) : wpAny (model prog w) A (Builtin.Slice.sliceApplied (.ref sl) (pure (n : Int))) Q E s := by
  obtain ⟨os, hos, hcs, hds⟩ := id hs
  unfold Builtin.Slice.sliceApplied Builtin.Slice.sliceFields
  refine wpAny_bind (wpAny_bind (wpAny_field hos hds (x := vl) rfl (wpAny_bind (wpAny_field hos hds (x := vu) rfl (wpAny_bind (wpAny_field hos hds (x := vs) rfl (wpAny_pure ?_)))))))
  refine wpAny_bind (slicePart_ pt ?_)
  show wpAny _ _ (if ((-1 : Int) == 0) = true then _ else _) _ _ s
  rw [if_neg (by decide)]
  refine wpAny_bind (slicePart_ pl (wpAny_bind (slicePart_ pu (wpAny_bind (wpAny_pure ?_)))))
  show wpAny _ _ (match Builtin.Slice.sliceAdjust none none (-1) (n : Int) with | (lo, hi) => pure (lo, (-1 : Int), Builtin.Slice.slicePlaces lo hi (-1))) _ _ s
  rw [adjust_rev]
  show wpAny _ _ (pure ((n : Int) - 1, (-1 : Int), Builtin.Slice.slicePlaces ((n : Int) - 1) (-1) (-1))) _ _ s
  rw [places_rev]
  exact wpAny_pure h
theorem pick_rev (xs : Array Value) : ((List.range xs.size).filterMap fun (k : Nat) => xs[((xs.size : Int) - 1 + (k : Int) * (-1)).toNat]?) = xs.toList.reverse := by
  have e : ∀ m : Nat, m ≤ xs.size → ((List.range m).filterMap fun (k : Nat) => xs[((xs.size : Int) - 1 + (k : Int) * (-1)).toNat]?) = xs.toList.reverse.take m := by
    intro m
    induction m with
    | zero => intro _; rfl
    | succ m ih =>
      intro hm
      rw [List.range_succ, List.filterMap_append, ih (by omega), List.take_add_one]
      congr 1
      have e1 : ((xs.size : Int) - 1 + (m : Int) * (-1)).toNat = xs.size - 1 - m := by omega
      have e2 : xs.toList.reverse[m]? = xs[xs.size - 1 - m]? := by
        rw [List.getElem?_reverse (by rw [Array.length_toList]; omega), Array.length_toList, Array.getElem?_toList]
      rw [e2]
      have lt : xs.size - 1 - m < xs.size := by omega
      simp only [List.filterMap_cons, List.filterMap_nil, e1]
      rw [Array.getElem?_eq_getElem lt]
      rfl
  rw [e _ (Nat.le_refl _), List.take_of_length_le (by rw [List.length_reverse, Array.length_toList]; exact Nat.le_refl _)]
theorem getItem_tuple_rev {t sl : Addr} {items : Array Value} {vl vu vs : Value} {Q : Value → Shared → Prop} (ht : IsTup s.heap t items) (hs : s.heap.IsSliceOf sl vl vu vs) (pl : IsPart vl none) (pu : IsPart vu none) (pt : IsPart vs (some (-1)))
    (h : Q (.ref s.heap.objs.size) { s with heap := s.heap.push { cls := .type "tuple", data := .seq items.toList.reverse.toArray } })
    (hsz : items.size ≤ sizeLine) : wpAny (model prog w) A (getItem (.ref t) (.ref sl)) Q E s := by
  have htake : sizeOk (.seq items.toList.reverse.toArray) := by
    show items.toList.reverse.toArray.size ≤ sizeLine
    rw [List.size_toArray, List.length_reverse, Array.length_toList]
    omega
  obtain ⟨os, hos, hcs, hds⟩ := id hs
  have hTs : s.TypeIs (.ref sl) "slice" := ⟨os, hos, hcs⟩
  unfold getItem
  try with_reducible refine wpAny_holding ?_
  first | refine wpAny_bind (wpAny_pure ?_) | skip
  refine wpAny_bind (wpAny_sequenceKey ht.typeIs (by decide) ?_)
  refine wpAny_bind (wpAny_callSpecial?_slot (name := Str.ofString "__getitem__") ht.typeIs PyProof.Rows.slot_tuple_getitem
    (wpAny_call_entry PyProof.Rows.slot_tuple_getitem ht.typeIs entry_tuple_getitem ?_ (args_tuple_getitem _ _)))
  show wpAny _ _ (Builtin.Tuple.tupleItemsOf (.ref t) >>= _) _ _ s
  refine wpAny_bind (tupleItemsOf_ ht ?_)
  refine wpAny_bind (wpAny_typeOf hTs ?_)
  rw [if_pos (by decide)]
  refine wpAny_bind (sliceApplied_rev hs pl pu pt ?_)
  have hno : ¬ ((((items.size : Int) - 1) == 0 && (-1 : Int) == 1 && items.size == items.size) = true) := by
    intro q
    rw [Bool.and_eq_true, Bool.and_eq_true] at q
    exact absurd q.1.2 (by decide)
  show wpAny _ _ (if (((items.size : Int) - 1) == 0 && (-1 : Int) == 1 && items.size == items.size) = true then _ else _) _ _ s
  rw [if_neg hno, pick_rev]
  first
    | exact wpAny_bind (m := Builtin.Tuple.tupleExact _) (wpAny_newObj_type (wpAny_pure ⟨_, rfl, wpAny_pure h⟩) htake)
    | exact wpAny_bind (m := Builtin.Tuple.tupleExact _) (wpAny_newObj_type (wpAny_bind (wpAny_pure (wpAny_pure ⟨_, rfl, wpAny_pure h⟩))) htake)
    | exact wpAny_bind (wpAny_bind (m := Builtin.Tuple.tupleExact _) (wpAny_newObj_type (wpAny_pure (wpAny_pure ⟨_, rfl, wpAny_pure h⟩)) htake))
    | exact wpAny_bind (wpAny_bind (m := Builtin.Tuple.tupleExact _) (wpAny_newObj_type (wpAny_pure ⟨_, rfl, wpAny_pure h⟩) htake))
end
section
variable {X : Cx}
def tRevT (K : PySem.W.Frag) (te : TE) : TE := fun σ H Q => te σ H fun x H1 => ∃ a xs, x = .ref a ∧ SqT K H1 a xs ∧ ∀ p, H1 p = none → Q (.ref p) (upd H1 p (.tup xs.reverse))
theorem pe_revT {e : Expr} {te : TE} {k : Nat} {p1 p2 p3 pos : Pos} (he : PE X e te) : PE X (.Subscript e (.Slice none none (some (.UnaryOp .USub (.Constant (.int 1) k p1) p2)) p3) pos) (tRevT X.K te) := by
  refine ⟨fun pins s σ H Q I h => ?_⟩
  refine Subscript_ (thn (he.run pins s σ H _ I h) fun v s1 ⟨x, H1, I1, r1, q1⟩ => ?_)
  obtain ⟨a, xs, ex, hx, q⟩ := q1
  subst ex
  cases r1
  have hst : PO X (some (.UnaryOp .USub (.Constant (.int 1) k p1) p2)) (tPart (tUn (rU fun i => .int (-i)) (tC (.int 1)))) := po_some (pe_un un_neg pe_int)
  refine wpAny_Slice (thn (po_none.run pins s1 σ H1 (fun o H2 => o = none ∧ H2 = H1) I1 ⟨rfl, rfl⟩) fun vl s2 ⟨l, H2, I2, pl, el, e2⟩ => ?_)
  subst el e2
  refine thn (po_none.run pins s2 σ H2 (fun o H3 => o = none ∧ H3 = H2) I2 ⟨rfl, rfl⟩) fun vu s3 ⟨u, H3, I3, pu, eu, e3⟩ => ?_
  subst eu e3
  refine thn (hst.run pins s3 σ H3 (fun o H4 => o = some (-1) ∧ H4 = H3) I3 ⟨1, rfl, -1, rfl, rfl, rfl⟩) fun vs s4 ⟨o, H4, I4, ps, eo, e4⟩ => ?_
  subst eo e4
  have I5 : Inv X pins σ H4 { s4 with heap := s4.heap.push { cls := .type "slice", data := .fields #[vl, vu, vs] } } := I4.kept (t' := s4.toks) fun b ob q => Heap.get?_push_of_some _ q
  obtain ⟨its, r, ht, hz⟩ := I5.tuple hx
  have hlen := r.length
  show wpAny (model X.prog X.w) X.A (subscriptTail e (.Slice none none (some (.UnaryOp .USub (.Constant (.int 1) k p1) p2)) p3) (.ref a) (.ref s4.heap.objs.size)) (EP X pins σ Q) X.xe { s4 with heap := s4.heap.push { cls := .type "slice", data := .fields #[vl, vu, vs] } }
  refine tail_any (ops := [.ref a, .ref s4.heap.objs.size]) ht.typeIs (PyProof.Rows.slot_tuple_getitem.lookup) ?_ (by with_unfolding_all rfl)
  refine getItem_tuple_rev ht (Heap.IsSliceOf.new _ vl vu vs) pl pu ps ?_ (by rw [List.size_toArray]; omega)
  refine ⟨.ref _, _, I5.laid (t' := s4.toks) (o := .tup xs.reverse) (fun b ob q => Heap.get?_push_of_some _ q) (Nat.le_refl _) ?_, rfl, q _ (I5.hok.fresh (Nat.le_refl _))⟩
  exact ⟨by rw [List.length_reverse]; exact hz, _, r.reverse, IsTup.new _ _⟩
def rEqL (K : PySem.W.Frag) : R2 := fun x y H Q => ∃ (a b : Addr) (xs : List V), x = .ref a ∧ y = .ref b ∧ SqL K H a xs ∧ SqL K H b [] ∧ Q (.bl xs.isEmpty) H
def rNeL (K : PySem.W.Frag) : R2 := fun x y H Q => ∃ (a b : Addr) (xs : List V), x = .ref a ∧ y = .ref b ∧ SqL K H a xs ∧ SqL K H b [] ∧ Q (.bl (!xs.isEmpty)) H
theorem op_eqL (units : X.A.units < cLine) : OpR X (compareOp .Eq) (rEqL X.K) := by
  intro pins s σ H x y v u Q I rx ry h
  obtain ⟨a, b, xs, rfl, rfl, ha, hb, q⟩ := h
  cases rx
  cases ry
  obtain ⟨its, r1, p1, _⟩ := I.list ha
  obtain ⟨its2, r2, p2, _⟩ := I.list hb
  cases r2
  cases r1 with
  | nil =>
    exact SeqAt.eq_listAt (e := fun _ => true) p1.isList p2.isList rfl units (fun j h1 h2 => absurd h2 (Nat.not_lt_zero j)) ⟨.bl true, H, I, rfl, q⟩
  | cons r t =>
    exact SeqAt.eq_list_lengthsAt p1.isList p2.isList (by simp) units ⟨.bl false, H, I, rfl, q⟩
theorem op_neL (units : X.A.units < cLine) : OpR X (compareOp .NotEq) (rNeL X.K) := by
  intro pins s σ H x y v u Q I rx ry h
  obtain ⟨a, b, xs, rfl, rfl, ha, hb, q⟩ := h
  cases rx
  cases ry
  obtain ⟨its, r1, p1, _⟩ := I.list ha
  obtain ⟨its2, r2, p2, _⟩ := I.list hb
  cases r2
  cases r1 with
  | nil =>
    exact SeqAt.RcNeAt.lists (e := fun _ => true) p1.isList p2.isList rfl units (fun j h1 h2 => absurd h2 (Nat.not_lt_zero j)) X.prog X.w X.xe (EP X pins σ Q) ⟨.bl false, H, I, rfl, q⟩
  | cons r t =>
    exact SeqAt.RcNeAt.lists_lengths p1.isList p2.isList (by simp) units X.prog X.w X.xe (EP X pins σ Q) ⟨.bl true, H, I, rfl, q⟩
end

/-! ### more of tuples: t == (), t >= u -/
section
variable {X : Cx}
def rEqE (K : PySem.W.Frag) : R2 := fun x y H Q => ∃ (a b : Addr) (xs : List V), x = .ref a ∧ y = .ref b ∧ SqT K H a xs ∧ SqT K H b [] ∧ Q (.bl xs.isEmpty) H
theorem op_eqE (units : X.A.units < cLine) : OpR X (compareOp .Eq) (rEqE X.K) := by
  intro pins s σ H x y v u Q I rx ry h
  obtain ⟨a, b, xs, rfl, rfl, ha, hb, q⟩ := h
  cases rx
  cases ry
  obtain ⟨its, r1, p1, _⟩ := I.tuple ha
  obtain ⟨its2, r2, p2, _⟩ := I.tuple hb
  cases r2
  apply SeqAt.eq_tupleAt (e := fun _ => true) (show s.heap.IsTuple a its.toArray from p1) (show s.heap.IsTuple b ([] : List Value).toArray from p2) units
  · intro j h1 h2
    exact absurd h2 (Nat.not_lt_zero j)
  · refine ⟨.bl xs.isEmpty, H, I, ?_, q⟩
    cases r1 with
    | nil => rfl
    | cons r t => rfl
def rGeT (K : PySem.W.Frag) : R2 := fun x y H Q => ∃ (a b : Addr) (ns ms : List Int), x = .ref a ∧ y = .ref b ∧ SqT K H a (ns.map V.int) ∧ SqT K H b (ms.map V.int) ∧
  Q (.bl (Ob.lexAt (fun j => decide (ns.getD j 0 = ms.getD j 0)) (fun j => decide (ms.getD j 0 ≤ ns.getD j 0)) (decide (ns.length ≥ ms.length)) 0 (min ns.length ms.length))) H
theorem op_geT (units : X.A.units < cLine) : OpR X (compareOp .GtE) (rGeT X.K) := by
  intro pins s σ H x y v u Q I rx ry h
  obtain ⟨a, b, ns, ms, rfl, rfl, ha, hb, q⟩ := h
  cases rx
  cases ry
  obtain ⟨us, r1, p1, _⟩ := I.tuple ha
  obtain ⟨ws, r2, p2, _⟩ := I.tuple hb
  have w1 : IntsAre us ns := Vals.ints r1
  have w2 : IntsAre ws ms := Vals.ints r2
  have l1 : us.toArray.size = ns.length := List.size_toArray.trans w1.length
  have l2 : ws.toArray.size = ms.length := List.size_toArray.trans w2.length
  have g1 : ∀ j (hj : j < us.toArray.size), ∃ t, us.toArray[j] = .int (ns.getD j 0) t := by
    intro j hj
    apply PyProof.Rows.IntsAre.int_at w1
    simp at hj
    simp [hj]
  have g2 : ∀ j (hj : j < ws.toArray.size), ∃ t, ws.toArray[j] = .int (ms.getD j 0) t := by
    intro j hj
    apply PyProof.Rows.IntsAre.int_at w2
    simp at hj
    simp [hj]
  have eqs : ∀ (i j : Int) (t u : Tok), SeqAt.EqAt X.A.in1 s (.int i t) (.int j u) (decide (i = j)) := by
    intro i j t u
    have z : (i == j) = decide (i = j) := by
      by_cases e : i = j
      · rw [decide_eq_true e]
        exact beq_iff_eq.mpr e
      · rw [decide_eq_false e]
        exact beq_eq_false_iff_ne.mpr e
    rw [← z]
    exact SeqAt.EqAt.int_int _ _ _ _
  have R := Ob.RcOp.tuples_ge (A := X.A) (s := s) (e := fun j => decide (ns.getD j 0 = ms.getD j 0)) (r := fun j => decide (ms.getD j 0 ≤ ns.getD j 0)) p1 p2 units
    (by
      intro j h1 h2
      obtain ⟨t, et⟩ := g1 j h1
      obtain ⟨t', et'⟩ := g2 j h2
      rw [et, et']
      exact eqs _ _ _ _)
    (by
      intro j h1 h2 _
      obtain ⟨t, et⟩ := g1 j h1
      obtain ⟨t', et'⟩ := g2 j h2
      rw [et, et']
      exact Ob.RcOp.ge_int _ _ _ _)
  rw [l1, l2] at R
  exact R X.prog X.w X.xe (EP X pins σ Q) ⟨.bl _, H, I, rfl, q⟩
end

/-! ### texts of numbers, of intervals -/
abbrev numS (i : Int) : Str := Str.ofString (toString i)
theorem tl_numS {i : Int} (h : 0 ≤ i) : TL.tl (numS i) = TL.numL i.toNat := by
  have e : i = ((i.toNat : Nat) : Int) := by omega
  rw [e]
  exact TL.tl_num i.toNat
theorem numS_inj {i j : Int} (hi : 0 ≤ i) (hj : 0 ≤ j) (h : TL.tl (numS i) = TL.tl (numS j)) : i = j := by
  rw [tl_numS hi, tl_numS hj] at h
  have := TL.numL_inj h
  omega
theorem numS_len {i : Int} (h0 : 0 ≤ i) (h : i ≤ 1000000000000) : (numS i).length ≤ 13 := by
  rw [TL.len_tl, tl_numS h0]
  exact TL.numL_len (by decide) (by omega)
theorem numS_pos {i : Int} (h0 : 0 ≤ i) : 0 < (numS i).length := by
  rw [TL.len_tl, tl_numS h0]
  exact List.length_pos_iff.mpr (TL.numL_ne _)
theorem log2_tr {i : Int} (h0 : 0 ≤ i) (h : i ≤ 10 ^ 30) : i.natAbs.log2 < 1920 := by
  refine PySem.Flt.log2_lt_of (by decide) (Nat.lt_of_le_of_lt (m := 10 ^ 30) (by omega) (by decide +kernel))
theorem numS_free {i : Int} {s : Nat} (h0 : 0 ≤ i) (h : s < 48 ∨ 57 < s) : s ∉ TL.tl (numS i) := by
  rw [tl_numS h0]
  exact TL.numL_free h
theorem numS_decimal {i : Int} (h0 : 0 ≤ i) : Txt.isdecimal (numS i) = true := by
  unfold Txt.isdecimal
  rw [Bool.and_eq_true]
  refine ⟨decide_eq_true (numS_pos h0), ?_⟩
  rw [← Array.all_toList, List.all_eq_true]
  intro c hc
  have hd := TL.numL_digits i.toNat c (by rw [← tl_numS h0]; exact hc)
  have key : ∀ c, c < 58 → 48 ≤ c → Unicode.isDecimal c = true := by decide +kernel
  exact key c (by omega) (by omega)
theorem numS_int {i : Int} (h0 : 0 ≤ i) (h : i ≤ 1000000000000) : intText? (numS i) = some i := by
  have e : i = ((i.toNat : Nat) : Int) := by omega
  have l := TL.numL_len (n := i.toNat) (k := 13) (by decide) (by omega)
  have z := TL.int_num (n := i.toNat) (by omega)
  rw [← e] at z
  exact z
/-- low-high -/
def ivT (q : Int × Int) : Str := numS q.1 ++ "-" ++ numS q.2
theorem tl_hy : TL.tl ("-" : Str) = [45] := by decide +kernel
theorem tl_sp : TL.tl (" " : Str) = [32] := by decide +kernel
theorem tl_ivT (q : Int × Int) : TL.tl (ivT q) = TL.tl (numS q.1) ++ ([45] ++ TL.tl (numS q.2)) := by
  unfold ivT
  rw [TL.tl_append, TL.tl_append, tl_hy, List.append_assoc]
theorem ivT_part {q : Int × Int} (h : 0 ≤ q.1) : Txt.partition (ivT q) "-" = (numS q.1, ("-" : Str), numS q.2) := TL.partition_app (y := "-") tl_hy (numS_free h (.inl (by decide)))
theorem ivT_free {q : Int × Int} (h : 0 ≤ q.1) (h2 : 0 ≤ q.2) : 32 ∉ TL.tl (ivT q) := by
  rw [tl_ivT]
  intro m
  rcases List.mem_append.mp m with m | m
  · exact numS_free h (.inl (by decide)) m
  rcases List.mem_append.mp m with m | m
  · rw [List.mem_singleton] at m
    omega
  · exact numS_free h2 (.inl (by decide)) m
theorem ivT_len {q : Int × Int} (h : (0 ≤ q.1 ∧ q.1 ≤ q.2) ∧ q.2 ≤ 1000000000000) : (ivT q).length ≤ 27 := by
  have a := numS_len h.1.1 (by omega : q.1 ≤ 1000000000000)
  have b := numS_len (i := q.2) (by omega) h.2
  have c : ("-" : Str).length = 1 := by decide +kernel
  show (numS q.1 ++ "-" ++ numS q.2).length ≤ 27
  rw [Str.length_append, Str.length_append]
  omega
theorem ivT_inj {q r : Int × Int} (h : 0 ≤ q.1) (h2 : 0 ≤ q.2) (k : 0 ≤ r.1) (k2 : 0 ≤ r.2) (e : ivT q = ivT r) : q = r := by
  have p1 := ivT_part h
  rw [e, ivT_part k] at p1
  have e1 := congrArg (fun z : Str × Str × Str => TL.tl z.1) p1
  have e2 := congrArg (fun z : Str × Str × Str => TL.tl z.2.2) p1
  exact Prod.ext (numS_inj h k e1.symm) (numS_inj h2 k2 e2.symm)
def Vld0 (ps : List (Int × Int)) : Prop := ∀ q ∈ ps, (0 ≤ q.1 ∧ q.1 ≤ q.2) ∧ q.2 ≤ 1000000000000
/-- the text of a row -/
def rowT (ps : List (Int × Int)) : Str := if ps = [] then "none" else Txt.join " " (ps.map ivT)
theorem sp_kind : (" " : Str).cps.all (· < 256) = true := by decide +kernel
theorem rowT_split {ps : List (Int × Int)} (h : Vld0 ps) (n : ps ≠ []) : Txt.split (rowT ps) " " = ps.map ivT := by
  unfold rowT
  rw [if_neg n]
  refine TL.split_join tl_sp sp_kind (fun e => n (List.map_eq_nil_iff.mp e)) fun p hp => ?_
  obtain ⟨q, hq, rfl⟩ := List.mem_map.mp hp
  have b := h q hq
  exact ivT_free b.1.1 (by omega)
theorem rowT_head {ps : List (Int × Int)} (h : Vld0 ps) (n : ps ≠ []) : rowT ps ≠ "none" := by
  intro e
  have z := rowT_split h n
  rw [e, show Txt.split ("none" : Str) " " = [("none" : Str)] by decide +kernel] at z
  match ps, n, z, h with
  | q :: r, _, z, h =>
    injection z with z1 z2
    have b := h q List.mem_cons_self
    have : (45 : Nat) ∈ TL.tl (ivT q) := by
      rw [tl_ivT]
      exact List.mem_append_right _ (List.mem_append_left _ (List.mem_singleton.mpr rfl))
    rw [← z1] at this
    exact absurd this (by decide +kernel)
theorem map_ivT_inj : ∀ {ps qs : List (Int × Int)}, Vld0 ps → Vld0 qs → ps.map ivT = qs.map ivT → ps = qs
  | [], [], _, _, _ => rfl
  | [], _ :: _, _, _, h => by simp at h
  | _ :: _, [], _, _, h => by simp at h
  | p :: ps, q :: qs, a, b, h => by
    rw [List.map_cons, List.map_cons] at h
    injection h with h1 h2
    have x := a p List.mem_cons_self
    have y := b q List.mem_cons_self
    rw [ivT_inj x.1.1 (by omega) y.1.1 (by omega) h1, map_ivT_inj (fun z hz => a z (List.mem_cons_of_mem _ hz)) (fun z hz => b z (List.mem_cons_of_mem _ hz)) h2]
theorem rowT_inj {ps qs : List (Int × Int)} (a : Vld0 ps) (b : Vld0 qs) (h : rowT ps = rowT qs) : ps = qs := by
  by_cases n : ps = []
  · by_cases m : qs = []
    · rw [n, m]
    · refine absurd ?_ (rowT_head b m)
      rw [← h, n]
      rfl
  · by_cases m : qs = []
    · refine absurd ?_ (rowT_head a n)
      rw [h, m]
      rfl
    · have z := rowT_split a n
      rw [h, rowT_split b m] at z
      exact map_ivT_inj a b z.symm
theorem sum27 : ∀ {ps : List (Int × Int)}, Vld0 ps → ((ps.map ivT).map (·.length)).sum ≤ 27 * ps.length
  | [], _ => Nat.le_refl _
  | q :: ps, h => by
    have a := ivT_len (h q List.mem_cons_self)
    have b := sum27 (ps := ps) fun z hz => h z (List.mem_cons_of_mem _ hz)
    rw [List.map_cons, List.map_cons, List.sum_cons, List.length_cons]
    omega
theorem joinL_len : ∀ (S : List Nat) (L : List (List Nat)), (TL.joinL S L).length ≤ (L.map List.length).sum + L.length * S.length
  | S, [] => Nat.zero_le _
  | S, [p] => by
    show p.length ≤ p.length + 0 + (0 + 1) * S.length
    omega
  | S, p :: q :: r => by
    have ih := joinL_len S (q :: r)
    show (p ++ (S ++ TL.joinL S (q :: r))).length ≤ (p.length + ((q :: r).map List.length).sum) + ((q :: r).length + 1) * S.length
    rw [List.length_append, List.length_append, Nat.add_mul, Nat.one_mul]
    omega
theorem rowT_len {ps : List (Int × Int)} (h : Vld0 ps) : (rowT ps).length ≤ 28 * ps.length + 4 := by
  unfold rowT
  split
  · rw [show ("none" : Str).length = 4 by decide +kernel]
    omega
  · rw [TL.join_eq, TL.len_tl, TL.tl_join, tl_sp]
    have a := joinL_len [32] ((ps.map ivT).map TL.tl)
    have b := sum27 h
    have c : ((ps.map ivT).map TL.tl).map List.length = (ps.map ivT).map (·.length) := by
      rw [List.map_map]
      exact List.map_congr_left fun z _ => (TL.len_tl z).symm
    rw [c, List.length_map, List.length_map] at a
    have d : ([32] : List Nat).length = 1 := rfl
    rw [d] at a
    omega
/-! ### enumerate(list), for, with the list as it stands -/
theorem for_enumL {K : PySem.W.Frag} {a : Addr} {xs : List V} {g : TG} {tb : TS} {D : Ends} {σ : L2.St} {H : Hp} (Pv : Nat → L2.St → Hp → Prop) (h0 : Pv 0 σ H) (hq : ∀ i σ H, Pv i σ H → SqL K H a xs)
    (hs : ∀ (i : Nat) (x : V) (t : Addr) (σ : L2.St) (H : Hp), xs[i]? = some x → Pv i σ H → H t = none → g (.ref t) σ (upd H t (.tup [.int (i : Nat), x])) fun σ2 H2 => tb { D with nx := Pv (i + 1), ct := Pv (i + 1), bk := D.nx } σ2 H2) (hd : ∀ σ H, Pv xs.length σ H → D.nx σ H) :
    ∃ W : Nat → Nat → L2.St → Hp → Prop, (∃ m, W 0 m σ H) ∧ ∀ i m σ H, W i m σ H →
      ((Ite K a).stop i H ∧ D.nx σ H) ∨ ((Ite K a).go i H ∧ ∃ N : L2.St → Hp → Prop, (∀ σ' H', N σ' H' → ∃ m', m' < m ∧ W (i + 1) m' σ' H') ∧ ∀ v H', (Ite K a).yld i H v H' → g v σ H' fun σ2 H2 => tb { D with nx := N, ct := N, bk := D.nx } σ2 H2) := by
  refine ⟨fun i m σ H => i + m = xs.length ∧ Pv i σ H, ⟨xs.length, by omega, h0⟩, ?_⟩
  rintro i m σ H ⟨im, p⟩
  have hx := hq i σ H p
  by_cases c : i < xs.length
  · refine .inr ⟨⟨xs, xs[i], hx, List.getElem?_eq_getElem c⟩, Pv (i + 1), fun σ' H' p' => ⟨m - 1, by omega, by omega, p'⟩, ?_⟩
    rintro v H' ⟨t, x, rfl, nt, rfl, at_⟩
    exact hs i x t σ H (at_ xs hx) p nt
  · refine .inl ⟨⟨xs, hx, by omega⟩, hd σ H ?_⟩
    have : i = xs.length := by omega
    rw [← this]
    exact p

def topS (i : Nat) : Stmt := PySem.Challenge.pw_fewspans_k50_interval_texts.main.body.getD i (.Pass ⟨0, 0, 0, 0⟩)
abbrev s_is_number : Stmt := topS 5
abbrev N_is_number : List Str := ["value"]
theorem sc_is_number : FnScope N_is_number ["value"] (defScope s_is_number) := ⟨rfl, rfl, rfl, by decide +kernel, rfl, by decide +kernel, by decide +kernel⟩
abbrev s_is_position : Stmt := topS 6
abbrev N_is_position : List Str := ["value"]
theorem sc_is_position : FnScope N_is_position ["value"] (defScope s_is_position) := ⟨rfl, rfl, rfl, by decide +kernel, rfl, by decide +kernel, by decide +kernel⟩
abbrev s_is_tuple_of : Stmt := topS 7
abbrev N_is_tuple_of : List Str := ["value", "length"]
theorem sc_is_tuple_of : FnScope N_is_tuple_of ["value", "length"] (defScope s_is_tuple_of) := ⟨rfl, rfl, rfl, by decide +kernel, rfl, by decide +kernel, by decide +kernel⟩
abbrev s_is_interval : Stmt := topS 8
abbrev N_is_interval : List Str := ["value", "low", "high"]
theorem sc_is_interval : FnScope N_is_interval ["value"] (defScope s_is_interval) := ⟨rfl, rfl, rfl, by decide +kernel, rfl, by decide +kernel, by decide +kernel⟩
abbrev s_interval_text : Stmt := topS 10
abbrev N_interval_text : List Str := ["interval", "low", "high"]
theorem sc_interval_text : FnScope N_interval_text ["interval"] (defScope s_interval_text) := ⟨rfl, rfl, rfl, by decide +kernel, rfl, by decide +kernel, by decide +kernel⟩
abbrev s_joined_texts : Stmt := topS 11
abbrev N_joined_texts : List Str := ["texts"]
theorem sc_joined_texts : FnScope N_joined_texts ["texts"] (defScope s_joined_texts) := ⟨rfl, rfl, rfl, by decide +kernel, rfl, by decide +kernel, by decide +kernel⟩
abbrev s_intervals_text : Stmt := topS 12
abbrev N_intervals_text : List Str := ["intervals", "interval"]
theorem sc_intervals_text : FnScope N_intervals_text ["intervals"] (defScope s_intervals_text) := ⟨rfl, rfl, rfl, by decide +kernel, rfl, by decide +kernel, by decide +kernel⟩
abbrev s_parse_number : Stmt := topS 13
abbrev N_parse_number : List Str := ["text", "number"]
theorem sc_parse_number : FnScope N_parse_number ["text"] (defScope s_parse_number) := ⟨rfl, rfl, rfl, by decide +kernel, rfl, by decide +kernel, by decide +kernel⟩
abbrev s_parse_interval : Stmt := topS 14
abbrev N_parse_interval : List Str := ["word", "low", "hyphen", "high", "interval"]
theorem sc_parse_interval : FnScope N_parse_interval ["word"] (defScope s_parse_interval) := ⟨rfl, rfl, rfl, by decide +kernel, rfl, by decide +kernel, by decide +kernel⟩
abbrev s_parse_intervals : Stmt := topS 15
abbrev N_parse_intervals : List Str := ["text", "intervals", "index", "word", "interval"]
theorem sc_parse_intervals : FnScope N_parse_intervals ["text"] (defScope s_parse_intervals) := ⟨rfl, rfl, rfl, by decide +kernel, rfl, by decide +kernel, by decide +kernel⟩
abbrev s_law_deck : Stmt := topS 17
abbrev N_law_deck : List Str := ["_law_script", "_law_cell"]
theorem sc_law_deck : FnScope N_law_deck ["_law_script"] (defScope s_law_deck) := ⟨rfl, rfl, rfl, by decide +kernel, rfl, by decide +kernel, by decide +kernel⟩
abbrev s_law_draw : Stmt := topS 18
abbrev N_law_draw : List Str := ["_law_deck_here", "_law_many", "_law_cell", "_law_place"]
theorem sc_law_draw : FnScope N_law_draw ["_law_deck_here", "_law_many"] (defScope s_law_draw) := ⟨rfl, rfl, rfl, by decide +kernel, rfl, by decide +kernel, by decide +kernel⟩
abbrev s_law_same : Stmt := topS 19
abbrev N_law_same : List Str := ["_law_found", "_law_due", "_law_one", "_law_other"]
theorem sc_law_same : FnScope N_law_same ["_law_found", "_law_due"] (defScope s_law_same) := ⟨rfl, rfl, rfl, by decide +kernel, rfl, by decide +kernel, by decide +kernel⟩
abbrev s_law_small : Stmt := topS 20
abbrev N_law_small : List Str := ["_law_deck_here", "_law_most", "_law_span", "_law_found", "_law_k", "_law_low"]
theorem sc_law_small : FnScope N_law_small ["_law_deck_here", "_law_most", "_law_span"] (defScope s_law_small) := ⟨rfl, rfl, rfl, by decide +kernel, rfl, by decide +kernel, by decide +kernel⟩
abbrev s_law_moved : Stmt := topS 21
abbrev N_law_moved : List Str := ["_law_intervals", "_law_by", "_law_low", "_law_high"]
theorem sc_law_moved : FnScope N_law_moved ["_law_intervals", "_law_by"] (defScope s_law_moved) := ⟨rfl, rfl, rfl, by decide +kernel, rfl, by decide +kernel, by decide +kernel⟩
abbrev s_law_text : Stmt := topS 22
abbrev N_law_text : List Str := ["_law_intervals", "_law_low", "_law_high"]
theorem sc_law_text : FnScope N_law_text ["_law_intervals"] (defScope s_law_text) := ⟨rfl, rfl, rfl, by decide +kernel, rfl, by decide +kernel, by decide +kernel⟩
abbrev s_law : Stmt := topS 23
abbrev N_law : List Str := ["_law_script", "_law_deck_here", "_law_texts", "_law_some", "_law_turn", "_law_by", "_law_intervals", "_law_kept", "_law_text_here", "_law_one", "_law_k", "_law_mixed", "_law_start", "_law_many"]
theorem sc_law : FnScope N_law ["_law_script"] (defScope s_law) := ⟨rfl, rfl, rfl, by decide +kernel, rfl, by decide +kernel, by decide +kernel⟩
/-! ### the deck and its draws -/
structure Dk (H : Hp) (d c : Addr) (n : Int) : Prop where
  top : H d = some (.lst [.ref c, .int n])
  cells : ∃ xs : List Int, H c = some (.lst (xs.map V.int)) ∧ xs.length ≤ 63 ∧ ∀ x ∈ xs, 0 ≤ x
theorem Dk.ne {H : Hp} {d c : Addr} {n : Int} (h : Dk H d c n) : c ≠ d := by
  obtain ⟨xs, e, _⟩ := h.cells
  intro z
  subst z
  have q := e.symm.trans h.top
  cases xs with
  | nil => cases q
  | cons x r => cases q
/-- nothing but the deck has changed -/
def Kp (d c : Addr) (H H' : Hp) : Prop := ∀ b o, b ≠ d → b ≠ c → H b = some o → H' b = some o
theorem Kp.trans {d c : Addr} {H H1 H2 : Hp} (h1 : Kp d c H H1) (h2 : Kp d c H1 H2) : Kp d c H H2 := fun b o n1 n2 e => h2 b o n1 n2 (h1 b o n1 n2 e)
theorem Kp.same {d c : Addr} {H H1 : Hp} (h : Same H H1) : Kp d c H H1 := fun b o _ _ e => h b o e
theorem Kp.none {d c : Addr} {H H' : Hp} (k : Kp d c H H') {n m : Int} (h : Dk H d c n) (h' : Dk H' d c m) {t : Addr} (e : H' t = none) : H t = none := by
  by_cases e1 : t = d
  · rw [e1, h'.top] at e
    cases e
  · by_cases e2 : t = c
    · obtain ⟨xs, z, _⟩ := h'.cells
      rw [e2, z] at e
      cases e
    · cases q : H t with
      | none => rfl
      | some o =>
        rw [k t o e1 e2 q] at e
        cases e
theorem Dk.kept {H H' : Hp} {d c : Addr} {n : Int} (h : Dk H d c n) (s : Same H H') : Dk H' d c n :=
  let ⟨xs, e, a⟩ := h.cells
  ⟨s _ _ h.top, xs, s _ _ e, a⟩
theorem Dk.eq {H : Hp} {d c : Addr} {n m : Int} (h : Dk H d c n) (e : n = m) : Dk H d c m := e ▸ h
def sp_law_deck (K : PySem.W.Frag) : Sp := fun vs H Q _ => ∃ (a : Addr) (ns : List Int), vs = [.ref a] ∧ SqL K H a (ns.map V.int) ∧ ns.length ≤ 63 ∧
  ∀ H' d c, Same H H' → H d = none → H c = none → Dk H' d c 0 → Q (.ref d) H'
def sp_law_draw : Sp := fun vs H Q _ => ∃ (d c : Addr) (n lim : Int), vs = [.ref d, .int lim] ∧ Dk H d c n ∧ 0 ≤ n ∧ n < 1000000 ∧ 0 < lim ∧ lim < 2 ^ 63 ∧
  ∀ H' r, Kp d c H H' → Dk H' d c (n + 1) → 0 ≤ r → r < lim → Q (.int r) H'
theorem same_new {H : Hp} {p : Addr} {o : HO} (h : H p = none) : Same H (upd H p o) := fun b x e => by
  rw [upd_ne (ne_of_none e h)]
  exact e
theorem cutTo (xs : List V) (j : Nat) : cutV xs none (some (j : Int)) = xs.take j := by
  unfold cutV
  rw [HT.sIx_none, show HT.sIx xs.length xs.length (some (j : Int)) = min j xs.length from HT.sIx_nat xs.length xs.length j]
  rw [Nat.sub_zero, List.drop_zero]
  rcases Nat.le_total j xs.length with h | h
  · rw [Nat.min_eq_left h]
  · rw [Nat.min_eq_right h, List.take_length, List.take_of_length_le h]
section
structure Tx (K : PySem.W.Frag) (mg : Str → Option Value) (f_is_number f_is_position f_is_tuple_of f_is_interval f_interval_text f_joined_texts f_intervals_text f_parse_number f_parse_interval f_parse_intervals f_law_deck f_law_draw f_law_same f_law_small f_law_moved f_law_text f_law : Addr) (d_is_number d_is_position d_is_tuple_of d_is_interval d_interval_text d_joined_texts d_intervals_text d_parse_number d_parse_interval d_parse_intervals d_law_deck d_law_draw d_law_same d_law_small d_law_moved d_law_text d_law : FuncData) (t_LAST_POSITION : Tok) : Prop where
  F_is_number : Fun K "is_number" "is_number" s_is_number f_is_number d_is_number
  b_is_number : Binds K d_is_number ["value"] []
  g_is_number : mg "is_number" = some (.ref f_is_number)
  F_is_position : Fun K "is_position" "is_position" s_is_position f_is_position d_is_position
  b_is_position : Binds K d_is_position ["value"] []
  g_is_position : mg "is_position" = some (.ref f_is_position)
  F_is_tuple_of : Fun K "is_tuple_of" "is_tuple_of" s_is_tuple_of f_is_tuple_of d_is_tuple_of
  b_is_tuple_of : Binds K d_is_tuple_of ["value", "length"] []
  g_is_tuple_of : mg "is_tuple_of" = some (.ref f_is_tuple_of)
  F_is_interval : Fun K "is_interval" "is_interval" s_is_interval f_is_interval d_is_interval
  b_is_interval : Binds K d_is_interval ["value"] []
  g_is_interval : mg "is_interval" = some (.ref f_is_interval)
  F_interval_text : Fun K "interval_text" "interval_text" s_interval_text f_interval_text d_interval_text
  b_interval_text : Binds K d_interval_text ["interval"] []
  g_interval_text : mg "interval_text" = some (.ref f_interval_text)
  F_joined_texts : Fun K "joined_texts" "joined_texts" s_joined_texts f_joined_texts d_joined_texts
  b_joined_texts : Binds K d_joined_texts ["texts"] []
  g_joined_texts : mg "joined_texts" = some (.ref f_joined_texts)
  F_intervals_text : Fun K "intervals_text" "intervals_text" s_intervals_text f_intervals_text d_intervals_text
  b_intervals_text : Binds K d_intervals_text ["intervals"] []
  g_intervals_text : mg "intervals_text" = some (.ref f_intervals_text)
  F_parse_number : Fun K "parse_number" "parse_number" s_parse_number f_parse_number d_parse_number
  b_parse_number : Binds K d_parse_number ["text"] []
  g_parse_number : mg "parse_number" = some (.ref f_parse_number)
  F_parse_interval : Fun K "parse_interval" "parse_interval" s_parse_interval f_parse_interval d_parse_interval
  b_parse_interval : Binds K d_parse_interval ["word"] []
  g_parse_interval : mg "parse_interval" = some (.ref f_parse_interval)
  F_parse_intervals : Fun K "parse_intervals" "parse_intervals" s_parse_intervals f_parse_intervals d_parse_intervals
  b_parse_intervals : Binds K d_parse_intervals ["text"] []
  g_parse_intervals : mg "parse_intervals" = some (.ref f_parse_intervals)
  F_law_deck : Fun K "_law_deck" "_law_deck" s_law_deck f_law_deck d_law_deck
  b_law_deck : Binds K d_law_deck ["_law_script"] []
  g_law_deck : mg "_law_deck" = some (.ref f_law_deck)
  F_law_draw : Fun K "_law_draw" "_law_draw" s_law_draw f_law_draw d_law_draw
  b_law_draw : Binds K d_law_draw ["_law_deck_here", "_law_many"] []
  g_law_draw : mg "_law_draw" = some (.ref f_law_draw)
  F_law_same : Fun K "_law_same" "_law_same" s_law_same f_law_same d_law_same
  b_law_same : Binds K d_law_same ["_law_found", "_law_due"] []
  g_law_same : mg "_law_same" = some (.ref f_law_same)
  F_law_small : Fun K "_law_small" "_law_small" s_law_small f_law_small d_law_small
  b_law_small : Binds K d_law_small ["_law_deck_here", "_law_most", "_law_span"] []
  g_law_small : mg "_law_small" = some (.ref f_law_small)
  F_law_moved : Fun K "_law_moved" "_law_moved" s_law_moved f_law_moved d_law_moved
  b_law_moved : Binds K d_law_moved ["_law_intervals", "_law_by"] []
  g_law_moved : mg "_law_moved" = some (.ref f_law_moved)
  F_law_text : Fun K "_law_text" "_law_text" s_law_text f_law_text d_law_text
  b_law_text : Binds K d_law_text ["_law_intervals"] []
  g_law_text : mg "_law_text" = some (.ref f_law_text)
  F_law : Fun K "law" "law" s_law f_law d_law
  b_law : Binds K d_law ["_law_script"] []
  g_law : mg "law" = some (.ref f_law)
  c_LAST_POSITION : mg "LAST_POSITION" = some (.int 1000000000000 t_LAST_POSITION)
  z_abs : mg "abs" = none
  z_bool : mg "bool" = none
  z_enumerate : mg "enumerate" = none
  z_int : mg "int" = none
  z_isinstance : mg "isinstance" = none
  z_len : mg "len" = none
  z_range : mg "range" = none
  z_repr : mg "repr" = none
  z_set : mg "set" = none
  z_sorted : mg "sorted" = none
  z_str : mg "str" = none
  z_tuple : mg "tuple" = none
  z_zip : mg "zip" = none
variable {P : Program} {w : World} {K : PySem.W.Frag} {mg : Str → Option Value} {base : Heap} {f_is_number f_is_position f_is_tuple_of f_is_interval f_interval_text f_joined_texts f_intervals_text f_parse_number f_parse_interval f_parse_intervals f_law_deck f_law_draw f_law_same f_law_small f_law_moved f_law_text f_law : Addr} {d_is_number d_is_position d_is_tuple_of d_is_interval d_interval_text d_joined_texts d_intervals_text d_parse_number d_parse_interval d_parse_intervals d_law_deck d_law_draw d_law_same d_law_small d_law_moved d_law_text d_law : FuncData} {t_LAST_POSITION : Tok}
abbrev TxA (K : PySem.W.Frag) (mg : Str → Option Value) (f_is_number f_is_position f_is_tuple_of f_is_interval f_interval_text f_joined_texts f_intervals_text f_parse_number f_parse_interval f_parse_intervals f_law_deck f_law_draw f_law_same f_law_small f_law_moved f_law_text f_law : Addr) (d_is_number d_is_position d_is_tuple_of d_is_interval d_interval_text d_joined_texts d_intervals_text d_parse_number d_parse_interval d_parse_intervals d_law_deck d_law_draw d_law_same d_law_small d_law_moved d_law_text d_law : FuncData) (t_LAST_POSITION : Tok) := Tx K mg f_is_number f_is_position f_is_tuple_of f_is_interval f_interval_text f_joined_texts f_intervals_text f_parse_number f_parse_interval f_parse_intervals f_law_deck f_law_draw f_law_same f_law_small f_law_moved f_law_text f_law d_is_number d_is_position d_is_tuple_of d_is_interval d_interval_text d_joined_texts d_intervals_text d_parse_number d_parse_interval d_parse_intervals d_law_deck d_law_draw d_law_same d_law_small d_law_moved d_law_text d_law t_LAST_POSITION
theorem ok_law_deck (T : Tx K mg f_is_number f_is_position f_is_tuple_of f_is_interval f_interval_text f_joined_texts f_intervals_text f_parse_number f_parse_interval f_parse_intervals f_law_deck f_law_draw f_law_same f_law_small f_law_moved f_law_text f_law d_is_number d_is_position d_is_tuple_of d_is_interval d_interval_text d_joined_texts d_intervals_text d_parse_number d_parse_interval d_parse_intervals d_law_deck d_law_draw d_law_same d_law_small d_law_moved d_law_text d_law t_LAST_POSITION) : FnOk P w K mg base CX0 1 f_law_deck d_law_deck ["_law_script"] (sp_law_deck K) := by
  refine T.F_law_deck.ok sc_law_deck (fun vs H Q E h => ?_) (fun cdv A outer s H vs Q E hr h => ?_)
  · obtain ⟨a, ns, rfl, _⟩ := h
    rfl
  · obtain ⟨a, ns0, rfl, hS, hlen, q⟩ := h
    refine ⟨_, (pss_one (ps_ret (pe_lst (pa_cons (pe_lc (own := [("_law_cell", 1)]) (g := (gName 1)) (tt := tYes) (by rfl) sc_law_deck.nd (pi_list (pe_slice sl_list (pv 0) po_none (po_some pe_int))) (blkOk_by (own := [("_law_cell", 1)]) (N := N_law_deck) (sc := defScope s_law_deck) (by decide +kernel)) (fun _ _ _ _ _ => (pg_name (i := 1) sc_law_deck.nd rfl (Or.inl rfl))) (fun _ _ _ _ _ => pts_nil) (fun _ _ _ _ _ => (pe_callB call_abs (by rfl) T.z_abs (by decide +kernel) (pa_cons (pv 1) pa_nil)))) (pa_cons pe_int pa_nil))))), ?_⟩
    refine ⟨.ref a, rfl, 63, rfl, a, ns0.map V.int, rfl, hS, fun p np => ?_⟩
    rw [show cutV (ns0.map V.int) none (some 63) = (ns0.take 63).map V.int by rw [List.map_take]; exact cutTo _ 63]
    have hlen : (ns0.take 63).length ≤ 63 := Nat.le_trans (List.length_take_le' _ _) hlen
    generalize ns0.take 63 = ns at *
    have s1 : Same H (upd H p (.lst (ns.map V.int))) := same_new np
    refine ⟨p, rfl, ⟨_, SqL.of upd_same⟩, fun D nD => ?_⟩
    have nDp : D ≠ p := fun e => by
      rw [e, upd_same] at nD
      cases nD
    have nD0 : H D = none := by
      rw [upd_ne nDp] at nD
      exact nD
    refine lc_list (K := K) (a := p) (xs := ns.map V.int) (fun i H' => Same (upd H p (.lst (ns.map V.int))) H' ∧ H' D = some (.lst (((ns.take i).map fun (x : Int) => if x < 0 then -x else x).map V.int))) ⟨same_new nD, upd_same⟩ (fun i H' _ h => h.1.seq (SqL.of upd_same)) ?_ ?_
    · rintro i x H' hi ⟨sm, eD⟩
      rw [List.getElem?_map] at hi
      obtain ⟨n, en, rfl⟩ := Option.map_eq_some_iff.mp hi
      refine ⟨rfl, .int n, rfl, n, rfl, _, eD, ?_, ?_, ?_⟩
      · have : (List.take i ns).length ≤ ns.length := List.length_take_le' i ns
        simp only [List.length_map]
        exact small1000 (by omega)
      · intro b o e
        have nb : b ≠ D := ne_of_none e nD
        rw [upd_ne nb]
        exact sm b o e
      · rw [upd_same, List.take_add_one, en]
        simp
    · rintro H' ⟨sm, eD⟩
      rw [List.length_map, List.take_length] at eD
      refine ⟨by show 2 ≤ sizeLine; decide, fun d nd => ?_⟩
      have nDd : D ≠ d := ne_of_none eD nd
      have nd0 : H d = none := s1.free (sm.free nd)
      refine q _ d D (s1.trans (sm.trans (same_new nd))) nd0 nD0 ⟨upd_same, _, by rw [upd_ne nDd]; exact eD, by rw [List.length_map]; exact hlen, fun x hx => ?_⟩
      obtain ⟨y, _, rfl⟩ := List.mem_map.mp hx
      split <;> omega
theorem ok_law_draw (T : Tx K mg f_is_number f_is_position f_is_tuple_of f_is_interval f_interval_text f_joined_texts f_intervals_text f_parse_number f_parse_interval f_parse_intervals f_law_deck f_law_draw f_law_same f_law_small f_law_moved f_law_text f_law d_is_number d_is_position d_is_tuple_of d_is_interval d_interval_text d_joined_texts d_intervals_text d_parse_number d_parse_interval d_parse_intervals d_law_deck d_law_draw d_law_same d_law_small d_law_moved d_law_text d_law t_LAST_POSITION) : FnOk P w K mg base CX0 1 f_law_draw d_law_draw ["_law_deck_here", "_law_many"] sp_law_draw := by
  refine T.F_law_draw.ok sc_law_draw (fun vs H Q E h => ?_) (fun cdv A outer s H vs Q E hr h => ?_)
  · obtain ⟨d, c, n, lim, rfl, _⟩ := h
    rfl
  · obtain ⟨d, c, n, lim, rfl, dk, n0, n1, l0, l1, q⟩ := h
    obtain ⟨xs, ec, xl, xp⟩ := dk.cells
    have ncd := dk.ne
    have ed := dk.top
    have l64 : lim.natAbs < 2 ^ 64 := by omega
    have n64 : (n + 1).natAbs < 2 ^ 64 := by omega
    refine ⟨_, (pss_cons (ps_asg (pe_op op_add (pe_ix ix_list (pv 0) pe_int (fun _ _ => rfl)) pe_int) (pg_sub (pv 0) pe_int set_list))
      (pss_cons (ps_set (i := 2) sc_law_draw.nd rfl (Or.inl rfl) pe_int)
      (pss_cons (ps_set (i := 3) sc_law_draw.nd rfl (Or.inl rfl) (pe_un un_neg pe_int))
      (pss_cons (ps_if (pt_cmpR op_gt (pe_callB call_len_seq (by rfl) T.z_len PySem.boot_len (pa_cons (pe_ix ix_list (pv 0) pe_int (fun _ _ => rfl)) pa_nil)) pe_int (nomark _))
      (pss_cons (ps_set (i := 3) sc_law_draw.nd rfl (Or.inl rfl) (pe_op op_mod (pe_ix ix_list (pv 0) pe_int (fun _ _ => rfl)) (pe_callB call_len_seq (by rfl) T.z_len PySem.boot_len (pa_cons (pe_ix ix_list (pv 0) pe_int (fun _ _ => rfl)) pa_nil))))
      (pss_one (ps_set (i := 2) sc_law_draw.nd rfl (Or.inl rfl) (pe_ix ix_list (pe_ix ix_list (pv 0) pe_int (fun _ _ => rfl)) (pv 3) (fun _ _ => rfl)))))
      pss_nil)
      (pss_cons (ps_if (pt_cmpR op_ge (pv 2) (pe_op op_pow pe_int pe_int) (nomark _))
      (pss_cons (ps_asg (pe_op op_fdivW (pv 2) (pv 1)) (pg_sub (pe_ix ix_list (pv 0) pe_int (fun _ _ => rfl)) (pv 3) set_list))
      (pss_one (ps_ret (pe_op op_mod (pv 2) (pv 1)))))
      pss_nil)
      (pss_one (ps_ret (pe_op op_mod (pe_op op_mod (pe_op op_pow (pe_op op_add (pe_op op_add (pe_op op_mod (pv 2) pe_int) (pe_op op_mulW pe_int (pe_ix ix_list (pv 0) pe_int (fun _ _ => rfl)))) pe_int) pe_int) pe_int) (pv 1))))))))), ?_⟩
    refine ⟨.ref d, rfl, d, _, 1, .int n, rfl, rfl, SqL.of ed, rfl, n, 1, rfl, rfl, .ref d, rfl, d, _, 1, 1, rfl, rfl, ed, rfl, ?_⟩
    generalize eH : upd H d (.lst ([V.ref c, V.int n].set 1 (.int (n + 1)))) = H1
    have ed1 : H1 d = some (.lst [.ref c, .int (n + 1)]) := by
      rw [← eH, upd_same]
      rfl
    have ec1 : H1 c = some (.lst (xs.map V.int)) := by
      rw [← eH, upd_ne ncd]
      exact ec
    have kp1 : Kp d c H H1 := fun b o nb _ e => by
      rw [← eH, upd_ne nb]
      exact e
    have dk1 : Dk H1 d c (n + 1) := ⟨ed1, xs, ec1, xl, xp⟩
    refine ⟨1, rfl, ?_⟩
    refine ⟨.ref d, rfl, d, _, 0, .ref c, rfl, rfl, SqL.of ed1, rfl, c, _, rfl, .inl (SqL.of ec1), _, _, rfl, rfl, _, rfl, ite2 (fun e => ?_) (fun e => ?_)⟩
    · have e1 := of_decide_eq_true e
      rw [List.length_map] at e1
      have lp : (0 : Int) < (xs.map V.int).length := by rw [List.length_map]; exact e1
      have rem0 : 0 ≤ (n + 1) % ((xs.map V.int).length : Int) := Int.emod_nonneg _ (by omega)
      have rem1 : (n + 1) % ((xs.map V.int).length : Int) < (xs.map V.int).length := Int.emod_lt_of_pos _ lp
      obtain ⟨j, ej⟩ : ∃ j : Nat, (n + 1) % ((xs.map V.int).length : Int) = j := ⟨_, (Int.toNat_of_nonneg rem0).symm⟩
      have hj : j < xs.length := by
        rw [ej, List.length_map] at rem1
        omega
      have gj : (xs.map V.int)[j]? = some (.int xs[j]) := by
        rw [List.getElem?_map, List.getElem?_eq_getElem hj]
        rfl
      have x0 : 0 ≤ xs[j] := xp _ (List.getElem_mem hj)
      refine ⟨.ref d, rfl, d, _, 1, .int (n + 1), rfl, rfl, SqL.of ed1, rfl, .ref d, rfl, d, _, 0, .ref c, rfl, rfl, SqL.of ed1, rfl, c, _, rfl, .inl (SqL.of ec1), _, _, rfl, rfl, lp, ?_⟩
      refine ⟨.ref d, rfl, d, _, 0, .ref c, rfl, rfl, SqL.of ed1, rfl, .int _, rfl, c, _, _, .int xs[j], rfl, rfl, SqL.of ec1, (by rw [ej]; exact atI_nat gj), ?_⟩
      refine ⟨.int xs[j], rfl, 10, 18, rfl, rfl, ⟨by decide, by decide, by decide⟩, _, _, rfl, rfl, _, rfl, ite2 (fun e2 => ?_) (fun e2 => ?_)⟩
      · refine ⟨.int xs[j], rfl, .int lim, rfl, _, _, rfl, rfl, wide_div l0 l64 (by decide) (by decide), .ref d, rfl, d, _, 0, .ref c, rfl, rfl, SqL.of ed1, rfl, .int _, rfl, c, _, _, j, rfl, rfl, ec1, ?_, ?_⟩
        · rw [ej]
          unfold ixN
          rw [if_pos (by omega), if_pos (by rw [List.length_map]; omega)]
          rfl
        · refine ⟨.int xs[j], rfl, .int lim, rfl, _, _, rfl, rfl, l0, ?_⟩
          refine q _ _ ?_ ⟨?_, xs.set j (xs[j] / lim), ?_, ?_, ?_⟩ (Int.emod_nonneg _ (by omega)) (Int.emod_lt_of_pos _ l0)
          · intro b o nb nc e
            rw [upd_ne nc]
            exact kp1 b o nb nc e
          · rw [upd_ne ncd.symm]
            exact ed1
          · rw [upd_same, List.map_set]
          · rw [List.length_set]
            exact xl
          · intro x hx
            rcases List.mem_or_eq_of_mem_set hx with hm | he
            · exact xp x hm
            · rw [he]
              exact Int.ediv_nonneg x0 (by omega)
      · refine ⟨.int xs[j], rfl, _, _, rfl, rfl, (by show (0 : Int) < 2147483587; decide), .ref d, rfl, d, _, 1, .int (n + 1), rfl, rfl, SqL.of ed1, rfl, _, _, rfl, rfl, wide_mul (a := 13) (b := 64) (by decide) n64 (by decide) (by decide) (by decide), _, _, rfl, rfl, _, _, rfl, rfl, _, _, rfl, rfl, ⟨by decide, by decide, ?_⟩, _, _, rfl, rfl, (by show (0 : Int) < 2147483647; decide), .int lim, rfl, _, _, rfl, rfl, l0, ?_⟩
        · have a0 := Int.emod_nonneg xs[j] (show (2147483587 : Int) ≠ 0 by decide)
          have a1 := Int.emod_lt_of_pos xs[j] (show (0 : Int) < 2147483587 by decide)
          omega
        · exact q _ _ kp1 dk1 (Int.emod_nonneg _ (by omega)) (Int.emod_lt_of_pos _ l0)
    · refine ⟨.int 0, rfl, 10, 18, rfl, rfl, ⟨by decide, by decide, by decide⟩, _, _, rfl, rfl, _, rfl, ite2 (fun e2 => ?_) (fun e2 => ?_)⟩
      · exact absurd e2 (by decide)
      · refine ⟨.int 0, rfl, _, _, rfl, rfl, (by show (0 : Int) < 2147483587; decide), .ref d, rfl, d, _, 1, .int (n + 1), rfl, rfl, SqL.of ed1, rfl, _, _, rfl, rfl, wide_mul (a := 13) (b := 64) (by decide) n64 (by decide) (by decide) (by decide), _, _, rfl, rfl, _, _, rfl, rfl, _, _, rfl, rfl, ⟨by decide, by decide, ?_⟩, _, _, rfl, rfl, (by show (0 : Int) < 2147483647; decide), .int lim, rfl, _, _, rfl, rfl, l0, ?_⟩
        · have a0 := Int.emod_nonneg 0 (show (2147483587 : Int) ≠ 0 by decide)
          have a1 := Int.emod_lt_of_pos 0 (show (0 : Int) < 2147483587 by decide)
          omega
        · exact q _ _ kp1 dk1 (Int.emod_nonneg _ (by omega)) (Int.emod_lt_of_pos _ l0)
theorem Kp.keep {d c : Addr} {H H' : Hp} (k : Kp d c H H') {a : Addr} {o : HO} (n1 : a ≠ d ∧ a ≠ c) (h : H a = some o) : H' a = some o := k a o n1.1 n1.2 h
theorem Kp.tup {d c : Addr} {n : Int} {H H' : Hp} (k : Kp d c H H') (dk : Dk H d c n) {a : Addr} {xs : List V} (h : H a = some (.tup xs)) : H' a = some (.tup xs) := by
  obtain ⟨ys, e, _⟩ := dk.cells
  exact k a _ (ne_of h dk.top (fun z => by cases z)) (ne_of h e (fun z => by cases z)) h
theorem Dk.off {H : Hp} {d c : Addr} {n : Int} (h : Dk H d c n) {p : Addr} (e : H p = none) : p ≠ d ∧ p ≠ c := by
  obtain ⟨ys, z, _⟩ := h.cells
  exact ⟨(ne_of_none h.top e).symm, (ne_of_none z e).symm⟩
theorem Dk.upd {H : Hp} {d c : Addr} {n : Int} (h : Dk H d c n) {p : Addr} {o : HO} (off : p ≠ d ∧ p ≠ c) : Dk (upd H p o) d c n := by
  obtain ⟨ys, z, w⟩ := h.cells
  exact ⟨by rw [upd_ne off.1.symm]; exact h.top, ys, by rw [upd_ne off.2.symm]; exact z, w⟩

abbrev Off (d c p : Addr) : Prop := p ≠ d ∧ p ≠ c
/-! ### what stays when the heap grows, or the deck is drawn from -/
theorem rd_same {H H' : Hp} (s : Same H H') {a : Addr} {u : HO} (h : Rd H a u) : Rd H' a u := by
  rcases h with h | ⟨o, h⟩
  · exact .inl (s _ _ h)
  · exact .inr ⟨o, s _ _ h⟩
theorem sqT_same {K : PySem.W.Frag} {H H' : Hp} (s : Same H H') {a : Addr} {xs : List V} (h : SqT K H a xs) : SqT K H' a xs := by
  rcases h with h | h
  · exact .inl (rd_same s h)
  · exact .inr h
theorem dp_same {K : PySem.W.Frag} {H H' : Hp} (s : Same H H') {v : V} {d : PyData} (h : Dp K H v d) : Dp K H' v d := by
  refine Dp.rec (K := K) (H := H) (motive_1 := fun v d _ => Dp K H' v d) (motive_2 := fun vs ds _ => DpAll K H' vs ds) .non (fun b => .bl b) (fun i => .int i) (fun x => .str x) (fun hs _ q => .lst (s.seq hs) q) (fun hs _ q => .tup (sqT_same s hs) q) .nil (fun _ _ a b => .cons a b) h
theorem dp2 {K : PySem.W.Frag} {H : Hp} {t : Addr} {x y : Int} (h : H t = some (.tup [.int x, .int y])) : Dp K H (.ref t) (.tuple [.int x, .int y]) := .tup (SqT.of h) (.cons (.int x) (.cons (.int y) .nil))
theorem sm2 {x y : Int} (h1 : x.natAbs < 10 ^ 30) (h2 : y.natAbs < 10 ^ 30) : Sm 202 1 (.tuple [.int x, .int y]) := by
  have h := Sm.tup (n := 100) (dp := 0) (ds := [.int x, .int y]) (fun d hd => by
    rcases List.mem_cons.mp hd with rfl | hd
    · exact Sm.int h1
    · rcases List.mem_cons.mp hd with rfl | hd
      · exact Sm.int h2
      · cases hd)
  exact h
/-- an interval, or None -/
def optD : Option (Int × Int) → PyData
  | none => .none
  | some (x, y) => .tuple [.int x, .int y]
def OV (H : Hp) (v : V) : Option (Int × Int) → Prop
  | none => v = .non
  | some (x, y) => ∃ t, v = .ref t ∧ H t = some (.tup [.int x, .int y])
theorem OV.same {H H' : Hp} (s : Same H H') {v : V} {o : Option (Int × Int)} (h : OV H v o) : OV H' v o := by
  match o, h with
  | none, h => exact h
  | some (x, y), h =>
    obtain ⟨t, e, z⟩ := h
    exact ⟨t, e, s _ _ z⟩
theorem OV.kp {d c : Addr} {n : Int} {H H' : Hp} (k : Kp d c H H') (dk : Dk H d c n) {v : V} {o : Option (Int × Int)} (h : OV H v o) : OV H' v o := by
  match o, h with
  | none, h => exact h
  | some (x, y), h =>
    obtain ⟨t, e, z⟩ := h
    exact ⟨t, e, k.tup dk z⟩
theorem OV.dp {K : PySem.W.Frag} {H : Hp} {v : V} {o : Option (Int × Int)} (h : OV H v o) : Dp K H v (optD o) := by
  match o, h with
  | none, h =>
    cases h
    exact .non
  | some (x, y), h =>
    obtain ⟨t, e, z⟩ := h
    subst e
    exact dp2 z

/-! ### rows of intervals -/
inductive Ivs (H : Hp) : List V → List (Int × Int) → Prop
  | nil : Ivs H [] []
  | cons {a : Addr} {x y : Int} {vs : List V} {ps : List (Int × Int)} : H a = some (.tup [.int x, .int y]) → Ivs H vs ps → Ivs H (.ref a :: vs) ((x, y) :: ps)
theorem Ivs.length {H : Hp} {vs : List V} {ps : List (Int × Int)} (h : Ivs H vs ps) : vs.length = ps.length := by
  induction h with
  | nil => rfl
  | cons _ _ ih => rw [List.length_cons, List.length_cons, ih]
theorem Ivs.same {H H' : Hp} (s : Same H H') {vs : List V} {ps : List (Int × Int)} (h : Ivs H vs ps) : Ivs H' vs ps := by
  induction h with
  | nil => exact .nil
  | cons e _ ih => exact .cons (s _ _ e) ih
theorem Ivs.kp {d c : Addr} {n : Int} {H H' : Hp} (k : Kp d c H H') (dk : Dk H d c n) {vs : List V} {ps : List (Int × Int)} (h : Ivs H vs ps) : Ivs H' vs ps := by
  induction h with
  | nil => exact .nil
  | cons e _ ih => exact .cons (k.tup dk e) ih
theorem Ivs.get {H : Hp} {vs : List V} {ps : List (Int × Int)} (h : Ivs H vs ps) : ∀ {i : Nat} {v : V}, vs[i]? = some v → ∃ a x y, v = .ref a ∧ ps[i]? = some (x, y) ∧ H a = some (.tup [.int x, .int y]) := by
  induction h with
  | nil =>
    intro i v e
    simp at e
  | cons e _ ih =>
    intro i v q
    cases i with
    | zero =>
      cases q
      exact ⟨_, _, _, rfl, rfl, e⟩
    | succ i => exact ih q
theorem Ivs.snoc {H : Hp} {vs : List V} {ps : List (Int × Int)} {a : Addr} {x y : Int} (h : Ivs H vs ps) (e : H a = some (.tup [.int x, .int y])) : Ivs H (vs ++ [.ref a]) (ps ++ [(x, y)]) := by
  induction h with
  | nil => exact .cons e .nil
  | cons z _ ih => exact .cons z ih
def pairD (p : Int × Int) : PyData := .tuple [.int p.1, .int p.2]
theorem Ivs.dp {K : PySem.W.Frag} {H : Hp} {vs : List V} {ps : List (Int × Int)} (h : Ivs H vs ps) : DpAll K H vs (ps.map pairD) := by
  induction h with
  | nil => exact .nil
  | cons e _ ih => exact .cons (dp2 e) ih

/-! ### comprehensions that change nothing but make new objects -/
/-- the tuples stay -/
def Tps (H H' : Hp) : Prop := ∀ b xs, H b = some (.tup xs) → H' b = some (.tup xs)
theorem Tps.refl (H : Hp) : Tps H H := fun _ _ e => e
theorem Tps.trans {H H1 H2 : Hp} (h : Tps H H1) (h2 : Tps H1 H2) : Tps H H2 := fun b xs e => h2 b xs (h b xs e)
theorem Tps.same {H H1 : Hp} (h : Same H H1) : Tps H H1 := fun b xs e => h b _ e
theorem Kp.tps {d c : Addr} {n : Int} {H H' : Hp} (k : Kp d c H H') (dk : Dk H d c n) : Tps H H' := fun _ _ e => k.tup dk e
theorem Tps.lst {H : Hp} {D : Addr} {ws vs : List V} (e : H D = some (.lst ws)) : Tps H (upd H D (.lst vs)) := fun b xs h => by
  rw [upd_ne (ne_of h e (fun z => by cases z))]
  exact h
theorem same_off {H0 H : Hp} {D : Addr} {o : HO} (n : H0 D = none) (s : Same H0 H) : Same H0 (upd H D o) := fun b u e => by
  rw [upd_ne (ne_of_none e n)]
  exact s b u e
theorem few_line {n : Nat} (h : n < 1000) : n < sizeLine := by
  rw [show sizeLine = 16777216 by decide]
  omega
theorem lcL {K : PySem.W.Frag} {a : Addr} {xs : List V} {g : TG} {tt : TT} {te : TE} {vs : List Nat} {σ : L2.St} {H1 : Hp} {D : Addr} {Qd : Hp → Prop} (R : Nat → Hp → List V → Prop) (nD : H1 D = none) (hl : ∀ H', Same H1 H' → SqL K H' a xs) (few : xs.length < 1000)
    (mono : ∀ i H' H'' ws, Tps H' H'' → R i H' ws → R i H'' ws) (len : ∀ i H' ws, R i H' ws → ws.length ≤ i) (r0 : ∀ H', R 0 H' [])
    (hs : ∀ i x H' (N : Hp → Prop) acc, xs[i]? = some x → Same H1 H' → H' D = some (.lst acc) → acc.length < sizeLine → R i H' acc → (∀ H'', Same H' H'' → R (i + 1) H'' acc → N H'') → (∀ H'' y, Same H' H'' → R (i + 1) H'' (acc ++ [y]) → ∃ acc', H'' D = some (.lst acc') ∧ acc'.length < sizeLine ∧ N (upd H'' D (.lst (acc' ++ [y])))) →
      g x (wipe σ vs) H' fun σ2 H2 => wipe σ2 vs = wipe σ vs ∧ tt σ2 H2 fun b H3 => if b = true then te σ2 H3 fun y H4 => ∃ acc, H4 D = some (.lst acc) ∧ acc.length < sizeLine ∧ N (upd H4 D (.lst (acc ++ [y]))) else N H3)
    (hd : ∀ H' ws, Same H1 H' → H' D = some (.lst ws) → R xs.length H' ws → Qd H') :
    ∃ W : Nat → Nat → Hp → Prop, (∃ m, W 0 m (upd H1 D (.lst []))) ∧ ∀ i m H, W i m H →
      ((Itl K a).stop i H ∧ Qd H) ∨ ((Itl K a).go i H ∧ ∃ Nx : Hp → Prop, (∀ H', Nx H' → ∃ m', m' < m ∧ W (i + 1) m' H') ∧ ∀ x H', (Itl K a).yld i H x H' → g x (wipe σ vs) H' fun σ2 H2 => wipe σ2 vs = wipe σ vs ∧ tt σ2 H2 fun b H3 =>
        if b = true then te σ2 H3 fun y H4 => ∃ acc, H4 D = some (.lst acc) ∧ acc.length < sizeLine ∧ Nx (upd H4 D (.lst (acc ++ [y]))) else Nx H3) := by
  refine lc_list (K := K) (a := a) (xs := xs) (fun i H' => Same H1 H' ∧ ∃ ws, H' D = some (.lst ws) ∧ R i H' ws) ⟨same_new nD, [], upd_same, r0 _⟩ (fun i H' _ h => hl H' h.1) ?_ ?_
  · rintro i x H' hi ⟨sm, ws, eD, r⟩
    have lt := (List.getElem?_eq_some_iff.mp hi).1
    have lw := len i H' ws r
    have sz : ws.length < sizeLine := few_line (by omega)
    refine hs i x H' _ ws hi sm eD sz r (fun H'' s r2 => ⟨sm.trans s, ws, s _ _ eD, r2⟩) (fun H'' y s r2 => ?_)
    exact ⟨ws, s _ _ eD, sz, same_off nD (sm.trans s), _, upd_same, mono _ _ _ _ (Tps.lst (s _ _ eD)) r2⟩
  · rintro H' ⟨sm, ws, eD, r⟩
    exact hd H' ws sm eD r
theorem lcT {K : PySem.W.Frag} {a : Addr} {xs : List V} {g : TG} {tt : TT} {te : TE} {vs : List Nat} {σ : L2.St} {H1 : Hp} {D : Addr} {Qd : Hp → Prop} (R : Nat → Hp → List V → Prop) (nD : H1 D = none) (hl : ∀ H', Same H1 H' → SqT K H' a xs) (few : xs.length < 1000)
    (mono : ∀ i H' H'' ws, Tps H' H'' → R i H' ws → R i H'' ws) (len : ∀ i H' ws, R i H' ws → ws.length ≤ i) (r0 : ∀ H', R 0 H' [])
    (hs : ∀ i x H' (N : Hp → Prop) acc, xs[i]? = some x → Same H1 H' → H' D = some (.lst acc) → acc.length < sizeLine → R i H' acc → (∀ H'', Same H' H'' → R (i + 1) H'' acc → N H'') → (∀ H'' y, Same H' H'' → R (i + 1) H'' (acc ++ [y]) → ∃ acc', H'' D = some (.lst acc') ∧ acc'.length < sizeLine ∧ N (upd H'' D (.lst (acc' ++ [y])))) →
      g x (wipe σ vs) H' fun σ2 H2 => wipe σ2 vs = wipe σ vs ∧ tt σ2 H2 fun b H3 => if b = true then te σ2 H3 fun y H4 => ∃ acc, H4 D = some (.lst acc) ∧ acc.length < sizeLine ∧ N (upd H4 D (.lst (acc ++ [y]))) else N H3)
    (hd : ∀ H' ws, Same H1 H' → H' D = some (.lst ws) → R xs.length H' ws → Qd H') :
    ∃ W : Nat → Nat → Hp → Prop, (∃ m, W 0 m (upd H1 D (.lst []))) ∧ ∀ i m H, W i m H →
      ((Itt K a).stop i H ∧ Qd H) ∨ ((Itt K a).go i H ∧ ∃ Nx : Hp → Prop, (∀ H', Nx H' → ∃ m', m' < m ∧ W (i + 1) m' H') ∧ ∀ x H', (Itt K a).yld i H x H' → g x (wipe σ vs) H' fun σ2 H2 => wipe σ2 vs = wipe σ vs ∧ tt σ2 H2 fun b H3 =>
        if b = true then te σ2 H3 fun y H4 => ∃ acc, H4 D = some (.lst acc) ∧ acc.length < sizeLine ∧ Nx (upd H4 D (.lst (acc ++ [y]))) else Nx H3) := by
  refine lc_tup (K := K) (a := a) (xs := xs) (fun i H' => Same H1 H' ∧ ∃ ws, H' D = some (.lst ws) ∧ R i H' ws) ⟨same_new nD, [], upd_same, r0 _⟩ (fun i H' _ h => hl H' h.1) ?_ ?_
  · rintro i x H' hi ⟨sm, ws, eD, r⟩
    have lt := (List.getElem?_eq_some_iff.mp hi).1
    have lw := len i H' ws r
    have sz : ws.length < sizeLine := few_line (by omega)
    refine hs i x H' _ ws hi sm eD sz r (fun H'' s r2 => ⟨sm.trans s, ws, s _ _ eD, r2⟩) (fun H'' y s r2 => ?_)
    exact ⟨ws, s _ _ eD, sz, same_off nD (sm.trans s), _, upd_same, mono _ _ _ _ (Tps.lst (s _ _ eD)) r2⟩
  · rintro H' ⟨sm, ws, eD, r⟩
    exact hd H' ws sm eD r
theorem map_filter_len {α : Type} {ns : List α} {p : α → Bool} {f : α → V} (i : Nat) : (((ns.take i).filter p).map f).length ≤ i := by
  rw [List.length_map]
  exact Nat.le_trans (List.length_filter_le _ _) (List.length_take_le _ _)
theorem take_filter {α : Type} {ns : List α} {i : Nat} {n : α} {p : α → Bool} (h : ns[i]? = some n) : (ns.take (i + 1)).filter p = (ns.take i).filter p ++ (if p n = true then [n] else []) := by
  rw [List.take_add_one, h, List.filter_append]
  congr 1
  show List.filter p [n] = _
  rw [List.filter_cons]
  split <;> rfl
theorem nodup_le {α : Type} [DecidableEq α] : ∀ {l m : List α}, l.Nodup → (∀ x ∈ l, x ∈ m) → l.length ≤ m.length
  | [], _, _, _ => Nat.zero_le _
  | a :: l, m, h, hs => by
    have hm := hs a List.mem_cons_self
    have h' := List.nodup_cons.mp h
    have ih := nodup_le (l := l) (m := m.erase a) h'.2 (fun x hx => (List.mem_erase_of_ne (fun e => h'.1 (by rw [← e]; exact hx))).mpr (hs x (List.mem_cons_of_mem _ hx)))
    rw [List.length_erase_of_mem hm] at ih
    have := List.length_pos_of_mem hm
    rw [List.length_cons]
    omega

theorem Ivs.tps {H H' : Hp} (s : Tps H H') {vs : List V} {ps : List (Int × Int)} (h : Ivs H vs ps) : Ivs H' vs ps := by
  induction h with
  | nil => exact .nil
  | cons e _ ih => exact .cons (s _ _ e) ih
theorem Ivs.append {H : Hp} {vs us : List V} {ps qs : List (Int × Int)} (h : Ivs H vs ps) (h2 : Ivs H us qs) : Ivs H (vs ++ us) (ps ++ qs) := by
  induction h with
  | nil => exact h2
  | cons e _ ih => exact .cons e ih
theorem Ivs.isEmpty {H : Hp} {vs : List V} {ps : List (Int × Int)} (h : Ivs H vs ps) : vs.isEmpty = ps.isEmpty := by
  cases h <;> rfl

/-! ### sorted(set(pairs)) -/
def ltP (a b : Int × Int) : Prop := a.1 < b.1 ∨ (a.1 = b.1 ∧ a.2 < b.2)
def prL (q : Int × Int) : List Int := [q.1, q.2]
theorem prL_inj {a b : Int × Int} (h : prL a = prL b) : a = b := by
  unfold prL at h
  cases a
  cases b
  simp at h
  rw [h.1, h.2]
theorem mem_prL {q : Int × Int} {ps : List (Int × Int)} : prL q ∈ ps.map prL ↔ q ∈ ps := by
  rw [List.mem_map]
  exact ⟨fun ⟨a, ha, e⟩ => prL_inj e ▸ ha, fun h => ⟨q, h, rfl⟩⟩
theorem Ivs.keys {H : Hp} {us : List V} {ps : List (Int × Int)} (h : Ivs H us ps) : ∃ ks : List (Addr × List Int), us = ks.map (fun p => V.ref p.1) ∧ ks.map (·.2) = ps.map prL ∧ ∀ p ∈ ks, ∃ x y : Int, p.2 = [x, y] ∧ H p.1 = some (.tup [.int x, .int y]) := by
  induction h with
  | nil => exact ⟨[], rfl, rfl, fun p hp => nomatch hp⟩
  | cons e _ ih =>
    obtain ⟨ks, e1, e2, e3⟩ := ih
    refine ⟨(_, [_, _]) :: ks, by rw [List.map_cons, e1], by rw [List.map_cons, List.map_cons, e2]; rfl, fun p hp => ?_⟩
    rcases List.mem_cons.mp hp with rfl | hp
    · exact ⟨_, _, rfl, e⟩
    · exact e3 p hp
theorem Ivs.ofKeys {H : Hp} : ∀ {L : List (Addr × List Int)}, (∀ p ∈ L, ∃ x y : Int, p.2 = [x, y] ∧ H p.1 = some (.tup [.int x, .int y])) → ∃ ps, Ivs H (L.map fun p => V.ref p.1) ps ∧ L.map (·.2) = ps.map prL
  | [], _ => ⟨[], .nil, rfl⟩
  | p :: L, h => by
    obtain ⟨x, y, e, e1⟩ := h p List.mem_cons_self
    obtain ⟨ps, i, e2⟩ := Ivs.ofKeys (L := L) fun q hq => h q (List.mem_cons_of_mem _ hq)
    exact ⟨(x, y) :: ps, .cons e1 i, by rw [List.map_cons, List.map_cons, e2, e]; rfl⟩
theorem Ivs.tpsMem {H : Hp} {us : List V} {ps : List (Int × Int)} (h : Ivs H us ps) {q : Int × Int} (hq : q ∈ ps) : ∃ a, V.ref a ∈ us ∧ H a = some (.tup [.int q.1, .int q.2]) := by
  induction h with
  | nil => cases hq
  | cons e _ ih =>
    rcases List.mem_cons.mp hq with rfl | hq
    · exact ⟨_, List.mem_cons_self, e⟩
    · obtain ⟨a, h1, h2⟩ := ih hq
      exact ⟨a, List.mem_cons_of_mem _ h1, h2⟩
theorem sorted_keys {K : PySem.W.Frag} {P : Program} {w : World} {H : Hp} {ps : List (Int × Int)} {Q : VK} {ks L : List (Addr × List Int)} {a : Addr} (e2 : ks.map (·.2) = ps.map prL) (e3 : ∀ p ∈ ks, ∃ x y : Int, p.2 = [x, y] ∧ H p.1 = some (.tup [.int x, .int y])) (na : H a = none) (h1 : ∀ p ∈ L, p ∈ ks) (h2 : ∀ p ∈ ks, p.2 ∈ L.map (·.2)) (bd : ∀ q ∈ ps, (0 ≤ q.1 ∧ q.1 < 10 ^ 13) ∧ 0 ≤ q.2 ∧ q.2 < 10 ^ 13)
    (fin : ∀ H' p us' ps', Same H H' → H p = none → H' p = some (.lst us') → Ivs H' us' ps' → ps'.Pairwise ltP → (∀ q, q ∈ ps' ↔ q ∈ ps) → Q (.ref p) H') :
    rSortedT K P w [.ref a] (upd H a (SetTO P w a L)) Q := by
  have s1 : Same H (upd H a (SetTO P w a L)) := same_new na
  refine ⟨a, L, 2, 10 ^ 13, rfl, upd_same, fun p hp => ?_, by decide, fun p hp => ?_, fun L' p pm nd fw pw np => ?_⟩
  · obtain ⟨x, y, e, e1⟩ := e3 p (h1 p hp)
    rw [e]
    exact SqT.of (s1 _ _ e1)
  · have m : p.2 ∈ ks.map (·.2) := List.mem_map.mpr ⟨p, h1 p hp, rfl⟩
    rw [e2] at m
    obtain ⟨q, hq, e⟩ := List.mem_map.mp m
    have b := bd q hq
    rw [← e]
    refine ⟨rfl, fun m hm => ?_⟩
    unfold prL at hm
    rcases List.mem_cons.mp hm with rfl | hm
    · exact b.1
    · rw [List.mem_singleton.mp hm]
      exact b.2
  · have s2 : Same (upd H a (SetTO P w a L)) (upd (upd H a (SetTO P w a L)) p (.lst (L'.map fun q => V.ref q.1))) := same_new np
    obtain ⟨ps', i, e4⟩ := Ivs.ofKeys (H := H) (L := L') fun q hq => e3 q (h1 q (pm.mem_iff.mp hq))
    have mem : ∀ q, q ∈ ps' ↔ q ∈ ps := fun q => by
      rw [← mem_prL, ← e4, ← mem_prL (ps := ps), ← e2, (pm.map (·.2)).mem_iff]
      constructor
      · intro h
        obtain ⟨p, hp, e⟩ := List.mem_map.mp h
        exact List.mem_map.mpr ⟨p, h1 p hp, e⟩
      · intro h
        obtain ⟨p, hp, e⟩ := List.mem_map.mp h
        rw [← e]
        exact h2 p hp
    refine fin _ p _ ps' (s1.trans s2) (s1.free np) upd_same (i.same (s1.trans s2)) ?_ mem
    have pw2 : (L'.map (·.2)).Pairwise (fun q r => TS.code (10 ^ 13) q ≤ TS.code (10 ^ 13) r) := List.pairwise_map.mpr pw
    have both := pw2.and nd
    rw [e4] at both
    refine (List.pairwise_map.mp both).imp_of_mem fun {x y} hx hy h => ?_
    have bx := bd x ((mem x).mp hx)
    have bY := bd y ((mem y).mp hy)
    have tb : ∀ {z : Int × Int}, ((0 ≤ z.1 ∧ z.1 < 10 ^ 13) ∧ 0 ≤ z.2 ∧ z.2 < 10 ^ 13) → TS.Bd (10 ^ 13) [z.1, z.2] := fun b m hm => by
      rcases List.mem_cons.mp hm with rfl | hm
      · exact b.1
      · rw [List.mem_singleton.mp hm]
        exact b.2
    rcases code_lex (tb bx) (tb bY) h.1 with c | ⟨c1, c2⟩
    · exact .inl c
    · refine .inr ⟨c1, ?_⟩
      rcases Int.lt_or_eq_of_le c2 with z | z
      · exact z
      · exact absurd (show prL x = prL y by unfold prL; rw [c1, z]) h.2
theorem sorted_set_pairs {K : PySem.W.Frag} {P : Program} {w : World} {H : Hp} {l : Addr} {us : List V} {ps : List (Int × Int)} {Q : VK} (hl : SqL K H l us) (iv : Ivs H us ps) (few : ps.length < 64) (bd : ∀ q ∈ ps, (0 ≤ q.1 ∧ q.1 < 10 ^ 13) ∧ 0 ≤ q.2 ∧ q.2 < 10 ^ 13)
    (fin : ∀ H' p us' ps', Same H H' → H p = none → H' p = some (.lst us') → Ivs H' us' ps' → ps'.Pairwise ltP → (∀ q, q ∈ ps' ↔ q ∈ ps) → Q (.ref p) H') :
    rSetOfT K P w [.ref l] H (fun x H1 => rSortedT K P w [x] H1 Q) := by
  obtain ⟨ks, rfl, e2, e3⟩ := iv.keys
  have lk : ks.length = ps.length := by
    have z := congrArg List.length e2
    rw [List.length_map, List.length_map] at z
    exact z
  refine ⟨l, ks, rfl, hl, fun p hp => ?_, by omega, fun a L na h1 h2 => ?_⟩
  · obtain ⟨x, y, e, e1⟩ := e3 p hp
    rw [e]
    exact SqT.of e1
  exact sorted_keys e2 e3 na h1 h2 bd fin

/-! ### a comprehension over two tuples -/
theorem lcZ {K : PySem.W.Frag} {a b : Addr} {xs ys : List V} {g : TG} {tt : TT} {te : TE} {vs : List Nat} {σ : L2.St} {H1 : Hp} {D : Addr} {Qd : Hp → Prop} (R : Nat → Hp → List V → Prop) (nD : H1 D = none) (ha : ∀ H', Same H1 H' → SqT K H' a xs) (hb : ∀ H', Same H1 H' → SqT K H' b ys) (few : xs.length < 1000)
    (mono : ∀ i H' H'' ws, Tps H' H'' → R i H' ws → R i H'' ws) (len : ∀ i H' ws, R i H' ws → ws.length ≤ i) (r0 : ∀ H', R 0 H' [])
    (hs : ∀ i x y T H' (N : Hp → Prop) acc, xs[i]? = some x → ys[i]? = some y → Same H1 H' → H' T = some (.tup [x, y]) → H' D = some (.lst acc) → acc.length < sizeLine → R i H' acc → (∀ H'', Same H' H'' → R (i + 1) H'' acc → N H'') → (∀ H'' y, Same H' H'' → R (i + 1) H'' (acc ++ [y]) → ∃ acc', H'' D = some (.lst acc') ∧ acc'.length < sizeLine ∧ N (upd H'' D (.lst (acc' ++ [y])))) →
      g (.ref T) (wipe σ vs) H' fun σ2 H2 => wipe σ2 vs = wipe σ vs ∧ tt σ2 H2 fun b H3 => if b = true then te σ2 H3 fun y H4 => ∃ acc, H4 D = some (.lst acc) ∧ acc.length < sizeLine ∧ N (upd H4 D (.lst (acc ++ [y]))) else N H3)
    (hd : ∀ i H' ws, i ≤ xs.length → Same H1 H' → H' D = some (.lst ws) → R i H' ws → Qd H') :
    ∃ W : Nat → Nat → Hp → Prop, (∃ m, W 0 m (upd H1 D (.lst []))) ∧ ∀ i m H, W i m H →
      ((RZ.ItzT K a b).stop i H ∧ Qd H) ∨ ((RZ.ItzT K a b).go i H ∧ ∃ Nx : Hp → Prop, (∀ H', Nx H' → ∃ m', m' < m ∧ W (i + 1) m' H') ∧ ∀ x H', (RZ.ItzT K a b).yld i H x H' → g x (wipe σ vs) H' fun σ2 H2 => wipe σ2 vs = wipe σ vs ∧ tt σ2 H2 fun b H3 =>
        if b = true then te σ2 H3 fun y H4 => ∃ acc, H4 D = some (.lst acc) ∧ acc.length < sizeLine ∧ Nx (upd H4 D (.lst (acc ++ [y]))) else Nx H3) := by
  refine ⟨fun i m H => m = xs.length - i ∧ i ≤ xs.length ∧ Same H1 H ∧ ∃ ws, H D = some (.lst ws) ∧ R i H ws, ⟨_, rfl, Nat.zero_le _, same_new nD, [], upd_same, r0 _⟩, ?_⟩
  rintro i m H ⟨rfl, hi, sm, ws, eD, r⟩
  have q1 := ha H sm
  have q2 := hb H sm
  by_cases c : i < xs.length ∧ i < ys.length
  · refine .inr ⟨⟨xs, ys, xs[i]'c.1, ys[i]'c.2, q1, q2, List.getElem?_eq_getElem c.1, List.getElem?_eq_getElem c.2⟩, (fun H => i + 1 ≤ xs.length ∧ Same H1 H ∧ ∃ ws, H D = some (.lst ws) ∧ R (i + 1) H ws), fun H' p' => ⟨xs.length - (i + 1), by omega, rfl, p'⟩, fun v H' hy => ?_⟩
    obtain ⟨T, x, y, rfl, nT, rfl, f1, f2⟩ := hy
    have sT := same_new (o := .tup [x, y]) nT
    have lw := len i H ws r
    have sz : ws.length < sizeLine := few_line (by omega)
    refine hs i x y T _ _ ws (f1 xs q1) (f2 ys q2) (sm.trans sT) upd_same (sT _ _ eD) sz (mono _ _ _ _ (Tps.same sT) r) (fun H'' s r2 => ⟨c.1, sm.trans (sT.trans s), ws, s _ _ (sT _ _ eD), r2⟩) (fun H'' y s r2 => ?_)
    exact ⟨ws, s _ _ (sT _ _ eD), sz, c.1, same_off nD (sm.trans (sT.trans s)), _, upd_same, mono _ _ _ _ (Tps.lst (s _ _ (sT _ _ eD))) r2⟩
  · exact .inl ⟨⟨xs, ys, q1, q2, by omega⟩, hd i H ws hi sm eD r⟩
/-! ### the law's comparison: equal values are the same -/
def sp_same0 : Sp := fun _ _ _ _ => False
theorem ok_same0 {f : Addr} {fd : FuncData} {a b : Str} : FnOk P w K mg base CX0 0 f fd [a, b] sp_same0 := ⟨fun _ _ _ _ h => h.elim, fun _ _ _ _ _ _ _ _ _ _ _ _ _ h => h.elim⟩
def sp_same1 : Sp := fun vs H Q _ => ∃ i : Int, vs = [.int i, .int i] ∧ Q (.bl true) H
theorem ok_same1 (T : Tx K mg f_is_number f_is_position f_is_tuple_of f_is_interval f_interval_text f_joined_texts f_intervals_text f_parse_number f_parse_interval f_parse_intervals f_law_deck f_law_draw f_law_same f_law_small f_law_moved f_law_text f_law d_is_number d_is_position d_is_tuple_of d_is_interval d_interval_text d_joined_texts d_intervals_text d_parse_number d_parse_interval d_parse_intervals d_law_deck d_law_draw d_law_same d_law_small d_law_moved d_law_text d_law t_LAST_POSITION) : FnOk P w K mg base CX0 1 f_law_same d_law_same ["_law_found", "_law_due"] sp_same1 := by
  have ok_law_same : Tx K mg f_is_number f_is_position f_is_tuple_of f_is_interval f_interval_text f_joined_texts f_intervals_text f_parse_number f_parse_interval f_parse_intervals f_law_deck f_law_draw f_law_same f_law_small f_law_moved f_law_text f_law d_is_number d_is_position d_is_tuple_of d_is_interval d_interval_text d_joined_texts d_intervals_text d_parse_number d_parse_interval d_parse_intervals d_law_deck d_law_draw d_law_same d_law_small d_law_moved d_law_text d_law t_LAST_POSITION → FnOk P w K mg base CX0 0 f_law_same d_law_same ["_law_found", "_law_due"] sp_same0 := fun _ => ok_same0
  refine T.F_law_same.ok sc_law_same (fun vs H Q E h => ?_) (fun cdv A outer s H vs Q E hr h => ?_)
  · obtain ⟨i, rfl, _⟩ := h
    rfl
  · obtain ⟨i, rfl, q⟩ := h
    refine ⟨_, (pss_cons (ps_if (pt_val (pe_callB call_isi (by rfl) T.z_isinstance (by decide +kernel) (pa_cons (pv 1) (pa_cons (pe_bltn (v := .ty "tuple") (u := .type "tuple") (by rfl) T.z_tuple (by decide +kernel) rfl) pa_nil))))
      (pss_cons (ps_if (PW.pt (pw_or (pt_not (pt_val (pe_callB call_isi (by rfl) T.z_isinstance (by decide +kernel) (pa_cons (pv 0) (pa_cons (pe_bltn (v := .ty "tuple") (u := .type "tuple") (by rfl) T.z_tuple (by decide +kernel) rfl) pa_nil))))) (pw_or1 (pt_cmpR op_ne (pe_callB call_len_seq (by rfl) T.z_len PySem.boot_len (pa_cons (pv 0) pa_nil)) (pe_callB call_len_seq (by rfl) T.z_len PySem.boot_len (pa_cons (pv 1) pa_nil)) (nomark _)))))
      (pss_one (ps_ret pe_bl))
      pss_nil)
      (pss_one (ps_ret (pe_cmpR (op_eqL hr.units0) (pe_lc (own := [("_law_one", 2), ("_law_other", 3)]) (g := (gTup K 2 (gCons (gName 2) (gCons (gName 3) gNil)))) (by rfl) sc_law_same.nd (RZ.pi_zipA (by rfl) T.z_zip (pa_cons (pv 0) (pa_cons (pv 1) pa_nil))) (blkOk_by (own := [("_law_one", 2), ("_law_other", 3)]) (N := N_law_same) (sc := defScope s_law_same) (by decide +kernel)) (fun _ _ _ _ _ => (pg_tup rfl (pgs_cons (pg_name (i := 2) sc_law_same.nd rfl (Or.inl rfl)) (pgs_cons (pg_name (i := 3) sc_law_same.nd rfl (Or.inl rfl)) pgs_nil)))) (fun _ _ _ _ _ => pts_one (pt_not (pt_val (pe_call (ok_law_same T) (hr.mono (by decide)) (by rfl) T.g_law_same T.F_law_same.kp T.b_law_same .nil pass0 (pa_cons (pv 2) (pa_cons (pv 3) pa_nil)))))) (fun _ _ _ _ _ => pe_int)) (pe_lst pa_nil) (nomark _)))))
      pss_nil)
      (pss_cons (ps_if (pt_cmpR op_isN (pv 1) pe_non (nomark _))
      (pss_one (ps_ret (pe_cmpR op_isN (pv 0) pe_non (nomark _))))
      pss_nil)
      (pss_cons (ps_if (pt_val (pe_callB call_isi (by rfl) T.z_isinstance (by decide +kernel) (pa_cons (pv 1) (pa_cons (pe_bltn (v := .ty "str") (u := .type "str") (by rfl) T.z_str (by decide +kernel) rfl) pa_nil))))
      (pss_one (ps_ret (pe_and (pe_callB call_isi (by rfl) T.z_isinstance (by decide +kernel) (pa_cons (pv 0) (pa_cons (pe_bltn (v := .ty "str") (u := .type "str") (by rfl) T.z_str (by decide +kernel) rfl) pa_nil))) (pe_one (pe_cmpR op_eq (pv 0) (pv 1) (nomark _))))))
      pss_nil)
      (pss_one (ps_ret (pe_and (pe_callB call_isi (by rfl) T.z_isinstance (by decide +kernel) (pa_cons (pv 0) (pa_cons (pe_bltn (v := .ty "int") (u := .type "int") (by rfl) T.z_int (by decide +kernel) rfl) pa_nil))) (pe_and (pe_cmpR op_eq (pe_callB call_isi (by rfl) T.z_isinstance (by decide +kernel) (pa_cons (pv 0) (pa_cons (pe_bltn (v := .ty "bool") (u := .type "bool") (by rfl) T.z_bool (by decide +kernel) rfl) pa_nil))) (pe_callB call_isi (by rfl) T.z_isinstance (by decide +kernel) (pa_cons (pv 1) (pa_cons (pe_bltn (v := .ty "bool") (u := .type "bool") (by rfl) T.z_bool (by decide +kernel) rfl) pa_nil))) (nomark _)) (pe_one (pe_cmpR op_eq (pv 0) (pv 1) (nomark _)))))))))), ?_⟩
    refine ⟨.int i, rfl, .int i, .ty "tuple", _, _, _, rfl, .ty "tuple", .base (.int i), kit_ty (a := "int") (b := "tuple") (r := false) (by decide +kernel), _, rfl, iteF ?_⟩
    refine ⟨.int i, rfl, rfl, _, rfl, iteF ?_⟩
    refine ⟨.int i, rfl, .int i, .ty "str", _, _, _, rfl, .ty "str", .base (.int i), kit_ty (a := "int") (b := "str") (r := false) (by decide +kernel), _, rfl, iteF ?_⟩
    refine ⟨.int i, rfl, .int i, .ty "int", _, _, _, rfl, .ty "int", .base (.int i), kit_ty (a := "int") (b := "int") (r := true) (by decide +kernel), _, rfl, iteT ?_⟩
    refine ⟨.int i, rfl, .int i, .ty "bool", _, _, _, rfl, .ty "bool", .base (.int i), kit_ty (a := "int") (b := "bool") (r := false) (by decide +kernel), .int i, rfl, .int i, .ty "bool", _, _, _, rfl, .ty "bool", .base (.int i), kit_ty (a := "int") (b := "bool") (r := false) (by decide +kernel), rfl, _, rfl, iteT ?_⟩
    refine ⟨.int i, rfl, .int i, rfl, rfl, ?_⟩
    rw [decide_eq_true rfl]
    exact q
def sp_same2 : Sp := fun vs H Q _ => ∃ (a b : Addr) (x y : Int), vs = [.ref a, .ref b] ∧ H a = some (.tup [.int x, .int y]) ∧ H b = some (.tup [.int x, .int y]) ∧ ∀ H', Same H H' → Q (.bl true) H'
theorem ok_same2 (T : Tx K mg f_is_number f_is_position f_is_tuple_of f_is_interval f_interval_text f_joined_texts f_intervals_text f_parse_number f_parse_interval f_parse_intervals f_law_deck f_law_draw f_law_same f_law_small f_law_moved f_law_text f_law d_is_number d_is_position d_is_tuple_of d_is_interval d_interval_text d_joined_texts d_intervals_text d_parse_number d_parse_interval d_parse_intervals d_law_deck d_law_draw d_law_same d_law_small d_law_moved d_law_text d_law t_LAST_POSITION) : FnOk P w K mg base CX0 2 f_law_same d_law_same ["_law_found", "_law_due"] sp_same2 := by
  have ok_law_same := fun T : Tx K mg f_is_number f_is_position f_is_tuple_of f_is_interval f_interval_text f_joined_texts f_intervals_text f_parse_number f_parse_interval f_parse_intervals f_law_deck f_law_draw f_law_same f_law_small f_law_moved f_law_text f_law d_is_number d_is_position d_is_tuple_of d_is_interval d_interval_text d_joined_texts d_intervals_text d_parse_number d_parse_interval d_parse_intervals d_law_deck d_law_draw d_law_same d_law_small d_law_moved d_law_text d_law t_LAST_POSITION => ok_same1 (P := P) (w := w) (base := base) T
  refine T.F_law_same.ok sc_law_same (fun vs H Q E h => ?_) (fun cdv A outer s H vs Q E hr h => ?_)
  · obtain ⟨a, b, x, y, rfl, _⟩ := h
    rfl
  · obtain ⟨a, b, x, y, rfl, ha, hb, q⟩ := h
    refine ⟨_, (pss_cons (ps_if (pt_val (pe_callB call_isi (by rfl) T.z_isinstance (by decide +kernel) (pa_cons (pv 1) (pa_cons (pe_bltn (v := .ty "tuple") (u := .type "tuple") (by rfl) T.z_tuple (by decide +kernel) rfl) pa_nil))))
      (pss_cons (ps_if (PW.pt (pw_or (pt_not (pt_val (pe_callB call_isi (by rfl) T.z_isinstance (by decide +kernel) (pa_cons (pv 0) (pa_cons (pe_bltn (v := .ty "tuple") (u := .type "tuple") (by rfl) T.z_tuple (by decide +kernel) rfl) pa_nil))))) (pw_or1 (pt_cmpR op_ne (pe_callB call_len_seq (by rfl) T.z_len PySem.boot_len (pa_cons (pv 0) pa_nil)) (pe_callB call_len_seq (by rfl) T.z_len PySem.boot_len (pa_cons (pv 1) pa_nil)) (nomark _)))))
      (pss_one (ps_ret pe_bl))
      pss_nil)
      (pss_one (ps_ret (pe_cmpR (op_eqL hr.units0) (pe_lc (own := [("_law_one", 2), ("_law_other", 3)]) (g := (gTup K 2 (gCons (gName 2) (gCons (gName 3) gNil)))) (by rfl) sc_law_same.nd (RZ.pi_zipA (by rfl) T.z_zip (pa_cons (pv 0) (pa_cons (pv 1) pa_nil))) (blkOk_by (own := [("_law_one", 2), ("_law_other", 3)]) (N := N_law_same) (sc := defScope s_law_same) (by decide +kernel)) (fun _ _ _ _ _ => (pg_tup rfl (pgs_cons (pg_name (i := 2) sc_law_same.nd rfl (Or.inl rfl)) (pgs_cons (pg_name (i := 3) sc_law_same.nd rfl (Or.inl rfl)) pgs_nil)))) (fun _ _ _ _ _ => pts_one (pt_not (pt_val (pe_call (ok_law_same T) (hr.mono (by decide)) (by rfl) T.g_law_same T.F_law_same.kp T.b_law_same .nil pass0 (pa_cons (pv 2) (pa_cons (pv 3) pa_nil)))))) (fun _ _ _ _ _ => pe_int)) (pe_lst pa_nil) (nomark _)))))
      pss_nil)
      (pss_cons (ps_if (pt_cmpR op_isN (pv 1) pe_non (nomark _))
      (pss_one (ps_ret (pe_cmpR op_isN (pv 0) pe_non (nomark _))))
      pss_nil)
      (pss_cons (ps_if (pt_val (pe_callB call_isi (by rfl) T.z_isinstance (by decide +kernel) (pa_cons (pv 1) (pa_cons (pe_bltn (v := .ty "str") (u := .type "str") (by rfl) T.z_str (by decide +kernel) rfl) pa_nil))))
      (pss_one (ps_ret (pe_and (pe_callB call_isi (by rfl) T.z_isinstance (by decide +kernel) (pa_cons (pv 0) (pa_cons (pe_bltn (v := .ty "str") (u := .type "str") (by rfl) T.z_str (by decide +kernel) rfl) pa_nil))) (pe_one (pe_cmpR op_eq (pv 0) (pv 1) (nomark _))))))
      pss_nil)
      (pss_one (ps_ret (pe_and (pe_callB call_isi (by rfl) T.z_isinstance (by decide +kernel) (pa_cons (pv 0) (pa_cons (pe_bltn (v := .ty "int") (u := .type "int") (by rfl) T.z_int (by decide +kernel) rfl) pa_nil))) (pe_and (pe_cmpR op_eq (pe_callB call_isi (by rfl) T.z_isinstance (by decide +kernel) (pa_cons (pv 0) (pa_cons (pe_bltn (v := .ty "bool") (u := .type "bool") (by rfl) T.z_bool (by decide +kernel) rfl) pa_nil))) (pe_callB call_isi (by rfl) T.z_isinstance (by decide +kernel) (pa_cons (pv 1) (pa_cons (pe_bltn (v := .ty "bool") (u := .type "bool") (by rfl) T.z_bool (by decide +kernel) rfl) pa_nil))) (nomark _)) (pe_one (pe_cmpR op_eq (pv 0) (pv 1) (nomark _)))))))))), ?_⟩
    refine ⟨.ref b, rfl, .ref b, .ty "tuple", _, _, _, rfl, .ty "tuple", .base (.tup hb), kit_ty (a := "tuple") (b := "tuple") (r := true) (by decide +kernel), _, rfl, iteT ?_⟩
    refine ⟨.ref a, rfl, .ref a, .ty "tuple", _, _, _, rfl, .ty "tuple", .base (.tup ha), kit_ty (a := "tuple") (b := "tuple") (r := true) (by decide +kernel), _, rfl, iteF ?_⟩
    refine ⟨.ref a, rfl, a, _, rfl, .inr (SqT.of ha), .ref b, rfl, b, _, rfl, .inr (SqT.of hb), rfl, _, rfl, iteF ?_⟩
    refine ⟨.ref a, rfl, .ref b, rfl, a, b, _, _, rfl, .inr ⟨SqT.of ha, SqT.of hb, fun D nD => ?_⟩⟩
    refine lcZ (K := K) (a := a) (b := b) (xs := [.int x, .int y]) (ys := [.int x, .int y]) (fun j H' ws => ws = []) nD (fun H' s => SqT.of (s _ _ ha)) (fun H' s => SqT.of (s _ _ hb)) (by show 2 < 1000; decide) (fun _ _ _ _ _ h => h) (fun i H' ws h => by rw [h]; exact Nat.zero_le _) (fun _ => rfl) ?_ ?_
    · rintro j u v TT H' N acc hu hv sm eT eD sz r no yes
      have euv : ∃ k : Int, u = .int k ∧ v = .int k := by
        match j, hu, hv with
        | 0, hu, hv =>
          cases hu
          cases hv
          exact ⟨x, rfl, rfl⟩
        | 1, hu, hv =>
          cases hu
          cases hv
          exact ⟨y, rfl, rfl⟩
        | j + 2, hu, _ => simp at hu
      obtain ⟨k, rfl, rfl⟩ := euv
      refine ⟨TT, _, rfl, SqT.of eT, rfl, .int k, [.int k], rfl, .int k, [], rfl, rfl, rfl, .int k, rfl, .int k, rfl, k, rfl, _, rfl, iteF ?_⟩
      exact no H' (Same.refl _) r
    · rintro j H' ws jl sm eD r
      subst r
      refine ⟨by show 0 ≤ sizeLine; decide, fun z nz => ?_⟩
      have sz := same_new (o := .lst []) nz
      exact ⟨D, z, [], rfl, rfl, SqL.of (sz _ _ eD), SqL.of upd_same, q _ (sm.trans sz)⟩
def sp_law_same : Sp := fun vs H Q _ => ∃ (a b : Addr) (us ws : List V) (ps : List (Int × Int)), vs = [.ref a, .ref b] ∧ H a = some (.tup us) ∧ H b = some (.tup ws) ∧ Ivs H us ps ∧ Ivs H ws ps ∧ ps.length < 1000 ∧ ∀ H', Same H H' → Q (.bl true) H'
theorem ok_law_same (T : Tx K mg f_is_number f_is_position f_is_tuple_of f_is_interval f_interval_text f_joined_texts f_intervals_text f_parse_number f_parse_interval f_parse_intervals f_law_deck f_law_draw f_law_same f_law_small f_law_moved f_law_text f_law d_is_number d_is_position d_is_tuple_of d_is_interval d_interval_text d_joined_texts d_intervals_text d_parse_number d_parse_interval d_parse_intervals d_law_deck d_law_draw d_law_same d_law_small d_law_moved d_law_text d_law t_LAST_POSITION) : FnOk P w K mg base CX0 3 f_law_same d_law_same ["_law_found", "_law_due"] sp_law_same := by
  have ok_law_same := fun T : Tx K mg f_is_number f_is_position f_is_tuple_of f_is_interval f_interval_text f_joined_texts f_intervals_text f_parse_number f_parse_interval f_parse_intervals f_law_deck f_law_draw f_law_same f_law_small f_law_moved f_law_text f_law d_is_number d_is_position d_is_tuple_of d_is_interval d_interval_text d_joined_texts d_intervals_text d_parse_number d_parse_interval d_parse_intervals d_law_deck d_law_draw d_law_same d_law_small d_law_moved d_law_text d_law t_LAST_POSITION => ok_same2 (P := P) (w := w) (base := base) T
  refine T.F_law_same.ok sc_law_same (fun vs H Q E h => ?_) (fun cdv A outer s H vs Q E hr h => ?_)
  · obtain ⟨a, b, us, ws, ps, rfl, _⟩ := h
    rfl
  · obtain ⟨a, b, us, ws, ps, rfl, ha, hb, iv1, iv2, few, q⟩ := h
    have l1 := iv1.length
    have l2 := iv2.length
    refine ⟨_, (pss_cons (ps_if (pt_val (pe_callB call_isi (by rfl) T.z_isinstance (by decide +kernel) (pa_cons (pv 1) (pa_cons (pe_bltn (v := .ty "tuple") (u := .type "tuple") (by rfl) T.z_tuple (by decide +kernel) rfl) pa_nil))))
      (pss_cons (ps_if (PW.pt (pw_or (pt_not (pt_val (pe_callB call_isi (by rfl) T.z_isinstance (by decide +kernel) (pa_cons (pv 0) (pa_cons (pe_bltn (v := .ty "tuple") (u := .type "tuple") (by rfl) T.z_tuple (by decide +kernel) rfl) pa_nil))))) (pw_or1 (pt_cmpR op_ne (pe_callB call_len_seq (by rfl) T.z_len PySem.boot_len (pa_cons (pv 0) pa_nil)) (pe_callB call_len_seq (by rfl) T.z_len PySem.boot_len (pa_cons (pv 1) pa_nil)) (nomark _)))))
      (pss_one (ps_ret pe_bl))
      pss_nil)
      (pss_one (ps_ret (pe_cmpR (op_eqL hr.units0) (pe_lc (own := [("_law_one", 2), ("_law_other", 3)]) (g := (gTup K 2 (gCons (gName 2) (gCons (gName 3) gNil)))) (by rfl) sc_law_same.nd (RZ.pi_zipA (by rfl) T.z_zip (pa_cons (pv 0) (pa_cons (pv 1) pa_nil))) (blkOk_by (own := [("_law_one", 2), ("_law_other", 3)]) (N := N_law_same) (sc := defScope s_law_same) (by decide +kernel)) (fun _ _ _ _ _ => (pg_tup rfl (pgs_cons (pg_name (i := 2) sc_law_same.nd rfl (Or.inl rfl)) (pgs_cons (pg_name (i := 3) sc_law_same.nd rfl (Or.inl rfl)) pgs_nil)))) (fun _ _ _ _ _ => pts_one (pt_not (pt_val (pe_call (ok_law_same T) (hr.mono (by decide)) (by rfl) T.g_law_same T.F_law_same.kp T.b_law_same .nil pass0 (pa_cons (pv 2) (pa_cons (pv 3) pa_nil)))))) (fun _ _ _ _ _ => pe_int)) (pe_lst pa_nil) (nomark _)))))
      pss_nil)
      (pss_cons (ps_if (pt_cmpR op_isN (pv 1) pe_non (nomark _))
      (pss_one (ps_ret (pe_cmpR op_isN (pv 0) pe_non (nomark _))))
      pss_nil)
      (pss_cons (ps_if (pt_val (pe_callB call_isi (by rfl) T.z_isinstance (by decide +kernel) (pa_cons (pv 1) (pa_cons (pe_bltn (v := .ty "str") (u := .type "str") (by rfl) T.z_str (by decide +kernel) rfl) pa_nil))))
      (pss_one (ps_ret (pe_and (pe_callB call_isi (by rfl) T.z_isinstance (by decide +kernel) (pa_cons (pv 0) (pa_cons (pe_bltn (v := .ty "str") (u := .type "str") (by rfl) T.z_str (by decide +kernel) rfl) pa_nil))) (pe_one (pe_cmpR op_eq (pv 0) (pv 1) (nomark _))))))
      pss_nil)
      (pss_one (ps_ret (pe_and (pe_callB call_isi (by rfl) T.z_isinstance (by decide +kernel) (pa_cons (pv 0) (pa_cons (pe_bltn (v := .ty "int") (u := .type "int") (by rfl) T.z_int (by decide +kernel) rfl) pa_nil))) (pe_and (pe_cmpR op_eq (pe_callB call_isi (by rfl) T.z_isinstance (by decide +kernel) (pa_cons (pv 0) (pa_cons (pe_bltn (v := .ty "bool") (u := .type "bool") (by rfl) T.z_bool (by decide +kernel) rfl) pa_nil))) (pe_callB call_isi (by rfl) T.z_isinstance (by decide +kernel) (pa_cons (pv 1) (pa_cons (pe_bltn (v := .ty "bool") (u := .type "bool") (by rfl) T.z_bool (by decide +kernel) rfl) pa_nil))) (nomark _)) (pe_one (pe_cmpR op_eq (pv 0) (pv 1) (nomark _)))))))))), ?_⟩
    refine ⟨.ref b, rfl, .ref b, .ty "tuple", _, _, _, rfl, .ty "tuple", .base (.tup hb), kit_ty (a := "tuple") (b := "tuple") (r := true) (by decide +kernel), _, rfl, iteT ?_⟩
    refine ⟨.ref a, rfl, .ref a, .ty "tuple", _, _, _, rfl, .ty "tuple", .base (.tup ha), kit_ty (a := "tuple") (b := "tuple") (r := true) (by decide +kernel), _, rfl, iteF ?_⟩
    refine ⟨.ref a, rfl, a, _, rfl, .inr (SqT.of ha), .ref b, rfl, b, _, rfl, .inr (SqT.of hb), rfl, _, rfl, ?_⟩
    rw [l1, l2, decide_eq_true rfl]
    refine iteF ?_
    refine ⟨.ref a, rfl, .ref b, rfl, a, b, _, _, rfl, .inr ⟨SqT.of ha, SqT.of hb, fun D nD => ?_⟩⟩
    refine lcZ (K := K) (a := a) (b := b) (xs := us) (ys := ws) (fun j H' ws => ws = []) nD (fun H' s => SqT.of (s _ _ ha)) (fun H' s => SqT.of (s _ _ hb)) (by omega) (fun _ _ _ _ _ h => h) (fun i H' ws h => by rw [h]; exact Nat.zero_le _) (fun _ => rfl) ?_ ?_
    · rintro j u v TT H' N acc hu hv sm eT eD sz r no yes
      obtain ⟨b1, x1, y1, rfl, ep1, hb1⟩ := iv1.get hu
      obtain ⟨b2, x2, y2, rfl, ep2, hb2⟩ := iv2.get hv
      rw [ep1] at ep2
      cases ep2
      refine ⟨TT, _, rfl, SqT.of eT, rfl, .ref b1, [.ref b2], rfl, .ref b2, [], rfl, rfl, rfl, .ref b1, rfl, .ref b2, rfl, b1, b2, x1, y1, rfl, sm _ _ hb1, sm _ _ hb2, fun H2 s2 => ⟨_, rfl, iteF ?_⟩⟩
      exact no H2 s2 r
    · rintro j H' ws jl sm eD r
      subst r
      refine ⟨by show 0 ≤ sizeLine; decide, fun z nz => ?_⟩
      have sz := same_new (o := .lst []) nz
      exact ⟨D, z, [], rfl, rfl, SqL.of (sz _ _ eD), SqL.of upd_same, q _ (sm.trans sz)⟩
/-! ### drawn targets, moved targets -/
structure Sml (span : Int) (ps : List (Int × Int)) : Prop where
  asc : ps.Pairwise ltP
  ok : ∀ q ∈ ps, (0 ≤ q.1 ∧ q.1 ≤ q.2) ∧ q.2 < span
def sp_law_small : Sp := fun vs H Q _ => ∃ (d c : Addr) (n most span : Int), vs = [.ref d, .int most, .int span] ∧ Dk H d c n ∧ 0 ≤ n ∧ n < 999000 ∧ 0 ≤ most ∧ most ≤ 30 ∧ 1 ≤ span ∧ span ≤ 100 ∧
  ∀ H' t us ps m, Kp d c H H' → Dk H' d c m → n ≤ m → m ≤ n + 1 + 2 * most → H' t = some (.tup us) → Ivs H' us ps → Sml span ps → (ps.length : Int) ≤ most → Q (.ref t) H'
theorem ok_law_small (T : Tx K mg f_is_number f_is_position f_is_tuple_of f_is_interval f_interval_text f_joined_texts f_intervals_text f_parse_number f_parse_interval f_parse_intervals f_law_deck f_law_draw f_law_same f_law_small f_law_moved f_law_text f_law d_is_number d_is_position d_is_tuple_of d_is_interval d_interval_text d_joined_texts d_intervals_text d_parse_number d_parse_interval d_parse_intervals d_law_deck d_law_draw d_law_same d_law_small d_law_moved d_law_text d_law t_LAST_POSITION) : FnOk P w K mg base CX0 2 f_law_small d_law_small ["_law_deck_here", "_law_most", "_law_span"] sp_law_small := by
  refine T.F_law_small.ok sc_law_small (fun vs H Q E h => ?_) (fun cdv A outer s H vs Q E hr h => ?_)
  · obtain ⟨d, c, n, most, span, rfl, _⟩ := h
    rfl
  · obtain ⟨d, c, n, most, span, rfl, dk, n0, n1, m0, m1, s0, s1, q⟩ := h
    refine ⟨_, (pss_cons (ps_set (i := 3) sc_law_small.nd rfl (Or.inl rfl) (pe_lst pa_nil))
      (pss_cons (ps_for PassesOwn.never rfl (pi_range1 (by rfl) T.z_range (pa_cons (pe_call (ok_law_draw T) (hr.mono (by decide)) (by rfl) T.g_law_draw T.F_law_draw.kp T.b_law_draw .nil pass0 (pa_cons (pv 0) (pa_cons (pe_op op_add (pv 1) pe_int) pa_nil))) pa_nil)) (pg_name (i := 4) sc_law_small.nd rfl (Or.inl rfl))
      (pss_cons (ps_set (i := 5) sc_law_small.nd rfl (Or.inl rfl) (pe_call (ok_law_draw T) (hr.mono (by decide)) (by rfl) T.g_law_draw T.F_law_draw.kp T.b_law_draw .nil pass0 (pa_cons (pv 0) (pa_cons (pv 2) pa_nil))))
      (pss_one (ps_expr (pe_bm PySem.F.plainAttrs_list PySem.F.slot_list_append PySem.F.type_list_append mt_append (pv 3) (pa_cons (pe_tup (pa_cons (pv 5) (pa_cons (pe_op op_add (pv 5) (pe_call (ok_law_draw T) (hr.mono (by decide)) (by rfl) T.g_law_draw T.F_law_draw.kp T.b_law_draw .nil pass0 (pa_cons (pv 0) (pa_cons (pe_op op_sub (pv 2) (pv 5)) pa_nil)))) pa_nil))) pa_nil))))))
      (pss_one (ps_ret (pe_callTy call_tuple_of (by rfl) T.z_tuple (by decide +kernel) (pa_cons (pe_callB (cr_sortedT rfl) (by rfl) T.z_sorted (by decide +kernel) (pa_cons (pe_callTy (cr_setOfT rfl hr.units) (by rfl) T.z_set (by decide +kernel) (pa_cons (pv 3) pa_nil)) pa_nil)) pa_nil)))))), ?_⟩
    refine ⟨by show 0 ≤ sizeLine; decide, fun l nl => ?_⟩
    have offl := dk.off nl
    have sl := same_new (o := .lst []) nl
    have el := upd_same (H := H) (a := l) (o := .lst [])
    have dkl := dk.kept sl
    generalize upd H l (.lst []) = Hl at *
    refine ⟨.ref d, rfl, .int most, rfl, _, _, rfl, rfl, d, c, n, most + 1, rfl, dkl, n0, by omega, by omega, by omega, fun H1 r kp1 dk1 r0 r1 => ?_⟩
    have kpA : Kp d c H H1 := (Kp.same sl).trans kp1
    refine ⟨r, rfl, by omega, by omega, for_range (n := r.toNat) (D := ⟨_, _, fun _ _ => True, fun _ _ => True⟩) (fun i σ H' => (Kp d c H H' ∧ Dk H' d c (n + 1 + 2 * i)) ∧ (∃ ws ps, H' l = some (.lst ws) ∧ Ivs H' ws ps ∧ ps.length = i ∧ ∀ q ∈ ps, (0 ≤ q.1 ∧ q.1 ≤ q.2) ∧ q.2 < span) ∧ ∃ y4 y5, σ = [some (.ref d), some (.int most), some (.int span), some (.ref l), y4, y5])
      ⟨⟨kpA, dk1.eq (by simp)⟩, ⟨[], [], kp1.keep offl el, .nil, rfl, fun q hq => nomatch hq⟩, _, _, rfl⟩ ?_ ?_⟩
    · rintro i σ H2 hi ⟨⟨kp2, dk2⟩, ⟨ws, ps, el2, iv, pl, ok⟩, y4, y5, rfl⟩
      refine ⟨.ref d, rfl, .int span, rfl, d, c, _, span, rfl, dk2, by omega, by omega, by omega, by omega, fun H3 lo kp3 dk3 lo0 lo1 => ?_⟩
      have el3 := kp3.keep offl el2
      refine ⟨.ref l, rfl, .inl ⟨rfl, _, SqL.of el3⟩, .int lo, rfl, .int lo, rfl, .ref d, rfl, .int span, rfl, .int lo, rfl, _, _, rfl, rfl, d, c, _, span - lo, rfl, dk3, by omega, by omega, by omega, by omega, fun H4 r4 kp4 dk4 r40 r41 => ?_⟩
      refine ⟨_, _, rfl, rfl, by show 2 ≤ sizeLine; decide, fun t nt => ?_⟩
      have st := same_new (o := .tup [.int lo, .int (lo + r4)]) nt
      have et := upd_same (H := H4) (a := t) (o := .tup [.int lo, .int (lo + r4)])
      have el5 := st _ _ (kp4.keep offl el3)
      have dk5 := dk4.kept st
      have t25 : Tps H2 (upd H4 t (.tup [.int lo, .int (lo + r4)])) := (kp3.tps dk2).trans ((kp4.tps dk3).trans (Tps.same st))
      have kp25 : Kp d c H (upd H4 t (.tup [.int lo, .int (lo + r4)])) := kp2.trans (kp3.trans (kp4.trans (Kp.same st)))
      generalize upd H4 t (.tup [.int lo, .int (lo + r4)]) = H5 at *
      refine ⟨l, _, _, rfl, rfl, el5, few_line (by rw [iv.length]; omega), ⟨fun b o n1 n2 e => ?_, (dk5.upd offl).eq (by omega)⟩, ⟨_, ps ++ [(lo, lo + r4)], upd_same, ((iv.tps t25).snoc et).tps (Tps.lst el5), by rw [List.length_append, pl]; rfl, fun q hq => ?_⟩, _, _, rfl⟩
      · rw [upd_ne (ne_of_none e nl)]
        exact kp25 b o n1 n2 e
      · rcases List.mem_append.mp hq with hq | hq
        · exact ok q hq
        · rw [List.mem_singleton.mp hq]
          exact ⟨⟨lo0, by show lo ≤ lo + r4; omega⟩, by show lo + r4 < span; omega⟩
    · rintro σ H6 ⟨⟨kp6, dk6⟩, ⟨ws, ps, el6, iv, pl, ok⟩, y4, y5, rfl⟩
      refine ⟨.ref l, rfl, ?_⟩
      dsimp only [tNil]
      refine sorted_set_pairs (SqL.of el6) iv (by omega) (fun q hq => by have := ok q hq; omega) (fun H7 p us' ps' s7 np ep iv' asc mem => ?_)
      refine ⟨p, us', rfl, .inl ⟨SqL.of ep, fun t nt => ?_⟩⟩
      have s8 := same_new (o := .tup us') nt
      have nd : ps'.length ≤ ps.length := by
        have ndp : ps'.Nodup := asc.imp fun {a b} h e => by
          subst e
          rcases h with h | h <;> omega
        exact nodup_le ndp fun x hx => (mem x).mp hx
      exact q _ t us' ps' _ (kp6.trans (Kp.same (s7.trans s8))) (dk6.kept (s7.trans s8)) (by omega) (by omega) upd_same (iv'.same s8) ⟨asc, fun q hq => ok q ((mem q).mp hq)⟩ (by omega)
def mvI (b : Int) (q : Int × Int) : Int × Int := (q.1 + b, q.2 + b)
def sp_law_moved : Sp := fun vs H Q _ => ∃ (a : Addr) (b : Int) (us : List V) (ps : List (Int × Int)), vs = [.ref a, .int b] ∧ H a = some (.tup us) ∧ Ivs H us ps ∧ ps.length < 1000 ∧
  ∀ H' p ws, Same H H' → H' p = some (.tup ws) → Ivs H' ws (ps.map (mvI b)) → Q (.ref p) H'
theorem map_take_snoc {α β : Type} {ns : List α} {i : Nat} {n : α} {f : α → β} (h : ns[i]? = some n) : (ns.take (i + 1)).map f = (ns.take i).map f ++ [f n] := by
  rw [List.take_add_one, h, List.map_append]
  rfl
theorem ok_law_moved (T : Tx K mg f_is_number f_is_position f_is_tuple_of f_is_interval f_interval_text f_joined_texts f_intervals_text f_parse_number f_parse_interval f_parse_intervals f_law_deck f_law_draw f_law_same f_law_small f_law_moved f_law_text f_law d_is_number d_is_position d_is_tuple_of d_is_interval d_interval_text d_joined_texts d_intervals_text d_parse_number d_parse_interval d_parse_intervals d_law_deck d_law_draw d_law_same d_law_small d_law_moved d_law_text d_law t_LAST_POSITION) : FnOk P w K mg base CX0 1 f_law_moved d_law_moved ["_law_intervals", "_law_by"] sp_law_moved := by
  refine T.F_law_moved.ok sc_law_moved (fun vs H Q E h => ?_) (fun cdv A outer s H vs Q E hr h => ?_)
  · obtain ⟨a, b, us, ps, rfl, _⟩ := h
    rfl
  · obtain ⟨a, b, us, ps, rfl, ha, iv, few, q⟩ := h
    refine ⟨_, (pss_one (ps_ret (pe_callTy call_tuple_of (by rfl) T.z_tuple (by decide +kernel) (pa_cons (pe_lc (own := [("_law_low", 2), ("_law_high", 3)]) (g := (gTup K 2 (gCons (gName 2) (gCons (gName 3) gNil)))) (tt := tYes) (by rfl) sc_law_moved.nd (pi_tup (pv 0)) (blkOk_by (own := [("_law_low", 2), ("_law_high", 3)]) (N := N_law_moved) (sc := defScope s_law_moved) (by decide +kernel)) (fun _ _ _ _ _ => (pg_tup rfl (pgs_cons (pg_name (i := 2) sc_law_moved.nd rfl (Or.inl rfl)) (pgs_cons (pg_name (i := 3) sc_law_moved.nd rfl (Or.inl rfl)) pgs_nil)))) (fun _ _ _ _ _ => pts_nil) (fun _ _ _ _ _ => (pe_tup (pa_cons (pe_op op_add (pv 2) (pv 1)) (pa_cons (pe_op op_add (pv 3) (pv 1)) pa_nil))))) pa_nil)))), ?_⟩
    refine ⟨.ref a, rfl, a, rfl, ⟨_, SqT.of ha⟩, fun D nD => ?_⟩
    refine lcT (K := K) (a := a) (xs := us) (fun j H' ws => Ivs H' ws ((ps.take j).map (mvI b)) ∧ ws.length ≤ j) nD (fun H' s => SqT.of (s _ _ ha)) (by rw [iv.length]; omega) (fun _ _ _ _ t h => ⟨h.1.tps t, h.2⟩) (fun j H' ws h => h.2) (fun _ => ⟨.nil, Nat.le_refl _⟩) ?_ ?_
    · rintro j v H' N acc hj sm eA sz ⟨r, rl⟩ no yes
      obtain ⟨bb, x, y, rfl, ep, hb⟩ := iv.get hj
      refine ⟨bb, _, rfl, SqT.of (sm _ _ hb), rfl, .int x, [.int y], rfl, .int y, [], rfl, rfl, rfl, .int x, rfl, .int b, rfl, _, _, rfl, rfl, .int y, rfl, .int b, rfl, _, _, rfl, rfl, by show 2 ≤ sizeLine; decide, fun t nt => yes _ _ (same_new nt) ⟨?_, by rw [List.length_append]; show acc.length + 1 ≤ _; omega⟩⟩
      rw [map_take_snoc ep]
      exact (r.same (same_new nt)).snoc upd_same
    · rintro H' ws sm eD ⟨r, rl⟩
      rw [iv.length, List.take_length] at r
      refine ⟨D, ws, rfl, .inl ⟨SqL.of eD, fun l nl => ?_⟩⟩
      exact q _ l ws (sm.trans (same_new nl)) upd_same (r.same (same_new nl))
theorem sm_rowT {ps : List (Int × Int)} {n : Nat} (h : ∀ p ∈ ps, p.1.natAbs < 10 ^ 30 ∧ p.2.natAbs < 10 ^ 30) (hn : ps.length ≤ n) : Sm (n * 203) 2 (.tuple (ps.map pairD)) := by
  have z := Sm.tup (n := 202) (dp := 1) (ds := ps.map pairD) (fun d hd => by
    obtain ⟨p, hp, rfl⟩ := List.mem_map.mp hd
    exact sm2 (h p hp).1 (h p hp).2)
  rw [List.length_map] at z
  exact z.mono (Nat.mul_le_mul_right _ hn) (Nat.le_refl _)
/-- a row of pairs, as one opaque value that repr shows -/
theorem row_data {K : PySem.W.Frag} {ps : List (Int × Int)} (h : ∀ p ∈ ps, p.1.natAbs < 10 ^ 30 ∧ p.2.natAbs < 10 ^ 30) (hn : ps.length ≤ 60) : ∃ dd : PyData, Sm (60 * 203) 2 dd ∧ ∀ (H : Hp) (a : Addr) (us : List V), H a = some (.tup us) → Ivs H us ps → Dp K H (.ref a) dd :=
  ⟨_, sm_rowT h hn, fun _ _ _ e iv => .tup (SqT.of e) iv.dp⟩

/-! ### sorted(list of pairs) -/
theorem Ivs.perm {H : Hp} {xs ys : List V} (pm : ys.Perm xs) : ∀ {ps : List (Int × Int)}, Ivs H xs ps → ∃ ps', Ivs H ys ps' ∧ ps'.Perm ps := by
  induction pm with
  | nil =>
    intro ps h
    exact ⟨ps, h, .refl _⟩
  | cons x _ ih =>
    intro ps h
    cases h with
    | cons e h =>
      obtain ⟨ps', h', p'⟩ := ih h
      exact ⟨_ :: ps', .cons e h', p'.cons _⟩
  | swap x y l =>
    intro ps h
    cases h with
    | cons e h =>
      cases h with
      | cons e2 h => exact ⟨_, .cons e2 (.cons e h), .swap _ _ _⟩
  | trans _ _ ih1 ih2 =>
    intro ps h
    obtain ⟨p2, h2, q2⟩ := ih2 h
    obtain ⟨p1, h1, q1⟩ := ih1 h2
    exact ⟨p1, h1, q1.trans q2⟩
theorem Ivs.pair {H : Hp} {R : V → V → Prop} {S : Int × Int → Int × Int → Prop} (rs : ∀ a b x y u v, H a = some (.tup [.int x, .int y]) → H b = some (.tup [.int u, .int v]) → R (.ref a) (.ref b) → S (x, y) (u, v)) {vs : List V} {ps : List (Int × Int)} (h : Ivs H vs ps) (pw : vs.Pairwise R) : ps.Pairwise S := by
  induction h with
  | nil => exact .nil
  | cons e h ih =>
    have p := List.pairwise_cons.mp pw
    refine List.pairwise_cons.mpr ⟨fun q hq => ?_, ih p.2⟩
    obtain ⟨b, hb, eb⟩ := h.tpsMem hq
    exact rs _ b _ _ q.1 q.2 e eb (p.1 _ hb)
theorem Ivs.mem {H : Hp} {vs : List V} {ps : List (Int × Int)} (h : Ivs H vs ps) {v : V} (hv : v ∈ vs) : ∃ a q, q ∈ ps ∧ v = .ref a ∧ H a = some (.tup [.int q.1, .int q.2]) := by
  obtain ⟨i, ei⟩ := List.getElem?_of_mem hv
  obtain ⟨a, x, y, e, ep, ea⟩ := h.get ei
  exact ⟨a, (x, y), List.mem_of_getElem? ep, e, ea⟩
def leP (a b : Int × Int) : Prop := a.1 < b.1 ∨ (a.1 = b.1 ∧ a.2 ≤ b.2)
theorem leP_of_lt {ps : List (Int × Int)} (h : ps.Pairwise ltP) : ps.Pairwise leP := h.imp fun {a b} h => by
  rcases h with h | h
  · exact .inl h
  · exact .inr ⟨h.1, by omega⟩
theorem leP_uniq {ps qs : List (Int × Int)} (h1 : ps.Pairwise leP) (h2 : qs.Pairwise leP) (pm : ps.Perm qs) : ps = qs := by
  refine pm.eq_of_pairwise (le := leP) (fun a b _ _ x y => ?_) h1 h2
  have : a.1 = b.1 ∧ a.2 = b.2 := by
    unfold leP at x y
    omega
  exact Prod.ext this.1 this.2
theorem bd2 {z : Int × Int} (b : (0 ≤ z.1 ∧ z.1 < 10 ^ 13) ∧ 0 ≤ z.2 ∧ z.2 < 10 ^ 13) : TS.Bd (10 ^ 13) [z.1, z.2] := fun m hm => by
  rcases List.mem_cons.mp hm with rfl | hm
  · exact b.1
  · rw [List.mem_singleton.mp hm]
    exact b.2
theorem sort_pairs {K : PySem.W.Frag} {H : Hp} {l : Addr} {us : List V} {ps : List (Int × Int)} {Q : VK} (hl : SqL K H l us) (iv : Ivs H us ps) (few : ps.length < 64) (bd : ∀ q ∈ ps, (0 ≤ q.1 ∧ q.1 < 10 ^ 13) ∧ 0 ≤ q.2 ∧ q.2 < 10 ^ 13)
    (fin : ∀ H' p us' ps', Same H H' → H p = none → H' p = some (.lst us') → Ivs H' us' ps' → ps'.Pairwise leP → ps'.Perm ps → Q (.ref p) H') :
    rSortU K 2 (10 ^ 13) [.ref l] H Q := by
  refine ⟨l, us, rfl, hl, by rw [iv.length]; exact few, fun x hx => ?_, fun ys p2 pm pw np2 => ?_⟩
  · obtain ⟨b, qq, hqq, e, eb⟩ := iv.mem hx
    exact ⟨[qq.1, qq.2], ⟨b, e, SqT.of eb⟩, rfl, bd2 (bd qq hqq)⟩
  obtain ⟨gs, ivg, pmg⟩ := Ivs.perm pm iv
  have z : gs.Pairwise (fun a b => TS.code (10 ^ 13) [a.1, a.2] ≤ TS.code (10 ^ 13) [b.1, b.2]) := Ivs.pair (S := fun a b => TS.code (10 ^ 13) [a.1, a.2] ≤ TS.code (10 ^ 13) [b.1, b.2]) (fun a b x y u v ea eb h => h [x, y] [u, v] ⟨a, rfl, SqT.of ea⟩ ⟨b, rfl, SqT.of eb⟩) ivg pw
  have s2 := same_new (o := .lst ys) np2
  refine fin _ p2 ys gs s2 np2 upd_same (ivg.same s2) (z.imp_of_mem fun {x y} hx hy h => ?_) pmg
  exact code_lex (bd2 (bd x (pmg.mem_iff.mp hx))) (bd2 (bd y (pmg.mem_iff.mp hy))) h

/-! ### comprehensions over a range that change nothing but make new objects -/
theorem lcR {lo : Int} {n : Nat} {g : TG} {tt : TT} {te : TE} {vs : List Nat} {σ : L2.St} {H1 : Hp} {D : Addr} {Qd : Hp → Prop} (R : Nat → Hp → List V → Prop) (nD : H1 D = none) (few : n < 1000)
    (mono : ∀ i H' H'' ws, Tps H' H'' → R i H' ws → R i H'' ws) (len : ∀ i H' ws, R i H' ws → ws.length ≤ i) (r0 : ∀ H', R 0 H' [])
    (hs : ∀ i H' (N : Hp → Prop) acc, i < n → Same H1 H' → H' D = some (.lst acc) → acc.length < sizeLine → R i H' acc → (∀ H'', Same H' H'' → R (i + 1) H'' acc → N H'') → (∀ H'' y, Same H' H'' → R (i + 1) H'' (acc ++ [y]) → ∃ acc', H'' D = some (.lst acc') ∧ acc'.length < sizeLine ∧ N (upd H'' D (.lst (acc' ++ [y])))) →
      g (.int (lo + i)) (wipe σ vs) H' fun σ2 H2 => wipe σ2 vs = wipe σ vs ∧ tt σ2 H2 fun b H3 => if b = true then te σ2 H3 fun y H4 => ∃ acc, H4 D = some (.lst acc) ∧ acc.length < sizeLine ∧ N (upd H4 D (.lst (acc ++ [y]))) else N H3)
    (hd : ∀ H' ws, Same H1 H' → H' D = some (.lst ws) → R n H' ws → Qd H') :
    ∃ W : Nat → Nat → Hp → Prop, (∃ m, W 0 m (upd H1 D (.lst []))) ∧ ∀ i m H, W i m H →
      ((Itr lo n).stop i H ∧ Qd H) ∨ ((Itr lo n).go i H ∧ ∃ Nx : Hp → Prop, (∀ H', Nx H' → ∃ m', m' < m ∧ W (i + 1) m' H') ∧ ∀ x H', (Itr lo n).yld i H x H' → g x (wipe σ vs) H' fun σ2 H2 => wipe σ2 vs = wipe σ vs ∧ tt σ2 H2 fun b H3 =>
        if b = true then te σ2 H3 fun y H4 => ∃ acc, H4 D = some (.lst acc) ∧ acc.length < sizeLine ∧ Nx (upd H4 D (.lst (acc ++ [y]))) else Nx H3) := by
  refine lc_range (lo := lo) (n := n) (fun i H' => Same H1 H' ∧ ∃ ws, H' D = some (.lst ws) ∧ R i H' ws) ⟨same_new nD, [], upd_same, r0 _⟩ ?_ ?_
  · rintro i H' hi ⟨sm, ws, eD, r⟩
    have lw := len i H' ws r
    have sz : ws.length < sizeLine := few_line (by omega)
    refine hs i H' _ ws hi sm eD sz r (fun H'' s r2 => ⟨sm.trans s, ws, s _ _ eD, r2⟩) (fun H'' y s r2 => ?_)
    exact ⟨ws, s _ _ eD, sz, same_off nD (sm.trans s), _, upd_same, mono _ _ _ _ (Tps.lst (s _ _ eD)) r2⟩
  · rintro H' ⟨sm, ws, eD, r⟩
    exact hd H' ws sm eD r

theorem ltP_nodup {ps : List (Int × Int)} (h : ps.Pairwise ltP) : ps.Nodup := h.imp fun {a b} h e => by
  subst e
  rcases h with h | h <;> omega
theorem ltP_uniq {ps qs : List (Int × Int)} (h1 : ps.Pairwise ltP) (h2 : qs.Pairwise ltP) (m : ∀ q, q ∈ ps ↔ q ∈ qs) : ps = qs :=
  leP_uniq (leP_of_lt h1) (leP_of_lt h2) ((List.perm_ext_iff_of_nodup (ltP_nodup h1) (ltP_nodup h2)).mpr m)
theorem mv_ltP {B : Int} {ps : List (Int × Int)} (h : ps.Pairwise ltP) : (ps.map (mvI B)).Pairwise ltP := List.pairwise_map.mpr (h.imp fun {a b} h => by
  unfold ltP at h
  unfold mvI ltP
  show a.1 + B < b.1 + B ∨ a.1 + B = b.1 + B ∧ a.2 + B < b.2 + B
  omega)
theorem mv_inj {B : Int} {a b : Int × Int} (h : mvI B a = mvI B b) : a = b := by
  unfold mvI at h
  have h1 := congrArg Prod.fst h
  have h2 := congrArg Prod.snd h
  simp only at h1 h2
  exact Prod.ext (by omega) (by omega)
theorem at3 {α : Type} {r : Int} (h0 : 0 ≤ r) (h1 : r < 3) (x y z : α) : ∃ v, atI [x, y, z] r = some v ∧ (v = x ∨ v = y ∨ v = z) := by
  have : r = 0 ∨ r = 1 ∨ r = 2 := by omega
  rcases this with rfl | rfl | rfl
  · exact ⟨x, rfl, .inl rfl⟩
  · exact ⟨y, rfl, .inr (.inl rfl)⟩
  · exact ⟨z, rfl, .inr (.inr rfl)⟩
theorem eqv_pair (x y u v : Int) : PyData.eqv (.tuple [.int x, .int y]) (.tuple [.int u, .int v]) = decide ((x, y) = (u, v)) := by
  show ((x == u) && ((y == v) && true)) = _
  rw [Bool.and_true]
  by_cases h : (x, y) = (u, v)
  · cases h
    simp
  · rw [decide_eq_false h]
    simp at h ⊢
    exact h

/-! ### what is an interval passes the program's checks -/
def sp_is_number : Sp := fun vs H Q _ => ∃ i : Int, vs = [.int i] ∧ Q (.bl true) H
theorem ok_is_number (T : Tx K mg f_is_number f_is_position f_is_tuple_of f_is_interval f_interval_text f_joined_texts f_intervals_text f_parse_number f_parse_interval f_parse_intervals f_law_deck f_law_draw f_law_same f_law_small f_law_moved f_law_text f_law d_is_number d_is_position d_is_tuple_of d_is_interval d_interval_text d_joined_texts d_intervals_text d_parse_number d_parse_interval d_parse_intervals d_law_deck d_law_draw d_law_same d_law_small d_law_moved d_law_text d_law t_LAST_POSITION) : FnOk P w K mg base CX0 1 f_is_number d_is_number ["value"] sp_is_number := by
  refine T.F_is_number.ok sc_is_number (fun vs H Q E h => ?_) (fun cdv A outer s H vs Q E hr h => ?_)
  · obtain ⟨i, rfl, _⟩ := h
    rfl
  · obtain ⟨i, rfl, q⟩ := h
    refine ⟨_, (pss_one (ps_ret (pe_and (pe_callB call_isi (by rfl) T.z_isinstance (by decide +kernel) (pa_cons (pv 0) (pa_cons (pe_bltn (v := .ty "int") (u := .type "int") (by rfl) T.z_int (by decide +kernel) rfl) pa_nil))) (pe_one (pe_not (pe_callB call_isi (by rfl) T.z_isinstance (by decide +kernel) (pa_cons (pv 0) (pa_cons (pe_bltn (v := .ty "bool") (u := .type "bool") (by rfl) T.z_bool (by decide +kernel) rfl) pa_nil)))))))), ?_⟩
    refine ⟨.int i, rfl, .int i, .ty "int", _, _, _, rfl, .ty "int", .base (.int i), kit_ty (a := "int") (b := "int") (r := true) (by decide +kernel), _, rfl, iteT ?_⟩
    exact ⟨.int i, rfl, .int i, .ty "bool", _, _, _, rfl, .ty "bool", .base (.int i), kit_ty (a := "int") (b := "bool") (r := false) (by decide +kernel), _, rfl, q⟩
def sp_is_position : Sp := fun vs H Q _ => ∃ i : Int, vs = [.int i] ∧ (0 ≤ i ∧ i ≤ 1000000000000) ∧ Q (.bl true) H
theorem ok_is_position (T : Tx K mg f_is_number f_is_position f_is_tuple_of f_is_interval f_interval_text f_joined_texts f_intervals_text f_parse_number f_parse_interval f_parse_intervals f_law_deck f_law_draw f_law_same f_law_small f_law_moved f_law_text f_law d_is_number d_is_position d_is_tuple_of d_is_interval d_interval_text d_joined_texts d_intervals_text d_parse_number d_parse_interval d_parse_intervals d_law_deck d_law_draw d_law_same d_law_small d_law_moved d_law_text d_law t_LAST_POSITION) : FnOk P w K mg base CX0 2 f_is_position d_is_position ["value"] sp_is_position := by
  refine T.F_is_position.ok sc_is_position (fun vs H Q E h => ?_) (fun cdv A outer s H vs Q E hr h => ?_)
  · obtain ⟨i, rfl, _⟩ := h
    rfl
  · obtain ⟨i, rfl, b, q⟩ := h
    refine ⟨_, (pss_one (ps_ret (pe_and (pe_call (ok_is_number T) (hr.mono (by decide)) (by rfl) T.g_is_number T.F_is_number.kp T.b_is_number .nil pass0 (pa_cons (pv 0) pa_nil)) (pe_one (pe_chain op_le op_le pe_int (pv 0) (pe_glob (v := .int 1000000000000) (by rfl) T.c_LAST_POSITION ⟨_, rfl⟩)))))), ?_⟩
    refine ⟨.int i, rfl, i, rfl, _, rfl, iteT ?_⟩
    refine ⟨.int i, rfl, _, _, rfl, rfl, _, rfl, ?_⟩
    rw [decide_eq_true b.1]
    refine iteT ⟨_, _, rfl, rfl, ?_⟩
    have q' : Q (.bl (decide (i ≤ 1000000000000))) H := by
      rw [decide_eq_true b.2]
      exact q
    exact q'
def sp_is_tuple_of : Sp := fun vs H Q _ => ∃ (a : Addr) (x y : Int), vs = [.ref a, .int 2] ∧ H a = some (.tup [.int x, .int y]) ∧ Q (.bl true) H
theorem ok_is_tuple_of (T : Tx K mg f_is_number f_is_position f_is_tuple_of f_is_interval f_interval_text f_joined_texts f_intervals_text f_parse_number f_parse_interval f_parse_intervals f_law_deck f_law_draw f_law_same f_law_small f_law_moved f_law_text f_law d_is_number d_is_position d_is_tuple_of d_is_interval d_interval_text d_joined_texts d_intervals_text d_parse_number d_parse_interval d_parse_intervals d_law_deck d_law_draw d_law_same d_law_small d_law_moved d_law_text d_law t_LAST_POSITION) : FnOk P w K mg base CX0 1 f_is_tuple_of d_is_tuple_of ["value", "length"] sp_is_tuple_of := by
  refine T.F_is_tuple_of.ok sc_is_tuple_of (fun vs H Q E h => ?_) (fun cdv A outer s H vs Q E hr h => ?_)
  · obtain ⟨a, x, y, rfl, _⟩ := h
    rfl
  · obtain ⟨a, x, y, rfl, ha, q⟩ := h
    refine ⟨_, (pss_one (ps_ret (pe_and (pe_callB call_isi (by rfl) T.z_isinstance (by decide +kernel) (pa_cons (pv 0) (pa_cons (pe_bltn (v := .ty "tuple") (u := .type "tuple") (by rfl) T.z_tuple (by decide +kernel) rfl) pa_nil))) (pe_one (pe_cmpR op_eq (pe_callB call_len_seq (by rfl) T.z_len PySem.boot_len (pa_cons (pv 0) pa_nil)) (pv 1) (nomark _)))))), ?_⟩
    refine ⟨.ref a, rfl, .ref a, .ty "tuple", _, _, _, rfl, .ty "tuple", .base (.tup ha), kit_ty (a := "tuple") (b := "tuple") (r := true) (by decide +kernel), _, rfl, iteT ?_⟩
    exact ⟨.ref a, rfl, a, _, rfl, .inr (SqT.of ha), .int 2, rfl, rfl, q⟩
def sp_is_interval : Sp := fun vs H Q _ => ∃ (a : Addr) (x y : Int), vs = [.ref a] ∧ H a = some (.tup [.int x, .int y]) ∧ ((0 ≤ x ∧ x ≤ y) ∧ y ≤ 1000000000000) ∧ Q (.bl true) H
theorem ok_is_interval (T : Tx K mg f_is_number f_is_position f_is_tuple_of f_is_interval f_interval_text f_joined_texts f_intervals_text f_parse_number f_parse_interval f_parse_intervals f_law_deck f_law_draw f_law_same f_law_small f_law_moved f_law_text f_law d_is_number d_is_position d_is_tuple_of d_is_interval d_interval_text d_joined_texts d_intervals_text d_parse_number d_parse_interval d_parse_intervals d_law_deck d_law_draw d_law_same d_law_small d_law_moved d_law_text d_law t_LAST_POSITION) : FnOk P w K mg base CX0 3 f_is_interval d_is_interval ["value"] sp_is_interval := by
  refine T.F_is_interval.ok sc_is_interval (fun vs H Q E h => ?_) (fun cdv A outer s H vs Q E hr h => ?_)
  · obtain ⟨a, x, y, rfl, _⟩ := h
    rfl
  · obtain ⟨a, x, y, rfl, ha, b, q⟩ := h
    refine ⟨_, (pss_cons (ps_if (pt_not (pt_val (pe_call (ok_is_tuple_of T) (hr.mono (by decide)) (by rfl) T.g_is_tuple_of T.F_is_tuple_of.kp T.b_is_tuple_of .nil pass0 (pa_cons (pv 0) (pa_cons pe_int pa_nil)))))
      (pss_one (ps_ret pe_bl))
      pss_nil)
      (pss_cons (ps_asg (pv 0) (pg_tup rfl (pgs_cons (pg_name (i := 1) sc_is_interval.nd rfl (Or.inl rfl)) (pgs_cons (pg_name (i := 2) sc_is_interval.nd rfl (Or.inl rfl)) pgs_nil))))
      (pss_one (ps_ret (pe_and (pe_call (ok_is_position T) (hr.mono (by decide)) (by rfl) T.g_is_position T.F_is_position.kp T.b_is_position .nil pass0 (pa_cons (pv 1) pa_nil)) (pe_and (pe_call (ok_is_position T) (hr.mono (by decide)) (by rfl) T.g_is_position T.F_is_position.kp T.b_is_position .nil pass0 (pa_cons (pv 2) pa_nil)) (pe_one (pe_cmpR op_le (pv 1) (pv 2) (nomark _))))))))), ?_⟩
    refine ⟨.ref a, rfl, a, x, y, rfl, ha, _, rfl, iteF ?_⟩
    refine ⟨.ref a, rfl, a, _, rfl, SqT.of ha, rfl, .int x, [.int y], rfl, .int y, [], rfl, rfl, ?_⟩
    refine ⟨.int x, rfl, x, rfl, by omega, _, rfl, iteT ?_⟩
    refine ⟨.int y, rfl, y, rfl, by omega, _, rfl, iteT ?_⟩
    refine ⟨.int x, rfl, .int y, rfl, _, _, rfl, rfl, ?_⟩
    have q' : Q (.bl (decide (x ≤ y))) H := by
      rw [decide_eq_true b.1.2]
      exact q
    exact q'

/-! ### tuples joined and cut, whichever object comes out -/
theorem catA_any {K : PySem.W.Frag} {H : Hp} {a b : Addr} {xs ys : List V} {Q : VK} (h1 : H a = some (.tup xs)) (h2 : H b = some (.tup ys)) (sz : xs.length + ys.length ≤ sizeLine) (k : ∀ H' p, Same H H' → H' p = some (.tup (xs ++ ys)) → Q (.ref p) H') : rCatA K (.ref a) (.ref b) H Q := by
  refine ⟨a, b, xs, ys, rfl, rfl, SqT.of h1, SqT.of h2, sz, fun e => k H b (Same.refl _) ?_, fun _ e => k H a (Same.refl _) ?_, fun _ _ p np => k _ p (same_new np) upd_same⟩
  · rw [e]
    exact h2
  · rw [e, List.append_nil]
    exact h1
theorem slA_any {K : PySem.W.Frag} {H : Hp} {a : Addr} {xs : List V} {lo hi : Option Int} {Q : VK} (h1 : H a = some (.tup xs)) (k : ∀ H' p, Same H H' → H' p = some (.tup (cutV xs lo hi)) → Q (.ref p) H') : rSlA K (.ref a) lo hi H Q := by
  refine ⟨a, xs, rfl, SqT.of h1, fun e => k H a (Same.refl _) ?_, fun _ p np => k _ p (same_new np) upd_same⟩
  have e2 : cutV xs lo hi = xs := by
    unfold cutV
    rw [e.1, e.2]
    simp
  rw [e2]
  exact h1
theorem Ivs.take {H : Hp} {vs : List V} {ps : List (Int × Int)} (h : Ivs H vs ps) : ∀ n : Nat, Ivs H (vs.take n) (ps.take n) := by
  induction h with
  | nil =>
    intro n
    rw [List.take_nil, List.take_nil]
    exact .nil
  | cons e _ ih =>
    intro n
    cases n with
    | zero => exact .nil
    | succ n => exact .cons e (ih n)

theorem shaped_pairs (ps : List (Int × Int)) : SeqAt.shaped (.tuple (ps.map pairD)) = true := by
  have h1 : ∀ ps : List (Int × Int), PyData.canLayAll0 (ps.map pairD) = true := by
    intro ps
    induction ps with
    | nil => rfl
    | cons n r ih => exact ih
  have h2 : ∀ ps : List (Int × Int), PyData.depthAll (ps.map pairD) ≤ 1 := by
    intro ps
    induction ps with
    | nil => exact Nat.zero_le _
    | cons n r ih =>
      show max 1 (PyData.depthAll (r.map pairD)) ≤ 1
      omega
  unfold SeqAt.shaped
  rw [show PyData.canLay0 (.tuple (ps.map pairD)) = PyData.canLayAll0 (ps.map pairD) from rfl, h1 ps]
  show decide (PyData.depthAll (ps.map pairD) + 1 ≤ 64) = true
  exact decide_eq_true (by have := h2 ps; omega)
theorem eqv_self (ps : List (Int × Int)) : PyData.eqv (.tuple (ps.map pairD)) (.tuple (ps.map pairD)) = true := by
  show PyData.eqvAll (ps.map pairD) (ps.map pairD) = true
  induction ps with
  | nil => rfl
  | cons q r ih =>
    show (((q.1 == q.1) && ((q.2 == q.2) && true)) && PyData.eqvAll (r.map pairD) (r.map pairD)) = true
    rw [ih, beq_self_eq_true, beq_self_eq_true]
    rfl

/-- rows of intervals -/
inductive Rws (H : Hp) : List V → List (List (Int × Int)) → Prop
  | nil : Rws H [] []
  | cons {a : Addr} {us : List V} {r : List (Int × Int)} {vs : List V} {rs : List (List (Int × Int))} : H a = some (.tup us) → Ivs H us r → Rws H vs rs → Rws H (.ref a :: vs) (r :: rs)
theorem Rws.length {H : Hp} {vs : List V} {rs : List (List (Int × Int))} (h : Rws H vs rs) : vs.length = rs.length := by
  induction h with
  | nil => rfl
  | cons _ _ _ ih => rw [List.length_cons, List.length_cons, ih]
theorem Rws.tps {H H' : Hp} (s : Tps H H') {vs : List V} {rs : List (List (Int × Int))} (h : Rws H vs rs) : Rws H' vs rs := by
  induction h with
  | nil => exact .nil
  | cons e i _ ih => exact .cons (s _ _ e) (i.tps s) ih
theorem Rws.get {H : Hp} {vs : List V} {rs : List (List (Int × Int))} (h : Rws H vs rs) : ∀ {i : Nat} {v : V}, vs[i]? = some v → ∃ a us r, v = .ref a ∧ rs[i]? = some r ∧ H a = some (.tup us) ∧ Ivs H us r := by
  induction h with
  | nil =>
    intro i v e
    simp at e
  | cons e k _ ih =>
    intro i v q
    cases i with
    | zero =>
      cases q
      exact ⟨_, _, _, rfl, rfl, e, k⟩
    | succ i => exact ih q
theorem Rws.append {H : Hp} {vs us : List V} {rs qs : List (List (Int × Int))} (h : Rws H vs rs) (h2 : Rws H us qs) : Rws H (vs ++ us) (rs ++ qs) := by
  induction h with
  | nil => exact h2
  | cons e i _ ih => exact .cons e i ih

/-! ### comprehensions over a range that draw -/
theorem lcK {d c : Addr} {n0 per : Int} {lo : Int} {n : Nat} {g : TG} {tt : TT} {te : TE} {vs : List Nat} {σ : L2.St} {H1 : Hp} {D : Addr} {Qd : Hp → Prop} (R : Nat → Hp → List V → Prop) (nD : H1 D = none) (dk : Dk H1 d c n0) (few : n < 1000)
    (mono : ∀ i H' H'' ws, Tps H' H'' → R i H' ws → R i H'' ws) (len : ∀ i H' ws, R i H' ws → ws.length ≤ i) (r0 : ∀ H', R 0 H' [])
    (hs : ∀ i H' (N : Hp → Prop) acc, i < n → Kp d c H1 H' → Dk H' d c (n0 + per * i) → H' D = some (.lst acc) → R i H' acc → (∀ H'' y, Kp d c H' H'' → Dk H'' d c (n0 + per * i + per) → R (i + 1) H'' (acc ++ [y]) → ∃ acc', H'' D = some (.lst acc') ∧ acc'.length < sizeLine ∧ N (upd H'' D (.lst (acc' ++ [y])))) →
      g (.int (lo + i)) (wipe σ vs) H' fun σ2 H2 => wipe σ2 vs = wipe σ vs ∧ tt σ2 H2 fun b H3 => if b = true then te σ2 H3 fun y H4 => ∃ acc, H4 D = some (.lst acc) ∧ acc.length < sizeLine ∧ N (upd H4 D (.lst (acc ++ [y]))) else N H3)
    (hd : ∀ H' ws, Kp d c H1 H' → Dk H' d c (n0 + per * n) → H' D = some (.lst ws) → R n H' ws → Qd H') :
    ∃ W : Nat → Nat → Hp → Prop, (∃ m, W 0 m (upd H1 D (.lst []))) ∧ ∀ i m H, W i m H →
      ((Itr lo n).stop i H ∧ Qd H) ∨ ((Itr lo n).go i H ∧ ∃ Nx : Hp → Prop, (∀ H', Nx H' → ∃ m', m' < m ∧ W (i + 1) m' H') ∧ ∀ x H', (Itr lo n).yld i H x H' → g x (wipe σ vs) H' fun σ2 H2 => wipe σ2 vs = wipe σ vs ∧ tt σ2 H2 fun b H3 =>
        if b = true then te σ2 H3 fun y H4 => ∃ acc, H4 D = some (.lst acc) ∧ acc.length < sizeLine ∧ Nx (upd H4 D (.lst (acc ++ [y]))) else Nx H3) := by
  have off := dk.off nD
  refine lc_range (lo := lo) (n := n) (fun i H' => Kp d c H1 H' ∧ Dk H' d c (n0 + per * i) ∧ ∃ ws, H' D = some (.lst ws) ∧ R i H' ws) ⟨Kp.same (same_new nD), (dk.upd off).eq (by simp), [], upd_same, r0 _⟩ ?_ ?_
  · rintro i H' hi ⟨kp, dk', ws, eD, r⟩
    have lw := len i H' ws r
    have sz : ws.length < sizeLine := few_line (by omega)
    refine hs i H' _ ws hi kp dk' eD r (fun H'' y kp2 dk2 r2 => ?_)
    have eD2 := kp2.keep off eD
    refine ⟨ws, eD2, sz, fun b o n1 n2 e => ?_, (dk2.upd off).eq ?_, _, upd_same, mono _ _ _ _ (Tps.lst eD2) r2⟩
    · rw [upd_ne (ne_of_none e nD)]
      exact kp2 b o n1 n2 (kp b o n1 n2 e)
    · rw [Int.natCast_succ, Int.mul_add, Int.mul_one]
      omega
  · rintro H' ⟨kp, dk', ws, eD, r⟩
    exact hd H' ws kp dk' eD r

theorem atI_end {xs : List V} {v : V} (h : xs[xs.length - 1]? = some v) : atI xs (-1) = some v := by
  have ne : xs ≠ [] := fun e => by
    rw [e] at h
    cases h
  have e := List.dropLast_concat_getLast ne
  rw [List.getLast_eq_getElem] at e
  rw [List.getElem?_eq_getElem (by have := List.length_pos_iff.mpr ne; omega)] at h
  rw [Option.some.inj h] at e
  rw [← e]
  exact atI_last _ _

/-! ### the program's texts -/
def sp_interval_text : Sp := fun vs H Q _ => ∃ (a : Addr) (q : Int × Int), vs = [.ref a] ∧ H a = some (.tup [.int q.1, .int q.2]) ∧ ((0 ≤ q.1 ∧ q.1 ≤ q.2) ∧ q.2 ≤ 1000000000000) ∧ Q (.str (ivT q)) H
theorem ok_interval_text (T : Tx K mg f_is_number f_is_position f_is_tuple_of f_is_interval f_interval_text f_joined_texts f_intervals_text f_parse_number f_parse_interval f_parse_intervals f_law_deck f_law_draw f_law_same f_law_small f_law_moved f_law_text f_law d_is_number d_is_position d_is_tuple_of d_is_interval d_interval_text d_joined_texts d_intervals_text d_parse_number d_parse_interval d_parse_intervals d_law_deck d_law_draw d_law_same d_law_small d_law_moved d_law_text d_law t_LAST_POSITION) : FnOk P w K mg base CX0 1 f_interval_text d_interval_text ["interval"] sp_interval_text := by
  refine T.F_interval_text.ok sc_interval_text (fun vs H Q E h => ?_) (fun cdv A outer s H vs Q E hr h => ?_)
  · obtain ⟨a, p, rfl, _⟩ := h
    rfl
  · obtain ⟨a, p, rfl, ha, b, q⟩ := h
    refine ⟨_, (pss_cons (ps_asg (pv 0) (pg_tup rfl (pgs_cons (pg_name (i := 1) sc_interval_text.nd rfl (Or.inl rfl)) (pgs_cons (pg_name (i := 2) sc_interval_text.nd rfl (Or.inl rfl)) pgs_nil))))
      (pss_one (ps_ret (pe_joined (PJ.cons (pe_fmt (pv 1)) (PJ.cons pe_str (PJ.cons (pe_fmt (pv 2)) PJ.nil))))))), ?_⟩
    have sz : sizeLine = 16777216 := by decide
    have k1 : ("-" : Str).length = 1 := by decide +kernel
    have k0 : (Str.empty : Str).length = 0 := rfl
    have l1 : (Str.ofString (toString p.1)).length ≤ 13 := numS_len b.1.1 (by omega : p.1 ≤ 1000000000000)
    have l2 : (Str.ofString (toString p.2)).length ≤ 13 := numS_len (i := p.2) (by omega) b.2
    refine ⟨.ref a, rfl, a, _, rfl, SqT.of ha, rfl, .int p.1, [.int p.2], rfl, .int p.2, [], rfl, rfl, ?_⟩
    refine ⟨.int p.1, rfl, .inr ⟨_, rfl, log2_tr b.1.1 (by omega), ?_⟩⟩
    refine ⟨_, rfl, by rw [Str.length_append]; omega, ?_⟩
    refine ⟨_, rfl, by rw [Str.length_append, Str.length_append]; omega, ?_⟩
    refine ⟨.int p.2, rfl, .inr ⟨_, rfl, log2_tr (by omega) (by omega), ?_⟩⟩
    refine ⟨_, rfl, by rw [Str.length_append, Str.length_append, Str.length_append]; omega, ?_⟩
    rw [Str.empty_append]
    exact q
def sp_joined_texts : Sp := fun vs H Q _ => ∃ (l : Addr) (ys : List Str), vs = [.ref l] ∧ H l = some (.lst (ys.map V.str)) ∧ (ys.map (·.length)).sum + ys.length ≤ 16777216 ∧ Q (.str (if ys = [] then "none" else Txt.join " " ys)) H
theorem ok_joined_texts (T : Tx K mg f_is_number f_is_position f_is_tuple_of f_is_interval f_interval_text f_joined_texts f_intervals_text f_parse_number f_parse_interval f_parse_intervals f_law_deck f_law_draw f_law_same f_law_small f_law_moved f_law_text f_law d_is_number d_is_position d_is_tuple_of d_is_interval d_interval_text d_joined_texts d_intervals_text d_parse_number d_parse_interval d_parse_intervals d_law_deck d_law_draw d_law_same d_law_small d_law_moved d_law_text d_law t_LAST_POSITION) : FnOk P w K mg base CX0 1 f_joined_texts d_joined_texts ["texts"] sp_joined_texts := by
  refine T.F_joined_texts.ok sc_joined_texts (fun vs H Q E h => ?_) (fun cdv A outer s H vs Q E hr h => ?_)
  · obtain ⟨l, ys, rfl, _⟩ := h
    rfl
  · obtain ⟨l, ys, rfl, hl, b, q⟩ := h
    refine ⟨_, (pss_one (ps_ret (pe_ifExp (pt_truth (pv 0) (by intro _; rfl)) (pe_join pe_str (pv 0)) pe_str))), ?_⟩
    have k1 : (" " : Str).length = 1 := by decide +kernel
    refine ⟨.ref l, rfl, _, .inl ⟨_, SqL.of hl, rfl⟩, ?_⟩
    cases ys with
    | nil => exact iteF q
    | cons y r =>
      refine iteT ⟨⟨_, rfl⟩, .ref l, rfl, _, l, y :: r, rfl, rfl, .inl (SqL.of hl), ?_, q⟩
      rw [k1]
      omega
def sp_intervals_text : Sp := fun vs H Q _ => ∃ (a : Addr) (us : List V) (ps : List (Int × Int)), vs = [.ref a] ∧ H a = some (.tup us) ∧ Ivs H us ps ∧ Vld0 ps ∧ ps.length < 1000 ∧ ∀ H', Same H H' → Q (.str (rowT ps)) H'
theorem ok_intervals_text (T : Tx K mg f_is_number f_is_position f_is_tuple_of f_is_interval f_interval_text f_joined_texts f_intervals_text f_parse_number f_parse_interval f_parse_intervals f_law_deck f_law_draw f_law_same f_law_small f_law_moved f_law_text f_law d_is_number d_is_position d_is_tuple_of d_is_interval d_interval_text d_joined_texts d_intervals_text d_parse_number d_parse_interval d_parse_intervals d_law_deck d_law_draw d_law_same d_law_small d_law_moved d_law_text d_law t_LAST_POSITION) : FnOk P w K mg base CX0 2 f_intervals_text d_intervals_text ["intervals"] sp_intervals_text := by
  refine T.F_intervals_text.ok sc_intervals_text (fun vs H Q E h => ?_) (fun cdv A outer s H vs Q E hr h => ?_)
  · obtain ⟨a, us, ps, rfl, _⟩ := h
    rfl
  · obtain ⟨a, us, ps, rfl, ha, iv, ok, few, q⟩ := h
    refine ⟨_, (pss_one (ps_ret (pe_call (ok_joined_texts T) (hr.mono (by decide)) (by rfl) T.g_joined_texts T.F_joined_texts.kp T.b_joined_texts .nil pass0 (pa_cons (pe_lc (own := [("interval", 1)]) (g := (gName 1)) (tt := tYes) (by rfl) sc_intervals_text.nd (pi_tup (pv 0)) (blkOk_by (own := [("interval", 1)]) (N := N_intervals_text) (sc := defScope s_intervals_text) (by decide +kernel)) (fun _ _ _ _ _ => (pg_name (i := 1) sc_intervals_text.nd rfl (Or.inl rfl))) (fun _ _ _ _ _ => pts_nil) (fun _ _ _ _ _ => (pe_call (ok_interval_text T) (hr.mono (by decide)) (by rfl) T.g_interval_text T.F_interval_text.kp T.b_interval_text .nil pass0 (pa_cons (pv 1) pa_nil)))) pa_nil)))), ?_⟩
    refine ⟨.ref a, rfl, a, rfl, ⟨_, SqT.of ha⟩, fun D nD => ?_⟩
    refine lcT (K := K) (a := a) (xs := us) (fun j H' ws => ws = ((ps.take j).map ivT).map V.str) nD (fun H' s => SqT.of (s _ _ ha)) (by rw [iv.length]; omega) (fun _ _ _ _ _ h => h) (fun j H' ws h => by rw [h, List.length_map, List.length_map, List.length_take]; omega) (fun _ => rfl) ?_ ?_
    · rintro j v H' N acc hj sm eA sz r no yes
      obtain ⟨bb, x, y, rfl, ep, hb⟩ := iv.get hj
      refine ⟨rfl, .ref bb, rfl, bb, (x, y), rfl, sm _ _ hb, ok _ (List.mem_of_getElem? ep), yes _ _ (Same.refl _) ?_⟩
      rw [r, map_take_snoc ep, List.map_append]
      rfl
    · rintro H' ws sm eD r
      rw [iv.length, List.take_length] at r
      subst r
      have s27 := sum27 ok
      refine ⟨D, ps.map ivT, rfl, eD, by rw [List.length_map]; omega, ?_⟩
      have q' := q H' sm
      unfold rowT at q'
      cases ps with
      | nil => exact q'
      | cons p r => exact q'
def sp_parse_number : Sp := fun vs H Q _ => ∃ i : Int, vs = [.str (numS i)] ∧ 0 ≤ i ∧ i ≤ 1000000000000 ∧ Q (.int i) H
theorem ok_parse_number (T : Tx K mg f_is_number f_is_position f_is_tuple_of f_is_interval f_interval_text f_joined_texts f_intervals_text f_parse_number f_parse_interval f_parse_intervals f_law_deck f_law_draw f_law_same f_law_small f_law_moved f_law_text f_law d_is_number d_is_position d_is_tuple_of d_is_interval d_interval_text d_joined_texts d_intervals_text d_parse_number d_parse_interval d_parse_intervals d_law_deck d_law_draw d_law_same d_law_small d_law_moved d_law_text d_law t_LAST_POSITION) : FnOk P w K mg base CX0 1 f_parse_number d_parse_number ["text"] sp_parse_number := by
  refine T.F_parse_number.ok sc_parse_number (fun vs H Q E h => ?_) (fun cdv A outer s H vs Q E hr h => ?_)
  · obtain ⟨i, rfl, _⟩ := h
    rfl
  · obtain ⟨i, rfl, h0, h1, q⟩ := h
    refine ⟨_, (pss_cons (ps_if (PW.pt (pw_or (pt_not (pt_val (pe_m0 PySem.F.slot_str_isdecimal PySem.F.type_str_isdecimal mt_isdecimal (pv 0)))) (pw_or1 (pt_cmpR op_gt (pe_callB call_len_str (by rfl) T.z_len PySem.boot_len (pa_cons (pv 0) pa_nil)) (pe_callB call_len_str (by rfl) T.z_len PySem.boot_len (pa_cons (pe_callTy call_str_int (by rfl) T.z_str (by decide +kernel) (pa_cons (pe_glob (v := .int 1000000000000) (by rfl) T.c_LAST_POSITION ⟨_, rfl⟩) pa_nil)) pa_nil)) (nomark _)))))
      (pss_one (ps_ret pe_non))
      pss_nil)
      (pss_cons (ps_set (i := 1) sc_parse_number.nd rfl (Or.inl rfl) (pe_callTy call_int_str (by rfl) T.z_int (by decide +kernel) (pa_cons (pv 0) pa_nil)))
      (pss_one (ps_ret (pe_ifExp (pt_cmpR op_eq (pe_callTy call_str_int (by rfl) T.z_str (by decide +kernel) (pa_cons (pv 1) pa_nil)) (pv 0) (nomark _)) (pv 1) pe_non))))), ?_⟩
    have sz : sizeLine = 16777216 := by decide
    have l0 := numS_len h0 h1
    refine ⟨.str (numS i), rfl, ⟨_, rfl⟩, _, rfl, rfl, trivial, _, rfl, ?_⟩
    rw [numS_decimal h0]
    refine iteF ?_
    refine ⟨.str (numS i), rfl, _, rfl, by omega, _, rfl, by decide +kernel, _, rfl, by decide +kernel, _, _, rfl, rfl, _, rfl, ?_⟩
    rw [decide_eq_false (by rw [show (Str.ofString (toString (1000000000000 : Int))).length = 13 by decide +kernel]; omega)]
    refine iteF ?_
    refine ⟨.str (numS i), rfl, _, _, rfl, numS_int h0 h1, by omega, ?_⟩
    refine ⟨.int i, rfl, _, rfl, log2_tr h0 (by omega), .str (numS i), rfl, rfl, _, rfl, ?_⟩
    rw [decide_eq_true rfl]
    exact iteT ⟨.int i, rfl, q⟩
def sp_parse_interval : Sp := fun vs H Q _ => ∃ p : Int × Int, vs = [.str (ivT p)] ∧ ((0 ≤ p.1 ∧ p.1 ≤ p.2) ∧ p.2 ≤ 1000000000000) ∧ ∀ H' t, Same H H' → H' t = some (.tup [.int p.1, .int p.2]) → Q (.ref t) H'
theorem ok_parse_interval (T : Tx K mg f_is_number f_is_position f_is_tuple_of f_is_interval f_interval_text f_joined_texts f_intervals_text f_parse_number f_parse_interval f_parse_intervals f_law_deck f_law_draw f_law_same f_law_small f_law_moved f_law_text f_law d_is_number d_is_position d_is_tuple_of d_is_interval d_interval_text d_joined_texts d_intervals_text d_parse_number d_parse_interval d_parse_intervals d_law_deck d_law_draw d_law_same d_law_small d_law_moved d_law_text d_law t_LAST_POSITION) : FnOk P w K mg base CX0 4 f_parse_interval d_parse_interval ["word"] sp_parse_interval := by
  refine T.F_parse_interval.ok sc_parse_interval (fun vs H Q E h => ?_) (fun cdv A outer s H vs Q E hr h => ?_)
  · obtain ⟨p, rfl, _⟩ := h
    rfl
  · obtain ⟨p, rfl, b, q⟩ := h
    refine ⟨_, (pss_cons (ps_asg (pe_partition (pv 0) pe_str) (pg_tup rfl (pgs_cons (pg_name (i := 1) sc_parse_interval.nd rfl (Or.inl rfl)) (pgs_cons (pg_name (i := 2) sc_parse_interval.nd rfl (Or.inl rfl)) (pgs_cons (pg_name (i := 3) sc_parse_interval.nd rfl (Or.inl rfl)) pgs_nil)))))
      (pss_cons (ps_set (i := 4) sc_parse_interval.nd rfl (Or.inl rfl) (pe_tup (pa_cons (pe_call (ok_parse_number T) (hr.mono (by decide)) (by rfl) T.g_parse_number T.F_parse_number.kp T.b_parse_number .nil pass0 (pa_cons (pv 1) pa_nil)) (pa_cons (pe_call (ok_parse_number T) (hr.mono (by decide)) (by rfl) T.g_parse_number T.F_parse_number.kp T.b_parse_number .nil pass0 (pa_cons (pv 3) pa_nil)) pa_nil))))
      (pss_one (ps_ret (pe_ifExp (pt_val (pe_call (ok_is_interval T) (hr.mono (by decide)) (by rfl) T.g_is_interval T.F_is_interval.kp T.b_is_interval .nil pass0 (pa_cons (pv 4) pa_nil))) (pv 4) pe_non))))), ?_⟩
    have sz : sizeLine = 16777216 := by decide
    have l0 := ivT_len b
    refine ⟨.str (ivT p), rfl, ⟨_, rfl⟩, _, _, rfl, rfl, by decide +kernel, by omega, fun t nt => ?_⟩
    rw [ivT_part b.1.1]
    have s1 := same_new (o := .tup [.str (numS p.1), .str "-", .str (numS p.2)]) nt
    have e1 := upd_same (H := H) (a := t) (o := .tup [.str (numS p.1), .str "-", .str (numS p.2)])
    generalize upd H t (.tup [.str (numS p.1), .str "-", .str (numS p.2)]) = H1 at *
    refine ⟨t, _, rfl, SqT.of e1, rfl, .str (numS p.1), [.str "-", .str (numS p.2)], rfl, .str "-", [.str (numS p.2)], rfl, .str (numS p.2), [], rfl, rfl, ?_⟩
    refine ⟨.str (numS p.1), rfl, p.1, rfl, b.1.1, by omega, .str (numS p.2), rfl, p.2, rfl, by omega, b.2, by show 2 ≤ sizeLine; decide, fun t2 nt2 => ?_⟩
    have s2 := same_new (o := .tup [V.int p.1, .int p.2]) nt2
    have e2 := upd_same (H := H1) (a := t2) (o := .tup [V.int p.1, .int p.2])
    generalize upd H1 t2 (.tup [V.int p.1, .int p.2]) = H2 at *
    refine ⟨.ref t2, rfl, t2, p.1, p.2, rfl, e2, b, _, rfl, iteT ?_⟩
    exact ⟨.ref t2, rfl, q _ t2 (s1.trans s2) e2⟩
def sp_parse_intervals : Sp := fun vs H Q _ => ∃ ps : List (Int × Int), vs = [.str (rowT ps)] ∧ Vld0 ps ∧ ps.Pairwise ltP ∧ ps.length < 1000 ∧ ∀ H' t us, Same H H' → H' t = some (.tup us) → Ivs H' us ps → Q (.ref t) H'
theorem ok_parse_intervals (T : Tx K mg f_is_number f_is_position f_is_tuple_of f_is_interval f_interval_text f_joined_texts f_intervals_text f_parse_number f_parse_interval f_parse_intervals f_law_deck f_law_draw f_law_same f_law_small f_law_moved f_law_text f_law d_is_number d_is_position d_is_tuple_of d_is_interval d_interval_text d_joined_texts d_intervals_text d_parse_number d_parse_interval d_parse_intervals d_law_deck d_law_draw d_law_same d_law_small d_law_moved d_law_text d_law t_LAST_POSITION) : FnOk P w K mg base CX0 5 f_parse_intervals d_parse_intervals ["text"] sp_parse_intervals := by
  refine T.F_parse_intervals.ok sc_parse_intervals (fun vs H Q E h => ?_) (fun cdv A outer s H vs Q E hr h => ?_)
  · obtain ⟨ps, rfl, _⟩ := h
    rfl
  · obtain ⟨ps, rfl, ok, asc, few, q⟩ := h
    refine ⟨_, (pss_cons (ps_if (pt_not (pt_val (pe_callB call_isi (by rfl) T.z_isinstance (by decide +kernel) (pa_cons (pv 0) (pa_cons (pe_bltn (v := .ty "str") (u := .type "str") (by rfl) T.z_str (by decide +kernel) rfl) pa_nil)))))
      (pss_one ps_never)
      pss_nil)
      (pss_cons (ps_if (pt_cmpR op_eq (pv 0) pe_str (nomark _))
      (pss_one (ps_ret (pe_tup pa_nil)))
      pss_nil)
      (pss_cons (ps_set (i := 1) sc_parse_intervals.nd rfl (Or.inl rfl) (pe_lst pa_nil))
      (pss_cons (ps_for PassesOwn.never rfl (pi_enum (by rfl) T.z_enumerate (pa_cons (pe_split (pv 0) pe_str) pa_nil)) (pg_tup rfl (pgs_cons (pg_name (i := 2) sc_parse_intervals.nd rfl (Or.inl rfl)) (pgs_cons (pg_name (i := 3) sc_parse_intervals.nd rfl (Or.inl rfl)) pgs_nil)))
      (pss_cons (ps_set (i := 4) sc_parse_intervals.nd rfl (Or.inl rfl) (pe_call (ok_parse_interval T) (hr.mono (by decide)) (by rfl) T.g_parse_interval T.F_parse_interval.kp T.b_parse_interval .nil pass0 (pa_cons (pv 3) pa_nil)))
      (pss_cons (ps_if (PW.pt (pw_or (pt_cmpR op_isN (pv 4) pe_non (nomark _)) (pw_or1 (PW.pt (pw_and (pt_truth (pv 1) (by intro _; rfl)) (pw_and1 (pt_cmpR (op_leT hr.units0) (pv 4) (pe_ix ix_list (pv 1) (pe_un un_neg pe_int) (fun _ _ => rfl)) (nomark _))))))))
      (pss_one ps_never)
      pss_nil)
      (pss_one (ps_expr (pe_bm PySem.F.plainAttrs_list PySem.F.slot_list_append PySem.F.type_list_append mt_append (pv 1) (pa_cons (pv 4) pa_nil)))))))
      (pss_one (ps_ret (pe_callTy call_tuple_of (by rfl) T.z_tuple (by decide +kernel) (pa_cons (pv 1) pa_nil)))))))), ?_⟩
    have sz : sizeLine = 16777216 := by decide
    have lr := rowT_len ok
    refine ⟨.str (rowT ps), rfl, .str (rowT ps), .ty "str", _, _, _, rfl, .ty "str", .base (.str _), kit_ty (a := "str") (b := "str") (r := true) (by decide +kernel), _, rfl, iteF ?_⟩
    refine ⟨.str (rowT ps), rfl, rfl, _, rfl, ite2 (fun e => ?_) (fun e => ?_)⟩
    · have e' : rowT ps = "none" := by simpa using e
      have n : ps = [] := by
        by_cases n : ps = []
        · exact n
        · exact absurd e' (rowT_head ok n)
      subst n
      refine ⟨by show 0 ≤ sizeLine; decide, fun t nt => ?_⟩
      exact q _ t [] (same_new nt) upd_same .nil
    · have n : ps ≠ [] := fun n => e (by subst n; exact decide_eq_true rfl)
      refine ⟨by show 0 ≤ sizeLine; decide, fun l nl => ?_⟩
      have s1 := same_new (o := .lst ([] : List V)) nl
      have e1 := upd_same (H := H) (a := l) (o := .lst ([] : List V))
      generalize upd H l (.lst ([] : List V)) = H1 at *
      refine ⟨.str (rowT ps), rfl, ⟨_, rfl⟩, _, _, rfl, rfl, by decide +kernel, by omega, fun w nw => ?_⟩
      rw [rowT_split ok n]
      have s2 := same_new (o := .lst ((ps.map ivT).map V.str)) nw
      have e2 := upd_same (H := H1) (a := w) (o := .lst ((ps.map ivT).map V.str))
      generalize upd H1 w (.lst ((ps.map ivT).map V.str)) = H2 at *
      have s12 := s1.trans s2
      refine ⟨w, _, rfl, SqL.of e2, for_enumL (D := ⟨_, _, fun _ _ => True, fun _ _ => True⟩) (xs := (ps.map ivT).map V.str) (fun j σ H' => (Same H H' ∧ H' w = some (.lst ((ps.map ivT).map V.str))) ∧ ∃ us, (H' l = some (.lst us) ∧ Ivs H' us (ps.take j)) ∧ ∃ y2 y3 y4, σ = [some (.str (rowT ps)), some (.ref l), y2, y3, y4])
        ⟨⟨s12, e2⟩, [], ⟨s2 _ _ e1, .nil⟩, _, _, _, rfl⟩ (fun j σ H' h => SqL.of h.1.2) ?_ ?_⟩
      · rintro j x t σ H3 hx ⟨⟨s3, e3⟩, us, ⟨el, iv⟩, y2, y3, y4, rfl⟩ nt
        obtain ⟨p, ep, rfl⟩ : ∃ p, ps[j]? = some p ∧ x = .str (ivT p) := by
          rw [List.getElem?_map, List.getElem?_map] at hx
          cases c : ps[j]? with
          | none =>
            rw [c] at hx
            cases hx
          | some p =>
            rw [c] at hx
            cases hx
            exact ⟨p, rfl, rfl⟩
        have lj := (List.getElem?_eq_some_iff.mp ep).1
        have lu := iv.length
        rw [List.length_take] at lu
        have s4 := same_new (o := .tup [.int (j : Nat), .str (ivT p)]) nt
        have e4 := upd_same (H := H3) (a := t) (o := .tup [.int (j : Nat), .str (ivT p)])
        generalize upd H3 t (.tup [.int (j : Nat), .str (ivT p)]) = H4 at *
        refine ⟨t, _, rfl, SqT.of e4, rfl, .int (j : Nat), [.str (ivT p)], rfl, .str (ivT p), [], rfl, rfl, ?_⟩
        refine ⟨.str (ivT p), rfl, p, rfl, ok p (List.mem_of_getElem? ep), fun H5 t5 s5 e5 => ?_⟩
        have s45 := s4.trans s5
        have el5 := s45 _ _ el
        have iv5 := iv.same s45
        refine ⟨.ref t5, rfl, rfl, _, rfl, iteF ?_⟩
        refine ⟨.ref l, rfl, _, .inl ⟨us, SqL.of el5, rfl⟩, ?_⟩
        have wl : w ≠ l := fun z => by
          rw [z, e1] at nw
          cases nw
        have s5H := s3.trans s45
        have w5 := s45 _ _ e3
        have tk : ps.take (j + 1) = ps.take j ++ [p] := by
          rw [List.take_add_one, ep]
          rfl
        have fin : ∀ y2 y3 y4 : Option V, (Same H (upd H5 l (.lst (us ++ [.ref t5]))) ∧ upd H5 l (.lst (us ++ [.ref t5])) w = some (.lst ((ps.map ivT).map V.str))) ∧ ∃ us', (upd H5 l (.lst (us ++ [.ref t5])) l = some (.lst us') ∧ Ivs (upd H5 l (.lst (us ++ [.ref t5]))) us' (ps.take (j + 1))) ∧ ∃ z2 z3 z4, [some (V.str (rowT ps)), some (V.ref l), y2, y3, y4] = [some (V.str (rowT ps)), some (V.ref l), z2, z3, z4] := fun y2 y3 y4 => by
          refine ⟨⟨same_off nl s5H, by rw [upd_ne wl]; exact w5⟩, us ++ [.ref t5], ⟨upd_same, ?_⟩, _, _, _, rfl⟩
          rw [tk]
          exact (iv5.snoc e5).tps (Tps.lst el5)
        by_cases c : j = 0
        · subst c
          have ue : us = [] := List.length_eq_zero_iff.mp (by omega)
          subst ue
          refine iteF (iteF ?_)
          exact ⟨.ref l, rfl, .inl ⟨rfl, _, SqL.of el5⟩, .ref t5, rfl, l, _, _, rfl, rfl, el5, by show 0 < sizeLine; decide, fin _ _ _⟩
        · have un : us.isEmpty = false := by
            cases us with
            | nil =>
              have z : ([] : List V).length = 0 := rfl
              omega
            | cons _ _ => rfl
          rw [un]
          refine iteT ?_
          obtain ⟨v, hv⟩ : ∃ v, us[us.length - 1]? = some v := ⟨_, List.getElem?_eq_getElem (by omega)⟩
          obtain ⟨b0, x0, y0, rfl, ep0, hb0⟩ := iv5.get hv
          have ep0' : ps[j - 1]? = some (x0, y0) := by
            rw [List.getElem?_take_of_lt (by omega)] at ep0
            rw [show j - 1 = us.length - 1 by omega]
            exact ep0
          have lt : ltP (x0, y0) p := by
            obtain ⟨g1, g2⟩ := List.getElem?_eq_some_iff.mp ep0'
            obtain ⟨g3, g4⟩ := List.getElem?_eq_some_iff.mp ep
            rw [← g2, ← g4]
            exact List.pairwise_iff_getElem.mp asc _ _ g1 g3 (by omega)
          refine ⟨.ref t5, rfl, .ref l, rfl, 1, rfl, l, us, -1, .ref b0, rfl, rfl, SqL.of el5, atI_end hv, t5, b0, [p.1, p.2], [x0, y0], rfl, rfl, SqT.of e5, SqT.of hb0, _, rfl, ?_⟩
          have elex : Ob.lexAt (fun j => decide ([p.1, p.2].getD j 0 = [x0, y0].getD j 0)) (fun j => decide ([p.1, p.2].getD j 0 ≤ [x0, y0].getD j 0)) (decide ([p.1, p.2].length ≤ [x0, y0].length)) 0 (min [p.1, p.2].length [x0, y0].length) = false := by
            show (if decide (p.1 = x0) = true then (if decide (p.2 = y0) = true then true else decide (p.2 ≤ y0)) else decide (p.1 ≤ x0)) = false
            have lt' : x0 < p.1 ∨ x0 = p.1 ∧ y0 < p.2 := lt
            rcases lt' with z | ⟨z1, z2⟩
            · rw [if_neg (by rw [decide_eq_false (by omega)]; decide), decide_eq_false (by omega)]
            · rw [if_pos (decide_eq_true z1.symm), if_neg (by rw [decide_eq_false (by omega)]; decide), decide_eq_false (by omega)]
          rw [elex]
          refine iteF ?_
          exact ⟨.ref l, rfl, .inl ⟨rfl, _, SqL.of el5⟩, .ref t5, rfl, l, _, _, rfl, rfl, el5, few_line (by omega), fin _ _ _⟩
      · rintro σ H3 ⟨⟨s3, e3⟩, us, ⟨el, iv⟩, y2, y3, y4, rfl⟩
        rw [List.length_map, List.length_map, List.take_length] at iv
        refine ⟨.ref l, rfl, l, us, rfl, .inl ⟨SqL.of el, fun t nt => ?_⟩⟩
        exact q _ t us (s3.trans (same_new nt)) upd_same (iv.same (same_new nt))
def sp_law_text : Sp := fun vs H Q _ => ∃ (a : Addr) (us : List V) (ps : List (Int × Int)), vs = [.ref a] ∧ H a = some (.tup us) ∧ Ivs H us ps ∧ Vld0 ps ∧ ps.length < 1000 ∧ ∀ H', Same H H' → Q (.str (rowT ps)) H'
theorem ok_law_text (T : Tx K mg f_is_number f_is_position f_is_tuple_of f_is_interval f_interval_text f_joined_texts f_intervals_text f_parse_number f_parse_interval f_parse_intervals f_law_deck f_law_draw f_law_same f_law_small f_law_moved f_law_text f_law d_is_number d_is_position d_is_tuple_of d_is_interval d_interval_text d_joined_texts d_intervals_text d_parse_number d_parse_interval d_parse_intervals d_law_deck d_law_draw d_law_same d_law_small d_law_moved d_law_text d_law t_LAST_POSITION) : FnOk P w K mg base CX0 2 f_law_text d_law_text ["_law_intervals"] sp_law_text := by
  refine T.F_law_text.ok sc_law_text (fun vs H Q E h => ?_) (fun cdv A outer s H vs Q E hr h => ?_)
  · obtain ⟨a, us, ps, rfl, _⟩ := h
    rfl
  · obtain ⟨a, us, ps, rfl, ha, iv, ok, few, q⟩ := h
    refine ⟨_, (pss_one (ps_ret (pe_join pe_str (pe_op op_cat (pe_lc (own := [("_law_low", 1), ("_law_high", 2)]) (g := (gTup K 2 (gCons (gName 1) (gCons (gName 2) gNil)))) (tt := tYes) (by rfl) sc_law_text.nd (pi_tup (pv 0)) (blkOk_by (own := [("_law_low", 1), ("_law_high", 2)]) (N := N_law_text) (sc := defScope s_law_text) (by decide +kernel)) (fun _ _ _ _ _ => (pg_tup rfl (pgs_cons (pg_name (i := 1) sc_law_text.nd rfl (Or.inl rfl)) (pgs_cons (pg_name (i := 2) sc_law_text.nd rfl (Or.inl rfl)) pgs_nil)))) (fun _ _ _ _ _ => pts_nil) (fun _ _ _ _ _ => (pe_op op_add_str (pe_op op_add_str (pe_callTy call_str_int (by rfl) T.z_str (by decide +kernel) (pa_cons (pv 1) pa_nil)) pe_str) (pe_callTy call_str_int (by rfl) T.z_str (by decide +kernel) (pa_cons (pv 2) pa_nil))))) (pe_op op_rep (pe_lst (pa_cons pe_str pa_nil)) (pe_callTy call_int1 (by rfl) T.z_int (by decide +kernel) (pa_cons (pe_cmpR (op_eqE hr.units0) (pv 0) (pe_tup pa_nil) (nomark _)) pa_nil))))))), ?_⟩
    have sz : sizeLine = 16777216 := by decide
    have sz2 : (16777216 : Nat) = sizeLine := sz.symm
    have k1 : ("-" : Str).length = 1 := by decide +kernel
    refine ⟨⟨_, rfl⟩, .ref a, rfl, a, rfl, ⟨_, SqT.of ha⟩, fun D nD => ?_⟩
    refine lcT (K := K) (a := a) (xs := us) (fun j H' ws => ws = ((ps.take j).map ivT).map V.str) nD (fun H' s => SqT.of (s _ _ ha)) (by rw [iv.length]; omega) (fun _ _ _ _ _ h => h) (fun j H' ws h => by rw [h, List.length_map, List.length_map, List.length_take]; omega) (fun _ => rfl) ?_ ?_
    · rintro j v H' N acc hj sm eA sz3 r no yes
      obtain ⟨bb, x, y, rfl, ep, hb⟩ := iv.get hj
      have b := ok _ (List.mem_of_getElem? ep)
      have l1 : (Str.ofString (toString x)).length ≤ 13 := numS_len b.1.1 (by omega : x ≤ 1000000000000)
      have l2 : (Str.ofString (toString y)).length ≤ 13 := numS_len (i := y) (by omega) b.2
      refine ⟨bb, _, rfl, SqT.of (sm _ _ hb), rfl, .int x, [.int y], rfl, .int y, [], rfl, rfl, rfl, ?_⟩
      refine ⟨.int x, rfl, _, rfl, log2_tr b.1.1 (by omega), _, _, rfl, rfl, by omega, .int y, rfl, _, rfl, log2_tr (by omega) (by omega), _, _, rfl, rfl, by rw [Str.length_append]; omega, yes _ _ (Same.refl _) ?_⟩
      rw [r, map_take_snoc ep, List.map_append]
      rfl
    · rintro H1 ws sm eD r
      rw [iv.length, List.take_length] at r
      subst r
      have s27 := sum27 ok
      refine ⟨by show 1 ≤ sizeLine; decide, fun l2 nl2 => ?_⟩
      have s2 := same_new (o := .lst [V.str "none"]) nl2
      have e2 := upd_same (H := H1) (a := l2) (o := .lst [V.str "none"])
      generalize upd H1 l2 (.lst [V.str "none"]) = H2 at *
      refine ⟨.ref a, rfl, by show 0 ≤ sizeLine; decide, fun e ne => ?_⟩
      have s3 := same_new (o := .tup ([] : List V)) ne
      have e3 := upd_same (H := H2) (a := e) (o := .tup ([] : List V))
      generalize upd H2 e (.tup ([] : List V)) = H3 at *
      have s13 := s2.trans s3
      refine ⟨a, e, us, rfl, rfl, SqT.of (s13 _ _ (sm _ _ ha)), SqT.of e3, .inr ⟨_, rfl, ?_⟩⟩
      cases ps with
      | nil =>
        cases iv
        refine ⟨l2, 1, _, rfl, rfl, s3 _ _ e2, by decide, by decide, by show 1 * 1 ≤ _; decide, fun z nz => ?_⟩
        have s4 := same_new (o := .lst (List.replicate (1 : Int).toNat [V.str "none"]).flatten) nz
        have e4 := upd_same (H := H3) (a := z) (o := .lst (List.replicate (1 : Int).toNat [V.str "none"]).flatten)
        generalize upd H3 z (.lst (List.replicate (1 : Int).toNat [V.str "none"]).flatten) = H4 at *
        replace e4 : H4 z = some (.lst [V.str "none"]) := e4
        refine ⟨D, z, _, _, rfl, rfl, (s13.trans s4) _ _ eD, e4, by show 0 + 1 ≤ sizeLine; decide, fun g ng => ?_⟩
        exact ⟨_, g, ["none"], rfl, rfl, .inl (SqL.of upd_same), by decide +kernel, q _ (sm.trans (s13.trans (s4.trans (same_new ng))))⟩
      | cons p r =>
        have un : us.isEmpty = false := by
          cases iv
          rfl
        rw [un]
        refine ⟨l2, 0, _, rfl, rfl, s3 _ _ e2, by decide, by decide, by show 1 * 0 ≤ _; decide, fun z nz => ?_⟩
        have s4 := same_new (o := .lst (List.replicate (0 : Int).toNat [V.str "none"]).flatten) nz
        have e4 := upd_same (H := H3) (a := z) (o := .lst (List.replicate (0 : Int).toNat [V.str "none"]).flatten)
        generalize upd H3 z (.lst (List.replicate (0 : Int).toNat [V.str "none"]).flatten) = H4 at *
        replace e4 : H4 z = some (.lst []) := e4
        refine ⟨D, z, _, _, rfl, rfl, (s13.trans s4) _ _ eD, e4, by rw [List.length_map, List.length_map]; show _ + 0 ≤ _; omega, fun g ng => ?_⟩
        refine ⟨_, g, (p :: r).map ivT, rfl, rfl, .inl (SqL.of ?_), ?_, q _ (sm.trans (s13.trans (s4.trans (same_new ng))))⟩
        · rw [List.append_nil]
          exact upd_same
        · rw [List.length_map, show (" " : Str).length = 1 by decide +kernel]
          omega

/-! ### what holds of a row -/
structure RwOk (ps : List (Int × Int)) : Prop where
  v : Vld0 ps
  asc : ps.Pairwise ltP
  few : ps.length ≤ 40
theorem Rws.at_ {H : Hp} {vs : List V} {rs : List (List (Int × Int))} (h : Rws H vs rs) : ∀ {i : Nat} {v : V}, vs[i]? = some v → ∃ a us ps, v = .ref a ∧ rs[i]? = some ps ∧ H a = some (.tup us) ∧ Ivs H us ps := by
  induction h with
  | nil =>
    intro i v e
    simp at e
  | cons e iv _ ih =>
    intro i v q
    cases i with
    | zero =>
      cases q
      exact ⟨_, _, _, rfl, rfl, e, iv⟩
    | succ i => exact ih q
theorem Rws.snoc {H : Hp} {vs : List V} {rs : List (List (Int × Int))} {a : Addr} {us : List V} {ps : List (Int × Int)} (h : Rws H vs rs) (e : H a = some (.tup us)) (iv : Ivs H us ps) : Rws H (vs ++ [.ref a]) (rs ++ [ps]) := by
  induction h with
  | nil => exact .cons e iv .nil
  | cons z zi _ ih => exact .cons z zi ih
theorem eqv_rows : ∀ ps qs : List (Int × Int), PyData.eqvAll (ps.map pairD) (qs.map pairD) = decide (ps = qs)
  | [], [] => rfl
  | [], _ :: _ => rfl
  | _ :: _, [] => rfl
  | p :: ps, q :: qs => by
    show (PyData.eqv (pairD p) (pairD q) && PyData.eqvAll (ps.map pairD) (qs.map pairD)) = _
    rw [eqv_rows ps qs, show PyData.eqv (pairD p) (pairD q) = decide ((p.1, p.2) = (q.1, q.2)) from eqv_pair _ _ _ _, Bool.eq_iff_iff, Bool.and_eq_true, decide_eq_true_iff, decide_eq_true_iff, decide_eq_true_iff]
    constructor
    · rintro ⟨h1, h2⟩
      rw [h2, show p = q from h1]
    · intro h
      injection h with h1 h2
      exact ⟨h1, h2⟩
/-- nothing but the list at t has changed -/
def BT (t : Addr) (H H' : Hp) : Prop := ∀ b o, b ≠ t → H b = some o → H' b = some o
theorem BT.refl (t : Addr) (H : Hp) : BT t H H := fun _ _ _ h => h
theorem BT.trans {t : Addr} {H H1 H2 : Hp} (h1 : BT t H H1) (h2 : BT t H1 H2) : BT t H H2 := fun b o n e => h2 b o n (h1 b o n e)
theorem BT.same {t : Addr} {H H1 : Hp} (s : Same H H1) : BT t H H1 := fun b o _ e => s b o e
theorem BT.upd {t : Addr} {H : Hp} {o : HO} : BT t H (upd H t o) := fun b u n e => by
  rw [upd_ne n]
  exact e
theorem BT.tps {t : Addr} {H H' : Hp} {l : List V} (h : BT t H H') (e : H t = some (.lst l)) : Tps H H' := fun b xs hb => h b _ (fun z => by
  rw [z, e] at hb
  cases hb) hb
theorem dp_bls {K : PySem.W.Frag} {H : Hp} : ∀ bs : List Bool, DpAll K H (bs.map V.bl) (bs.map PyData.bool)
  | [] => .nil
  | b :: r => .cons (.bl b) (dp_bls r)
theorem shaped_bls (bs : List Bool) : SeqAt.shaped (.list (bs.map PyData.bool)) = true := by
  have h1 : ∀ ps : List Bool, PyData.canLayAll0 (ps.map PyData.bool) = true := by
    intro ps
    induction ps with
    | nil => rfl
    | cons n r ih => exact ih
  have h2 : ∀ ps : List Bool, PyData.depthAll (ps.map PyData.bool) ≤ 1 := by
    intro ps
    induction ps with
    | nil => exact Nat.zero_le _
    | cons n r ih =>
      show max 0 (PyData.depthAll (r.map PyData.bool)) ≤ 1
      omega
  unfold SeqAt.shaped
  rw [show PyData.canLay0 (.list (bs.map PyData.bool)) = PyData.canLayAll0 (bs.map PyData.bool) from rfl, h1 bs]
  show decide (PyData.depthAll (bs.map PyData.bool) + 1 ≤ 64) = true
  exact decide_eq_true (by have := h2 bs; omega)
theorem Ivs.reverse {H : Hp} {vs : List V} {ps : List (Int × Int)} (h : Ivs H vs ps) : Ivs H vs.reverse ps.reverse := by
  induction h with
  | nil => exact .nil
  | cons e _ ih =>
    rw [List.reverse_cons, List.reverse_cons]
    exact ih.snoc e
theorem Ivs.drop {H : Hp} {vs : List V} {ps : List (Int × Int)} (h : Ivs H vs ps) : ∀ n : Nat, Ivs H (vs.drop n) (ps.drop n) := by
  induction h with
  | nil =>
    intro n
    rw [List.drop_nil, List.drop_nil]
    exact .nil
  | cons e r ih =>
    intro n
    cases n with
    | zero => exact .cons e r
    | succ n => exact ih n
theorem Ivs.cut {H : Hp} {vs : List V} {ps : List (Int × Int)} (h : Ivs H vs ps) (lo hi : Option Int) : ∃ qs, Ivs H (cutV vs lo hi) qs ∧ (∀ q ∈ qs, q ∈ ps) ∧ qs.length ≤ ps.length :=
  ⟨_, (h.drop _).take _, fun q hq => List.mem_of_mem_drop (List.mem_of_mem_take hq), by rw [List.length_take, List.length_drop]; omega⟩
def sp_law (K : PySem.W.Frag) : Sp := fun vs H Q _ => ∃ (a : Addr) (ns : List Int), vs = [.ref a] ∧ SqL K H a (ns.map V.int) ∧ ns.length ≤ 63 ∧ ∀ H', Q (.bl true) H'
theorem ok_law (T : Tx K mg f_is_number f_is_position f_is_tuple_of f_is_interval f_interval_text f_joined_texts f_intervals_text f_parse_number f_parse_interval f_parse_intervals f_law_deck f_law_draw f_law_same f_law_small f_law_moved f_law_text f_law d_is_number d_is_position d_is_tuple_of d_is_interval d_interval_text d_joined_texts d_intervals_text d_parse_number d_parse_interval d_parse_intervals d_law_deck d_law_draw d_law_same d_law_small d_law_moved d_law_text d_law t_LAST_POSITION) : FnG P w K mg base 8 f_law d_law ["_law_script"] (sp_law K) := by
  refine FnG.of T.F_law sc_law (fun {vs H Q} h => ?_) (fun cdv A outer s H vs Q hr hq h => ?_)
  · obtain ⟨a, ns, rfl, _⟩ := h
    rfl
  · obtain ⟨a, ns, rfl, hS, hlen, q⟩ := h
    refine ⟨_, (pss_cons (ps_set (i := 1) sc_law.nd rfl (Or.inr rfl) (pe_call (ok_law_deck T) (hr.mono (by decide)) (by rfl) T.g_law_deck T.F_law_deck.kp T.b_law_deck .nil pass0 (pa_cons (pv 0) pa_nil)))
      (pss_cons (ps_set (i := 2) sc_law.nd rfl (Or.inr rfl) (pe_lst pa_nil))
      (pss_cons (ps_set (i := 3) sc_law.nd rfl (Or.inr rfl) (pe_lst (pa_cons (pe_tup pa_nil) (pa_cons (pe_tup (pa_cons (pe_tup (pa_cons pe_int (pa_cons pe_int pa_nil))) pa_nil)) (pa_cons (pe_tup (pa_cons (pe_tup (pa_cons pe_int (pa_cons (pe_op op_pow pe_int pe_int) pa_nil))) pa_nil)) (pa_cons (pe_tup (pa_cons (pe_tup (pa_cons (pe_op op_pow pe_int pe_int) (pa_cons (pe_op op_pow pe_int pe_int) pa_nil))) pa_nil)) pa_nil))))))
      (pss_cons (ps_for PassesOwn.never rfl (pi_range1 (by rfl) T.z_range (pa_cons pe_int pa_nil)) (pg_name (i := 4) sc_law.nd rfl (Or.inl rfl))
      (pss_cons (ps_set (i := 5) sc_law.nd rfl (Or.inl rfl) (pe_ix ix_list (pe_lst (pa_cons pe_int (pa_cons pe_int (pa_cons pe_int (pa_cons pe_int (pa_cons (pe_op op_sub (pe_op op_pow pe_int pe_int) pe_int) (pa_cons (pe_call (ok_law_draw T) (hr.mono (by decide)) (by rfl) T.g_law_draw T.F_law_draw.kp T.b_law_draw .nil pass0 (pa_cons (pv 1) (pa_cons (pe_op op_pow pe_int pe_int) pa_nil))) pa_nil))))))) (pe_call (ok_law_draw T) (hr.mono (by decide)) (by rfl) T.g_law_draw T.F_law_draw.kp T.b_law_draw .nil pass0 (pa_cons (pv 1) (pa_cons pe_int pa_nil))) (fun _ _ => rfl)))
      (pss_one (ps_expr (pe_bm PySem.F.plainAttrs_list PySem.F.slot_list_append PySem.F.type_list_append mt_append (pv 3) (pa_cons (pe_call (ok_law_moved T) (hr.mono (by decide)) (by rfl) T.g_law_moved T.F_law_moved.kp T.b_law_moved .nil pass0 (pa_cons (pe_call (ok_law_small T) (hr.mono (by decide)) (by rfl) T.g_law_small T.F_law_small.kp T.b_law_small .nil pass0 (pa_cons (pv 1) (pa_cons pe_int (pa_cons (pe_ix ix_list (pe_lst (pa_cons pe_int (pa_cons pe_int (pa_cons pe_int pa_nil)))) (pe_call (ok_law_draw T) (hr.mono (by decide)) (by rfl) T.g_law_draw T.F_law_draw.kp T.b_law_draw .nil pass0 (pa_cons (pv 1) (pa_cons pe_int pa_nil))) (fun _ _ => rfl)) pa_nil)))) (pa_cons (pv 5) pa_nil))) pa_nil))))))
      (pss_cons (ps_for PassesOwn.never rfl (pi_list (pv 3)) (pg_name (i := 6) sc_law.nd rfl (Or.inl rfl))
      (pss_cons (ps_set (i := 7) sc_law.nd rfl (Or.inl rfl) (pe_callB (call_reprD hq hr.units) (by rfl) T.z_repr (by decide +kernel) (pa_cons (pv 6) pa_nil)))
      (pss_cons (ps_set (i := 8) sc_law.nd rfl (Or.inl rfl) (pe_call (ok_intervals_text T) (hr.mono (by decide)) (by rfl) T.g_intervals_text T.F_intervals_text.kp T.b_intervals_text .nil pass0 (pa_cons (pv 6) pa_nil)))
      (pss_cons (ps_if (PW.pt (pw_or (pt_not (pt_val (pe_callB call_isi (by rfl) T.z_isinstance (by decide +kernel) (pa_cons (pv 8) (pa_cons (pe_bltn (v := .ty "str") (u := .type "str") (by rfl) T.z_str (by decide +kernel) rfl) pa_nil))))) (pw_or (pt_cmpR op_ne (pv 8) (pe_call (ok_law_text T) (hr.mono (by decide)) (by rfl) T.g_law_text T.F_law_text.kp T.b_law_text .nil pass0 (pa_cons (pv 6) pa_nil)) (nomark _)) (pw_or1 (pt_cmpR op_ne (pe_call (ok_intervals_text T) (hr.mono (by decide)) (by rfl) T.g_intervals_text T.F_intervals_text.kp T.b_intervals_text .nil pass0 (pa_cons (pv 6) pa_nil)) (pv 8) (nomark _))))))
      (pss_one (ps_ret pe_bl))
      pss_nil)
      (pss_cons (ps_if (PW.pt (pw_or (pt_not (pt_val (pe_call (ok_law_same T) (hr.mono (by decide)) (by rfl) T.g_law_same T.F_law_same.kp T.b_law_same .nil pass0 (pa_cons (pe_call (ok_parse_intervals T) (hr.mono (by decide)) (by rfl) T.g_parse_intervals T.F_parse_intervals.kp T.b_parse_intervals .nil pass0 (pa_cons (pv 8) pa_nil)) (pa_cons (pv 6) pa_nil))))) (pw_or1 (pt_cmpR op_ne (pe_callB (call_reprD hq hr.units) (by rfl) T.z_repr (by decide +kernel) (pa_cons (pv 6) pa_nil)) (pv 7) (nomark _)))))
      (pss_one (ps_ret pe_bl))
      pss_nil)
      (pss_cons (ps_if (pt_cmpR (op_neL hr.units0) (pe_lc (own := [("_law_one", 9)]) (g := (gName 9)) (by rfl) sc_law.nd (pi_tup (pv 6)) (blkOk_by (own := [("_law_one", 9)]) (N := N_law) (sc := defScope s_law) (by decide +kernel)) (fun _ _ _ _ _ => (pg_name (i := 9) sc_law.nd rfl (Or.inl rfl))) (fun _ _ _ _ _ => pts_one (pt_cmpR op_ne (pe_call (ok_interval_text T) (hr.mono (by decide)) (by rfl) T.g_interval_text T.F_interval_text.kp T.b_interval_text .nil pass0 (pa_cons (pv 9) pa_nil)) (pe_op op_add_str (pe_op op_add_str (pe_callTy call_str_int (by rfl) T.z_str (by decide +kernel) (pa_cons (pe_ix (show IxR _ (rIxT K) from ix_tup) (pv 9) pe_int (fun _ _ => rfl)) pa_nil)) pe_str) (pe_callTy call_str_int (by rfl) T.z_str (by decide +kernel) (pa_cons (pe_ix (show IxR _ (rIxT K) from ix_tup) (pv 9) pe_int (fun _ _ => rfl)) pa_nil))) (nomark _))) (fun _ _ _ _ _ => (pv 9))) (pe_lst pa_nil) (nomark _))
      (pss_one (ps_ret pe_bl))
      pss_nil)
      (pss_one (ps_expr (pe_bm PySem.F.plainAttrs_list PySem.F.slot_list_append PySem.F.type_list_append mt_append (pv 2) (pa_cons (pv 8) pa_nil))))))))))
      (pss_cons (ps_for PassesOwn.never rfl (pi_range1 (by rfl) T.z_range (pa_cons (pe_callB call_len_seq (by rfl) T.z_len PySem.boot_len (pa_cons (pv 3) pa_nil)) pa_nil)) (pg_name (i := 10) sc_law.nd rfl (Or.inr rfl))
      (pss_one (ps_if (pt_cmpR (op_neD hr.units) (pe_lc (own := [("_law_text_here", 8)]) (g := (gName 8)) (tt := tYes) (by rfl) sc_law.nd (pi_list (pv 2)) (blkOk_by (own := [("_law_text_here", 8)]) (N := N_law) (sc := defScope s_law) (by decide +kernel)) (fun _ _ _ _ _ => (pg_name (i := 8) sc_law.nd rfl (Or.inl rfl))) (fun _ _ _ _ _ => pts_nil) (fun _ _ _ _ _ => (pe_cmpR op_eq (pe_ix (show IxR _ (rIxL K) from ix_list) (pv 2) (pv 10) (fun _ _ => rfl)) (pv 8) (nomark _)))) (pe_lc (own := [("_law_one", 9)]) (g := (gName 9)) (tt := tYes) (by rfl) sc_law.nd (pi_list (pv 3)) (blkOk_by (own := [("_law_one", 9)]) (N := N_law) (sc := defScope s_law) (by decide +kernel)) (fun _ _ _ _ _ => (pg_name (i := 9) sc_law.nd rfl (Or.inl rfl))) (fun _ _ _ _ _ => pts_nil) (fun _ _ _ _ _ => (pe_cmpR (show OpR _ (compareOp .Eq) (rEqD K) from (op_eqD hr.units)) (pe_ix (show IxR _ (rIxL K) from ix_list) (pv 3) (pv 10) (fun _ _ => rfl)) (pv 9) (nomark _)))) (nomark _))
      (pss_one (ps_ret pe_bl))
      pss_nil)))
      (pss_cons (ps_set (i := 11) sc_law.nd rfl (Or.inl rfl) (pe_op op_catA (pe_op op_catA (pe_revT (pe_ix ix_list (pv 3) (pe_un un_neg pe_int) (fun _ _ => rfl))) (pe_slice sl_tupA (pe_ix ix_list (pv 3) (pe_un un_neg pe_int) (fun _ _ => rfl)) po_none (po_some pe_int))) (pe_tup (pa_cons (pe_tup (pa_cons pe_int (pa_cons pe_int pa_nil))) (pa_cons (pe_tup (pa_cons pe_int (pa_cons pe_int pa_nil))) pa_nil)))))
      (pss_cons (ps_if (pt_cmpR op_ne (pe_call (ok_intervals_text T) (hr.mono (by decide)) (by rfl) T.g_intervals_text T.F_intervals_text.kp T.b_intervals_text .nil pass0 (pa_cons (pv 11) pa_nil)) (pe_call (ok_law_text T) (hr.mono (by decide)) (by rfl) T.g_law_text T.F_law_text.kp T.b_law_text .nil pass0 (pa_cons (pv 11) pa_nil)) (nomark _))
      (pss_one (ps_ret pe_bl))
      pss_nil)
      (pss_cons (ps_set (i := 12) sc_law.nd rfl (Or.inr rfl) (pe_call (ok_law_draw T) (hr.mono (by decide)) (by rfl) T.g_law_draw T.F_law_draw.kp T.b_law_draw .nil pass0 (pa_cons (pv 1) (pa_cons pe_int pa_nil))))
      (pss_cons (ps_set (i := 13) sc_law.nd rfl (Or.inl rfl) (pe_callTy call_tuple_of (by rfl) T.z_tuple (by decide +kernel) (pa_cons (pe_lc (own := [("_law_k", 10)]) (g := (gName 10)) (tt := tYes) (by rfl) sc_law.nd (pi_range1 (by rfl) T.z_range (pa_cons pe_int pa_nil)) (blkOk_by (own := [("_law_k", 10)]) (N := N_law) (sc := defScope s_law) (by decide +kernel)) (fun _ _ _ _ _ => (pg_name (i := 10) sc_law.nd rfl (Or.inl rfl))) (fun _ _ _ _ _ => pts_nil) (fun _ _ _ _ _ => (pe_tup (pa_cons (pe_op op_add (pv 12) (pv 10)) (pa_cons (pe_op op_add (pe_op op_add (pv 12) (pv 10)) (pe_call (ok_law_draw T) (hr.mono (by decide)) (by rfl) T.g_law_draw T.F_law_draw.kp T.b_law_draw .nil pass0 (pa_cons (pv 1) (pa_cons pe_int pa_nil)))) pa_nil))))) pa_nil)))
      (pss_one (ps_ret (pe_and (pe_cmpR op_eq (pe_call (ok_intervals_text T) (hr.mono (by decide)) (by rfl) T.g_intervals_text T.F_intervals_text.kp T.b_intervals_text .nil pass0 (pa_cons (pv 13) pa_nil)) (pe_call (ok_law_text T) (hr.mono (by decide)) (by rfl) T.g_law_text T.F_law_text.kp T.b_law_text .nil pass0 (pa_cons (pv 13) pa_nil)) (nomark _)) (pe_one (pe_call (ok_law_same T) (hr.mono (by decide)) (by rfl) T.g_law_same T.F_law_same.kp T.b_law_same .nil pass0 (pa_cons (pe_call (ok_parse_intervals T) (hr.mono (by decide)) (by rfl) T.g_parse_intervals T.F_parse_intervals.kp T.b_parse_intervals .nil pass0 (pa_cons (pe_call (ok_law_text T) (hr.mono (by decide)) (by rfl) T.g_law_text T.F_law_text.kp T.b_law_text .nil pass0 (pa_cons (pv 13) pa_nil)) pa_nil)) (pa_cons (pv 13) pa_nil))))))))))))))))), ?_⟩
    refine ⟨.ref a, rfl, a, ns, rfl, hS, hlen, fun H1 d c s1 nd nc dk0 => ?_⟩
    refine ⟨by show 0 ≤ sizeLine; decide, fun tl ntl => ?_⟩
    have offT := dk0.off ntl
    have s2 := same_new (o := .lst ([] : List V)) ntl
    have e2 := upd_same (H := H1) (a := tl) (o := .lst ([] : List V))
    generalize upd H1 tl (.lst ([] : List V)) = H2 at *
    have dk2 := dk0.kept s2
    refine ⟨by show 0 ≤ sizeLine; decide, fun a1 na1 => ?_⟩
    have s3 := same_new (o := .tup ([] : List V)) na1
    have e3 := upd_same (H := H2) (a := a1) (o := .tup ([] : List V))
    generalize upd H2 a1 (.tup ([] : List V)) = H3 at *
    refine ⟨by show 2 ≤ sizeLine; decide, fun b2 nb2 => ?_⟩
    have s4 := same_new (o := .tup [V.int 0, .int 0]) nb2
    have e4 := upd_same (H := H3) (a := b2) (o := .tup [V.int 0, .int 0])
    generalize upd H3 b2 (.tup [V.int 0, .int 0]) = H4 at *
    refine ⟨by show 1 ≤ sizeLine; decide, fun a2 na2 => ?_⟩
    have s5 := same_new (o := .tup [V.ref b2]) na2
    have e5 := upd_same (H := H4) (a := a2) (o := .tup [V.ref b2])
    generalize upd H4 a2 (.tup [V.ref b2]) = H5 at *
    refine ⟨10, 12, rfl, rfl, ⟨by decide, by decide, by decide⟩, by show 2 ≤ sizeLine; decide, fun b3 nb3 => ?_⟩
    have s6 := same_new (o := .tup [V.int 0, .int ((10 : Int) ^ (12 : Int).toNat)]) nb3
    have e6 := upd_same (H := H5) (a := b3) (o := .tup [V.int 0, .int ((10 : Int) ^ (12 : Int).toNat)])
    generalize upd H5 b3 (.tup [V.int 0, .int ((10 : Int) ^ (12 : Int).toNat)]) = H6 at *
    rw [show (10 : Int) ^ (12 : Int).toNat = 1000000000000 by decide +kernel] at e6
    refine ⟨by show 1 ≤ sizeLine; decide, fun a3 na3 => ?_⟩
    have s7 := same_new (o := .tup [V.ref b3]) na3
    have e7 := upd_same (H := H6) (a := a3) (o := .tup [V.ref b3])
    generalize upd H6 a3 (.tup [V.ref b3]) = H7 at *
    refine ⟨10, 12, rfl, rfl, ⟨by decide, by decide, by decide⟩, 10, 12, rfl, rfl, ⟨by decide, by decide, by decide⟩, by show 2 ≤ sizeLine; decide, fun b4 nb4 => ?_⟩
    have s8 := same_new (o := .tup [V.int ((10 : Int) ^ (12 : Int).toNat), .int ((10 : Int) ^ (12 : Int).toNat)]) nb4
    have e8 := upd_same (H := H7) (a := b4) (o := .tup [V.int ((10 : Int) ^ (12 : Int).toNat), .int ((10 : Int) ^ (12 : Int).toNat)])
    generalize upd H7 b4 (.tup [V.int ((10 : Int) ^ (12 : Int).toNat), .int ((10 : Int) ^ (12 : Int).toNat)]) = H8 at *
    rw [show (10 : Int) ^ (12 : Int).toNat = 1000000000000 by decide +kernel] at e8
    refine ⟨by show 1 ≤ sizeLine; decide, fun a4 na4 => ?_⟩
    have s9 := same_new (o := .tup [V.ref b4]) na4
    have e9 := upd_same (H := H8) (a := a4) (o := .tup [V.ref b4])
    generalize upd H8 a4 (.tup [V.ref b4]) = H9 at *
    refine ⟨by show 4 ≤ sizeLine; decide, fun l nl => ?_⟩
    have s39 := s4.trans (s5.trans (s6.trans (s7.trans (s8.trans s9))))
    have s29 := s3.trans s39
    have dk9 := dk2.kept s29
    have offL := dk9.off nl
    have etl9 := s29 _ _ e2
    have tll : tl ≠ l := fun z => by
      rw [← z, etl9] at nl
      cases nl
    have s10 := same_new (o := .lst [V.ref a1, .ref a2, .ref a3, .ref a4]) nl
    have el := upd_same (H := H9) (a := l) (o := .lst [V.ref a1, .ref a2, .ref a3, .ref a4])
    generalize upd H9 l (.lst [V.ref a1, .ref a2, .ref a3, .ref a4]) = H10 at *
    have rw0 : Rws H10 [V.ref a1, .ref a2, .ref a3, .ref a4] [[], [(0, 0)], [(0, 1000000000000)], [(1000000000000, 1000000000000)]] := by
      have z9 := s9.trans s10
      have z8 := s8.trans z9
      have z7 := s7.trans z8
      have z6 := s6.trans z7
      have z5 := s5.trans z6
      exact .cons ((s39.trans s10) _ _ e3) .nil (.cons (z6 _ _ e5) (.cons (z5 _ _ e4) .nil) (.cons (z8 _ _ e7) (.cons (z7 _ _ e6) .nil) (.cons (s10 _ _ e9) (.cons (z9 _ _ e8) .nil) .nil)))
    have ok0 : ∀ r ∈ ([[], [(0, 0)], [(0, 1000000000000)], [(1000000000000, 1000000000000)]] : List (List (Int × Int))), RwOk r := by
      intro r hr
      simp only [List.mem_cons, List.not_mem_nil, or_false] at hr
      rcases hr with rfl | rfl | rfl | rfl
      · exact ⟨fun q h => (nomatch h), .nil, by decide⟩
      · exact ⟨fun q h => by rw [List.mem_singleton.mp h]; decide, List.pairwise_singleton _ _, by decide⟩
      · exact ⟨fun q h => by rw [List.mem_singleton.mp h]; decide, List.pairwise_singleton _ _, by decide⟩
      · exact ⟨fun q h => by rw [List.mem_singleton.mp h]; decide, List.pairwise_singleton _ _, by decide⟩
    have dk10 := dk9.kept s10
    have etl10 := s10 _ _ etl9
    refine ⟨6, rfl, by decide, by decide, for_range (D := ⟨_, _, fun _ _ => True, fun _ _ => True⟩) (n := 6) (fun i σ H' => (∃ n : Int, Dk H' d c n ∧ 0 ≤ n ∧ n ≤ 60 * i) ∧ H' tl = some (.lst []) ∧ (∃ vs rs, H' l = some (.lst vs) ∧ Rws H' vs rs ∧ (∀ r ∈ rs, RwOk r) ∧ rs.length = 4 + i) ∧ ∃ y4 y5 y6 y7 y8 y9 y10 y11 y12 y13, σ = [some (.ref a), some (.ref d), some (.ref tl), some (.ref l), y4, y5, y6, y7, y8, y9, y10, y11, y12, y13])
      ⟨⟨0, dk10, by decide, by decide⟩, etl10, ⟨_, _, el, rw0, ok0, rfl⟩, _, _, _, _, _, _, _, _, _, _, rfl⟩ ?_ ?_⟩
    · rintro i σ G0 hi ⟨⟨n, dg0, n0, n1⟩, etl, ⟨vs, rs, el0, rws, oks, lrs⟩, y4, y5, y6, y7, y8, y9, y10, y11, y12, y13, rfl⟩
      refine ⟨10, 12, rfl, rfl, ⟨by decide, by decide, by decide⟩, _, _, rfl, rfl, ?_⟩
      refine ⟨.ref d, rfl, 10, 11, rfl, rfl, ⟨by decide, by decide, by decide⟩, d, c, n, _, rfl, dg0, n0, by omega, by decide, by decide, fun G1 r1 k1 dg1 r10 r11 => ?_⟩
      have r11' : r1 < 100000000000 := r11
      refine ⟨by show 6 ≤ sizeLine; decide, fun bl nbl => ?_⟩
      have t1 := same_new (o := .lst [V.int 0, .int 0, .int 9, .int 99, .int ((10 : Int) ^ (12 : Int).toNat - 40), .int r1]) nbl
      have ebl := upd_same (H := G1) (a := bl) (o := .lst [V.int 0, .int 0, .int 9, .int 99, .int ((10 : Int) ^ (12 : Int).toNat - 40), .int r1])
      generalize upd G1 bl (.lst [V.int 0, .int 0, .int 9, .int 99, .int ((10 : Int) ^ (12 : Int).toNat - 40), .int r1]) = G2 at *
      have offB := dg1.off nbl
      refine ⟨.ref d, rfl, d, c, n + 1, 6, rfl, dg1.kept t1, by omega, by omega, by decide, by decide, fun G3 r3 k3 dg3 r30 r31 => ?_⟩
      obtain ⟨by_, eby, b0, b1⟩ : ∃ b : Int, atI [V.int 0, .int 0, .int 9, .int 99, .int ((10 : Int) ^ (12 : Int).toNat - 40), .int r1] r3 = some (.int b) ∧ 0 ≤ b ∧ b ≤ 999999999960 := by
        have e40 : (10 : Int) ^ (12 : Int).toNat - 40 = 999999999960 := by decide +kernel
        rw [e40]
        obtain ⟨m, rfl⟩ : ∃ m : Nat, r3 = (m : Int) := ⟨r3.toNat, by omega⟩
        match m, (by omega : m < 6) with
        | 0, _ => exact ⟨0, rfl, by decide, by decide⟩
        | 1, _ => exact ⟨0, rfl, by decide, by decide⟩
        | 2, _ => exact ⟨9, rfl, by decide, by decide⟩
        | 3, _ => exact ⟨99, rfl, by decide, by decide⟩
        | 4, _ => exact ⟨999999999960, rfl, by decide, by decide⟩
        | 5, _ => exact ⟨r1, rfl, r10, by omega⟩
        | m + 6, h => omega
      refine ⟨bl, _, r3, .int by_, rfl, rfl, SqL.of (k3.keep offB ebl), eby, ?_⟩
      have kA : Kp d c G0 G3 := k1.trans ((Kp.same t1).trans k3)
      have el3 := kA.keep offL el0
      refine ⟨.ref l, rfl, .inl ⟨rfl, _, SqL.of el3⟩, ?_⟩
      refine ⟨.ref d, rfl, by show 3 ≤ sizeLine; decide, fun sl nsl => ?_⟩
      have t4 := same_new (o := .lst [V.int 3, .int 12, .int 40]) nsl
      have esl := upd_same (H := G3) (a := sl) (o := .lst [V.int 3, .int 12, .int 40])
      generalize upd G3 sl (.lst [V.int 3, .int 12, .int 40]) = G4 at *
      have offS := dg3.off nsl
      have dg4 := dg3.kept t4
      refine ⟨.ref d, rfl, d, c, n + 1 + 1, 3, rfl, dg4, by omega, by omega, by decide, by decide, fun G5 r5 k5 dg5 r50 r51 => ?_⟩
      obtain ⟨sp, esp, sp0, sp1⟩ : ∃ b : Int, atI [V.int 3, .int 12, .int 40] r5 = some (.int b) ∧ 1 ≤ b ∧ b ≤ 40 := by
        obtain ⟨m, rfl⟩ : ∃ m : Nat, r5 = (m : Int) := ⟨r5.toNat, by omega⟩
        match m, (by omega : m < 3) with
        | 0, _ => exact ⟨3, rfl, by decide, by decide⟩
        | 1, _ => exact ⟨12, rfl, by decide, by decide⟩
        | 2, _ => exact ⟨40, rfl, by decide, by decide⟩
        | m + 3, h => omega
      refine ⟨sl, _, r5, .int sp, rfl, rfl, SqL.of (k5.keep offS esl), esp, ?_⟩
      refine ⟨d, c, n + 1 + 1 + 1, 24, sp, rfl, dg5, by omega, by omega, by decide, by decide, sp0, by omega, fun G6 t us ps m6 k6 dg6 m60 m61 et iv sml fw => ?_⟩
      refine ⟨.int by_, rfl, t, by_, us, ps, rfl, et, iv, by omega, fun G7 p ws t7 ep ivw => ?_⟩
      have kB : Kp d c G3 G7 := (Kp.same t4).trans (k5.trans (k6.trans (Kp.same t7)))
      have dg7 := dg6.kept t7
      have el7 := kB.keep offL el3
      have okp : RwOk (ps.map (mvI by_)) := by
        refine ⟨fun q hq => ?_, mv_ltP sml.asc, by rw [List.length_map]; omega⟩
        obtain ⟨z, hz, rfl⟩ := List.mem_map.mp hq
        have := sml.ok z hz
        show (0 ≤ z.1 + by_ ∧ z.1 + by_ ≤ z.2 + by_) ∧ z.2 + by_ ≤ 1000000000000
        omega
      have tps7 : Tps G0 G7 := (kA.trans kB).tps dg0
      refine ⟨l, _, _, rfl, rfl, el7, few_line (by rw [rws.length]; omega), ⟨m6, dg7.upd offL, by omega, by omega⟩, ?_, ⟨_, rs ++ [ps.map (mvI by_)], upd_same, ((rws.tps tps7).snoc ep ivw).tps (Tps.lst el7), fun r hr => ?_, by rw [List.length_append, lrs]; rfl⟩, _, _, _, _, _, _, _, _, _, _, rfl⟩
      · rw [upd_ne tll]
        exact (kA.trans kB).keep offT etl
      · rcases List.mem_append.mp hr with hr | hr
        · exact oks r hr
        · rw [List.mem_singleton.mp hr]
          exact okp
    rintro σ F0 ⟨⟨n, df0, n0, n1⟩, etl, ⟨vs, rs, elF, rws, oks, lrs⟩, y4, y5, y6, y7, y8, y9, y10, y11, y12, y13, rfl⟩
    have lvs := rws.length
    refine ⟨.ref l, rfl, l, rfl, ⟨_, SqL.of elF⟩, for_list (D := ⟨_, _, fun _ _ => True, fun _ _ => True⟩) (K := K) (a := l) (xs := vs) (fun j σ H' => BT tl F0 H' ∧ H' tl = some (.lst (((rs.take j).map rowT).map V.str)) ∧ ∃ y4 y5 y6 y7 y8 y9 y10 y11 y12 y13, σ = [some (.ref a), some (.ref d), some (.ref tl), some (.ref l), y4, y5, y6, y7, y8, y9, y10, y11, y12, y13])
      ⟨BT.refl _ _, etl, _, _, _, _, _, _, _, _, _, _, rfl⟩ (fun j σ H' hj h => SqL.of (h.1 l _ (fun z => tll z.symm) elF)) ?_ ?_⟩
    · rintro j x σ G0 hx ⟨bt, et, y4, y5, y6, y7, y8, y9, y10, y11, y12, y13, rfl⟩
      obtain ⟨x, us, ps, rfl, eps, ex0, iv0⟩ := rws.at_ hx
      have ok := oks ps (List.mem_of_getElem? eps)
      have fw := ok.few
      have tp := bt.tps etl
      have ex := tp _ _ ex0
      have iv := iv0.tps tp
      have lj := (List.getElem?_eq_some_iff.mp eps).1
      obtain ⟨dd, sm, dp⟩ := row_data (K := K) (ps := ps) (fun q hq => by have := ok.v q hq; omega) (by omega)
      refine ⟨.ref x, rfl, .ref x, dd, _, _, rfl, dp _ _ _ ex iv, sm, by decide, by decide, ?_⟩
      refine ⟨.ref x, rfl, x, us, ps, rfl, ex, iv, ok.v, by omega, fun G1 u1 => ?_⟩
      have ex1 := u1 _ _ ex
      have iv1 := iv.same u1
      refine ⟨.str (rowT ps), rfl, .str (rowT ps), .ty "str", _, _, _, rfl, .ty "str", .base (.str _), kit_ty (a := "str") (b := "str") (r := true) (by decide +kernel), _, rfl, iteF ?_⟩
      refine ⟨.str (rowT ps), rfl, .ref x, rfl, x, us, ps, rfl, ex1, iv1, ok.v, by omega, fun G2 u2 => ?_⟩
      refine ⟨rfl, _, rfl, iteNS rfl ?_⟩
      have ex2 := u2 _ _ ex1
      have iv2 := iv1.same u2
      refine ⟨.ref x, rfl, x, us, ps, rfl, ex2, iv2, ok.v, by omega, fun G3 u3 => ?_⟩
      refine ⟨.str (rowT ps), rfl, rfl, _, rfl, iteNS rfl ?_⟩
      have ex3 := u3 _ _ ex2
      have iv3 := iv2.same u3
      refine ⟨.str (rowT ps), rfl, ps, rfl, ok.v, ok.asc, by omega, fun G4 t us' u4 et4 ivt => ?_⟩
      have ex4 := u4 _ _ ex3
      have iv4 := iv3.same u4
      refine ⟨.ref x, rfl, t, x, us', us, ps, rfl, et4, ex4, ivt, iv4, by omega, fun G5 u5 => ⟨_, rfl, iteF ?_⟩⟩
      have ex5 := u5 _ _ ex4
      have iv5 := iv4.same u5
      refine ⟨.ref x, rfl, .ref x, dd, _, _, rfl, dp _ _ _ ex5 iv5, sm, by decide, by decide, .str dd.shown, rfl, rfl, _, rfl, iteNS rfl ?_⟩
      refine ⟨.ref x, rfl, x, rfl, ⟨_, SqT.of ex5⟩, fun D nD => ?_⟩
      refine lcT (K := K) (a := x) (xs := us) (fun j H' ws => ws = []) nD (fun H' s => SqT.of (s _ _ ex5)) (by rw [iv5.length]; omega) (fun _ _ _ _ _ h => h) (fun j H' ws h => by rw [h]; exact Nat.zero_le _) (fun _ => rfl) ?_ ?_
      · rintro j2 v H' N acc hj sm2 eA sz r no yes
        obtain ⟨bb, lo, hi, rfl, ep, hb⟩ := iv5.get hj
        have b := ok.v _ (List.mem_of_getElem? ep)
        have hb' := sm2 _ _ hb
        have l1 : (Str.ofString (toString lo)).length ≤ 13 := numS_len b.1.1 (by omega : lo ≤ 1000000000000)
        have l2 : (Str.ofString (toString hi)).length ≤ 13 := numS_len (i := hi) (by omega) b.2
        have k1 : ("-" : Str).length = 1 := by decide +kernel
        have sz3 : sizeLine = 16777216 := by decide
        refine ⟨rfl, .ref bb, rfl, bb, (lo, hi), rfl, hb', b, ?_⟩
        refine ⟨.ref bb, rfl, bb, _, 0, .int lo, rfl, rfl, SqT.of hb', rfl, _, rfl, log2_tr b.1.1 (by omega), _, _, rfl, rfl, by omega, .ref bb, rfl, bb, _, 1, .int hi, rfl, rfl, SqT.of hb', rfl, _, rfl, log2_tr (by omega) (by omega), _, _, rfl, rfl, by rw [Str.length_append]; omega, rfl, _, rfl, iteNS rfl ?_⟩
        exact no H' (Same.refl _) r
      rintro G6 ws u6 eD r
      subst r
      refine ⟨by show 0 ≤ sizeLine; decide, fun z nz => ?_⟩
      have u7 := same_new (o := .lst ([] : List V)) nz
      have ez := upd_same (H := G6) (a := z) (o := .lst ([] : List V))
      generalize upd G6 z (.lst ([] : List V)) = G7 at *
      have u07 := u1.trans (u2.trans (u3.trans (u4.trans (u5.trans (u6.trans u7)))))
      refine ⟨D, z, [], rfl, rfl, SqL.of (u7 _ _ eD), SqL.of ez, _, rfl, iteF ?_⟩
      have et7 := u07 _ _ et
      refine ⟨.ref tl, rfl, .inl ⟨rfl, _, SqL.of et7⟩, .str (rowT ps), rfl, tl, _, _, rfl, rfl, et7, few_line (by rw [List.length_map, List.length_map, List.length_take]; omega), ?_, ?_, _, _, _, _, _, _, _, _, _, _, rfl⟩
      · exact (bt.trans (BT.same u07)).trans BT.upd
      · rw [upd_same, map_take_snoc eps, List.map_append]
        rfl
    rintro σ F1 ⟨bt, et, y4, y5, y6, y7, y8, y9, y10, y11, y12, y13, rfl⟩
    rw [lvs, List.take_length] at et
    have tp := bt.tps etl
    have rw1 := rws.tps tp
    have el1 := bt l _ (fun z => tll z.symm) elF
    have df1 : Dk F1 d c n := by
      obtain ⟨xs, e, al⟩ := df0.cells
      exact ⟨bt d _ (fun z => offT.1 z.symm) df0.top, xs, bt c _ (fun z => offT.2 z.symm) e, al⟩
    refine ⟨.ref l, rfl, l, vs, rfl, .inl (SqL.of el1), _, rfl, by omega, by omega, for_range (D := ⟨_, _, fun _ _ => True, fun _ _ => True⟩) (n := ((vs.length : Nat) : Int).toNat) (fun k σ H' => Same F1 H' ∧ ∃ y4 y5 y6 y7 y8 y9 y10 y11 y12 y13, σ = [some (.ref a), some (.ref d), some (.ref tl), some (.ref l), y4, y5, y6, y7, y8, y9, y10, y11, y12, y13])
      ⟨Same.refl _, _, _, _, _, _, _, _, _, _, _, rfl⟩ ?_ ?_⟩
    · rintro k σ G0 hk ⟨sm, y4, y5, y6, y7, y8, y9, y10, y11, y12, y13, rfl⟩
      have hk' : k < vs.length := by omega
      obtain ⟨xk, usk, psk, exk, epk, exk0, ivk0⟩ := rw1.at_ (List.getElem?_eq_getElem hk')
      have okk := oks psk (List.mem_of_getElem? epk)
      have kk : (0 : Int) + (k : Int) = ((k : Nat) : Int) := by omega
      have et0 := sm _ _ et
      have el0 := sm _ _ el1
      refine ⟨.ref tl, rfl, tl, rfl, ⟨_, SqL.of et0⟩, fun D1 nD1 => ?_⟩
      refine lcL (K := K) (a := tl) (xs := (rs.map rowT).map V.str) (fun j H' ws => ws = ((rs.take j).map fun r => decide (psk = r)).map V.bl) nD1 (fun H' s => SqL.of (s _ _ et0)) (by rw [List.length_map, List.length_map]; omega) (fun _ _ _ _ _ h => h) (fun j H' ws h => by rw [h, List.length_map, List.length_map, List.length_take]; omega) (fun _ => rfl) ?_ ?_
      · rintro j x H' N acc hj u1 eA sz r no yes
        obtain ⟨ps, eps, rfl⟩ : ∃ ps, rs[j]? = some ps ∧ x = .str (rowT ps) := by
          rw [List.getElem?_map, List.getElem?_map] at hj
          cases cc : rs[j]? with
          | none =>
            rw [cc] at hj
            cases hj
          | some p =>
            rw [cc] at hj
            cases hj
            exact ⟨p, rfl, rfl⟩
        have okp := oks ps (List.mem_of_getElem? eps)
        have atk : atI ((rs.map rowT).map V.str) (0 + (k : Int)) = some (.str (rowT psk)) := by
          rw [kk]
          refine atI_nat ?_
          rw [List.getElem?_map, List.getElem?_map, epk]
          rfl
        refine ⟨rfl, .ref tl, rfl, .int (0 + (k : Int)), rfl, tl, _, 0 + (k : Int), .str (rowT psk), rfl, rfl, SqL.of (u1 _ _ et0), atk, .str (rowT ps), rfl, rfl, yes _ _ (Same.refl _) ?_⟩
        rw [r, map_take_snoc eps, List.map_append]
        have z : decide (V.str (rowT psk) = V.str (rowT ps)) = decide (psk = ps) := by
          rw [Bool.eq_iff_iff, decide_eq_true_iff, decide_eq_true_iff]
          exact ⟨fun h => rowT_inj okk.v okp.v (V.str.inj h), fun h => by rw [h]⟩
        rw [z]
        rfl
      rintro G1 ws1 u1 eD1 r
      rw [List.length_map, List.length_map, List.take_length] at r
      subst r
      have el0' := u1 _ _ el0
      refine ⟨.ref l, rfl, l, rfl, ⟨_, SqL.of el0'⟩, fun D2 nD2 => ?_⟩
      refine lcL (K := K) (a := l) (xs := vs) (fun j H' ws => ws = ((rs.take j).map fun r => decide (psk = r)).map V.bl) nD2 (fun H' s => SqL.of (s _ _ el0')) (by omega) (fun _ _ _ _ _ h => h) (fun j H' ws h => by rw [h, List.length_map, List.length_map, List.length_take]; omega) (fun _ => rfl) ?_ ?_
      · rintro j x H' N acc hj u2 eA sz r no yes
        obtain ⟨x, us, ps, rfl, eps, ex0, iv0⟩ := rw1.at_ hj
        have t2 : Same F1 H' := sm.trans (u1.trans u2)
        have atk : atI vs (0 + (k : Int)) = some (.ref xk) := by
          rw [kk, ← exk]
          exact atI_nat (List.getElem?_eq_getElem hk')
        refine ⟨rfl, .ref l, rfl, .int (0 + (k : Int)), rfl, l, _, 0 + (k : Int), .ref xk, rfl, rfl, SqL.of (u2 _ _ el0'), atk, .ref x, rfl, .tuple (psk.map pairD), .tuple (ps.map pairD), .tup (SqT.of (t2 _ _ exk0)) (ivk0.same t2).dp, .tup (SqT.of (t2 _ _ ex0)) (iv0.same t2).dp, shaped_pairs _, shaped_pairs _, yes _ _ (Same.refl _) ?_⟩
        rw [r, map_take_snoc eps, List.map_append, show PyData.eqv (.tuple (psk.map pairD)) (.tuple (ps.map pairD)) = PyData.eqvAll (psk.map pairD) (ps.map pairD) from rfl, eqv_rows]
        rfl
      rintro G2 ws2 u2 eD2 r
      rw [lvs, List.take_length] at r
      subst r
      refine ⟨.list ((rs.map fun r => decide (psk = r)).map PyData.bool), .list ((rs.map fun r => decide (psk = r)).map PyData.bool), .lst (SqL.of (u2 _ _ eD1)) (dp_bls _), .lst (SqL.of eD2) (dp_bls _), shaped_bls _, shaped_bls _, _, rfl, ?_⟩
      rw [SeqAt.eqv_refl _ (SeqAt.canLay_of_shaped (shaped_bls _))]
      exact iteF ⟨sm.trans (u1.trans u2), _, _, _, _, _, _, _, _, _, _, rfl⟩
    rintro σ G0 ⟨sm, y4, y5, y6, y7, y8, y9, y10, y11, y12, y13, rfl⟩
    have dg0 := df1.kept sm
    have el0 := sm _ _ el1
    obtain ⟨v, hv⟩ : ∃ v, vs[vs.length - 1]? = some v := ⟨_, List.getElem?_eq_getElem (by omega)⟩
    obtain ⟨x, us, ps, rfl, eps, ex0, iv0⟩ := rw1.at_ hv
    have okp := oks ps (List.mem_of_getElem? eps)
    have fw := okp.few
    have exG := sm _ _ ex0
    have ivG := iv0.same sm
    have lus := ivG.length
    have sz3 : sizeLine = 16777216 := by decide
    refine ⟨.ref l, rfl, 1, rfl, l, vs, -1, .ref x, rfl, rfl, SqL.of el0, atI_end hv, x, us, rfl, SqT.of exG, fun m1 nm1 => ?_⟩
    have u1 := same_new (o := .tup us.reverse) nm1
    have em1 := upd_same (H := G0) (a := m1) (o := .tup us.reverse)
    generalize upd G0 m1 (.tup us.reverse) = G1 at *
    refine ⟨.ref l, rfl, 1, rfl, l, vs, -1, .ref x, rfl, rfl, SqL.of (u1 _ _ el0), atI_end hv, 2, rfl, slA_any (u1 _ _ exG) (fun G2 m2 u2 em2 => ?_)⟩
    obtain ⟨qs, ivq, qmem, ql⟩ := ivG.cut none (some 2)
    have lcq := ivq.length
    refine catA_any (u2 _ _ em1) em2 (by rw [List.length_reverse]; omega) (fun G3 m3 u3 em3 => ?_)
    have ivm := (ivG.reverse.append ivq).same (u1.trans (u2.trans u3))
    refine ⟨by show 2 ≤ sizeLine; decide, fun c1 nc1 => ?_⟩
    have u4 := same_new (o := .tup [V.int 7, .int 9]) nc1
    have ec1 := upd_same (H := G3) (a := c1) (o := .tup [V.int 7, .int 9])
    generalize upd G3 c1 (.tup [V.int 7, .int 9]) = G4 at *
    refine ⟨by show 2 ≤ sizeLine; decide, fun c2 nc2 => ?_⟩
    have u5 := same_new (o := .tup [V.int 7, .int 9]) nc2
    have ec2 := upd_same (H := G4) (a := c2) (o := .tup [V.int 7, .int 9])
    generalize upd G4 c2 (.tup [V.int 7, .int 9]) = G5 at *
    refine ⟨by show 2 ≤ sizeLine; decide, fun c3 nc3 => ?_⟩
    have u6 := same_new (o := .tup [V.ref c1, .ref c2]) nc3
    have ec3 := upd_same (H := G5) (a := c3) (o := .tup [V.ref c1, .ref c2])
    generalize upd G5 c3 (.tup [V.ref c1, .ref c2]) = G6 at *
    have u36 := u4.trans (u5.trans u6)
    refine catA_any (u36 _ _ em3) ec3 (by rw [List.length_append, List.length_reverse]; show _ + 2 ≤ _; omega) (fun G7 m7 u7 em7 => ?_)
    have iv79 : Ivs G6 [V.ref c1, .ref c2] [(7, 9), (7, 9)] := .cons ((u5.trans u6) _ _ ec1) (.cons (u6 _ _ ec2) .nil)
    have ivM := ((ivm.same u36).append iv79).same u7
    obtain ⟨M, eM⟩ : ∃ M, M = (ps.reverse ++ qs) ++ [((7 : Int), (9 : Int)), (7, 9)] := ⟨_, rfl⟩
    rw [← eM] at ivM
    have lM : M.length ≤ 82 := by
      rw [eM, List.length_append, List.length_append, List.length_reverse]
      show _ + 2 ≤ 82
      omega
    have okM : Vld0 M := fun q hq => by
      rw [eM] at hq
      rcases List.mem_append.mp hq with hq | hq
      · rcases List.mem_append.mp hq with hq | hq
        · exact okp.v q (List.mem_reverse.mp hq)
        · exact okp.v q (qmem q hq)
      · have e79 : q = (7, 9) := by
          simp only [List.mem_cons, List.not_mem_nil, or_false, or_self] at hq
          exact hq
        rw [e79]
        decide
    refine ⟨.ref m7, rfl, m7, _, M, rfl, em7, ivM, okM, by omega, fun G8 u8 => ?_⟩
    refine ⟨.ref m7, rfl, m7, _, M, rfl, u8 _ _ em7, ivM.same u8, okM, by omega, fun G9 u9 => ?_⟩
    refine ⟨rfl, _, rfl, iteNS rfl ?_⟩
    have u09 := u1.trans (u2.trans (u3.trans (u36.trans (u7.trans (u8.trans u9)))))
    have dg9 := dg0.kept u09
    refine ⟨.ref d, rfl, d, c, n, 100, rfl, dg9, by omega, by omega, by decide, by decide, fun L0 st k0 dl0 st0 st1 => ?_⟩
    refine ⟨40, rfl, by decide, by decide, fun D nD => ?_⟩
    refine lcK (n := 40) (per := 1) (fun i H' ws => ∃ zs, Ivs H' ws zs ∧ zs.length = i ∧ ∀ (j : Nat) (q : Int × Int), zs[j]? = some q → q.1 = st + j ∧ q.1 ≤ q.2 ∧ q.2 ≤ q.1 + 4) nD dl0 (by decide) (fun _ _ _ _ t h => by
      obtain ⟨zs, iv, r⟩ := h
      exact ⟨zs, iv.tps t, r⟩) (fun i H' ws h => by
      obtain ⟨zs, iv, r, _⟩ := h
      rw [iv.length, r]
      exact Nat.le_refl _) (fun _ => ⟨[], .nil, rfl, fun j q h => by simp at h⟩) ?_ ?_
    · rintro i H' N acc hi kp dk eA ⟨zs, iv, lz, at_⟩ yes
      refine ⟨rfl, .int st, rfl, .int (0 + (i : Int)), rfl, _, _, rfl, rfl, .int st, rfl, .int (0 + (i : Int)), rfl, _, _, rfl, rfl, .ref d, rfl, d, c, _, 5, rfl, dk, by omega, by omega, by decide, by decide, fun H'' r k2 dk2 r0 r1 => ?_⟩
      refine ⟨_, _, rfl, rfl, by show 2 ≤ sizeLine; decide, fun t nt => ?_⟩
      refine yes _ _ (k2.trans (Kp.same (same_new nt))) ((dk2.kept (same_new nt)).eq (by omega)) ⟨zs ++ [(st + (0 + (i : Int)), st + (0 + (i : Int)) + r)], (iv.tps ((k2.tps dk).trans (Tps.same (same_new nt)))).snoc upd_same, by rw [List.length_append, lz]; rfl, fun j q hq => ?_⟩
      by_cases cj : j < i
      · rw [List.getElem?_append_left (by omega)] at hq
        exact at_ j q hq
      · have lt := (List.getElem?_eq_some_iff.mp hq).1
        rw [List.length_append] at lt
        have ej : j = i := by
          have : [(st + (0 + (i : Int)), st + (0 + (i : Int)) + r)].length = 1 := rfl
          omega
        subst ej
        rw [List.getElem?_append_right (by omega), show j - zs.length = 0 by omega] at hq
        cases hq
        show st + (0 + (j : Int)) = st + j ∧ st + (0 + (j : Int)) ≤ st + (0 + (j : Int)) + r ∧ st + (0 + (j : Int)) + r ≤ st + (0 + (j : Int)) + 4
        omega
    rintro L1 ws k1 dl1 eD ⟨zs, iv, lz, at_⟩
    have okz : Vld0 zs := fun q hq => by
      obtain ⟨j, hj, ej⟩ := List.mem_iff_getElem.mp hq
      have := at_ j q (by rw [← ej]; exact List.getElem?_eq_getElem hj)
      omega
    have ascz : zs.Pairwise ltP := by
      rw [List.pairwise_iff_getElem]
      intro i j hi hj lt
      have a1 := at_ i _ (List.getElem?_eq_getElem hi)
      have a2 := at_ j _ (List.getElem?_eq_getElem hj)
      exact .inl (by omega)
    have lws := iv.length
    refine ⟨D, ws, rfl, .inl ⟨SqL.of eD, fun t nt => ?_⟩⟩
    have v1 := same_new (o := .tup ws) nt
    have et1 := upd_same (H := L1) (a := t) (o := .tup ws)
    generalize upd L1 t (.tup ws) = L2 at *
    have iv1 := iv.same v1
    refine ⟨.ref t, rfl, t, ws, zs, rfl, et1, iv1, okz, by omega, fun L3 v2 => ?_⟩
    refine ⟨.ref t, rfl, t, ws, zs, rfl, v2 _ _ et1, iv1.same v2, okz, by omega, fun L4 v3 => ?_⟩
    refine ⟨rfl, ?_⟩
    rw [decide_eq_true rfl]
    refine ⟨_, rfl, iteT ?_⟩
    have et4 := (v2.trans v3) _ _ et1
    have iv4 := iv1.same (v2.trans v3)
    refine ⟨.ref t, rfl, t, ws, zs, rfl, et4, iv4, okz, by omega, fun L5 v5 => ?_⟩
    refine ⟨zs, rfl, okz, ascz, by omega, fun L6 p us6 v6 ep6 iv6 => ?_⟩
    have v56 := v5.trans v6
    exact ⟨.ref t, rfl, p, t, us6, ws, zs, rfl, ep6, v56 _ _ et4, iv6, iv4.same v56, by omega, fun H' _ => q H'⟩

end
theorem all_mk {l : PySem.W.OpenLaw} {w : World} {K : PySem.W.Frag} {h : Heap} {mg : Str → Option Value} {fa f1 f2 f3 f4 f5 f6 f7 f8 f9 f10 f11 f12 f13 f14 f15 f16 f17 : Addr} (X : K.In h) (G : h.Ns mainGlobals mg) (hfa : mg "law" = some (.ref fa))
    {od1 an1 od2 an2 od3 an3 od4 an4 od5 an5 od6 an6 od7 an7 od8 an8 od9 an9 od10 an10 od11 an11 od12 an12 od13 an13 od14 an14 od15 an15 od16 an16 od17 an17 : Option Addr} {sl1 sl2 sl3 sl4 sl5 sl6 sl7 sl8 sl9 sl10 sl11 sl12 sl13 sl14 sl15 sl16 sl17 : Array (Option Value)} {oc1 kV1 dc1 pm1 cd1 ct1 oc2 kV2 dc2 pm2 cd2 ct2 oc3 kV3 dc3 pm3 cd3 ct3 oc4 kV4 dc4 pm4 cd4 ct4 oc5 kV5 dc5 pm5 cd5 ct5 oc6 kV6 dc6 pm6 cd6 ct6 oc7 kV7 dc7 pm7 cd7 ct7 oc8 kV8 dc8 pm8 cd8 ct8 oc9 kV9 dc9 pm9 cd9 ct9 oc10 kV10 dc10 pm10 cd10 ct10 oc11 kV11 dc11 pm11 cd11 ct11 oc12 kV12 dc12 pm12 cd12 ct12 oc13 kV13 dc13 pm13 cd13 ct13 oc14 kV14 dc14 pm14 cd14 ct14 oc15 kV15 dc15 pm15 cd15 ct15 oc16 kV16 dc16 pm16 cd16 ct16 oc17 kV17 dc17 pm17 cd17 ct17 : Value} {tk0 : Tok}
    (a1 : PySem.W.nsIn K mainGlobals "is_number" = some (some (.ref f1))) (l1 : K.lookup f1 = some ⟨oc1, od1, .func (PySem.W.fnOf "is_number" "is_number" (defArgs s_is_number) (defBody s_is_number) (defScope s_is_number) .none kV1 dc1 pm1 an1 cd1 ct1), sl1⟩) (c1 : PySem.W.codeIn K cd1 "is_number" = true) (k1 : PySem.W.keepIn K (.ref f1) = true)
    (a2 : PySem.W.nsIn K mainGlobals "is_position" = some (some (.ref f2))) (l2 : K.lookup f2 = some ⟨oc2, od2, .func (PySem.W.fnOf "is_position" "is_position" (defArgs s_is_position) (defBody s_is_position) (defScope s_is_position) .none kV2 dc2 pm2 an2 cd2 ct2), sl2⟩) (c2 : PySem.W.codeIn K cd2 "is_position" = true) (k2 : PySem.W.keepIn K (.ref f2) = true)
    (a3 : PySem.W.nsIn K mainGlobals "is_tuple_of" = some (some (.ref f3))) (l3 : K.lookup f3 = some ⟨oc3, od3, .func (PySem.W.fnOf "is_tuple_of" "is_tuple_of" (defArgs s_is_tuple_of) (defBody s_is_tuple_of) (defScope s_is_tuple_of) .none kV3 dc3 pm3 an3 cd3 ct3), sl3⟩) (c3 : PySem.W.codeIn K cd3 "is_tuple_of" = true) (k3 : PySem.W.keepIn K (.ref f3) = true)
    (a4 : PySem.W.nsIn K mainGlobals "is_interval" = some (some (.ref f4))) (l4 : K.lookup f4 = some ⟨oc4, od4, .func (PySem.W.fnOf "is_interval" "is_interval" (defArgs s_is_interval) (defBody s_is_interval) (defScope s_is_interval) .none kV4 dc4 pm4 an4 cd4 ct4), sl4⟩) (c4 : PySem.W.codeIn K cd4 "is_interval" = true) (k4 : PySem.W.keepIn K (.ref f4) = true)
    (a5 : PySem.W.nsIn K mainGlobals "interval_text" = some (some (.ref f5))) (l5 : K.lookup f5 = some ⟨oc5, od5, .func (PySem.W.fnOf "interval_text" "interval_text" (defArgs s_interval_text) (defBody s_interval_text) (defScope s_interval_text) .none kV5 dc5 pm5 an5 cd5 ct5), sl5⟩) (c5 : PySem.W.codeIn K cd5 "interval_text" = true) (k5 : PySem.W.keepIn K (.ref f5) = true)
    (a6 : PySem.W.nsIn K mainGlobals "joined_texts" = some (some (.ref f6))) (l6 : K.lookup f6 = some ⟨oc6, od6, .func (PySem.W.fnOf "joined_texts" "joined_texts" (defArgs s_joined_texts) (defBody s_joined_texts) (defScope s_joined_texts) .none kV6 dc6 pm6 an6 cd6 ct6), sl6⟩) (c6 : PySem.W.codeIn K cd6 "joined_texts" = true) (k6 : PySem.W.keepIn K (.ref f6) = true)
    (a7 : PySem.W.nsIn K mainGlobals "intervals_text" = some (some (.ref f7))) (l7 : K.lookup f7 = some ⟨oc7, od7, .func (PySem.W.fnOf "intervals_text" "intervals_text" (defArgs s_intervals_text) (defBody s_intervals_text) (defScope s_intervals_text) .none kV7 dc7 pm7 an7 cd7 ct7), sl7⟩) (c7 : PySem.W.codeIn K cd7 "intervals_text" = true) (k7 : PySem.W.keepIn K (.ref f7) = true)
    (a8 : PySem.W.nsIn K mainGlobals "parse_number" = some (some (.ref f8))) (l8 : K.lookup f8 = some ⟨oc8, od8, .func (PySem.W.fnOf "parse_number" "parse_number" (defArgs s_parse_number) (defBody s_parse_number) (defScope s_parse_number) .none kV8 dc8 pm8 an8 cd8 ct8), sl8⟩) (c8 : PySem.W.codeIn K cd8 "parse_number" = true) (k8 : PySem.W.keepIn K (.ref f8) = true)
    (a9 : PySem.W.nsIn K mainGlobals "parse_interval" = some (some (.ref f9))) (l9 : K.lookup f9 = some ⟨oc9, od9, .func (PySem.W.fnOf "parse_interval" "parse_interval" (defArgs s_parse_interval) (defBody s_parse_interval) (defScope s_parse_interval) .none kV9 dc9 pm9 an9 cd9 ct9), sl9⟩) (c9 : PySem.W.codeIn K cd9 "parse_interval" = true) (k9 : PySem.W.keepIn K (.ref f9) = true)
    (a10 : PySem.W.nsIn K mainGlobals "parse_intervals" = some (some (.ref f10))) (l10 : K.lookup f10 = some ⟨oc10, od10, .func (PySem.W.fnOf "parse_intervals" "parse_intervals" (defArgs s_parse_intervals) (defBody s_parse_intervals) (defScope s_parse_intervals) .none kV10 dc10 pm10 an10 cd10 ct10), sl10⟩) (c10 : PySem.W.codeIn K cd10 "parse_intervals" = true) (k10 : PySem.W.keepIn K (.ref f10) = true)
    (a11 : PySem.W.nsIn K mainGlobals "_law_deck" = some (some (.ref f11))) (l11 : K.lookup f11 = some ⟨oc11, od11, .func (PySem.W.fnOf "_law_deck" "_law_deck" (defArgs s_law_deck) (defBody s_law_deck) (defScope s_law_deck) .none kV11 dc11 pm11 an11 cd11 ct11), sl11⟩) (c11 : PySem.W.codeIn K cd11 "_law_deck" = true) (k11 : PySem.W.keepIn K (.ref f11) = true)
    (a12 : PySem.W.nsIn K mainGlobals "_law_draw" = some (some (.ref f12))) (l12 : K.lookup f12 = some ⟨oc12, od12, .func (PySem.W.fnOf "_law_draw" "_law_draw" (defArgs s_law_draw) (defBody s_law_draw) (defScope s_law_draw) .none kV12 dc12 pm12 an12 cd12 ct12), sl12⟩) (c12 : PySem.W.codeIn K cd12 "_law_draw" = true) (k12 : PySem.W.keepIn K (.ref f12) = true)
    (a13 : PySem.W.nsIn K mainGlobals "_law_same" = some (some (.ref f13))) (l13 : K.lookup f13 = some ⟨oc13, od13, .func (PySem.W.fnOf "_law_same" "_law_same" (defArgs s_law_same) (defBody s_law_same) (defScope s_law_same) .none kV13 dc13 pm13 an13 cd13 ct13), sl13⟩) (c13 : PySem.W.codeIn K cd13 "_law_same" = true) (k13 : PySem.W.keepIn K (.ref f13) = true)
    (a14 : PySem.W.nsIn K mainGlobals "_law_small" = some (some (.ref f14))) (l14 : K.lookup f14 = some ⟨oc14, od14, .func (PySem.W.fnOf "_law_small" "_law_small" (defArgs s_law_small) (defBody s_law_small) (defScope s_law_small) .none kV14 dc14 pm14 an14 cd14 ct14), sl14⟩) (c14 : PySem.W.codeIn K cd14 "_law_small" = true) (k14 : PySem.W.keepIn K (.ref f14) = true)
    (a15 : PySem.W.nsIn K mainGlobals "_law_moved" = some (some (.ref f15))) (l15 : K.lookup f15 = some ⟨oc15, od15, .func (PySem.W.fnOf "_law_moved" "_law_moved" (defArgs s_law_moved) (defBody s_law_moved) (defScope s_law_moved) .none kV15 dc15 pm15 an15 cd15 ct15), sl15⟩) (c15 : PySem.W.codeIn K cd15 "_law_moved" = true) (k15 : PySem.W.keepIn K (.ref f15) = true)
    (a16 : PySem.W.nsIn K mainGlobals "_law_text" = some (some (.ref f16))) (l16 : K.lookup f16 = some ⟨oc16, od16, .func (PySem.W.fnOf "_law_text" "_law_text" (defArgs s_law_text) (defBody s_law_text) (defScope s_law_text) .none kV16 dc16 pm16 an16 cd16 ct16), sl16⟩) (c16 : PySem.W.codeIn K cd16 "_law_text" = true) (k16 : PySem.W.keepIn K (.ref f16) = true)
    (a17 : PySem.W.nsIn K mainGlobals "law" = some (some (.ref f17))) (l17 : K.lookup f17 = some ⟨oc17, od17, .func (PySem.W.fnOf "law" "law" (defArgs s_law) (defBody s_law) (defScope s_law) .none kV17 dc17 pm17 an17 cd17 ct17), sl17⟩) (c17 : PySem.W.codeIn K cd17 "law" = true) (k17 : PySem.W.keepIn K (.ref f17) = true)
    (y0 : PySem.W.nsIn K mainGlobals "LAST_POSITION" = some (some (.int 1000000000000 tk0))) (z0 : PySem.W.nsIn K mainGlobals "abs" = some none) (z1 : PySem.W.nsIn K mainGlobals "bool" = some none) (z2 : PySem.W.nsIn K mainGlobals "enumerate" = some none) (z3 : PySem.W.nsIn K mainGlobals "int" = some none) (z4 : PySem.W.nsIn K mainGlobals "isinstance" = some none) (z5 : PySem.W.nsIn K mainGlobals "len" = some none) (z6 : PySem.W.nsIn K mainGlobals "range" = some none) (z7 : PySem.W.nsIn K mainGlobals "repr" = some none) (z8 : PySem.W.nsIn K mainGlobals "set" = some none) (z9 : PySem.W.nsIn K mainGlobals "sorted" = some none) (z10 : PySem.W.nsIn K mainGlobals "str" = some none) (z11 : PySem.W.nsIn K mainGlobals "tuple" = some none) (z12 : PySem.W.nsIn K mainGlobals "zip" = some none) :
    ∃ fd : FuncData, (∀ (s : Shared) (v : Value), BindsTo s fd ⟨[v], []⟩ [("_law_script", v)]) ∧ ∀ base : Heap, K.In base → base.Ns mainGlobals mg → (∃ mm, base.Ns sysModules mm) → FnG l.prog w K mg base 8 fa fd ["_law_script"] (sp_law K) := by
  have e := hfa.symm.trans (PySem.W.mg_of X G a17)
  cases e
  have F1 := fun_mk (st := s_is_number) l1 c1 k1
  have b1 := F1.binds (ps := ["value"]) fun _ _ _ _ _ _ us hl => match us, hl with | [_], _ => rfl
  have F2 := fun_mk (st := s_is_position) l2 c2 k2
  have b2 := F2.binds (ps := ["value"]) fun _ _ _ _ _ _ us hl => match us, hl with | [_], _ => rfl
  have F3 := fun_mk (st := s_is_tuple_of) l3 c3 k3
  have b3 := F3.binds (ps := ["value", "length"]) fun _ _ _ _ _ _ us hl => match us, hl with | [_, _], _ => rfl
  have F4 := fun_mk (st := s_is_interval) l4 c4 k4
  have b4 := F4.binds (ps := ["value"]) fun _ _ _ _ _ _ us hl => match us, hl with | [_], _ => rfl
  have F5 := fun_mk (st := s_interval_text) l5 c5 k5
  have b5 := F5.binds (ps := ["interval"]) fun _ _ _ _ _ _ us hl => match us, hl with | [_], _ => rfl
  have F6 := fun_mk (st := s_joined_texts) l6 c6 k6
  have b6 := F6.binds (ps := ["texts"]) fun _ _ _ _ _ _ us hl => match us, hl with | [_], _ => rfl
  have F7 := fun_mk (st := s_intervals_text) l7 c7 k7
  have b7 := F7.binds (ps := ["intervals"]) fun _ _ _ _ _ _ us hl => match us, hl with | [_], _ => rfl
  have F8 := fun_mk (st := s_parse_number) l8 c8 k8
  have b8 := F8.binds (ps := ["text"]) fun _ _ _ _ _ _ us hl => match us, hl with | [_], _ => rfl
  have F9 := fun_mk (st := s_parse_interval) l9 c9 k9
  have b9 := F9.binds (ps := ["word"]) fun _ _ _ _ _ _ us hl => match us, hl with | [_], _ => rfl
  have F10 := fun_mk (st := s_parse_intervals) l10 c10 k10
  have b10 := F10.binds (ps := ["text"]) fun _ _ _ _ _ _ us hl => match us, hl with | [_], _ => rfl
  have F11 := fun_mk (st := s_law_deck) l11 c11 k11
  have b11 := F11.binds (ps := ["_law_script"]) fun _ _ _ _ _ _ us hl => match us, hl with | [_], _ => rfl
  have F12 := fun_mk (st := s_law_draw) l12 c12 k12
  have b12 := F12.binds (ps := ["_law_deck_here", "_law_many"]) fun _ _ _ _ _ _ us hl => match us, hl with | [_, _], _ => rfl
  have F13 := fun_mk (st := s_law_same) l13 c13 k13
  have b13 := F13.binds (ps := ["_law_found", "_law_due"]) fun _ _ _ _ _ _ us hl => match us, hl with | [_, _], _ => rfl
  have F14 := fun_mk (st := s_law_small) l14 c14 k14
  have b14 := F14.binds (ps := ["_law_deck_here", "_law_most", "_law_span"]) fun _ _ _ _ _ _ us hl => match us, hl with | [_, _, _], _ => rfl
  have F15 := fun_mk (st := s_law_moved) l15 c15 k15
  have b15 := F15.binds (ps := ["_law_intervals", "_law_by"]) fun _ _ _ _ _ _ us hl => match us, hl with | [_, _], _ => rfl
  have F16 := fun_mk (st := s_law_text) l16 c16 k16
  have b16 := F16.binds (ps := ["_law_intervals"]) fun _ _ _ _ _ _ us hl => match us, hl with | [_], _ => rfl
  have F17 := fun_mk (st := s_law) l17 c17 k17
  have b17 := F17.binds (ps := ["_law_script"]) fun _ _ _ _ _ _ us hl => match us, hl with | [_], _ => rfl
  have T : Tx K mg _ _ _ _ _ _ _ _ _ _ _ _ _ _ _ _ _  _ _ _ _ _ _ _ _ _ _ _ _ _ _ _ _ _ tk0 := ⟨F1, b1, PySem.W.mg_of X G a1, F2, b2, PySem.W.mg_of X G a2, F3, b3, PySem.W.mg_of X G a3, F4, b4, PySem.W.mg_of X G a4, F5, b5, PySem.W.mg_of X G a5, F6, b6, PySem.W.mg_of X G a6, F7, b7, PySem.W.mg_of X G a7, F8, b8, PySem.W.mg_of X G a8, F9, b9, PySem.W.mg_of X G a9, F10, b10, PySem.W.mg_of X G a10, F11, b11, PySem.W.mg_of X G a11, F12, b12, PySem.W.mg_of X G a12, F13, b13, PySem.W.mg_of X G a13, F14, b14, PySem.W.mg_of X G a14, F15, b15, PySem.W.mg_of X G a15, F16, b16, PySem.W.mg_of X G a16, F17, b17, PySem.W.mg_of X G a17, PySem.W.mg_of X G y0, PySem.W.mg_none_of X G z0, PySem.W.mg_none_of X G z1, PySem.W.mg_none_of X G z2, PySem.W.mg_none_of X G z3, PySem.W.mg_none_of X G z4, PySem.W.mg_none_of X G z5, PySem.W.mg_none_of X G z6, PySem.W.mg_none_of X G z7, PySem.W.mg_none_of X G z8, PySem.W.mg_none_of X G z9, PySem.W.mg_none_of X G z10, PySem.W.mg_none_of X G z11, PySem.W.mg_none_of X G z12⟩
  exact ⟨_, fun s v => .of_eq rfl, fun base _ _ hM => ok_law T⟩
end L9
open PySem PySem.W PyProof.Rows
set_option maxHeartbeats 0 in
theorem PySem.Challenge.cw_fewspans_k50_interval_texts_holds : PySem.Challenge.rw_fewspans_k50_interval_texts.Holds := by
  w_on; o_law; k_head; (case hw => w_witness2)
  k_fill
  refine L9.quiet_walk (l := PySem.Challenge.rw_fewspans_k50_interval_texts) (n := 63) (k := 8) (x := "_law_script") (sp := fun w => L9.sp_law _) (by decide +kernel) rfl (by decide) rfl ⟨rfl, by decide, by decide⟩ (fun w h Y => PySem.W.kIn_of Y) ?F (fun _ _ a ns hl _ hS => ⟨a, ns, rfl, hS, hl, fun _ => rfl⟩)
  case F =>
    intro w mg fa h KX G hmg
    refine' L9.all_mk KX G hmg ?a1 ?l1 ?c1 ?k1 ?a2 ?l2 ?c2 ?k2 ?a3 ?l3 ?c3 ?k3 ?a4 ?l4 ?c4 ?k4 ?a5 ?l5 ?c5 ?k5 ?a6 ?l6 ?c6 ?k6 ?a7 ?l7 ?c7 ?k7 ?a8 ?l8 ?c8 ?k8 ?a9 ?l9 ?c9 ?k9 ?a10 ?l10 ?c10 ?k10 ?a11 ?l11 ?c11 ?k11 ?a12 ?l12 ?c12 ?k12 ?a13 ?l13 ?c13 ?k13 ?a14 ?l14 ?c14 ?k14 ?a15 ?l15 ?c15 ?k15 ?a16 ?l16 ?c16 ?k16 ?a17 ?l17 ?c17 ?k17 ?y0 ?z0 ?z1 ?z2 ?z3 ?z4 ?z5 ?z6 ?z7 ?z8 ?z9 ?z10 ?z11 ?z12
    (case a1 => k_is)
    (case l1 => k_is)
    (case c1 => k_is)
    (case k1 => k_is)
    (case a2 => k_is)
    (case l2 => k_is)
    (case c2 => k_is)
    (case k2 => k_is)
    (case a3 => k_is)
    (case l3 => k_is)
    (case c3 => k_is)
    (case k3 => k_is)
    (case a4 => k_is)
    (case l4 => k_is)
    (case c4 => k_is)
    (case k4 => k_is)
    (case a5 => k_is)
    (case l5 => k_is)
    (case c5 => k_is)
    (case k5 => k_is)
    (case a6 => k_is)
    (case l6 => k_is)
    (case c6 => k_is)
    (case k6 => k_is)
    (case a7 => k_is)
    (case l7 => k_is)
    (case c7 => k_is)
    (case k7 => k_is)
    (case a8 => k_is)
    (case l8 => k_is)
    (case c8 => k_is)
    (case k8 => k_is)
    (case a9 => k_is)
    (case l9 => k_is)
    (case c9 => k_is)
    (case k9 => k_is)
    (case a10 => k_is)
    (case l10 => k_is)
    (case c10 => k_is)
    (case k10 => k_is)
    (case a11 => k_is)
    (case l11 => k_is)
    (case c11 => k_is)
    (case k11 => k_is)
    (case a12 => k_is)
    (case l12 => k_is)
    (case c12 => k_is)
    (case k12 => k_is)
    (case a13 => k_is)
    (case l13 => k_is)
    (case c13 => k_is)
    (case k13 => k_is)
    (case a14 => k_is)
    (case l14 => k_is)
    (case c14 => k_is)
    (case k14 => k_is)
    (case a15 => k_is)
    (case l15 => k_is)
    (case c15 => k_is)
    (case k15 => k_is)
    (case a16 => k_is)
    (case l16 => k_is)
    (case c16 => k_is)
    (case k16 => k_is)
    (case a17 => k_is)
    (case l17 => k_is)
    (case c17 => k_is)
    (case k17 => k_is)
    (case y0 => k_is)
    (case z0 => k_is)
    (case z1 => k_is)
    (case z2 => k_is)
    (case z3 => k_is)
    (case z4 => k_is)
    (case z5 => k_is)
    (case z6 => k_is)
    (case z7 => k_is)
    (case z8 => k_is)
    (case z9 => k_is)
    (case z10 => k_is)
    (case z11 => k_is)
    (case z12 => k_is)
