import PyProof.Rows.All
import Wide.All
import OpenK.AllK
import Wide.FinOn
import PySem.Challenge.RW_fewspans_k51_texts_parsed
import HandS.ForMost
import HandS.Wide
import HandS.IsInst
import HandS.Conv
import HandS.TupLe
import HandS.Strs
import HandS.SetFor
import HandS.Style
import HandS.TupSets
import HandS.Keys
import HandS.Sort
import HandS.SortOrd
import HandS.SortRule
import HandS.SortKw
import HandS.SetBool
import HandS.TupAny
import HandS.Zip
import HandS.NoneIn
import HandS.Deep
import KE.GoesEnum
import KE.GoesMore
import HandS.Lambda
import HandS.CallLocal
import KE.DataCmp
import HandS.EndTab
import KE.KMinBuiltin
import HandS.TupMul
import PyProof.NeKinds
import HandS.Defaults
import HandS.MakeKwOnly
import HandS.OwnEq
import HandS.FStr
import KE.KCallOwn
import HandS.ExcIs
import HandS.ExcOwn
import HandS.CallSlots
import HandS.WordsExc
import HandS.TryMany
import HandS.Codes
import HandS.ExcInit
import KE.KExcIs
import KE.KExcInit
import KE.KExcLine
import HandS.ExcField
import HandS.Text
import PyProof.StrOps2
import HandS.StrMore
import HandS.Flow
set_option Elab.async false
set_option linter.all false
set_option maxRecDepth 100000
set_option maxHeartbeats 4000000
namespace L9
open PySem PySem.Spec PyProof.Rows L2

/-- a statement that is never come to -/
theorem ps_never {X : Cx} {st : Stmt} : PS X st (fun _ _ _ => False) := ⟨fun _ _ _ _ _ _ h => h.elim⟩

/-! ### defs that are run where no text-making of the machine is under way (repr, str of nested data ask for it) -/
abbrev Quiet (A : Around) : Prop := A.guards = some []
structure FnG (P : Program) (w : World) (K : PySem.W.Frag) (mg : Str → Option Value) (base : Heap) (k : Nat) (f : Addr) (fd : FuncData) (ps : List Str) (sp : Sp) : Prop where
  size : ∀ {vs H Q}, sp vs H Q E0 → vs.length = ps.length
  go : ∀ {A outer s H us vs Q}, Room k A → Quiet A → Env0 P w K mg base A outer s H → BindsTo s fd ⟨us, []⟩ (ps.zip us) → Vals vs us → sp vs H Q E0 →
    codeAny (model P w) A (.call (.ref f) ⟨us, []⟩) (CR CX0 outer P w H s Q E0) s
section
variable {P : Program} {w : World} {K : PySem.W.Frag} {mg : Str → Option Value} {base : Heap}
theorem FnG.of {x qual : Str} {st : Stmt} {f : Addr} {fd : FuncData} {N ps : List Str} {k : Nat} {sp : Sp} (F : Fun K x qual st f fd) (S : FnScope N ps (defScope st))
    (size : ∀ {vs H Q}, sp vs H Q E0 → vs.length = ps.length)
    (body : ∀ cdv A outer s H vs Q, Room k (A.deeper (envOfC qual (defScope st) s.heap.objs.size f cdv)) → Quiet (A.deeper (envOfC qual (defScope st) s.heap.objs.size f cdv)) → sp vs H Q E0 →
      ∃ t, PSs (cxOf CX0 P w K mg base N qual (defScope st) f cdv A outer s H E0).nox (defBody st) t ∧ t { nx := fun _ H' => Q .non H', rt := Q } (start N vs) H) :
    FnG P w K mg base (k + 1) f fd ps sp := by
  obtain ⟨oc, od, kV, doc, pm, an, cdv, ct, osl, rfl, look, code⟩ := F.ex
  constructor
  · exact size
  intro A outer s H us vs Q room quiet e0 bind rel want
  have inH : K.In s.heap := e0.mod.kin.keeps fun b o q => (e0.bs b o q).1
  have lim := e0.mod.nolimit.keeps (fun b o q => (e0.bs b o q).1)
  have kinds : ∀ y ∈ ps.zip us, (defScope st).names.lookup y.1 = some .local ∨ ((defScope st).names.lookup y.1 = some .cell ∧ ((cellsFrom (s.heap.objs.size + 1) (defScope st).names []).lookup y.1).isSome = true) := by
    rintro ⟨n, v⟩ hy
    have hn := (List.of_mem_zip hy).1
    cases S.par n hn with
    | inl q => exact Or.inl q
    | inr q => exact Or.inr ⟨q, PySem.W.cellsFrom_some _ _ _ (Or.inl q)⟩
  apply codeAny_call_function room.depth (inH _ _ look) rfl S.co S.gen rfl (PySem.W.codeRec_of inH code)
  apply bind
  apply wpAny_newFunctionEnv_cells S.kind kinds
  intro env he s1 x
  subst he
  refine And.intro (lim.keeps x.toInCall.keep) (codeAny_func ?_)
  obtain ⟨t, ht, hq⟩ := body cdv A outer s H vs Q (room.deeper _) quiet want
  have I := inv_start (CX := CX0) (E := E0) S room.hd e0 (size want) rel x
  apply wpAny_mono (ht.nox.run [] s1 (start N vs) H _ I hq)
  · intro fl s' hs
    cases fl with
    | ret u =>
      obtain ⟨v, σ', H', J, rv, q⟩ := hs
      exact Exists.intro v ⟨H', J.os, J.bare, J.base, J.hok, rv, q⟩
    | next =>
      obtain ⟨σ', H', J, q⟩ := hs
      exact Exists.intro V.non ⟨H', J.os, J.bare, J.base, J.hok, rfl, q⟩
    | brk => exact hs.elim fun _ h => h.elim fun _ h => h.2.elim
    | cont => exact hs.elim fun _ h => h.elim fun _ h => h.2.elim
  · intro e s' hs
    exact hs
end
section
variable {X : Cx} {k : Nat} {f : Addr} {fd : FuncData} {ps : List Str} {sp : Sp} {x : Str} {p pos : Pos} {e : Expr} {es : List Expr} {t : TA}
theorem pe_callG (F : FnG X.prog X.w X.K X.mg X.base k f fd ps sp) (room : Room k X.A) (quiet : Quiet X.A) (hg : Gl X x) (hm : X.mg x = some (.ref f)) (keep : PySem.W.keepIn X.K (.ref f) = true) (bind : Binds X.K fd ps [])
    (args : PA X (e :: es) t) (hdb : (x == ("__debug__" : Str)) = false := by decide) (star : starEach (e :: es) X.env = (false, eval e X.env) :: starEach es X.env := by rfl) (plain : (backTo pos (starEach es X.env)).any (·.1) = false := by rfl) :
    PE X (.Call (.Name x p) (e :: es) [] pos) (tCall sp [] E0 t) := by
  constructor
  intro pins s σ H Q I h
  apply wpAny_Call_Name_kw
  apply ld_glob I hg hm _ hdb
  apply PySem.W.callWith_K (h₀ := X.base) I.ok.mod.kin keep _ star plain
  apply thn (args.run pos pins s σ H _ I h)
  rintro us s1 ⟨vs, H1, I1, rel, q⟩
  refine And.intro I1.kIn ?_
  have q' : sp vs H1 Q E0 := by
    have z := q
    rw [List.append_nil] at z
    exact z
  have same : us.length = ps.length := rel.length.symm.trans (F.size q')
  have b := bind s1 us I1.kIn (by rw [List.append_nil]; exact same)
  rw [List.append_nil] at b
  apply wpAny_call
  apply codeAny_mono (F.go room quiet I1.env0 b rel q')
  intro r s' hr
  match r, hr with
  | .error _, hr => exact hr.elim
  | .ok (.ret u), hr => exact I1.after hr
  | .ok .next, hr => exact False.elim hr
  | .ok .brk, hr => exact False.elim hr
  | .ok .cont, hr => exact False.elim hr
end
/-! ### repr of data at any depth -/
structure Sm (n dp : Nat) (d : PyData) : Prop where
  shows : d.showable = true
  short : d.leavesShort 40 = true
  small : d.weight ≤ n
  flat : d.depth ≤ dp
theorem Sm.mono {n m dp dq : Nat} {d : PyData} (h : Sm n dp d) (h1 : n ≤ m) (h2 : dp ≤ dq) : Sm m dq d := ⟨h.shows, h.short, Nat.le_trans h.small h1, Nat.le_trans h.flat h2⟩
theorem Sm.none : Sm 0 0 .none := ⟨rfl, rfl, Nat.le_refl _, Nat.le_refl _⟩
theorem Sm.bool (b : Bool) : Sm 0 0 (.bool b) := ⟨rfl, rfl, Nat.le_refl _, Nat.le_refl _⟩
theorem log2_small {i : Int} (h : i.natAbs < 10 ^ 30) : i.natAbs.log2 < 100 := PySem.Flt.log2_lt_of (by decide) (Nat.lt_trans h (by decide))
theorem Sm.int {i : Int} (h : i.natAbs < 10 ^ 30) : Sm 100 0 (.int i) := by
  have l := log2_small h
  refine ⟨decide_eq_true (Nat.lt_trans l (by decide)), decide_eq_true ?_, ?_, Nat.le_refl _⟩
  · have q := int_text_length_le10 (a := i) (k := 30) (by decide) h
    show (Str.ofString (toString i)).length ≤ 40
    rw [PySem.ofString_length]
    exact Nat.le_trans q (by decide)
  · show (if i == 0 then 0 else i.natAbs.log2 + 1) ≤ 100
    split <;> omega
theorem smAll {n dp : Nat} : ∀ {ds : List PyData}, (∀ d ∈ ds, Sm n dp d) → PyData.showableAll ds = true ∧ PyData.leavesShortAll 40 ds = true ∧ PyData.weightAll ds ≤ ds.length * (n + 1) ∧ PyData.depthAll ds ≤ dp
  | [], _ => ⟨rfl, rfl, Nat.zero_le _, Nat.zero_le _⟩
  | d :: ds, h => by
    obtain ⟨a, b, c, e⟩ := smAll (ds := ds) fun x hx => h x (List.mem_cons_of_mem _ hx)
    have z := h d List.mem_cons_self
    refine ⟨?_, ?_, ?_, ?_⟩
    · show (d.showable && PyData.showableAll ds) = true
      rw [z.shows, a]
      rfl
    · show (d.leavesShort 40 && PyData.leavesShortAll 40 ds) = true
      rw [z.short, b]
      rfl
    · show d.weight + 1 + PyData.weightAll ds ≤ (ds.length + 1) * (n + 1)
      have := z.small
      rw [Nat.add_mul]
      omega
    · show max d.depth (PyData.depthAll ds) ≤ dp
      exact Nat.max_le.mpr ⟨z.flat, e⟩
theorem Sm.tup {n dp : Nat} {ds : List PyData} (h : ∀ d ∈ ds, Sm n dp d) : Sm (ds.length * (n + 1)) (dp + 1) (.tuple ds) :=
  let ⟨a, b, c, e⟩ := smAll h
  ⟨a, b, c, Nat.succ_le_succ e⟩
theorem Sm.lst {n dp : Nat} {ds : List PyData} (h : ∀ d ∈ ds, Sm n dp d) : Sm (ds.length * (n + 1)) (dp + 1) (.list ds) :=
  let ⟨a, b, c, e⟩ := smAll h
  ⟨a, b, c, Nat.succ_le_succ e⟩
theorem Sm.fits {n dp : Nat} {d : PyData} (h : Sm n dp d) (hn : n ≤ 300000) : d.shown.length ≤ sizeLine := by
  have q := PyData.shown_le 40 (by decide) d h.short
  have := h.small
  have e : sizeLine = 16777216 := by decide
  rw [e]
  omega
/-- data with dicts in it; its lists stand in the heap by themselves -/
def keyD : Key → PyData
  | .inl i => .int i
  | .inr x => .str x
mutual
inductive Dv (K : PySem.W.Frag) (H : Hp) : V → PyData → Prop
  | non : Dv K H .non .none
  | bl (b : Bool) : Dv K H (.bl b) (.bool b)
  | int (i : Int) : Dv K H (.int i) (.int i)
  | str (x : Str) : Dv K H (.str x) (.str x)
  | lst {a : Addr} {xs : List V} {ds : List PyData} : H a = some (.lst xs) → DvAll K H xs ds → Dv K H (.ref a) (.list ds)
  | tup {a : Addr} {xs : List V} {ds : List PyData} : H a = some (.tup xs) → DvAll K H xs ds → Dv K H (.ref a) (.tuple ds)
  | dic {a : Addr} {kvs : List (Key × V)} {ds : List PyData} : H a = some (.dK kvs) → DvAll K H (kvs.map (·.2)) ds → Dv K H (.ref a) (.dict ((kvs.map fun p => keyD p.1).zip ds))
inductive DvAll (K : PySem.W.Frag) (H : Hp) : List V → List PyData → Prop
  | nil : DvAll K H [] []
  | cons {v : V} {vs : List V} {d : PyData} {ds : List PyData} : Dv K H v d → DvAll K H vs ds → DvAll K H (v :: vs) (d :: ds)
end
theorem DvAll.length {K : PySem.W.Frag} {H : Hp} : ∀ {vs : List V} {ds : List PyData}, DvAll K H vs ds → vs.length = ds.length
  | _, _, .nil => rfl
  | _, _, .cons _ h => by rw [List.length_cons, List.length_cons, h.length]
theorem keys_read {P : Program} {w : World} {h : Heap} : ∀ {es : List DictEntry} {vs : List (Key × Value)}, Pairs (mixKind P w) es vs → ReadsAll h (es.map (·.key)) (vs.map fun p => keyD p.1) []
  | _, _, .nil => .nil
  | _, _, .cons (e := e) (kv := kv) hk _ r => by
    have one : Reads h e.key (keyD kv.1) [] := by
      rcases keyIs_shape hk with ⟨i, t, e1, e2⟩ | ⟨x, t, e1, e2⟩
      · rw [e1, e2]
        exact .int i t
      · rw [e1, e2]
        exact .str x t
    exact ReadsAll.cons one (keys_read r)
theorem vals_read {P : Program} {w : World} : ∀ {es : List DictEntry} {vs : List (Key × Value)}, Pairs (mixKind P w) es vs → es.map (·.val) = vs.map (·.2)
  | _, _, .nil => rfl
  | _, _, .cons _ hv r => by rw [List.map_cons, List.map_cons, hv, vals_read r]
theorem kv_vals : ∀ {kvs : List (Key × V)} {vs : List (Key × Value)}, KV kvs vs → Vals (kvs.map (·.2)) (vs.map (·.2)) ∧ (vs.map fun p => keyD p.1) = kvs.map fun p => keyD p.1
  | _, _, .nil => ⟨.nil, rfl⟩
  | _, _, .cons h r => by
    obtain ⟨a, b⟩ := kv_vals r
    refine ⟨.cons h.2 a, ?_⟩
    rw [List.map_cons, List.map_cons, b, h.1]
section
variable {X : Cx} {pins : List (Addr × Obj)} {σ : L2.St} {H : Hp} {s : Shared}
theorem Dv.reads (I : Inv X pins σ H s) (mods : ∃ mm, X.base.Ns sysModules mm) {v : V} {d : PyData} (h : Dv X.K H v d) : ∀ u : Value, RelV v u → ∃ as, Reads s.heap u d as ∧ sysModules ∉ as := by
  have free : H sysModules = none := by
    obtain ⟨mm, o, es, ep, e, _⟩ := mods
    exact (I.bs _ o e).2
  refine Dv.rec (K := X.K) (H := H) (motive_1 := fun v d _ => ∀ u : Value, RelV v u → ∃ as, Reads s.heap u d as ∧ sysModules ∉ as) (motive_2 := fun vs ds _ => ∀ us : List Value, Vals vs us → ∃ as, ReadsAll s.heap us ds as ∧ sysModules ∉ as) ?_ ?_ ?_ ?_ ?_ ?_ ?_ ?_ ?_ h
  · intro u r
    cases r
    exact ⟨_, .none, fun z => nomatch z⟩
  · intro b u r
    cases r
    exact ⟨_, .bool b, fun z => nomatch z⟩
  · intro i u r
    obtain ⟨t, rfl⟩ := r
    exact ⟨_, .int i t, fun z => nomatch z⟩
  · intro x u r
    obtain ⟨t, rfl⟩ := r
    exact ⟨_, .str x t, fun z => nomatch z⟩
  · intro a xs ds e _ ih u r
    cases r
    obtain ⟨_, its, n, rv, q⟩ := I.hok a _ e
    obtain ⟨as, ra, na⟩ := ih _ rv
    refine ⟨a :: as, .list q rfl rfl (by simpa using ra), fun z => ?_⟩
    rcases List.mem_cons.mp z with z | z
    · rw [← z, free] at e
      cases e
    · exact na z
  · intro a xs ds e _ ih u r
    cases r
    obtain ⟨_, its, rv, o, ho, hc, n, hd⟩ := I.hok a _ e
    obtain ⟨as, ra, na⟩ := ih _ rv
    exact ⟨as, .tuple ho hc hd (by simpa using ra), na⟩
  · intro a kvs ds e hall ih u r
    cases r
    obtain ⟨_, hne, vs, kv, o, es, ep, ho, ex, hd, _, prs, _⟩ := I.hok a _ e
    obtain ⟨rv, ek⟩ := kv_vals kv
    obtain ⟨as, ra, na⟩ := ih _ rv
    have len : (kvs.map fun p => keyD p.1).length = ds.length := by
      have z := hall.length
      rw [List.length_map] at z
      rw [List.length_map, z]
    refine ⟨_, .dict ho ex.1 hd (as := []) (bs := as) ?_ ?_, fun z => ?_⟩
    · rw [List.map_fst_zip (by omega), ← ek]
      exact keys_read prs
    · rw [List.map_snd_zip (by omega), vals_read prs]
      exact ra
    · rcases List.mem_cons.mp z with z | z
      · rw [← z] at hne
        exact absurd hne (by decide)
      · exact na z
  · intro us r
    cases r
    exact ⟨_, .nil, fun z => nomatch z⟩
  · intro v vs d ds _ _ ih1 ih2 us r
    cases r with
    | cons r1 r2 =>
      obtain ⟨as, ra, na⟩ := ih1 _ r1
      obtain ⟨bs, rb, nb⟩ := ih2 _ r2
      refine ⟨_, .cons ra rb, fun z => ?_⟩
      rcases List.mem_append.mp z with z | z
      · exact na z
      · exact nb z
theorem call_reprV (mods : ∃ mm, X.base.Ns sysModules mm) (quiet : Quiet X.A) (units : X.A.units + 64 < cLine) : CallR X (.builtin "repr")
    (fun xs H Q => ∃ v d n dp, xs = [v] ∧ Dv X.K H v d ∧ Sm n dp d ∧ n ≤ 300000 ∧ dp ≤ 60 ∧ Q (.str d.shown) H) := by
  intro pins s σ H xs us Q I r h
  obtain ⟨v, d, n, dp, rfl, hd, sm, hn, hdp, q⟩ := h
  obtain ⟨u, rfl, ru⟩ := vals1 r
  have fits := sm.fits hn
  have flat := sm.flat
  obtain ⟨as, rd, off⟩ := Dv.reads I mods hd _ ru
  cases hd with
  | non =>
    cases ru
    exact PySem.P.repr_of_none ⟨.str _, H, I.tok _, ⟨_, rfl⟩, q⟩
  | bl b =>
    cases ru
    exact PySem.P.repr_of_bool ⟨.str _, H, I.tok _, ⟨_, rfl⟩, q⟩
  | int i =>
    obtain ⟨t, rfl⟩ := ru
    exact PySem.P.repr_of_int (of_decide_eq_true sm.shows) ⟨.str _, H, I.tok _, ⟨_, rfl⟩, q⟩
  | str x =>
    obtain ⟨t, rfl⟩ := ru
    exact PySem.P.repr_of_str ⟨.str _, H, I.tok _, ⟨_, rfl⟩, q⟩ fits
  | _ =>
    cases ru
    exact repr_of_reads' rd sm.shows (fun _ => off) quiet (by omega) (fun _ _ e => e) (fun h' t tk more => ⟨.str _, H, I.kept more, ⟨_, rfl⟩, q⟩) fits
end
theorem Dp.noDict {K : PySem.W.Frag} {H : Hp} {v : V} {d : PyData} (h : Dp K H v d) : d.hasDict = false := by
  refine Dp.rec (K := K) (H := H) (motive_1 := fun v d _ => d.hasDict = false) (motive_2 := fun vs ds _ => PyData.hasDictAll ds = false) ?_ ?_ ?_ ?_ ?_ ?_ ?_ ?_ h
  all_goals intros
  all_goals simp_all [PyData.hasDict, PyData.hasDictAll]
section
variable {X : Cx}
theorem call_reprD (quiet : Quiet X.A) (units : X.A.units + 64 < cLine) : CallR X (.builtin "repr")
    (fun xs H Q => ∃ v d n dp, xs = [v] ∧ Dp X.K H v d ∧ Sm n dp d ∧ n ≤ 300000 ∧ dp ≤ 60 ∧ Q (.str d.shown) H) := by
  intro pins s σ H xs us Q I r h
  obtain ⟨v, d, n, dp, rfl, hd, sm, hn, hdp, q⟩ := h
  obtain ⟨u, rfl, ru⟩ := vals1 r
  have fits := sm.fits hn
  have flat := sm.flat
  obtain ⟨as, rd⟩ := Dp.reads I d v u hd ru
  cases hd with
  | non =>
    cases ru
    exact PySem.P.repr_of_none ⟨.str _, H, I.tok _, ⟨_, rfl⟩, q⟩
  | bl b =>
    cases ru
    exact PySem.P.repr_of_bool ⟨.str _, H, I.tok _, ⟨_, rfl⟩, q⟩
  | int i =>
    obtain ⟨t, rfl⟩ := ru
    exact PySem.P.repr_of_int (of_decide_eq_true sm.shows) ⟨.str _, H, I.tok _, ⟨_, rfl⟩, q⟩
  | str x =>
    obtain ⟨t, rfl⟩ := ru
    exact PySem.P.repr_of_str ⟨.str _, H, I.tok _, ⟨_, rfl⟩, q⟩ fits
  | lst h1 h2 =>
    cases ru
    exact repr_of_reads' rd sm.shows (PyData.noDict_hsm (Dp.noDict (Dp.lst h1 h2))) quiet (by omega) (fun _ _ e => e) (fun h' t tk more => ⟨.str _, H, I.kept more, ⟨_, rfl⟩, q⟩) fits
  | tup h1 h2 =>
    cases ru
    exact repr_of_reads' rd sm.shows (PyData.noDict_hsm (Dp.noDict (Dp.tup h1 h2))) quiet (by omega) (fun _ _ e => e) (fun h' t tk more => ⟨.str _, H, I.kept more, ⟨_, rfl⟩, q⟩) fits
end
/-! ### the end of a law row whose def is of the quiet kind -/
theorem quiet_law {P : Program} {w : World} {K : PySem.W.Frag} {mg mb : Str → Option Value} {k : Nat} {fa a : Addr} {fd : FuncData} {x : Str} {sp : Sp} {s₁ : Shared} {vs : List Value} {ns : List Int}
    (inK : K.In s₁.heap) (glob : s₁.heap.Ns mainGlobals mg) (blt : s₁.heap.Ns builtinsNs mb) (bltIs : ∀ y : Str, y ≠ "__name__" → mb y = bootBuiltins y) (lim : s₁.heap.NoLimit) (gens : s₁.gens = #[]) (mods : ∃ mm, s₁.heap.Ns sysModules mm)
    (here : s₁.heap.get? a = some { cls := .type "list", data := .seq vs.toArray }) (whole : IntsAre vs ns) (few : ns.length ≤ sizeLine) (room : Room k callerA)
    (F : ∀ base : Heap, K.In base → base.Ns mainGlobals mg → (∃ mm, base.Ns sysModules mm) → FnG P w K mg base k fa fd [x] sp) (bind : ∀ (s : Shared) (u : Value), BindsTo s fd ⟨[u], []⟩ [(x, u)])
    (want : ∀ H : Hp, Only H → SqL K H a (ns.map V.int) → sp [.ref a] H (fun v _ => v = .bl true) E0) :
    codeAny (model P w) callerA (.call (.ref fa) ⟨[.ref a], []⟩) (fun r s' => r = .ok (.ret (.bool true)) ∧ OldK s₁.heap s'.heap ∧ s'.os = s₁.os ∧ AllBare s'.gens) s₁ := by
  have rel := vals_ints whole
  -- H: the script alone, or nothing
  have main : ∀ H : Hp, Only H → SqL K H a (ns.map V.int) → HOk P w H s₁.heap → (∀ b u, H b = some u → b = a ∧ K.lookup b = none) →
      codeAny (model P w) callerA (.call (.ref fa) ⟨[.ref a], []⟩) (fun r s' => r = .ok (.ret (.bool true)) ∧ OldK s₁.heap s'.heap ∧ s'.os = s₁.os ∧ AllBare s'.gens) s₁ := by
    intro H only sq ok apart
    have untold : ∀ {b o}, s₁.heap.get? b = some o → (b = a → False) → H b = none := by
      intro b o e ne
      cases q : H b with
      | none => rfl
      | some u => exact (ne (apart b u q).1).elim
    have ns1 : ∀ {b m}, s₁.heap.Ns b m → (hidT s₁.heap H).Ns b m := by
      rintro b m ⟨o, es, ep, e, d, r⟩
      refine ⟨o, es, ep, hidT_get e (untold e fun z => ?_), d, r⟩
      subst z
      rw [here] at e
      cases e
      cases d
    have kIn : K.In (hidT s₁.heap H) := by
      intro b o e
      apply hidT_get (inK b o e)
      cases q : H b with
      | none => rfl
      | some u =>
        have z := (apart b u q).2
        rw [e] at z
        cases z
    have lim1 : (hidT s₁.heap H).NoLimit := by
      obtain ⟨mc, h1, h2⟩ := lim
      exact ⟨mc, ns1 h1, h2⟩
    have e0 : Env0 P w K mg (hidT s₁.heap H) callerA [] s₁ H := {
      frames := rfl, mod := ⟨kIn, ns1 glob, ⟨mb, ns1 blt, bltIs⟩, lim1⟩, bs := fun _ _ e => of_hidT e, bsz := Nat.le_of_eq (hidT_size _ _), funs := True.intro, frf := (fun _ hb => nomatch hb), hok := ok, bare := .of_eq gens }
    apply codeAny_mono ((F _ kIn (ns1 glob) (mods.elim fun mm h => ⟨mm, ns1 h⟩)).go (us := [.ref a]) (vs := [.ref a]) room rfl e0 (bind s₁ _) (.cons rfl .nil) (want H only sq))
    intro r s' hr
    match r, hr with
    | .error _, hr => exact hr.elim
    | .ok .next, hr => exact False.elim hr
    | .ok .brk, hr => exact False.elim hr
    | .ok .cont, hr => exact False.elim hr
    | .ok (.ret u), hr =>
      obtain ⟨v, H', os, bare, un, ok', rv, q⟩ := hr
      cases (show v = V.bl true from q)
      cases (show u = Value.bool true from rv)
      refine ⟨rfl, OldK.of_keep ?_, os, bare⟩
      intro b o e
      cases only b with
      | inl n => exact un.keep b o e n (fun z => nomatch z) (fun z => nomatch z)
      | inr n =>
        obtain ⟨ob, xs, z⟩ := n
        have e1 := (ok b _ z).1
        have e2 := (ok' b _ (un.frzs b ob _ z)).1
        rw [e] at e1
        cases e1
        exact e2
  have small : (ns.map V.int).length ≤ sizeLine := by rw [List.length_map]; exact few
  cases known : K.lookup a with
  | some o =>
    have e := inK a o known
    rw [here] at e
    cases e
    have sz : vs.length ≤ sizeLine := by rw [← rel.length]; exact small
    exact main (fun _ => none) (fun _ => .inl rfl) (.inr ⟨_, vs.toArray, _, known, rfl, rfl, rfl, by simpa using sz, by simpa using rel⟩) (fun _ _ z => nomatch z) (fun _ _ z => nomatch z)
  | none =>
    have at1 : ∀ {b u}, (if b = a then some (HO.frz { cls := .type "list", data := .seq vs.toArray } (.lst (ns.map V.int))) else none) = some u → b = a := by
      intro b u z
      by_cases hb : b = a
      · exact hb
      · rw [if_neg hb] at z
        cases z
    refine main (fun b => if b = a then some (.frz { cls := .type "list", data := .seq vs.toArray } (.lst (ns.map V.int))) else none) (fun b => ?_) (.inl (.inr ⟨{ cls := .type "list", data := .seq vs.toArray }, if_pos rfl⟩)) (fun b u z => ?_) (fun b u z => ?_)
    · by_cases hb : b = a
      · exact .inr ⟨_, _, if_pos hb⟩
      · exact .inl (if_neg hb)
    · have hb := at1 z
      subst hb
      have z2 := (if_pos rfl).symm.trans z
      cases z2
      exact ⟨here, small, vs, _, rel, here⟩
    · have hb := at1 z
      subst hb
      exact ⟨rfl, known⟩
theorem quiet_walk {l : PySem.W.OpenLaw} {n k : Nat} {q : Program} {loose : List Str} {XP : (Str → Option Value) → Heap → Prop} {YP : World → Heap → Prop} {d : DefRec} {K : Params → PySem.W.Frag} {sp : World → Sp} {x : Str}
    (noImport : importsNone q = true) (most : l.most = some n) (n2 : n ≤ sizeLine) (defaults : d.params.defaults = []) (room : Room k callerA) (hY : ∀ (w : World) (h : Heap), YP w h → (K w.params).In h)
    (F : ∀ (w : World) (mg : Str → Option Value) (fa : Addr) (h : Heap), (K w.params).In h → h.Ns mainGlobals mg → mg d.name = some (.ref fa) →
      ∃ fd : FuncData, (∀ (s : Shared) (u : Value), BindsTo s fd ⟨[u], []⟩ [(x, u)]) ∧ ∀ base : Heap, (K w.params).In base → base.Ns mainGlobals mg → (∃ mm, base.Ns sysModules mm) → FnG l.prog w (K w.params) mg base k fa fd [x] (sp w))
    (want : ∀ (w : World) (H : Hp) (a : Addr) (ns : List Int), ns.length ≤ n → Only H → SqL (K w.params) H a (ns.map V.int) → sp w [.ref a] H (fun v _ => v = .bl true) E0) :
    PySem.W.WalkO q loose XP YP l.row.toRowW d [] (fun f vs => PySem.call f vs) := by
  apply Att.attach_call most defaults
  intro w s₀ s₁ mg mb fa o pm cd doc a vs ns G Y ho hd hcd hmg hobj hints hlen hg
  obtain ⟨fd, hb, hF⟩ := F w mg fa _ (hY w _ Y) G.T.g hmg
  exact quiet_law (hY w _ Y) G.T.g G.T.b G.T.builtins G.T.nolimit hg ((G.T.seer noImport).mods.elim fun mm h => ⟨mm, h.1⟩) hobj hints (Nat.le_trans hlen n2) room hF hb fun H o1 s1 => want w H a ns hlen o1 s1

/-! ### a op1 b op2 c op3 .. : chains of any length -/
section
variable {X : Cx}
structure PCh (X : Cx) (ops : List CmpOp) (es : List Expr) (t : V → TE) : Prop where
  run : ∀ (pos : Pos) (pins : List (Addr × Obj)) (s : Shared) (σ : L2.St) (H : Hp) (Q : VK) (x : V) (v : Value), Inv X pins σ H s → RelV x v → t x σ H Q → wpAny (model X.prog X.w) X.A (compareChain pos v ops (evalEach es X.env)) (EP X pins σ Q) X.xe s
structure PChT (X : Cx) (ops : List CmpOp) (es : List Expr) (t : V → TE) : Prop where
  run : ∀ (pos : Pos) (pins : List (Addr × Obj)) (s : Shared) (σ : L2.St) (H : Hp) (Q : Bool → Hp → Prop) (x : V) (v : Value), Inv X pins σ H s → RelV x v → (t x σ H fun y H' => ∃ k, y = .bl k ∧ Q k H') → wpAny (model X.prog X.w) X.A (testChain pos v ops (evalEach es X.env)) (TP X pins σ Q) X.xe s
def tLast (r : R2) (tb : TE) : V → TE := fun x σ H Q => tb σ H fun y H2 => r x y H2 Q
def tLink (r : R2) (tb : TE) (rest : V → TE) : V → TE := fun x σ H Q => tb σ H fun y H2 => r x y H2 fun z H3 => ∃ k, z = .bl k ∧ (if k = true then rest y σ H3 Q else Q (.bl false) H3)
def tCh (ta : TE) (rest : V → TE) : TE := fun σ H Q => ta σ H fun x H1 => rest x σ H1 Q
theorem pch_last {op : CmpOp} {r : R2} {b : Expr} {tb : TE} (ho : OpR X (compareOp op) r) (hb : PE X b tb) : PCh X [op] [b] (tLast r tb) :=
  ⟨fun pos pins s σ H Q x v I rx h => chain_last (thn (hb.run pins s σ H _ I h) fun u s2 ⟨y, H2, I2, r2, q2⟩ => ho pins s2 σ H2 x y v u Q I2 rx r2 q2)⟩
theorem pch_link {op op' : CmpOp} {ops : List CmpOp} {r : R2} {b b' : Expr} {bs : List Expr} {tb : TE} {rest : V → TE} (ho : OpR X (compareOp op) r) (hb : PE X b tb) (hr : PCh X (op' :: ops) (b' :: bs) rest) : PCh X (op :: op' :: ops) (b :: b' :: bs) (tLink r tb rest) := by
  refine ⟨fun pos pins s σ H Q x v I rx h => ?_⟩
  refine chain_link (thn (hb.run pins s σ H _ I h) fun u s2 ⟨y, H2, I2, r2, q2⟩ => thn (ho pins s2 σ H2 x y v u _ I2 rx r2 q2) fun d s3 ⟨z, H3, I3, r3, k, e, q3⟩ => ?_)
  subst e
  cases r3
  refine wpAny_truthy_bool ?_
  cases k with
  | false => exact ite_ff ⟨.bl false, H3, I3, rfl, q3⟩
  | true => exact ite_tt (hr.run pos pins s3 σ H3 Q y u I3 r2 q3)
theorem pe_chN {op op' : CmpOp} {ops : List CmpOp} {a b b' : Expr} {bs : List Expr} {pos : Pos} {ta : TE} {rest : V → TE} (ha : PE X a ta) (hr : PCh X (op :: op' :: ops) (b :: b' :: bs) rest)
    (hm : lastMarks (op :: op' :: ops) (b :: b' :: bs) = false := by with_unfolding_all rfl) : PE X (.Compare a (op :: op' :: ops) (b :: b' :: bs) pos) (tCh ta rest) :=
  ⟨fun pins s σ H Q I h => Compare_chain (thn (ha.run pins s σ H _ I h) fun v s1 ⟨x, H1, I1, r1, q1⟩ => hr.run pos pins s1 σ H1 Q x v I1 r1 q1) hm⟩
theorem pchT_last {op : CmpOp} {r : R2} {b : Expr} {tb : TE} (ho : OpR X (compareOp op) r) (hb : PE X b tb) : PChT X [op] [b] (tLast r tb) := by
  refine ⟨fun pos pins s σ H Q x v I rx h => ?_⟩
  refine test_last (thn (hb.run pins s σ H _ I h) fun u s2 ⟨y, H2, I2, r2, q2⟩ => thn (ho pins s2 σ H2 x y v u _ I2 rx r2 q2) fun d s3 ⟨z, H3, I3, r3, k, e, q3⟩ => ?_)
  subst e
  cases r3
  exact wpAny_truthy_bool ⟨H3, I3, q3⟩
theorem pchT_link {op op' : CmpOp} {ops : List CmpOp} {r : R2} {b b' : Expr} {bs : List Expr} {tb : TE} {rest : V → TE} (ho : OpR X (compareOp op) r) (hb : PE X b tb) (hr : PChT X (op' :: ops) (b' :: bs) rest) : PChT X (op :: op' :: ops) (b :: b' :: bs) (tLink r tb rest) := by
  refine ⟨fun pos pins s σ H Q x v I rx h => ?_⟩
  refine test_link (thn (hb.run pins s σ H _ I h) fun u s2 ⟨y, H2, I2, r2, q2⟩ => thn (ho pins s2 σ H2 x y v u _ I2 rx r2 q2) fun d s3 ⟨z, H3, I3, r3, k, e, q3⟩ => ?_)
  subst e
  cases r3
  refine wpAny_truthy_bool ?_
  cases k with
  | false =>
    obtain ⟨k', e', q'⟩ := q3
    cases e'
    exact ite_ff ⟨H3, I3, q'⟩
  | true => exact ite_tt (hr.run pos pins s3 σ H3 Q y u I3 r2 q3)
theorem pt_chN {op op' : CmpOp} {ops : List CmpOp} {a b b' : Expr} {bs : List Expr} {pos : Pos} {ta : TE} {rest : V → TE} (ha : PE X a ta) (hr : PChT X (op :: op' :: ops) (b :: b' :: bs) rest)
    (hm : lastMarks (op :: op' :: ops) (b :: b' :: bs) = false := by with_unfolding_all rfl) : PT X (.Compare a (op :: op' :: ops) (b :: b' :: bs) pos) (tTest (tCh ta rest)) :=
  ⟨fun pins s σ H Q I h => isTrue_chain (thn (ha.run pins s σ H _ I h) fun v s1 ⟨x, H1, I1, r1, q1⟩ => hr.run pos pins s1 σ H1 Q x v I1 r1 q1) hm⟩
end

/-! ### t[::-1] of a tuple; xs == [], xs != [] of a list that may hold anything -/
section
open HT
variable {prog : Program} {w : World} {A : Around} {E : Value → Shared → Prop} {s : Shared}
theorem adjust_rev (n : Nat) : Builtin.Slice.sliceAdjust none none (-1) (n : Int) = ((n : Int) - 1, -1) := by
  unfold Builtin.Slice.sliceAdjust
  have h1 : (-1 : Int) < 0 := by decide
  simp only [h1, if_true]
theorem places_rev (n : Nat) : Builtin.Slice.slicePlaces ((n : Int) - 1) (-1) (-1) = n := by
  unfold Builtin.Slice.slicePlaces
  have h1 : ¬ ((-1 : Int) > 0) := by decide
  simp only [h1, if_false]
  have h2 : (-(-1) : Int) = 1 := by decide
  rw [h2, Int.ediv_one]
  split <;> omega
theorem sliceApplied_rev {sl : Addr} {vl vu vs : Value} {n : Nat} {Q : Int × Int × Nat → Shared → Prop} (hs : s.heap.IsSliceOf sl vl vu vs) (pl : IsPart vl none) (pu : IsPart vu none) (pt : IsPart vs (some (-1)))
    (h : Q ((n : Int) - 1, -1, n) s) : wpAny (model prog w) A (Builtin.Slice.sliceApplied (.ref sl) (pure (n : Int))) Q E s := by
  obtain ⟨os, hos, hcs, hds⟩ := id hs
  unfold Builtin.Slice.sliceApplied Builtin.Slice.sliceFields
  refine wpAny_bind (wpAny_bind (wpAny_field hos hds (x := vl) rfl (wpAny_bind (wpAny_field hos hds (x := vu) rfl (wpAny_bind (wpAny_field hos hds (x := vs) rfl (wpAny_pure ?_)))))))
  refine wpAny_bind (slicePart_ pt ?_)
  show wpAny _ _ (if ((-1 : Int) == 0) = true then _ else _) _ _ s
  rw [if_neg (by decide)]
  refine wpAny_bind (slicePart_ pl (wpAny_bind (slicePart_ pu (wpAny_bind (wpAny_pure ?_)))))
  show wpAny _ _ (match Builtin.Slice.sliceAdjust none none (-1) (n : Int) with | (lo, hi) => pure (lo, (-1 : Int), Builtin.Slice.slicePlaces lo hi (-1))) _ _ s
  rw [adjust_rev]
  show wpAny _ _ (pure ((n : Int) - 1, (-1 : Int), Builtin.Slice.slicePlaces ((n : Int) - 1) (-1) (-1))) _ _ s
  rw [places_rev]
  exact wpAny_pure h
theorem pick_rev (xs : Array Value) : ((List.range xs.size).filterMap fun (k : Nat) => xs[((xs.size : Int) - 1 + (k : Int) * (-1)).toNat]?) = xs.toList.reverse := by
  have e : ∀ m : Nat, m ≤ xs.size → ((List.range m).filterMap fun (k : Nat) => xs[((xs.size : Int) - 1 + (k : Int) * (-1)).toNat]?) = xs.toList.reverse.take m := by
    intro m
    induction m with
    | zero => intro _; rfl
    | succ m ih =>
      intro hm
      rw [List.range_succ, List.filterMap_append, ih (by omega), List.take_add_one]
      congr 1
      have e1 : ((xs.size : Int) - 1 + (m : Int) * (-1)).toNat = xs.size - 1 - m := by omega
      have e2 : xs.toList.reverse[m]? = xs[xs.size - 1 - m]? := by
        rw [List.getElem?_reverse (by rw [Array.length_toList]; omega), Array.length_toList, Array.getElem?_toList]
      rw [e2]
      have lt : xs.size - 1 - m < xs.size := by omega
      simp only [List.filterMap_cons, List.filterMap_nil, e1]
      rw [Array.getElem?_eq_getElem lt]
      rfl
  rw [e _ (Nat.le_refl _), List.take_of_length_le (by rw [List.length_reverse, Array.length_toList]; exact Nat.le_refl _)]
theorem getItem_tuple_rev {t sl : Addr} {items : Array Value} {vl vu vs : Value} {Q : Value → Shared → Prop} (ht : IsTup s.heap t items) (hs : s.heap.IsSliceOf sl vl vu vs) (pl : IsPart vl none) (pu : IsPart vu none) (pt : IsPart vs (some (-1)))
    (h : Q (.ref s.heap.objs.size) { s with heap := s.heap.push { cls := .type "tuple", data := .seq items.toList.reverse.toArray } })
    (hsz : items.size ≤ sizeLine) : wpAny (model prog w) A (getItem (.ref t) (.ref sl)) Q E s := by
  have htake : sizeOk (.seq items.toList.reverse.toArray) := by
    show items.toList.reverse.toArray.size ≤ sizeLine
    rw [List.size_toArray, List.length_reverse, Array.length_toList]
    omega
  obtain ⟨os, hos, hcs, hds⟩ := id hs
  have hTs : s.TypeIs (.ref sl) "slice" := ⟨os, hos, hcs⟩
  unfold getItem
  try with_reducible refine wpAny_holding ?_
  first | refine wpAny_bind (wpAny_pure ?_) | skip
  refine wpAny_bind (wpAny_sequenceKey ht.typeIs (by decide) ?_)
  refine wpAny_bind (wpAny_callSpecial?_slot (name := Str.ofString "__getitem__") ht.typeIs PyProof.Rows.slot_tuple_getitem
    (wpAny_call_entry PyProof.Rows.slot_tuple_getitem ht.typeIs entry_tuple_getitem ?_ (args_tuple_getitem _ _)))
  show wpAny _ _ (Builtin.Tuple.tupleItemsOf (.ref t) >>= _) _ _ s
  refine wpAny_bind (tupleItemsOf_ ht ?_)
  refine wpAny_bind (wpAny_typeOf hTs ?_)
  rw [if_pos (by decide)]
  refine wpAny_bind (sliceApplied_rev hs pl pu pt ?_)
  have hno : ¬ ((((items.size : Int) - 1) == 0 && (-1 : Int) == 1 && items.size == items.size) = true) := by
    intro q
    rw [Bool.and_eq_true, Bool.and_eq_true] at q
    exact absurd q.1.2 (by decide)
  show wpAny _ _ (if (((items.size : Int) - 1) == 0 && (-1 : Int) == 1 && items.size == items.size) = true then _ else _) _ _ s
  rw [if_neg hno, pick_rev]
  first
    | exact wpAny_bind (m := Builtin.Tuple.tupleExact _) (wpAny_newObj_type (wpAny_pure ⟨_, rfl, wpAny_pure h⟩) htake)
    | exact wpAny_bind (m := Builtin.Tuple.tupleExact _) (wpAny_newObj_type (wpAny_bind (wpAny_pure (wpAny_pure ⟨_, rfl, wpAny_pure h⟩))) htake)
    | exact wpAny_bind (wpAny_bind (m := Builtin.Tuple.tupleExact _) (wpAny_newObj_type (wpAny_pure (wpAny_pure ⟨_, rfl, wpAny_pure h⟩)) htake))
    | exact wpAny_bind (wpAny_bind (m := Builtin.Tuple.tupleExact _) (wpAny_newObj_type (wpAny_pure ⟨_, rfl, wpAny_pure h⟩) htake))
end
section
variable {X : Cx}
def tRevT (K : PySem.W.Frag) (te : TE) : TE := fun σ H Q => te σ H fun x H1 => ∃ a xs, x = .ref a ∧ SqT K H1 a xs ∧ ∀ p, H1 p = none → Q (.ref p) (upd H1 p (.tup xs.reverse))
theorem pe_revT {e : Expr} {te : TE} {k : Nat} {p1 p2 p3 pos : Pos} (he : PE X e te) : PE X (.Subscript e (.Slice none none (some (.UnaryOp .USub (.Constant (.int 1) k p1) p2)) p3) pos) (tRevT X.K te) := by
  refine ⟨fun pins s σ H Q I h => ?_⟩
  refine Subscript_ (thn (he.run pins s σ H _ I h) fun v s1 ⟨x, H1, I1, r1, q1⟩ => ?_)
  obtain ⟨a, xs, ex, hx, q⟩ := q1
  subst ex
  cases r1
  have hst : PO X (some (.UnaryOp .USub (.Constant (.int 1) k p1) p2)) (tPart (tUn (rU fun i => .int (-i)) (tC (.int 1)))) := po_some (pe_un un_neg pe_int)
  refine wpAny_Slice (thn (po_none.run pins s1 σ H1 (fun o H2 => o = none ∧ H2 = H1) I1 ⟨rfl, rfl⟩) fun vl s2 ⟨l, H2, I2, pl, el, e2⟩ => ?_)
  subst el e2
  refine thn (po_none.run pins s2 σ H2 (fun o H3 => o = none ∧ H3 = H2) I2 ⟨rfl, rfl⟩) fun vu s3 ⟨u, H3, I3, pu, eu, e3⟩ => ?_
  subst eu e3
  refine thn (hst.run pins s3 σ H3 (fun o H4 => o = some (-1) ∧ H4 = H3) I3 ⟨1, rfl, -1, rfl, rfl, rfl⟩) fun vs s4 ⟨o, H4, I4, ps, eo, e4⟩ => ?_
  subst eo e4
  have I5 : Inv X pins σ H4 { s4 with heap := s4.heap.push { cls := .type "slice", data := .fields #[vl, vu, vs] } } := I4.kept (t' := s4.toks) fun b ob q => Heap.get?_push_of_some _ q
  obtain ⟨its, r, ht, hz⟩ := I5.tuple hx
  have hlen := r.length
  show wpAny (model X.prog X.w) X.A (subscriptTail e (.Slice none none (some (.UnaryOp .USub (.Constant (.int 1) k p1) p2)) p3) (.ref a) (.ref s4.heap.objs.size)) (EP X pins σ Q) X.xe { s4 with heap := s4.heap.push { cls := .type "slice", data := .fields #[vl, vu, vs] } }
  refine tail_any (ops := [.ref a, .ref s4.heap.objs.size]) ht.typeIs (PyProof.Rows.slot_tuple_getitem.lookup) ?_ (by with_unfolding_all rfl)
  refine getItem_tuple_rev ht (Heap.IsSliceOf.new _ vl vu vs) pl pu ps ?_ (by rw [List.size_toArray]; omega)
  refine ⟨.ref _, _, I5.laid (t' := s4.toks) (o := .tup xs.reverse) (fun b ob q => Heap.get?_push_of_some _ q) (Nat.le_refl _) ?_, rfl, q _ (I5.hok.fresh (Nat.le_refl _))⟩
  exact ⟨by rw [List.length_reverse]; exact hz, _, r.reverse, IsTup.new _ _⟩
def rEqL (K : PySem.W.Frag) : R2 := fun x y H Q => ∃ (a b : Addr) (xs : List V), x = .ref a ∧ y = .ref b ∧ SqL K H a xs ∧ SqL K H b [] ∧ Q (.bl xs.isEmpty) H
def rNeL (K : PySem.W.Frag) : R2 := fun x y H Q => ∃ (a b : Addr) (xs : List V), x = .ref a ∧ y = .ref b ∧ SqL K H a xs ∧ SqL K H b [] ∧ Q (.bl (!xs.isEmpty)) H
theorem op_eqL (units : X.A.units < cLine) : OpR X (compareOp .Eq) (rEqL X.K) := by
  intro pins s σ H x y v u Q I rx ry h
  obtain ⟨a, b, xs, rfl, rfl, ha, hb, q⟩ := h
  cases rx
  cases ry
  obtain ⟨its, r1, p1, _⟩ := I.list ha
  obtain ⟨its2, r2, p2, _⟩ := I.list hb
  cases r2
  cases r1 with
  | nil =>
    exact SeqAt.eq_listAt (e := fun _ => true) p1.isList p2.isList rfl units (fun j h1 h2 => absurd h2 (Nat.not_lt_zero j)) ⟨.bl true, H, I, rfl, q⟩
  | cons r t =>
    exact SeqAt.eq_list_lengthsAt p1.isList p2.isList (by simp) units ⟨.bl false, H, I, rfl, q⟩
theorem op_neL (units : X.A.units < cLine) : OpR X (compareOp .NotEq) (rNeL X.K) := by
  intro pins s σ H x y v u Q I rx ry h
  obtain ⟨a, b, xs, rfl, rfl, ha, hb, q⟩ := h
  cases rx
  cases ry
  obtain ⟨its, r1, p1, _⟩ := I.list ha
  obtain ⟨its2, r2, p2, _⟩ := I.list hb
  cases r2
  cases r1 with
  | nil =>
    exact SeqAt.RcNeAt.lists (e := fun _ => true) p1.isList p2.isList rfl units (fun j h1 h2 => absurd h2 (Nat.not_lt_zero j)) X.prog X.w X.xe (EP X pins σ Q) ⟨.bl false, H, I, rfl, q⟩
  | cons r t =>
    exact SeqAt.RcNeAt.lists_lengths p1.isList p2.isList (by simp) units X.prog X.w X.xe (EP X pins σ Q) ⟨.bl true, H, I, rfl, q⟩
end

/-! ### more of tuples: t == (), t >= u -/
section
variable {X : Cx}
def rEqE (K : PySem.W.Frag) : R2 := fun x y H Q => ∃ (a b : Addr) (xs : List V), x = .ref a ∧ y = .ref b ∧ SqT K H a xs ∧ SqT K H b [] ∧ Q (.bl xs.isEmpty) H
theorem op_eqE (units : X.A.units < cLine) : OpR X (compareOp .Eq) (rEqE X.K) := by
  intro pins s σ H x y v u Q I rx ry h
  obtain ⟨a, b, xs, rfl, rfl, ha, hb, q⟩ := h
  cases rx
  cases ry
  obtain ⟨its, r1, p1, _⟩ := I.tuple ha
  obtain ⟨its2, r2, p2, _⟩ := I.tuple hb
  cases r2
  apply SeqAt.eq_tupleAt (e := fun _ => true) (show s.heap.IsTuple a its.toArray from p1) (show s.heap.IsTuple b ([] : List Value).toArray from p2) units
  · intro j h1 h2
    exact absurd h2 (Nat.not_lt_zero j)
  · refine ⟨.bl xs.isEmpty, H, I, ?_, q⟩
    cases r1 with
    | nil => rfl
    | cons r t => rfl
def rGeT (K : PySem.W.Frag) : R2 := fun x y H Q => ∃ (a b : Addr) (ns ms : List Int), x = .ref a ∧ y = .ref b ∧ SqT K H a (ns.map V.int) ∧ SqT K H b (ms.map V.int) ∧
  Q (.bl (Ob.lexAt (fun j => decide (ns.getD j 0 = ms.getD j 0)) (fun j => decide (ms.getD j 0 ≤ ns.getD j 0)) (decide (ns.length ≥ ms.length)) 0 (min ns.length ms.length))) H
theorem op_geT (units : X.A.units < cLine) : OpR X (compareOp .GtE) (rGeT X.K) := by
  intro pins s σ H x y v u Q I rx ry h
  obtain ⟨a, b, ns, ms, rfl, rfl, ha, hb, q⟩ := h
  cases rx
  cases ry
  obtain ⟨us, r1, p1, _⟩ := I.tuple ha
  obtain ⟨ws, r2, p2, _⟩ := I.tuple hb
  have w1 : IntsAre us ns := Vals.ints r1
  have w2 : IntsAre ws ms := Vals.ints r2
  have l1 : us.toArray.size = ns.length := List.size_toArray.trans w1.length
  have l2 : ws.toArray.size = ms.length := List.size_toArray.trans w2.length
  have g1 : ∀ j (hj : j < us.toArray.size), ∃ t, us.toArray[j] = .int (ns.getD j 0) t := by
    intro j hj
    apply PyProof.Rows.IntsAre.int_at w1
    simp at hj
    simp [hj]
  have g2 : ∀ j (hj : j < ws.toArray.size), ∃ t, ws.toArray[j] = .int (ms.getD j 0) t := by
    intro j hj
    apply PyProof.Rows.IntsAre.int_at w2
    simp at hj
    simp [hj]
  have eqs : ∀ (i j : Int) (t u : Tok), SeqAt.EqAt X.A.in1 s (.int i t) (.int j u) (decide (i = j)) := by
    intro i j t u
    have z : (i == j) = decide (i = j) := by
      by_cases e : i = j
      · rw [decide_eq_true e]
        exact beq_iff_eq.mpr e
      · rw [decide_eq_false e]
        exact beq_eq_false_iff_ne.mpr e
    rw [← z]
    exact SeqAt.EqAt.int_int _ _ _ _
  have R := Ob.RcOp.tuples_ge (A := X.A) (s := s) (e := fun j => decide (ns.getD j 0 = ms.getD j 0)) (r := fun j => decide (ms.getD j 0 ≤ ns.getD j 0)) p1 p2 units
    (by
      intro j h1 h2
      obtain ⟨t, et⟩ := g1 j h1
      obtain ⟨t', et'⟩ := g2 j h2
      rw [et, et']
      exact eqs _ _ _ _)
    (by
      intro j h1 h2 _
      obtain ⟨t, et⟩ := g1 j h1
      obtain ⟨t', et'⟩ := g2 j h2
      rw [et, et']
      exact Ob.RcOp.ge_int _ _ _ _)
  rw [l1, l2] at R
  exact R X.prog X.w X.xe (EP X pins σ Q) ⟨.bl _, H, I, rfl, q⟩
end

/-! ### x in t, x not in t, for a tuple of data -/
theorem units65 {k : Nat} {A : Around} (r : Room k A) : A.units + 65 < cLine := by
  have := r.un
  omega
section
variable {X : Cx}
def rInT (K : PySem.W.Frag) : R2 := fun x y H Q => ∃ d ds, Dp K H x d ∧ Dp K H y (.tuple ds) ∧ SeqAt.shaped d = true ∧ SeqAt.shaped (.tuple ds) = true ∧ Q (.bl (ds.any fun z => PyData.eqv z d)) H
def rNotInT (K : PySem.W.Frag) : R2 := fun x y H Q => ∃ d ds, Dp K H x d ∧ Dp K H y (.tuple ds) ∧ SeqAt.shaped d = true ∧ SeqAt.shaped (.tuple ds) = true ∧ Q (.bl (!ds.any fun z => PyData.eqv z d)) H
theorem op_inT (units : X.A.units + 65 < cLine) : OpR X (compareOp .In) (rInT X.K) := by
  intro pins s σ H x y v u Q I rx ry ⟨d, ds, dx, dy, sx, sy, q⟩
  obtain ⟨_, r1⟩ := Dp.reads I d x v dx rx
  obtain ⟨_, r2⟩ := Dp.reads I (.tuple ds) y u dy ry
  have l2 : PyData.canLayAll0 ds = true := SeqAt.canLay_of_shaped sy
  exact SeqAt.in_tuple_reads r2 r1 l2 (SeqAt.canLay_of_shaped sx) (room_in_shaped sx units) (Exists.intro (V.bl _) ⟨H, I, rfl, q⟩)
theorem op_notInT (units : X.A.units + 65 < cLine) : OpR X (compareOp .NotIn) (rNotInT X.K) := by
  intro pins s σ H x y v u Q I rx ry ⟨d, ds, dx, dy, sx, sy, q⟩
  obtain ⟨_, r1⟩ := Dp.reads I d x v dx rx
  obtain ⟨_, r2⟩ := Dp.reads I (.tuple ds) y u dy ry
  have l2 : PyData.canLayAll0 ds = true := SeqAt.canLay_of_shaped sy
  exact SeqAt.notIn_tuple_reads r2 r1 l2 (SeqAt.canLay_of_shaped sx) (room_in_shaped sx units) (Exists.intro (V.bl _) ⟨H, I, rfl, q⟩)
end
theorem for_zipU {K : PySem.W.Frag} {a b : Addr} {xs ys : List V} {g : TG} {tb : TS} {D : Ends} {σ : L2.St} {H : Hp} (Pv : Nat → L2.St → Hp → Prop) (h0 : Pv 0 σ H) (hq : ∀ i σ H, Pv i σ H → SqT K H a xs ∧ SqT K H b ys)
    (hs : ∀ (i : Nat) (x y : V) (T : Addr) (σ : L2.St) (H : Hp), xs[i]? = some x → ys[i]? = some y → Pv i σ H → H T = none → g (.ref T) σ (upd H T (.tup [x, y])) fun σ2 H2 => tb { D with nx := Pv (i + 1), ct := Pv (i + 1), bk := D.nx } σ2 H2) (hd : ∀ i σ H, i ≤ xs.length → Pv i σ H → D.nx σ H) :
    ∃ W : Nat → Nat → L2.St → Hp → Prop, (∃ m, W 0 m σ H) ∧ ∀ i m σ H, W i m σ H →
      ((RZ.ItzT K a b).stop i H ∧ D.nx σ H) ∨ ((RZ.ItzT K a b).go i H ∧ ∃ N : L2.St → Hp → Prop, (∀ σ' H', N σ' H' → ∃ m', m' < m ∧ W (i + 1) m' σ' H') ∧ ∀ v H', (RZ.ItzT K a b).yld i H v H' → g v σ H' fun σ2 H2 => tb { D with nx := N, ct := N, bk := D.nx } σ2 H2) := by
  refine ⟨fun i m σ H => m = xs.length - i ∧ i ≤ xs.length ∧ Pv i σ H, ⟨_, rfl, Nat.zero_le _, h0⟩, ?_⟩
  rintro i m σ H ⟨rfl, hi, p⟩
  obtain ⟨q1, q2⟩ := hq i σ H p
  by_cases c : i < xs.length ∧ i < ys.length
  · refine .inr ⟨⟨xs, ys, xs[i]'c.1, ys[i]'c.2, q1, q2, List.getElem?_eq_getElem c.1, List.getElem?_eq_getElem c.2⟩, Pv (i + 1), fun σ' H' p' => ⟨xs.length - (i + 1), by omega, rfl, by omega, p'⟩, fun v H' hy => ?_⟩
    obtain ⟨T, x, y, rfl, nT, rfl, f1, f2⟩ := hy
    exact hs i x y T σ H (f1 xs q1) (f2 ys q2) p nT
  · exact .inl ⟨⟨xs, ys, q1, q2, by omega⟩, hd i σ H hi p⟩

/-! ### own errors without own __init__: raised without arguments, out of a method; isinstance of a caught one -/
abbrev bmVE : List Value := [.type "ValueError", .type "Exception", .type "BaseException", .type "object"]
/-- a class that a clause or isinstance names -/
structure XcN (K : PySem.W.Frag) (mg : Str → Option Value) (x : Str) (C : Addr) : Prop where
  g : mg x = some (.ref C)
  ic : PySem.W.isClsIn K C = true
  ty : PySem.W.typeIn K (.ref C) = some (.type "type")
  ba : PySem.W.subIn K (.ref C) (.type "BaseException") = some true
/-- a class that is raised -/
structure XcR (K : PySem.W.Frag) (C : Addr) : Prop where
  xP : PySem.W.excIn K C bmVE "ValueError.__new__" = true
  kP : PySem.W.keepIn K (.ref C) = true
  ex : ExcC K C
section
variable {K : PySem.W.Frag} {mg : Str → Option Value}
theorem XcN.exm {x : Str} {D C : Addr} {b : Bool} (N : XcN K mg x C) (s : PySem.W.subIn K (.ref D) (.ref C) = some b) : PySem.W.exmOne K (.ref D) (.ref C) = some b := by
  have e1 : (PySem.W.subIn K (.ref C) (.type "BaseException") == some true) = true := by rw [N.ba] <;> rfl
  have e2 : ((PySem.W.clsIn K C).isSome && PySem.W.typeIn K (.ref C) == some (.type "type")) = true := by
    have h : (PySem.W.clsIn K C).isSome = true := N.ic
    rw [h, N.ty] <;> rfl
  show (if (PySem.W.subIn K (.ref C) (.type "BaseException") == some true) = true then (if ((PySem.W.clsIn K C).isSome && PySem.W.typeIn K (.ref C) == some (.type "type")) = true then PySem.W.subIn K (.ref D) (.ref C) else none) else none) = some b
  rw [if_pos e1, if_pos e2]
  exact s
theorem XcN.kit {x : Str} {D C : Addr} {b : Bool} (N : XcN K mg x C) (s : PySem.W.subIn K (.ref D) (.ref C) = some b) (ne : D ≠ C) : PySem.W.kitOne K (.ref D) (.ref C) = some b := by
  have e2 : ((PySem.W.clsIn K C).isSome && PySem.W.typeIn K (.ref C) == some (.type "type")) = true := by
    have h : (PySem.W.clsIn K C).isSome = true := N.ic
    rw [h, N.ty] <;> rfl
  have e0 : ¬ ((Value.ref D == Value.ref C) = true) := fun h => ne (Value.ref.inj (beq_iff_eq.mp h))
  show (if (Value.ref D == Value.ref C) = true then some true else (if ((PySem.W.clsIn K C).isSome && PySem.W.typeIn K (.ref C) == some (.type "type")) = true then PySem.W.subIn K (.ref D) (.ref C) else none)) = some b
  rw [if_neg e0, if_pos e2]
  exact s
theorem kit_self {D : Addr} : PySem.W.kitOne K (.ref D) (.ref D) = some true := by
  show (if (Value.ref D == Value.ref D) = true then some true else _) = some true
  rw [if_pos (beq_self_eq_true _)]
theorem kit_bltn {D : Addr} {T : String} {b : Bool} (m : PySem.W.kitMeta T = true) (s : PySem.W.subIn K (.ref D) (.type T) = some b) : PySem.W.kitOne K (.ref D) (.type T) = some b := by
  have e0 : ¬ ((Value.ref D == Value.type T) = true) := fun h => nomatch beq_iff_eq.mp h
  show (if (Value.ref D == Value.type T) = true then some true else (if PySem.W.kitMeta T = true then PySem.W.subIn K (.ref D) (.type T) else none)) = some b
  rw [if_neg e0, if_pos m]
  exact s
theorem exc_self {C : Addr} {bmB : List Value} {n : String} (q : PySem.W.excIn K C bmB n = true) : PySem.W.subIn K (.ref C) (.ref C) = some true := by
  unfold PySem.W.excIn at q
  split at q
  · rename_i dd cd sl ho
    split at q
    · rename_i C' bm k0 k1 k2 k3 n' k5 hm hs
      simp only [Bool.and_eq_true, beq_iff_eq] at q
      obtain ⟨⟨⟨⟨⟨rfl, _⟩, _⟩, _⟩, _⟩, _⟩ := q
      have hc : PySem.W.clsIn K C' = some cd := by
        unfold PySem.W.clsIn
        rw [ho] <;> rfl
      show PySem.W.mroIn K C' (.ref C') = some true
      unfold PySem.W.mroIn
      rw [hc]
      show (if cd.mro.isEmpty = true then none else some (cd.mro.contains (.ref C'))) = some true
      rw [hm, List.contains_cons, beq_self_eq_true]
      rfl
    · cases q
  · cases q
theorem XcR.ne {C D : Addr} (R : XcR K D) (h : PySem.W.subIn K (.ref D) (.ref C) = some false) : D ≠ C := fun e => by
  have z := exc_self R.xP
  rw [e] at z h
  rw [z] at h
  cases h
/-- no instance of any of these -/
theorem kit_none {D : Addr} (R : XcR K D) : ∀ {l : List (Str × Addr)}, (∀ p ∈ l, XcN K mg p.1 p.2 ∧ PySem.W.subIn K (.ref D) (.ref p.2) = some false) → PySem.W.kitAny K (.ref D) (l.map fun p => Value.ref p.2) = some false
  | [], _ => rfl
  | p :: l, h => kitAny_cons ((h p List.mem_cons_self).1.kit (h p List.mem_cons_self).2 (R.ne (h p List.mem_cons_self).2)) (fun _ => kit_none R fun q hq => h q (List.mem_cons_of_mem _ hq)) (fun z => nomatch z)
end
section
variable {X : Cx}
theorem pmk_own0 {C : Addr} {bmB : List Value} {B newId initId : String} {x : Str} {p pos : Pos} (F : ExcBaseFacts B newId initId bmB) (q : PySem.W.excIn X.K C bmB newId = true) (gC : X.mg x = some (.ref C)) (kC : PySem.W.keepIn X.K (.ref C) = true) (r : Raises X (.ref C)) (hg : Gl X x)
    (hdb : (x == ("__debug__" : Str)) = false := by decide) : PMk X (.Call (.Name x p) [] [] pos) (fun _ H Q => Q (.ref C) none H) := by
  intro pins s σ H Q I h
  refine wpAny_Call_Name_kw (ld_glob I hg gC ?_ hdb)
  refine PySem.W.callWith_K0 (first := []) I.kIn kC ?_
  show wpAny _ _ (call (.ref C) []) _ _ _
  obtain ⟨bm, N, nm, qn, bs, hdct, sn, sub, ab, col, dd, k0, k1, k2, k3, k5, mN, hC, hN, hni, T⟩ := exc_obj I.kIn q
  refine wpAny_call_exc_subT F T hC hN hni (fun h' e hm => ?_) (by show 0 ≤ sizeLine; decide)
  exact mk_of I hm r h (I.hok.gone hm.new)
/-- raise C() -/
theorem ps_raise0 {W : WX} {C : Addr} {x : Str} {p pos pos2 : Pos} (hc : X.calm = true) (tk : Takes X W) (N : XcN X.K X.mg x C) (R : XcR X.K C) (hg : Gl X x) (hdb : (x == ("__debug__" : Str)) = false := by decide) :
    PS X (.Raise (some (.Call (.Name x p) [] [] pos)) none pos2) (fun _ σ H => W (.ref C) none σ H) :=
  ps_raise hc tk (pmk_own0 PySem.F.excBase_ValueError R.xP N.g R.kP (raises_own N.ba N.ty) hg hdb)
variable {CX : CXT} {k : Nat} {f C : Addr} {fd : FuncData} {ps : List Str} {sp : Sp} {E : L2.St → XK} {x m : Str} {p pos apos : Pos} {e o : Expr} {es : List Expr} {ta : TE} {t : TA}
def tMethL (C : Addr) (m : Str) (sp : Sp) (E : L2.St → XK) (ta : TE) (t : TA) : TE := fun σ H Q => ta σ H fun x H1 => ∃ a dx fs, x = .ref a ∧ H1 a = some (.ins C dx fs) ∧ fs.lookup m = none ∧ t σ H1 fun vs H2 => sp (.ref a :: vs) H2 Q (E σ)
/-- o.m(), which may raise -/
theorem pe_methL0 {pl : Sem Bool} (he : PE X o ta) (c : Cls X.K C) (hm : Meth X.K C m f) (F : FnOk X.prog X.w X.K X.mg X.base CX k f fd ps sp) (hr : Room k X.A) (hb : Binds X.K fd ps []) (hx : ∀ σ, PassesAt CX X σ (E σ))
    (ht : eval (.Call (.Attribute o m apos) [] [] pos) X.env = (do
      let ov ← eval o X.env
      standAt apos.atName
      let (f, first) ← holding [ov] (getMethod ov m pl)
      callWith pos f first (backTo pos (starEach [] X.env)) (backToKw pos (keywordEach [] X.env))) := by rfl) :
    PE X (.Call (.Attribute o m apos) [] [] pos) (tMethL C m sp E ta tNil) := by
  refine ⟨fun pins s σ H Q I h => ?_⟩
  refine PySem.W.methodCall_KW (pl := pl) (thn (he.run pins s σ H _ I h) fun u s1 ⟨x, H1, I1, rx, a, dx, fs, ex, ea, l, q⟩ => ?_) ht
  subst ex
  obtain rfl : u = Value.ref a := rx
  refine getmeth_ok I1 ea c hm l ?_
  exact PySem.W.callWith_K0 (first := [.ref a]) I1.kIn hm.kp (run_fnS (us := [.ref a]) (vs := [.ref a]) F hr hb (hx σ) I1 (.cons rfl .nil) q)
/-- o.m(e, ..), which may raise -/
theorem pe_methL {pl : Sem Bool} (he : PE X o ta) (c : Cls X.K C) (hm : Meth X.K C m f) (F : FnOk X.prog X.w X.K X.mg X.base CX k f fd ps sp) (hr : Room k X.A) (hb : Binds X.K fd ps []) (hx : ∀ σ, PassesAt CX X σ (E σ)) (ha : PA X (e :: es) t)
    (hst : starEach (e :: es) X.env = (false, eval e X.env) :: starEach es X.env := by rfl) (hpl : (backTo pos (starEach es X.env)).any (·.1) = false := by rfl)
    (ht : eval (.Call (.Attribute o m apos) (e :: es) [] pos) X.env = (do
      let ov ← eval o X.env
      standAt apos.atName
      let (f, first) ← holding [ov] (getMethod ov m pl)
      callWith pos f first (backTo pos (starEach (e :: es) X.env)) (backToKw pos (keywordEach [] X.env))) := by rfl) :
    PE X (.Call (.Attribute o m apos) (e :: es) [] pos) (tMethL C m sp E ta t) := by
  refine ⟨fun pins s σ H Q I h => ?_⟩
  refine PySem.W.methodCall_KW (pl := pl) (thn (he.run pins s σ H _ I h) fun u s1 ⟨x, H1, I1, rx, a, dx, fs, ex, ea, l, q⟩ => ?_) ht
  subst ex
  obtain rfl : u = Value.ref a := rx
  refine getmeth_ok I1 ea c hm l ?_
  refine PySem.W.callWith_K (first := [.ref a]) (h₀ := X.base) I.ok.mod.kin hm.kp (thn (ha.run pos pins s1 σ H1 _ I1 q) fun us s2 ⟨vs, H2, I2, r, q2⟩ => ⟨I2.kIn, ?_⟩) hst hpl
  exact run_fnS (us := .ref a :: us) (vs := .ref a :: vs) F hr hb (hx σ) I2 (.cons rfl r) q2
/-- isinstance(e, c), e the exception (without a dict) that the suite holds -/
def rIsX (K : PySem.W.Frag) (a : Addr) (cls : Value) (d : Option Addr) : List V → Hp → VK → Prop := fun xs H Q => ∃ (D : Addr) (c : V) (cv : Value) (b : Bool), xs = [.ref a, c] ∧ cls = .ref D ∧ d = none ∧ ExcC K D ∧ ClsV c cv ∧ PySem.W.kitOne K (.ref D) cv = some b ∧ Q (.bl b) H
/-- isinstance(e, (c1, c2, ..)) -/
def rIsXT (K : PySem.W.Frag) (a : Addr) (cls : Value) (d : Option Addr) : List V → Hp → VK → Prop := fun xs H Q => ∃ (D tp : Addr) (cs : List V) (us : List Value) (b : Bool), xs = [.ref a, .ref tp] ∧ cls = .ref D ∧ d = none ∧ ExcC K D ∧ H tp = some (.tup cs) ∧ Paired ClsV cs us ∧ PySem.W.kitAny K (.ref D) us = some b ∧ Q (.bl b) H
theorem held_inst {a D : Addr} {oe : Obj} {pn pins : List (Addr × Obj)} {σ : L2.St} {H : Hp} {s : Shared} (I : Inv (X.suite a ((a, oe) :: pn)) pins σ H s) (hz : Zc (.ref D) none oe) (hf : ∃ vs, oe.data = .fields vs) : PySem.W.InstAt s.heap a oe D none := by
  obtain ⟨hget, _⟩ := I.pin (a, oe) (List.mem_append.mpr (.inl List.mem_cons_self))
  obtain ⟨vs, hv⟩ := hf
  obtain ⟨oc, od, oda, osl⟩ := oe
  obtain ⟨h1, h2⟩ := hz
  dsimp only at h1 h2 hv
  subst h1 h2 hv
  exact ⟨hget, rfl, rfl, trivial⟩
theorem call_isX {a : Addr} {cls : Value} {d : Option Addr} {oe : Obj} {pn : List (Addr × Obj)} (hz : Zc cls d oe) (hf : ∃ vs, oe.data = .fields vs) : CallR (X.suite a ((a, oe) :: pn)) (.builtin "isinstance") (rIsX X.K a cls d) := by
  intro pins s σ H xs us Q I r h
  obtain ⟨D, c, cv, b, rfl, rfl, rfl, C, hcv, e, q⟩ := h
  cases r with
  | cons rx rr =>
    cases rr with
    | cons rt rr =>
      cases rr
      cases rx
      have ec := hcv.eq rt
      subst ec
      exact PySem.W.kia_one (PySem.W.handS_kitx_exc C.hg C.hk C.hs C.hd C.ha C.hn C.ht C.hm) I.kIn (held_inst I hz hf) e (fun z => nomatch z) fun tk => ⟨.bl b, H, I.kept (t' := tk) fun _ _ z => z, rfl, q⟩
theorem call_isXT {a : Addr} {cls : Value} {d : Option Addr} {oe : Obj} {pn : List (Addr × Obj)} (hz : Zc cls d oe) (hf : ∃ vs, oe.data = .fields vs) : CallR (X.suite a ((a, oe) :: pn)) (.builtin "isinstance") (rIsXT X.K a cls d) := by
  intro pins s σ H xs us Q I r h
  obtain ⟨D, tp, cs, ws, b, rfl, rfl, rfl, C, hT, k, e, q⟩ := h
  cases r with
  | cons rx rr =>
    cases rr with
    | cons rt rr =>
      cases rr
      cases rx
      cases rt
      obtain ⟨_, its, rv, o, h1, h2, n, h3⟩ := (show ObjOk X.prog X.w H s.heap tp (.tup cs) from I.hok tp _ hT)
      have e3 := ClsV.all k rv
      subst e3
      obtain ⟨oc, od, dt, sl⟩ := o
      simp only at h2 h3
      subst h2 h3
      exact PySem.W.kia_tup (PySem.W.handS_kitx_exc C.hg C.hk C.hs C.hd C.ha C.hn C.ht C.hm) I.kIn (held_inst I hz hf) h1 e (fun z => nomatch z) fun tk => ⟨.bl b, H, I.tok tk, rfl, q⟩
end

/-! ### own errors with an own __init__ of one field: raised, asked for their class, their field read -/
section
open PySem.W
variable {prog : Program} {w : World} {A : Around} {E : Value → Shared → Prop} {K : Frag} {D x : Addr} {ox : Obj} {od : Option Obj} {s : Shared}
/-- e.__class__ of an error that has a dict (the library has it of one without) -/
theorem cls_of_dict {Q : Option Value → Shared → Prop} (C : ExcC K D) (X : K.In s.heap) (I : InstAt s.heap x ox D od) (h : Q (some (.ref D)) { s with toks := s.toks + 1 }) : wpAny (model prog w) A (getAttr? (.ref x) "__class__") Q E s := by
  have some_cls : (clsIn K D).isSome = true := by
    obtain ⟨cd, hc, _⟩ := any_some C.hd
    rw [hc]
    rfl
  have found := looks_find (M := model prog w) X I (findObj_dataE (od := od) some_cls C.ha C.hn C.ht)
  obtain ⟨hp, g, d, t, os⟩ := s
  have own := I.type (M := model prog w)
  have isE : Looks (model prog w) hp (isInstance (.ref x) (.type "BaseException")) true := own.andThen (looks_subIn X C.hs)
  have notObj : (Value.builtin "BaseException.__getattribute__" == Value.builtin "object.__getattribute__") = false := by decide +kernel
  unfold getAttr? getAttrBy? getAttrBy
  refine wpAny_bind (wpAny_mkText (wpAny_bind (wpAny_attempt (wpAny_holding (wpAny_bind (own.at (wpAny_bind ((looks_findIn X C.hg).at ?_))))))))
  show wpAny _ _ (if (onTheHeap (Value.ref D) && Value.builtin "BaseException.__getattribute__" == Value.builtin "object.__getattribute__") = true then _ else _) _ _ _
  rw [show (onTheHeap (Value.ref D) && Value.builtin "BaseException.__getattribute__" == Value.builtin "object.__getattribute__") = false by rw [notObj]; rfl, if_neg Bool.false_ne_true]
  unfold getAttrByItsOwn hookBefore
  refine wpAny_bind ?_
  rw [if_pos (show onTheHeap (Value.ref D) = true from rfl)]
  refine (looks_findIn X C.hk).at (wpAny_bind (wpAny_attempt (wpAny_holding ?_)))
  unfold callGetattribute
  rw [show (false && onTheHeap (Value.builtin "BaseException.__getattribute__")) = false from rfl, if_neg Bool.false_ne_true]
  unfold boundAndCalled
  rw [PySem.F.excAttr_ValueError.ga.bind (.ref x)]
  refine wpAny_bind (wpAny_pure ?_)
  show wpAny _ _ (call (.builtin "BaseException.__getattribute__") [.ref x, .str "__class__" t]) _ _ _
  refine wpAny_call (codeAny_call_builtin PySem.F.excAttr_ValueError.ga.plain PySem.F.entry_bexc_ga ?_)
  refine @check_slot (model prog w) _ _ ⟨hp, g, d, t + 1, os⟩ "BaseException.__getattribute__" "BaseException" "__getattribute__" (.ref x) [.str "__class__" t] [] _ (by decide +kernel) (by decide +kernel) isE (PySem.F.args_bexc_ga (.ref x) (.str "__class__" t)) ?_
  unfold Builtin.«object.__getattribute__»
  refine wpAny_bind (wpAny_of_eq (a := ((Value.ref x : Value), [Value.str "__class__" t])) (by first | rfl | (simp only [slotArgs]; rfl)) ?_)
  refine wpAny_bind (wpAny_pure (wpAny_bind (own.at (wpAny_bind (found.at ?_)))))
  show wpAny _ _ (holding [Value.builtin "object.__class__"] (call (.builtin "getset_descriptor.__get__") [.builtin "object.__class__", .ref x, .ref D]) >>= ret) _ _ _
  refine wpAny_bind (wpAny_holding (wpAny_call (class_get (s := ⟨hp, g, d, t + 1, os⟩) X I C.hm (wpAny_pure ?_))))
  show wpAny _ _ (handedOut (.ref D)) _ _ _
  rw [handedOut_of (v := .ref D) rfl]
  first
    | exact wpAny_pure (wpAny_pure h)
    | exact wpAny_pure h
    | exact wpAny_pure (wpAny_bind (wpAny_pure (wpAny_pure h)))
theorem kitx_dict (C : ExcC K D) : KitX K (.ref x) (.ref D) (fun h => InstAt h x ox D od) where
  ty := fun _ _ _ I => I.type
  it := fun _ _ X _ => by
    obtain ⟨cd, hc, _⟩ := any_some C.hd
    unfold clsIn at hc
    split at hc
    · rename_i ho
      intro A' Q' E' s' k q
      unfold isType loadHead
      exact wpAny_bind (wpAny_loadPart (k _ _ (X _ _ ho)) (wpAny_pure q))
    · cases hc
  ne := fun h tp dd its n sl X htp => by
    obtain ⟨cd, hc, _⟩ := any_some C.hd
    refine Bool.eq_false_iff.mpr fun q => ?_
    obtain rfl : D = tp := Value.ref.inj (beq_iff_eq.mp q)
    unfold clsIn at hc
    split at hc
    · rename_i ho
      have z := (X _ _ ho).symm.trans htp
      cases z
    · cases hc
  ca := fun X I k => cls_of_dict C X I k
end
/-- an error's dict, if it has one -/
def ExD (H : Hp) (d : Option Addr) : Prop := d = none ∨ ∃ dd fs, d = some dd ∧ H dd = some (.xd fs)
/-- what the written part says of a class with an own __init__ that sets the field f -/
structure XcI (K : PySem.W.Frag) (C fI : Addr) (f : Str) : Prop where
  ox : OexC K C
  iC : PySem.W.findIn K (.ref C) "__init__" = some (some (.ref fI))
  tI : PySem.W.typeIn K (.ref fI) = some (.type "function")
  no : PySem.W.findIn K (.ref C) f = some none
  ex : ExcC K C
theorem XcI.xf {K : PySem.W.Frag} {C fI : Addr} {f : Str} (I : XcI K C fI f) : XfC K C := ⟨I.ex.hg, I.ex.hk, I.ex.hs, I.ex.hd⟩
theorem oex_self {K : PySem.W.Frag} {C : Addr} (O : OexC K C) : PySem.W.subIn K (.ref C) (.ref C) = some true := by
  obtain ⟨nm, q, N, bs, bm, sn, sub, ab, col, dd, k0, k1, k2, k3, k5, h, _⟩ := O.cls
  show PySem.W.mroIn K C (.ref C) = some true
  unfold PySem.W.mroIn PySem.W.clsIn
  rw [h]
  show (if (Value.ref C :: bm).isEmpty = true then none else some ((Value.ref C :: bm).contains (.ref C))) = some true
  rw [List.contains_cons, beq_self_eq_true]
  rfl
theorem XcI.ne {K : PySem.W.Frag} {C D fI : Addr} {f : Str} (R : XcI K D fI f) (h : PySem.W.subIn K (.ref D) (.ref C) = some false) : D ≠ C := fun e => by
  have z := oex_self R.ox
  rw [e] at z h
  rw [z] at h
  cases h
theorem kit_noneI {K : PySem.W.Frag} {mg : Str → Option Value} {D fI : Addr} {f : Str} (R : XcI K D fI f) : ∀ {l : List (Str × Addr)}, (∀ p ∈ l, XcN K mg p.1 p.2 ∧ PySem.W.subIn K (.ref D) (.ref p.2) = some false) → PySem.W.kitAny K (.ref D) (l.map fun p => Value.ref p.2) = some false
  | [], _ => rfl
  | p :: l, h => kitAny_cons ((h p List.mem_cons_self).1.kit (h p List.mem_cons_self).2 (R.ne (h p List.mem_cons_self).2)) (fun _ => kit_noneI R fun q hq => h q (List.mem_cons_of_mem _ hq)) (fun z => nomatch z)
def sp_exc_init (K : PySem.W.Frag) (C : Addr) (f : Str) : Sp := fun vs H Q _ => ∃ (a : Addr) (v : V), vs = [.ref a, v] ∧ H a = some (exo a C none) ∧ ∀ dx, H dx = none → dx ≠ a → Q .non (upd (upd H dx (exd dx [(f, v)])) a (exo a C (some dx)))
section
variable {X : Cx}
/-- the args, with more said of them than is asked -/
def tMono (ta : TA) : TA := fun σ H R => ∃ S, ta σ H S ∧ ∀ vs H1, S vs H1 → R vs H1
theorem pa_mono {es : List Expr} {ta : TA} (h : PA X es ta) : PA X es (tMono ta) := ⟨fun pos pins s σ H Q I q => by
  obtain ⟨S, h1, h2⟩ := q
  refine thn (h.run pos pins s σ H S I h1) fun us s1 hh => ?_
  obtain ⟨vs, H1, I1, r, z⟩ := hh
  exact ⟨vs, H1, I1, r, h2 _ _ z⟩⟩
def tMk1 (C : Addr) (f : Str) (ta : TA) : L2.St → Hp → XK → Prop := fun σ H Q => ta σ H fun vs H1 => ∃ v, vs = [v] ∧ ∀ d, H1 d = none → Q (.ref C) (some d) (upd H1 d (.xd [(f, v)]))
theorem pmk_1 {x f : Str} {C fI : Addr} {k : Nat} {fd : FuncData} {ps : List Str} {p pos : Pos} {e : Expr} {ta : TA} (N : XcN X.K X.mg x C) (I : XcI X.K C fI f) (F1 : FnOk X.prog X.w X.K X.mg X.base CX0 k fI fd ps (sp_exc_init X.K C f)) (hr : Room (k + 1) X.A) (hb : Binds X.K fd ps [])
    (hg : Gl X x) (ha : PA X [e] ta) (hdb : (x == ("__debug__" : Str)) = false := by decide) (he : starEach (e :: []) X.env = (false, eval e X.env) :: starEach [] X.env := by rfl) (hpl : (backTo pos (starEach [] X.env)).any (·.1) = false := by rfl) :
    PMk X (.Call (.Name x p) [e] [] pos) (tMk1 C f ta) := by
  intro pins s σ H Q J h
  refine pmk_oex (dvs := []) I.ox I.iC I.tI F1 hr hb .nil (fun _ _ _ _ _ _ _ h => h.elim) hg N.g (pa_mono ha) hdb he hpl pins s σ H Q J ⟨_, h, fun vs H1 h1 => ?_⟩
  obtain ⟨v, rfl, q⟩ := h1
  refine ⟨by show 1 ≤ 1000; decide, fun a na => ⟨a, v, rfl, upd_same, fun dx nd ne => ⟨rfl, dx, [(f, v)], upd_same, ?_, ?_, ?_⟩⟩⟩
  · rw [upd_ne ne]
    exact upd_same
  · rw [upd_ne ne] at nd
    exact nd
  · have nd1 : H1 dx = none := by
      rw [upd_ne ne] at nd
      exact nd
    have z := q dx nd1
    have e2 : upd H1 dx (.xd [(f, v)]) = upd (del (upd (upd (upd H1 a (exo a C none)) dx (exd dx [(f, v)])) a (exo a C (some dx))) a) dx (.xd [(f, v)]) := by
      funext b
      by_cases hb : b = dx
      · rw [hb, upd_same, upd_same]
      · rw [upd_ne hb, upd_ne hb]
        by_cases ha : b = a
        · rw [ha, del_same, na]
        · rw [del_ne ha, upd_ne ha, upd_ne hb, upd_ne ha]
    rw [← e2]
    exact z
/-- raise C(e) -/
theorem ps_raise1 {W : WX} {x f : Str} {C fI : Addr} {k : Nat} {fd : FuncData} {ps : List Str} {p pos pos2 : Pos} {e : Expr} {ta : TA} (hc : X.calm = true) (tk : Takes X W) (N : XcN X.K X.mg x C) (I : XcI X.K C fI f) (F1 : FnOk X.prog X.w X.K X.mg X.base CX0 k fI fd ps (sp_exc_init X.K C f)) (hr : Room (k + 1) X.A) (hb : Binds X.K fd ps [])
    (hg : Gl X x) (ha : PA X [e] ta) (hdb : (x == ("__debug__" : Str)) = false := by decide) (he : starEach (e :: []) X.env = (false, eval e X.env) :: starEach [] X.env := by rfl) (hpl : (backTo pos (starEach [] X.env)).any (·.1) = false := by rfl) :
    PS X (.Raise (some (.Call (.Name x p) [e] [] pos)) none pos2) (fun _ σ H => tMk1 C f ta σ H fun cls d H' => W cls d σ H') := ps_raise hc tk (pmk_1 N I F1 hr hb hg ha hdb he hpl)
/-- isinstance(e, c), e the error that the suite holds, with a dict or without -/
def rIsY (K : PySem.W.Frag) (a : Addr) (cls : Value) (d : Option Addr) : List V → Hp → VK → Prop := fun xs H Q => ∃ (D : Addr) (c : V) (cv : Value) (b : Bool), xs = [.ref a, c] ∧ cls = .ref D ∧ ExD H d ∧ ExcC K D ∧ ClsV c cv ∧ PySem.W.kitOne K (.ref D) cv = some b ∧ Q (.bl b) H
def rIsYT (K : PySem.W.Frag) (a : Addr) (cls : Value) (d : Option Addr) : List V → Hp → VK → Prop := fun xs H Q => ∃ (D tp : Addr) (cs : List V) (us : List Value) (b : Bool), xs = [.ref a, .ref tp] ∧ cls = .ref D ∧ ExD H d ∧ ExcC K D ∧ H tp = some (.tup cs) ∧ Paired ClsV cs us ∧ PySem.W.kitAny K (.ref D) us = some b ∧ Q (.bl b) H
theorem held_instD {a D : Addr} {oe : Obj} {d : Option Addr} {pn pins : List (Addr × Obj)} {σ : L2.St} {H : Hp} {s : Shared} (I : Inv (X.suite a ((a, oe) :: pn)) pins σ H s) (hz : Zc (.ref D) d oe) (hf : ∃ vs, oe.data = .fields vs) (hd : ExD H d) : ∃ od, PySem.W.InstAt s.heap a oe D od := by
  rcases hd with rfl | ⟨dd, fs, rfl, e⟩
  · exact ⟨none, held_inst I hz hf⟩
  · obtain ⟨hget, _⟩ := I.pin (a, oe) (List.mem_append.mpr (.inl List.mem_cons_self))
    obtain ⟨vs, hv⟩ := hf
    obtain ⟨mA, hns, _⟩ := (show ObjOk X.prog X.w H s.heap dd (.xd fs) from I.hok dd _ e)
    obtain ⟨od, ho, _⟩ := lookIn_ns hns
    exact ⟨some od, hget, hz.1, by unfold PySem.W.notCls; rw [hv] <;> rfl, by rw [hz.2]; exact ho⟩
theorem call_isY {a : Addr} {cls : Value} {d : Option Addr} {oe : Obj} {pn : List (Addr × Obj)} (hz : Zc cls d oe) (hf : ∃ vs, oe.data = .fields vs) : CallR (X.suite a ((a, oe) :: pn)) (.builtin "isinstance") (rIsY X.K a cls d) := by
  intro pins s σ H xs us Q I r h
  obtain ⟨D, c, cv, b, rfl, rfl, hd, C, hcv, e, q⟩ := h
  obtain ⟨od, J⟩ := held_instD I hz hf hd
  cases r with
  | cons rx rr =>
    cases rr with
    | cons rt rr =>
      cases rr
      cases rx
      have ec := hcv.eq rt
      subst ec
      exact PySem.W.kia_one (kitx_dict C) I.kIn J e (fun z => nomatch z) fun tk => ⟨.bl b, H, I.kept (t' := tk) fun _ _ z => z, rfl, q⟩
theorem call_isYT {a : Addr} {cls : Value} {d : Option Addr} {oe : Obj} {pn : List (Addr × Obj)} (hz : Zc cls d oe) (hf : ∃ vs, oe.data = .fields vs) : CallR (X.suite a ((a, oe) :: pn)) (.builtin "isinstance") (rIsYT X.K a cls d) := by
  intro pins s σ H xs us Q I r h
  obtain ⟨D, tp, cs, ws, b, rfl, rfl, hd, C, hT, k, e, q⟩ := h
  obtain ⟨od, J⟩ := held_instD I hz hf hd
  cases r with
  | cons rx rr =>
    cases rr with
    | cons rt rr =>
      cases rr
      cases rx
      cases rt
      obtain ⟨_, its, rv, o, h1, h2, n, h3⟩ := (show ObjOk X.prog X.w H s.heap tp (.tup cs) from I.hok tp _ hT)
      have e3 := ClsV.all k rv
      subst e3
      obtain ⟨oc, oD, dt, sl⟩ := o
      simp only at h2 h3
      subst h2 h3
      exact PySem.W.kia_tup (kitx_dict C) I.kIn J h1 e (fun z => nomatch z) fun tk => ⟨.bl b, H, I.tok tk, rfl, q⟩
end

/-! ### a text times 0 or 1 -/
section
variable {X : Cx}
def rMulS : R2 := fun x y H Q => ∃ (z : Str) (k : Int), x = .str z ∧ y = .int k ∧ (k = 0 ∨ k = 1) ∧ Q (.str (if k = 1 then z else Str.empty)) H
theorem op_mulS : OpR X (binaryOp .Mult) rMulS := by
  intro pins s σ H x y v u Q I rx ry h
  obtain ⟨z, k, rfl, rfl, hk, q⟩ := h
  obtain ⟨t, rfl⟩ := rx
  obtain ⟨t2, rfl⟩ := ry
  rcases hk with rfl | rfl
  · refine PySem.P.mul_str_none (by decide) (by decide) ?_
    exact ⟨.str Str.empty, H, I.tok _, ⟨_, rfl⟩, q⟩
  · refine PySem.P.mul_str (by decide) (fun _ h => by simp at h) (fun _ h => by simp at h) ?_
    rw [if_neg (by decide), if_pos (by rfl)]
    exact ⟨.str z, H, I, ⟨_, rfl⟩, q⟩
end
theorem noPart_of {σ : L2.St} {H : Hp} {Q : Option Int → Hp → Prop} (h : Q none H) : tNoPart σ H Q := h
def signs10 : List Str := ["0", "1", "9", "-", " ", "+", ",", "x", "\n", "."]

/-! ### texts of numbers, of intervals -/
abbrev numS (i : Int) : Str := Str.ofString (toString i)
theorem tl_numS {i : Int} (h : 0 ≤ i) : TL.tl (numS i) = TL.numL i.toNat := by
  have e : i = ((i.toNat : Nat) : Int) := by omega
  rw [e]
  exact TL.tl_num i.toNat
theorem numS_inj {i j : Int} (hi : 0 ≤ i) (hj : 0 ≤ j) (h : TL.tl (numS i) = TL.tl (numS j)) : i = j := by
  rw [tl_numS hi, tl_numS hj] at h
  have := TL.numL_inj h
  omega
theorem numS_len {i : Int} (h0 : 0 ≤ i) (h : i ≤ 1000000000000) : (numS i).length ≤ 13 := by
  rw [TL.len_tl, tl_numS h0]
  exact TL.numL_len (by decide) (by omega)
theorem numS_pos {i : Int} (h0 : 0 ≤ i) : 0 < (numS i).length := by
  rw [TL.len_tl, tl_numS h0]
  exact List.length_pos_iff.mpr (TL.numL_ne _)
theorem log2_tr {i : Int} (h0 : 0 ≤ i) (h : i ≤ 10 ^ 30) : i.natAbs.log2 < 1920 := by
  refine PySem.Flt.log2_lt_of (by decide) (Nat.lt_of_le_of_lt (m := 10 ^ 30) (by omega) (by decide +kernel))
theorem numS_free {i : Int} {s : Nat} (h0 : 0 ≤ i) (h : s < 48 ∨ 57 < s) : s ∉ TL.tl (numS i) := by
  rw [tl_numS h0]
  exact TL.numL_free h
theorem numS_decimal {i : Int} (h0 : 0 ≤ i) : Txt.isdecimal (numS i) = true := by
  unfold Txt.isdecimal
  rw [Bool.and_eq_true]
  refine ⟨decide_eq_true (numS_pos h0), ?_⟩
  rw [← Array.all_toList, List.all_eq_true]
  intro c hc
  have hd := TL.numL_digits i.toNat c (by rw [← tl_numS h0]; exact hc)
  have key : ∀ c, c < 58 → 48 ≤ c → Unicode.isDecimal c = true := by decide +kernel
  exact key c (by omega) (by omega)
theorem numS_int {i : Int} (h0 : 0 ≤ i) (h : i ≤ 1000000000000) : intText? (numS i) = some i := by
  have e : i = ((i.toNat : Nat) : Int) := by omega
  have l := TL.numL_len (n := i.toNat) (k := 13) (by decide) (by omega)
  have z := TL.int_num (n := i.toNat) (by omega)
  rw [← e] at z
  exact z
/-- low-high -/
def ivT (q : Int × Int) : Str := numS q.1 ++ "-" ++ numS q.2
theorem tl_hy : TL.tl ("-" : Str) = [45] := by decide +kernel
theorem tl_sp : TL.tl (" " : Str) = [32] := by decide +kernel
theorem tl_ivT (q : Int × Int) : TL.tl (ivT q) = TL.tl (numS q.1) ++ ([45] ++ TL.tl (numS q.2)) := by
  unfold ivT
  rw [TL.tl_append, TL.tl_append, tl_hy, List.append_assoc]
theorem ivT_part {q : Int × Int} (h : 0 ≤ q.1) : Txt.partition (ivT q) "-" = (numS q.1, ("-" : Str), numS q.2) := TL.partition_app (y := "-") tl_hy (numS_free h (.inl (by decide)))
theorem ivT_free {q : Int × Int} (h : 0 ≤ q.1) (h2 : 0 ≤ q.2) : 32 ∉ TL.tl (ivT q) := by
  rw [tl_ivT]
  intro m
  rcases List.mem_append.mp m with m | m
  · exact numS_free h (.inl (by decide)) m
  rcases List.mem_append.mp m with m | m
  · rw [List.mem_singleton] at m
    omega
  · exact numS_free h2 (.inl (by decide)) m
theorem ivT_len {q : Int × Int} (h : (0 ≤ q.1 ∧ q.1 ≤ q.2) ∧ q.2 ≤ 1000000000000) : (ivT q).length ≤ 27 := by
  have a := numS_len h.1.1 (by omega : q.1 ≤ 1000000000000)
  have b := numS_len (i := q.2) (by omega) h.2
  have c : ("-" : Str).length = 1 := by decide +kernel
  show (numS q.1 ++ "-" ++ numS q.2).length ≤ 27
  rw [Str.length_append, Str.length_append]
  omega
theorem ivT_inj {q r : Int × Int} (h : 0 ≤ q.1) (h2 : 0 ≤ q.2) (k : 0 ≤ r.1) (k2 : 0 ≤ r.2) (e : ivT q = ivT r) : q = r := by
  have p1 := ivT_part h
  rw [e, ivT_part k] at p1
  have e1 := congrArg (fun z : Str × Str × Str => TL.tl z.1) p1
  have e2 := congrArg (fun z : Str × Str × Str => TL.tl z.2.2) p1
  exact Prod.ext (numS_inj h k e1.symm) (numS_inj h2 k2 e2.symm)
def Vld0 (ps : List (Int × Int)) : Prop := ∀ q ∈ ps, (0 ≤ q.1 ∧ q.1 ≤ q.2) ∧ q.2 ≤ 1000000000000
/-- the text of a row -/
def rowT (ps : List (Int × Int)) : Str := if ps = [] then "none" else Txt.join " " (ps.map ivT)
theorem sp_kind : (" " : Str).cps.all (· < 256) = true := by decide +kernel
theorem rowT_split {ps : List (Int × Int)} (h : Vld0 ps) (n : ps ≠ []) : Txt.split (rowT ps) " " = ps.map ivT := by
  unfold rowT
  rw [if_neg n]
  refine TL.split_join tl_sp sp_kind (fun e => n (List.map_eq_nil_iff.mp e)) fun p hp => ?_
  obtain ⟨q, hq, rfl⟩ := List.mem_map.mp hp
  have b := h q hq
  exact ivT_free b.1.1 (by omega)
theorem rowT_head {ps : List (Int × Int)} (h : Vld0 ps) (n : ps ≠ []) : rowT ps ≠ "none" := by
  intro e
  have z := rowT_split h n
  rw [e, show Txt.split ("none" : Str) " " = [("none" : Str)] by decide +kernel] at z
  match ps, n, z, h with
  | q :: r, _, z, h =>
    injection z with z1 z2
    have b := h q List.mem_cons_self
    have : (45 : Nat) ∈ TL.tl (ivT q) := by
      rw [tl_ivT]
      exact List.mem_append_right _ (List.mem_append_left _ (List.mem_singleton.mpr rfl))
    rw [← z1] at this
    exact absurd this (by decide +kernel)
theorem map_ivT_inj : ∀ {ps qs : List (Int × Int)}, Vld0 ps → Vld0 qs → ps.map ivT = qs.map ivT → ps = qs
  | [], [], _, _, _ => rfl
  | [], _ :: _, _, _, h => by simp at h
  | _ :: _, [], _, _, h => by simp at h
  | p :: ps, q :: qs, a, b, h => by
    rw [List.map_cons, List.map_cons] at h
    injection h with h1 h2
    have x := a p List.mem_cons_self
    have y := b q List.mem_cons_self
    rw [ivT_inj x.1.1 (by omega) y.1.1 (by omega) h1, map_ivT_inj (fun z hz => a z (List.mem_cons_of_mem _ hz)) (fun z hz => b z (List.mem_cons_of_mem _ hz)) h2]
theorem rowT_inj {ps qs : List (Int × Int)} (a : Vld0 ps) (b : Vld0 qs) (h : rowT ps = rowT qs) : ps = qs := by
  by_cases n : ps = []
  · by_cases m : qs = []
    · rw [n, m]
    · refine absurd ?_ (rowT_head b m)
      rw [← h, n]
      rfl
  · by_cases m : qs = []
    · refine absurd ?_ (rowT_head a n)
      rw [h, m]
      rfl
    · have z := rowT_split a n
      rw [h, rowT_split b m] at z
      exact map_ivT_inj a b z.symm
theorem sum27 : ∀ {ps : List (Int × Int)}, Vld0 ps → ((ps.map ivT).map (·.length)).sum ≤ 27 * ps.length
  | [], _ => Nat.le_refl _
  | q :: ps, h => by
    have a := ivT_len (h q List.mem_cons_self)
    have b := sum27 (ps := ps) fun z hz => h z (List.mem_cons_of_mem _ hz)
    rw [List.map_cons, List.map_cons, List.sum_cons, List.length_cons]
    omega
theorem joinL_len : ∀ (S : List Nat) (L : List (List Nat)), (TL.joinL S L).length ≤ (L.map List.length).sum + L.length * S.length
  | S, [] => Nat.zero_le _
  | S, [p] => by
    show p.length ≤ p.length + 0 + (0 + 1) * S.length
    omega
  | S, p :: q :: r => by
    have ih := joinL_len S (q :: r)
    show (p ++ (S ++ TL.joinL S (q :: r))).length ≤ (p.length + ((q :: r).map List.length).sum) + ((q :: r).length + 1) * S.length
    rw [List.length_append, List.length_append, Nat.add_mul, Nat.one_mul]
    omega
theorem rowT_len {ps : List (Int × Int)} (h : Vld0 ps) : (rowT ps).length ≤ 28 * ps.length + 4 := by
  unfold rowT
  split
  · rw [show ("none" : Str).length = 4 by decide +kernel]
    omega
  · rw [TL.join_eq, TL.len_tl, TL.tl_join, tl_sp]
    have a := joinL_len [32] ((ps.map ivT).map TL.tl)
    have b := sum27 h
    have c : ((ps.map ivT).map TL.tl).map List.length = (ps.map ivT).map (·.length) := by
      rw [List.map_map]
      exact List.map_congr_left fun z _ => (TL.len_tl z).symm
    rw [c, List.length_map, List.length_map] at a
    have d : ([32] : List Nat).length = 1 := rfl
    rw [d] at a
    omega
/-! ### enumerate(list), for, with the list as it stands -/
theorem for_enumL {K : PySem.W.Frag} {a : Addr} {xs : List V} {g : TG} {tb : TS} {D : Ends} {σ : L2.St} {H : Hp} (Pv : Nat → L2.St → Hp → Prop) (h0 : Pv 0 σ H) (hq : ∀ i σ H, Pv i σ H → SqL K H a xs)
    (hs : ∀ (i : Nat) (x : V) (t : Addr) (σ : L2.St) (H : Hp), xs[i]? = some x → Pv i σ H → H t = none → g (.ref t) σ (upd H t (.tup [.int (i : Nat), x])) fun σ2 H2 => tb { D with nx := Pv (i + 1), ct := Pv (i + 1), bk := D.nx } σ2 H2) (hd : ∀ σ H, Pv xs.length σ H → D.nx σ H) :
    ∃ W : Nat → Nat → L2.St → Hp → Prop, (∃ m, W 0 m σ H) ∧ ∀ i m σ H, W i m σ H →
      ((Ite K a).stop i H ∧ D.nx σ H) ∨ ((Ite K a).go i H ∧ ∃ N : L2.St → Hp → Prop, (∀ σ' H', N σ' H' → ∃ m', m' < m ∧ W (i + 1) m' σ' H') ∧ ∀ v H', (Ite K a).yld i H v H' → g v σ H' fun σ2 H2 => tb { D with nx := N, ct := N, bk := D.nx } σ2 H2) := by
  refine ⟨fun i m σ H => i + m = xs.length ∧ Pv i σ H, ⟨xs.length, by omega, h0⟩, ?_⟩
  rintro i m σ H ⟨im, p⟩
  have hx := hq i σ H p
  by_cases c : i < xs.length
  · refine .inr ⟨⟨xs, xs[i], hx, List.getElem?_eq_getElem c⟩, Pv (i + 1), fun σ' H' p' => ⟨m - 1, by omega, by omega, p'⟩, ?_⟩
    rintro v H' ⟨t, x, rfl, nt, rfl, at_⟩
    exact hs i x t σ H (at_ xs hx) p nt
  · refine .inl ⟨⟨xs, hx, by omega⟩, hd σ H ?_⟩
    have : i = xs.length := by omega
    rw [← this]
    exact p

/-! ### texts of any signs below 128: numbers, intervals -/
def low128 (x : Str) : Prop := ∀ c ∈ TL.tl x, c < 128
theorem eq_of_tl {x y : Str} : TL.tl x = TL.tl y ↔ x = y := ⟨TL.ext_tl, fun h => by rw [h]⟩
theorem numL_zero : TL.numL 0 = [48] := TL.numL_lt (by decide)
theorem numL_head (n : Nat) : (TL.numL n).head? = some 48 → n = 0 := by
  induction n using Nat.strongRecOn with
  | _ n ih =>
    intro h
    by_cases c : n < 10
    · rw [TL.numL_lt c] at h
      have : 48 + n = 48 := Option.some.inj h
      omega
    · rw [TL.numL_step (by omega)] at h
      have ne := TL.numL_ne (n / 10)
      have e : (TL.numL (n / 10) ++ [48 + n % 10]).head? = (TL.numL (n / 10)).head? := by
        cases q : TL.numL (n / 10) with
        | nil => exact absurd q ne
        | cons x r => rfl
      rw [e] at h
      have := ih (n / 10) (by omega) h
      omega
theorem digits_snoc (l : List Nat) (c : Nat) : NumText.digitsVal (l ++ [c]) = NumText.digitsVal l * 10 + (c - 48) := by
  unfold NumText.digitsVal
  rw [List.foldl_append]
  rfl
def Dig (l : List Nat) : Prop := ∀ c ∈ l, 48 ≤ c ∧ c ≤ 57
theorem canon_num : ∀ (n : Nat) (l : List Nat), l.length = n → l ≠ [] → Dig l → (l.head? ≠ some 48 ∨ l = [48]) → TL.numL (NumText.digitsVal l) = l := by
  intro n
  induction n with
  | zero => intro l hl ne; exact absurd (List.length_eq_zero_iff.mp hl) ne
  | succ n ih =>
    intro l hl ne dg hd
    obtain ⟨l', c, rfl⟩ : ∃ l' c, l = l' ++ [c] := ⟨l.dropLast, l.getLast ne, (List.dropLast_concat_getLast ne).symm⟩
    have hc := dg c (List.mem_append_right _ (List.mem_singleton.mpr rfl))
    rw [digits_snoc]
    by_cases e : l' = []
    · subst e
      rw [show NumText.digitsVal [] * 10 + (c - 48) = c - 48 by show 0 * 10 + (c - 48) = c - 48; omega, TL.numL_lt (by omega), show 48 + (c - 48) = c by omega]
      rfl
    · rw [List.length_append] at hl
      have h1 : (l' ++ [c]).head? = l'.head? := by
        cases l' with
        | nil => exact absurd rfl e
        | cons x r => rfl
      have hd' : l'.head? ≠ some 48 := by
        rcases hd with hd | hd
        · rw [h1] at hd
          exact hd
        · have q : l'.length + [c].length = 1 := by
            rw [← List.length_append, hd]
            rfl
          have p := List.length_pos_iff.mpr e
          have p1 : [c].length = 1 := rfl
          omega
      have ih' := ih l' (by have p1 : [c].length = 1 := rfl; omega) e (fun x hx => dg x (List.mem_append_left _ hx)) (.inl hd')
      have v1 : NumText.digitsVal l' ≠ 0 := fun z => by
        rw [z, numL_zero] at ih'
        rw [← ih'] at hd'
        exact hd' rfl
      rw [TL.numL_step (by omega), show (NumText.digitsVal l' * 10 + (c - 48)) / 10 = NumText.digitsVal l' by omega, show 48 + (NumText.digitsVal l' * 10 + (c - 48)) % 10 = c by omega, ih']
theorem canon_iff {l : List Nat} (ne : l ≠ []) (dg : Dig l) : TL.numL (NumText.digitsVal l) = l ↔ (l.head? ≠ some 48 ∨ l = [48]) := by
  constructor
  · intro h
    by_cases hd : l.head? = some 48
    · refine .inr ?_
      have z := numL_head (NumText.digitsVal l) (by rw [h]; exact hd)
      rw [z, numL_zero] at h
      exact h.symm
    · exact .inl hd
  · exact canon_num _ l rfl ne dg
/-- the number that a part is, as the program reads it -/
noncomputable def numg (l : List Nat) : Option Int := open Classical in if (l ≠ [] ∧ Dig l) ∧ l.length ≤ 13 ∧ (l.head? ≠ some 48 ∨ l = [48]) then some (NumText.digitsVal l : Nat) else none
/-- as the law reads it -/
noncomputable def numf (l : List Nat) : Option Int := open Classical in if ((l ≠ [] ∧ Dig l) ∧ l.length ≤ 13 ∧ (l.head? ≠ some 48 ∨ l = [48])) ∧ NumText.digitsVal l ≤ 1000000000000 then some (NumText.digitsVal l : Nat) else none
theorem numf_of {l : List Nat} : numf l = match numg l with | some n => (if n ≤ 1000000000000 then some n else none) | none => none := by
  unfold numf numg
  by_cases c : (l ≠ [] ∧ Dig l) ∧ l.length ≤ 13 ∧ (l.head? ≠ some 48 ∨ l = [48])
  · rw [if_pos c]
    by_cases b : NumText.digitsVal l ≤ 1000000000000
    · rw [if_pos ⟨c, b⟩]
      show _ = if ((NumText.digitsVal l : Nat) : Int) ≤ 1000000000000 then _ else _
      rw [if_pos (by omega)]
    · rw [if_neg (fun z => b z.2)]
      show _ = if ((NumText.digitsVal l : Nat) : Int) ≤ 1000000000000 then _ else _
      rw [if_neg (by omega)]
  · rw [if_neg c, if_neg (fun z => c z.1)]
theorem numg_nn {l : List Nat} {n : Int} (h : numg l = some n) : 0 ≤ n := by
  unfold numg at h
  split at h
  · cases h
    omega
  · cases h
theorem numg_45 {l : List Nat} (h : 45 ∈ l) : numg l = none := by
  unfold numg
  refine if_neg fun z => ?_
  have := z.1.2 45 h
  omega
theorem numg_nil : numg [] = none := by
  unfold numg
  exact if_neg fun z => z.1.1 rfl
/-- cut at a sign: by the first one -/
theorem spl_ind {s : Nat} {P : List Nat → List (List Nat) → Prop} (h0 : ∀ L, s ∉ L → P L [L]) (h1 : ∀ a b r, s ∉ a → P b r → P (a ++ ([s] ++ b)) (a :: r)) : ∀ (n : Nat) (L : List Nat), L.length ≤ n → P L (TL.spl [s] 0 [] L) := by
  intro n
  induction n with
  | zero =>
    intro L hL
    have e := List.length_eq_zero_iff.mp (Nat.le_zero.mp hL)
    subst e
    rw [TL.spl_last1 List.not_mem_nil]
    exact h0 [] List.not_mem_nil
  | succ n ih =>
    intro L hL
    by_cases c : s ∈ L
    · obtain ⟨a, b, rfl, na⟩ := List.eq_append_cons_of_mem c
      have e : TL.spl [s] 0 [] (a ++ ([s] ++ b)) = ([] ++ a) :: TL.spl [s] 0 [] b := TL.spl_part1 na
      rw [List.nil_append] at e
      show P (a ++ ([s] ++ b)) (TL.spl [s] 0 [] (a ++ ([s] ++ b)))
      rw [e]
      rw [List.length_append, List.length_cons] at hL
      exact h1 a b _ na (ih b (by omega))
    · rw [TL.spl_last1 c, List.nil_append]
      exact h0 L c
theorem spl_mem {s : Nat} (L : List Nat) : ∀ p ∈ TL.spl [s] 0 [] L, ∀ c ∈ p, c ∈ L := by
  refine spl_ind (P := fun L r => ∀ p ∈ r, ∀ c ∈ p, c ∈ L) (fun L _ p hp c hc => ?_) (fun a b r _ ih p hp c hc => ?_) L.length L (Nat.le_refl _)
  · rw [List.mem_singleton.mp hp] at hc
    exact hc
  · rcases List.mem_cons.mp hp with rfl | hp
    · exact List.mem_append_left _ hc
    · exact List.mem_append_right _ (List.mem_append_right _ (ih p hp c hc))
theorem spl_len {s : Nat} (L : List Nat) : (TL.spl [s] 0 [] L).length ≤ L.length + 1 ∧ 0 < (TL.spl [s] 0 [] L).length := by
  refine spl_ind (P := fun L r => r.length ≤ L.length + 1 ∧ 0 < r.length) (fun L _ => ⟨by simp, by simp⟩) (fun a b r _ ih => ⟨?_, by simp⟩) L.length L (Nat.le_refl _)
  rw [List.length_append, List.length_append, List.length_cons]
  have : [s].length = 1 := rfl
  omega
/-- the interval that a word is -/
noncomputable def ivf (L : List Nat) : Option (Int × Int) := match TL.spl [45] 0 [] L with
  | [a, b] => match numf a, numf b with
    | some x, some y => if x ≤ y then some (x, y) else none
    | _, _ => none
  | _ => none
theorem hy_kind : ("-" : Str).cps.all (· < 256) = true := by decide +kernel
theorem split_hy (w : Str) : (Txt.split w "-").map TL.tl = TL.spl [45] 0 [] (TL.tl w) := by
  have z := TL.split_spl w "-" (by rw [tl_hy]; simp) (TL.kind_ok hy_kind)
  rw [tl_hy] at z
  exact z
theorem split_sp (w : Str) : (Txt.split w " ").map TL.tl = TL.spl [32] 0 [] (TL.tl w) := by
  have z := TL.split_spl w " " (by rw [tl_sp]; simp) (TL.kind_ok sp_kind)
  rw [tl_sp] at z
  exact z
/-- what the program reads: the two parts around the first hyphen -/
noncomputable def ivg (L : List Nat) : Option (Int × Int) := match TL.par [45] [] L with
  | some (a, b) => match numg a, numg b with
    | some x, some y => if (x ≤ 1000000000000 ∧ y ≤ 1000000000000) ∧ x ≤ y then some (x, y) else none
    | _, _ => none
  | none => none
theorem ivg_eq (L : List Nat) : ivg L = ivf L := by
  unfold ivg ivf
  by_cases c : 45 ∈ L
  · obtain ⟨a, b, rfl, na⟩ := List.eq_append_cons_of_mem c
    have e1 : TL.par [45] [] (a ++ 45 :: b) = some ([] ++ a, b) := TL.par_part1 (S := []) na
    have e2 : TL.spl [45] 0 [] (a ++ 45 :: b) = ([] ++ a) :: TL.spl [45] 0 [] b := TL.spl_part1 (S := []) na
    rw [e1, e2, List.nil_append]
    by_cases d : 45 ∈ b
    · obtain ⟨a2, b2, rfl, na2⟩ := List.eq_append_cons_of_mem d
      have e3 : TL.spl [45] 0 [] (a2 ++ 45 :: b2) = ([] ++ a2) :: TL.spl [45] 0 [] b2 := TL.spl_part1 (S := []) na2
      have l2 := (spl_len (s := 45) b2).2
      rw [e3]
      dsimp only
      rw [numg_45 d]
      cases h2 : TL.spl [45] 0 [] b2 with
      | nil =>
        rw [h2] at l2
        cases l2
      | cons x r =>
        cases numg a <;> rfl
    · rw [TL.spl_last1 d, List.nil_append]
      dsimp only
      rw [numf_of (l := a), numf_of (l := b)]
      cases ha : numg a with
      | none => rfl
      | some x =>
        cases hb : numg b with
        | none =>
          dsimp only
          by_cases cx : x ≤ 1000000000000
          · rw [if_pos cx]
          · rw [if_neg cx]
        | some y =>
          dsimp only
          by_cases cx : x ≤ 1000000000000
          · by_cases cy : y ≤ 1000000000000
            · rw [if_pos cx, if_pos cy]
              dsimp only
              by_cases cxy : x ≤ y
              · rw [if_pos ⟨⟨cx, cy⟩, cxy⟩, if_pos cxy]
              · rw [if_neg (fun z => cxy z.2), if_neg cxy]
            · rw [if_pos cx, if_neg cy, if_neg (fun z => cy z.1.2)]
          · rw [if_neg cx, if_neg (fun z => cx z.1.1)]
  · rw [TL.par_none1 c, TL.spl_last1 c]

def topS (i : Nat) : Stmt := PySem.Challenge.pw_fewspans_k51_texts_parsed.main.body.getD i (.Pass ⟨0, 0, 0, 0⟩)
abbrev s_is_number : Stmt := topS 6
abbrev N_is_number : List Str := ["value"]
theorem sc_is_number : FnScope N_is_number ["value"] (defScope s_is_number) := ⟨rfl, rfl, rfl, by decide +kernel, rfl, by decide +kernel, by decide +kernel⟩
abbrev s_is_position : Stmt := topS 7
abbrev N_is_position : List Str := ["value"]
theorem sc_is_position : FnScope N_is_position ["value"] (defScope s_is_position) := ⟨rfl, rfl, rfl, by decide +kernel, rfl, by decide +kernel, by decide +kernel⟩
abbrev s_is_tuple_of : Stmt := topS 8
abbrev N_is_tuple_of : List Str := ["value", "length"]
theorem sc_is_tuple_of : FnScope N_is_tuple_of ["value", "length"] (defScope s_is_tuple_of) := ⟨rfl, rfl, rfl, by decide +kernel, rfl, by decide +kernel, by decide +kernel⟩
abbrev s_is_interval : Stmt := topS 9
abbrev N_is_interval : List Str := ["value", "low", "high"]
theorem sc_is_interval : FnScope N_is_interval ["value"] (defScope s_is_interval) := ⟨rfl, rfl, rfl, by decide +kernel, rfl, by decide +kernel, by decide +kernel⟩
abbrev s_parse_number : Stmt := topS 11
abbrev N_parse_number : List Str := ["text", "number"]
theorem sc_parse_number : FnScope N_parse_number ["text"] (defScope s_parse_number) := ⟨rfl, rfl, rfl, by decide +kernel, rfl, by decide +kernel, by decide +kernel⟩
abbrev s_parse_interval : Stmt := topS 12
abbrev N_parse_interval : List Str := ["word", "low", "hyphen", "high", "interval"]
theorem sc_parse_interval : FnScope N_parse_interval ["word"] (defScope s_parse_interval) := ⟨rfl, rfl, rfl, by decide +kernel, rfl, by decide +kernel, by decide +kernel⟩
abbrev s_parse_intervals : Stmt := topS 13
abbrev N_parse_intervals : List Str := ["text", "intervals", "index", "word", "interval"]
theorem sc_parse_intervals : FnScope N_parse_intervals ["text"] (defScope s_parse_intervals) := ⟨rfl, rfl, rfl, by decide +kernel, rfl, by decide +kernel, by decide +kernel⟩
abbrev s_law_deck : Stmt := topS 15
abbrev N_law_deck : List Str := ["_law_script", "_law_cell"]
theorem sc_law_deck : FnScope N_law_deck ["_law_script"] (defScope s_law_deck) := ⟨rfl, rfl, rfl, by decide +kernel, rfl, by decide +kernel, by decide +kernel⟩
abbrev s_law_draw : Stmt := topS 16
abbrev N_law_draw : List Str := ["_law_deck_here", "_law_many", "_law_cell", "_law_place"]
theorem sc_law_draw : FnScope N_law_draw ["_law_deck_here", "_law_many"] (defScope s_law_draw) := ⟨rfl, rfl, rfl, by decide +kernel, rfl, by decide +kernel, by decide +kernel⟩
abbrev s_law_same : Stmt := topS 17
abbrev N_law_same : List Str := ["_law_found", "_law_due_here", "_law_one", "_law_other"]
theorem sc_law_same : FnScope N_law_same ["_law_found", "_law_due_here"] (defScope s_law_same) := ⟨rfl, rfl, rfl, by decide +kernel, rfl, by decide +kernel, by decide +kernel⟩
abbrev s_law_small : Stmt := topS 18
abbrev N_law_small : List Str := ["_law_deck_here", "_law_most", "_law_span", "_law_found", "_law_k", "_law_low"]
theorem sc_law_small : FnScope N_law_small ["_law_deck_here", "_law_most", "_law_span"] (defScope s_law_small) := ⟨rfl, rfl, rfl, by decide +kernel, rfl, by decide +kernel, by decide +kernel⟩
abbrev s_law_moved : Stmt := topS 19
abbrev N_law_moved : List Str := ["_law_intervals", "_law_by", "_law_low", "_law_high"]
theorem sc_law_moved : FnScope N_law_moved ["_law_intervals", "_law_by"] (defScope s_law_moved) := ⟨rfl, rfl, rfl, by decide +kernel, rfl, by decide +kernel, by decide +kernel⟩
abbrev s_law_text : Stmt := topS 20
abbrev N_law_text : List Str := ["_law_intervals", "_law_low", "_law_high"]
theorem sc_law_text : FnScope N_law_text ["_law_intervals"] (defScope s_law_text) := ⟨rfl, rfl, rfl, by decide +kernel, rfl, by decide +kernel, by decide +kernel⟩
abbrev s_law_odd : Stmt := topS 21
abbrev N_law_odd : List Str := ["_law_deck_here", "_law_some"]
theorem sc_law_odd : FnScope N_law_odd ["_law_deck_here"] (defScope s_law_odd) := ⟨rfl, rfl, rfl, by decide +kernel, rfl, by decide +kernel, by decide +kernel⟩
abbrev s_law_bent : Stmt := topS 22
abbrev N_law_bent : List Str := ["_law_deck_here", "_law_text_here", "_law_words", "_law_at", "_law_way", "_law_place", "_law_sign"]
theorem sc_law_bent : FnScope N_law_bent ["_law_deck_here", "_law_text_here"] (defScope s_law_bent) := ⟨rfl, rfl, rfl, by decide +kernel, rfl, by decide +kernel, by decide +kernel⟩
abbrev s_law_number : Stmt := topS 23
abbrev N_law_number : List Str := ["_law_part", "_law_sign"]
theorem sc_law_number : FnScope N_law_number ["_law_part"] (defScope s_law_number) := ⟨rfl, rfl, rfl, by decide +kernel, rfl, by decide +kernel, by decide +kernel⟩
abbrev s_law_due : Stmt := topS 24
abbrev N_law_due : List Str := ["_law_text_here", "_law_found", "_law_words", "_law_index", "_law_parts", "_law_part"]
theorem sc_law_due : FnScope N_law_due ["_law_text_here"] (defScope s_law_due) := ⟨rfl, rfl, rfl, by decide +kernel, rfl, by decide +kernel, by decide +kernel⟩
abbrev s_law_told : Stmt := topS 25
abbrev N_law_told : List Str := ["_law_text_here", "error"]
theorem sc_law_told : FnScope N_law_told ["_law_text_here"] (defScope s_law_told) := ⟨rfl, rfl, rfl, by decide +kernel, rfl, by decide +kernel, by decide +kernel⟩
abbrev s_law : Stmt := topS 26
abbrev N_law : List Str := ["_law_script", "_law_deck_here", "_law_by", "_law_text_here", "_law_things", "_law_turn", "_law_thing", "_law_kept"]
theorem sc_law : FnScope N_law ["_law_script"] (defScope s_law) := ⟨rfl, rfl, rfl, by decide +kernel, rfl, by decide +kernel, by decide +kernel⟩
abbrev s_BadText_init : Stmt := inClass (topS 4) 0
abbrev N_BadText_init : List Str := ["self", "index"]
theorem sc_BadText_init : FnScope N_BadText_init ["self", "index"] (defScope s_BadText_init) := ⟨rfl, rfl, rfl, by decide +kernel, rfl, by decide +kernel, by decide +kernel⟩
/-! ### the deck and its draws -/
structure Dk (H : Hp) (d c : Addr) (n : Int) : Prop where
  top : H d = some (.lst [.ref c, .int n])
  cells : ∃ xs : List Int, H c = some (.lst (xs.map V.int)) ∧ xs.length ≤ 63 ∧ ∀ x ∈ xs, 0 ≤ x
theorem Dk.ne {H : Hp} {d c : Addr} {n : Int} (h : Dk H d c n) : c ≠ d := by
  obtain ⟨xs, e, _⟩ := h.cells
  intro z
  subst z
  have q := e.symm.trans h.top
  cases xs with
  | nil => cases q
  | cons x r => cases q
/-- nothing but the deck has changed -/
def Kp (d c : Addr) (H H' : Hp) : Prop := ∀ b o, b ≠ d → b ≠ c → H b = some o → H' b = some o
theorem Kp.trans {d c : Addr} {H H1 H2 : Hp} (h1 : Kp d c H H1) (h2 : Kp d c H1 H2) : Kp d c H H2 := fun b o n1 n2 e => h2 b o n1 n2 (h1 b o n1 n2 e)
theorem Kp.same {d c : Addr} {H H1 : Hp} (h : Same H H1) : Kp d c H H1 := fun b o _ _ e => h b o e
theorem Kp.none {d c : Addr} {H H' : Hp} (k : Kp d c H H') {n m : Int} (h : Dk H d c n) (h' : Dk H' d c m) {t : Addr} (e : H' t = none) : H t = none := by
  by_cases e1 : t = d
  · rw [e1, h'.top] at e
    cases e
  · by_cases e2 : t = c
    · obtain ⟨xs, z, _⟩ := h'.cells
      rw [e2, z] at e
      cases e
    · cases q : H t with
      | none => rfl
      | some o =>
        rw [k t o e1 e2 q] at e
        cases e
theorem Dk.kept {H H' : Hp} {d c : Addr} {n : Int} (h : Dk H d c n) (s : Same H H') : Dk H' d c n :=
  let ⟨xs, e, a⟩ := h.cells
  ⟨s _ _ h.top, xs, s _ _ e, a⟩
theorem Dk.eq {H : Hp} {d c : Addr} {n m : Int} (h : Dk H d c n) (e : n = m) : Dk H d c m := e ▸ h
def sp_law_deck (K : PySem.W.Frag) : Sp := fun vs H Q _ => ∃ (a : Addr) (ns : List Int), vs = [.ref a] ∧ SqL K H a (ns.map V.int) ∧ ns.length ≤ 63 ∧
  ∀ H' d c, Same H H' → H d = none → H c = none → Dk H' d c 0 → Q (.ref d) H'
def sp_law_draw : Sp := fun vs H Q _ => ∃ (d c : Addr) (n lim : Int), vs = [.ref d, .int lim] ∧ Dk H d c n ∧ 0 ≤ n ∧ n < 1000000 ∧ 0 < lim ∧ lim < 2 ^ 63 ∧
  ∀ H' r, Kp d c H H' → Dk H' d c (n + 1) → 0 ≤ r → r < lim → Q (.int r) H'
theorem same_new {H : Hp} {p : Addr} {o : HO} (h : H p = none) : Same H (upd H p o) := fun b x e => by
  rw [upd_ne (ne_of_none e h)]
  exact e
theorem cutTo (xs : List V) (j : Nat) : cutV xs none (some (j : Int)) = xs.take j := by
  unfold cutV
  rw [HT.sIx_none, show HT.sIx xs.length xs.length (some (j : Int)) = min j xs.length from HT.sIx_nat xs.length xs.length j]
  rw [Nat.sub_zero, List.drop_zero]
  rcases Nat.le_total j xs.length with h | h
  · rw [Nat.min_eq_left h]
  · rw [Nat.min_eq_right h, List.take_length, List.take_of_length_le h]
section
structure Tx (K : PySem.W.Frag) (mg : Str → Option Value) (f_is_number f_is_position f_is_tuple_of f_is_interval f_parse_number f_parse_interval f_parse_intervals f_law_deck f_law_draw f_law_same f_law_small f_law_moved f_law_text f_law_odd f_law_bent f_law_number f_law_due f_law_told f_law f_BadText_init X_BadText X_SpanError X_BadInterval : Addr) (d_is_number d_is_position d_is_tuple_of d_is_interval d_parse_number d_parse_interval d_parse_intervals d_law_deck d_law_draw d_law_same d_law_small d_law_moved d_law_text d_law_odd d_law_bent d_law_number d_law_due d_law_told d_law d_BadText_init : FuncData) (t_LAST_POSITION : Tok) : Prop where
  F_is_number : Fun K "is_number" "is_number" s_is_number f_is_number d_is_number
  b_is_number : Binds K d_is_number ["value"] []
  g_is_number : mg "is_number" = some (.ref f_is_number)
  F_is_position : Fun K "is_position" "is_position" s_is_position f_is_position d_is_position
  b_is_position : Binds K d_is_position ["value"] []
  g_is_position : mg "is_position" = some (.ref f_is_position)
  F_is_tuple_of : Fun K "is_tuple_of" "is_tuple_of" s_is_tuple_of f_is_tuple_of d_is_tuple_of
  b_is_tuple_of : Binds K d_is_tuple_of ["value", "length"] []
  g_is_tuple_of : mg "is_tuple_of" = some (.ref f_is_tuple_of)
  F_is_interval : Fun K "is_interval" "is_interval" s_is_interval f_is_interval d_is_interval
  b_is_interval : Binds K d_is_interval ["value"] []
  g_is_interval : mg "is_interval" = some (.ref f_is_interval)
  F_parse_number : Fun K "parse_number" "parse_number" s_parse_number f_parse_number d_parse_number
  b_parse_number : Binds K d_parse_number ["text"] []
  g_parse_number : mg "parse_number" = some (.ref f_parse_number)
  F_parse_interval : Fun K "parse_interval" "parse_interval" s_parse_interval f_parse_interval d_parse_interval
  b_parse_interval : Binds K d_parse_interval ["word"] []
  g_parse_interval : mg "parse_interval" = some (.ref f_parse_interval)
  F_parse_intervals : Fun K "parse_intervals" "parse_intervals" s_parse_intervals f_parse_intervals d_parse_intervals
  b_parse_intervals : Binds K d_parse_intervals ["text"] []
  g_parse_intervals : mg "parse_intervals" = some (.ref f_parse_intervals)
  F_law_deck : Fun K "_law_deck" "_law_deck" s_law_deck f_law_deck d_law_deck
  b_law_deck : Binds K d_law_deck ["_law_script"] []
  g_law_deck : mg "_law_deck" = some (.ref f_law_deck)
  F_law_draw : Fun K "_law_draw" "_law_draw" s_law_draw f_law_draw d_law_draw
  b_law_draw : Binds K d_law_draw ["_law_deck_here", "_law_many"] []
  g_law_draw : mg "_law_draw" = some (.ref f_law_draw)
  F_law_same : Fun K "_law_same" "_law_same" s_law_same f_law_same d_law_same
  b_law_same : Binds K d_law_same ["_law_found", "_law_due_here"] []
  g_law_same : mg "_law_same" = some (.ref f_law_same)
  F_law_small : Fun K "_law_small" "_law_small" s_law_small f_law_small d_law_small
  b_law_small : Binds K d_law_small ["_law_deck_here", "_law_most", "_law_span"] []
  g_law_small : mg "_law_small" = some (.ref f_law_small)
  F_law_moved : Fun K "_law_moved" "_law_moved" s_law_moved f_law_moved d_law_moved
  b_law_moved : Binds K d_law_moved ["_law_intervals", "_law_by"] []
  g_law_moved : mg "_law_moved" = some (.ref f_law_moved)
  F_law_text : Fun K "_law_text" "_law_text" s_law_text f_law_text d_law_text
  b_law_text : Binds K d_law_text ["_law_intervals"] []
  g_law_text : mg "_law_text" = some (.ref f_law_text)
  F_law_odd : Fun K "_law_odd" "_law_odd" s_law_odd f_law_odd d_law_odd
  b_law_odd : Binds K d_law_odd ["_law_deck_here"] []
  g_law_odd : mg "_law_odd" = some (.ref f_law_odd)
  F_law_bent : Fun K "_law_bent" "_law_bent" s_law_bent f_law_bent d_law_bent
  b_law_bent : Binds K d_law_bent ["_law_deck_here", "_law_text_here"] []
  g_law_bent : mg "_law_bent" = some (.ref f_law_bent)
  F_law_number : Fun K "_law_number" "_law_number" s_law_number f_law_number d_law_number
  b_law_number : Binds K d_law_number ["_law_part"] []
  g_law_number : mg "_law_number" = some (.ref f_law_number)
  F_law_due : Fun K "_law_due" "_law_due" s_law_due f_law_due d_law_due
  b_law_due : Binds K d_law_due ["_law_text_here"] []
  g_law_due : mg "_law_due" = some (.ref f_law_due)
  F_law_told : Fun K "_law_told" "_law_told" s_law_told f_law_told d_law_told
  b_law_told : Binds K d_law_told ["_law_text_here"] []
  g_law_told : mg "_law_told" = some (.ref f_law_told)
  F_law : Fun K "law" "law" s_law f_law d_law
  b_law : Binds K d_law ["_law_script"] []
  g_law : mg "law" = some (.ref f_law)
  F_BadText_init : Fun K "__init__" "BadText.__init__" s_BadText_init f_BadText_init d_BadText_init
  b_BadText_init : Binds K d_BadText_init ["self", "index"] []
  c_LAST_POSITION : mg "LAST_POSITION" = some (.int 1000000000000 t_LAST_POSITION)
  z_ValueError : mg "ValueError" = none
  z_abs : mg "abs" = none
  z_bool : mg "bool" = none
  z_enumerate : mg "enumerate" = none
  z_int : mg "int" = none
  z_isinstance : mg "isinstance" = none
  z_len : mg "len" = none
  z_range : mg "range" = none
  z_repr : mg "repr" = none
  z_set : mg "set" = none
  z_sorted : mg "sorted" = none
  z_str : mg "str" = none
  z_tuple : mg "tuple" = none
  z_zip : mg "zip" = none
  xn_BadText : XcN K mg "BadText" X_BadText
  xn_SpanError : XcN K mg "SpanError" X_SpanError
  xn_BadInterval : XcN K mg "BadInterval" X_BadInterval
  xi_BadText : XcI K X_BadText f_BadText_init "index"
  xv_BadText : PySem.W.subIn K (.ref X_BadText) (.type "ValueError") = some true
  xl_BadText : PySem.W.subIn K (.ref X_BadText) (.type "LookupError") = some false
  xs_BadText_SpanError : PySem.W.subIn K (.ref X_BadText) (.ref X_SpanError) = some true
  xs_BadText_BadInterval : PySem.W.subIn K (.ref X_BadText) (.ref X_BadInterval) = some false
variable {P : Program} {w : World} {K : PySem.W.Frag} {mg : Str → Option Value} {base : Heap} {f_is_number f_is_position f_is_tuple_of f_is_interval f_parse_number f_parse_interval f_parse_intervals f_law_deck f_law_draw f_law_same f_law_small f_law_moved f_law_text f_law_odd f_law_bent f_law_number f_law_due f_law_told f_law f_BadText_init X_BadText X_SpanError X_BadInterval : Addr} {d_is_number d_is_position d_is_tuple_of d_is_interval d_parse_number d_parse_interval d_parse_intervals d_law_deck d_law_draw d_law_same d_law_small d_law_moved d_law_text d_law_odd d_law_bent d_law_number d_law_due d_law_told d_law d_BadText_init : FuncData} {t_LAST_POSITION : Tok}
abbrev TxA (K : PySem.W.Frag) (mg : Str → Option Value) (f_is_number f_is_position f_is_tuple_of f_is_interval f_parse_number f_parse_interval f_parse_intervals f_law_deck f_law_draw f_law_same f_law_small f_law_moved f_law_text f_law_odd f_law_bent f_law_number f_law_due f_law_told f_law f_BadText_init X_BadText X_SpanError X_BadInterval : Addr) (d_is_number d_is_position d_is_tuple_of d_is_interval d_parse_number d_parse_interval d_parse_intervals d_law_deck d_law_draw d_law_same d_law_small d_law_moved d_law_text d_law_odd d_law_bent d_law_number d_law_due d_law_told d_law d_BadText_init : FuncData) (t_LAST_POSITION : Tok) := Tx K mg f_is_number f_is_position f_is_tuple_of f_is_interval f_parse_number f_parse_interval f_parse_intervals f_law_deck f_law_draw f_law_same f_law_small f_law_moved f_law_text f_law_odd f_law_bent f_law_number f_law_due f_law_told f_law f_BadText_init X_BadText X_SpanError X_BadInterval d_is_number d_is_position d_is_tuple_of d_is_interval d_parse_number d_parse_interval d_parse_intervals d_law_deck d_law_draw d_law_same d_law_small d_law_moved d_law_text d_law_odd d_law_bent d_law_number d_law_due d_law_told d_law d_BadText_init t_LAST_POSITION
theorem ok_law_deck (T : Tx K mg f_is_number f_is_position f_is_tuple_of f_is_interval f_parse_number f_parse_interval f_parse_intervals f_law_deck f_law_draw f_law_same f_law_small f_law_moved f_law_text f_law_odd f_law_bent f_law_number f_law_due f_law_told f_law f_BadText_init X_BadText X_SpanError X_BadInterval d_is_number d_is_position d_is_tuple_of d_is_interval d_parse_number d_parse_interval d_parse_intervals d_law_deck d_law_draw d_law_same d_law_small d_law_moved d_law_text d_law_odd d_law_bent d_law_number d_law_due d_law_told d_law d_BadText_init t_LAST_POSITION) : FnOk P w K mg base CX0 1 f_law_deck d_law_deck ["_law_script"] (sp_law_deck K) := by
  refine T.F_law_deck.ok sc_law_deck (fun vs H Q E h => ?_) (fun cdv A outer s H vs Q E hr h => ?_)
  · obtain ⟨a, ns, rfl, _⟩ := h
    rfl
  · obtain ⟨a, ns0, rfl, hS, hlen, q⟩ := h
    refine ⟨_, (pss_one (ps_ret (pe_lst (pa_cons (pe_lc (own := [("_law_cell", 1)]) (g := (gName 1)) (tt := tYes) (by rfl) sc_law_deck.nd (pi_list (pe_slice sl_list (pv 0) po_none (po_some pe_int))) (blkOk_by (own := [("_law_cell", 1)]) (N := N_law_deck) (sc := defScope s_law_deck) (by decide +kernel)) (fun _ _ _ _ _ => (pg_name (i := 1) sc_law_deck.nd rfl (Or.inl rfl))) (fun _ _ _ _ _ => pts_nil) (fun _ _ _ _ _ => (pe_callB call_abs (by rfl) T.z_abs (by decide +kernel) (pa_cons (pv 1) pa_nil)))) (pa_cons pe_int pa_nil))))), ?_⟩
    refine ⟨.ref a, rfl, 63, rfl, a, ns0.map V.int, rfl, hS, fun p np => ?_⟩
    rw [show cutV (ns0.map V.int) none (some 63) = (ns0.take 63).map V.int by rw [List.map_take]; exact cutTo _ 63]
    have hlen : (ns0.take 63).length ≤ 63 := Nat.le_trans (List.length_take_le' _ _) hlen
    generalize ns0.take 63 = ns at *
    have s1 : Same H (upd H p (.lst (ns.map V.int))) := same_new np
    refine ⟨p, rfl, ⟨_, SqL.of upd_same⟩, fun D nD => ?_⟩
    have nDp : D ≠ p := fun e => by
      rw [e, upd_same] at nD
      cases nD
    have nD0 : H D = none := by
      rw [upd_ne nDp] at nD
      exact nD
    refine lc_list (K := K) (a := p) (xs := ns.map V.int) (fun i H' => Same (upd H p (.lst (ns.map V.int))) H' ∧ H' D = some (.lst (((ns.take i).map fun (x : Int) => if x < 0 then -x else x).map V.int))) ⟨same_new nD, upd_same⟩ (fun i H' _ h => h.1.seq (SqL.of upd_same)) ?_ ?_
    · rintro i x H' hi ⟨sm, eD⟩
      rw [List.getElem?_map] at hi
      obtain ⟨n, en, rfl⟩ := Option.map_eq_some_iff.mp hi
      refine ⟨rfl, .int n, rfl, n, rfl, _, eD, ?_, ?_, ?_⟩
      · have : (List.take i ns).length ≤ ns.length := List.length_take_le' i ns
        simp only [List.length_map]
        exact small1000 (by omega)
      · intro b o e
        have nb : b ≠ D := ne_of_none e nD
        rw [upd_ne nb]
        exact sm b o e
      · rw [upd_same, List.take_add_one, en]
        simp
    · rintro H' ⟨sm, eD⟩
      rw [List.length_map, List.take_length] at eD
      refine ⟨by show 2 ≤ sizeLine; decide, fun d nd => ?_⟩
      have nDd : D ≠ d := ne_of_none eD nd
      have nd0 : H d = none := s1.free (sm.free nd)
      refine q _ d D (s1.trans (sm.trans (same_new nd))) nd0 nD0 ⟨upd_same, _, by rw [upd_ne nDd]; exact eD, by rw [List.length_map]; exact hlen, fun x hx => ?_⟩
      obtain ⟨y, _, rfl⟩ := List.mem_map.mp hx
      split <;> omega
theorem ok_law_draw (T : Tx K mg f_is_number f_is_position f_is_tuple_of f_is_interval f_parse_number f_parse_interval f_parse_intervals f_law_deck f_law_draw f_law_same f_law_small f_law_moved f_law_text f_law_odd f_law_bent f_law_number f_law_due f_law_told f_law f_BadText_init X_BadText X_SpanError X_BadInterval d_is_number d_is_position d_is_tuple_of d_is_interval d_parse_number d_parse_interval d_parse_intervals d_law_deck d_law_draw d_law_same d_law_small d_law_moved d_law_text d_law_odd d_law_bent d_law_number d_law_due d_law_told d_law d_BadText_init t_LAST_POSITION) : FnOk P w K mg base CX0 1 f_law_draw d_law_draw ["_law_deck_here", "_law_many"] sp_law_draw := by
  refine T.F_law_draw.ok sc_law_draw (fun vs H Q E h => ?_) (fun cdv A outer s H vs Q E hr h => ?_)
  · obtain ⟨d, c, n, lim, rfl, _⟩ := h
    rfl
  · obtain ⟨d, c, n, lim, rfl, dk, n0, n1, l0, l1, q⟩ := h
    obtain ⟨xs, ec, xl, xp⟩ := dk.cells
    have ncd := dk.ne
    have ed := dk.top
    have l64 : lim.natAbs < 2 ^ 64 := by omega
    have n64 : (n + 1).natAbs < 2 ^ 64 := by omega
    refine ⟨_, (pss_cons (ps_asg (pe_op op_add (pe_ix ix_list (pv 0) pe_int (fun _ _ => rfl)) pe_int) (pg_sub (pv 0) pe_int set_list))
      (pss_cons (ps_set (i := 2) sc_law_draw.nd rfl (Or.inl rfl) pe_int)
      (pss_cons (ps_set (i := 3) sc_law_draw.nd rfl (Or.inl rfl) (pe_un un_neg pe_int))
      (pss_cons (ps_if (pt_cmpR op_gt (pe_callB call_len_seq (by rfl) T.z_len PySem.boot_len (pa_cons (pe_ix ix_list (pv 0) pe_int (fun _ _ => rfl)) pa_nil)) pe_int (nomark _))
      (pss_cons (ps_set (i := 3) sc_law_draw.nd rfl (Or.inl rfl) (pe_op op_mod (pe_ix ix_list (pv 0) pe_int (fun _ _ => rfl)) (pe_callB call_len_seq (by rfl) T.z_len PySem.boot_len (pa_cons (pe_ix ix_list (pv 0) pe_int (fun _ _ => rfl)) pa_nil))))
      (pss_one (ps_set (i := 2) sc_law_draw.nd rfl (Or.inl rfl) (pe_ix ix_list (pe_ix ix_list (pv 0) pe_int (fun _ _ => rfl)) (pv 3) (fun _ _ => rfl)))))
      pss_nil)
      (pss_cons (ps_if (pt_cmpR op_ge (pv 2) (pe_op op_pow pe_int pe_int) (nomark _))
      (pss_cons (ps_asg (pe_op op_fdivW (pv 2) (pv 1)) (pg_sub (pe_ix ix_list (pv 0) pe_int (fun _ _ => rfl)) (pv 3) set_list))
      (pss_one (ps_ret (pe_op op_mod (pv 2) (pv 1)))))
      pss_nil)
      (pss_one (ps_ret (pe_op op_mod (pe_op op_mod (pe_op op_pow (pe_op op_add (pe_op op_add (pe_op op_mod (pv 2) pe_int) (pe_op op_mulW pe_int (pe_ix ix_list (pv 0) pe_int (fun _ _ => rfl)))) pe_int) pe_int) pe_int) (pv 1))))))))), ?_⟩
    refine ⟨.ref d, rfl, d, _, 1, .int n, rfl, rfl, SqL.of ed, rfl, n, 1, rfl, rfl, .ref d, rfl, d, _, 1, 1, rfl, rfl, ed, rfl, ?_⟩
    generalize eH : upd H d (.lst ([V.ref c, V.int n].set 1 (.int (n + 1)))) = H1
    have ed1 : H1 d = some (.lst [.ref c, .int (n + 1)]) := by
      rw [← eH, upd_same]
      rfl
    have ec1 : H1 c = some (.lst (xs.map V.int)) := by
      rw [← eH, upd_ne ncd]
      exact ec
    have kp1 : Kp d c H H1 := fun b o nb _ e => by
      rw [← eH, upd_ne nb]
      exact e
    have dk1 : Dk H1 d c (n + 1) := ⟨ed1, xs, ec1, xl, xp⟩
    refine ⟨1, rfl, ?_⟩
    refine ⟨.ref d, rfl, d, _, 0, .ref c, rfl, rfl, SqL.of ed1, rfl, c, _, rfl, .inl (SqL.of ec1), _, _, rfl, rfl, _, rfl, ite2 (fun e => ?_) (fun e => ?_)⟩
    · have e1 := of_decide_eq_true e
      rw [List.length_map] at e1
      have lp : (0 : Int) < (xs.map V.int).length := by rw [List.length_map]; exact e1
      have rem0 : 0 ≤ (n + 1) % ((xs.map V.int).length : Int) := Int.emod_nonneg _ (by omega)
      have rem1 : (n + 1) % ((xs.map V.int).length : Int) < (xs.map V.int).length := Int.emod_lt_of_pos _ lp
      obtain ⟨j, ej⟩ : ∃ j : Nat, (n + 1) % ((xs.map V.int).length : Int) = j := ⟨_, (Int.toNat_of_nonneg rem0).symm⟩
      have hj : j < xs.length := by
        rw [ej, List.length_map] at rem1
        omega
      have gj : (xs.map V.int)[j]? = some (.int xs[j]) := by
        rw [List.getElem?_map, List.getElem?_eq_getElem hj]
        rfl
      have x0 : 0 ≤ xs[j] := xp _ (List.getElem_mem hj)
      refine ⟨.ref d, rfl, d, _, 1, .int (n + 1), rfl, rfl, SqL.of ed1, rfl, .ref d, rfl, d, _, 0, .ref c, rfl, rfl, SqL.of ed1, rfl, c, _, rfl, .inl (SqL.of ec1), _, _, rfl, rfl, lp, ?_⟩
      refine ⟨.ref d, rfl, d, _, 0, .ref c, rfl, rfl, SqL.of ed1, rfl, .int _, rfl, c, _, _, .int xs[j], rfl, rfl, SqL.of ec1, (by rw [ej]; exact atI_nat gj), ?_⟩
      refine ⟨.int xs[j], rfl, 10, 18, rfl, rfl, ⟨by decide, by decide, by decide⟩, _, _, rfl, rfl, _, rfl, ite2 (fun e2 => ?_) (fun e2 => ?_)⟩
      · refine ⟨.int xs[j], rfl, .int lim, rfl, _, _, rfl, rfl, wide_div l0 l64 (by decide) (by decide), .ref d, rfl, d, _, 0, .ref c, rfl, rfl, SqL.of ed1, rfl, .int _, rfl, c, _, _, j, rfl, rfl, ec1, ?_, ?_⟩
        · rw [ej]
          unfold ixN
          rw [if_pos (by omega), if_pos (by rw [List.length_map]; omega)]
          rfl
        · refine ⟨.int xs[j], rfl, .int lim, rfl, _, _, rfl, rfl, l0, ?_⟩
          refine q _ _ ?_ ⟨?_, xs.set j (xs[j] / lim), ?_, ?_, ?_⟩ (Int.emod_nonneg _ (by omega)) (Int.emod_lt_of_pos _ l0)
          · intro b o nb nc e
            rw [upd_ne nc]
            exact kp1 b o nb nc e
          · rw [upd_ne ncd.symm]
            exact ed1
          · rw [upd_same, List.map_set]
          · rw [List.length_set]
            exact xl
          · intro x hx
            rcases List.mem_or_eq_of_mem_set hx with hm | he
            · exact xp x hm
            · rw [he]
              exact Int.ediv_nonneg x0 (by omega)
      · refine ⟨.int xs[j], rfl, _, _, rfl, rfl, (by show (0 : Int) < 2147483587; decide), .ref d, rfl, d, _, 1, .int (n + 1), rfl, rfl, SqL.of ed1, rfl, _, _, rfl, rfl, wide_mul (a := 13) (b := 64) (by decide) n64 (by decide) (by decide) (by decide), _, _, rfl, rfl, _, _, rfl, rfl, _, _, rfl, rfl, ⟨by decide, by decide, ?_⟩, _, _, rfl, rfl, (by show (0 : Int) < 2147483647; decide), .int lim, rfl, _, _, rfl, rfl, l0, ?_⟩
        · have a0 := Int.emod_nonneg xs[j] (show (2147483587 : Int) ≠ 0 by decide)
          have a1 := Int.emod_lt_of_pos xs[j] (show (0 : Int) < 2147483587 by decide)
          omega
        · exact q _ _ kp1 dk1 (Int.emod_nonneg _ (by omega)) (Int.emod_lt_of_pos _ l0)
    · refine ⟨.int 0, rfl, 10, 18, rfl, rfl, ⟨by decide, by decide, by decide⟩, _, _, rfl, rfl, _, rfl, ite2 (fun e2 => ?_) (fun e2 => ?_)⟩
      · exact absurd e2 (by decide)
      · refine ⟨.int 0, rfl, _, _, rfl, rfl, (by show (0 : Int) < 2147483587; decide), .ref d, rfl, d, _, 1, .int (n + 1), rfl, rfl, SqL.of ed1, rfl, _, _, rfl, rfl, wide_mul (a := 13) (b := 64) (by decide) n64 (by decide) (by decide) (by decide), _, _, rfl, rfl, _, _, rfl, rfl, _, _, rfl, rfl, ⟨by decide, by decide, ?_⟩, _, _, rfl, rfl, (by show (0 : Int) < 2147483647; decide), .int lim, rfl, _, _, rfl, rfl, l0, ?_⟩
        · have a0 := Int.emod_nonneg 0 (show (2147483587 : Int) ≠ 0 by decide)
          have a1 := Int.emod_lt_of_pos 0 (show (0 : Int) < 2147483587 by decide)
          omega
        · exact q _ _ kp1 dk1 (Int.emod_nonneg _ (by omega)) (Int.emod_lt_of_pos _ l0)
theorem Kp.keep {d c : Addr} {H H' : Hp} (k : Kp d c H H') {a : Addr} {o : HO} (n1 : a ≠ d ∧ a ≠ c) (h : H a = some o) : H' a = some o := k a o n1.1 n1.2 h
theorem Kp.tup {d c : Addr} {n : Int} {H H' : Hp} (k : Kp d c H H') (dk : Dk H d c n) {a : Addr} {xs : List V} (h : H a = some (.tup xs)) : H' a = some (.tup xs) := by
  obtain ⟨ys, e, _⟩ := dk.cells
  exact k a _ (ne_of h dk.top (fun z => by cases z)) (ne_of h e (fun z => by cases z)) h
theorem Dk.off {H : Hp} {d c : Addr} {n : Int} (h : Dk H d c n) {p : Addr} (e : H p = none) : p ≠ d ∧ p ≠ c := by
  obtain ⟨ys, z, _⟩ := h.cells
  exact ⟨(ne_of_none h.top e).symm, (ne_of_none z e).symm⟩
theorem Dk.upd {H : Hp} {d c : Addr} {n : Int} (h : Dk H d c n) {p : Addr} {o : HO} (off : p ≠ d ∧ p ≠ c) : Dk (upd H p o) d c n := by
  obtain ⟨ys, z, w⟩ := h.cells
  exact ⟨by rw [upd_ne off.1.symm]; exact h.top, ys, by rw [upd_ne off.2.symm]; exact z, w⟩

abbrev Off (d c p : Addr) : Prop := p ≠ d ∧ p ≠ c
/-! ### what stays when the heap grows, or the deck is drawn from -/
theorem rd_same {H H' : Hp} (s : Same H H') {a : Addr} {u : HO} (h : Rd H a u) : Rd H' a u := by
  rcases h with h | ⟨o, h⟩
  · exact .inl (s _ _ h)
  · exact .inr ⟨o, s _ _ h⟩
theorem sqT_same {K : PySem.W.Frag} {H H' : Hp} (s : Same H H') {a : Addr} {xs : List V} (h : SqT K H a xs) : SqT K H' a xs := by
  rcases h with h | h
  · exact .inl (rd_same s h)
  · exact .inr h
theorem dp_same {K : PySem.W.Frag} {H H' : Hp} (s : Same H H') {v : V} {d : PyData} (h : Dp K H v d) : Dp K H' v d := by
  refine Dp.rec (K := K) (H := H) (motive_1 := fun v d _ => Dp K H' v d) (motive_2 := fun vs ds _ => DpAll K H' vs ds) .non (fun b => .bl b) (fun i => .int i) (fun x => .str x) (fun hs _ q => .lst (s.seq hs) q) (fun hs _ q => .tup (sqT_same s hs) q) .nil (fun _ _ a b => .cons a b) h
theorem dp2 {K : PySem.W.Frag} {H : Hp} {t : Addr} {x y : Int} (h : H t = some (.tup [.int x, .int y])) : Dp K H (.ref t) (.tuple [.int x, .int y]) := .tup (SqT.of h) (.cons (.int x) (.cons (.int y) .nil))
theorem sm2 {x y : Int} (h1 : x.natAbs < 10 ^ 30) (h2 : y.natAbs < 10 ^ 30) : Sm 202 1 (.tuple [.int x, .int y]) := by
  have h := Sm.tup (n := 100) (dp := 0) (ds := [.int x, .int y]) (fun d hd => by
    rcases List.mem_cons.mp hd with rfl | hd
    · exact Sm.int h1
    · rcases List.mem_cons.mp hd with rfl | hd
      · exact Sm.int h2
      · cases hd)
  exact h
/-- an interval, or None -/
def optD : Option (Int × Int) → PyData
  | none => .none
  | some (x, y) => .tuple [.int x, .int y]
def OV (H : Hp) (v : V) : Option (Int × Int) → Prop
  | none => v = .non
  | some (x, y) => ∃ t, v = .ref t ∧ H t = some (.tup [.int x, .int y])
theorem OV.same {H H' : Hp} (s : Same H H') {v : V} {o : Option (Int × Int)} (h : OV H v o) : OV H' v o := by
  match o, h with
  | none, h => exact h
  | some (x, y), h =>
    obtain ⟨t, e, z⟩ := h
    exact ⟨t, e, s _ _ z⟩
theorem OV.kp {d c : Addr} {n : Int} {H H' : Hp} (k : Kp d c H H') (dk : Dk H d c n) {v : V} {o : Option (Int × Int)} (h : OV H v o) : OV H' v o := by
  match o, h with
  | none, h => exact h
  | some (x, y), h =>
    obtain ⟨t, e, z⟩ := h
    exact ⟨t, e, k.tup dk z⟩
theorem OV.dp {K : PySem.W.Frag} {H : Hp} {v : V} {o : Option (Int × Int)} (h : OV H v o) : Dp K H v (optD o) := by
  match o, h with
  | none, h =>
    cases h
    exact .non
  | some (x, y), h =>
    obtain ⟨t, e, z⟩ := h
    subst e
    exact dp2 z

/-! ### rows of intervals -/
inductive Ivs (H : Hp) : List V → List (Int × Int) → Prop
  | nil : Ivs H [] []
  | cons {a : Addr} {x y : Int} {vs : List V} {ps : List (Int × Int)} : H a = some (.tup [.int x, .int y]) → Ivs H vs ps → Ivs H (.ref a :: vs) ((x, y) :: ps)
theorem Ivs.length {H : Hp} {vs : List V} {ps : List (Int × Int)} (h : Ivs H vs ps) : vs.length = ps.length := by
  induction h with
  | nil => rfl
  | cons _ _ ih => rw [List.length_cons, List.length_cons, ih]
theorem Ivs.same {H H' : Hp} (s : Same H H') {vs : List V} {ps : List (Int × Int)} (h : Ivs H vs ps) : Ivs H' vs ps := by
  induction h with
  | nil => exact .nil
  | cons e _ ih => exact .cons (s _ _ e) ih
theorem Ivs.kp {d c : Addr} {n : Int} {H H' : Hp} (k : Kp d c H H') (dk : Dk H d c n) {vs : List V} {ps : List (Int × Int)} (h : Ivs H vs ps) : Ivs H' vs ps := by
  induction h with
  | nil => exact .nil
  | cons e _ ih => exact .cons (k.tup dk e) ih
theorem Ivs.get {H : Hp} {vs : List V} {ps : List (Int × Int)} (h : Ivs H vs ps) : ∀ {i : Nat} {v : V}, vs[i]? = some v → ∃ a x y, v = .ref a ∧ ps[i]? = some (x, y) ∧ H a = some (.tup [.int x, .int y]) := by
  induction h with
  | nil =>
    intro i v e
    simp at e
  | cons e _ ih =>
    intro i v q
    cases i with
    | zero =>
      cases q
      exact ⟨_, _, _, rfl, rfl, e⟩
    | succ i => exact ih q
theorem Ivs.snoc {H : Hp} {vs : List V} {ps : List (Int × Int)} {a : Addr} {x y : Int} (h : Ivs H vs ps) (e : H a = some (.tup [.int x, .int y])) : Ivs H (vs ++ [.ref a]) (ps ++ [(x, y)]) := by
  induction h with
  | nil => exact .cons e .nil
  | cons z _ ih => exact .cons z ih
def pairD (p : Int × Int) : PyData := .tuple [.int p.1, .int p.2]
theorem Ivs.dp {K : PySem.W.Frag} {H : Hp} {vs : List V} {ps : List (Int × Int)} (h : Ivs H vs ps) : DpAll K H vs (ps.map pairD) := by
  induction h with
  | nil => exact .nil
  | cons e _ ih => exact .cons (dp2 e) ih

/-! ### comprehensions that change nothing but make new objects -/
/-- the tuples stay -/
def Tps (H H' : Hp) : Prop := ∀ b xs, H b = some (.tup xs) → H' b = some (.tup xs)
theorem Tps.refl (H : Hp) : Tps H H := fun _ _ e => e
theorem Tps.trans {H H1 H2 : Hp} (h : Tps H H1) (h2 : Tps H1 H2) : Tps H H2 := fun b xs e => h2 b xs (h b xs e)
theorem Tps.same {H H1 : Hp} (h : Same H H1) : Tps H H1 := fun b xs e => h b _ e
theorem Kp.tps {d c : Addr} {n : Int} {H H' : Hp} (k : Kp d c H H') (dk : Dk H d c n) : Tps H H' := fun _ _ e => k.tup dk e
theorem Tps.lst {H : Hp} {D : Addr} {ws vs : List V} (e : H D = some (.lst ws)) : Tps H (upd H D (.lst vs)) := fun b xs h => by
  rw [upd_ne (ne_of h e (fun z => by cases z))]
  exact h
theorem same_off {H0 H : Hp} {D : Addr} {o : HO} (n : H0 D = none) (s : Same H0 H) : Same H0 (upd H D o) := fun b u e => by
  rw [upd_ne (ne_of_none e n)]
  exact s b u e
theorem few_line {n : Nat} (h : n < 1000) : n < sizeLine := by
  rw [show sizeLine = 16777216 by decide]
  omega
theorem lcL {K : PySem.W.Frag} {a : Addr} {xs : List V} {g : TG} {tt : TT} {te : TE} {vs : List Nat} {σ : L2.St} {H1 : Hp} {D : Addr} {Qd : Hp → Prop} (R : Nat → Hp → List V → Prop) (nD : H1 D = none) (hl : ∀ H', Same H1 H' → SqL K H' a xs) (few : xs.length < 1000)
    (mono : ∀ i H' H'' ws, Tps H' H'' → R i H' ws → R i H'' ws) (len : ∀ i H' ws, R i H' ws → ws.length ≤ i) (r0 : ∀ H', R 0 H' [])
    (hs : ∀ i x H' (N : Hp → Prop) acc, xs[i]? = some x → Same H1 H' → H' D = some (.lst acc) → acc.length < sizeLine → R i H' acc → (∀ H'', Same H' H'' → R (i + 1) H'' acc → N H'') → (∀ H'' y, Same H' H'' → R (i + 1) H'' (acc ++ [y]) → ∃ acc', H'' D = some (.lst acc') ∧ acc'.length < sizeLine ∧ N (upd H'' D (.lst (acc' ++ [y])))) →
      g x (wipe σ vs) H' fun σ2 H2 => wipe σ2 vs = wipe σ vs ∧ tt σ2 H2 fun b H3 => if b = true then te σ2 H3 fun y H4 => ∃ acc, H4 D = some (.lst acc) ∧ acc.length < sizeLine ∧ N (upd H4 D (.lst (acc ++ [y]))) else N H3)
    (hd : ∀ H' ws, Same H1 H' → H' D = some (.lst ws) → R xs.length H' ws → Qd H') :
    ∃ W : Nat → Nat → Hp → Prop, (∃ m, W 0 m (upd H1 D (.lst []))) ∧ ∀ i m H, W i m H →
      ((Itl K a).stop i H ∧ Qd H) ∨ ((Itl K a).go i H ∧ ∃ Nx : Hp → Prop, (∀ H', Nx H' → ∃ m', m' < m ∧ W (i + 1) m' H') ∧ ∀ x H', (Itl K a).yld i H x H' → g x (wipe σ vs) H' fun σ2 H2 => wipe σ2 vs = wipe σ vs ∧ tt σ2 H2 fun b H3 =>
        if b = true then te σ2 H3 fun y H4 => ∃ acc, H4 D = some (.lst acc) ∧ acc.length < sizeLine ∧ Nx (upd H4 D (.lst (acc ++ [y]))) else Nx H3) := by
  refine lc_list (K := K) (a := a) (xs := xs) (fun i H' => Same H1 H' ∧ ∃ ws, H' D = some (.lst ws) ∧ R i H' ws) ⟨same_new nD, [], upd_same, r0 _⟩ (fun i H' _ h => hl H' h.1) ?_ ?_
  · rintro i x H' hi ⟨sm, ws, eD, r⟩
    have lt := (List.getElem?_eq_some_iff.mp hi).1
    have lw := len i H' ws r
    have sz : ws.length < sizeLine := few_line (by omega)
    refine hs i x H' _ ws hi sm eD sz r (fun H'' s r2 => ⟨sm.trans s, ws, s _ _ eD, r2⟩) (fun H'' y s r2 => ?_)
    exact ⟨ws, s _ _ eD, sz, same_off nD (sm.trans s), _, upd_same, mono _ _ _ _ (Tps.lst (s _ _ eD)) r2⟩
  · rintro H' ⟨sm, ws, eD, r⟩
    exact hd H' ws sm eD r
theorem lcT {K : PySem.W.Frag} {a : Addr} {xs : List V} {g : TG} {tt : TT} {te : TE} {vs : List Nat} {σ : L2.St} {H1 : Hp} {D : Addr} {Qd : Hp → Prop} (R : Nat → Hp → List V → Prop) (nD : H1 D = none) (hl : ∀ H', Same H1 H' → SqT K H' a xs) (few : xs.length < 1000)
    (mono : ∀ i H' H'' ws, Tps H' H'' → R i H' ws → R i H'' ws) (len : ∀ i H' ws, R i H' ws → ws.length ≤ i) (r0 : ∀ H', R 0 H' [])
    (hs : ∀ i x H' (N : Hp → Prop) acc, xs[i]? = some x → Same H1 H' → H' D = some (.lst acc) → acc.length < sizeLine → R i H' acc → (∀ H'', Same H' H'' → R (i + 1) H'' acc → N H'') → (∀ H'' y, Same H' H'' → R (i + 1) H'' (acc ++ [y]) → ∃ acc', H'' D = some (.lst acc') ∧ acc'.length < sizeLine ∧ N (upd H'' D (.lst (acc' ++ [y])))) →
      g x (wipe σ vs) H' fun σ2 H2 => wipe σ2 vs = wipe σ vs ∧ tt σ2 H2 fun b H3 => if b = true then te σ2 H3 fun y H4 => ∃ acc, H4 D = some (.lst acc) ∧ acc.length < sizeLine ∧ N (upd H4 D (.lst (acc ++ [y]))) else N H3)
    (hd : ∀ H' ws, Same H1 H' → H' D = some (.lst ws) → R xs.length H' ws → Qd H') :
    ∃ W : Nat → Nat → Hp → Prop, (∃ m, W 0 m (upd H1 D (.lst []))) ∧ ∀ i m H, W i m H →
      ((Itt K a).stop i H ∧ Qd H) ∨ ((Itt K a).go i H ∧ ∃ Nx : Hp → Prop, (∀ H', Nx H' → ∃ m', m' < m ∧ W (i + 1) m' H') ∧ ∀ x H', (Itt K a).yld i H x H' → g x (wipe σ vs) H' fun σ2 H2 => wipe σ2 vs = wipe σ vs ∧ tt σ2 H2 fun b H3 =>
        if b = true then te σ2 H3 fun y H4 => ∃ acc, H4 D = some (.lst acc) ∧ acc.length < sizeLine ∧ Nx (upd H4 D (.lst (acc ++ [y]))) else Nx H3) := by
  refine lc_tup (K := K) (a := a) (xs := xs) (fun i H' => Same H1 H' ∧ ∃ ws, H' D = some (.lst ws) ∧ R i H' ws) ⟨same_new nD, [], upd_same, r0 _⟩ (fun i H' _ h => hl H' h.1) ?_ ?_
  · rintro i x H' hi ⟨sm, ws, eD, r⟩
    have lt := (List.getElem?_eq_some_iff.mp hi).1
    have lw := len i H' ws r
    have sz : ws.length < sizeLine := few_line (by omega)
    refine hs i x H' _ ws hi sm eD sz r (fun H'' s r2 => ⟨sm.trans s, ws, s _ _ eD, r2⟩) (fun H'' y s r2 => ?_)
    exact ⟨ws, s _ _ eD, sz, same_off nD (sm.trans s), _, upd_same, mono _ _ _ _ (Tps.lst (s _ _ eD)) r2⟩
  · rintro H' ⟨sm, ws, eD, r⟩
    exact hd H' ws sm eD r
theorem map_filter_len {α : Type} {ns : List α} {p : α → Bool} {f : α → V} (i : Nat) : (((ns.take i).filter p).map f).length ≤ i := by
  rw [List.length_map]
  exact Nat.le_trans (List.length_filter_le _ _) (List.length_take_le _ _)
theorem take_filter {α : Type} {ns : List α} {i : Nat} {n : α} {p : α → Bool} (h : ns[i]? = some n) : (ns.take (i + 1)).filter p = (ns.take i).filter p ++ (if p n = true then [n] else []) := by
  rw [List.take_add_one, h, List.filter_append]
  congr 1
  show List.filter p [n] = _
  rw [List.filter_cons]
  split <;> rfl
theorem nodup_le {α : Type} [DecidableEq α] : ∀ {l m : List α}, l.Nodup → (∀ x ∈ l, x ∈ m) → l.length ≤ m.length
  | [], _, _, _ => Nat.zero_le _
  | a :: l, m, h, hs => by
    have hm := hs a List.mem_cons_self
    have h' := List.nodup_cons.mp h
    have ih := nodup_le (l := l) (m := m.erase a) h'.2 (fun x hx => (List.mem_erase_of_ne (fun e => h'.1 (by rw [← e]; exact hx))).mpr (hs x (List.mem_cons_of_mem _ hx)))
    rw [List.length_erase_of_mem hm] at ih
    have := List.length_pos_of_mem hm
    rw [List.length_cons]
    omega

theorem Ivs.tps {H H' : Hp} (s : Tps H H') {vs : List V} {ps : List (Int × Int)} (h : Ivs H vs ps) : Ivs H' vs ps := by
  induction h with
  | nil => exact .nil
  | cons e _ ih => exact .cons (s _ _ e) ih
theorem Ivs.append {H : Hp} {vs us : List V} {ps qs : List (Int × Int)} (h : Ivs H vs ps) (h2 : Ivs H us qs) : Ivs H (vs ++ us) (ps ++ qs) := by
  induction h with
  | nil => exact h2
  | cons e _ ih => exact .cons e ih
theorem Ivs.isEmpty {H : Hp} {vs : List V} {ps : List (Int × Int)} (h : Ivs H vs ps) : vs.isEmpty = ps.isEmpty := by
  cases h <;> rfl

/-! ### sorted(set(pairs)) -/
def ltP (a b : Int × Int) : Prop := a.1 < b.1 ∨ (a.1 = b.1 ∧ a.2 < b.2)
def prL (q : Int × Int) : List Int := [q.1, q.2]
theorem prL_inj {a b : Int × Int} (h : prL a = prL b) : a = b := by
  unfold prL at h
  cases a
  cases b
  simp at h
  rw [h.1, h.2]
theorem mem_prL {q : Int × Int} {ps : List (Int × Int)} : prL q ∈ ps.map prL ↔ q ∈ ps := by
  rw [List.mem_map]
  exact ⟨fun ⟨a, ha, e⟩ => prL_inj e ▸ ha, fun h => ⟨q, h, rfl⟩⟩
theorem Ivs.keys {H : Hp} {us : List V} {ps : List (Int × Int)} (h : Ivs H us ps) : ∃ ks : List (Addr × List Int), us = ks.map (fun p => V.ref p.1) ∧ ks.map (·.2) = ps.map prL ∧ ∀ p ∈ ks, ∃ x y : Int, p.2 = [x, y] ∧ H p.1 = some (.tup [.int x, .int y]) := by
  induction h with
  | nil => exact ⟨[], rfl, rfl, fun p hp => nomatch hp⟩
  | cons e _ ih =>
    obtain ⟨ks, e1, e2, e3⟩ := ih
    refine ⟨(_, [_, _]) :: ks, by rw [List.map_cons, e1], by rw [List.map_cons, List.map_cons, e2]; rfl, fun p hp => ?_⟩
    rcases List.mem_cons.mp hp with rfl | hp
    · exact ⟨_, _, rfl, e⟩
    · exact e3 p hp
theorem Ivs.ofKeys {H : Hp} : ∀ {L : List (Addr × List Int)}, (∀ p ∈ L, ∃ x y : Int, p.2 = [x, y] ∧ H p.1 = some (.tup [.int x, .int y])) → ∃ ps, Ivs H (L.map fun p => V.ref p.1) ps ∧ L.map (·.2) = ps.map prL
  | [], _ => ⟨[], .nil, rfl⟩
  | p :: L, h => by
    obtain ⟨x, y, e, e1⟩ := h p List.mem_cons_self
    obtain ⟨ps, i, e2⟩ := Ivs.ofKeys (L := L) fun q hq => h q (List.mem_cons_of_mem _ hq)
    exact ⟨(x, y) :: ps, .cons e1 i, by rw [List.map_cons, List.map_cons, e2, e]; rfl⟩
theorem Ivs.tpsMem {H : Hp} {us : List V} {ps : List (Int × Int)} (h : Ivs H us ps) {q : Int × Int} (hq : q ∈ ps) : ∃ a, V.ref a ∈ us ∧ H a = some (.tup [.int q.1, .int q.2]) := by
  induction h with
  | nil => cases hq
  | cons e _ ih =>
    rcases List.mem_cons.mp hq with rfl | hq
    · exact ⟨_, List.mem_cons_self, e⟩
    · obtain ⟨a, h1, h2⟩ := ih hq
      exact ⟨a, List.mem_cons_of_mem _ h1, h2⟩
theorem sorted_keys {K : PySem.W.Frag} {P : Program} {w : World} {H : Hp} {ps : List (Int × Int)} {Q : VK} {ks L : List (Addr × List Int)} {a : Addr} (e2 : ks.map (·.2) = ps.map prL) (e3 : ∀ p ∈ ks, ∃ x y : Int, p.2 = [x, y] ∧ H p.1 = some (.tup [.int x, .int y])) (na : H a = none) (h1 : ∀ p ∈ L, p ∈ ks) (h2 : ∀ p ∈ ks, p.2 ∈ L.map (·.2)) (bd : ∀ q ∈ ps, (0 ≤ q.1 ∧ q.1 < 10 ^ 13) ∧ 0 ≤ q.2 ∧ q.2 < 10 ^ 13)
    (fin : ∀ H' p us' ps', Same H H' → H p = none → H' p = some (.lst us') → Ivs H' us' ps' → ps'.Pairwise ltP → (∀ q, q ∈ ps' ↔ q ∈ ps) → Q (.ref p) H') :
    rSortedT K P w [.ref a] (upd H a (SetTO P w a L)) Q := by
  have s1 : Same H (upd H a (SetTO P w a L)) := same_new na
  refine ⟨a, L, 2, 10 ^ 13, rfl, upd_same, fun p hp => ?_, by decide, fun p hp => ?_, fun L' p pm nd fw pw np => ?_⟩
  · obtain ⟨x, y, e, e1⟩ := e3 p (h1 p hp)
    rw [e]
    exact SqT.of (s1 _ _ e1)
  · have m : p.2 ∈ ks.map (·.2) := List.mem_map.mpr ⟨p, h1 p hp, rfl⟩
    rw [e2] at m
    obtain ⟨q, hq, e⟩ := List.mem_map.mp m
    have b := bd q hq
    rw [← e]
    refine ⟨rfl, fun m hm => ?_⟩
    unfold prL at hm
    rcases List.mem_cons.mp hm with rfl | hm
    · exact b.1
    · rw [List.mem_singleton.mp hm]
      exact b.2
  · have s2 : Same (upd H a (SetTO P w a L)) (upd (upd H a (SetTO P w a L)) p (.lst (L'.map fun q => V.ref q.1))) := same_new np
    obtain ⟨ps', i, e4⟩ := Ivs.ofKeys (H := H) (L := L') fun q hq => e3 q (h1 q (pm.mem_iff.mp hq))
    have mem : ∀ q, q ∈ ps' ↔ q ∈ ps := fun q => by
      rw [← mem_prL, ← e4, ← mem_prL (ps := ps), ← e2, (pm.map (·.2)).mem_iff]
      constructor
      · intro h
        obtain ⟨p, hp, e⟩ := List.mem_map.mp h
        exact List.mem_map.mpr ⟨p, h1 p hp, e⟩
      · intro h
        obtain ⟨p, hp, e⟩ := List.mem_map.mp h
        rw [← e]
        exact h2 p hp
    refine fin _ p _ ps' (s1.trans s2) (s1.free np) upd_same (i.same (s1.trans s2)) ?_ mem
    have pw2 : (L'.map (·.2)).Pairwise (fun q r => TS.code (10 ^ 13) q ≤ TS.code (10 ^ 13) r) := List.pairwise_map.mpr pw
    have both := pw2.and nd
    rw [e4] at both
    refine (List.pairwise_map.mp both).imp_of_mem fun {x y} hx hy h => ?_
    have bx := bd x ((mem x).mp hx)
    have bY := bd y ((mem y).mp hy)
    have tb : ∀ {z : Int × Int}, ((0 ≤ z.1 ∧ z.1 < 10 ^ 13) ∧ 0 ≤ z.2 ∧ z.2 < 10 ^ 13) → TS.Bd (10 ^ 13) [z.1, z.2] := fun b m hm => by
      rcases List.mem_cons.mp hm with rfl | hm
      · exact b.1
      · rw [List.mem_singleton.mp hm]
        exact b.2
    rcases code_lex (tb bx) (tb bY) h.1 with c | ⟨c1, c2⟩
    · exact .inl c
    · refine .inr ⟨c1, ?_⟩
      rcases Int.lt_or_eq_of_le c2 with z | z
      · exact z
      · exact absurd (show prL x = prL y by unfold prL; rw [c1, z]) h.2
theorem sorted_set_pairs {K : PySem.W.Frag} {P : Program} {w : World} {H : Hp} {l : Addr} {us : List V} {ps : List (Int × Int)} {Q : VK} (hl : SqL K H l us) (iv : Ivs H us ps) (few : ps.length < 64) (bd : ∀ q ∈ ps, (0 ≤ q.1 ∧ q.1 < 10 ^ 13) ∧ 0 ≤ q.2 ∧ q.2 < 10 ^ 13)
    (fin : ∀ H' p us' ps', Same H H' → H p = none → H' p = some (.lst us') → Ivs H' us' ps' → ps'.Pairwise ltP → (∀ q, q ∈ ps' ↔ q ∈ ps) → Q (.ref p) H') :
    rSetOfT K P w [.ref l] H (fun x H1 => rSortedT K P w [x] H1 Q) := by
  obtain ⟨ks, rfl, e2, e3⟩ := iv.keys
  have lk : ks.length = ps.length := by
    have z := congrArg List.length e2
    rw [List.length_map, List.length_map] at z
    exact z
  refine ⟨l, ks, rfl, hl, fun p hp => ?_, by omega, fun a L na h1 h2 => ?_⟩
  · obtain ⟨x, y, e, e1⟩ := e3 p hp
    rw [e]
    exact SqT.of e1
  exact sorted_keys e2 e3 na h1 h2 bd fin

/-! ### a comprehension over two tuples -/
theorem lcZ {K : PySem.W.Frag} {a b : Addr} {xs ys : List V} {g : TG} {tt : TT} {te : TE} {vs : List Nat} {σ : L2.St} {H1 : Hp} {D : Addr} {Qd : Hp → Prop} (R : Nat → Hp → List V → Prop) (nD : H1 D = none) (ha : ∀ H', Same H1 H' → SqT K H' a xs) (hb : ∀ H', Same H1 H' → SqT K H' b ys) (few : xs.length < 1000)
    (mono : ∀ i H' H'' ws, Tps H' H'' → R i H' ws → R i H'' ws) (len : ∀ i H' ws, R i H' ws → ws.length ≤ i) (r0 : ∀ H', R 0 H' [])
    (hs : ∀ i x y T H' (N : Hp → Prop) acc, xs[i]? = some x → ys[i]? = some y → Same H1 H' → H' T = some (.tup [x, y]) → H' D = some (.lst acc) → acc.length < sizeLine → R i H' acc → (∀ H'', Same H' H'' → R (i + 1) H'' acc → N H'') → (∀ H'' y, Same H' H'' → R (i + 1) H'' (acc ++ [y]) → ∃ acc', H'' D = some (.lst acc') ∧ acc'.length < sizeLine ∧ N (upd H'' D (.lst (acc' ++ [y])))) →
      g (.ref T) (wipe σ vs) H' fun σ2 H2 => wipe σ2 vs = wipe σ vs ∧ tt σ2 H2 fun b H3 => if b = true then te σ2 H3 fun y H4 => ∃ acc, H4 D = some (.lst acc) ∧ acc.length < sizeLine ∧ N (upd H4 D (.lst (acc ++ [y]))) else N H3)
    (hd : ∀ i H' ws, i ≤ xs.length → Same H1 H' → H' D = some (.lst ws) → R i H' ws → Qd H') :
    ∃ W : Nat → Nat → Hp → Prop, (∃ m, W 0 m (upd H1 D (.lst []))) ∧ ∀ i m H, W i m H →
      ((RZ.ItzT K a b).stop i H ∧ Qd H) ∨ ((RZ.ItzT K a b).go i H ∧ ∃ Nx : Hp → Prop, (∀ H', Nx H' → ∃ m', m' < m ∧ W (i + 1) m' H') ∧ ∀ x H', (RZ.ItzT K a b).yld i H x H' → g x (wipe σ vs) H' fun σ2 H2 => wipe σ2 vs = wipe σ vs ∧ tt σ2 H2 fun b H3 =>
        if b = true then te σ2 H3 fun y H4 => ∃ acc, H4 D = some (.lst acc) ∧ acc.length < sizeLine ∧ Nx (upd H4 D (.lst (acc ++ [y]))) else Nx H3) := by
  refine ⟨fun i m H => m = xs.length - i ∧ i ≤ xs.length ∧ Same H1 H ∧ ∃ ws, H D = some (.lst ws) ∧ R i H ws, ⟨_, rfl, Nat.zero_le _, same_new nD, [], upd_same, r0 _⟩, ?_⟩
  rintro i m H ⟨rfl, hi, sm, ws, eD, r⟩
  have q1 := ha H sm
  have q2 := hb H sm
  by_cases c : i < xs.length ∧ i < ys.length
  · refine .inr ⟨⟨xs, ys, xs[i]'c.1, ys[i]'c.2, q1, q2, List.getElem?_eq_getElem c.1, List.getElem?_eq_getElem c.2⟩, (fun H => i + 1 ≤ xs.length ∧ Same H1 H ∧ ∃ ws, H D = some (.lst ws) ∧ R (i + 1) H ws), fun H' p' => ⟨xs.length - (i + 1), by omega, rfl, p'⟩, fun v H' hy => ?_⟩
    obtain ⟨T, x, y, rfl, nT, rfl, f1, f2⟩ := hy
    have sT := same_new (o := .tup [x, y]) nT
    have lw := len i H ws r
    have sz : ws.length < sizeLine := few_line (by omega)
    refine hs i x y T _ _ ws (f1 xs q1) (f2 ys q2) (sm.trans sT) upd_same (sT _ _ eD) sz (mono _ _ _ _ (Tps.same sT) r) (fun H'' s r2 => ⟨c.1, sm.trans (sT.trans s), ws, s _ _ (sT _ _ eD), r2⟩) (fun H'' y s r2 => ?_)
    exact ⟨ws, s _ _ (sT _ _ eD), sz, c.1, same_off nD (sm.trans (sT.trans s)), _, upd_same, mono _ _ _ _ (Tps.lst (s _ _ (sT _ _ eD))) r2⟩
  · exact .inl ⟨⟨xs, ys, q1, q2, by omega⟩, hd i H ws hi sm eD r⟩
/-! ### the law's comparison: equal values are the same -/
def sp_same0 : Sp := fun _ _ _ _ => False
theorem ok_same0 {f : Addr} {fd : FuncData} {a b : Str} : FnOk P w K mg base CX0 0 f fd [a, b] sp_same0 := ⟨fun _ _ _ _ h => h.elim, fun _ _ _ _ _ _ _ _ _ _ _ _ _ h => h.elim⟩
def sp_same1 : Sp := fun vs H Q _ => ∃ i : Int, vs = [.int i, .int i] ∧ Q (.bl true) H
theorem ok_same1 (T : Tx K mg f_is_number f_is_position f_is_tuple_of f_is_interval f_parse_number f_parse_interval f_parse_intervals f_law_deck f_law_draw f_law_same f_law_small f_law_moved f_law_text f_law_odd f_law_bent f_law_number f_law_due f_law_told f_law f_BadText_init X_BadText X_SpanError X_BadInterval d_is_number d_is_position d_is_tuple_of d_is_interval d_parse_number d_parse_interval d_parse_intervals d_law_deck d_law_draw d_law_same d_law_small d_law_moved d_law_text d_law_odd d_law_bent d_law_number d_law_due d_law_told d_law d_BadText_init t_LAST_POSITION) : FnOk P w K mg base CX0 1 f_law_same d_law_same ["_law_found", "_law_due_here"] sp_same1 := by
  have ok_law_same : Tx K mg f_is_number f_is_position f_is_tuple_of f_is_interval f_parse_number f_parse_interval f_parse_intervals f_law_deck f_law_draw f_law_same f_law_small f_law_moved f_law_text f_law_odd f_law_bent f_law_number f_law_due f_law_told f_law f_BadText_init X_BadText X_SpanError X_BadInterval d_is_number d_is_position d_is_tuple_of d_is_interval d_parse_number d_parse_interval d_parse_intervals d_law_deck d_law_draw d_law_same d_law_small d_law_moved d_law_text d_law_odd d_law_bent d_law_number d_law_due d_law_told d_law d_BadText_init t_LAST_POSITION → FnOk P w K mg base CX0 0 f_law_same d_law_same ["_law_found", "_law_due_here"] sp_same0 := fun _ => ok_same0
  refine T.F_law_same.ok sc_law_same (fun vs H Q E h => ?_) (fun cdv A outer s H vs Q E hr h => ?_)
  · obtain ⟨i, rfl, _⟩ := h
    rfl
  · obtain ⟨i, rfl, q⟩ := h
    refine ⟨_, (pss_cons (ps_if (pt_val (pe_callB call_isi (by rfl) T.z_isinstance (by decide +kernel) (pa_cons (pv 1) (pa_cons (pe_bltn (v := .ty "tuple") (u := .type "tuple") (by rfl) T.z_tuple (by decide +kernel) rfl) pa_nil))))
      (pss_cons (ps_if (PW.pt (pw_or (pt_not (pt_val (pe_callB call_isi (by rfl) T.z_isinstance (by decide +kernel) (pa_cons (pv 0) (pa_cons (pe_bltn (v := .ty "tuple") (u := .type "tuple") (by rfl) T.z_tuple (by decide +kernel) rfl) pa_nil))))) (pw_or1 (pt_cmpR op_ne (pe_callB call_len_seq (by rfl) T.z_len PySem.boot_len (pa_cons (pv 0) pa_nil)) (pe_callB call_len_seq (by rfl) T.z_len PySem.boot_len (pa_cons (pv 1) pa_nil)) (nomark _)))))
      (pss_one (ps_ret pe_bl))
      pss_nil)
      (pss_one (ps_ret (pe_cmpR (op_eqL hr.units0) (pe_lc (own := [("_law_one", 2), ("_law_other", 3)]) (g := (gTup K 2 (gCons (gName 2) (gCons (gName 3) gNil)))) (by rfl) sc_law_same.nd (RZ.pi_zipA (by rfl) T.z_zip (pa_cons (pv 0) (pa_cons (pv 1) pa_nil))) (blkOk_by (own := [("_law_one", 2), ("_law_other", 3)]) (N := N_law_same) (sc := defScope s_law_same) (by decide +kernel)) (fun _ _ _ _ _ => (pg_tup rfl (pgs_cons (pg_name (i := 2) sc_law_same.nd rfl (Or.inl rfl)) (pgs_cons (pg_name (i := 3) sc_law_same.nd rfl (Or.inl rfl)) pgs_nil)))) (fun _ _ _ _ _ => pts_one (pt_not (pt_val (pe_call (ok_law_same T) (hr.mono (by decide)) (by rfl) T.g_law_same T.F_law_same.kp T.b_law_same .nil pass0 (pa_cons (pv 2) (pa_cons (pv 3) pa_nil)))))) (fun _ _ _ _ _ => pe_int)) (pe_lst pa_nil) (nomark _)))))
      pss_nil)
      (pss_cons (ps_if (pt_cmpR op_isN (pv 1) pe_non (nomark _))
      (pss_one (ps_ret (pe_cmpR op_isN (pv 0) pe_non (nomark _))))
      pss_nil)
      (pss_cons (ps_if (pt_val (pe_callB call_isi (by rfl) T.z_isinstance (by decide +kernel) (pa_cons (pv 1) (pa_cons (pe_bltn (v := .ty "str") (u := .type "str") (by rfl) T.z_str (by decide +kernel) rfl) pa_nil))))
      (pss_one (ps_ret (pe_and (pe_callB call_isi (by rfl) T.z_isinstance (by decide +kernel) (pa_cons (pv 0) (pa_cons (pe_bltn (v := .ty "str") (u := .type "str") (by rfl) T.z_str (by decide +kernel) rfl) pa_nil))) (pe_one (pe_cmpR op_eq (pv 0) (pv 1) (nomark _))))))
      pss_nil)
      (pss_one (ps_ret (pe_and (pe_callB call_isi (by rfl) T.z_isinstance (by decide +kernel) (pa_cons (pv 0) (pa_cons (pe_bltn (v := .ty "int") (u := .type "int") (by rfl) T.z_int (by decide +kernel) rfl) pa_nil))) (pe_and (pe_cmpR op_eq (pe_callB call_isi (by rfl) T.z_isinstance (by decide +kernel) (pa_cons (pv 0) (pa_cons (pe_bltn (v := .ty "bool") (u := .type "bool") (by rfl) T.z_bool (by decide +kernel) rfl) pa_nil))) (pe_callB call_isi (by rfl) T.z_isinstance (by decide +kernel) (pa_cons (pv 1) (pa_cons (pe_bltn (v := .ty "bool") (u := .type "bool") (by rfl) T.z_bool (by decide +kernel) rfl) pa_nil))) (nomark _)) (pe_one (pe_cmpR op_eq (pv 0) (pv 1) (nomark _)))))))))), ?_⟩
    refine ⟨.int i, rfl, .int i, .ty "tuple", _, _, _, rfl, .ty "tuple", .base (.int i), kit_ty (a := "int") (b := "tuple") (r := false) (by decide +kernel), _, rfl, iteF ?_⟩
    refine ⟨.int i, rfl, rfl, _, rfl, iteF ?_⟩
    refine ⟨.int i, rfl, .int i, .ty "str", _, _, _, rfl, .ty "str", .base (.int i), kit_ty (a := "int") (b := "str") (r := false) (by decide +kernel), _, rfl, iteF ?_⟩
    refine ⟨.int i, rfl, .int i, .ty "int", _, _, _, rfl, .ty "int", .base (.int i), kit_ty (a := "int") (b := "int") (r := true) (by decide +kernel), _, rfl, iteT ?_⟩
    refine ⟨.int i, rfl, .int i, .ty "bool", _, _, _, rfl, .ty "bool", .base (.int i), kit_ty (a := "int") (b := "bool") (r := false) (by decide +kernel), .int i, rfl, .int i, .ty "bool", _, _, _, rfl, .ty "bool", .base (.int i), kit_ty (a := "int") (b := "bool") (r := false) (by decide +kernel), rfl, _, rfl, iteT ?_⟩
    refine ⟨.int i, rfl, .int i, rfl, rfl, ?_⟩
    rw [decide_eq_true rfl]
    exact q
def sp_same2 : Sp := fun vs H Q _ => ∃ (a b : Addr) (x y : Int), vs = [.ref a, .ref b] ∧ H a = some (.tup [.int x, .int y]) ∧ H b = some (.tup [.int x, .int y]) ∧ ∀ H', Same H H' → Q (.bl true) H'
theorem ok_same2 (T : Tx K mg f_is_number f_is_position f_is_tuple_of f_is_interval f_parse_number f_parse_interval f_parse_intervals f_law_deck f_law_draw f_law_same f_law_small f_law_moved f_law_text f_law_odd f_law_bent f_law_number f_law_due f_law_told f_law f_BadText_init X_BadText X_SpanError X_BadInterval d_is_number d_is_position d_is_tuple_of d_is_interval d_parse_number d_parse_interval d_parse_intervals d_law_deck d_law_draw d_law_same d_law_small d_law_moved d_law_text d_law_odd d_law_bent d_law_number d_law_due d_law_told d_law d_BadText_init t_LAST_POSITION) : FnOk P w K mg base CX0 2 f_law_same d_law_same ["_law_found", "_law_due_here"] sp_same2 := by
  have ok_law_same := fun T : Tx K mg f_is_number f_is_position f_is_tuple_of f_is_interval f_parse_number f_parse_interval f_parse_intervals f_law_deck f_law_draw f_law_same f_law_small f_law_moved f_law_text f_law_odd f_law_bent f_law_number f_law_due f_law_told f_law f_BadText_init X_BadText X_SpanError X_BadInterval d_is_number d_is_position d_is_tuple_of d_is_interval d_parse_number d_parse_interval d_parse_intervals d_law_deck d_law_draw d_law_same d_law_small d_law_moved d_law_text d_law_odd d_law_bent d_law_number d_law_due d_law_told d_law d_BadText_init t_LAST_POSITION => ok_same1 (P := P) (w := w) (base := base) T
  refine T.F_law_same.ok sc_law_same (fun vs H Q E h => ?_) (fun cdv A outer s H vs Q E hr h => ?_)
  · obtain ⟨a, b, x, y, rfl, _⟩ := h
    rfl
  · obtain ⟨a, b, x, y, rfl, ha, hb, q⟩ := h
    refine ⟨_, (pss_cons (ps_if (pt_val (pe_callB call_isi (by rfl) T.z_isinstance (by decide +kernel) (pa_cons (pv 1) (pa_cons (pe_bltn (v := .ty "tuple") (u := .type "tuple") (by rfl) T.z_tuple (by decide +kernel) rfl) pa_nil))))
      (pss_cons (ps_if (PW.pt (pw_or (pt_not (pt_val (pe_callB call_isi (by rfl) T.z_isinstance (by decide +kernel) (pa_cons (pv 0) (pa_cons (pe_bltn (v := .ty "tuple") (u := .type "tuple") (by rfl) T.z_tuple (by decide +kernel) rfl) pa_nil))))) (pw_or1 (pt_cmpR op_ne (pe_callB call_len_seq (by rfl) T.z_len PySem.boot_len (pa_cons (pv 0) pa_nil)) (pe_callB call_len_seq (by rfl) T.z_len PySem.boot_len (pa_cons (pv 1) pa_nil)) (nomark _)))))
      (pss_one (ps_ret pe_bl))
      pss_nil)
      (pss_one (ps_ret (pe_cmpR (op_eqL hr.units0) (pe_lc (own := [("_law_one", 2), ("_law_other", 3)]) (g := (gTup K 2 (gCons (gName 2) (gCons (gName 3) gNil)))) (by rfl) sc_law_same.nd (RZ.pi_zipA (by rfl) T.z_zip (pa_cons (pv 0) (pa_cons (pv 1) pa_nil))) (blkOk_by (own := [("_law_one", 2), ("_law_other", 3)]) (N := N_law_same) (sc := defScope s_law_same) (by decide +kernel)) (fun _ _ _ _ _ => (pg_tup rfl (pgs_cons (pg_name (i := 2) sc_law_same.nd rfl (Or.inl rfl)) (pgs_cons (pg_name (i := 3) sc_law_same.nd rfl (Or.inl rfl)) pgs_nil)))) (fun _ _ _ _ _ => pts_one (pt_not (pt_val (pe_call (ok_law_same T) (hr.mono (by decide)) (by rfl) T.g_law_same T.F_law_same.kp T.b_law_same .nil pass0 (pa_cons (pv 2) (pa_cons (pv 3) pa_nil)))))) (fun _ _ _ _ _ => pe_int)) (pe_lst pa_nil) (nomark _)))))
      pss_nil)
      (pss_cons (ps_if (pt_cmpR op_isN (pv 1) pe_non (nomark _))
      (pss_one (ps_ret (pe_cmpR op_isN (pv 0) pe_non (nomark _))))
      pss_nil)
      (pss_cons (ps_if (pt_val (pe_callB call_isi (by rfl) T.z_isinstance (by decide +kernel) (pa_cons (pv 1) (pa_cons (pe_bltn (v := .ty "str") (u := .type "str") (by rfl) T.z_str (by decide +kernel) rfl) pa_nil))))
      (pss_one (ps_ret (pe_and (pe_callB call_isi (by rfl) T.z_isinstance (by decide +kernel) (pa_cons (pv 0) (pa_cons (pe_bltn (v := .ty "str") (u := .type "str") (by rfl) T.z_str (by decide +kernel) rfl) pa_nil))) (pe_one (pe_cmpR op_eq (pv 0) (pv 1) (nomark _))))))
      pss_nil)
      (pss_one (ps_ret (pe_and (pe_callB call_isi (by rfl) T.z_isinstance (by decide +kernel) (pa_cons (pv 0) (pa_cons (pe_bltn (v := .ty "int") (u := .type "int") (by rfl) T.z_int (by decide +kernel) rfl) pa_nil))) (pe_and (pe_cmpR op_eq (pe_callB call_isi (by rfl) T.z_isinstance (by decide +kernel) (pa_cons (pv 0) (pa_cons (pe_bltn (v := .ty "bool") (u := .type "bool") (by rfl) T.z_bool (by decide +kernel) rfl) pa_nil))) (pe_callB call_isi (by rfl) T.z_isinstance (by decide +kernel) (pa_cons (pv 1) (pa_cons (pe_bltn (v := .ty "bool") (u := .type "bool") (by rfl) T.z_bool (by decide +kernel) rfl) pa_nil))) (nomark _)) (pe_one (pe_cmpR op_eq (pv 0) (pv 1) (nomark _)))))))))), ?_⟩
    refine ⟨.ref b, rfl, .ref b, .ty "tuple", _, _, _, rfl, .ty "tuple", .base (.tup hb), kit_ty (a := "tuple") (b := "tuple") (r := true) (by decide +kernel), _, rfl, iteT ?_⟩
    refine ⟨.ref a, rfl, .ref a, .ty "tuple", _, _, _, rfl, .ty "tuple", .base (.tup ha), kit_ty (a := "tuple") (b := "tuple") (r := true) (by decide +kernel), _, rfl, iteF ?_⟩
    refine ⟨.ref a, rfl, a, _, rfl, .inr (SqT.of ha), .ref b, rfl, b, _, rfl, .inr (SqT.of hb), rfl, _, rfl, iteF ?_⟩
    refine ⟨.ref a, rfl, .ref b, rfl, a, b, _, _, rfl, .inr ⟨SqT.of ha, SqT.of hb, fun D nD => ?_⟩⟩
    refine lcZ (K := K) (a := a) (b := b) (xs := [.int x, .int y]) (ys := [.int x, .int y]) (fun j H' ws => ws = []) nD (fun H' s => SqT.of (s _ _ ha)) (fun H' s => SqT.of (s _ _ hb)) (by show 2 < 1000; decide) (fun _ _ _ _ _ h => h) (fun i H' ws h => by rw [h]; exact Nat.zero_le _) (fun _ => rfl) ?_ ?_
    · rintro j u v TT H' N acc hu hv sm eT eD sz r no yes
      have euv : ∃ k : Int, u = .int k ∧ v = .int k := by
        match j, hu, hv with
        | 0, hu, hv =>
          cases hu
          cases hv
          exact ⟨x, rfl, rfl⟩
        | 1, hu, hv =>
          cases hu
          cases hv
          exact ⟨y, rfl, rfl⟩
        | j + 2, hu, _ => simp at hu
      obtain ⟨k, rfl, rfl⟩ := euv
      refine ⟨TT, _, rfl, SqT.of eT, rfl, .int k, [.int k], rfl, .int k, [], rfl, rfl, rfl, .int k, rfl, .int k, rfl, k, rfl, _, rfl, iteF ?_⟩
      exact no H' (Same.refl _) r
    · rintro j H' ws jl sm eD r
      subst r
      refine ⟨by show 0 ≤ sizeLine; decide, fun z nz => ?_⟩
      have sz := same_new (o := .lst []) nz
      exact ⟨D, z, [], rfl, rfl, SqL.of (sz _ _ eD), SqL.of upd_same, q _ (sm.trans sz)⟩
def sp_law_sameT : Sp := fun vs H Q _ => ∃ (a b : Addr) (us ws : List V) (ps : List (Int × Int)), vs = [.ref a, .ref b] ∧ H a = some (.tup us) ∧ H b = some (.tup ws) ∧ Ivs H us ps ∧ Ivs H ws ps ∧ ps.length < 1000 ∧ ∀ H', Same H H' → Q (.bl true) H'
theorem ok_law_sameT (T : Tx K mg f_is_number f_is_position f_is_tuple_of f_is_interval f_parse_number f_parse_interval f_parse_intervals f_law_deck f_law_draw f_law_same f_law_small f_law_moved f_law_text f_law_odd f_law_bent f_law_number f_law_due f_law_told f_law f_BadText_init X_BadText X_SpanError X_BadInterval d_is_number d_is_position d_is_tuple_of d_is_interval d_parse_number d_parse_interval d_parse_intervals d_law_deck d_law_draw d_law_same d_law_small d_law_moved d_law_text d_law_odd d_law_bent d_law_number d_law_due d_law_told d_law d_BadText_init t_LAST_POSITION) : FnOk P w K mg base CX0 3 f_law_same d_law_same ["_law_found", "_law_due_here"] sp_law_sameT := by
  have ok_law_same := fun T : Tx K mg f_is_number f_is_position f_is_tuple_of f_is_interval f_parse_number f_parse_interval f_parse_intervals f_law_deck f_law_draw f_law_same f_law_small f_law_moved f_law_text f_law_odd f_law_bent f_law_number f_law_due f_law_told f_law f_BadText_init X_BadText X_SpanError X_BadInterval d_is_number d_is_position d_is_tuple_of d_is_interval d_parse_number d_parse_interval d_parse_intervals d_law_deck d_law_draw d_law_same d_law_small d_law_moved d_law_text d_law_odd d_law_bent d_law_number d_law_due d_law_told d_law d_BadText_init t_LAST_POSITION => ok_same2 (P := P) (w := w) (base := base) T
  refine T.F_law_same.ok sc_law_same (fun vs H Q E h => ?_) (fun cdv A outer s H vs Q E hr h => ?_)
  · obtain ⟨a, b, us, ws, ps, rfl, _⟩ := h
    rfl
  · obtain ⟨a, b, us, ws, ps, rfl, ha, hb, iv1, iv2, few, q⟩ := h
    have l1 := iv1.length
    have l2 := iv2.length
    refine ⟨_, (pss_cons (ps_if (pt_val (pe_callB call_isi (by rfl) T.z_isinstance (by decide +kernel) (pa_cons (pv 1) (pa_cons (pe_bltn (v := .ty "tuple") (u := .type "tuple") (by rfl) T.z_tuple (by decide +kernel) rfl) pa_nil))))
      (pss_cons (ps_if (PW.pt (pw_or (pt_not (pt_val (pe_callB call_isi (by rfl) T.z_isinstance (by decide +kernel) (pa_cons (pv 0) (pa_cons (pe_bltn (v := .ty "tuple") (u := .type "tuple") (by rfl) T.z_tuple (by decide +kernel) rfl) pa_nil))))) (pw_or1 (pt_cmpR op_ne (pe_callB call_len_seq (by rfl) T.z_len PySem.boot_len (pa_cons (pv 0) pa_nil)) (pe_callB call_len_seq (by rfl) T.z_len PySem.boot_len (pa_cons (pv 1) pa_nil)) (nomark _)))))
      (pss_one (ps_ret pe_bl))
      pss_nil)
      (pss_one (ps_ret (pe_cmpR (op_eqL hr.units0) (pe_lc (own := [("_law_one", 2), ("_law_other", 3)]) (g := (gTup K 2 (gCons (gName 2) (gCons (gName 3) gNil)))) (by rfl) sc_law_same.nd (RZ.pi_zipA (by rfl) T.z_zip (pa_cons (pv 0) (pa_cons (pv 1) pa_nil))) (blkOk_by (own := [("_law_one", 2), ("_law_other", 3)]) (N := N_law_same) (sc := defScope s_law_same) (by decide +kernel)) (fun _ _ _ _ _ => (pg_tup rfl (pgs_cons (pg_name (i := 2) sc_law_same.nd rfl (Or.inl rfl)) (pgs_cons (pg_name (i := 3) sc_law_same.nd rfl (Or.inl rfl)) pgs_nil)))) (fun _ _ _ _ _ => pts_one (pt_not (pt_val (pe_call (ok_law_same T) (hr.mono (by decide)) (by rfl) T.g_law_same T.F_law_same.kp T.b_law_same .nil pass0 (pa_cons (pv 2) (pa_cons (pv 3) pa_nil)))))) (fun _ _ _ _ _ => pe_int)) (pe_lst pa_nil) (nomark _)))))
      pss_nil)
      (pss_cons (ps_if (pt_cmpR op_isN (pv 1) pe_non (nomark _))
      (pss_one (ps_ret (pe_cmpR op_isN (pv 0) pe_non (nomark _))))
      pss_nil)
      (pss_cons (ps_if (pt_val (pe_callB call_isi (by rfl) T.z_isinstance (by decide +kernel) (pa_cons (pv 1) (pa_cons (pe_bltn (v := .ty "str") (u := .type "str") (by rfl) T.z_str (by decide +kernel) rfl) pa_nil))))
      (pss_one (ps_ret (pe_and (pe_callB call_isi (by rfl) T.z_isinstance (by decide +kernel) (pa_cons (pv 0) (pa_cons (pe_bltn (v := .ty "str") (u := .type "str") (by rfl) T.z_str (by decide +kernel) rfl) pa_nil))) (pe_one (pe_cmpR op_eq (pv 0) (pv 1) (nomark _))))))
      pss_nil)
      (pss_one (ps_ret (pe_and (pe_callB call_isi (by rfl) T.z_isinstance (by decide +kernel) (pa_cons (pv 0) (pa_cons (pe_bltn (v := .ty "int") (u := .type "int") (by rfl) T.z_int (by decide +kernel) rfl) pa_nil))) (pe_and (pe_cmpR op_eq (pe_callB call_isi (by rfl) T.z_isinstance (by decide +kernel) (pa_cons (pv 0) (pa_cons (pe_bltn (v := .ty "bool") (u := .type "bool") (by rfl) T.z_bool (by decide +kernel) rfl) pa_nil))) (pe_callB call_isi (by rfl) T.z_isinstance (by decide +kernel) (pa_cons (pv 1) (pa_cons (pe_bltn (v := .ty "bool") (u := .type "bool") (by rfl) T.z_bool (by decide +kernel) rfl) pa_nil))) (nomark _)) (pe_one (pe_cmpR op_eq (pv 0) (pv 1) (nomark _)))))))))), ?_⟩
    refine ⟨.ref b, rfl, .ref b, .ty "tuple", _, _, _, rfl, .ty "tuple", .base (.tup hb), kit_ty (a := "tuple") (b := "tuple") (r := true) (by decide +kernel), _, rfl, iteT ?_⟩
    refine ⟨.ref a, rfl, .ref a, .ty "tuple", _, _, _, rfl, .ty "tuple", .base (.tup ha), kit_ty (a := "tuple") (b := "tuple") (r := true) (by decide +kernel), _, rfl, iteF ?_⟩
    refine ⟨.ref a, rfl, a, _, rfl, .inr (SqT.of ha), .ref b, rfl, b, _, rfl, .inr (SqT.of hb), rfl, _, rfl, ?_⟩
    rw [l1, l2, decide_eq_true rfl]
    refine iteF ?_
    refine ⟨.ref a, rfl, .ref b, rfl, a, b, _, _, rfl, .inr ⟨SqT.of ha, SqT.of hb, fun D nD => ?_⟩⟩
    refine lcZ (K := K) (a := a) (b := b) (xs := us) (ys := ws) (fun j H' ws => ws = []) nD (fun H' s => SqT.of (s _ _ ha)) (fun H' s => SqT.of (s _ _ hb)) (by omega) (fun _ _ _ _ _ h => h) (fun i H' ws h => by rw [h]; exact Nat.zero_le _) (fun _ => rfl) ?_ ?_
    · rintro j u v TT H' N acc hu hv sm eT eD sz r no yes
      obtain ⟨b1, x1, y1, rfl, ep1, hb1⟩ := iv1.get hu
      obtain ⟨b2, x2, y2, rfl, ep2, hb2⟩ := iv2.get hv
      rw [ep1] at ep2
      cases ep2
      refine ⟨TT, _, rfl, SqT.of eT, rfl, .ref b1, [.ref b2], rfl, .ref b2, [], rfl, rfl, rfl, .ref b1, rfl, .ref b2, rfl, b1, b2, x1, y1, rfl, sm _ _ hb1, sm _ _ hb2, fun H2 s2 => ⟨_, rfl, iteF ?_⟩⟩
      exact no H2 s2 r
    · rintro j H' ws jl sm eD r
      subst r
      refine ⟨by show 0 ≤ sizeLine; decide, fun z nz => ?_⟩
      have sz := same_new (o := .lst []) nz
      exact ⟨D, z, [], rfl, rfl, SqL.of (sz _ _ eD), SqL.of upd_same, q _ (sm.trans sz)⟩
/-! ### drawn targets, moved targets -/
structure Sml (span : Int) (ps : List (Int × Int)) : Prop where
  asc : ps.Pairwise ltP
  ok : ∀ q ∈ ps, (0 ≤ q.1 ∧ q.1 ≤ q.2) ∧ q.2 < span
def sp_law_small : Sp := fun vs H Q _ => ∃ (d c : Addr) (n most span : Int), vs = [.ref d, .int most, .int span] ∧ Dk H d c n ∧ 0 ≤ n ∧ n < 999000 ∧ 0 ≤ most ∧ most ≤ 30 ∧ 1 ≤ span ∧ span ≤ 100 ∧
  ∀ H' t us ps m, Kp d c H H' → Dk H' d c m → n ≤ m → m ≤ n + 1 + 2 * most → H' t = some (.tup us) → Ivs H' us ps → Sml span ps → (ps.length : Int) ≤ most → Q (.ref t) H'
theorem ok_law_small (T : Tx K mg f_is_number f_is_position f_is_tuple_of f_is_interval f_parse_number f_parse_interval f_parse_intervals f_law_deck f_law_draw f_law_same f_law_small f_law_moved f_law_text f_law_odd f_law_bent f_law_number f_law_due f_law_told f_law f_BadText_init X_BadText X_SpanError X_BadInterval d_is_number d_is_position d_is_tuple_of d_is_interval d_parse_number d_parse_interval d_parse_intervals d_law_deck d_law_draw d_law_same d_law_small d_law_moved d_law_text d_law_odd d_law_bent d_law_number d_law_due d_law_told d_law d_BadText_init t_LAST_POSITION) : FnOk P w K mg base CX0 2 f_law_small d_law_small ["_law_deck_here", "_law_most", "_law_span"] sp_law_small := by
  refine T.F_law_small.ok sc_law_small (fun vs H Q E h => ?_) (fun cdv A outer s H vs Q E hr h => ?_)
  · obtain ⟨d, c, n, most, span, rfl, _⟩ := h
    rfl
  · obtain ⟨d, c, n, most, span, rfl, dk, n0, n1, m0, m1, s0, s1, q⟩ := h
    refine ⟨_, (pss_cons (ps_set (i := 3) sc_law_small.nd rfl (Or.inl rfl) (pe_lst pa_nil))
      (pss_cons (ps_for PassesOwn.never rfl (pi_range1 (by rfl) T.z_range (pa_cons (pe_call (ok_law_draw T) (hr.mono (by decide)) (by rfl) T.g_law_draw T.F_law_draw.kp T.b_law_draw .nil pass0 (pa_cons (pv 0) (pa_cons (pe_op op_add (pv 1) pe_int) pa_nil))) pa_nil)) (pg_name (i := 4) sc_law_small.nd rfl (Or.inl rfl))
      (pss_cons (ps_set (i := 5) sc_law_small.nd rfl (Or.inl rfl) (pe_call (ok_law_draw T) (hr.mono (by decide)) (by rfl) T.g_law_draw T.F_law_draw.kp T.b_law_draw .nil pass0 (pa_cons (pv 0) (pa_cons (pv 2) pa_nil))))
      (pss_one (ps_expr (pe_bm PySem.F.plainAttrs_list PySem.F.slot_list_append PySem.F.type_list_append mt_append (pv 3) (pa_cons (pe_tup (pa_cons (pv 5) (pa_cons (pe_op op_add (pv 5) (pe_call (ok_law_draw T) (hr.mono (by decide)) (by rfl) T.g_law_draw T.F_law_draw.kp T.b_law_draw .nil pass0 (pa_cons (pv 0) (pa_cons (pe_op op_sub (pv 2) (pv 5)) pa_nil)))) pa_nil))) pa_nil))))))
      (pss_one (ps_ret (pe_callTy call_tuple_of (by rfl) T.z_tuple (by decide +kernel) (pa_cons (pe_callB (cr_sortedT rfl) (by rfl) T.z_sorted (by decide +kernel) (pa_cons (pe_callTy (cr_setOfT rfl hr.units) (by rfl) T.z_set (by decide +kernel) (pa_cons (pv 3) pa_nil)) pa_nil)) pa_nil)))))), ?_⟩
    refine ⟨by show 0 ≤ sizeLine; decide, fun l nl => ?_⟩
    have offl := dk.off nl
    have sl := same_new (o := .lst []) nl
    have el := upd_same (H := H) (a := l) (o := .lst [])
    have dkl := dk.kept sl
    generalize upd H l (.lst []) = Hl at *
    refine ⟨.ref d, rfl, .int most, rfl, _, _, rfl, rfl, d, c, n, most + 1, rfl, dkl, n0, by omega, by omega, by omega, fun H1 r kp1 dk1 r0 r1 => ?_⟩
    have kpA : Kp d c H H1 := (Kp.same sl).trans kp1
    refine ⟨r, rfl, by omega, by omega, for_range (n := r.toNat) (D := ⟨_, _, fun _ _ => True, fun _ _ => True⟩) (fun i σ H' => (Kp d c H H' ∧ Dk H' d c (n + 1 + 2 * i)) ∧ (∃ ws ps, H' l = some (.lst ws) ∧ Ivs H' ws ps ∧ ps.length = i ∧ ∀ q ∈ ps, (0 ≤ q.1 ∧ q.1 ≤ q.2) ∧ q.2 < span) ∧ ∃ y4 y5, σ = [some (.ref d), some (.int most), some (.int span), some (.ref l), y4, y5])
      ⟨⟨kpA, dk1.eq (by simp)⟩, ⟨[], [], kp1.keep offl el, .nil, rfl, fun q hq => nomatch hq⟩, _, _, rfl⟩ ?_ ?_⟩
    · rintro i σ H2 hi ⟨⟨kp2, dk2⟩, ⟨ws, ps, el2, iv, pl, ok⟩, y4, y5, rfl⟩
      refine ⟨.ref d, rfl, .int span, rfl, d, c, _, span, rfl, dk2, by omega, by omega, by omega, by omega, fun H3 lo kp3 dk3 lo0 lo1 => ?_⟩
      have el3 := kp3.keep offl el2
      refine ⟨.ref l, rfl, .inl ⟨rfl, _, SqL.of el3⟩, .int lo, rfl, .int lo, rfl, .ref d, rfl, .int span, rfl, .int lo, rfl, _, _, rfl, rfl, d, c, _, span - lo, rfl, dk3, by omega, by omega, by omega, by omega, fun H4 r4 kp4 dk4 r40 r41 => ?_⟩
      refine ⟨_, _, rfl, rfl, by show 2 ≤ sizeLine; decide, fun t nt => ?_⟩
      have st := same_new (o := .tup [.int lo, .int (lo + r4)]) nt
      have et := upd_same (H := H4) (a := t) (o := .tup [.int lo, .int (lo + r4)])
      have el5 := st _ _ (kp4.keep offl el3)
      have dk5 := dk4.kept st
      have t25 : Tps H2 (upd H4 t (.tup [.int lo, .int (lo + r4)])) := (kp3.tps dk2).trans ((kp4.tps dk3).trans (Tps.same st))
      have kp25 : Kp d c H (upd H4 t (.tup [.int lo, .int (lo + r4)])) := kp2.trans (kp3.trans (kp4.trans (Kp.same st)))
      generalize upd H4 t (.tup [.int lo, .int (lo + r4)]) = H5 at *
      refine ⟨l, _, _, rfl, rfl, el5, few_line (by rw [iv.length]; omega), ⟨fun b o n1 n2 e => ?_, (dk5.upd offl).eq (by omega)⟩, ⟨_, ps ++ [(lo, lo + r4)], upd_same, ((iv.tps t25).snoc et).tps (Tps.lst el5), by rw [List.length_append, pl]; rfl, fun q hq => ?_⟩, _, _, rfl⟩
      · rw [upd_ne (ne_of_none e nl)]
        exact kp25 b o n1 n2 e
      · rcases List.mem_append.mp hq with hq | hq
        · exact ok q hq
        · rw [List.mem_singleton.mp hq]
          exact ⟨⟨lo0, by show lo ≤ lo + r4; omega⟩, by show lo + r4 < span; omega⟩
    · rintro σ H6 ⟨⟨kp6, dk6⟩, ⟨ws, ps, el6, iv, pl, ok⟩, y4, y5, rfl⟩
      refine ⟨.ref l, rfl, ?_⟩
      dsimp only [tNil]
      refine sorted_set_pairs (SqL.of el6) iv (by omega) (fun q hq => by have := ok q hq; omega) (fun H7 p us' ps' s7 np ep iv' asc mem => ?_)
      refine ⟨p, us', rfl, .inl ⟨SqL.of ep, fun t nt => ?_⟩⟩
      have s8 := same_new (o := .tup us') nt
      have nd : ps'.length ≤ ps.length := by
        have ndp : ps'.Nodup := asc.imp fun {a b} h e => by
          subst e
          rcases h with h | h <;> omega
        exact nodup_le ndp fun x hx => (mem x).mp hx
      exact q _ t us' ps' _ (kp6.trans (Kp.same (s7.trans s8))) (dk6.kept (s7.trans s8)) (by omega) (by omega) upd_same (iv'.same s8) ⟨asc, fun q hq => ok q ((mem q).mp hq)⟩ (by omega)
def mvI (b : Int) (q : Int × Int) : Int × Int := (q.1 + b, q.2 + b)
def sp_law_moved : Sp := fun vs H Q _ => ∃ (a : Addr) (b : Int) (us : List V) (ps : List (Int × Int)), vs = [.ref a, .int b] ∧ H a = some (.tup us) ∧ Ivs H us ps ∧ ps.length < 1000 ∧
  ∀ H' p ws, Same H H' → H' p = some (.tup ws) → Ivs H' ws (ps.map (mvI b)) → Q (.ref p) H'
theorem map_take_snoc {α β : Type} {ns : List α} {i : Nat} {n : α} {f : α → β} (h : ns[i]? = some n) : (ns.take (i + 1)).map f = (ns.take i).map f ++ [f n] := by
  rw [List.take_add_one, h, List.map_append]
  rfl
theorem ok_law_moved (T : Tx K mg f_is_number f_is_position f_is_tuple_of f_is_interval f_parse_number f_parse_interval f_parse_intervals f_law_deck f_law_draw f_law_same f_law_small f_law_moved f_law_text f_law_odd f_law_bent f_law_number f_law_due f_law_told f_law f_BadText_init X_BadText X_SpanError X_BadInterval d_is_number d_is_position d_is_tuple_of d_is_interval d_parse_number d_parse_interval d_parse_intervals d_law_deck d_law_draw d_law_same d_law_small d_law_moved d_law_text d_law_odd d_law_bent d_law_number d_law_due d_law_told d_law d_BadText_init t_LAST_POSITION) : FnOk P w K mg base CX0 1 f_law_moved d_law_moved ["_law_intervals", "_law_by"] sp_law_moved := by
  refine T.F_law_moved.ok sc_law_moved (fun vs H Q E h => ?_) (fun cdv A outer s H vs Q E hr h => ?_)
  · obtain ⟨a, b, us, ps, rfl, _⟩ := h
    rfl
  · obtain ⟨a, b, us, ps, rfl, ha, iv, few, q⟩ := h
    refine ⟨_, (pss_one (ps_ret (pe_callTy call_tuple_of (by rfl) T.z_tuple (by decide +kernel) (pa_cons (pe_lc (own := [("_law_low", 2), ("_law_high", 3)]) (g := (gTup K 2 (gCons (gName 2) (gCons (gName 3) gNil)))) (tt := tYes) (by rfl) sc_law_moved.nd (pi_tup (pv 0)) (blkOk_by (own := [("_law_low", 2), ("_law_high", 3)]) (N := N_law_moved) (sc := defScope s_law_moved) (by decide +kernel)) (fun _ _ _ _ _ => (pg_tup rfl (pgs_cons (pg_name (i := 2) sc_law_moved.nd rfl (Or.inl rfl)) (pgs_cons (pg_name (i := 3) sc_law_moved.nd rfl (Or.inl rfl)) pgs_nil)))) (fun _ _ _ _ _ => pts_nil) (fun _ _ _ _ _ => (pe_tup (pa_cons (pe_op op_add (pv 2) (pv 1)) (pa_cons (pe_op op_add (pv 3) (pv 1)) pa_nil))))) pa_nil)))), ?_⟩
    refine ⟨.ref a, rfl, a, rfl, ⟨_, SqT.of ha⟩, fun D nD => ?_⟩
    refine lcT (K := K) (a := a) (xs := us) (fun j H' ws => Ivs H' ws ((ps.take j).map (mvI b)) ∧ ws.length ≤ j) nD (fun H' s => SqT.of (s _ _ ha)) (by rw [iv.length]; omega) (fun _ _ _ _ t h => ⟨h.1.tps t, h.2⟩) (fun j H' ws h => h.2) (fun _ => ⟨.nil, Nat.le_refl _⟩) ?_ ?_
    · rintro j v H' N acc hj sm eA sz ⟨r, rl⟩ no yes
      obtain ⟨bb, x, y, rfl, ep, hb⟩ := iv.get hj
      refine ⟨bb, _, rfl, SqT.of (sm _ _ hb), rfl, .int x, [.int y], rfl, .int y, [], rfl, rfl, rfl, .int x, rfl, .int b, rfl, _, _, rfl, rfl, .int y, rfl, .int b, rfl, _, _, rfl, rfl, by show 2 ≤ sizeLine; decide, fun t nt => yes _ _ (same_new nt) ⟨?_, by rw [List.length_append]; show acc.length + 1 ≤ _; omega⟩⟩
      rw [map_take_snoc ep]
      exact (r.same (same_new nt)).snoc upd_same
    · rintro H' ws sm eD ⟨r, rl⟩
      rw [iv.length, List.take_length] at r
      refine ⟨D, ws, rfl, .inl ⟨SqL.of eD, fun l nl => ?_⟩⟩
      exact q _ l ws (sm.trans (same_new nl)) upd_same (r.same (same_new nl))
theorem sm_rowT {ps : List (Int × Int)} {n : Nat} (h : ∀ p ∈ ps, p.1.natAbs < 10 ^ 30 ∧ p.2.natAbs < 10 ^ 30) (hn : ps.length ≤ n) : Sm (n * 203) 2 (.tuple (ps.map pairD)) := by
  have z := Sm.tup (n := 202) (dp := 1) (ds := ps.map pairD) (fun d hd => by
    obtain ⟨p, hp, rfl⟩ := List.mem_map.mp hd
    exact sm2 (h p hp).1 (h p hp).2)
  rw [List.length_map] at z
  exact z.mono (Nat.mul_le_mul_right _ hn) (Nat.le_refl _)
/-- a row of pairs, as one opaque value that repr shows -/
theorem row_data {K : PySem.W.Frag} {ps : List (Int × Int)} (h : ∀ p ∈ ps, p.1.natAbs < 10 ^ 30 ∧ p.2.natAbs < 10 ^ 30) (hn : ps.length ≤ 60) : ∃ dd : PyData, Sm (60 * 203) 2 dd ∧ ∀ (H : Hp) (a : Addr) (us : List V), H a = some (.tup us) → Ivs H us ps → Dp K H (.ref a) dd :=
  ⟨_, sm_rowT h hn, fun _ _ _ e iv => .tup (SqT.of e) iv.dp⟩

/-! ### sorted(list of pairs) -/
theorem Ivs.perm {H : Hp} {xs ys : List V} (pm : ys.Perm xs) : ∀ {ps : List (Int × Int)}, Ivs H xs ps → ∃ ps', Ivs H ys ps' ∧ ps'.Perm ps := by
  induction pm with
  | nil =>
    intro ps h
    exact ⟨ps, h, .refl _⟩
  | cons x _ ih =>
    intro ps h
    cases h with
    | cons e h =>
      obtain ⟨ps', h', p'⟩ := ih h
      exact ⟨_ :: ps', .cons e h', p'.cons _⟩
  | swap x y l =>
    intro ps h
    cases h with
    | cons e h =>
      cases h with
      | cons e2 h => exact ⟨_, .cons e2 (.cons e h), .swap _ _ _⟩
  | trans _ _ ih1 ih2 =>
    intro ps h
    obtain ⟨p2, h2, q2⟩ := ih2 h
    obtain ⟨p1, h1, q1⟩ := ih1 h2
    exact ⟨p1, h1, q1.trans q2⟩
theorem Ivs.pair {H : Hp} {R : V → V → Prop} {S : Int × Int → Int × Int → Prop} (rs : ∀ a b x y u v, H a = some (.tup [.int x, .int y]) → H b = some (.tup [.int u, .int v]) → R (.ref a) (.ref b) → S (x, y) (u, v)) {vs : List V} {ps : List (Int × Int)} (h : Ivs H vs ps) (pw : vs.Pairwise R) : ps.Pairwise S := by
  induction h with
  | nil => exact .nil
  | cons e h ih =>
    have p := List.pairwise_cons.mp pw
    refine List.pairwise_cons.mpr ⟨fun q hq => ?_, ih p.2⟩
    obtain ⟨b, hb, eb⟩ := h.tpsMem hq
    exact rs _ b _ _ q.1 q.2 e eb (p.1 _ hb)
theorem Ivs.mem {H : Hp} {vs : List V} {ps : List (Int × Int)} (h : Ivs H vs ps) {v : V} (hv : v ∈ vs) : ∃ a q, q ∈ ps ∧ v = .ref a ∧ H a = some (.tup [.int q.1, .int q.2]) := by
  obtain ⟨i, ei⟩ := List.getElem?_of_mem hv
  obtain ⟨a, x, y, e, ep, ea⟩ := h.get ei
  exact ⟨a, (x, y), List.mem_of_getElem? ep, e, ea⟩
def leP (a b : Int × Int) : Prop := a.1 < b.1 ∨ (a.1 = b.1 ∧ a.2 ≤ b.2)
theorem leP_of_lt {ps : List (Int × Int)} (h : ps.Pairwise ltP) : ps.Pairwise leP := h.imp fun {a b} h => by
  rcases h with h | h
  · exact .inl h
  · exact .inr ⟨h.1, by omega⟩
theorem leP_uniq {ps qs : List (Int × Int)} (h1 : ps.Pairwise leP) (h2 : qs.Pairwise leP) (pm : ps.Perm qs) : ps = qs := by
  refine pm.eq_of_pairwise (le := leP) (fun a b _ _ x y => ?_) h1 h2
  have : a.1 = b.1 ∧ a.2 = b.2 := by
    unfold leP at x y
    omega
  exact Prod.ext this.1 this.2
theorem bd2 {z : Int × Int} (b : (0 ≤ z.1 ∧ z.1 < 10 ^ 13) ∧ 0 ≤ z.2 ∧ z.2 < 10 ^ 13) : TS.Bd (10 ^ 13) [z.1, z.2] := fun m hm => by
  rcases List.mem_cons.mp hm with rfl | hm
  · exact b.1
  · rw [List.mem_singleton.mp hm]
    exact b.2
theorem sort_pairs {K : PySem.W.Frag} {H : Hp} {l : Addr} {us : List V} {ps : List (Int × Int)} {Q : VK} (hl : SqL K H l us) (iv : Ivs H us ps) (few : ps.length < 64) (bd : ∀ q ∈ ps, (0 ≤ q.1 ∧ q.1 < 10 ^ 13) ∧ 0 ≤ q.2 ∧ q.2 < 10 ^ 13)
    (fin : ∀ H' p us' ps', Same H H' → H p = none → H' p = some (.lst us') → Ivs H' us' ps' → ps'.Pairwise leP → ps'.Perm ps → Q (.ref p) H') :
    rSortU K 2 (10 ^ 13) [.ref l] H Q := by
  refine ⟨l, us, rfl, hl, by rw [iv.length]; exact few, fun x hx => ?_, fun ys p2 pm pw np2 => ?_⟩
  · obtain ⟨b, qq, hqq, e, eb⟩ := iv.mem hx
    exact ⟨[qq.1, qq.2], ⟨b, e, SqT.of eb⟩, rfl, bd2 (bd qq hqq)⟩
  obtain ⟨gs, ivg, pmg⟩ := Ivs.perm pm iv
  have z : gs.Pairwise (fun a b => TS.code (10 ^ 13) [a.1, a.2] ≤ TS.code (10 ^ 13) [b.1, b.2]) := Ivs.pair (S := fun a b => TS.code (10 ^ 13) [a.1, a.2] ≤ TS.code (10 ^ 13) [b.1, b.2]) (fun a b x y u v ea eb h => h [x, y] [u, v] ⟨a, rfl, SqT.of ea⟩ ⟨b, rfl, SqT.of eb⟩) ivg pw
  have s2 := same_new (o := .lst ys) np2
  refine fin _ p2 ys gs s2 np2 upd_same (ivg.same s2) (z.imp_of_mem fun {x y} hx hy h => ?_) pmg
  exact code_lex (bd2 (bd x (pmg.mem_iff.mp hx))) (bd2 (bd y (pmg.mem_iff.mp hy))) h

/-! ### comprehensions over a range that change nothing but make new objects -/
theorem lcR {lo : Int} {n : Nat} {g : TG} {tt : TT} {te : TE} {vs : List Nat} {σ : L2.St} {H1 : Hp} {D : Addr} {Qd : Hp → Prop} (R : Nat → Hp → List V → Prop) (nD : H1 D = none) (few : n < 1000)
    (mono : ∀ i H' H'' ws, Tps H' H'' → R i H' ws → R i H'' ws) (len : ∀ i H' ws, R i H' ws → ws.length ≤ i) (r0 : ∀ H', R 0 H' [])
    (hs : ∀ i H' (N : Hp → Prop) acc, i < n → Same H1 H' → H' D = some (.lst acc) → acc.length < sizeLine → R i H' acc → (∀ H'', Same H' H'' → R (i + 1) H'' acc → N H'') → (∀ H'' y, Same H' H'' → R (i + 1) H'' (acc ++ [y]) → ∃ acc', H'' D = some (.lst acc') ∧ acc'.length < sizeLine ∧ N (upd H'' D (.lst (acc' ++ [y])))) →
      g (.int (lo + i)) (wipe σ vs) H' fun σ2 H2 => wipe σ2 vs = wipe σ vs ∧ tt σ2 H2 fun b H3 => if b = true then te σ2 H3 fun y H4 => ∃ acc, H4 D = some (.lst acc) ∧ acc.length < sizeLine ∧ N (upd H4 D (.lst (acc ++ [y]))) else N H3)
    (hd : ∀ H' ws, Same H1 H' → H' D = some (.lst ws) → R n H' ws → Qd H') :
    ∃ W : Nat → Nat → Hp → Prop, (∃ m, W 0 m (upd H1 D (.lst []))) ∧ ∀ i m H, W i m H →
      ((Itr lo n).stop i H ∧ Qd H) ∨ ((Itr lo n).go i H ∧ ∃ Nx : Hp → Prop, (∀ H', Nx H' → ∃ m', m' < m ∧ W (i + 1) m' H') ∧ ∀ x H', (Itr lo n).yld i H x H' → g x (wipe σ vs) H' fun σ2 H2 => wipe σ2 vs = wipe σ vs ∧ tt σ2 H2 fun b H3 =>
        if b = true then te σ2 H3 fun y H4 => ∃ acc, H4 D = some (.lst acc) ∧ acc.length < sizeLine ∧ Nx (upd H4 D (.lst (acc ++ [y]))) else Nx H3) := by
  refine lc_range (lo := lo) (n := n) (fun i H' => Same H1 H' ∧ ∃ ws, H' D = some (.lst ws) ∧ R i H' ws) ⟨same_new nD, [], upd_same, r0 _⟩ ?_ ?_
  · rintro i H' hi ⟨sm, ws, eD, r⟩
    have lw := len i H' ws r
    have sz : ws.length < sizeLine := few_line (by omega)
    refine hs i H' _ ws hi sm eD sz r (fun H'' s r2 => ⟨sm.trans s, ws, s _ _ eD, r2⟩) (fun H'' y s r2 => ?_)
    exact ⟨ws, s _ _ eD, sz, same_off nD (sm.trans s), _, upd_same, mono _ _ _ _ (Tps.lst (s _ _ eD)) r2⟩
  · rintro H' ⟨sm, ws, eD, r⟩
    exact hd H' ws sm eD r

theorem ltP_nodup {ps : List (Int × Int)} (h : ps.Pairwise ltP) : ps.Nodup := h.imp fun {a b} h e => by
  subst e
  rcases h with h | h <;> omega
theorem ltP_uniq {ps qs : List (Int × Int)} (h1 : ps.Pairwise ltP) (h2 : qs.Pairwise ltP) (m : ∀ q, q ∈ ps ↔ q ∈ qs) : ps = qs :=
  leP_uniq (leP_of_lt h1) (leP_of_lt h2) ((List.perm_ext_iff_of_nodup (ltP_nodup h1) (ltP_nodup h2)).mpr m)
theorem mv_ltP {B : Int} {ps : List (Int × Int)} (h : ps.Pairwise ltP) : (ps.map (mvI B)).Pairwise ltP := List.pairwise_map.mpr (h.imp fun {a b} h => by
  unfold ltP at h
  unfold mvI ltP
  show a.1 + B < b.1 + B ∨ a.1 + B = b.1 + B ∧ a.2 + B < b.2 + B
  omega)
theorem mv_inj {B : Int} {a b : Int × Int} (h : mvI B a = mvI B b) : a = b := by
  unfold mvI at h
  have h1 := congrArg Prod.fst h
  have h2 := congrArg Prod.snd h
  simp only at h1 h2
  exact Prod.ext (by omega) (by omega)
theorem at3 {α : Type} {r : Int} (h0 : 0 ≤ r) (h1 : r < 3) (x y z : α) : ∃ v, atI [x, y, z] r = some v ∧ (v = x ∨ v = y ∨ v = z) := by
  have : r = 0 ∨ r = 1 ∨ r = 2 := by omega
  rcases this with rfl | rfl | rfl
  · exact ⟨x, rfl, .inl rfl⟩
  · exact ⟨y, rfl, .inr (.inl rfl)⟩
  · exact ⟨z, rfl, .inr (.inr rfl)⟩
theorem eqv_pair (x y u v : Int) : PyData.eqv (.tuple [.int x, .int y]) (.tuple [.int u, .int v]) = decide ((x, y) = (u, v)) := by
  show ((x == u) && ((y == v) && true)) = _
  rw [Bool.and_true]
  by_cases h : (x, y) = (u, v)
  · cases h
    simp
  · rw [decide_eq_false h]
    simp at h ⊢
    exact h

/-! ### tuples joined and cut, whichever object comes out -/
theorem catA_any {K : PySem.W.Frag} {H : Hp} {a b : Addr} {xs ys : List V} {Q : VK} (h1 : H a = some (.tup xs)) (h2 : H b = some (.tup ys)) (sz : xs.length + ys.length ≤ sizeLine) (k : ∀ H' p, Same H H' → H' p = some (.tup (xs ++ ys)) → Q (.ref p) H') : rCatA K (.ref a) (.ref b) H Q := by
  refine ⟨a, b, xs, ys, rfl, rfl, SqT.of h1, SqT.of h2, sz, fun e => k H b (Same.refl _) ?_, fun _ e => k H a (Same.refl _) ?_, fun _ _ p np => k _ p (same_new np) upd_same⟩
  · rw [e]
    exact h2
  · rw [e, List.append_nil]
    exact h1
theorem slA_any {K : PySem.W.Frag} {H : Hp} {a : Addr} {xs : List V} {lo hi : Option Int} {Q : VK} (h1 : H a = some (.tup xs)) (k : ∀ H' p, Same H H' → H' p = some (.tup (cutV xs lo hi)) → Q (.ref p) H') : rSlA K (.ref a) lo hi H Q := by
  refine ⟨a, xs, rfl, SqT.of h1, fun e => k H a (Same.refl _) ?_, fun _ p np => k _ p (same_new np) upd_same⟩
  have e2 : cutV xs lo hi = xs := by
    unfold cutV
    rw [e.1, e.2]
    simp
  rw [e2]
  exact h1
theorem Ivs.take {H : Hp} {vs : List V} {ps : List (Int × Int)} (h : Ivs H vs ps) : ∀ n : Nat, Ivs H (vs.take n) (ps.take n) := by
  induction h with
  | nil =>
    intro n
    rw [List.take_nil, List.take_nil]
    exact .nil
  | cons e _ ih =>
    intro n
    cases n with
    | zero => exact .nil
    | succ n => exact .cons e (ih n)

theorem atI_end {xs : List V} {v : V} (h : xs[xs.length - 1]? = some v) : atI xs (-1) = some v := by
  have ne : xs ≠ [] := fun e => by
    rw [e] at h
    cases h
  have e := List.dropLast_concat_getLast ne
  rw [List.getLast_eq_getElem] at e
  rw [List.getElem?_eq_getElem (by have := List.length_pos_iff.mpr ne; omega)] at h
  rw [Option.some.inj h] at e
  rw [← e]
  exact atI_last _ _

theorem shaped_pairs (ps : List (Int × Int)) : SeqAt.shaped (.tuple (ps.map pairD)) = true := by
  have h1 : ∀ ps : List (Int × Int), PyData.canLayAll0 (ps.map pairD) = true := by
    intro ps
    induction ps with
    | nil => rfl
    | cons n r ih => exact ih
  have h2 : ∀ ps : List (Int × Int), PyData.depthAll (ps.map pairD) ≤ 1 := by
    intro ps
    induction ps with
    | nil => exact Nat.zero_le _
    | cons n r ih =>
      show max 1 (PyData.depthAll (r.map pairD)) ≤ 1
      omega
  unfold SeqAt.shaped
  rw [show PyData.canLay0 (.tuple (ps.map pairD)) = PyData.canLayAll0 (ps.map pairD) from rfl, h1 ps]
  show decide (PyData.depthAll (ps.map pairD) + 1 ≤ 64) = true
  exact decide_eq_true (by have := h2 ps; omega)
theorem eqv_self (ps : List (Int × Int)) : PyData.eqv (.tuple (ps.map pairD)) (.tuple (ps.map pairD)) = true := by
  show PyData.eqvAll (ps.map pairD) (ps.map pairD) = true
  induction ps with
  | nil => rfl
  | cons q r ih =>
    show (((q.1 == q.1) && ((q.2 == q.2) && true)) && PyData.eqvAll (r.map pairD) (r.map pairD)) = true
    rw [ih, beq_self_eq_true, beq_self_eq_true]
    rfl

/-! ### what a value is -/
def tyD : PyData → String
  | .none => "NoneType"
  | .bool _ => "bool"
  | .int _ => "int"
  | .str _ => "str"
  | .list _ => "list"
  | .tuple _ => "tuple"
  | .dict _ => "dict"
theorem Dv.ty {K : PySem.W.Frag} {H : Hp} {v : V} {d : PyData} (h : Dv K H v d) : TyX K H v (.type (tyD d)) := by
  cases h with
  | non => exact .base .non
  | bl b => exact .base (.bl b)
  | int i => exact .base (.int i)
  | str x => exact .base (.str x)
  | lst e _ => exact .base (.lst e)
  | tup e _ => exact .base (.tup e)
  | dic e _ => exact .base (.dK e)
def intB : PyData → Bool
  | .bool _ => true
  | .int _ => true
  | _ => false
def boolB : PyData → Bool
  | .bool _ => true
  | _ => false
def tupB : PyData → Bool
  | .tuple _ => true
  | _ => false
theorem kit_int {K : PySem.W.Frag} (d : PyData) : PySem.W.kitOne K (.type (tyD d)) (.type "int") = some (intB d) := by
  cases d with
  | none => exact kit_ty (a := "NoneType") (b := "int") (r := false) (by decide +kernel)
  | bool _ => exact kit_ty (a := "bool") (b := "int") (r := true) (by decide +kernel)
  | int _ => exact kit_ty (a := "int") (b := "int") (r := true) (by decide +kernel)
  | str _ => exact kit_ty (a := "str") (b := "int") (r := false) (by decide +kernel)
  | list _ => exact kit_ty (a := "list") (b := "int") (r := false) (by decide +kernel)
  | tuple _ => exact kit_ty (a := "tuple") (b := "int") (r := false) (by decide +kernel)
  | dict _ => exact kit_ty (a := "dict") (b := "int") (r := false) (by decide +kernel)
theorem kit_bool {K : PySem.W.Frag} (d : PyData) : PySem.W.kitOne K (.type (tyD d)) (.type "bool") = some (boolB d) := by
  cases d with
  | none => exact kit_ty (a := "NoneType") (b := "bool") (r := false) (by decide +kernel)
  | bool _ => exact kit_ty (a := "bool") (b := "bool") (r := true) (by decide +kernel)
  | int _ => exact kit_ty (a := "int") (b := "bool") (r := false) (by decide +kernel)
  | str _ => exact kit_ty (a := "str") (b := "bool") (r := false) (by decide +kernel)
  | list _ => exact kit_ty (a := "list") (b := "bool") (r := false) (by decide +kernel)
  | tuple _ => exact kit_ty (a := "tuple") (b := "bool") (r := false) (by decide +kernel)
  | dict _ => exact kit_ty (a := "dict") (b := "bool") (r := false) (by decide +kernel)
theorem kit_tup {K : PySem.W.Frag} (d : PyData) : PySem.W.kitOne K (.type (tyD d)) (.type "tuple") = some (tupB d) := by
  cases d with
  | none => exact kit_ty (a := "NoneType") (b := "tuple") (r := false) (by decide +kernel)
  | bool _ => exact kit_ty (a := "bool") (b := "tuple") (r := false) (by decide +kernel)
  | int _ => exact kit_ty (a := "int") (b := "tuple") (r := false) (by decide +kernel)
  | str _ => exact kit_ty (a := "str") (b := "tuple") (r := false) (by decide +kernel)
  | list _ => exact kit_ty (a := "list") (b := "tuple") (r := false) (by decide +kernel)
  | tuple _ => exact kit_ty (a := "tuple") (b := "tuple") (r := true) (by decide +kernel)
  | dict _ => exact kit_ty (a := "dict") (b := "tuple") (r := false) (by decide +kernel)
def inB (lo hi : Int) : PyData → Bool
  | .int i => decide (lo ≤ i) && decide (i ≤ hi)
  | _ => false
def leB : PyData → PyData → Bool
  | .int x, .int y => decide (x ≤ y)
  | _, _ => false
def ivB : PyData → Bool
  | .tuple [a, b] => inB 0 1000000000000 a && (inB 0 1000000000000 b && leB a b)
  | _ => false
theorem Dv.asInt {K : PySem.W.Frag} {H : Hp} {v : V} {i : Int} (h : Dv K H v (.int i)) : v = .int i := by
  cases h
  rfl
theorem dv_same {K : PySem.W.Frag} {H H' : Hp} (s : Same H H') {v : V} {d : PyData} (h : Dv K H v d) : Dv K H' v d :=
  Dv.rec (K := K) (H := H) (motive_1 := fun v d _ => Dv K H' v d) (motive_2 := fun vs ds _ => DvAll K H' vs ds) .non (fun b => .bl b) (fun i => .int i) (fun x => .str x) (fun e _ q => .lst (s _ _ e) q) (fun e _ q => .tup (s _ _ e) q) (fun e _ q => .dic (s _ _ e) q) .nil (fun _ _ a b => .cons a b) h
theorem dvAll_same {K : PySem.W.Frag} {H H' : Hp} (s : Same H H') : ∀ {vs : List V} {ds : List PyData}, DvAll K H vs ds → DvAll K H' vs ds
  | _, _, .nil => .nil
  | _, _, .cons a b => .cons (dv_same s a) (dvAll_same s b)
theorem DvAll.get {K : PySem.W.Frag} {H : Hp} : ∀ {vs : List V} {ds : List PyData}, DvAll K H vs ds → ∀ {i : Nat} {v : V}, vs[i]? = some v → ∃ d, ds[i]? = some d ∧ Dv K H v d
  | _, _, .nil, _, _, e => by simp at e
  | _, _, .cons a b, 0, _, e => by
    cases e
    exact ⟨_, rfl, a⟩
  | _, _, .cons a b, i + 1, _, e => b.get (i := i) e
theorem DvAll.append {K : PySem.W.Frag} {H : Hp} : ∀ {vs us : List V} {ds es : List PyData}, DvAll K H vs ds → DvAll K H us es → DvAll K H (vs ++ us) (ds ++ es)
  | _, _, _, _, .nil, h => h
  | _, _, _, _, .cons a b, h => .cons a (b.append h)
theorem Dv.dp {K : PySem.W.Frag} {H : Hp} {v : V} {d : PyData} (h : Dv K H v d) : d.canLay0 = true → Dp K H v d := by
  refine Dv.rec (K := K) (H := H) (motive_1 := fun v d _ => d.canLay0 = true → Dp K H v d) (motive_2 := fun vs ds _ => PyData.canLayAll0 ds = true → DpAll K H vs ds) (fun _ => .non) (fun b _ => .bl b) (fun i _ => .int i) (fun x _ => .str x) (fun e _ q z => .lst (SqL.of e) (q z)) (fun e _ q z => .tup (SqT.of e) (q z)) (fun _ _ _ z => ?_) (fun _ => .nil) (fun _ _ a b z => ?_) h
  · cases z
  · have z' := Bool.and_eq_true_iff.mp z
    exact .cons (a z'.1) (b z'.2)
/-- a value that may be asked whether it is an interval: what stands in it, if it is a tuple, has no dicts -/
def PlainT (d : PyData) : Prop := ∀ ds, d = .tuple ds → PyData.canLayAll0 ds = true ∧ PyData.depthAll ds ≤ 60

/-! ### the program's own -/
def sp_is_number (K : PySem.W.Frag) : Sp := fun vs H Q _ => ∃ (v : V) (d : PyData), vs = [v] ∧ Dv K H v d ∧ Q (.bl (intB d && !boolB d)) H
theorem ok_is_number (T : Tx K mg f_is_number f_is_position f_is_tuple_of f_is_interval f_parse_number f_parse_interval f_parse_intervals f_law_deck f_law_draw f_law_same f_law_small f_law_moved f_law_text f_law_odd f_law_bent f_law_number f_law_due f_law_told f_law f_BadText_init X_BadText X_SpanError X_BadInterval d_is_number d_is_position d_is_tuple_of d_is_interval d_parse_number d_parse_interval d_parse_intervals d_law_deck d_law_draw d_law_same d_law_small d_law_moved d_law_text d_law_odd d_law_bent d_law_number d_law_due d_law_told d_law d_BadText_init t_LAST_POSITION) : FnOk P w K mg base CX0 1 f_is_number d_is_number ["value"] (sp_is_number K) := by
  refine T.F_is_number.ok sc_is_number (fun vs H Q E h => ?_) (fun cdv A outer s H vs Q E hr h => ?_)
  · obtain ⟨v, d, rfl, _⟩ := h
    rfl
  · obtain ⟨v, d, rfl, hd, q⟩ := h
    refine ⟨_, (pss_one (ps_ret (pe_and (pe_callB call_isi (by rfl) T.z_isinstance (by decide +kernel) (pa_cons (pv 0) (pa_cons (pe_bltn (v := .ty "int") (u := .type "int") (by rfl) T.z_int (by decide +kernel) rfl) pa_nil))) (pe_one (pe_not (pe_callB call_isi (by rfl) T.z_isinstance (by decide +kernel) (pa_cons (pv 0) (pa_cons (pe_bltn (v := .ty "bool") (u := .type "bool") (by rfl) T.z_bool (by decide +kernel) rfl) pa_nil)))))))), ?_⟩
    refine ⟨v, rfl, v, .ty "int", _, _, _, rfl, .ty "int", hd.ty, kit_int d, _, rfl, ite2 (fun e => ?_) (fun e => ?_)⟩
    · refine ⟨v, rfl, v, .ty "bool", _, _, _, rfl, .ty "bool", hd.ty, kit_bool d, _, rfl, ?_⟩
      rw [e] at q
      exact q
    · rw [Bool.not_eq_true] at e
      rw [e] at q
      exact q
theorem num_int {d : PyData} (h : (intB d && !boolB d) = true) : ∃ i, d = .int i := by
  cases d with
  | int i => exact ⟨i, rfl⟩
  | _ => exact (Bool.false_ne_true h).elim
theorem num_no {d : PyData} {lo hi : Int} (h : (intB d && !boolB d) = false) : inB lo hi d = false := by
  cases d with
  | int i => exact Bool.noConfusion (show true = false from h)
  | _ => rfl
def sp_is_position (K : PySem.W.Frag) : Sp := fun vs H Q _ => ∃ (v : V) (d : PyData), vs = [v] ∧ Dv K H v d ∧ Q (.bl (inB 0 1000000000000 d)) H
theorem ok_is_position (T : Tx K mg f_is_number f_is_position f_is_tuple_of f_is_interval f_parse_number f_parse_interval f_parse_intervals f_law_deck f_law_draw f_law_same f_law_small f_law_moved f_law_text f_law_odd f_law_bent f_law_number f_law_due f_law_told f_law f_BadText_init X_BadText X_SpanError X_BadInterval d_is_number d_is_position d_is_tuple_of d_is_interval d_parse_number d_parse_interval d_parse_intervals d_law_deck d_law_draw d_law_same d_law_small d_law_moved d_law_text d_law_odd d_law_bent d_law_number d_law_due d_law_told d_law d_BadText_init t_LAST_POSITION) : FnOk P w K mg base CX0 2 f_is_position d_is_position ["value"] (sp_is_position K) := by
  refine T.F_is_position.ok sc_is_position (fun vs H Q E h => ?_) (fun cdv A outer s H vs Q E hr h => ?_)
  · obtain ⟨v, d, rfl, _⟩ := h
    rfl
  · obtain ⟨v, d, rfl, hd, q⟩ := h
    refine ⟨_, (pss_one (ps_ret (pe_and (pe_call (ok_is_number T) (hr.mono (by decide)) (by rfl) T.g_is_number T.F_is_number.kp T.b_is_number .nil pass0 (pa_cons (pv 0) pa_nil)) (pe_one (pe_chain op_le op_le pe_int (pv 0) (pe_glob (v := .int 1000000000000) (by rfl) T.c_LAST_POSITION ⟨_, rfl⟩)))))), ?_⟩
    refine ⟨v, rfl, v, d, rfl, hd, _, rfl, ite2 (fun e => ?_) (fun e => ?_)⟩
    · obtain ⟨i, rfl⟩ := num_int e
      have ev := hd.asInt
      subst ev
      refine ⟨.int i, rfl, _, _, rfl, rfl, _, rfl, ite2 (fun e2 => ?_) (fun e2 => ?_)⟩
      · refine ⟨_, _, rfl, rfl, ?_⟩
        have q' : Q (.bl (decide (0 ≤ i) && decide (i ≤ 1000000000000))) H := q
        rw [e2] at q'
        exact q'
      · have q' : Q (.bl (decide (0 ≤ i) && decide (i ≤ 1000000000000))) H := q
        rw [Bool.not_eq_true] at e2
        rw [e2] at q'
        exact q'
    · rw [Bool.not_eq_true] at e
      rw [num_no e] at q
      exact q
def sp_is_interval (K : PySem.W.Frag) : Sp := fun vs H Q _ => ∃ (v : V) (d : PyData), vs = [v] ∧ Dv K H v d ∧ Q (.bl (ivB d)) H
theorem iv_not {d : PyData} (h : tupB d = false) : ivB d = false := by
  cases d with
  | tuple ds => cases h
  | _ => rfl
def tlB (n : Int) : PyData → Bool
  | .tuple ds => decide ((ds.length : Int) = n)
  | _ => false
def sp_is_tuple_of (K : PySem.W.Frag) : Sp := fun vs H Q _ => ∃ (v : V) (d : PyData) (n : Int), vs = [v, .int n] ∧ Dv K H v d ∧ Q (.bl (tlB n d)) H
theorem tl_not {n : Int} {d : PyData} (h : tupB d = false) : tlB n d = false := by
  cases d with
  | tuple ds => cases h
  | _ => rfl
theorem ok_is_tuple_of (T : Tx K mg f_is_number f_is_position f_is_tuple_of f_is_interval f_parse_number f_parse_interval f_parse_intervals f_law_deck f_law_draw f_law_same f_law_small f_law_moved f_law_text f_law_odd f_law_bent f_law_number f_law_due f_law_told f_law f_BadText_init X_BadText X_SpanError X_BadInterval d_is_number d_is_position d_is_tuple_of d_is_interval d_parse_number d_parse_interval d_parse_intervals d_law_deck d_law_draw d_law_same d_law_small d_law_moved d_law_text d_law_odd d_law_bent d_law_number d_law_due d_law_told d_law d_BadText_init t_LAST_POSITION) : FnOk P w K mg base CX0 1 f_is_tuple_of d_is_tuple_of ["value", "length"] (sp_is_tuple_of K) := by
  refine T.F_is_tuple_of.ok sc_is_tuple_of (fun vs H Q E h => ?_) (fun cdv A outer s H vs Q E hr h => ?_)
  · obtain ⟨v, d, n, rfl, _⟩ := h
    rfl
  · obtain ⟨v, d, n, rfl, hd, q⟩ := h
    refine ⟨_, (pss_one (ps_ret (pe_and (pe_callB call_isi (by rfl) T.z_isinstance (by decide +kernel) (pa_cons (pv 0) (pa_cons (pe_bltn (v := .ty "tuple") (u := .type "tuple") (by rfl) T.z_tuple (by decide +kernel) rfl) pa_nil))) (pe_one (pe_cmpR op_eq (pe_callB call_len_seq (by rfl) T.z_len PySem.boot_len (pa_cons (pv 0) pa_nil)) (pv 1) (nomark _)))))), ?_⟩
    refine ⟨v, rfl, v, .ty "tuple", _, _, _, rfl, .ty "tuple", hd.ty, kit_tup d, _, rfl, ?_⟩
    cases tb : tupB d with
    | false =>
      refine iteF ?_
      rw [tl_not tb] at q
      exact q
    | true =>
      refine iteT ?_
      cases hd with
      | @tup a xs ds e all =>
        have len := all.length
        refine ⟨.ref a, rfl, a, xs, rfl, .inr (SqT.of e), .int n, rfl, rfl, ?_⟩
        have z : tlB n (.tuple ds) = decide (V.int (xs.length : Nat) = V.int n) := by
          show decide ((ds.length : Int) = n) = _
          rw [← len]
          by_cases y : ((xs.length : Nat) : Int) = n
          · rw [decide_eq_true y, decide_eq_true (by rw [y])]
          · rw [decide_eq_false y, decide_eq_false (fun z => y (V.int.inj z))]
        rw [z] at q
        exact q
      | _ => exact (Bool.false_ne_true tb).elim
theorem tl_two {d : PyData} (h : tlB 2 d = true) : ∃ a b, d = .tuple [a, b] := by
  match d, h with
  | .tuple [a, b], _ => exact ⟨a, b, rfl⟩
  | .tuple (x :: y :: z :: l), h =>
    have h' : ((x :: y :: z :: l).length : Int) = 2 := of_decide_eq_true (show decide (((x :: y :: z :: l).length : Int) = 2) = true from h)
    rw [List.length_cons, List.length_cons, List.length_cons] at h'
    omega
theorem iv_two {d : PyData} (h : ¬ tlB 2 d = true) : ivB d = false := by
  match d, h with
  | .tuple [a, b], h => exact absurd rfl h
  | .tuple [], _ => rfl
  | .tuple [_], _ => rfl
  | .tuple (_ :: _ :: _ :: l), _ => rfl
  | .none, _ => rfl
  | .bool _, _ => rfl
  | .int _, _ => rfl
  | .str _, _ => rfl
  | .list _, _ => rfl
  | .dict _, _ => rfl
theorem ok_is_interval (T : Tx K mg f_is_number f_is_position f_is_tuple_of f_is_interval f_parse_number f_parse_interval f_parse_intervals f_law_deck f_law_draw f_law_same f_law_small f_law_moved f_law_text f_law_odd f_law_bent f_law_number f_law_due f_law_told f_law f_BadText_init X_BadText X_SpanError X_BadInterval d_is_number d_is_position d_is_tuple_of d_is_interval d_parse_number d_parse_interval d_parse_intervals d_law_deck d_law_draw d_law_same d_law_small d_law_moved d_law_text d_law_odd d_law_bent d_law_number d_law_due d_law_told d_law d_BadText_init t_LAST_POSITION) : FnOk P w K mg base CX0 3 f_is_interval d_is_interval ["value"] (sp_is_interval K) := by
  refine T.F_is_interval.ok sc_is_interval (fun vs H Q E h => ?_) (fun cdv A outer s H vs Q E hr h => ?_)
  · obtain ⟨v, d, rfl, _⟩ := h
    rfl
  · obtain ⟨v, d, rfl, hd, q⟩ := h
    refine ⟨_, (pss_cons (ps_if (pt_not (pt_val (pe_call (ok_is_tuple_of T) (hr.mono (by decide)) (by rfl) T.g_is_tuple_of T.F_is_tuple_of.kp T.b_is_tuple_of .nil pass0 (pa_cons (pv 0) (pa_cons pe_int pa_nil)))))
      (pss_one (ps_ret pe_bl))
      pss_nil)
      (pss_cons (ps_asg (pv 0) (pg_tup rfl (pgs_cons (pg_name (i := 1) sc_is_interval.nd rfl (Or.inl rfl)) (pgs_cons (pg_name (i := 2) sc_is_interval.nd rfl (Or.inl rfl)) pgs_nil))))
      (pss_one (ps_ret (pe_and (pe_call (ok_is_position T) (hr.mono (by decide)) (by rfl) T.g_is_position T.F_is_position.kp T.b_is_position .nil pass0 (pa_cons (pv 1) pa_nil)) (pe_and (pe_call (ok_is_position T) (hr.mono (by decide)) (by rfl) T.g_is_position T.F_is_position.kp T.b_is_position .nil pass0 (pa_cons (pv 2) pa_nil)) (pe_one (pe_cmpR op_le (pv 1) (pv 2) (nomark _))))))))), ?_⟩
    refine ⟨v, rfl, v, d, 2, rfl, hd, _, rfl, ?_⟩
    by_cases tb : tlB 2 d = true
    · rw [tb]
      refine iteF ?_
      obtain ⟨d1, d2, rfl⟩ := tl_two tb
      cases hd with
      | @tup a xs ds e all =>
        match xs, all, e, q with
          | [v1, v2], .cons h1 (.cons h2 .nil), e, q =>
            refine ⟨.ref a, rfl, a, _, rfl, SqT.of e, rfl, v1, [v2], rfl, v2, [], rfl, rfl, ?_⟩
            refine ⟨v1, rfl, v1, d1, rfl, h1, _, rfl, ite2 (fun e1 => ?_) (fun e1 => ?_)⟩
            · refine ⟨v2, rfl, v2, d2, rfl, h2, _, rfl, ite2 (fun e2 => ?_) (fun e2 => ?_)⟩
              · cases d1 with
                | int i =>
                  cases d2 with
                  | int j =>
                    have x1 := h1.asInt
                    have x2 := h2.asInt
                    subst x1 x2
                    refine ⟨.int i, rfl, .int j, rfl, _, _, rfl, rfl, ?_⟩
                    have q' : Q (.bl (inB 0 1000000000000 (.int i) && (inB 0 1000000000000 (.int j) && decide (i ≤ j)))) H := q
                    rw [e1, e2] at q'
                    exact q'
                  | _ => exact absurd e2 (by simp [inB])
                | _ => exact absurd e1 (by simp [inB])
              · have q' : Q (.bl (inB 0 1000000000000 d1 && (inB 0 1000000000000 d2 && leB d1 d2))) H := q
                rw [Bool.not_eq_true] at e2
                rw [e1, e2] at q'
                exact q'
            · have q' : Q (.bl (inB 0 1000000000000 d1 && (inB 0 1000000000000 d2 && leB d1 d2))) H := q
              rw [Bool.not_eq_true] at e1
              rw [e1] at q'
              exact q'
    · rw [iv_two tb] at q
      rw [Bool.not_eq_true] at tb
      rw [tb]
      exact iteT q
/-! ### the law's own -/

/-! ### a number, an interval as the program reads them -/
def oV : Option Int → V
  | none => .non
  | some n => .int n
def oD : Option Int → PyData
  | none => .none
  | some n => .int n
theorem dv_oV {K : PySem.W.Frag} {H : Hp} (o : Option Int) : Dv K H (oV o) (oD o) := by
  cases o with
  | none => exact .non
  | some n => exact .int n
def OIv (H : Hp) (v : V) : Option (Int × Int) → Prop
  | none => v = .non
  | some q => ∃ t, v = .ref t ∧ H t = some (.tup [.int q.1, .int q.2])
theorem isdec_iff {x : Str} (h : low128 x) : Txt.isdecimal x = true ↔ TL.tl x ≠ [] ∧ Dig (TL.tl x) := by
  have key : ∀ c, c < 128 → (Unicode.isDecimal c = true ↔ 48 ≤ c ∧ c ≤ 57) := by decide +kernel
  unfold Txt.isdecimal
  rw [Bool.and_eq_true, decide_eq_true_iff, ← Array.all_toList, List.all_eq_true, TL.len_tl]
  constructor
  · rintro ⟨a, b⟩
    exact ⟨List.length_pos_iff.mp a, fun c hc => (key c (h c hc)).mp (b c hc)⟩
  · rintro ⟨a, b⟩
    exact ⟨List.length_pos_iff.mpr a, fun c hc => (key c (h c hc)).mpr (b c hc)⟩
theorem numS_eq {x : Str} {n : Nat} : numS (n : Int) = x ↔ TL.numL n = TL.tl x := by
  rw [← eq_of_tl, TL.tl_num]
theorem dig_lt : ∀ (n : Nat) (l : List Nat), l.length = n → Dig l → NumText.digitsVal l < 10 ^ l.length := by
  intro n
  induction n with
  | zero =>
    intro l hl _
    rw [List.length_eq_zero_iff.mp hl]
    decide
  | succ n ih =>
    intro l hl dg
    have ne : l ≠ [] := fun z => by
      rw [z] at hl
      cases hl
    obtain ⟨l', c, rfl⟩ : ∃ l' c, l = l' ++ [c] := ⟨l.dropLast, l.getLast ne, (List.dropLast_concat_getLast ne).symm⟩
    have hc := dg c (List.mem_append_right _ (List.mem_singleton.mpr rfl))
    have p1 : [c].length = 1 := rfl
    rw [List.length_append] at hl
    have a := ih l' (by omega) (fun x hx => dg x (List.mem_append_left _ hx))
    rw [digits_snoc, List.length_append, p1, Nat.pow_succ]
    omega
def sp_parse_number : Sp := fun vs H Q _ => ∃ x : Str, vs = [.str x] ∧ low128 x ∧ x.length ≤ 1000 ∧ Q (oV (numg (TL.tl x))) H
theorem ok_parse_number (T : Tx K mg f_is_number f_is_position f_is_tuple_of f_is_interval f_parse_number f_parse_interval f_parse_intervals f_law_deck f_law_draw f_law_same f_law_small f_law_moved f_law_text f_law_odd f_law_bent f_law_number f_law_due f_law_told f_law f_BadText_init X_BadText X_SpanError X_BadInterval d_is_number d_is_position d_is_tuple_of d_is_interval d_parse_number d_parse_interval d_parse_intervals d_law_deck d_law_draw d_law_same d_law_small d_law_moved d_law_text d_law_odd d_law_bent d_law_number d_law_due d_law_told d_law d_BadText_init t_LAST_POSITION) : FnOk P w K mg base CX0 1 f_parse_number d_parse_number ["text"] sp_parse_number := by
  refine T.F_parse_number.ok sc_parse_number (fun vs H Q E h => ?_) (fun cdv A outer s H vs Q E hr h => ?_)
  · obtain ⟨x, rfl, _⟩ := h
    rfl
  · obtain ⟨x, rfl, lo, len, q⟩ := h
    refine ⟨_, (pss_cons (ps_if (PW.pt (pw_or (pt_not (pt_val (pe_m0 PySem.F.slot_str_isdecimal PySem.F.type_str_isdecimal mt_isdecimal (pv 0)))) (pw_or1 (pt_cmpR op_gt (pe_callB call_len_str (by rfl) T.z_len PySem.boot_len (pa_cons (pv 0) pa_nil)) (pe_callB call_len_str (by rfl) T.z_len PySem.boot_len (pa_cons (pe_callTy call_str_int (by rfl) T.z_str (by decide +kernel) (pa_cons (pe_glob (v := .int 1000000000000) (by rfl) T.c_LAST_POSITION ⟨_, rfl⟩) pa_nil)) pa_nil)) (nomark _)))))
      (pss_one (ps_ret pe_non))
      pss_nil)
      (pss_cons (ps_set (i := 1) sc_parse_number.nd rfl (Or.inl rfl) (pe_callTy call_int_str (by rfl) T.z_int (by decide +kernel) (pa_cons (pv 0) pa_nil)))
      (pss_one (ps_ret (pe_ifExp (pt_cmpR op_eq (pe_callTy call_str_int (by rfl) T.z_str (by decide +kernel) (pa_cons (pv 1) pa_nil)) (pv 0) (nomark _)) (pv 1) pe_non))))), ?_⟩
    have sz : sizeLine = 16777216 := by decide
    refine ⟨.str x, rfl, ⟨_, rfl⟩, _, rfl, rfl, trivial, _, rfl, ?_⟩
    by_cases dc : TL.tl x ≠ [] ∧ Dig (TL.tl x)
    · rw [(isdec_iff lo).mpr dc]
      refine iteF ?_
      refine ⟨.str x, rfl, _, rfl, by omega, _, rfl, by decide +kernel, _, rfl, by decide +kernel, _, _, rfl, rfl, _, rfl, ?_⟩
      rw [show (Str.ofString (toString (1000000000000 : Int))).length = 13 by decide +kernel]
      by_cases l13 : x.length ≤ 13
      · rw [decide_eq_false (by omega)]
        refine iteF ?_
        have it : intText? x = some ((NumText.digitsVal (TL.tl x) : Nat) : Int) := intText_digits dc.2 dc.1 (by omega)
        refine ⟨.str x, rfl, _, _, rfl, it, by omega, ?_⟩
        refine ⟨.int _, rfl, _, rfl, ?_, .str x, rfl, rfl, _, rfl, ?_⟩
        · refine log2_tr (by omega) ?_
          have a := dig_lt _ (TL.tl x) rfl dc.2
          have b : 10 ^ (TL.tl x).length ≤ 10 ^ 13 := Nat.pow_le_pow_right (by decide) (by rw [← TL.len_tl]; exact l13)
          have c : (10 : Nat) ^ 13 ≤ 10 ^ 30 := by decide
          have e : ((10 ^ 30 : Nat) : Int) = (10 : Int) ^ 30 := by decide +kernel
          omega
        by_cases cn : (TL.tl x).head? ≠ some 48 ∨ TL.tl x = [48]
        · have e := numS_eq.mpr ((canon_iff dc.1 dc.2).mpr cn)
          have e' : decide (V.str (Str.ofString (toString ((NumText.digitsVal (TL.tl x) : Nat) : Int))) = V.str x) = true := decide_eq_true (congrArg V.str e)
          rw [e']
          refine iteT ⟨.int _, rfl, ?_⟩
          unfold numg at q
          rw [if_pos ⟨dc, by rw [← TL.len_tl]; exact l13, cn⟩] at q
          exact q
        · have e : ¬ numS ((NumText.digitsVal (TL.tl x) : Nat) : Int) = x := fun z => cn ((canon_iff dc.1 dc.2).mp (numS_eq.mp z))
          have e' : decide (V.str (Str.ofString (toString ((NumText.digitsVal (TL.tl x) : Nat) : Int))) = V.str x) = false := decide_eq_false (fun z => e (V.str.inj z))
          rw [e']
          refine iteF ?_
          unfold numg at q
          rw [if_neg (fun z => cn z.2.2)] at q
          exact q
      · rw [decide_eq_true (by omega)]
        refine iteT ?_
        unfold numg at q
        rw [if_neg (fun z => l13 (by rw [TL.len_tl]; exact z.2.1))] at q
        exact q
    · have e : Txt.isdecimal x = false := by
        rw [← Bool.not_eq_true]
        exact fun z => dc ((isdec_iff lo).mp z)
      rw [e]
      refine iteT ?_
      unfold numg at q
      rw [if_neg (fun z => dc z.1)] at q
      exact q
theorem par_eq (w : Str) : Txt.partition w "-" = match TL.par [45] [] (TL.tl w) with
  | some (a, b) => ((⟨a.toArray⟩ : Str), ("-" : Str), (⟨b.toArray⟩ : Str))
  | none => (w, Str.empty, Str.empty) := by
  rw [TL.partition_par w "-" (by rw [tl_hy]; simp), tl_hy]
  cases TL.par [45] [] (TL.tl w) with
  | none => rfl
  | some p => rfl
theorem par_mem {L a b : List Nat} (h : TL.par [45] [] L = some (a, b)) : (∀ c ∈ a, c ∈ L) ∧ (∀ c ∈ b, c ∈ L) ∧ a.length ≤ L.length ∧ b.length ≤ L.length := by
  by_cases c : 45 ∈ L
  · obtain ⟨a', b', rfl, na⟩ := List.eq_append_cons_of_mem c
    have e1 : TL.par [45] [] (a' ++ 45 :: b') = some ([] ++ a', b') := TL.par_part1 (S := []) na
    rw [e1, List.nil_append] at h
    cases h
    refine ⟨fun c hc => List.mem_append_left _ hc, fun c hc => List.mem_append_right _ (List.mem_cons_of_mem _ hc), by rw [List.length_append]; omega, by rw [List.length_append, List.length_cons]; omega⟩
  · rw [TL.par_none1 c] at h
    cases h
def sp_parse_interval : Sp := fun vs H Q _ => ∃ w : Str, vs = [.str w] ∧ low128 w ∧ w.length ≤ 1000 ∧ ∀ H' v, Same H H' → OIv H' v (ivf (TL.tl w)) → Q v H'
theorem ok_parse_interval (T : Tx K mg f_is_number f_is_position f_is_tuple_of f_is_interval f_parse_number f_parse_interval f_parse_intervals f_law_deck f_law_draw f_law_same f_law_small f_law_moved f_law_text f_law_odd f_law_bent f_law_number f_law_due f_law_told f_law f_BadText_init X_BadText X_SpanError X_BadInterval d_is_number d_is_position d_is_tuple_of d_is_interval d_parse_number d_parse_interval d_parse_intervals d_law_deck d_law_draw d_law_same d_law_small d_law_moved d_law_text d_law_odd d_law_bent d_law_number d_law_due d_law_told d_law d_BadText_init t_LAST_POSITION) : FnOk P w K mg base CX0 4 f_parse_interval d_parse_interval ["word"] sp_parse_interval := by
  refine T.F_parse_interval.ok sc_parse_interval (fun vs H Q E h => ?_) (fun cdv A outer s H vs Q E hr h => ?_)
  · obtain ⟨w, rfl, _⟩ := h
    rfl
  · obtain ⟨w, rfl, lo, len, q⟩ := h
    refine ⟨_, (pss_cons (ps_asg (pe_partition (pv 0) pe_str) (pg_tup rfl (pgs_cons (pg_name (i := 1) sc_parse_interval.nd rfl (Or.inl rfl)) (pgs_cons (pg_name (i := 2) sc_parse_interval.nd rfl (Or.inl rfl)) (pgs_cons (pg_name (i := 3) sc_parse_interval.nd rfl (Or.inl rfl)) pgs_nil)))))
      (pss_cons (ps_set (i := 4) sc_parse_interval.nd rfl (Or.inl rfl) (pe_tup (pa_cons (pe_call (ok_parse_number T) (hr.mono (by decide)) (by rfl) T.g_parse_number T.F_parse_number.kp T.b_parse_number .nil pass0 (pa_cons (pv 1) pa_nil)) (pa_cons (pe_call (ok_parse_number T) (hr.mono (by decide)) (by rfl) T.g_parse_number T.F_parse_number.kp T.b_parse_number .nil pass0 (pa_cons (pv 3) pa_nil)) pa_nil))))
      (pss_one (ps_ret (pe_ifExp (pt_val (pe_call (ok_is_interval T) (hr.mono (by decide)) (by rfl) T.g_is_interval T.F_is_interval.kp T.b_is_interval .nil pass0 (pa_cons (pv 4) pa_nil))) (pv 4) pe_non))))), ?_⟩
    have sz : sizeLine = 16777216 := by decide
    refine ⟨.str w, rfl, ⟨_, rfl⟩, _, _, rfl, rfl, by decide +kernel, by omega, fun t nt => ?_⟩
    rw [par_eq]
    rw [← ivg_eq] at q
    unfold ivg at q
    cases hp : TL.par [45] [] (TL.tl w) with
    | none =>
      rw [hp] at q
      dsimp only at q ⊢
      have s1 := same_new (o := .tup [V.str w, .str Str.empty, .str Str.empty]) nt
      have e1 := upd_same (H := H) (a := t) (o := .tup [V.str w, .str Str.empty, .str Str.empty])
      generalize upd H t (.tup [V.str w, .str Str.empty, .str Str.empty]) = H1 at *
      refine ⟨t, _, rfl, SqT.of e1, rfl, .str w, [.str Str.empty, .str Str.empty], rfl, .str Str.empty, [.str Str.empty], rfl, .str Str.empty, [], rfl, rfl, ?_⟩
      refine ⟨.str w, rfl, w, rfl, lo, len, .str Str.empty, rfl, Str.empty, rfl, (fun c hc => nomatch hc), by decide, by show 2 ≤ sizeLine; decide, fun t2 nt2 => ?_⟩
      rw [show numg (TL.tl Str.empty) = none from numg_nil]
      have s2 := same_new (o := .tup [oV (numg (TL.tl w)), oV none]) nt2
      have e2 := upd_same (H := H1) (a := t2) (o := .tup [oV (numg (TL.tl w)), oV none])
      generalize upd H1 t2 (.tup [oV (numg (TL.tl w)), oV none]) = H2 at *
      have dv : Dv K H2 (.ref t2) (.tuple [oD (numg (TL.tl w)), .none]) := .tup e2 (.cons (dv_oV _) (.cons .non .nil))
      refine ⟨.ref t2, rfl, .ref t2, _, rfl, dv, _, rfl, ?_⟩
      have nb : ivB (.tuple [oD (numg (TL.tl w)), .none]) = false := by
        cases numg (TL.tl w) with
        | none => rfl
        | some n =>
          show (inB 0 1000000000000 (.int n) && (inB 0 1000000000000 .none && leB (.int n) .none)) = false
          cases inB 0 1000000000000 (.int n) <;> rfl
      rw [nb]
      exact iteF (q _ _ (s1.trans s2) rfl)
    | some ab =>
      obtain ⟨a, b⟩ := ab
      obtain ⟨ma, mb, la, lb⟩ := par_mem hp
      rw [hp] at q
      dsimp only at q ⊢
      have len' : (TL.tl w).length ≤ 1000 := by rw [← TL.len_tl]; exact len
      have s1 := same_new (o := .tup [V.str ⟨a.toArray⟩, .str "-", .str ⟨b.toArray⟩]) nt
      have e1 := upd_same (H := H) (a := t) (o := .tup [V.str ⟨a.toArray⟩, .str "-", .str ⟨b.toArray⟩])
      generalize upd H t (.tup [V.str ⟨a.toArray⟩, .str "-", .str ⟨b.toArray⟩]) = H1 at *
      refine ⟨t, _, rfl, SqT.of e1, rfl, .str ⟨a.toArray⟩, [.str "-", .str ⟨b.toArray⟩], rfl, .str "-", [.str ⟨b.toArray⟩], rfl, .str ⟨b.toArray⟩, [], rfl, rfl, ?_⟩
      refine ⟨.str ⟨a.toArray⟩, rfl, _, rfl, fun c hc => lo c (ma c hc), by rw [TL.len_tl]; show a.length ≤ 1000; omega, .str ⟨b.toArray⟩, rfl, _, rfl, fun c hc => lo c (mb c hc), by rw [TL.len_tl]; show b.length ≤ 1000; omega, by show 2 ≤ sizeLine; decide, fun t2 nt2 => ?_⟩
      have ta : TL.tl (⟨a.toArray⟩ : Str) = a := TL.tl_mk a
      have tb : TL.tl (⟨b.toArray⟩ : Str) = b := TL.tl_mk b
      rw [ta, tb]
      have s2 := same_new (o := .tup [oV (numg a), oV (numg b)]) nt2
      have e2 := upd_same (H := H1) (a := t2) (o := .tup [oV (numg a), oV (numg b)])
      generalize upd H1 t2 (.tup [oV (numg a), oV (numg b)]) = H2 at *
      have dv : Dv K H2 (.ref t2) (.tuple [oD (numg a), oD (numg b)]) := .tup e2 (.cons (dv_oV _) (.cons (dv_oV _) .nil))
      refine ⟨.ref t2, rfl, .ref t2, _, rfl, dv, _, rfl, ?_⟩
      have s12 := s1.trans s2
      cases ha : numg a with
      | none =>
        rw [ha] at q
        exact iteF (q _ _ s12 rfl)
      | some x =>
        have x0 := numg_nn ha
        rw [ha] at q
        cases hb : numg b with
        | none =>
          rw [hb] at q
          have nb : ivB (.tuple [oD (some x), oD none]) = false := by
            show (inB 0 1000000000000 (.int x) && (inB 0 1000000000000 .none && leB (.int x) .none)) = false
            cases inB 0 1000000000000 (.int x) <;> rfl
          rw [nb]
          exact iteF (q _ _ s12 rfl)
        | some y =>
          have y0 := numg_nn hb
          rw [hb] at q
          rw [ha, hb] at e2
          dsimp only at q
          have eb : ivB (.tuple [oD (some x), oD (some y)]) = ((decide (0 ≤ x) && decide (x ≤ 1000000000000)) && ((decide (0 ≤ y) && decide (y ≤ 1000000000000)) && decide (x ≤ y))) := rfl
          rw [eb]
          by_cases cc : (x ≤ 1000000000000 ∧ y ≤ 1000000000000) ∧ x ≤ y
          · rw [if_pos cc] at q
            rw [decide_eq_true x0, decide_eq_true y0, decide_eq_true cc.1.1, decide_eq_true cc.1.2, decide_eq_true cc.2]
            exact iteT ⟨.ref t2, rfl, q _ _ s12 ⟨t2, rfl, e2⟩⟩
          · rw [if_neg cc] at q
            have nb : ((decide (0 ≤ x) && decide (x ≤ 1000000000000)) && ((decide (0 ≤ y) && decide (y ≤ 1000000000000)) && decide (x ≤ y))) = false := by
              rw [← Bool.not_eq_true, Bool.and_eq_true, Bool.and_eq_true, Bool.and_eq_true, Bool.and_eq_true, decide_eq_true_iff, decide_eq_true_iff, decide_eq_true_iff, decide_eq_true_iff, decide_eq_true_iff]
              omega
            rw [nb]
            exact iteF (q _ _ s12 rfl)
/-! ### a row of intervals -/
def ltB (p q : Int × Int) : Bool := decide (p.1 < q.1 ∨ p.1 = q.1 ∧ p.2 < q.2)
noncomputable def stepW (L : List Nat) (acc : List (Int × Int)) : Option (Int × Int) := match ivf L with
  | none => none
  | some q => match acc.getLast? with
    | none => some q
    | some p => if ltB p q = true then some q else none
noncomputable def runW : List Str → Nat → List (Int × Int) → Nat ⊕ List (Int × Int)
  | [], _, acc => .inr acc
  | w :: ws, i, acc => match stepW (TL.tl w) acc with
    | none => .inl i
    | some q => runW ws (i + 1) (acc ++ [q])
noncomputable def outT (x : Str) : Nat ⊕ List (Int × Int) := if x = "none" then .inr [] else runW (Txt.split x " ") 0 []
theorem spl_le {s : Nat} (L : List Nat) : ∀ p ∈ TL.spl [s] 0 [] L, p.length ≤ L.length := by
  refine spl_ind (P := fun L r => ∀ p ∈ r, p.length ≤ L.length) (fun L _ p hp => ?_) (fun a b r _ ih p hp => ?_) L.length L (Nat.le_refl _)
  · rw [List.mem_singleton.mp hp]
    exact Nat.le_refl _
  · rw [List.length_append, List.length_append]
    rcases List.mem_cons.mp hp with rfl | hp
    · omega
    · have := ih p hp
      omega
theorem words_ok {x : Str} (lo : low128 x) (len : x.length ≤ 950) : (Txt.split x " ").length ≤ 951 ∧ ∀ w ∈ Txt.split x " ", low128 w ∧ w.length ≤ 950 := by
  have e := split_sp x
  have l := spl_len (s := 32) (TL.tl x)
  rw [← e, List.length_map, ← TL.len_tl] at l
  refine ⟨by omega, fun w hw => ⟨fun c hc => lo c ?_, ?_⟩⟩
  · exact spl_mem (TL.tl x) (TL.tl w) (by rw [← e]; exact List.mem_map.mpr ⟨w, hw, rfl⟩) c hc
  · have := spl_le (TL.tl x) (TL.tl w) (by rw [← e]; exact List.mem_map.mpr ⟨w, hw, rfl⟩)
    rw [TL.len_tl]
    rw [TL.len_tl] at len
    omega
theorem lexLe (p q : Int × Int) : Ob.lexAt (fun j => decide ([q.1, q.2].getD j 0 = [p.1, p.2].getD j 0)) (fun j => decide ([q.1, q.2].getD j 0 ≤ [p.1, p.2].getD j 0)) (decide ([q.1, q.2].length ≤ [p.1, p.2].length)) 0 (min [q.1, q.2].length [p.1, p.2].length) = !ltB p q := by
  show (if decide (q.1 = p.1) = true then (if decide (q.2 = p.2) = true then true else decide (q.2 ≤ p.2)) else decide (q.1 ≤ p.1)) = !decide (p.1 < q.1 ∨ p.1 = q.1 ∧ p.2 < q.2)
  by_cases c1 : q.1 = p.1
  · rw [if_pos (decide_eq_true c1)]
    by_cases c2 : q.2 = p.2
    · rw [if_pos (decide_eq_true c2), decide_eq_false (by omega)]
      rfl
    · rw [if_neg (by rw [decide_eq_false c2]; decide)]
      by_cases c3 : q.2 ≤ p.2
      · rw [decide_eq_true c3, decide_eq_false (by omega)]
        rfl
      · rw [decide_eq_false c3, decide_eq_true (by omega)]
        rfl
  · rw [if_neg (by rw [decide_eq_false c1]; decide)]
    by_cases c3 : q.1 ≤ p.1
    · rw [decide_eq_true c3, decide_eq_false (by omega)]
      rfl
    · rw [decide_eq_false c3, decide_eq_true (by omega)]
      rfl
def strB : PyData → Bool
  | .str _ => true
  | _ => false
theorem kit_str {K : PySem.W.Frag} (d : PyData) : PySem.W.kitOne K (.type (tyD d)) (.type "str") = some (strB d) := by
  cases d with
  | none => exact kit_ty (a := "NoneType") (b := "str") (r := false) (by decide +kernel)
  | bool _ => exact kit_ty (a := "bool") (b := "str") (r := false) (by decide +kernel)
  | int _ => exact kit_ty (a := "int") (b := "str") (r := false) (by decide +kernel)
  | str _ => exact kit_ty (a := "str") (b := "str") (r := true) (by decide +kernel)
  | list _ => exact kit_ty (a := "list") (b := "str") (r := false) (by decide +kernel)
  | tuple _ => exact kit_ty (a := "tuple") (b := "str") (r := false) (by decide +kernel)
  | dict _ => exact kit_ty (a := "dict") (b := "str") (r := false) (by decide +kernel)
theorem ok_BadText_init (T : Tx K mg f_is_number f_is_position f_is_tuple_of f_is_interval f_parse_number f_parse_interval f_parse_intervals f_law_deck f_law_draw f_law_same f_law_small f_law_moved f_law_text f_law_odd f_law_bent f_law_number f_law_due f_law_told f_law f_BadText_init X_BadText X_SpanError X_BadInterval d_is_number d_is_position d_is_tuple_of d_is_interval d_parse_number d_parse_interval d_parse_intervals d_law_deck d_law_draw d_law_same d_law_small d_law_moved d_law_text d_law_odd d_law_bent d_law_number d_law_due d_law_told d_law d_BadText_init t_LAST_POSITION) : FnOk P w K mg base CX0 1 f_BadText_init d_BadText_init ["self", "index"] (sp_exc_init K X_BadText "index") := by
  refine T.F_BadText_init.ok sc_BadText_init (fun vs H Q E h => ?_) (fun cdv A outer s H vs Q E hr h => ?_)
  · obtain ⟨a, v, rfl, _⟩ := h
    rfl
  · obtain ⟨a, v, rfl, ha, q⟩ := h
    refine ⟨_, (pss_one (ps_ost (pv 0) (pv 1))), ?_⟩
    exact ⟨v, rfl, .ref a, rfl, a, X_BadText, rfl, T.xi_BadText.ox, T.xi_BadText.no, .inl ⟨ha, fun dx nd ne => q dx nd ne⟩⟩
def sp_parse_intervals (K : PySem.W.Frag) (XB : Addr) : Sp := fun vs H Q E => ∃ (v : V) (d : PyData), vs = [v] ∧ Dv K H v d ∧
  (strB d = false → ∀ dd, H dd = none → E (.ref XB) (some dd) (upd H dd (.xd [("index", .non)]))) ∧
  (∀ x, d = .str x → low128 x ∧ x.length ≤ 950 ∧ (∀ k : Nat, outT x = .inl k → ∀ H' dd, Same H H' → H' dd = none → E (.ref XB) (some dd) (upd H' dd (.xd [("index", .int k)]))) ∧
    (∀ ps, outT x = .inr ps → ∀ H' t us, Same H H' → H' t = some (.tup us) → Ivs H' us ps → Q (.ref t) H'))
theorem ok_parse_intervals (T : Tx K mg f_is_number f_is_position f_is_tuple_of f_is_interval f_parse_number f_parse_interval f_parse_intervals f_law_deck f_law_draw f_law_same f_law_small f_law_moved f_law_text f_law_odd f_law_bent f_law_number f_law_due f_law_told f_law f_BadText_init X_BadText X_SpanError X_BadInterval d_is_number d_is_position d_is_tuple_of d_is_interval d_parse_number d_parse_interval d_parse_intervals d_law_deck d_law_draw d_law_same d_law_small d_law_moved d_law_text d_law_odd d_law_bent d_law_number d_law_due d_law_told d_law d_BadText_init t_LAST_POSITION) : FnOk P w K mg base (L2.CX P w) 5 f_parse_intervals d_parse_intervals ["text"] (sp_parse_intervals K X_BadText) := by
  refine T.F_parse_intervals.okX sc_parse_intervals (fun vs H Q E h => ?_) (fun cdv A outer s H vs Q E hr h => ?_)
  · obtain ⟨v, d, rfl, _⟩ := h
    rfl
  · obtain ⟨v, d, rfl, hd, bad, good⟩ := h
    refine ⟨_, (pss_cons (ps_if (pt_not (pt_val (pe_callB call_isi (by rfl) T.z_isinstance (by decide +kernel) (pa_cons (pv 0) (pa_cons (pe_bltn (v := .ty "str") (u := .type "str") (by rfl) T.z_str (by decide +kernel) rfl) pa_nil)))))
      (pss_one (ps_raise1 rfl (takes_of rfl rfl rfl rfl) T.xn_BadText T.xi_BadText (ok_BadText_init T) (hr.mono (by decide)) T.b_BadText_init (by rfl) (pa_cons pe_non pa_nil)))
      pss_nil)
      (pss_cons (ps_if (pt_cmpR op_eq (pv 0) pe_str (nomark _))
      (PSs.nox (pss_one (ps_ret (pe_tup pa_nil))))
      pss_nil)
      (pss_cons (ps_set (i := 1) sc_parse_intervals.nd rfl (Or.inl rfl) (pe_lst pa_nil))
      (pss_cons (ps_for (passes_of rfl) rfl (pi_enum (by rfl) T.z_enumerate (pa_cons (pe_split (pv 0) pe_str) pa_nil)) (pg_tup rfl (pgs_cons (pg_name (i := 2) sc_parse_intervals.nd rfl (Or.inl rfl)) (pgs_cons (pg_name (i := 3) sc_parse_intervals.nd rfl (Or.inl rfl)) pgs_nil)))
      (pss_cons (ps_set (i := 4) sc_parse_intervals.nd rfl (Or.inl rfl) (pe_call (ok_parse_interval T) (hr.mono (by decide)) (by rfl) T.g_parse_interval T.F_parse_interval.kp T.b_parse_interval .nil pass0 (pa_cons (pv 3) pa_nil)))
      (pss_cons (ps_if (PW.pt (pw_or (pt_cmpR op_isN (pv 4) pe_non (nomark _)) (pw_or1 (PW.pt (pw_and (pt_truth (pv 1) (by intro _; rfl)) (pw_and1 (pt_cmpR (op_leT hr.units0) (pv 4) (pe_ix ix_list (pv 1) (pe_un un_neg pe_int) (fun _ _ => rfl)) (nomark _))))))))
      (pss_one (ps_raise1 rfl (takes_of rfl rfl rfl rfl) T.xn_BadText T.xi_BadText (ok_BadText_init T) (hr.mono (by decide)) T.b_BadText_init (by rfl) (pa_cons (pv 2) pa_nil)))
      pss_nil) (PSs.nox (pss_one (ps_expr (pe_bm PySem.F.plainAttrs_list PySem.F.slot_list_append PySem.F.type_list_append mt_append (pv 1) (pa_cons (pv 4) pa_nil)))))))) (PSs.nox (pss_one (ps_ret (pe_callTy call_tuple_of (by rfl) T.z_tuple (by decide +kernel) (pa_cons (pv 1) pa_nil))))))))), ?_⟩
    have sz : sizeLine = 16777216 := by decide
    refine ⟨v, rfl, v, .ty "str", _, _, _, rfl, .ty "str", hd.ty, kit_str d, _, rfl, ?_⟩
    cases hs : strB d with
    | false =>
      refine iteT ?_
      exact ⟨_, rfl, fun dd nd => bad hs dd nd⟩
    | true =>
      refine iteF ?_
      obtain ⟨x, rfl⟩ : ∃ x, d = .str x := by
        cases d with
        | str x => exact ⟨x, rfl⟩
        | _ => cases hs
      cases hd
      obtain ⟨lo, len, err, fine⟩ := good x rfl
      refine ⟨.str x, rfl, rfl, _, rfl, ite2 (fun e => ?_) (fun e => ?_)⟩
      · have e' : x = "none" := V.str.inj (of_decide_eq_true e)
        refine ⟨by show 0 ≤ sizeLine; decide, fun t nt => ?_⟩
        exact fine [] (by unfold outT; rw [if_pos e']) _ t [] (same_new nt) upd_same .nil
      · have n : x ≠ "none" := fun n => e (decide_eq_true (congrArg V.str n))
        obtain ⟨lw, okw⟩ := words_ok lo len
        have out : outT x = runW (Txt.split x " ") 0 [] := by
          unfold outT
          rw [if_neg n]
        generalize hW : Txt.split x " " = W at *
        refine ⟨by show 0 ≤ sizeLine; decide, fun l nl => ?_⟩
        have s1 := same_new (o := .lst ([] : List V)) nl
        have e1 := upd_same (H := H) (a := l) (o := .lst ([] : List V))
        generalize upd H l (.lst ([] : List V)) = H1 at *
        refine ⟨.str x, rfl, ⟨_, rfl⟩, _, _, rfl, rfl, by decide +kernel, by omega, fun w nw => ?_⟩
        rw [hW]
        have s2 := same_new (o := .lst (W.map V.str)) nw
        have e2 := upd_same (H := H1) (a := w) (o := .lst (W.map V.str))
        generalize upd H1 w (.lst (W.map V.str)) = H2 at *
        have wl : w ≠ l := fun z => by
          rw [z, e1] at nw
          cases nw
        refine ⟨w, _, rfl, SqL.of e2, for_enumL (D := ⟨_, _, fun _ _ => True, fun _ _ => True⟩) (xs := W.map V.str) (fun j σ H' => (Same H H' ∧ H' w = some (.lst (W.map V.str))) ∧ ∃ us ps, (H' l = some (.lst us) ∧ Ivs H' us ps ∧ ps.length = j ∧ outT x = runW (W.drop j) j ps) ∧ ∃ y2 y3 y4, σ = [some (.str x), some (.ref l), y2, y3, y4])
          ⟨⟨s1.trans s2, e2⟩, [], [], ⟨s2 _ _ e1, .nil, rfl, out⟩, _, _, _, rfl⟩ (fun j σ H' h => SqL.of h.1.2) ?_ ?_⟩
        · rintro j y t σ H3 hx ⟨⟨s3, e3⟩, us, ps, ⟨el, iv, lp, rn⟩, y2, y3, y4, rfl⟩ nt
          obtain ⟨wd, ew, rfl⟩ : ∃ wd, W[j]? = some wd ∧ y = .str wd := by
            rw [List.getElem?_map] at hx
            cases c : W[j]? with
            | none =>
              rw [c] at hx
              cases hx
            | some p =>
              rw [c] at hx
              cases hx
              exact ⟨p, rfl, rfl⟩
          obtain ⟨lj, ewj⟩ := List.getElem?_eq_some_iff.mp ew
          have okj := okw wd (List.mem_of_getElem? ew)
          have dr : W.drop j = wd :: W.drop (j + 1) := by rw [List.drop_eq_getElem_cons lj, ewj]
          rw [dr] at rn
          have lu := iv.length
          have s4 := same_new (o := .tup [.int (j : Nat), .str wd]) nt
          have e4 := upd_same (H := H3) (a := t) (o := .tup [.int (j : Nat), .str wd])
          generalize upd H3 t (.tup [.int (j : Nat), .str wd]) = H4 at *
          refine ⟨t, _, rfl, SqT.of e4, rfl, .int (j : Nat), [.str wd], rfl, .str wd, [], rfl, rfl, ?_⟩
          refine ⟨.str wd, rfl, wd, rfl, okj.1, by omega, fun H5 v5 s5 o5 => ?_⟩
          have s45 := s4.trans s5
          have s5H := s3.trans s45
          have el5 := s45 _ _ el
          have iv5 := iv.same s45
          have w5 := s45 _ _ e3
          unfold runW stepW at rn
          cases hv : ivf (TL.tl wd) with
          | none =>
            rw [hv] at rn o5
            have ev : v5 = .non := o5
            subst ev
            refine ⟨.non, rfl, rfl, _, rfl, iteT ?_⟩
            have rn' : outT x = .inl j := rn
            exact ⟨.int (j : Nat), rfl, _, rfl, fun dd nd => err j rn' H5 dd s5H nd⟩
          | some q =>
            rw [hv] at rn o5
            obtain ⟨t5, rfl, e5⟩ := o5
            refine ⟨.ref t5, rfl, rfl, _, rfl, iteF ?_⟩
            refine ⟨.ref l, rfl, _, .inl ⟨us, SqL.of el5, rfl⟩, ?_⟩
            have fin : outT x = runW (W.drop (j + 1)) (j + 1) (ps ++ [q]) → ∀ y2 y3 y4 : Option V, (Same H (upd H5 l (.lst (us ++ [.ref t5]))) ∧ upd H5 l (.lst (us ++ [.ref t5])) w = some (.lst (W.map V.str))) ∧ ∃ us' ps', (upd H5 l (.lst (us ++ [.ref t5])) l = some (.lst us') ∧ Ivs (upd H5 l (.lst (us ++ [.ref t5]))) us' ps' ∧ ps'.length = j + 1 ∧ outT x = runW (W.drop (j + 1)) (j + 1) ps') ∧ ∃ z2 z3 z4, [some (V.str x), some (V.ref l), y2, y3, y4] = [some (V.str x), some (V.ref l), z2, z3, z4] := fun o y2 y3 y4 =>
              ⟨⟨same_off nl s5H, by rw [upd_ne wl]; exact w5⟩, us ++ [.ref t5], ps ++ [q], ⟨upd_same, (iv5.snoc e5).tps (Tps.lst el5), by rw [List.length_append, lp]; rfl, o⟩, _, _, _, rfl⟩
            by_cases c : j = 0
            · have pe : ps = [] := List.length_eq_zero_iff.mp (by omega)
              subst pe
              have ue : us = [] := List.length_eq_zero_iff.mp (by omega)
              subst ue
              refine iteF (iteF ?_)
              exact ⟨.ref l, rfl, .inl ⟨rfl, _, SqL.of el5⟩, .ref t5, rfl, l, _, _, rfl, rfl, el5, by show 0 < sizeLine; decide, fin rn _ _ _⟩
            · have un : us.isEmpty = false := by
                cases us with
                | nil =>
                  have z : ([] : List V).length = 0 := rfl
                  omega
                | cons _ _ => rfl
              rw [un]
              refine iteT ?_
              obtain ⟨vl, hvl⟩ : ∃ v, us[us.length - 1]? = some v := ⟨_, List.getElem?_eq_getElem (by omega)⟩
              obtain ⟨b0, x0, y0, rfl, ep0, hb0⟩ := iv5.get hvl
              have gl : ps.getLast? = some (x0, y0) := by
                rw [List.getLast?_eq_getElem?, ← lu]
                exact ep0
              rw [gl] at rn
              dsimp only at rn
              refine ⟨.ref t5, rfl, .ref l, rfl, 1, rfl, l, us, -1, .ref b0, rfl, rfl, SqL.of el5, atI_end hvl, t5, b0, [q.1, q.2], [x0, y0], rfl, rfl, SqT.of e5, SqT.of hb0, _, rfl, ?_⟩
              have lx := lexLe (x0, y0) q
              dsimp only at lx
              rw [lx]
              cases hl : ltB (x0, y0) q with
              | true =>
                rw [hl, if_pos rfl] at rn
                dsimp only at rn
                refine iteF ?_
                exact ⟨.ref l, rfl, .inl ⟨rfl, _, SqL.of el5⟩, .ref t5, rfl, l, _, _, rfl, rfl, el5, few_line (by omega), fin rn _ _ _⟩
              | false =>
                rw [hl, if_neg Bool.false_ne_true] at rn
                have rn' : outT x = .inl j := rn
                refine iteT ?_
                exact ⟨.int (j : Nat), rfl, _, rfl, fun dd nd => err j rn' H5 dd s5H nd⟩
        · rintro σ H3 ⟨⟨s3, e3⟩, us, ps, ⟨el, iv, lp, rn⟩, y2, y3, y4, rfl⟩
          rw [List.length_map] at lp
          rw [List.length_map, List.drop_length] at rn
          have rn' : outT x = .inr ps := rn
          refine ⟨.ref l, rfl, l, us, rfl, .inl ⟨SqL.of el, fun t nt => ?_⟩⟩
          exact fine ps rn' _ t us (s3.trans (same_new nt)) upd_same (iv.same (same_new nt))

def sp_law_text : Sp := fun vs H Q _ => ∃ (a : Addr) (us : List V) (ps : List (Int × Int)), vs = [.ref a] ∧ H a = some (.tup us) ∧ Ivs H us ps ∧ Vld0 ps ∧ ps.length < 1000 ∧ ∀ H', Same H H' → Q (.str (rowT ps)) H'
theorem ok_law_text (T : Tx K mg f_is_number f_is_position f_is_tuple_of f_is_interval f_parse_number f_parse_interval f_parse_intervals f_law_deck f_law_draw f_law_same f_law_small f_law_moved f_law_text f_law_odd f_law_bent f_law_number f_law_due f_law_told f_law f_BadText_init X_BadText X_SpanError X_BadInterval d_is_number d_is_position d_is_tuple_of d_is_interval d_parse_number d_parse_interval d_parse_intervals d_law_deck d_law_draw d_law_same d_law_small d_law_moved d_law_text d_law_odd d_law_bent d_law_number d_law_due d_law_told d_law d_BadText_init t_LAST_POSITION) : FnOk P w K mg base CX0 2 f_law_text d_law_text ["_law_intervals"] sp_law_text := by
  refine T.F_law_text.ok sc_law_text (fun vs H Q E h => ?_) (fun cdv A outer s H vs Q E hr h => ?_)
  · obtain ⟨a, us, ps, rfl, _⟩ := h
    rfl
  · obtain ⟨a, us, ps, rfl, ha, iv, ok, few, q⟩ := h
    refine ⟨_, (pss_one (ps_ret (pe_join pe_str (pe_op op_cat (pe_lc (own := [("_law_low", 1), ("_law_high", 2)]) (g := (gTup K 2 (gCons (gName 1) (gCons (gName 2) gNil)))) (tt := tYes) (by rfl) sc_law_text.nd (pi_tup (pv 0)) (blkOk_by (own := [("_law_low", 1), ("_law_high", 2)]) (N := N_law_text) (sc := defScope s_law_text) (by decide +kernel)) (fun _ _ _ _ _ => (pg_tup rfl (pgs_cons (pg_name (i := 1) sc_law_text.nd rfl (Or.inl rfl)) (pgs_cons (pg_name (i := 2) sc_law_text.nd rfl (Or.inl rfl)) pgs_nil)))) (fun _ _ _ _ _ => pts_nil) (fun _ _ _ _ _ => (pe_op op_add_str (pe_op op_add_str (pe_callTy call_str_int (by rfl) T.z_str (by decide +kernel) (pa_cons (pv 1) pa_nil)) pe_str) (pe_callTy call_str_int (by rfl) T.z_str (by decide +kernel) (pa_cons (pv 2) pa_nil))))) (pe_op op_rep (pe_lst (pa_cons pe_str pa_nil)) (pe_callTy call_int1 (by rfl) T.z_int (by decide +kernel) (pa_cons (pe_cmpR (op_eqE hr.units0) (pv 0) (pe_tup pa_nil) (nomark _)) pa_nil))))))), ?_⟩
    have sz : sizeLine = 16777216 := by decide
    have sz2 : (16777216 : Nat) = sizeLine := sz.symm
    have k1 : ("-" : Str).length = 1 := by decide +kernel
    refine ⟨⟨_, rfl⟩, .ref a, rfl, a, rfl, ⟨_, SqT.of ha⟩, fun D nD => ?_⟩
    refine lcT (K := K) (a := a) (xs := us) (fun j H' ws => ws = ((ps.take j).map ivT).map V.str) nD (fun H' s => SqT.of (s _ _ ha)) (by rw [iv.length]; omega) (fun _ _ _ _ _ h => h) (fun j H' ws h => by rw [h, List.length_map, List.length_map, List.length_take]; omega) (fun _ => rfl) ?_ ?_
    · rintro j v H' N acc hj sm eA sz3 r no yes
      obtain ⟨bb, x, y, rfl, ep, hb⟩ := iv.get hj
      have b := ok _ (List.mem_of_getElem? ep)
      have l1 : (Str.ofString (toString x)).length ≤ 13 := numS_len b.1.1 (by omega : x ≤ 1000000000000)
      have l2 : (Str.ofString (toString y)).length ≤ 13 := numS_len (i := y) (by omega) b.2
      refine ⟨bb, _, rfl, SqT.of (sm _ _ hb), rfl, .int x, [.int y], rfl, .int y, [], rfl, rfl, rfl, ?_⟩
      refine ⟨.int x, rfl, _, rfl, log2_tr b.1.1 (by omega), _, _, rfl, rfl, by omega, .int y, rfl, _, rfl, log2_tr (by omega) (by omega), _, _, rfl, rfl, by rw [Str.length_append]; omega, yes _ _ (Same.refl _) ?_⟩
      rw [r, map_take_snoc ep, List.map_append]
      rfl
    · rintro H1 ws sm eD r
      rw [iv.length, List.take_length] at r
      subst r
      have s27 := sum27 ok
      refine ⟨by show 1 ≤ sizeLine; decide, fun l2 nl2 => ?_⟩
      have s2 := same_new (o := .lst [V.str "none"]) nl2
      have e2 := upd_same (H := H1) (a := l2) (o := .lst [V.str "none"])
      generalize upd H1 l2 (.lst [V.str "none"]) = H2 at *
      refine ⟨.ref a, rfl, by show 0 ≤ sizeLine; decide, fun e ne => ?_⟩
      have s3 := same_new (o := .tup ([] : List V)) ne
      have e3 := upd_same (H := H2) (a := e) (o := .tup ([] : List V))
      generalize upd H2 e (.tup ([] : List V)) = H3 at *
      have s13 := s2.trans s3
      refine ⟨a, e, us, rfl, rfl, SqT.of (s13 _ _ (sm _ _ ha)), SqT.of e3, .inr ⟨_, rfl, ?_⟩⟩
      cases ps with
      | nil =>
        cases iv
        refine ⟨l2, 1, _, rfl, rfl, s3 _ _ e2, by decide, by decide, by show 1 * 1 ≤ _; decide, fun z nz => ?_⟩
        have s4 := same_new (o := .lst (List.replicate (1 : Int).toNat [V.str "none"]).flatten) nz
        have e4 := upd_same (H := H3) (a := z) (o := .lst (List.replicate (1 : Int).toNat [V.str "none"]).flatten)
        generalize upd H3 z (.lst (List.replicate (1 : Int).toNat [V.str "none"]).flatten) = H4 at *
        replace e4 : H4 z = some (.lst [V.str "none"]) := e4
        refine ⟨D, z, _, _, rfl, rfl, (s13.trans s4) _ _ eD, e4, by show 0 + 1 ≤ sizeLine; decide, fun g ng => ?_⟩
        exact ⟨_, g, ["none"], rfl, rfl, .inl (SqL.of upd_same), by decide +kernel, q _ (sm.trans (s13.trans (s4.trans (same_new ng))))⟩
      | cons p r =>
        have un : us.isEmpty = false := by
          cases iv
          rfl
        rw [un]
        refine ⟨l2, 0, _, rfl, rfl, s3 _ _ e2, by decide, by decide, by show 1 * 0 ≤ _; decide, fun z nz => ?_⟩
        have s4 := same_new (o := .lst (List.replicate (0 : Int).toNat [V.str "none"]).flatten) nz
        have e4 := upd_same (H := H3) (a := z) (o := .lst (List.replicate (0 : Int).toNat [V.str "none"]).flatten)
        generalize upd H3 z (.lst (List.replicate (0 : Int).toNat [V.str "none"]).flatten) = H4 at *
        replace e4 : H4 z = some (.lst []) := e4
        refine ⟨D, z, _, _, rfl, rfl, (s13.trans s4) _ _ eD, e4, by rw [List.length_map, List.length_map]; show _ + 0 ≤ _; omega, fun g ng => ?_⟩
        refine ⟨_, g, (p :: r).map ivT, rfl, rfl, .inl (SqL.of ?_), ?_, q _ (sm.trans (s13.trans (s4.trans (same_new ng))))⟩
        · rw [List.append_nil]
          exact upd_same
        · rw [List.length_map, show (" " : Str).length = 1 by decide +kernel]
          omega

/-! ### a comprehension over a text -/
theorem lcS {x : Str} {g : TG} {tt : TT} {te : TE} {vs : List Nat} {σ : L2.St} {H1 : Hp} {D : Addr} {Qd : Hp → Prop} (R : Nat → Hp → List V → Prop) (nD : H1 D = none) (few : (TL.tl x).length < 1000001)
    (mono : ∀ i H' H'' ws, Tps H' H'' → R i H' ws → R i H'' ws) (len : ∀ i H' ws, R i H' ws → ws.length ≤ i) (r0 : ∀ H', R 0 H' [])
    (hs : ∀ i c H' (N : Hp → Prop) acc, (TL.tl x)[i]? = some c → Same H1 H' → H' D = some (.lst acc) → acc.length < sizeLine → R i H' acc → (∀ H'', Same H' H'' → R (i + 1) H'' acc → N H'') → (∀ H'' y, Same H' H'' → R (i + 1) H'' (acc ++ [y]) → ∃ acc', H'' D = some (.lst acc') ∧ acc'.length < sizeLine ∧ N (upd H'' D (.lst (acc' ++ [y])))) →
      g (.str ⟨#[c]⟩) (wipe σ vs) H' fun σ2 H2 => wipe σ2 vs = wipe σ vs ∧ tt σ2 H2 fun b H3 => if b = true then te σ2 H3 fun y H4 => ∃ acc, H4 D = some (.lst acc) ∧ acc.length < sizeLine ∧ N (upd H4 D (.lst (acc ++ [y]))) else N H3)
    (hd : ∀ H' ws, Same H1 H' → H' D = some (.lst ws) → R (TL.tl x).length H' ws → Qd H') :
    ∃ W : Nat → Nat → Hp → Prop, (∃ m, W 0 m (upd H1 D (.lst []))) ∧ ∀ i m H, W i m H →
      ((Its x).stop i H ∧ Qd H) ∨ ((Its x).go i H ∧ ∃ Nx : Hp → Prop, (∀ H', Nx H' → ∃ m', m' < m ∧ W (i + 1) m' H') ∧ ∀ y H', (Its x).yld i H y H' → g y (wipe σ vs) H' fun σ2 H2 => wipe σ2 vs = wipe σ vs ∧ tt σ2 H2 fun b H3 =>
        if b = true then te σ2 H3 fun y H4 => ∃ acc, H4 D = some (.lst acc) ∧ acc.length < sizeLine ∧ Nx (upd H4 D (.lst (acc ++ [y]))) else Nx H3) := by
  have ez : x.cps.size = (TL.tl x).length := by simp [TL.tl]
  refine ⟨fun i m H => m = (TL.tl x).length - i ∧ i ≤ (TL.tl x).length ∧ Same H1 H ∧ ∃ ws, H D = some (.lst ws) ∧ R i H ws, ⟨_, rfl, Nat.zero_le _, same_new nD, [], upd_same, r0 _⟩, ?_⟩
  rintro i m H ⟨rfl, hi, sm, ws, eD, r⟩
  by_cases c : i < (TL.tl x).length
  · refine .inr ⟨by show i < x.cps.size; omega, (fun H => i + 1 ≤ (TL.tl x).length ∧ Same H1 H ∧ ∃ ws, H D = some (.lst ws) ∧ R (i + 1) H ws), fun H' p' => ⟨(TL.tl x).length - (i + 1), by omega, rfl, p'⟩, fun v H' hy => ?_⟩
    obtain ⟨rfl, k, hk, rfl⟩ := hy
    have hk' : (TL.tl x)[i]? = some k := by
      rw [← hk]
      show x.cps.toList[i]? = x.cps[i]?
      rw [Array.getElem?_toList]
    have lw := len i _ ws r
    have sz : ws.length < sizeLine := by rw [show sizeLine = 16777216 by decide]; omega
    refine hs i k _ _ ws hk' sm eD sz r (fun H'' s r2 => ⟨c, sm.trans s, ws, s _ _ eD, r2⟩) (fun H'' y s r2 => ?_)
    exact ⟨ws, s _ _ eD, sz, c, same_off nD (sm.trans s), _, upd_same, mono _ _ _ _ (Tps.lst (s _ _ eD)) r2⟩
  · refine .inl ⟨by show x.cps.size ≤ i; omega, hd H ws sm eD ?_⟩
    rw [show (TL.tl x).length = i by omega]
    exact r
/-! ### a number as the law reads it -/
def nonB (c : Nat) : Bool := !decide (c ∈ (Str.ofString "0123456789").cps.toList)
theorem nonB_iff {c : Nat} (h : c < 128) : nonB c = false ↔ 48 ≤ c ∧ c ≤ 57 := by
  have key : ∀ c, c < 128 → (nonB c = false ↔ 48 ≤ c ∧ c ≤ 57) := by decide +kernel
  exact key c h
def sp_law_number : Sp := fun vs H Q _ => ∃ x : Str, vs = [.str x] ∧ low128 x ∧ x.length ≤ 1000 ∧ ∀ H', Same H H' → Q (oV (numf (TL.tl x))) H'
theorem ok_law_number (T : Tx K mg f_is_number f_is_position f_is_tuple_of f_is_interval f_parse_number f_parse_interval f_parse_intervals f_law_deck f_law_draw f_law_same f_law_small f_law_moved f_law_text f_law_odd f_law_bent f_law_number f_law_due f_law_told f_law f_BadText_init X_BadText X_SpanError X_BadInterval d_is_number d_is_position d_is_tuple_of d_is_interval d_parse_number d_parse_interval d_parse_intervals d_law_deck d_law_draw d_law_same d_law_small d_law_moved d_law_text d_law_odd d_law_bent d_law_number d_law_due d_law_told d_law d_BadText_init t_LAST_POSITION) : FnOk P w K mg base CX0 1 f_law_number d_law_number ["_law_part"] sp_law_number := by
  refine T.F_law_number.ok sc_law_number (fun vs H Q E h => ?_) (fun cdv A outer s H vs Q E hr h => ?_)
  · obtain ⟨x, rfl, _⟩ := h
    rfl
  · obtain ⟨x, rfl, lo, len, q⟩ := h
    refine ⟨_, (pss_cons (ps_if (PW.pt (pw_or (pt_cmpR op_eq (pv 0) pe_str (nomark _)) (pw_or (pt_cmpR op_gt (pe_callB call_len_str (by rfl) T.z_len PySem.boot_len (pa_cons (pv 0) pa_nil)) pe_int (nomark _)) (pw_or1 (pt_cmpR (op_neL hr.units0) (pe_lc (own := [("_law_sign", 1)]) (g := (gName 1)) (by rfl) sc_law_number.nd (pi_str (pv 0)) (blkOk_by (own := [("_law_sign", 1)]) (N := N_law_number) (sc := defScope s_law_number) (by decide +kernel)) (fun _ _ _ _ _ => (pg_name (i := 1) sc_law_number.nd rfl (Or.inl rfl))) (fun _ _ _ _ _ => pts_one (pt_cmpR op_notIn_sign (pv 1) pe_str (by rfl))) (fun _ _ _ _ _ => (pv 1))) (pe_lst pa_nil) (nomark _))))))
      (pss_one (ps_ret pe_non))
      pss_nil)
      (pss_cons (ps_if (PW.pt (pw_or (PW.pt (pw_and (pt_cmpR op_eq (pe_ix ix_str (pv 0) pe_int (fun _ _ => rfl)) pe_str (nomark _)) (pw_and1 (pt_cmpR op_ne (pv 0) pe_str (nomark _))))) (pw_or1 (pt_cmpR op_gt (pe_callTy call_int_str (by rfl) T.z_int (by decide +kernel) (pa_cons (pv 0) pa_nil)) (pe_op op_pow pe_int pe_int) (nomark _)))))
      (pss_one (ps_ret pe_non))
      pss_nil)
      (pss_one (ps_ret (pe_callTy call_int_str (by rfl) T.z_int (by decide +kernel) (pa_cons (pv 0) pa_nil)))))), ?_⟩
    have sz : sizeLine = 16777216 := by decide
    have lenT : (TL.tl x).length ≤ 1000 := by rw [← TL.len_tl]; exact len
    have none_of : ¬ (((TL.tl x ≠ [] ∧ Dig (TL.tl x)) ∧ (TL.tl x).length ≤ 13 ∧ ((TL.tl x).head? ≠ some 48 ∨ TL.tl x = [48])) ∧ NumText.digitsVal (TL.tl x) ≤ 1000000000000) → ∀ H', Same H H' → Q .non H' := fun z H' s => by
      have := q H' s
      unfold numf at this
      rw [if_neg z] at this
      exact this
    refine ⟨.str x, rfl, rfl, _, rfl, ite2 (fun e => ?_) (fun e => ?_)⟩
    · have e' : x = "" := V.str.inj (of_decide_eq_true e)
      exact none_of (fun z => z.1.1.1 (by rw [e']; rfl)) H (Same.refl _)
    have ne : TL.tl x ≠ [] := fun z => e (decide_eq_true (congrArg V.str (TL.ext_tl z)))
    refine ⟨.str x, rfl, _, rfl, by omega, _, _, rfl, rfl, _, rfl, ite2 (fun e2 => ?_) (fun e2 => ?_)⟩
    · have e2' := of_decide_eq_true e2
      exact none_of (fun z => by have := z.1.2.1; rw [← TL.len_tl] at this; omega) H (Same.refl _)
    have l13 : x.length ≤ 13 := by
      have : ¬ _ := fun z => e2 (decide_eq_true z)
      omega
    refine ⟨.str x, rfl, x, rfl, fun D nD => ?_⟩
    refine lcS (x := x) (fun j H' ws => ws = ((((TL.tl x).take j).filter nonB).map fun c => V.str ⟨#[c]⟩)) nD (by omega) (fun _ _ _ _ _ h => h) (fun j H' ws h => by rw [h, List.length_map]; have := List.length_filter_le nonB ((TL.tl x).take j); rw [List.length_take] at this; omega) (fun _ => rfl) ?_ ?_
    · intro j c H' N acc hj sm eA szz r no yes
      have tk : ((TL.tl x).take (j + 1)).filter nonB = ((TL.tl x).take j).filter nonB ++ [c].filter nonB := by
        rw [List.take_add_one, hj, List.filter_append]
        rfl
      refine ⟨rfl, .str ⟨#[c]⟩, rfl, c, _, rfl, rfl, _, rfl, ?_⟩
      show if nonB c = true then _ else _
      cases hb : nonB c with
      | true =>
        refine iteT ⟨.str ⟨#[c]⟩, rfl, yes _ _ (Same.refl _) ?_⟩
        rw [tk, List.filter_cons_of_pos hb, List.map_append, r]
        rfl
      | false =>
        refine iteF (no _ (Same.refl _) ?_)
        rw [tk, List.filter_cons_of_neg (by rw [hb]; exact Bool.false_ne_true), r]
        show _ = List.map _ (_ ++ [])
        rw [List.append_nil]
    intro H1 ws s1 eD r
    rw [List.take_length] at r
    subst r
    refine ⟨by show 0 ≤ sizeLine; decide, fun z nz => ?_⟩
    have s2 := same_new (o := .lst []) nz
    have s12 := s1.trans s2
    refine ⟨D, z, _, rfl, rfl, SqL.of (s2 _ _ eD), SqL.of upd_same, _, rfl, ?_⟩
    rw [List.isEmpty_map]
    by_cases dg : Dig (TL.tl x)
    · have fe : ((TL.tl x).filter nonB).isEmpty = true := by
        rw [List.isEmpty_iff, List.filter_eq_nil_iff]
        intro c hc
        rw [(nonB_iff (lo c hc)).mpr (dg c hc)]
        exact Bool.false_ne_true
      rw [fe]
      refine iteF ?_
      obtain ⟨c0, hc0⟩ : ∃ c0, (TL.tl x)[0]? = some c0 := ⟨_, List.getElem?_eq_getElem (List.length_pos_iff.mpr ne)⟩
      have hd0 : (TL.tl x).head? = some c0 := by rw [List.head?_eq_getElem?]; exact hc0
      have it : intText? x = some ((NumText.digitsVal (TL.tl x) : Nat) : Int) := intText_digits dg ne (by omega)
      have at0 : atI (TL.tl x) 0 = some c0 := atI_nat (j := 0) hc0
      refine ⟨.str x, rfl, x, 0, c0, rfl, rfl, by omega, at0, rfl, _, rfl, ?_⟩
      have sg : V.str ⟨#[c0]⟩ = V.str "0" ↔ c0 = 48 := by
        constructor
        · intro h
          have h' := congrArg TL.tl (V.str.inj h)
          rw [show TL.tl ("0" : Str) = [48] by decide +kernel] at h'
          exact (List.cons.inj h').1
        · intro h
          rw [h]
          exact congrArg V.str (TL.ext_tl (by rw [show TL.tl ("0" : Str) = [48] by decide +kernel]))
      by_cases h48 : c0 = 48
      · rw [decide_eq_true (sg.mpr h48)]
        refine iteT ?_
        refine ⟨.str x, rfl, rfl, _, rfl, ?_⟩
        by_cases x0 : TL.tl x = [48]
        · have ex : x = "0" := TL.ext_tl (by rw [x0]; decide +kernel)
          rw [decide_eq_true (congrArg V.str ex)]
          refine iteF ?_
          refine ⟨.str x, rfl, _, _, rfl, it, by omega, 10, 12, rfl, rfl, ⟨by decide, by decide, by decide⟩, _, _, rfl, rfl, _, rfl, ite2 (fun b => ?_) (fun b => ?_)⟩
          · have b' := of_decide_eq_true b
            rw [show (10 : Int) ^ (12 : Int).toNat = 1000000000000 by decide +kernel] at b'
            exact none_of (fun z => by have := z.2; omega) _ s12
          · have b' : ¬ _ := fun z => b (decide_eq_true z)
            rw [show (10 : Int) ^ (12 : Int).toNat = 1000000000000 by decide +kernel] at b'
            refine ⟨.str x, rfl, _, _, rfl, it, by omega, ?_⟩
            have q' := q _ s12
            unfold numf at q'
            rw [if_pos ⟨⟨⟨ne, dg⟩, by rw [← TL.len_tl]; exact l13, .inr x0⟩, by omega⟩] at q'
            exact q'
        · have ex : ¬ V.str x = V.str "0" := fun z => x0 (by rw [V.str.inj z]; decide +kernel)
          rw [decide_eq_false ex]
          refine iteT (none_of (fun z => ?_) _ s12)
          rcases z.1.2.2 with z | z
          · exact z (by rw [hd0, h48])
          · exact x0 z
      · rw [decide_eq_false (fun z => h48 (sg.mp z))]
        refine iteF ?_
        refine ⟨.str x, rfl, _, _, rfl, it, by omega, 10, 12, rfl, rfl, ⟨by decide, by decide, by decide⟩, _, _, rfl, rfl, _, rfl, ite2 (fun b => ?_) (fun b => ?_)⟩
        · have b' := of_decide_eq_true b
          rw [show (10 : Int) ^ (12 : Int).toNat = 1000000000000 by decide +kernel] at b'
          exact none_of (fun z => by have := z.2; omega) _ s12
        · have b' : ¬ _ := fun z => b (decide_eq_true z)
          rw [show (10 : Int) ^ (12 : Int).toNat = 1000000000000 by decide +kernel] at b'
          refine ⟨.str x, rfl, _, _, rfl, it, by omega, ?_⟩
          have q' := q _ s12
          unfold numf at q'
          rw [if_pos ⟨⟨⟨ne, dg⟩, by rw [← TL.len_tl]; exact l13, .inl (fun z => h48 (Option.some.inj (hd0.symm.trans z)))⟩, by omega⟩] at q'
          exact q'
    · have fe : ((TL.tl x).filter nonB).isEmpty = false := by
        rw [← Bool.not_eq_true, List.isEmpty_iff, List.filter_eq_nil_iff]
        intro z
        refine dg fun c hc => (nonB_iff (lo c hc)).mp ?_
        have := z c hc
        cases h : nonB c with
        | false => rfl
        | true => exact absurd h this
      rw [fe]
      exact iteT (none_of (fun z => dg z.1.1.2) _ s12)

/-! ### what is due for a text -/
def ResAt (H : Hp) (r : V) : Option (Nat ⊕ List (Int × Int)) → Prop
  | none => ∃ t, r = .ref t ∧ H t = some (.tup [.str "BadText", .non])
  | some (.inl k) => ∃ t, r = .ref t ∧ H t = some (.tup [.str "BadText", .int (k : Nat)])
  | some (.inr ps) => ∃ t us, r = .ref t ∧ H t = some (.tup us) ∧ Ivs H us ps
noncomputable def outV : PyData → Option (Nat ⊕ List (Int × Int))
  | .str x => some (outT x)
  | _ => none
theorem outV_no {d : PyData} (h : strB d = false) : outV d = none := by
  cases d with
  | str x => cases h
  | _ => rfl
theorem dp_oV {K : PySem.W.Frag} {H : Hp} (o : Option Int) : Dp K H (oV o) (oD o) := by
  cases o with
  | none => exact .non
  | some n => exact .int n
def sp_law_due (K : PySem.W.Frag) : Sp := fun vs H Q _ => ∃ (v : V) (d : PyData), vs = [v] ∧ Dv K H v d ∧ (∀ x, d = .str x → low128 x ∧ x.length ≤ 950) ∧ ∀ H' r, Same H H' → ResAt H' r (outV d) → Q r H'
theorem ok_law_due (T : Tx K mg f_is_number f_is_position f_is_tuple_of f_is_interval f_parse_number f_parse_interval f_parse_intervals f_law_deck f_law_draw f_law_same f_law_small f_law_moved f_law_text f_law_odd f_law_bent f_law_number f_law_due f_law_told f_law f_BadText_init X_BadText X_SpanError X_BadInterval d_is_number d_is_position d_is_tuple_of d_is_interval d_parse_number d_parse_interval d_parse_intervals d_law_deck d_law_draw d_law_same d_law_small d_law_moved d_law_text d_law_odd d_law_bent d_law_number d_law_due d_law_told d_law d_BadText_init t_LAST_POSITION) : FnOk P w K mg base CX0 2 f_law_due d_law_due ["_law_text_here"] (sp_law_due K) := by
  refine T.F_law_due.ok sc_law_due (fun vs H Q E h => ?_) (fun cdv A outer s H vs Q E hr h => ?_)
  · obtain ⟨v, d, rfl, _⟩ := h
    rfl
  · obtain ⟨v, d, rfl, hd, okx, q⟩ := h
    refine ⟨_, (pss_cons (ps_if (pt_not (pt_val (pe_callB call_isi (by rfl) T.z_isinstance (by decide +kernel) (pa_cons (pv 0) (pa_cons (pe_bltn (v := .ty "str") (u := .type "str") (by rfl) T.z_str (by decide +kernel) rfl) pa_nil)))))
      (pss_one (ps_ret (pe_tup (pa_cons pe_str (pa_cons pe_non pa_nil)))))
      pss_nil)
      (pss_cons (ps_set (i := 1) sc_law_due.nd rfl (Or.inl rfl) (pe_lst pa_nil))
      (pss_cons (ps_set (i := 2) sc_law_due.nd rfl (Or.inl rfl) (pe_split (pv 0) pe_str))
      (pss_cons (ps_for PassesOwn.never rfl (pi_range1 (by rfl) T.z_range (pa_cons (pe_op op_mulW (pe_callB call_len_seq (by rfl) T.z_len PySem.boot_len (pa_cons (pv 2) pa_nil)) (pe_callTy call_int1 (by rfl) T.z_int (by decide +kernel) (pa_cons (pe_cmpR op_ne (pv 0) pe_str (nomark _)) pa_nil))) pa_nil)) (pg_name (i := 3) sc_law_due.nd rfl (Or.inl rfl))
      (pss_cons (ps_set (i := 4) sc_law_due.nd rfl (Or.inl rfl) (pe_callTy call_tuple_of (by rfl) T.z_tuple (by decide +kernel) (pa_cons (pe_lc (own := [("_law_part", 5)]) (g := (gName 5)) (tt := tYes) (by rfl) sc_law_due.nd (pi_list (pe_split (pe_ix ix_list (pv 2) (pv 3) (fun _ _ => rfl)) pe_str)) (blkOk_by (own := [("_law_part", 5)]) (N := N_law_due) (sc := defScope s_law_due) (by decide +kernel)) (fun _ _ _ _ _ => (pg_name (i := 5) sc_law_due.nd rfl (Or.inl rfl))) (fun _ _ _ _ _ => pts_nil) (fun _ _ _ _ _ => (pe_call (ok_law_number T) (hr.mono (by decide)) (by rfl) T.g_law_number T.F_law_number.kp T.b_law_number .nil pass0 (pa_cons (pv 5) pa_nil)))) pa_nil)))
      (pss_cons (ps_if (PW.pt (pw_or (pt_cmpR op_ne (pe_callB call_len_seq (by rfl) T.z_len PySem.boot_len (pa_cons (pv 4) pa_nil)) pe_int (nomark _)) (pw_or (pt_cmpR (op_inT (units65 hr)) pe_non (pv 4) (by rfl)) (pw_or (pt_cmpR op_gt (pe_ix ix_tup (pv 4) pe_int (fun _ _ => rfl)) (pe_ix ix_tup (pv 4) pe_int (fun _ _ => rfl)) (nomark _)) (pw_or1 (PW.pt (pw_and (pt_cmpR (op_neL hr.units0) (pv 1) (pe_lst pa_nil) (nomark _)) (pw_and1 (pt_cmpR (op_leT hr.units0) (pv 4) (pe_ix ix_list (pv 1) (pe_un un_neg pe_int) (fun _ _ => rfl)) (nomark _))))))))))
      (pss_one (ps_ret (pe_tup (pa_cons pe_str (pa_cons (pv 3) pa_nil)))))
      pss_nil)
      (pss_one (ps_expr (pe_bm PySem.F.plainAttrs_list PySem.F.slot_list_append PySem.F.type_list_append mt_append (pv 1) (pa_cons (pv 4) pa_nil)))))))
      (pss_one (ps_ret (pe_callTy call_tuple_of (by rfl) T.z_tuple (by decide +kernel) (pa_cons (pv 1) pa_nil)))))))), ?_⟩
    have sz : sizeLine = 16777216 := by decide
    refine ⟨v, rfl, v, .ty "str", _, _, _, rfl, .ty "str", hd.ty, kit_str d, _, rfl, ?_⟩
    cases hs : strB d with
    | false =>
      refine iteT ?_
      rw [outV_no hs] at q
      refine ⟨by show 2 ≤ sizeLine; decide, fun t nt => ?_⟩
      exact q _ _ (same_new nt) ⟨t, rfl, upd_same⟩
    | true =>
      refine iteF ?_
      obtain ⟨x, rfl⟩ : ∃ x, d = .str x := by
        cases d with
        | str x => exact ⟨x, rfl⟩
        | _ => cases hs
      cases hd
      obtain ⟨lo, len⟩ := okx x rfl
      obtain ⟨lw, okw⟩ := words_ok lo len
      refine ⟨by show 0 ≤ sizeLine; decide, fun l nl => ?_⟩
      have s1 := same_new (o := .lst ([] : List V)) nl
      have e1 := upd_same (H := H) (a := l) (o := .lst ([] : List V))
      generalize upd H l (.lst ([] : List V)) = H1 at *
      refine ⟨.str x, rfl, ⟨_, rfl⟩, _, _, rfl, rfl, by decide +kernel, by omega, fun w nw => ?_⟩
      generalize hW : Txt.split x " " = W at *
      have s2 := same_new (o := .lst (W.map V.str)) nw
      have e2 := upd_same (H := H1) (a := w) (o := .lst (W.map V.str))
      generalize upd H1 w (.lst (W.map V.str)) = H2 at *
      have wl : w ≠ l := fun z => by
        rw [z, e1] at nw
        cases nw
      have lW : (W.map V.str).length = W.length := List.length_map ..
      refine ⟨.ref w, rfl, w, _, rfl, .inl (SqL.of e2), .str x, rfl, rfl, .inr ⟨_, rfl, ?_⟩⟩
      have done0 : ∀ (H' : Hp) (t : Addr) (us : List V) (ps : List (Int × Int)), outT x = .inr ps → Same H H' → H' t = some (.tup us) → Ivs H' us ps → Q (.ref t) H' := fun H' t us ps o sm et iv => by
        refine q H' _ sm ?_
        show ResAt H' _ (some (outT x))
        rw [o]
        exact ⟨t, us, rfl, et, iv⟩
      by_cases n : x = "none"
      · have ev : (if (!decide (V.str x = V.str "none")) = true then (1 : Int) else 0) = 0 := by
          rw [decide_eq_true (congrArg V.str n)]
          rfl
        rw [ev]
        refine ⟨_, _, rfl, rfl, ?_, _, rfl, by omega, by omega, for_range (D := ⟨_, _, fun _ _ => True, fun _ _ => True⟩) (n := ((((W.map V.str).length : Nat) : Int) * 0).toNat) (fun j σ H' => H' = H2 ∧ σ = [some (.str x), some (.ref l), some (.ref w), none, none, none]) ⟨rfl, rfl⟩ ?_ ?_⟩
        · have a1 := log2_small (i := (((W.map V.str).length : Nat) : Int)) (by rw [lW]; omega)
          have a2 := log2_small (i := 0) (by decide)
          show _ + _ < 1000000
          omega
        · rintro i σ H' hi
          exfalso
          omega
        · rintro σ H' ⟨rfl, rfl⟩
          refine ⟨.ref l, rfl, l, [], rfl, .inl ⟨SqL.of (s2 _ _ e1), fun t nt => ?_⟩⟩
          exact done0 _ t [] [] (by unfold outT; rw [if_pos n]) (s1.trans (s2.trans (same_new nt))) upd_same .nil
      · have ev : (if (!decide (V.str x = V.str "none")) = true then (1 : Int) else 0) = 1 := by
          rw [decide_eq_false (fun z => n (V.str.inj z))]
          rfl
        rw [ev]
        have out : outT x = runW W 0 [] := by
          unfold outT
          rw [if_neg n, hW]
        have tn : ((((W.map V.str).length : Nat) : Int) * 1).toNat = W.length := by
          rw [lW]
          omega
        refine ⟨_, _, rfl, rfl, ?_, _, rfl, by omega, by omega, for_range (D := ⟨_, _, fun _ _ => True, fun _ _ => True⟩) (n := ((((W.map V.str).length : Nat) : Int) * 1).toNat) (fun j σ H' => (Same H H' ∧ H' w = some (.lst (W.map V.str))) ∧ ∃ us ps, (H' l = some (.lst us) ∧ Ivs H' us ps ∧ ps.length = j ∧ outT x = runW (W.drop j) j ps) ∧ ∃ y3 y4 y5, σ = [some (.str x), some (.ref l), some (.ref w), y3, y4, y5])
          ⟨⟨s1.trans s2, e2⟩, [], [], ⟨s2 _ _ e1, .nil, rfl, out⟩, _, _, _, rfl⟩ ?_ ?_⟩
        · have a1 := log2_small (i := (((W.map V.str).length : Nat) : Int)) (by rw [lW]; omega)
          have a2 := log2_small (i := 1) (by decide)
          show _ + _ < 1000000
          omega
        · rintro j σ H3 hj ⟨⟨s3, e3⟩, us, ps, ⟨el, iv, lp, rn⟩, y3, y4, y5, rfl⟩
          rw [tn] at hj
          have ew : W[j]? = some W[j] := List.getElem?_eq_getElem hj
          obtain ⟨wd, ewd⟩ : ∃ wd, wd = W[j] := ⟨_, rfl⟩
          rw [← ewd] at ew
          have okj := okw wd (List.mem_of_getElem? ew)
          have dr : W.drop j = wd :: W.drop (j + 1) := by rw [List.drop_eq_getElem_cons hj, ewd]
          rw [dr] at rn
          have lu := iv.length
          have atw : atI (W.map V.str) (0 + (j : Int)) = some (.str wd) := by
            rw [show (0 : Int) + (j : Int) = ((j : Nat) : Int) by omega]
            refine atI_nat ?_
            rw [List.getElem?_map, ew]
            rfl
          have bad : outT x = .inl j → ∀ H', Same H H' → ∀ t, H' t = none → Q (.ref t) (upd H' t (.tup [.str "BadText", .int (0 + (j : Int))])) := fun o H' sm t nt => by
            refine q _ _ (sm.trans (same_new nt)) ?_
            show ResAt _ _ (some (outT x))
            rw [o]
            refine ⟨t, rfl, ?_⟩
            rw [upd_same, show (0 : Int) + (j : Int) = ((j : Nat) : Int) by omega]
          refine ⟨.ref w, rfl, .int (0 + (j : Int)), rfl, w, _, 0 + (j : Int), .str wd, rfl, rfl, SqL.of e3, atw, ⟨_, rfl⟩, _, _, rfl, rfl, by decide +kernel, by omega, fun g ng => ?_⟩
          have hsp := split_hy wd
          generalize hP : Txt.split wd "-" = PP at *
          have s4 := same_new (o := .lst (PP.map V.str)) ng
          have e4 := upd_same (H := H3) (a := g) (o := .lst (PP.map V.str))
          generalize upd H3 g (.lst (PP.map V.str)) = H4 at *
          have okP : PP.length ≤ 951 ∧ ∀ p ∈ PP, low128 p ∧ p.length ≤ 950 := by
            have ll := spl_len (s := 45) (TL.tl wd)
            rw [← hsp, List.length_map, ← TL.len_tl] at ll
            refine ⟨by omega, fun p hp => ⟨fun c hc => okj.1 c ?_, ?_⟩⟩
            · exact spl_mem (TL.tl wd) (TL.tl p) (by rw [← hsp]; exact List.mem_map.mpr ⟨p, hp, rfl⟩) c hc
            · have := spl_le (TL.tl wd) (TL.tl p) (by rw [← hsp]; exact List.mem_map.mpr ⟨p, hp, rfl⟩)
              rw [TL.len_tl]
              have l2 := okj.2
              rw [TL.len_tl] at l2
              omega
          refine ⟨g, rfl, ⟨_, SqL.of e4⟩, fun D nD => ?_⟩
          refine lcL (K := K) (a := g) (xs := PP.map V.str) (fun j H' ws => ws = (PP.take j).map fun p => oV (numf (TL.tl p))) nD (fun H' s => SqL.of (s _ _ e4)) (by rw [List.length_map]; omega) (fun _ _ _ _ _ h => h) (fun j H' ws h => by rw [h, List.length_map, List.length_take]; omega) (fun _ => rfl) ?_ ?_
          · rintro i y H' N acc hi sm eA szz r no yes
            obtain ⟨p, ep, rfl⟩ : ∃ p, PP[i]? = some p ∧ y = .str p := by
              rw [List.getElem?_map] at hi
              cases c : PP[i]? with
              | none =>
                rw [c] at hi
                cases hi
              | some p =>
                rw [c] at hi
                cases hi
                exact ⟨p, rfl, rfl⟩
            have okp := okP.2 p (List.mem_of_getElem? ep)
            refine ⟨rfl, .str p, rfl, p, rfl, okp.1, by omega, fun H'' s => yes _ _ s ?_⟩
            rw [r, map_take_snoc ep]
          rintro H5 ws s5 eD r
          rw [List.length_map, List.take_length] at r
          subst r
          refine ⟨D, _, rfl, .inl ⟨SqL.of eD, fun t nt => ?_⟩⟩
          have s6 := same_new (o := .tup (PP.map fun p => oV (numf (TL.tl p)))) nt
          have e6 := upd_same (H := H5) (a := t) (o := .tup (PP.map fun p => oV (numf (TL.tl p))))
          generalize upd H5 t (.tup (PP.map fun p => oV (numf (TL.tl p)))) = H6 at *
          have s36 := s4.trans (s5.trans s6)
          have s06 := s3.trans s36
          have el6 := s36 _ _ el
          have iv6 := iv.same s36
          refine ⟨.ref t, rfl, t, _, rfl, .inr (SqT.of e6), rfl, _, rfl, ?_⟩
          rw [List.length_map]
          unfold runW stepW ivf at rn
          rw [← hsp] at rn
          by_cases c2 : PP.length = 2
          · obtain ⟨a, b, rfl⟩ : ∃ a b, PP = [a, b] := by
              match PP, c2 with
              | [a, b], _ => exact ⟨a, b, rfl⟩
            refine iteF ?_
            dsimp only [List.map] at rn e6
            cases ha : numf (TL.tl a) with
            | none =>
              rw [ha] at rn e6
              have rn' : outT x = .inl j := rn
              refine ⟨.ref t, rfl, .none, [.none, oD (numf (TL.tl b))], .non, .tup (SqT.of e6) (.cons .non (.cons (dp_oV _) .nil)), rfl, ?_, _, rfl, ?_⟩
              · cases numf (TL.tl b) <;> rfl
              · refine iteT ⟨.int (0 + (j : Int)), rfl, by show 2 ≤ sizeLine; decide, fun z nz => ?_⟩
                exact bad rn' H6 s06 z nz
            | some xa =>
              cases hb : numf (TL.tl b) with
              | none =>
                rw [ha, hb] at rn e6
                have rn' : outT x = .inl j := rn
                refine ⟨.ref t, rfl, .none, [.int xa, .none], .non, .tup (SqT.of e6) (.cons (.int _) (.cons .non .nil)), rfl, rfl, _, rfl, ?_⟩
                refine iteT ⟨.int (0 + (j : Int)), rfl, by show 2 ≤ sizeLine; decide, fun z nz => ?_⟩
                exact bad rn' H6 s06 z nz
              | some xb =>
                rw [ha, hb] at rn e6
                dsimp only at rn
                replace e6 : H6 t = some (.tup [.int xa, .int xb]) := e6
                refine ⟨.ref t, rfl, .none, [.int xa, .int xb], .non, .tup (SqT.of e6) (.cons (.int _) (.cons (.int _) .nil)), rfl, rfl, _, rfl, iteF ?_⟩
                refine ⟨.ref t, rfl, t, _, 0, .int xa, rfl, rfl, SqT.of e6, rfl, .ref t, rfl, t, _, 1, .int xb, rfl, rfl, SqT.of e6, rfl, _, _, rfl, rfl, _, rfl, ite2 (fun cg => ?_) (fun cg => ?_)⟩
                · have cg' : xb < xa := of_decide_eq_true cg
                  rw [if_neg (by omega)] at rn
                  have rn' : outT x = .inl j := rn
                  refine ⟨.int (0 + (j : Int)), rfl, by show 2 ≤ sizeLine; decide, fun z nz => ?_⟩
                  exact bad rn' H6 s06 z nz
                · have cg' : ¬ xb < xa := fun z => cg (decide_eq_true z)
                  rw [if_pos (by omega)] at rn
                  dsimp only at rn
                  refine ⟨.ref l, rfl, by show 0 ≤ sizeLine; decide, fun z nz => ?_⟩
                  have s7 := same_new (o := .lst []) nz
                  have ez := upd_same (H := H6) (a := z) (o := .lst [])
                  generalize upd H6 z (.lst []) = H7 at *
                  have el7 := s7 _ _ el6
                  have iv7 := iv6.same s7
                  have e7 := s7 _ _ e6
                  have s07 := s06.trans s7
                  have w7 := (s36.trans s7) _ _ e3
                  refine ⟨l, z, us, rfl, rfl, SqL.of el7, SqL.of ez, _, rfl, ?_⟩
                  have fin : outT x = runW (W.drop (j + 1)) (j + 1) (ps ++ [(xa, xb)]) → ∀ y3 y4 y5 : Option V, (Same H (upd H7 l (.lst (us ++ [.ref t]))) ∧ upd H7 l (.lst (us ++ [.ref t])) w = some (.lst (W.map V.str))) ∧ ∃ us' ps', (upd H7 l (.lst (us ++ [.ref t])) l = some (.lst us') ∧ Ivs (upd H7 l (.lst (us ++ [.ref t]))) us' ps' ∧ ps'.length = j + 1 ∧ outT x = runW (W.drop (j + 1)) (j + 1) ps') ∧ ∃ z3 z4 z5, [some (V.str x), some (V.ref l), some (V.ref w), y3, y4, y5] = [some (V.str x), some (V.ref l), some (V.ref w), z3, z4, z5] := fun o y3 y4 y5 =>
                    ⟨⟨same_off nl s07, by rw [upd_ne wl]; exact w7⟩, us ++ [.ref t], ps ++ [(xa, xb)], ⟨upd_same, (iv7.snoc e7).tps (Tps.lst el7), by rw [List.length_append, lp]; rfl, o⟩, _, _, _, rfl⟩
                  by_cases c : j = 0
                  · have pe : ps = [] := List.length_eq_zero_iff.mp (by omega)
                    subst pe
                    have ue : us = [] := List.length_eq_zero_iff.mp (by omega)
                    subst ue
                    refine iteF (iteF ?_)
                    exact ⟨.ref l, rfl, .inl ⟨rfl, _, SqL.of el7⟩, .ref t, rfl, l, _, _, rfl, rfl, el7, by show 0 < sizeLine; decide, fin rn _ _ _⟩
                  · have un : us.isEmpty = false := by
                      cases us with
                      | nil =>
                        have z : ([] : List V).length = 0 := rfl
                        omega
                      | cons _ _ => rfl
                    rw [un]
                    refine iteT ?_
                    obtain ⟨vl, hvl⟩ : ∃ v, us[us.length - 1]? = some v := ⟨_, List.getElem?_eq_getElem (by omega)⟩
                    obtain ⟨b0, x0, y0, rfl, ep0, hb0⟩ := iv7.get hvl
                    have gl : ps.getLast? = some (x0, y0) := by
                      rw [List.getLast?_eq_getElem?, ← lu]
                      exact ep0
                    rw [gl] at rn
                    dsimp only at rn
                    refine ⟨.ref t, rfl, .ref l, rfl, 1, rfl, l, us, -1, .ref b0, rfl, rfl, SqL.of el7, atI_end hvl, t, b0, [xa, xb], [x0, y0], rfl, rfl, SqT.of e7, SqT.of hb0, _, rfl, ?_⟩
                    have lx := lexLe (x0, y0) (xa, xb)
                    dsimp only at lx
                    rw [lx]
                    cases hl : ltB (x0, y0) (xa, xb) with
                    | true =>
                      rw [hl, if_pos rfl] at rn
                      dsimp only at rn
                      refine iteF ?_
                      exact ⟨.ref l, rfl, .inl ⟨rfl, _, SqL.of el7⟩, .ref t, rfl, l, _, _, rfl, rfl, el7, few_line (by omega), fin rn _ _ _⟩
                    | false =>
                      rw [hl, if_neg Bool.false_ne_true] at rn
                      have rn' : outT x = .inl j := rn
                      refine iteT ⟨.int (0 + (j : Int)), rfl, by show 2 ≤ sizeLine; decide, fun z nz => ?_⟩
                      exact bad rn' H7 s07 z nz
          · have rn' : outT x = .inl j := by
              match PP, c2, rn with
              | [], _, rn => exact rn
              | [_], _, rn => exact rn
              | [_, _], c2, _ => exact absurd rfl c2
              | _ :: _ :: _ :: _, _, rn => exact rn
            rw [decide_eq_false (fun z => c2 (by have := V.int.inj z; omega))]
            refine iteT ⟨.int (0 + (j : Int)), rfl, by show 2 ≤ sizeLine; decide, fun z nz => ?_⟩
            exact bad rn' H6 s06 z nz
        · rintro σ H3 ⟨⟨s3, e3⟩, us, ps, ⟨el, iv, lp, rn⟩, y3, y4, y5, rfl⟩
          rw [tn] at lp
          rw [tn, List.drop_length] at rn
          refine ⟨.ref l, rfl, l, us, rfl, .inl ⟨SqL.of el, fun t nt => ?_⟩⟩
          exact done0 _ t us ps rn (s3.trans (same_new nt)) upd_same (iv.same (same_new nt))
theorem XcN.kitY {K : PySem.W.Frag} {mg : Str → Option Value} {x : Str} {D C : Addr} (N : XcN K mg x C) (s : PySem.W.subIn K (.ref D) (.ref C) = some true) : PySem.W.kitOne K (.ref D) (.ref C) = some true := by
  by_cases e : D = C
  · subst e
    exact kit_self
  · exact N.kit s e
def sp_law_told (K : PySem.W.Frag) : Sp := fun vs H Q _ => ∃ (v : V) (d : PyData), vs = [v] ∧ Dv K H v d ∧ (∀ x, d = .str x → low128 x ∧ x.length ≤ 950) ∧ ∀ H' r, Same H H' → ResAt H' r (outV d) → Q r H'
theorem ok_law_told (T : Tx K mg f_is_number f_is_position f_is_tuple_of f_is_interval f_parse_number f_parse_interval f_parse_intervals f_law_deck f_law_draw f_law_same f_law_small f_law_moved f_law_text f_law_odd f_law_bent f_law_number f_law_due f_law_told f_law f_BadText_init X_BadText X_SpanError X_BadInterval d_is_number d_is_position d_is_tuple_of d_is_interval d_parse_number d_parse_interval d_parse_intervals d_law_deck d_law_draw d_law_same d_law_small d_law_moved d_law_text d_law_odd d_law_bent d_law_number d_law_due d_law_told d_law d_BadText_init t_LAST_POSITION) : FnOk P w K mg base CX0 6 f_law_told d_law_told ["_law_text_here"] (sp_law_told K) := by
  refine T.F_law_told.ok sc_law_told (fun vs H Q E h => ?_) (fun cdv A outer s H vs Q E hr h => ?_)
  · obtain ⟨v, d, rfl, _⟩ := h
    rfl
  · obtain ⟨v, d, rfl, hd, okx, q⟩ := h
    refine ⟨_, (pss_one (ps_try_as (i := 1)  (Wout := fun _ _ _ _ => False) rfl rfl sc_law_told.nd rfl rfl ⟨rfl, by decide, .inl T.xn_BadText.g⟩ takes0
      (fun W pn xe tk _ => (pss_one (ps_ret (pe_callS (ok_parse_intervals T) (hr.mono (by decide)) (by rfl) T.g_parse_intervals T.F_parse_intervals.kp T.b_parse_intervals (fun σ => passAt tk σ) (pa_cons (pv 0) pa_nil)))))
      (fun ea oe cls ed pn hz hf => (pss_cons (ps_if (PW.pt (pw_or (pt_not (pt_val (pe_callB (call_isY hz hf) (by rfl) T.z_isinstance (by decide +kernel) (pa_cons (pv 1) (pa_cons (pe_glob (v := .ref X_SpanError) (by rfl) T.xn_SpanError.g rfl) pa_nil))))) (pw_or (pt_not (pt_val (pe_callB (call_isY hz hf) (by rfl) T.z_isinstance (by decide +kernel) (pa_cons (pv 1) (pa_cons (pe_bltn (v := .ty "ValueError") (u := .type "ValueError") (by rfl) T.z_ValueError (by decide +kernel) rfl) pa_nil))))) (pw_or1 (pt_val (pe_callB (call_isY hz hf) (by rfl) T.z_isinstance (by decide +kernel) (pa_cons (pv 1) (pa_cons (pe_glob (v := .ref X_BadInterval) (by rfl) T.xn_BadInterval.g rfl) pa_nil))))))))
      (pss_one (ps_ret pe_str))
      pss_nil)
      (pss_one (ps_ret (pe_tup (pa_cons pe_str (pa_cons (pe_xf T.xi_BadText.xf T.xi_BadText.no hz hf (pv 1)) pa_nil))))))))), ?_⟩
    refine ⟨v, rfl, v, d, rfl, hd, fun hs dd nd => ?_, fun x ed => ?_⟩
    · refine ⟨true, T.xn_BadText.exm (oex_self T.xi_BadText.ox), fun _ ea na => ?_, fun z => nomatch z⟩
      have sd := same_new (o := .xd [("index", .non)]) nd
      have ed := upd_same (H := H) (a := dd) (o := .xd [("index", .non)])
      generalize upd H dd (.xd [("index", .non)]) = HD at *
      refine ⟨.ref ea, rfl, X_BadText, .ref X_SpanError, _, true, rfl, rfl, .inr ⟨dd, _, rfl, ed⟩, T.xi_BadText.ex, .own _, T.xn_SpanError.kitY T.xs_BadText_SpanError, _, rfl, iteF ?_⟩
      refine ⟨.ref ea, rfl, X_BadText, .ty "ValueError", _, true, rfl, rfl, .inr ⟨dd, _, rfl, ed⟩, T.xi_BadText.ex, .ty _, kit_bltn (by decide +kernel) T.xv_BadText, _, rfl, iteF ?_⟩
      refine ⟨.ref ea, rfl, X_BadText, .ref X_BadInterval, _, false, rfl, rfl, .inr ⟨dd, _, rfl, ed⟩, T.xi_BadText.ex, .own _, T.xn_BadInterval.kit T.xs_BadText_BadInterval (T.xi_BadText.ne T.xs_BadText_BadInterval), _, rfl, iteF ?_⟩
      refine ⟨.ref ea, rfl, rfl, rfl, dd, _, .non, rfl, ed, rfl, by show 2 ≤ sizeLine; decide, fun t nt => ?_⟩
      refine q _ _ (sd.trans (same_new nt)) ?_
      rw [outV_no hs]
      exact ⟨t, rfl, upd_same⟩
    · subst ed
      obtain ⟨lo, len⟩ := okx x rfl
      refine ⟨lo, len, fun k o H1 dd s1 nd => ?_, fun ps o H1 t us s1 et iv => ?_⟩
      · refine ⟨true, T.xn_BadText.exm (oex_self T.xi_BadText.ox), fun _ ea na => ?_, fun z => nomatch z⟩
        have sd := same_new (o := .xd [("index", .int (k : Nat))]) nd
        have ed := upd_same (H := H1) (a := dd) (o := .xd [("index", .int (k : Nat))])
        generalize upd H1 dd (.xd [("index", .int (k : Nat))]) = HD at *
        refine ⟨.ref ea, rfl, X_BadText, .ref X_SpanError, _, true, rfl, rfl, .inr ⟨dd, _, rfl, ed⟩, T.xi_BadText.ex, .own _, T.xn_SpanError.kitY T.xs_BadText_SpanError, _, rfl, iteF ?_⟩
        refine ⟨.ref ea, rfl, X_BadText, .ty "ValueError", _, true, rfl, rfl, .inr ⟨dd, _, rfl, ed⟩, T.xi_BadText.ex, .ty _, kit_bltn (by decide +kernel) T.xv_BadText, _, rfl, iteF ?_⟩
        refine ⟨.ref ea, rfl, X_BadText, .ref X_BadInterval, _, false, rfl, rfl, .inr ⟨dd, _, rfl, ed⟩, T.xi_BadText.ex, .own _, T.xn_BadInterval.kit T.xs_BadText_BadInterval (T.xi_BadText.ne T.xs_BadText_BadInterval), _, rfl, iteF ?_⟩
        refine ⟨.ref ea, rfl, rfl, rfl, dd, _, .int (k : Nat), rfl, ed, rfl, by show 2 ≤ sizeLine; decide, fun t nt => ?_⟩
        refine q _ _ (s1.trans (sd.trans (same_new nt))) ?_
        show ResAt _ _ (some (outT x))
        rw [o]
        exact ⟨t, rfl, upd_same⟩
      · refine q H1 _ s1 ?_
        show ResAt H1 _ (some (outT x))
        rw [o]
        exact ⟨t, us, rfl, et, iv⟩

/-! ### the law's comparison, of told errors too -/
theorem FnOk.or0 {P : Program} {w : World} {K : PySem.W.Frag} {mg : Str → Option Value} {base : Heap} {CX : CXT} {k : Nat} {f : Addr} {fd : FuncData} {ps : List Str} {sp0 sp1 : Sp} (F0 : FnOk P w K mg base CX k f fd ps sp0) (F1 : FnOk P w K mg base CX k f fd ps sp1) : FnOk P w K mg base CX k f fd ps (fun vs H Q E => sp0 vs H Q E ∨ sp1 vs H Q E) where
  len := fun vs H Q E h => h.elim (F0.len vs H Q E) (F1.len vs H Q E)
  run := fun A outer s H args us vs Q E hr he hb hv h => h.elim (F0.run A outer s H args us vs Q E hr he hb hv) (F1.run A outer s H args us vs Q E hr he hb hv)
def sp_law_sameE : Sp := fun vs H Q _ => ∃ z : V, vs = [z, z] ∧ (z = .non ∨ ∃ s : Str, z = .str s) ∧ Q (.bl true) H
theorem ok_law_sameE (T : Tx K mg f_is_number f_is_position f_is_tuple_of f_is_interval f_parse_number f_parse_interval f_parse_intervals f_law_deck f_law_draw f_law_same f_law_small f_law_moved f_law_text f_law_odd f_law_bent f_law_number f_law_due f_law_told f_law f_BadText_init X_BadText X_SpanError X_BadInterval d_is_number d_is_position d_is_tuple_of d_is_interval d_parse_number d_parse_interval d_parse_intervals d_law_deck d_law_draw d_law_same d_law_small d_law_moved d_law_text d_law_odd d_law_bent d_law_number d_law_due d_law_told d_law d_BadText_init t_LAST_POSITION) : FnOk P w K mg base CX0 1 f_law_same d_law_same ["_law_found", "_law_due_here"] sp_law_sameE := by
  have ok_law_same : Tx K mg f_is_number f_is_position f_is_tuple_of f_is_interval f_parse_number f_parse_interval f_parse_intervals f_law_deck f_law_draw f_law_same f_law_small f_law_moved f_law_text f_law_odd f_law_bent f_law_number f_law_due f_law_told f_law f_BadText_init X_BadText X_SpanError X_BadInterval d_is_number d_is_position d_is_tuple_of d_is_interval d_parse_number d_parse_interval d_parse_intervals d_law_deck d_law_draw d_law_same d_law_small d_law_moved d_law_text d_law_odd d_law_bent d_law_number d_law_due d_law_told d_law d_BadText_init t_LAST_POSITION → FnOk P w K mg base CX0 0 f_law_same d_law_same ["_law_found", "_law_due_here"] sp_same0 := fun _ => ok_same0
  refine T.F_law_same.ok sc_law_same (fun vs H Q E h => ?_) (fun cdv A outer s H vs Q E hr h => ?_)
  · obtain ⟨i, rfl, _⟩ := h
    rfl
  · obtain ⟨z, rfl, hz, q⟩ := h
    refine ⟨_, (pss_cons (ps_if (pt_val (pe_callB call_isi (by rfl) T.z_isinstance (by decide +kernel) (pa_cons (pv 1) (pa_cons (pe_bltn (v := .ty "tuple") (u := .type "tuple") (by rfl) T.z_tuple (by decide +kernel) rfl) pa_nil))))
      (pss_cons (ps_if (PW.pt (pw_or (pt_not (pt_val (pe_callB call_isi (by rfl) T.z_isinstance (by decide +kernel) (pa_cons (pv 0) (pa_cons (pe_bltn (v := .ty "tuple") (u := .type "tuple") (by rfl) T.z_tuple (by decide +kernel) rfl) pa_nil))))) (pw_or1 (pt_cmpR op_ne (pe_callB call_len_seq (by rfl) T.z_len PySem.boot_len (pa_cons (pv 0) pa_nil)) (pe_callB call_len_seq (by rfl) T.z_len PySem.boot_len (pa_cons (pv 1) pa_nil)) (nomark _)))))
      (pss_one (ps_ret pe_bl))
      pss_nil)
      (pss_one (ps_ret (pe_cmpR (op_eqL hr.units0) (pe_lc (own := [("_law_one", 2), ("_law_other", 3)]) (g := (gTup K 2 (gCons (gName 2) (gCons (gName 3) gNil)))) (by rfl) sc_law_same.nd (RZ.pi_zipA (by rfl) T.z_zip (pa_cons (pv 0) (pa_cons (pv 1) pa_nil))) (blkOk_by (own := [("_law_one", 2), ("_law_other", 3)]) (N := N_law_same) (sc := defScope s_law_same) (by decide +kernel)) (fun _ _ _ _ _ => (pg_tup rfl (pgs_cons (pg_name (i := 2) sc_law_same.nd rfl (Or.inl rfl)) (pgs_cons (pg_name (i := 3) sc_law_same.nd rfl (Or.inl rfl)) pgs_nil)))) (fun _ _ _ _ _ => pts_one (pt_not (pt_val (pe_call (ok_law_same T) (hr.mono (by decide)) (by rfl) T.g_law_same T.F_law_same.kp T.b_law_same .nil pass0 (pa_cons (pv 2) (pa_cons (pv 3) pa_nil)))))) (fun _ _ _ _ _ => pe_int)) (pe_lst pa_nil) (nomark _)))))
      pss_nil)
      (pss_cons (ps_if (pt_cmpR op_isN (pv 1) pe_non (nomark _))
      (pss_one (ps_ret (pe_cmpR op_isN (pv 0) pe_non (nomark _))))
      pss_nil)
      (pss_cons (ps_if (pt_val (pe_callB call_isi (by rfl) T.z_isinstance (by decide +kernel) (pa_cons (pv 1) (pa_cons (pe_bltn (v := .ty "str") (u := .type "str") (by rfl) T.z_str (by decide +kernel) rfl) pa_nil))))
      (pss_one (ps_ret (pe_and (pe_callB call_isi (by rfl) T.z_isinstance (by decide +kernel) (pa_cons (pv 0) (pa_cons (pe_bltn (v := .ty "str") (u := .type "str") (by rfl) T.z_str (by decide +kernel) rfl) pa_nil))) (pe_one (pe_cmpR op_eq (pv 0) (pv 1) (nomark _))))))
      pss_nil)
      (pss_one (ps_ret (pe_and (pe_callB call_isi (by rfl) T.z_isinstance (by decide +kernel) (pa_cons (pv 0) (pa_cons (pe_bltn (v := .ty "int") (u := .type "int") (by rfl) T.z_int (by decide +kernel) rfl) pa_nil))) (pe_and (pe_cmpR op_eq (pe_callB call_isi (by rfl) T.z_isinstance (by decide +kernel) (pa_cons (pv 0) (pa_cons (pe_bltn (v := .ty "bool") (u := .type "bool") (by rfl) T.z_bool (by decide +kernel) rfl) pa_nil))) (pe_callB call_isi (by rfl) T.z_isinstance (by decide +kernel) (pa_cons (pv 1) (pa_cons (pe_bltn (v := .ty "bool") (u := .type "bool") (by rfl) T.z_bool (by decide +kernel) rfl) pa_nil))) (nomark _)) (pe_one (pe_cmpR op_eq (pv 0) (pv 1) (nomark _)))))))))), ?_⟩
    rcases hz with rfl | ⟨i, rfl⟩
    · refine ⟨.non, rfl, .non, .ty "tuple", _, _, _, rfl, .ty "tuple", .base .non, kit_ty (a := "NoneType") (b := "tuple") (r := false) (by decide +kernel), _, rfl, iteF ?_⟩
      refine ⟨.non, rfl, rfl, _, rfl, iteT ?_⟩
      exact ⟨.non, rfl, rfl, q⟩
    · refine ⟨.str i, rfl, .str i, .ty "tuple", _, _, _, rfl, .ty "tuple", .base (.str i), kit_ty (a := "str") (b := "tuple") (r := false) (by decide +kernel), _, rfl, iteF ?_⟩
      refine ⟨.str i, rfl, rfl, _, rfl, iteF ?_⟩
      refine ⟨.str i, rfl, .str i, .ty "str", _, _, _, rfl, .ty "str", .base (.str i), kit_ty (a := "str") (b := "str") (r := true) (by decide +kernel), _, rfl, iteT ?_⟩
      refine ⟨.str i, rfl, .str i, .ty "str", _, _, _, rfl, .ty "str", .base (.str i), kit_ty (a := "str") (b := "str") (r := true) (by decide +kernel), _, rfl, iteT ?_⟩
      refine ⟨.str i, rfl, .str i, rfl, rfl, ?_⟩
      rw [decide_eq_true rfl]
      exact q
def sp_law_sameB : Sp := fun vs H Q _ => ∃ (a b : Addr) (z : V) (s : Str), vs = [.ref a, .ref b] ∧ H a = some (.tup [.str s, z]) ∧ H b = some (.tup [.str s, z]) ∧ (z = .non ∨ ∃ i : Int, z = .int i) ∧ ∀ H', Same H H' → Q (.bl true) H'
theorem ok_law_sameB (T : Tx K mg f_is_number f_is_position f_is_tuple_of f_is_interval f_parse_number f_parse_interval f_parse_intervals f_law_deck f_law_draw f_law_same f_law_small f_law_moved f_law_text f_law_odd f_law_bent f_law_number f_law_due f_law_told f_law f_BadText_init X_BadText X_SpanError X_BadInterval d_is_number d_is_position d_is_tuple_of d_is_interval d_parse_number d_parse_interval d_parse_intervals d_law_deck d_law_draw d_law_same d_law_small d_law_moved d_law_text d_law_odd d_law_bent d_law_number d_law_due d_law_told d_law d_BadText_init t_LAST_POSITION) : FnOk P w K mg base CX0 3 f_law_same d_law_same ["_law_found", "_law_due_here"] sp_law_sameB := by
  have ok_law_same := fun T : Tx K mg f_is_number f_is_position f_is_tuple_of f_is_interval f_parse_number f_parse_interval f_parse_intervals f_law_deck f_law_draw f_law_same f_law_small f_law_moved f_law_text f_law_odd f_law_bent f_law_number f_law_due f_law_told f_law f_BadText_init X_BadText X_SpanError X_BadInterval d_is_number d_is_position d_is_tuple_of d_is_interval d_parse_number d_parse_interval d_parse_intervals d_law_deck d_law_draw d_law_same d_law_small d_law_moved d_law_text d_law_odd d_law_bent d_law_number d_law_due d_law_told d_law d_BadText_init t_LAST_POSITION => FnOk.or0 (ok_same1 (P := P) (w := w) (base := base) T) (ok_law_sameE T)
  refine T.F_law_same.ok sc_law_same (fun vs H Q E h => ?_) (fun cdv A outer s H vs Q E hr h => ?_)
  · obtain ⟨a, b, x, y, rfl, _⟩ := h
    rfl
  · obtain ⟨a, b, z, si, rfl, ha, hb, hz, q⟩ := h
    refine ⟨_, (pss_cons (ps_if (pt_val (pe_callB call_isi (by rfl) T.z_isinstance (by decide +kernel) (pa_cons (pv 1) (pa_cons (pe_bltn (v := .ty "tuple") (u := .type "tuple") (by rfl) T.z_tuple (by decide +kernel) rfl) pa_nil))))
      (pss_cons (ps_if (PW.pt (pw_or (pt_not (pt_val (pe_callB call_isi (by rfl) T.z_isinstance (by decide +kernel) (pa_cons (pv 0) (pa_cons (pe_bltn (v := .ty "tuple") (u := .type "tuple") (by rfl) T.z_tuple (by decide +kernel) rfl) pa_nil))))) (pw_or1 (pt_cmpR op_ne (pe_callB call_len_seq (by rfl) T.z_len PySem.boot_len (pa_cons (pv 0) pa_nil)) (pe_callB call_len_seq (by rfl) T.z_len PySem.boot_len (pa_cons (pv 1) pa_nil)) (nomark _)))))
      (pss_one (ps_ret pe_bl))
      pss_nil)
      (pss_one (ps_ret (pe_cmpR (op_eqL hr.units0) (pe_lc (own := [("_law_one", 2), ("_law_other", 3)]) (g := (gTup K 2 (gCons (gName 2) (gCons (gName 3) gNil)))) (by rfl) sc_law_same.nd (RZ.pi_zipA (by rfl) T.z_zip (pa_cons (pv 0) (pa_cons (pv 1) pa_nil))) (blkOk_by (own := [("_law_one", 2), ("_law_other", 3)]) (N := N_law_same) (sc := defScope s_law_same) (by decide +kernel)) (fun _ _ _ _ _ => (pg_tup rfl (pgs_cons (pg_name (i := 2) sc_law_same.nd rfl (Or.inl rfl)) (pgs_cons (pg_name (i := 3) sc_law_same.nd rfl (Or.inl rfl)) pgs_nil)))) (fun _ _ _ _ _ => pts_one (pt_not (pt_val (pe_call (ok_law_same T) (hr.mono (by decide)) (by rfl) T.g_law_same T.F_law_same.kp T.b_law_same .nil pass0 (pa_cons (pv 2) (pa_cons (pv 3) pa_nil)))))) (fun _ _ _ _ _ => pe_int)) (pe_lst pa_nil) (nomark _)))))
      pss_nil)
      (pss_cons (ps_if (pt_cmpR op_isN (pv 1) pe_non (nomark _))
      (pss_one (ps_ret (pe_cmpR op_isN (pv 0) pe_non (nomark _))))
      pss_nil)
      (pss_cons (ps_if (pt_val (pe_callB call_isi (by rfl) T.z_isinstance (by decide +kernel) (pa_cons (pv 1) (pa_cons (pe_bltn (v := .ty "str") (u := .type "str") (by rfl) T.z_str (by decide +kernel) rfl) pa_nil))))
      (pss_one (ps_ret (pe_and (pe_callB call_isi (by rfl) T.z_isinstance (by decide +kernel) (pa_cons (pv 0) (pa_cons (pe_bltn (v := .ty "str") (u := .type "str") (by rfl) T.z_str (by decide +kernel) rfl) pa_nil))) (pe_one (pe_cmpR op_eq (pv 0) (pv 1) (nomark _))))))
      pss_nil)
      (pss_one (ps_ret (pe_and (pe_callB call_isi (by rfl) T.z_isinstance (by decide +kernel) (pa_cons (pv 0) (pa_cons (pe_bltn (v := .ty "int") (u := .type "int") (by rfl) T.z_int (by decide +kernel) rfl) pa_nil))) (pe_and (pe_cmpR op_eq (pe_callB call_isi (by rfl) T.z_isinstance (by decide +kernel) (pa_cons (pv 0) (pa_cons (pe_bltn (v := .ty "bool") (u := .type "bool") (by rfl) T.z_bool (by decide +kernel) rfl) pa_nil))) (pe_callB call_isi (by rfl) T.z_isinstance (by decide +kernel) (pa_cons (pv 1) (pa_cons (pe_bltn (v := .ty "bool") (u := .type "bool") (by rfl) T.z_bool (by decide +kernel) rfl) pa_nil))) (nomark _)) (pe_one (pe_cmpR op_eq (pv 0) (pv 1) (nomark _)))))))))), ?_⟩
    refine ⟨.ref b, rfl, .ref b, .ty "tuple", _, _, _, rfl, .ty "tuple", .base (.tup hb), kit_ty (a := "tuple") (b := "tuple") (r := true) (by decide +kernel), _, rfl, iteT ?_⟩
    refine ⟨.ref a, rfl, .ref a, .ty "tuple", _, _, _, rfl, .ty "tuple", .base (.tup ha), kit_ty (a := "tuple") (b := "tuple") (r := true) (by decide +kernel), _, rfl, iteF ?_⟩
    refine ⟨.ref a, rfl, a, _, rfl, .inr (SqT.of ha), .ref b, rfl, b, _, rfl, .inr (SqT.of hb), rfl, _, rfl, iteF ?_⟩
    refine ⟨.ref a, rfl, .ref b, rfl, a, b, _, _, rfl, .inr ⟨SqT.of ha, SqT.of hb, fun D nD => ?_⟩⟩
    refine lcZ (K := K) (a := a) (b := b) (xs := [.str si, z]) (ys := [.str si, z]) (fun j H' ws => ws = []) nD (fun H' s => SqT.of (s _ _ ha)) (fun H' s => SqT.of (s _ _ hb)) (by show 2 < 1000; decide) (fun _ _ _ _ _ h => h) (fun i H' ws h => by rw [h]; exact Nat.zero_le _) (fun _ => rfl) ?_ ?_
    · rintro j u v TT H' N acc hu hv sm eT eD sz r no yes
      have euv : u = v ∧ ((∃ k : Int, u = .int k) ∨ (u = .non ∨ ∃ s : Str, u = .str s)) := by
        match j, hu, hv with
        | 0, hu, hv =>
          cases hu
          cases hv
          exact ⟨rfl, .inr (.inr ⟨_, rfl⟩)⟩
        | 1, hu, hv =>
          cases hu
          cases hv
          refine ⟨rfl, ?_⟩
          rcases hz with h | h
          · exact .inr (.inl h)
          · exact .inl h
        | j + 2, hu, _ => simp at hu
      obtain ⟨rfl, hk⟩ := euv
      refine ⟨TT, _, rfl, SqT.of eT, rfl, u, [u], rfl, u, [], rfl, rfl, rfl, u, rfl, u, rfl, ?_⟩
      rcases hk with ⟨k, rfl⟩ | hk
      · exact .inl ⟨k, rfl, _, rfl, iteF (no H' (Same.refl _) r)⟩
      · exact .inr ⟨u, rfl, hk, _, rfl, iteF (no H' (Same.refl _) r)⟩
    · rintro j H' ws jl sm eD r
      subst r
      refine ⟨by show 0 ≤ sizeLine; decide, fun z nz => ?_⟩
      have sz := same_new (o := .lst []) nz
      exact ⟨D, z, [], rfl, rfl, SqL.of (sz _ _ eD), SqL.of upd_same, q _ (sm.trans sz)⟩
def sp_law_same : Sp := fun vs H Q E => sp_law_sameT vs H Q E ∨ sp_law_sameB vs H Q E
theorem ok_law_same (T : Tx K mg f_is_number f_is_position f_is_tuple_of f_is_interval f_parse_number f_parse_interval f_parse_intervals f_law_deck f_law_draw f_law_same f_law_small f_law_moved f_law_text f_law_odd f_law_bent f_law_number f_law_due f_law_told f_law f_BadText_init X_BadText X_SpanError X_BadInterval d_is_number d_is_position d_is_tuple_of d_is_interval d_parse_number d_parse_interval d_parse_intervals d_law_deck d_law_draw d_law_same d_law_small d_law_moved d_law_text d_law_odd d_law_bent d_law_number d_law_due d_law_told d_law d_BadText_init t_LAST_POSITION) : FnOk P w K mg base CX0 3 f_law_same d_law_same ["_law_found", "_law_due_here"] sp_law_same := FnOk.or0 (ok_law_sameT T) (ok_law_sameB T)
/-! ### a bent text -/
theorem low_app {x y : Str} (a : low128 x) (b : low128 y) : low128 (x ++ y) := fun c hc => by
  rw [TL.tl_append] at hc
  rcases List.mem_append.mp hc with h | h
  · exact a c h
  · exact b c h
theorem low_cut {z : Str} (a : low128 z) (lo hi : Option Int) : low128 (cutS z lo hi) := fun c hc => a c (List.mem_of_mem_drop (List.mem_of_mem_take hc))
theorem joinL_mem : ∀ (S : List Nat) (L : List (List Nat)), ∀ c ∈ TL.joinL S L, c ∈ S ∨ ∃ p ∈ L, c ∈ p
  | S, [], c, h => by cases h
  | S, [p], c, h => .inr ⟨p, List.mem_singleton.mpr rfl, h⟩
  | S, p :: q :: r, c, h => by
    have h' : c ∈ p ++ (S ++ TL.joinL S (q :: r)) := h
    rcases List.mem_append.mp h' with h | h
    · exact .inr ⟨p, List.mem_cons_self, h⟩
    rcases List.mem_append.mp h with h | h
    · exact .inl h
    rcases joinL_mem S (q :: r) c h with h | ⟨p', hp, hc⟩
    · exact .inl h
    · exact .inr ⟨p', List.mem_cons_of_mem _ hp, hc⟩
theorem low_join {ys : List Str} (h : ∀ y ∈ ys, low128 y) : low128 (Txt.join " " ys) := fun c hc => by
  rw [TL.join_eq, TL.tl_join, tl_sp] at hc
  rcases joinL_mem _ _ c hc with h' | ⟨p, hp, hc⟩
  · rw [List.mem_singleton.mp h']
    decide
  · obtain ⟨y, hy, rfl⟩ := List.mem_map.mp hp
    exact h y hy c hc
theorem join_len (ys : List Str) : (Txt.join " " ys).length ≤ (ys.map (·.length)).sum + ys.length := by
  rw [TL.join_eq, TL.len_tl, TL.tl_join, tl_sp]
  have a := joinL_len [32] (ys.map TL.tl)
  have c : (ys.map TL.tl).map List.length = ys.map (·.length) := by
    rw [List.map_map]
    exact List.map_congr_left fun z _ => (TL.len_tl z).symm
  rw [c, List.length_map] at a
  have d : ([32] : List Nat).length = 1 := rfl
  rw [d] at a
  omega
theorem spl_sum {s : Nat} (L : List Nat) : ((TL.spl [s] 0 [] L).map List.length).sum + (TL.spl [s] 0 [] L).length = L.length + 1 := by
  refine spl_ind (P := fun L r => (r.map List.length).sum + r.length = L.length + 1) (fun L _ => by simp) (fun a b r _ ih => ?_) L.length L (Nat.le_refl _)
  rw [List.map_cons, List.sum_cons, List.length_cons, List.length_append, List.length_append]
  have : [s].length = 1 := rfl
  omega
/-- the length of a joined list of words -/
def wt (ys : List Str) : Nat := (ys.map (·.length)).sum + ys.length
theorem wt_app (a b : List Str) : wt (a ++ b) = wt a + wt b := by
  unfold wt
  rw [List.map_append, List.sum_append, List.length_append]
  omega
theorem wt_take (a : List Str) (n : Nat) : wt (a.take n) + wt (a.drop n) = wt a := by
  rw [← wt_app, List.take_append_drop]
theorem wt_split (x : Str) : wt (Txt.split x " ") = x.length + 1 := by
  have e := split_sp x
  have l := spl_sum (s := 32) (TL.tl x)
  rw [← e, List.length_map, List.map_map, ← TL.len_tl] at l
  have c : (Txt.split x " ").map (List.length ∘ TL.tl) = (Txt.split x " ").map (·.length) := List.map_congr_left fun z _ => (TL.len_tl z).symm
  rw [c] at l
  exact l
theorem cut_to {W : List Str} {k : Nat} (h : k ≤ W.length) : cutV (W.map V.str) none (some (k : Int)) = (W.take k).map V.str := by
  unfold cutV
  rw [HT.sIx_none, show HT.sIx (W.map V.str).length (W.map V.str).length (some (k : Int)) = min k (W.map V.str).length from HT.sIx_nat _ _ k, List.length_map, Nat.sub_zero, List.drop_zero, Nat.min_eq_left h, List.map_take]
theorem cut_from {W : List Str} {k : Nat} (h : k ≤ W.length) : cutV (W.map V.str) (some (k : Int)) none = (W.drop k).map V.str := by
  unfold cutV
  rw [HT.sIx_none, show HT.sIx (W.map V.str).length 0 (some (k : Int)) = min k (W.map V.str).length from HT.sIx_nat _ _ k, List.length_map, Nat.min_eq_left h, ← List.map_drop, List.take_of_length_le (by rw [List.length_map, List.length_drop]; exact Nat.le_refl _)]
theorem cut_one {W : List Str} {k : Nat} (h : k + 1 ≤ W.length) : cutV (W.map V.str) (some (k : Int)) (some ((k + 1 : Nat) : Int)) = ((W.drop k).take 1).map V.str := by
  unfold cutV
  rw [show HT.sIx (W.map V.str).length 0 (some (k : Int)) = min k (W.map V.str).length from HT.sIx_nat _ _ k, show HT.sIx (W.map V.str).length (W.map V.str).length (some ((k + 1 : Nat) : Int)) = min (k + 1) (W.map V.str).length from HT.sIx_nat _ _ (k + 1), List.length_map, Nat.min_eq_left (show k ≤ W.length by omega), Nat.min_eq_left (show k + 1 ≤ W.length from h), show k + 1 - k = 1 by omega, ← List.map_drop, ← List.map_take]
def sp_law_bent : Sp := fun vs H Q _ => ∃ (d c : Addr) (n : Int) (x : Str), vs = [.ref d, .str x] ∧ Dk H d c n ∧ 0 ≤ n ∧ n < 990000 ∧ low128 x ∧ x.length ≤ 470 ∧
  ∀ H' y m, Kp d c H H' → Dk H' d c m → n ≤ m → m ≤ n + 6 → low128 y → y.length ≤ 2 * x.length + 2 → Q (.str y) H'
theorem ok_law_bent (T : Tx K mg f_is_number f_is_position f_is_tuple_of f_is_interval f_parse_number f_parse_interval f_parse_intervals f_law_deck f_law_draw f_law_same f_law_small f_law_moved f_law_text f_law_odd f_law_bent f_law_number f_law_due f_law_told f_law f_BadText_init X_BadText X_SpanError X_BadInterval d_is_number d_is_position d_is_tuple_of d_is_interval d_parse_number d_parse_interval d_parse_intervals d_law_deck d_law_draw d_law_same d_law_small d_law_moved d_law_text d_law_odd d_law_bent d_law_number d_law_due d_law_told d_law d_BadText_init t_LAST_POSITION) : FnOk P w K mg base CX0 2 f_law_bent d_law_bent ["_law_deck_here", "_law_text_here"] sp_law_bent := by
  refine T.F_law_bent.ok sc_law_bent (fun vs H Q E h => ?_) (fun cdv A outer s H vs Q E hr h => ?_)
  · obtain ⟨d, c, n, x, rfl, _⟩ := h
    rfl
  · obtain ⟨d, c, n, x, rfl, dk, n0, n1, lo, len, q⟩ := h
    refine ⟨_, (pss_cons (ps_set (i := 2) sc_law_bent.nd rfl (Or.inl rfl) (pe_split (pv 1) pe_str))
      (pss_cons (ps_set (i := 3) sc_law_bent.nd rfl (Or.inl rfl) (pe_call (ok_law_draw T) (hr.mono (by decide)) (by rfl) T.g_law_draw T.F_law_draw.kp T.b_law_draw .nil pass0 (pa_cons (pv 0) (pa_cons (pe_callB call_len_seq (by rfl) T.z_len PySem.boot_len (pa_cons (pv 2) pa_nil)) pa_nil))))
      (pss_cons (ps_set (i := 4) sc_law_bent.nd rfl (Or.inl rfl) (pe_call (ok_law_draw T) (hr.mono (by decide)) (by rfl) T.g_law_draw T.F_law_draw.kp T.b_law_draw .nil pass0 (pa_cons (pv 0) (pa_cons pe_int pa_nil))))
      (pss_cons (ps_if (pt_cmpR op_eq (pv 4) pe_int (nomark _))
      (pss_one (ps_ret (pe_join pe_str (pe_op op_cat (pe_op op_cat (pe_slice sl_list (pv 2) po_none (po_some (pv 3))) (pe_slice sl_list (pv 2) (po_some (pv 3)) (po_some (pe_op op_add (pv 3) pe_int)))) (pe_slice sl_list (pv 2) (po_some (pv 3)) po_none)))))
      pss_nil)
      (pss_cons (ps_if (pt_cmpR op_eq (pv 4) pe_int (nomark _))
      (pss_one (ps_ret (pe_join pe_str (pe_op op_cat (pe_slice sl_list (pv 2) (po_some (pv 3)) po_none) (pe_slice sl_list (pv 2) po_none (po_some (pv 3)))))))
      pss_nil)
      (pss_cons (ps_set (i := 5) sc_law_bent.nd rfl (Or.inl rfl) (pe_call (ok_law_draw T) (hr.mono (by decide)) (by rfl) T.g_law_draw T.F_law_draw.kp T.b_law_draw .nil pass0 (pa_cons (pv 0) (pa_cons (pe_op op_add (pe_callB call_len_str (by rfl) T.z_len PySem.boot_len (pa_cons (pv 1) pa_nil)) pe_int) pa_nil))))
      (pss_cons (ps_set (i := 6) sc_law_bent.nd rfl (Or.inl rfl) (pe_ix ix_list (pe_lst (pa_cons pe_str (pa_cons pe_str (pa_cons pe_str (pa_cons pe_str (pa_cons pe_str (pa_cons pe_str (pa_cons pe_str (pa_cons pe_str (pa_cons pe_str (pa_cons pe_str pa_nil))))))))))) (pe_call (ok_law_draw T) (hr.mono (by decide)) (by rfl) T.g_law_draw T.F_law_draw.kp T.b_law_draw .nil pass0 (pa_cons (pv 0) (pa_cons pe_int pa_nil))) (fun _ _ => rfl)))
      (pss_one (ps_ret (pe_op op_add_str (pe_op op_add_str (pe_slice sl_str (pv 1) po_none (po_some (pv 5))) (pe_op op_mulS (pv 6) (pe_call (ok_law_draw T) (hr.mono (by decide)) (by rfl) T.g_law_draw T.F_law_draw.kp T.b_law_draw .nil pass0 (pa_cons (pv 0) (pa_cons pe_int pa_nil))))) (pe_slice sl_str (pv 1) (po_some (pe_op op_add (pv 5) (pe_call (ok_law_draw T) (hr.mono (by decide)) (by rfl) T.g_law_draw T.F_law_draw.kp T.b_law_draw .nil pass0 (pa_cons (pv 0) (pa_cons pe_int pa_nil))))) po_none))))))))))), ?_⟩
    have sz : sizeLine = 16777216 := by decide
    refine ⟨.str x, rfl, ⟨_, rfl⟩, _, _, rfl, rfl, by decide +kernel, by omega, fun w nw => ?_⟩
    obtain ⟨lw, okw⟩ := words_ok lo (by omega)
    have wt0 := wt_split x
    have lp := (spl_len (s := 32) (TL.tl x)).2
    rw [← split_sp, List.length_map] at lp
    generalize hW : Txt.split x " " = W at *
    have offW := dk.off nw
    have s1 := same_new (o := .lst (W.map V.str)) nw
    have e1 := upd_same (H := H) (a := w) (o := .lst (W.map V.str))
    generalize upd H w (.lst (W.map V.str)) = H1 at *
    have dk1 := dk.kept s1
    have lW : (W.map V.str).length = W.length := List.length_map ..
    refine ⟨.ref d, rfl, .ref w, rfl, w, _, rfl, .inl (SqL.of e1), d, c, n, _, rfl, dk1, n0, by omega, by rw [lW]; omega, by rw [lW]; omega, fun H2 at_ k2 dk2 a0 a1 => ?_⟩
    rw [lW] at a1
    refine ⟨.ref d, rfl, d, c, n + 1, 4, rfl, dk2, by omega, by omega, by decide, by decide, fun H3 way k3 dk3 w0 w1 => ?_⟩
    obtain ⟨k, rfl⟩ : ∃ k : Nat, at_ = (k : Int) := ⟨at_.toNat, by omega⟩
    have hk : k + 1 ≤ W.length := by omega
    have kA : Kp d c H H3 := (Kp.same s1).trans (k2.trans k3)
    have e3 := k3.keep offW (k2.keep offW e1)
    have tkd := wt_take W k
    refine ⟨.int way, rfl, rfl, _, rfl, ite2 (fun _ => ?_) (fun _ => ?_)⟩
    · -- a word twice
      refine ⟨⟨_, rfl⟩, .ref w, rfl, .int (k : Nat), rfl, (k : Int), rfl, w, _, rfl, SqL.of e3, fun p1 m1 => ?_⟩
      rw [cut_to (by omega)]
      have o1 := dk3.off m1
      have t1 := same_new (o := .lst ((W.take k).map V.str)) m1
      have f1 := upd_same (H := H3) (a := p1) (o := .lst ((W.take k).map V.str))
      generalize upd H3 p1 (.lst ((W.take k).map V.str)) = G1 at *
      refine ⟨.ref w, rfl, .int (k : Nat), rfl, (k : Int), rfl, .int (k : Nat), rfl, _, _, rfl, rfl, ((k + 1 : Nat) : Int), rfl, w, _, rfl, SqL.of (t1 _ _ e3), fun p2 m2 => ?_⟩
      rw [cut_one hk]
      have t2 := same_new (o := .lst (((W.drop k).take 1).map V.str)) m2
      have f2 := upd_same (H := G1) (a := p2) (o := .lst (((W.drop k).take 1).map V.str))
      generalize upd G1 p2 (.lst (((W.drop k).take 1).map V.str)) = G2 at *
      refine ⟨p1, p2, _, _, rfl, rfl, t2 _ _ f1, f2, by rw [List.length_map, List.length_map, List.length_take, List.length_take]; omega, fun g ng => ?_⟩
      have t3 := same_new (o := .lst ((W.take k).map V.str ++ ((W.drop k).take 1).map V.str)) ng
      have f3 := upd_same (H := G2) (a := g) (o := .lst ((W.take k).map V.str ++ ((W.drop k).take 1).map V.str))
      generalize upd G2 g (.lst ((W.take k).map V.str ++ ((W.drop k).take 1).map V.str)) = G3 at *
      have t23 := t2.trans t3
      refine ⟨.ref w, rfl, .int (k : Nat), rfl, (k : Int), rfl, ?_⟩
      refine noPart_of ?_
      refine ⟨w, _, rfl, SqL.of ((t1.trans t23) _ _ e3), fun p4 m4 => ?_⟩
      rw [cut_from (by omega)]
      have t4 := same_new (o := .lst ((W.drop k).map V.str)) m4
      have f4 := upd_same (H := G3) (a := p4) (o := .lst ((W.drop k).map V.str))
      generalize upd G3 p4 (.lst ((W.drop k).map V.str)) = G4 at *
      refine ⟨g, p4, _, _, rfl, rfl, t4 _ _ f3, f4, by rw [List.length_append, List.length_map, List.length_map, List.length_map, List.length_take, List.length_take, List.length_drop]; omega, fun g2 ng2 => ?_⟩
      have t5 := same_new (o := .lst ((W.take k).map V.str ++ ((W.drop k).take 1).map V.str ++ (W.drop k).map V.str)) ng2
      have f5 := upd_same (H := G4) (a := g2) (o := .lst ((W.take k).map V.str ++ ((W.drop k).take 1).map V.str ++ (W.drop k).map V.str))
      generalize upd G4 g2 (.lst ((W.take k).map V.str ++ ((W.drop k).take 1).map V.str ++ (W.drop k).map V.str)) = G5 at *
      have tall := (t1.trans t23).trans (t4.trans t5)
      obtain ⟨ys, eys⟩ : ∃ ys, ys = W.take k ++ (W.drop k).take 1 ++ W.drop k := ⟨_, rfl⟩
      have f5' : G5 g2 = some (.lst (ys.map V.str)) := by
        rw [f5, eys, List.map_append, List.map_append]
      have w1 := wt_take (W.drop k) 1
      have wy : wt ys = wt (W.take k) + wt ((W.drop k).take 1) + wt (W.drop k) := by
        rw [eys, wt_app, wt_app]
      have jl := join_len ys
      have memy : ∀ y ∈ ys, low128 y := fun y hy => by
        rw [eys] at hy
        rcases List.mem_append.mp hy with hy | hy
        · rcases List.mem_append.mp hy with hy | hy
          · exact (okw y (List.mem_of_mem_take hy)).1
          · exact (okw y (List.mem_of_mem_drop (List.mem_of_mem_take hy))).1
        · exact (okw y (List.mem_of_mem_drop hy)).1
      have bw : (ys.map (·.length)).sum + ys.length = wt ys := rfl
      refine ⟨_, g2, ys, rfl, rfl, .inl (SqL.of f5'), ?_, ?_⟩
      · rw [show (" " : Str).length = 1 by decide +kernel]
        omega
      · exact q _ _ _ (kA.trans (Kp.same tall)) (dk3.kept tall) (by omega) (by omega) (low_join memy) (by omega)
    refine ⟨.int way, rfl, rfl, _, rfl, ite2 (fun _ => ?_) (fun _ => ?_)⟩
    · -- turned round
      refine ⟨⟨_, rfl⟩, .ref w, rfl, .int (k : Nat), rfl, (k : Int), rfl, ?_⟩
      refine noPart_of ?_
      refine ⟨w, _, rfl, SqL.of e3, fun p1 m1 => ?_⟩
      rw [cut_from (by omega)]
      have t1 := same_new (o := .lst ((W.drop k).map V.str)) m1
      have f1 := upd_same (H := H3) (a := p1) (o := .lst ((W.drop k).map V.str))
      generalize upd H3 p1 (.lst ((W.drop k).map V.str)) = G1 at *
      refine ⟨.ref w, rfl, .int (k : Nat), rfl, (k : Int), rfl, w, _, rfl, SqL.of (t1 _ _ e3), fun p2 m2 => ?_⟩
      rw [cut_to (by omega)]
      have t2 := same_new (o := .lst ((W.take k).map V.str)) m2
      have f2 := upd_same (H := G1) (a := p2) (o := .lst ((W.take k).map V.str))
      generalize upd G1 p2 (.lst ((W.take k).map V.str)) = G2 at *
      refine ⟨p1, p2, _, _, rfl, rfl, t2 _ _ f1, f2, by rw [List.length_map, List.length_map, List.length_take, List.length_drop]; omega, fun g ng => ?_⟩
      have t3 := same_new (o := .lst ((W.drop k).map V.str ++ (W.take k).map V.str)) ng
      have f3 := upd_same (H := G2) (a := g) (o := .lst ((W.drop k).map V.str ++ (W.take k).map V.str))
      generalize upd G2 g (.lst ((W.drop k).map V.str ++ (W.take k).map V.str)) = G3 at *
      have tall := t1.trans (t2.trans t3)
      obtain ⟨ys, eys⟩ : ∃ ys, ys = W.drop k ++ W.take k := ⟨_, rfl⟩
      have f3' : G3 g = some (.lst (ys.map V.str)) := by
        rw [f3, eys, List.map_append]
      have wy : wt ys = wt (W.drop k) + wt (W.take k) := by
        rw [eys, wt_app]
      have jl := join_len ys
      have memy : ∀ y ∈ ys, low128 y := fun y hy => by
        rw [eys] at hy
        rcases List.mem_append.mp hy with hy | hy
        · exact (okw y (List.mem_of_mem_drop hy)).1
        · exact (okw y (List.mem_of_mem_take hy)).1
      have bw : (ys.map (·.length)).sum + ys.length = wt ys := rfl
      refine ⟨_, g, ys, rfl, rfl, .inl (SqL.of f3'), ?_, ?_⟩
      · rw [show (" " : Str).length = 1 by decide +kernel]
        omega
      · exact q _ _ _ (kA.trans (Kp.same tall)) (dk3.kept tall) (by omega) (by omega) (low_join memy) (by omega)
    refine ⟨.ref d, rfl, .str x, rfl, _, rfl, by omega, _, _, rfl, rfl, d, c, n + 1 + 1, _, rfl, dk3, by omega, by omega, by omega, by omega, fun H4 pl k4 dk4 p0 p1 => ?_⟩
    refine ⟨by show 10 ≤ sizeLine; decide, fun sl nsl => ?_⟩
    have osl := dk4.off nsl
    obtain ⟨sg, esg, osg⟩ : ∃ sg : List Str, sg = signs10 ∧ ∀ y ∈ sg, low128 y ∧ y.length ≤ 1 := by
      refine ⟨_, rfl, fun y hy => ?_⟩
      have key : ∀ y ∈ signs10, (∀ c ∈ TL.tl y, c < 128) ∧ y.length ≤ 1 := by decide +kernel
      exact key y hy
    have s5 := same_new (o := .lst [V.str "0", .str "1", .str "9", .str "-", .str " ", .str "+", .str ",", .str "x", .str "\n", .str "."]) nsl
    have esl := upd_same (H := H4) (a := sl) (o := .lst [V.str "0", .str "1", .str "9", .str "-", .str " ", .str "+", .str ",", .str "x", .str "\n", .str "."])
    generalize upd H4 sl (.lst [V.str "0", .str "1", .str "9", .str "-", .str " ", .str "+", .str ",", .str "x", .str "\n", .str "."]) = H5 at *
    have esl' : H5 sl = some (.lst (sg.map V.str)) := by rw [esl, esg]; rfl
    have lsg : sg.length = 10 := by rw [esg]; rfl
    have dk5 := dk4.kept s5
    refine ⟨.ref d, rfl, d, c, n + 1 + 1 + 1, 10, rfl, dk5, by omega, by omega, by decide, by decide, fun H6 r6 k6 dk6 r60 r61 => ?_⟩
    obtain ⟨j, rfl⟩ : ∃ j : Nat, r6 = (j : Int) := ⟨r6.toNat, by omega⟩
    obtain ⟨y, ey⟩ : ∃ y, sg[j]? = some y := ⟨_, List.getElem?_eq_getElem (by omega)⟩
    have oy := osg y (List.mem_of_getElem? ey)
    have aty : atI (sg.map V.str) (j : Int) = some (.str y) := by
      refine atI_nat ?_
      rw [List.getElem?_map, ey]
      rfl
    refine ⟨sl, _, (j : Int), .str y, rfl, rfl, SqL.of (k6.keep osl esl'), aty, ?_⟩
    refine ⟨.str x, rfl, .int pl, rfl, pl, rfl, x, rfl, by omega, ?_⟩
    have cl1 := cutS_length x none (some pl)
    refine ⟨.str y, rfl, .ref d, rfl, d, c, n + 1 + 1 + 1 + 1, 2, rfl, dk6, by omega, by omega, by decide, by decide, fun H7 r7 k7 dk7 r70 r71 => ?_⟩
    have hr7 : r7 = 0 ∨ r7 = 1 := by omega
    refine ⟨y, r7, rfl, rfl, hr7, ?_⟩
    obtain ⟨mid, emid, lom, lenm⟩ : ∃ mid : Str, mid = (if r7 = 1 then y else Str.empty) ∧ low128 mid ∧ mid.length ≤ 1 := by
      refine ⟨_, rfl, ?_⟩
      rcases hr7 with rfl | rfl
      · rw [if_neg (by decide)]
        exact ⟨fun c hc => (by cases hc), by decide⟩
      · rw [if_pos rfl]
        exact oy
    rw [← emid]
    refine ⟨_, _, rfl, rfl, by omega, ?_⟩
    refine ⟨.str x, rfl, .int pl, rfl, .ref d, rfl, d, c, n + 1 + 1 + 1 + 1 + 1, 2, rfl, dk7, by omega, by omega, by decide, by decide, fun H8 r8 k8 dk8 r80 r81 => ⟨_, _, rfl, rfl, pl + r8, rfl, ?_⟩⟩
    refine noPart_of ?_
    have cl2 := cutS_length x (some (pl + r8)) none
    refine ⟨x, rfl, by omega, _, _, rfl, rfl, by rw [Str.length_append]; omega, ?_⟩
    have kB : Kp d c H H8 := kA.trans (k4.trans ((Kp.same s5).trans (k6.trans (k7.trans k8))))
    exact q _ _ _ kB dk8 (by omega) (by omega) (low_app (low_app (low_cut lo _ _) lom) (low_cut lo _ _)) (by rw [Str.length_append, Str.length_append]; omega)

/-! ### odd values through draws (the plain deck) -/
/-- the heap but for the deck -/
def OffP (d c : Addr) (H : Hp) : Hp := fun b => if b = d ∨ b = c then none else H b
theorem offP_get {d c : Addr} {H : Hp} {b : Addr} {o : HO} (n : Off d c b) (e : H b = some o) : OffP d c H b = some o := by
  unfold OffP
  rw [if_neg (fun z => z.elim n.1 n.2)]
  exact e
theorem offP_at {d c : Addr} {H : Hp} {b : Addr} {o : HO} (e : OffP d c H b = some o) : b ≠ d ∧ b ≠ c ∧ H b = some o := by
  unfold OffP at e
  by_cases z : b = d ∨ b = c
  · rw [if_pos z] at e
    cases e
  · rw [if_neg z] at e
    exact ⟨fun q => z (.inl q), fun q => z (.inr q), e⟩
theorem offP_sub {d c : Addr} {H : Hp} : Same (OffP d c H) H := fun _ _ e => (offP_at e).2.2
theorem offP_kp {d c : Addr} {H H' : Hp} (k : Kp d c H H') : Same (OffP d c H) (OffP d c H') := fun b o e => by
  obtain ⟨n1, n2, z⟩ := offP_at e
  exact offP_get ⟨n1, n2⟩ (k b o n1 n2 z)
theorem Dk.offT {H : Hp} {d c : Addr} {n : Int} (h : Dk H d c n) {b : Addr} {us : List V} (e : H b = some (.tup us)) : Off d c b := by
  obtain ⟨xs, q, _⟩ := h.cells
  exact ⟨ne_of e h.top (fun z => by cases z), ne_of e q (fun z => by cases z)⟩
theorem ivs_dv {K : PySem.W.Frag} {d c : Addr} {n : Int} {H : Hp} (dk : Dk H d c n) : ∀ {us : List V} {ps : List (Int × Int)}, Ivs H us ps → DvAll K (OffP d c H) us (ps.map pairD)
  | _, _, .nil => .nil
  | _, _, .cons e h => .cons (.tup (offP_get (dk.offT e) e) (.cons (.int _) (.cons (.int _) .nil))) (ivs_dv dk h)
/-- every sign of a text is a sign -/
def okc (x : Str) : Prop := ∀ c ∈ x.cps.toList, c < 16 ^ 8
theorem okc_app {a b : Str} (h : okc a) (g : okc b) : okc (a ++ b) := by
  intro c hc
  have e : (a ++ b).cps = a.cps ++ b.cps := rfl
  rw [e, Array.toList_append] at hc
  exact (List.mem_append.mp hc).elim (h c) (g c)
theorem okc_int (i : Int) : okc (PyData.shown (.int i)) := by
  intro c hc
  have hc : c ∈ (Str.ofString (toString i)).cps.toList := hc
  rw [Str.ofString_eq_toList] at hc
  have hc : c ∈ ((toString i).toList.map Char.toNat) := by simpa using hc
  obtain ⟨x, _, rfl⟩ := List.mem_map.mp hc
  have := x.val.toNat_lt
  show x.val.toNat < 16 ^ 8
  omega
theorem okc_lit {x : Str} (h : (x.cps.toList.all fun c => decide (c < 16 ^ 8)) = true) : okc x := fun c hc => of_decide_eq_true (List.all_eq_true.mp h c hc)
theorem okc_pair (x y : Int) : okc (PyData.shown (.tuple [.int x, .int y])) := by
  have e : PyData.shown (.tuple [.int x, .int y]) = ("(" : Str) ++ (PyData.shown (.int x) ++ (", " : Str) ++ PyData.shown (.int y)) ++ (")" : Str) := by
    show ("(" : Str) ++ Str.join ", " [PyData.shown (.int x), PyData.shown (.int y)] ++ (")" : Str) = _
    rfl
  rw [e]
  exact okc_app (okc_app (okc_lit (by decide +kernel)) (okc_app (okc_app (okc_int x) (okc_lit (by decide +kernel))) (okc_int y))) (okc_lit (by decide +kernel))
theorem sm_shown {n dp : Nat} {d : PyData} (h : Sm n dp d) (c : okc d.shown) (hn : n ≤ 1000) : Sm 50000 0 (.str d.shown) := by
  refine ⟨rfl, ?_, ?_, Nat.le_refl _⟩
  · show (d.shown.cps.toList.all fun c => decide (c < 16 ^ 8)) = true
    exact List.all_eq_true.mpr fun x hx => decide_eq_true (c x hx)
  · have q := PyData.shown_le 40 (by decide) d h.short
    have := h.small
    show d.shown.length ≤ 50000
    omega
def oddE : List PyData := [.none, .tuple [], .list [], .dict [], .int 5, .str "0-3", .tuple [.int 3, .int 2], .tuple [.int 0, .bool true], .tuple [.bool false, .int 1], .tuple [.int 0, .int 1, .int 2], .tuple [.int (-1), .int 0], .list [.int 0, .int 1], .tuple [.int 0, .int (10 ^ 12 + 1)], .tuple [.int 0, .str "1"], .tuple [.none, .int 3], .tuple [.tuple [.int 0, .int 1], .tuple [.int 0, .int 1]], .bool true, .int (10 ^ 20)]
def fineE (d : PyData) : Bool := (d.showable && (d.leavesShort 40 && (decide (d.weight ≤ 1000) && decide (d.depth ≤ 3)))) && d.shown.cps.toList.all fun c => decide (c < 16 ^ 8)
theorem oddE_fine : oddE.all fineE = true := by decide +kernel
theorem oddE_ok {d : PyData} (h : d ∈ oddE) : Sm 1000 3 d ∧ okc d.shown := by
  have h := Bool.and_eq_true_iff.mp (List.all_eq_true.mp oddE_fine d h)
  have h1 := Bool.and_eq_true_iff.mp h.1
  have h2 := Bool.and_eq_true_iff.mp h1.2
  have h3 := Bool.and_eq_true_iff.mp h2.2
  exact ⟨⟨h1.1, h2.1, of_decide_eq_true h3.1, of_decide_eq_true h3.2⟩, okc_lit h.2⟩
/-- a list of data that stays through draws -/
structure OddL (K : PySem.W.Frag) (d c : Addr) (Hx : Hp) (D : Addr) (ds : List PyData) (H' : Hp) : Prop where
  same : Same Hx H'
  off : Off d c D
  ex : ∃ us, H' D = some (.lst us) ∧ DvAll K (OffP d c H') us ds

/-! ### odd values -/
def oddD : List PyData := [.none, .bool true, .bool false, .int 0, .int (-1), .int (10 ^ 29), .tuple [], .list [], .dict [], .tuple [.int 0, .int 1], .list [.str "0-1"], .tuple [.str "0-1"]]
def sp_law_odd (K : PySem.W.Frag) : Sp := fun vs H Q _ => ∃ (d : Addr) (c : Addr) (n : Int), vs = [.ref d] ∧ Dk H d c n ∧ 0 ≤ n ∧ n < 999990 ∧
  ∀ H' v dd, Kp d c H H' → Dk H' d c (n + 1) → dd ∈ oddD → Dv K (OffP d c H') v dd → Q v H'
theorem ok_law_odd (T : Tx K mg f_is_number f_is_position f_is_tuple_of f_is_interval f_parse_number f_parse_interval f_parse_intervals f_law_deck f_law_draw f_law_same f_law_small f_law_moved f_law_text f_law_odd f_law_bent f_law_number f_law_due f_law_told f_law f_BadText_init X_BadText X_SpanError X_BadInterval d_is_number d_is_position d_is_tuple_of d_is_interval d_parse_number d_parse_interval d_parse_intervals d_law_deck d_law_draw d_law_same d_law_small d_law_moved d_law_text d_law_odd d_law_bent d_law_number d_law_due d_law_told d_law d_BadText_init t_LAST_POSITION) : FnOk P w K mg base CX0 2 f_law_odd d_law_odd ["_law_deck_here"] (sp_law_odd K) := by
  refine T.F_law_odd.ok sc_law_odd (fun vs H Q E h => ?_) (fun cdv A outer s H vs Q E hr h => ?_)
  · obtain ⟨d, c, n, rfl, _⟩ := h
    rfl
  · obtain ⟨d, c, n, rfl, dk, n0, n1, q⟩ := h
    refine ⟨_, (pss_cons (ps_set (i := 1) sc_law_odd.nd rfl (Or.inl rfl) (pe_lst (pa_cons pe_non (pa_cons pe_bl (pa_cons pe_bl (pa_cons pe_int (pa_cons (pe_un un_neg pe_int) (pa_cons (pe_op op_pow pe_int pe_int) (pa_cons (pe_tup pa_nil) (pa_cons (pe_lst pa_nil) (pa_cons pe_dnewK (pa_cons (pe_tup (pa_cons pe_int (pa_cons pe_int pa_nil))) (pa_cons (pe_lst (pa_cons pe_str pa_nil)) (pa_cons (pe_tup (pa_cons pe_str pa_nil)) pa_nil))))))))))))))
      (pss_one (ps_ret (pe_ix ix_list (pv 1) (pe_call (ok_law_draw T) (hr.mono (by decide)) (by rfl) T.g_law_draw T.F_law_draw.kp T.b_law_draw .nil pass0 (pa_cons (pv 0) (pa_cons pe_int pa_nil))) (fun _ _ => rfl))))), ?_⟩
    refine ⟨1, rfl, 10, 29, rfl, rfl, ⟨by decide, by decide, by decide⟩, by show 0 ≤ sizeLine; decide, fun p1 m1 => ?_⟩
    have s1 := same_new (H := H) (p := p1) (o := .tup []) m1
    have e1 := upd_same (H := H) (a := p1) (o := .tup [])
    generalize upd H p1 (.tup []) = H1 at *
    refine ⟨by show 0 ≤ sizeLine; decide, fun p2 m2 => ?_⟩
    have s2 := same_new (H := H1) (p := p2) (o := .lst []) m2
    have e2 := upd_same (H := H1) (a := p2) (o := .lst [])
    generalize upd H1 p2 (.lst []) = H2 at *
    refine fun p3 m3 => ?_
    have s3 := same_new (H := H2) (p := p3) (o := .dK []) m3
    have e3 := upd_same (H := H2) (a := p3) (o := .dK [])
    generalize upd H2 p3 (.dK []) = H3 at *
    refine ⟨by show 2 ≤ sizeLine; decide, fun p4 m4 => ?_⟩
    have s4 := same_new (H := H3) (p := p4) (o := .tup [.int 0, .int 1]) m4
    have e4 := upd_same (H := H3) (a := p4) (o := .tup [.int 0, .int 1])
    generalize upd H3 p4 (.tup [.int 0, .int 1]) = H4 at *
    refine ⟨by show 1 ≤ sizeLine; decide, fun p5 m5 => ?_⟩
    have s5 := same_new (H := H4) (p := p5) (o := .lst [.str "0-1"]) m5
    have e5 := upd_same (H := H4) (a := p5) (o := .lst [.str "0-1"])
    generalize upd H4 p5 (.lst [.str "0-1"]) = H5 at *
    refine ⟨by show 1 ≤ sizeLine; decide, fun p6 m6 => ?_⟩
    have s6 := same_new (H := H5) (p := p6) (o := .tup [.str "0-1"]) m6
    have e6 := upd_same (H := H5) (a := p6) (o := .tup [.str "0-1"])
    generalize upd H5 p6 (.tup [.str "0-1"]) = H6 at *
    refine ⟨by show 12 ≤ sizeLine; decide, fun p7 m7 => ?_⟩
    have s7 := same_new (H := H6) (p := p7) (o := .lst [.non, .bl true, .bl false, .int 0, .int (-1), .int ((10 : Int) ^ (29 : Int).toNat), .ref p1, .ref p2, .ref p3, .ref p4, .ref p5, .ref p6]) m7
    have e7 := upd_same (H := H6) (a := p7) (o := .lst [.non, .bl true, .bl false, .int 0, .int (-1), .int ((10 : Int) ^ (29 : Int).toNat), .ref p1, .ref p2, .ref p3, .ref p4, .ref p5, .ref p6])
    generalize upd H6 p7 (.lst [.non, .bl true, .bl false, .int 0, .int (-1), .int ((10 : Int) ^ (29 : Int).toNat), .ref p1, .ref p2, .ref p3, .ref p4, .ref p5, .ref p6]) = H7 at *
    have hs : Same H H7 := s1.trans ( s2.trans ( s3.trans ( s4.trans ( s5.trans ( s6.trans (s7))))))
    have o1 : OffP d c H7 p1 = some _ := offP_get (dk.off m1) (s7 _ _ (s6 _ _ (s5 _ _ (s4 _ _ (s3 _ _ (s2 _ _ (e1)))))))
    have o2 : OffP d c H7 p2 = some _ := offP_get (dk.off (s1.free m2)) (s7 _ _ (s6 _ _ (s5 _ _ (s4 _ _ (s3 _ _ (e2))))))
    have o3 : OffP d c H7 p3 = some _ := offP_get (dk.off (s1.free (s2.free m3))) (s7 _ _ (s6 _ _ (s5 _ _ (s4 _ _ (e3)))))
    have o4 : OffP d c H7 p4 = some _ := offP_get (dk.off (s1.free (s2.free (s3.free m4)))) (s7 _ _ (s6 _ _ (s5 _ _ (e4))))
    have o5 : OffP d c H7 p5 = some _ := offP_get (dk.off (s1.free (s2.free (s3.free (s4.free m5))))) (s7 _ _ (s6 _ _ (e5)))
    have o6 : OffP d c H7 p6 = some _ := offP_get (dk.off (s1.free (s2.free (s3.free (s4.free (s5.free m6)))))) (s7 _ _ (e6))
    have oL := ((((((dk.kept s1).kept s2).kept s3).kept s4).kept s5).kept s6).off m7
    have all : DvAll K (OffP d c H7) [.non, .bl true, .bl false, .int 0, .int (-1), .int ((10 : Int) ^ (29 : Int).toNat), .ref p1, .ref p2, .ref p3, .ref p4, .ref p5, .ref p6] oddD := .cons (.non) (.cons (.bl _) (.cons (.bl _) (.cons (.int _) (.cons (.int _) (.cons (.int _) (.cons (.tup o1 (.nil)) (.cons (.lst o2 (.nil)) (.cons (.dic o3 .nil) (.cons (.tup o4 (.cons (.int _) (.cons (.int _) (.nil)))) (.cons (.lst o5 (.cons (.str _) (.nil))) (.cons (.tup o6 (.cons (.str _) (.nil))) (.nil))))))))))))
    generalize ([.non, .bl true, .bl false, .int 0, .int (-1), .int ((10 : Int) ^ (29 : Int).toNat), .ref p1, .ref p2, .ref p3, .ref p4, .ref p5, .ref p6] : List V) = items at *
    have len : items.length = 12 := all.length
    refine ⟨.ref p7, rfl, .ref d, rfl, d, c, n, 12, rfl, dk.kept hs, n0, by omega, by decide, by decide, fun Hd r kp dk2 r0 r1 => ?_⟩
    obtain ⟨j, rfl⟩ : ∃ j : Nat, r = j := ⟨r.toNat, by omega⟩
    have hj : j < items.length := by omega
    have ej : items[j]? = some items[j] := List.getElem?_eq_getElem hj
    obtain ⟨dd, ed, hdv⟩ := all.get ej
    refine ⟨p7, items, j, items[j], rfl, rfl, SqL.of (kp.keep oL e7), atI_nat ej, ?_⟩
    exact q _ _ dd ((Kp.same hs).trans kp) dk2 (List.mem_of_getElem? ed) (dv_same (offP_kp kp) hdv)

/-! ### the texts of the law -/
def th1 : List Str := ["", " ", "none", "none none", "None", "0-1 none", "0-0", "0-00", "01-2", "0-1-2", "-1-2", "1--2", "2-1"]
def th2 : List Str := ["0-1000000000000", "0-1000000000001", "0-01000000000000", "0-1  2-3", " 0-1", "0-1 ", "0-1\n"]
def th3 : List Str := ["0-1 0-1", "0-2 0-1", "1-1 0-5", "0", "0-", "-", "0-1 2-3 3", "0 - 1", "+0-1", "0-1_0"]
def GoodT (y : Str) : Prop := low128 y ∧ y.length ≤ 950
theorem th_ok : ∀ y ∈ th1 ++ th2 ++ th3 ++ [("0-1,2-3" : Str)], GoodT y := by
  have key : ∀ y ∈ th1 ++ th2 ++ th3 ++ [("0-1,2-3" : Str)], (∀ c ∈ TL.tl y, c < 128) ∧ y.length ≤ 950 := by decide +kernel
  exact key
theorem low_num {i : Int} (h : 0 ≤ i) : low128 (numS i) := fun c hc => by
  rw [tl_numS h] at hc
  have := TL.numL_digits i.toNat c hc
  omega
theorem low_row {ps : List (Int × Int)} (h : Vld0 ps) : low128 (rowT ps) := by
  unfold rowT
  split
  · have key : ∀ c ∈ TL.tl ("none" : Str), c < 128 := by decide +kernel
    exact key
  · refine low_join fun y hy => ?_
    obtain ⟨q, hq, rfl⟩ := List.mem_map.mp hy
    have b := h q hq
    intro c hc
    rw [tl_ivT] at hc
    rcases List.mem_append.mp hc with hc | hc
    · exact low_num b.1.1 c hc
    rcases List.mem_append.mp hc with hc | hc
    · rw [List.mem_singleton.mp hc]
      decide
    · exact low_num (i := q.2) (by omega) c hc
theorem sm_text {y : Str} (h : GoodT y) : Sm 1000 3 (.str y) :=
  ⟨rfl, List.all_eq_true.mpr fun c hc => decide_eq_true (Nat.lt_trans (h.1 c hc) (by decide)), Nat.le_trans h.2 (by decide), Nat.zero_le _⟩
def fineD (d : PyData) : Bool := d.showable && (d.leavesShort 40 && (decide (d.weight ≤ 1000) && (decide (d.depth ≤ 3) && !strB d)))
theorem odd_fine : oddD.all fineD = true := by decide +kernel
theorem odd_ok {d : PyData} (h : d ∈ oddD) : Sm 1000 3 d ∧ strB d = false := by
  have a := List.all_eq_true.mp odd_fine d h
  unfold fineD at a
  rw [Bool.and_eq_true, Bool.and_eq_true, Bool.and_eq_true, Bool.and_eq_true, decide_eq_true_iff, decide_eq_true_iff, Bool.not_eq_true'] at a
  exact ⟨⟨a.1, a.2.1, a.2.2.1, a.2.2.2.1⟩, a.2.2.2.2⟩
structure Th51 (K : PySem.W.Frag) (H : Hp) (v : V) : Prop where
  ex : ∃ dd, Dv K H v dd ∧ Sm 1000 3 dd ∧ ∀ x, dd = .str x → GoodT x
theorem runW_len : ∀ (W : List Str) (i : Nat) (acc ps : List (Int × Int)), runW W i acc = .inr ps → ps.length = acc.length + W.length
  | [], _, acc, ps, h => by
    cases h
    rfl
  | w :: ws, i, acc, ps, h => by
    unfold runW at h
    cases hs : stepW (TL.tl w) acc with
    | none =>
      rw [hs] at h
      cases h
    | some q =>
      rw [hs] at h
      have := runW_len ws (i + 1) (acc ++ [q]) ps h
      rw [List.length_append] at this
      have p1 : [q].length = 1 := rfl
      rw [List.length_cons]
      omega
theorem outT_len {x : Str} (g : GoodT x) {ps : List (Int × Int)} (h : outT x = .inr ps) : ps.length ≤ 951 := by
  unfold outT at h
  split at h
  · cases h
    exact Nat.zero_le _
  · have := runW_len _ _ _ _ h
    have w := (words_ok g.1 g.2).1
    rw [this]
    show 0 + _ ≤ 951
    omega
theorem ResAt.same {H H' : Hp} (s : Same H H') {r : V} {o : Option (Nat ⊕ List (Int × Int))} (h : ResAt H r o) : ResAt H' r o := by
  match o, h with
  | none, ⟨t, e, et⟩ => exact ⟨t, e, s _ _ et⟩
  | some (.inl k), ⟨t, e, et⟩ => exact ⟨t, e, s _ _ et⟩
  | some (.inr ps), ⟨t, us, e, et, iv⟩ => exact ⟨t, us, e, s _ _ et, iv.same s⟩
theorem same_call {H : Hp} {r1 r2 : V} {o : Option (Nat ⊕ List (Int × Int))} {Q : VK} {E : XK} (h1 : ResAt H r1 o) (h2 : ResAt H r2 o) (few : ∀ ps, o = some (.inr ps) → ps.length < 1000) (q : ∀ H', Same H H' → Q (.bl true) H') : sp_law_same [r1, r2] H Q E := by
  match o, h1, h2, few with
  | none, ⟨t, e, et⟩, ⟨t2, e2, et2⟩, _ =>
    subst e e2
    exact .inr ⟨t, t2, .non, "BadText", rfl, et, et2, .inl rfl, q⟩
  | some (.inl k), ⟨t, e, et⟩, ⟨t2, e2, et2⟩, _ =>
    subst e e2
    exact .inr ⟨t, t2, .int (k : Nat), "BadText", rfl, et, et2, .inr ⟨_, rfl⟩, q⟩
  | some (.inr ps), ⟨t, us, e, et, iv⟩, ⟨t2, us2, e2, et2, iv2⟩, few =>
    subst e e2
    exact .inl ⟨t, t2, us, us2, ps, rfl, et, et2, iv, iv2, few ps rfl, q⟩
def sp_law (K : PySem.W.Frag) : Sp := fun vs H Q _ => ∃ (a : Addr) (ns : List Int), vs = [.ref a] ∧ SqL K H a (ns.map V.int) ∧ ns.length ≤ 63 ∧ ∀ H', Q (.bl true) H'
theorem ok_law (T : Tx K mg f_is_number f_is_position f_is_tuple_of f_is_interval f_parse_number f_parse_interval f_parse_intervals f_law_deck f_law_draw f_law_same f_law_small f_law_moved f_law_text f_law_odd f_law_bent f_law_number f_law_due f_law_told f_law f_BadText_init X_BadText X_SpanError X_BadInterval d_is_number d_is_position d_is_tuple_of d_is_interval d_parse_number d_parse_interval d_parse_intervals d_law_deck d_law_draw d_law_same d_law_small d_law_moved d_law_text d_law_odd d_law_bent d_law_number d_law_due d_law_told d_law d_BadText_init t_LAST_POSITION) (hM : ∃ mm, base.Ns sysModules mm) : FnG P w K mg base 8 f_law d_law ["_law_script"] (sp_law K) := by
  refine FnG.of T.F_law sc_law (fun {vs H Q} h => ?_) (fun cdv A outer s H vs Q hr hq h => ?_)
  · obtain ⟨a, ns, rfl, _⟩ := h
    rfl
  · obtain ⟨a, ns, rfl, hS, hlen, q⟩ := h
    refine ⟨_, (pss_cons (ps_set (i := 1) sc_law.nd rfl (Or.inl rfl) (pe_call (ok_law_deck T) (hr.mono (by decide)) (by rfl) T.g_law_deck T.F_law_deck.kp T.b_law_deck .nil pass0 (pa_cons (pv 0) pa_nil)))
      (pss_cons (ps_set (i := 2) sc_law.nd rfl (Or.inl rfl) (pe_ix ix_list (pe_lst (pa_cons pe_int (pa_cons pe_int (pa_cons (pe_op op_sub (pe_op op_pow pe_int pe_int) pe_int) pa_nil)))) (pe_call (ok_law_draw T) (hr.mono (by decide)) (by rfl) T.g_law_draw T.F_law_draw.kp T.b_law_draw .nil pass0 (pa_cons (pv 1) (pa_cons pe_int pa_nil))) (fun _ _ => rfl)))
      (pss_cons (ps_set (i := 3) sc_law.nd rfl (Or.inl rfl) (pe_call (ok_law_text T) (hr.mono (by decide)) (by rfl) T.g_law_text T.F_law_text.kp T.b_law_text .nil pass0 (pa_cons (pe_call (ok_law_moved T) (hr.mono (by decide)) (by rfl) T.g_law_moved T.F_law_moved.kp T.b_law_moved .nil pass0 (pa_cons (pe_call (ok_law_small T) (hr.mono (by decide)) (by rfl) T.g_law_small T.F_law_small.kp T.b_law_small .nil pass0 (pa_cons (pv 1) (pa_cons pe_int (pa_cons pe_int pa_nil)))) (pa_cons (pv 2) pa_nil))) pa_nil)))
      (pss_cons (ps_set (i := 4) sc_law.nd rfl (Or.inl rfl) (pe_lst (pa_cons pe_str (pa_cons pe_str (pa_cons pe_str (pa_cons pe_str (pa_cons pe_str (pa_cons pe_str (pa_cons pe_str (pa_cons pe_str (pa_cons pe_str (pa_cons pe_str (pa_cons pe_str (pa_cons pe_str (pa_cons pe_str pa_nil)))))))))))))))
      (pss_cons (ps_set (i := 4) sc_law.nd rfl (Or.inl rfl) (pe_op op_cat (pv 4) (pe_lst (pa_cons pe_str (pa_cons pe_str (pa_cons pe_str (pa_cons pe_str (pa_cons pe_str (pa_cons pe_str (pa_cons pe_str pa_nil))))))))))
      (pss_cons (ps_set (i := 4) sc_law.nd rfl (Or.inl rfl) (pe_op op_cat (pv 4) (pe_lst (pa_cons pe_str (pa_cons pe_str (pa_cons pe_str (pa_cons pe_str (pa_cons pe_str (pa_cons pe_str (pa_cons pe_str (pa_cons pe_str (pa_cons pe_str (pa_cons pe_str pa_nil)))))))))))))
      (pss_cons (ps_expr (pe_bm PySem.F.plainAttrs_list PySem.F.slot_list_append PySem.F.type_list_append mt_append (pv 4) (pa_cons pe_str pa_nil)))
      (pss_cons (ps_for PassesOwn.never rfl (pi_range1 (by rfl) T.z_range (pa_cons pe_int pa_nil)) (pg_name (i := 5) sc_law.nd rfl (Or.inl rfl))
      (pss_one (ps_expr (pe_bm PySem.F.plainAttrs_list PySem.F.slot_list_append PySem.F.type_list_append mt_append (pv 4) (pa_cons (pe_call (ok_law_bent T) (hr.mono (by decide)) (by rfl) T.g_law_bent T.F_law_bent.kp T.b_law_bent .nil pass0 (pa_cons (pv 1) (pa_cons (pv 3) pa_nil))) pa_nil)))))
      (pss_cons (ps_for PassesOwn.never rfl (pi_list (pe_op op_cat (pv 4) (pe_lst (pa_cons (pv 3) (pa_cons (pe_call (ok_law_bent T) (hr.mono (by decide)) (by rfl) T.g_law_bent T.F_law_bent.kp T.b_law_bent .nil pass0 (pa_cons (pv 1) (pa_cons (pe_call (ok_law_bent T) (hr.mono (by decide)) (by rfl) T.g_law_bent T.F_law_bent.kp T.b_law_bent .nil pass0 (pa_cons (pv 1) (pa_cons (pv 3) pa_nil))) pa_nil))) (pa_cons (pe_call (ok_law_odd T) (hr.mono (by decide)) (by rfl) T.g_law_odd T.F_law_odd.kp T.b_law_odd .nil pass0 (pa_cons (pv 1) pa_nil)) (pa_cons pe_non (pa_cons (pe_tup (pa_cons (pe_tup (pa_cons pe_int (pa_cons pe_int pa_nil))) pa_nil)) pa_nil)))))))) (pg_name (i := 6) sc_law.nd rfl (Or.inl rfl))
      (pss_cons (ps_set (i := 7) sc_law.nd rfl (Or.inl rfl) (pe_callB (call_reprV hM hq hr.units) (by rfl) T.z_repr (by decide +kernel) (pa_cons (pv 6) pa_nil)))
      (pss_one (ps_if (PW.pt (pw_or (pt_not (pt_val (pe_call (ok_law_same T) (hr.mono (by decide)) (by rfl) T.g_law_same T.F_law_same.kp T.b_law_same .nil pass0 (pa_cons (pe_call (ok_law_told T) (hr.mono (by decide)) (by rfl) T.g_law_told T.F_law_told.kp T.b_law_told .nil pass0 (pa_cons (pv 6) pa_nil)) (pa_cons (pe_call (ok_law_due T) (hr.mono (by decide)) (by rfl) T.g_law_due T.F_law_due.kp T.b_law_due .nil pass0 (pa_cons (pv 6) pa_nil)) pa_nil))))) (pw_or1 (pt_cmpR op_ne (pe_callB (call_reprV hM hq hr.units) (by rfl) T.z_repr (by decide +kernel) (pa_cons (pv 6) pa_nil)) (pv 7) (nomark _)))))
      (pss_one (ps_ret pe_bl))
      pss_nil))))
      (pss_one (ps_ret pe_bl))))))))))), ?_⟩
    have sz : sizeLine = 16777216 := by decide
    refine ⟨.ref a, rfl, a, ns, rfl, hS, hlen, fun H1 d c s1 nd nc dk0 => ?_⟩
    refine ⟨10, 12, rfl, rfl, ⟨by decide, by decide, by decide⟩, _, _, rfl, rfl, by show 3 ≤ sizeLine; decide, fun bl nbl => ?_⟩
    have obl := dk0.off nbl
    have s2 := same_new (o := .lst [V.int 0, .int 8, .int ((10 : Int) ^ (12 : Int).toNat - 12)]) nbl
    have ebl := upd_same (H := H1) (a := bl) (o := .lst [V.int 0, .int 8, .int ((10 : Int) ^ (12 : Int).toNat - 12)])
    generalize upd H1 bl (.lst [V.int 0, .int 8, .int ((10 : Int) ^ (12 : Int).toNat - 12)]) = H2 at *
    have dk2 := dk0.kept s2
    refine ⟨.ref d, rfl, d, c, 0, 3, rfl, dk2, by decide, by decide, by decide, by decide, fun H3 r3 k3 dk3 r30 r31 => ?_⟩
    obtain ⟨by_, eby, b0, b1⟩ : ∃ b : Int, atI [V.int 0, .int 8, .int ((10 : Int) ^ (12 : Int).toNat - 12)] r3 = some (.int b) ∧ 0 ≤ b ∧ b ≤ 999999999988 := by
      have e12 : (10 : Int) ^ (12 : Int).toNat - 12 = 999999999988 := by decide +kernel
      rw [e12]
      obtain ⟨m, rfl⟩ : ∃ m : Nat, r3 = (m : Int) := ⟨r3.toNat, by omega⟩
      match m, (by omega : m < 3) with
      | 0, _ => exact ⟨0, rfl, by decide, by decide⟩
      | 1, _ => exact ⟨8, rfl, by decide, by decide⟩
      | 2, _ => exact ⟨999999999988, rfl, by decide, by decide⟩
      | m + 3, h => omega
    refine ⟨bl, _, r3, .int by_, rfl, rfl, SqL.of (k3.keep obl ebl), eby, ?_⟩
    refine ⟨.ref d, rfl, d, c, 0 + 1, 8, 12, rfl, dk3, by decide, by decide, by decide, by decide, by decide, by decide, fun H4 t us ps m4 k4 dk4 m40 m41 et iv sml fw => ?_⟩
    refine ⟨.int by_, rfl, t, by_, us, ps, rfl, et, iv, by omega, fun H5 p ws s5 ep ivp => ?_⟩
    have lp := ivp.length
    have okp : Vld0 (ps.map (mvI by_)) := fun q hq => by
      obtain ⟨z, hz, rfl⟩ := List.mem_map.mp hq
      have := sml.ok z hz
      show (0 ≤ z.1 + by_ ∧ z.1 + by_ ≤ z.2 + by_) ∧ z.2 + by_ ≤ 1000000000000
      omega
    refine ⟨p, ws, _, rfl, ep, ivp, okp, by rw [List.length_map]; omega, fun H6 s6 => ?_⟩
    have dk6 := dk4.kept (s5.trans s6)
    have lx := rowT_len okp
    rw [List.length_map] at lx
    have lowx : low128 (rowT (ps.map (mvI by_))) := low_row okp
    obtain ⟨x, ex⟩ : ∃ x, rowT (ps.map (mvI by_)) = x := ⟨_, rfl⟩
    rw [ex] at lowx lx ⊢
    have len : x.length ≤ 228 := by omega
    -- the texts
    refine ⟨by show 13 ≤ sizeLine; decide, fun a1 na1 => ?_⟩
    have t1 := same_new (o := .lst [V.str "", .str " ", .str "none", .str "none none", .str "None", .str "0-1 none", .str "0-0", .str "0-00", .str "01-2", .str "0-1-2", .str "-1-2", .str "1--2", .str "2-1"]) na1
    have f1 := upd_same (H := H6) (a := a1) (o := .lst [V.str "", .str " ", .str "none", .str "none none", .str "None", .str "0-1 none", .str "0-0", .str "0-00", .str "01-2", .str "0-1-2", .str "-1-2", .str "1--2", .str "2-1"])
    generalize upd H6 a1 (.lst [V.str "", .str " ", .str "none", .str "none none", .str "None", .str "0-1 none", .str "0-0", .str "0-00", .str "01-2", .str "0-1-2", .str "-1-2", .str "1--2", .str "2-1"]) = G1 at *
    replace f1 : G1 a1 = some (.lst (th1.map V.str)) := f1
    refine ⟨.ref a1, rfl, by show 7 ≤ sizeLine; decide, fun a2 na2 => ?_⟩
    have t2 := same_new (o := .lst [V.str "0-1000000000000", .str "0-1000000000001", .str "0-01000000000000", .str "0-1  2-3", .str " 0-1", .str "0-1 ", .str "0-1\n"]) na2
    have f2 := upd_same (H := G1) (a := a2) (o := .lst [V.str "0-1000000000000", .str "0-1000000000001", .str "0-01000000000000", .str "0-1  2-3", .str " 0-1", .str "0-1 ", .str "0-1\n"])
    generalize upd G1 a2 (.lst [V.str "0-1000000000000", .str "0-1000000000001", .str "0-01000000000000", .str "0-1  2-3", .str " 0-1", .str "0-1 ", .str "0-1\n"]) = G2 at *
    replace f2 : G2 a2 = some (.lst (th2.map V.str)) := f2
    refine ⟨a1, a2, _, _, rfl, rfl, t2 _ _ f1, f2, by show 13 + 7 ≤ sizeLine; decide, fun a3 na3 => ?_⟩
    have t3 := same_new (o := .lst (th1.map V.str ++ th2.map V.str)) na3
    have f3 := upd_same (H := G2) (a := a3) (o := .lst (th1.map V.str ++ th2.map V.str))
    generalize upd G2 a3 (.lst (th1.map V.str ++ th2.map V.str)) = G3 at *
    refine ⟨.ref a3, rfl, by show 10 ≤ sizeLine; decide, fun a4 na4 => ?_⟩
    have t4 := same_new (o := .lst [V.str "0-1 0-1", .str "0-2 0-1", .str "1-1 0-5", .str "0", .str "0-", .str "-", .str "0-1 2-3 3", .str "0 - 1", .str "+0-1", .str "0-1_0"]) na4
    have f4 := upd_same (H := G3) (a := a4) (o := .lst [V.str "0-1 0-1", .str "0-2 0-1", .str "1-1 0-5", .str "0", .str "0-", .str "-", .str "0-1 2-3 3", .str "0 - 1", .str "+0-1", .str "0-1_0"])
    generalize upd G3 a4 (.lst [V.str "0-1 0-1", .str "0-2 0-1", .str "1-1 0-5", .str "0", .str "0-", .str "-", .str "0-1 2-3 3", .str "0 - 1", .str "+0-1", .str "0-1_0"]) = G4 at *
    replace f4 : G4 a4 = some (.lst (th3.map V.str)) := f4
    refine ⟨a3, a4, _, _, rfl, rfl, t4 _ _ f3, f4, by show 20 + 10 ≤ sizeLine; decide, fun l nl => ?_⟩
    have t14 := t1.trans (t2.trans (t3.trans t4))
    have offL := (dk6.kept t14).off nl
    have t5 := same_new (o := .lst (th1.map V.str ++ th2.map V.str ++ th3.map V.str)) nl
    have f5 := upd_same (H := G4) (a := l) (o := .lst (th1.map V.str ++ th2.map V.str ++ th3.map V.str))
    generalize upd G4 l (.lst (th1.map V.str ++ th2.map V.str ++ th3.map V.str)) = G5 at *
    have dk5' := (dk6.kept t14).kept t5
    refine ⟨.ref l, rfl, .inl ⟨rfl, _, SqL.of f5⟩, l, _, .str "0-1,2-3", rfl, rfl, f5, by show 30 < sizeLine; decide, ?_⟩
    have f6 : upd G5 l (.lst (th1.map V.str ++ th2.map V.str ++ th3.map V.str ++ [V.str "0-1,2-3"])) l = some (.lst ((th1 ++ th2 ++ th3 ++ [("0-1,2-3" : Str)]).map V.str)) := by
      rw [upd_same, List.map_append, List.map_append, List.map_append]
      rfl
    have dkU : Dk (upd G5 l (.lst (th1.map V.str ++ th2.map V.str ++ th3.map V.str ++ [V.str "0-1,2-3"]))) d c m4 := dk5'.upd offL
    generalize upd G5 l (.lst (th1.map V.str ++ th2.map V.str ++ th3.map V.str ++ [V.str "0-1,2-3"])) = G6 at *
    refine ⟨20, rfl, by decide, by decide, for_range (D := ⟨_, _, fun _ _ => True, fun _ _ => True⟩) (n := 20) (fun i σ H' => (∃ m : Int, Dk H' d c m ∧ 0 ≤ m ∧ m ≤ 20 + 6 * i) ∧ (∃ ts : List Str, H' l = some (.lst (ts.map V.str)) ∧ (∀ y ∈ ts, GoodT y) ∧ ts.length = 31 + i) ∧ ∃ y5 y6 y7, σ = [some (.ref a), some (.ref d), some (.int by_), some (.str x), some (.ref l), y5, y6, y7])
      ⟨⟨m4, dkU, by omega, by omega⟩, ⟨_, f6, th_ok, rfl⟩, _, _, _, rfl⟩ ?_ ?_⟩
    · rintro i σ E0 hi ⟨⟨m, de0, m0, m1⟩, ⟨ts, el, oks, lts⟩, y5, y6, y7, rfl⟩
      refine ⟨.ref l, rfl, .inl ⟨rfl, _, SqL.of el⟩, .ref d, rfl, .str x, rfl, d, c, m, x, rfl, de0, m0, by omega, lowx, by omega, fun E1 y m' ke de1 e0 e1 loy ley => ?_⟩
      have el1 := ke.keep offL el
      refine ⟨l, _, .str y, rfl, rfl, el1, few_line (by rw [List.length_map]; omega), ⟨m', de1.upd offL, by omega, by omega⟩, ⟨ts ++ [y], ?_, fun z hz => ?_, by rw [List.length_append, lts]; rfl⟩, _, _, _, rfl⟩
      · rw [upd_same, List.map_append]
        rfl
      · rcases List.mem_append.mp hz with hz | hz
        · exact oks z hz
        · rw [List.mem_singleton.mp hz]
          exact ⟨loy, by omega⟩
    rintro σ F0 ⟨⟨m, df0, m0, m1⟩, ⟨ts, el, oks, lts⟩, y5, y6, y7, rfl⟩
    refine ⟨.ref l, rfl, .str x, rfl, .ref d, rfl, .ref d, rfl, .str x, rfl, d, c, m, x, rfl, df0, m0, by omega, lowx, by omega, fun F1 y1 m1' kf1 df1 e10 e11 lo1 le1 => ?_⟩
    refine ⟨d, c, m1', y1, rfl, df1, by omega, by omega, lo1, by omega, fun F2 y2 m2' kf2 df2 e20 e21 lo2 le2 => ?_⟩
    refine ⟨.ref d, rfl, d, c, m2', rfl, df2, by omega, by omega, fun F3 vo od kf3 df3 mem dv => ?_⟩
    have el3 := kf3.keep offL (kf2.keep offL (kf1.keep offL el))
    refine ⟨by show 2 ≤ sizeLine; decide, fun p1 n1' => ?_⟩
    have u1 := same_new (o := .tup [V.int 0, .int 1]) n1'
    have g1 := upd_same (H := F3) (a := p1) (o := .tup [V.int 0, .int 1])
    generalize upd F3 p1 (.tup [V.int 0, .int 1]) = F4 at *
    refine ⟨by show 1 ≤ sizeLine; decide, fun p2 n2' => ?_⟩
    have u2 := same_new (o := .tup [V.ref p1]) n2'
    have g2 := upd_same (H := F4) (a := p2) (o := .tup [V.ref p1])
    generalize upd F4 p2 (.tup [V.ref p1]) = F5 at *
    refine ⟨by show 5 ≤ sizeLine; decide, fun p3 n3' => ?_⟩
    have u3 := same_new (o := .lst [V.str x, .str y2, vo, .non, .ref p2]) n3'
    have g3 := upd_same (H := F5) (a := p3) (o := .lst [V.str x, .str y2, vo, .non, .ref p2])
    generalize upd F5 p3 (.lst [V.str x, .str y2, vo, .non, .ref p2]) = F6 at *
    have u13 := u1.trans (u2.trans u3)
    refine ⟨l, p3, _, _, rfl, rfl, u13 _ _ el3, g3, by rw [List.length_map]; show _ + 5 ≤ _; omega, fun gl ngl => ?_⟩
    have u4 := same_new (o := .lst (ts.map V.str ++ [V.str x, .str y2, vo, .non, .ref p2])) ngl
    have egl := upd_same (H := F6) (a := gl) (o := .lst (ts.map V.str ++ [V.str x, .str y2, vo, .non, .ref p2]))
    generalize upd F6 gl (.lst (ts.map V.str ++ [V.str x, .str y2, vo, .non, .ref p2])) = F7 at *
    have u14 := u13.trans u4
    have things : ∀ v ∈ ts.map V.str ++ [V.str x, .str y2, vo, .non, .ref p2], Th51 K F7 v := by
      intro v hv
      have txt : ∀ z : Str, GoodT z → Th51 K F7 (.str z) := fun z gz => ⟨.str z, .str z, sm_text gz, fun w e => by
        cases e
        exact gz⟩
      rcases List.mem_append.mp hv with hv | hv
      · obtain ⟨z, hz, rfl⟩ := List.mem_map.mp hv
        exact txt z (oks z hz)
      · simp only [List.mem_cons, List.not_mem_nil, or_false] at hv
        rcases hv with rfl | rfl | rfl | rfl | rfl
        · exact txt _ ⟨lowx, by omega⟩
        · exact txt _ ⟨lo2, by omega⟩
        · obtain ⟨sm, nb⟩ := odd_ok mem
          refine ⟨od, dv_same u14 (dv_same offP_sub dv), sm, fun w e => ?_⟩
          rw [e] at nb
          cases nb
        · exact ⟨.none, .non, Sm.none.mono (by decide) (by decide), fun w e => nomatch e⟩
        · refine ⟨.tuple [.tuple [.int 0, .int 1]], .tup ((u3.trans u4) _ _ g2) (.cons (.tup ((u2.trans (u3.trans u4)) _ _ g1) (.cons (.int _) (.cons (.int _) .nil))) .nil), ⟨rfl, by decide +kernel, by decide +kernel, by decide +kernel⟩, fun w e => nomatch e⟩
    refine ⟨gl, rfl, ⟨_, SqL.of egl⟩, for_list (D := ⟨_, _, fun _ _ => True, fun _ _ => True⟩) (K := K) (a := gl) (xs := ts.map V.str ++ [V.str x, .str y2, vo, .non, .ref p2]) (fun j σ H' => Same F7 H' ∧ ∃ y5 y6 y7, σ = [some (.ref a), some (.ref d), some (.int by_), some (.str x), some (.ref l), y5, y6, y7])
      ⟨Same.refl _, _, _, _, rfl⟩ (fun j σ H' hj h => SqL.of (h.1 _ _ egl)) ?_ ?_⟩
    · rintro j v σ L0 hx ⟨sm0, y5, y6, y7, rfl⟩
      obtain ⟨dd, dv0, smd, okx⟩ := (things v (List.mem_of_getElem? hx)).ex
      have dv1 := dv_same sm0 dv0
      refine ⟨v, rfl, v, dd, _, _, rfl, dv1, smd, by decide, by decide, ?_⟩
      refine ⟨v, rfl, v, dd, rfl, dv1, fun w e => okx w e, fun L1 q1 w1 h1 => ?_⟩
      refine ⟨v, rfl, v, dd, rfl, dv_same w1 dv1, fun w e => okx w e, fun L2' q2 w2 h2 => ?_⟩
      refine same_call (h1.same w2) h2 (fun ps e => ?_) (fun L3 w3 => ⟨_, rfl, iteF ?_⟩)
      · cases dd with
        | str z =>
          have e' : outT z = .inr ps := Option.some.inj e
          have := outT_len (okx z rfl) e'
          omega
        | _ => cases e
      · have w13 := w1.trans (w2.trans w3)
        refine ⟨v, rfl, v, dd, _, _, rfl, dv_same w13 dv1, smd, by decide, by decide, .str dd.shown, rfl, rfl, _, rfl, iteNS rfl ?_⟩
        exact ⟨sm0.trans w13, _, _, _, rfl⟩
    rintro σ L0 _
    exact q L0

end
theorem all_mk {l : PySem.W.OpenLaw} {w : World} {K : PySem.W.Frag} {h : Heap} {mg : Str → Option Value} {fa f1 f2 f3 f4 f5 f6 f7 f8 f9 f10 f11 f12 f13 f14 f15 f16 f17 f18 f19 f20 X_BadText X_SpanError X_BadInterval : Addr} (X : K.In h) (G : h.Ns mainGlobals mg) (hfa : mg "law" = some (.ref fa))
    {od1 an1 od2 an2 od3 an3 od4 an4 od5 an5 od6 an6 od7 an7 od8 an8 od9 an9 od10 an10 od11 an11 od12 an12 od13 an13 od14 an14 od15 an15 od16 an16 od17 an17 od18 an18 od19 an19 od20 an20 : Option Addr} {sl1 sl2 sl3 sl4 sl5 sl6 sl7 sl8 sl9 sl10 sl11 sl12 sl13 sl14 sl15 sl16 sl17 sl18 sl19 sl20 : Array (Option Value)} {oc1 kV1 dc1 pm1 cd1 ct1 oc2 kV2 dc2 pm2 cd2 ct2 oc3 kV3 dc3 pm3 cd3 ct3 oc4 kV4 dc4 pm4 cd4 ct4 oc5 kV5 dc5 pm5 cd5 ct5 oc6 kV6 dc6 pm6 cd6 ct6 oc7 kV7 dc7 pm7 cd7 ct7 oc8 kV8 dc8 pm8 cd8 ct8 oc9 kV9 dc9 pm9 cd9 ct9 oc10 kV10 dc10 pm10 cd10 ct10 oc11 kV11 dc11 pm11 cd11 ct11 oc12 kV12 dc12 pm12 cd12 ct12 oc13 kV13 dc13 pm13 cd13 ct13 oc14 kV14 dc14 pm14 cd14 ct14 oc15 kV15 dc15 pm15 cd15 ct15 oc16 kV16 dc16 pm16 cd16 ct16 oc17 kV17 dc17 pm17 cd17 ct17 oc18 kV18 dc18 pm18 cd18 ct18 oc19 kV19 dc19 pm19 cd19 ct19 oc20 kV20 dc20 pm20 cd20 ct20 : Value} {tk0 : Tok}
    (a1 : PySem.W.nsIn K mainGlobals "is_number" = some (some (.ref f1))) (l1 : K.lookup f1 = some ⟨oc1, od1, .func (PySem.W.fnOf "is_number" "is_number" (defArgs s_is_number) (defBody s_is_number) (defScope s_is_number) .none kV1 dc1 pm1 an1 cd1 ct1), sl1⟩) (c1 : PySem.W.codeIn K cd1 "is_number" = true) (k1 : PySem.W.keepIn K (.ref f1) = true)
    (a2 : PySem.W.nsIn K mainGlobals "is_position" = some (some (.ref f2))) (l2 : K.lookup f2 = some ⟨oc2, od2, .func (PySem.W.fnOf "is_position" "is_position" (defArgs s_is_position) (defBody s_is_position) (defScope s_is_position) .none kV2 dc2 pm2 an2 cd2 ct2), sl2⟩) (c2 : PySem.W.codeIn K cd2 "is_position" = true) (k2 : PySem.W.keepIn K (.ref f2) = true)
    (a3 : PySem.W.nsIn K mainGlobals "is_tuple_of" = some (some (.ref f3))) (l3 : K.lookup f3 = some ⟨oc3, od3, .func (PySem.W.fnOf "is_tuple_of" "is_tuple_of" (defArgs s_is_tuple_of) (defBody s_is_tuple_of) (defScope s_is_tuple_of) .none kV3 dc3 pm3 an3 cd3 ct3), sl3⟩) (c3 : PySem.W.codeIn K cd3 "is_tuple_of" = true) (k3 : PySem.W.keepIn K (.ref f3) = true)
    (a4 : PySem.W.nsIn K mainGlobals "is_interval" = some (some (.ref f4))) (l4 : K.lookup f4 = some ⟨oc4, od4, .func (PySem.W.fnOf "is_interval" "is_interval" (defArgs s_is_interval) (defBody s_is_interval) (defScope s_is_interval) .none kV4 dc4 pm4 an4 cd4 ct4), sl4⟩) (c4 : PySem.W.codeIn K cd4 "is_interval" = true) (k4 : PySem.W.keepIn K (.ref f4) = true)
    (a5 : PySem.W.nsIn K mainGlobals "parse_number" = some (some (.ref f5))) (l5 : K.lookup f5 = some ⟨oc5, od5, .func (PySem.W.fnOf "parse_number" "parse_number" (defArgs s_parse_number) (defBody s_parse_number) (defScope s_parse_number) .none kV5 dc5 pm5 an5 cd5 ct5), sl5⟩) (c5 : PySem.W.codeIn K cd5 "parse_number" = true) (k5 : PySem.W.keepIn K (.ref f5) = true)
    (a6 : PySem.W.nsIn K mainGlobals "parse_interval" = some (some (.ref f6))) (l6 : K.lookup f6 = some ⟨oc6, od6, .func (PySem.W.fnOf "parse_interval" "parse_interval" (defArgs s_parse_interval) (defBody s_parse_interval) (defScope s_parse_interval) .none kV6 dc6 pm6 an6 cd6 ct6), sl6⟩) (c6 : PySem.W.codeIn K cd6 "parse_interval" = true) (k6 : PySem.W.keepIn K (.ref f6) = true)
    (a7 : PySem.W.nsIn K mainGlobals "parse_intervals" = some (some (.ref f7))) (l7 : K.lookup f7 = some ⟨oc7, od7, .func (PySem.W.fnOf "parse_intervals" "parse_intervals" (defArgs s_parse_intervals) (defBody s_parse_intervals) (defScope s_parse_intervals) .none kV7 dc7 pm7 an7 cd7 ct7), sl7⟩) (c7 : PySem.W.codeIn K cd7 "parse_intervals" = true) (k7 : PySem.W.keepIn K (.ref f7) = true)
    (a8 : PySem.W.nsIn K mainGlobals "_law_deck" = some (some (.ref f8))) (l8 : K.lookup f8 = some ⟨oc8, od8, .func (PySem.W.fnOf "_law_deck" "_law_deck" (defArgs s_law_deck) (defBody s_law_deck) (defScope s_law_deck) .none kV8 dc8 pm8 an8 cd8 ct8), sl8⟩) (c8 : PySem.W.codeIn K cd8 "_law_deck" = true) (k8 : PySem.W.keepIn K (.ref f8) = true)
    (a9 : PySem.W.nsIn K mainGlobals "_law_draw" = some (some (.ref f9))) (l9 : K.lookup f9 = some ⟨oc9, od9, .func (PySem.W.fnOf "_law_draw" "_law_draw" (defArgs s_law_draw) (defBody s_law_draw) (defScope s_law_draw) .none kV9 dc9 pm9 an9 cd9 ct9), sl9⟩) (c9 : PySem.W.codeIn K cd9 "_law_draw" = true) (k9 : PySem.W.keepIn K (.ref f9) = true)
    (a10 : PySem.W.nsIn K mainGlobals "_law_same" = some (some (.ref f10))) (l10 : K.lookup f10 = some ⟨oc10, od10, .func (PySem.W.fnOf "_law_same" "_law_same" (defArgs s_law_same) (defBody s_law_same) (defScope s_law_same) .none kV10 dc10 pm10 an10 cd10 ct10), sl10⟩) (c10 : PySem.W.codeIn K cd10 "_law_same" = true) (k10 : PySem.W.keepIn K (.ref f10) = true)
    (a11 : PySem.W.nsIn K mainGlobals "_law_small" = some (some (.ref f11))) (l11 : K.lookup f11 = some ⟨oc11, od11, .func (PySem.W.fnOf "_law_small" "_law_small" (defArgs s_law_small) (defBody s_law_small) (defScope s_law_small) .none kV11 dc11 pm11 an11 cd11 ct11), sl11⟩) (c11 : PySem.W.codeIn K cd11 "_law_small" = true) (k11 : PySem.W.keepIn K (.ref f11) = true)
    (a12 : PySem.W.nsIn K mainGlobals "_law_moved" = some (some (.ref f12))) (l12 : K.lookup f12 = some ⟨oc12, od12, .func (PySem.W.fnOf "_law_moved" "_law_moved" (defArgs s_law_moved) (defBody s_law_moved) (defScope s_law_moved) .none kV12 dc12 pm12 an12 cd12 ct12), sl12⟩) (c12 : PySem.W.codeIn K cd12 "_law_moved" = true) (k12 : PySem.W.keepIn K (.ref f12) = true)
    (a13 : PySem.W.nsIn K mainGlobals "_law_text" = some (some (.ref f13))) (l13 : K.lookup f13 = some ⟨oc13, od13, .func (PySem.W.fnOf "_law_text" "_law_text" (defArgs s_law_text) (defBody s_law_text) (defScope s_law_text) .none kV13 dc13 pm13 an13 cd13 ct13), sl13⟩) (c13 : PySem.W.codeIn K cd13 "_law_text" = true) (k13 : PySem.W.keepIn K (.ref f13) = true)
    (a14 : PySem.W.nsIn K mainGlobals "_law_odd" = some (some (.ref f14))) (l14 : K.lookup f14 = some ⟨oc14, od14, .func (PySem.W.fnOf "_law_odd" "_law_odd" (defArgs s_law_odd) (defBody s_law_odd) (defScope s_law_odd) .none kV14 dc14 pm14 an14 cd14 ct14), sl14⟩) (c14 : PySem.W.codeIn K cd14 "_law_odd" = true) (k14 : PySem.W.keepIn K (.ref f14) = true)
    (a15 : PySem.W.nsIn K mainGlobals "_law_bent" = some (some (.ref f15))) (l15 : K.lookup f15 = some ⟨oc15, od15, .func (PySem.W.fnOf "_law_bent" "_law_bent" (defArgs s_law_bent) (defBody s_law_bent) (defScope s_law_bent) .none kV15 dc15 pm15 an15 cd15 ct15), sl15⟩) (c15 : PySem.W.codeIn K cd15 "_law_bent" = true) (k15 : PySem.W.keepIn K (.ref f15) = true)
    (a16 : PySem.W.nsIn K mainGlobals "_law_number" = some (some (.ref f16))) (l16 : K.lookup f16 = some ⟨oc16, od16, .func (PySem.W.fnOf "_law_number" "_law_number" (defArgs s_law_number) (defBody s_law_number) (defScope s_law_number) .none kV16 dc16 pm16 an16 cd16 ct16), sl16⟩) (c16 : PySem.W.codeIn K cd16 "_law_number" = true) (k16 : PySem.W.keepIn K (.ref f16) = true)
    (a17 : PySem.W.nsIn K mainGlobals "_law_due" = some (some (.ref f17))) (l17 : K.lookup f17 = some ⟨oc17, od17, .func (PySem.W.fnOf "_law_due" "_law_due" (defArgs s_law_due) (defBody s_law_due) (defScope s_law_due) .none kV17 dc17 pm17 an17 cd17 ct17), sl17⟩) (c17 : PySem.W.codeIn K cd17 "_law_due" = true) (k17 : PySem.W.keepIn K (.ref f17) = true)
    (a18 : PySem.W.nsIn K mainGlobals "_law_told" = some (some (.ref f18))) (l18 : K.lookup f18 = some ⟨oc18, od18, .func (PySem.W.fnOf "_law_told" "_law_told" (defArgs s_law_told) (defBody s_law_told) (defScope s_law_told) .none kV18 dc18 pm18 an18 cd18 ct18), sl18⟩) (c18 : PySem.W.codeIn K cd18 "_law_told" = true) (k18 : PySem.W.keepIn K (.ref f18) = true)
    (a19 : PySem.W.nsIn K mainGlobals "law" = some (some (.ref f19))) (l19 : K.lookup f19 = some ⟨oc19, od19, .func (PySem.W.fnOf "law" "law" (defArgs s_law) (defBody s_law) (defScope s_law) .none kV19 dc19 pm19 an19 cd19 ct19), sl19⟩) (c19 : PySem.W.codeIn K cd19 "law" = true) (k19 : PySem.W.keepIn K (.ref f19) = true)
    (a20 : PySem.W.findIn K (.ref X_BadText) "__init__" = some (some (.ref f20))) (i20 : PySem.W.isFn K (.ref f20) = true) (l20 : K.lookup f20 = some ⟨oc20, od20, .func (PySem.W.fnOf "__init__" "BadText.__init__" (defArgs s_BadText_init) (defBody s_BadText_init) (defScope s_BadText_init) .none kV20 dc20 pm20 an20 cd20 ct20), sl20⟩) (c20 : PySem.W.codeIn K cd20 "BadText.__init__" = true) (k20 : PySem.W.keepIn K (.ref f20) = true)
    {nm_BadText qn_BadText : Str} {N_BadText : Addr} {bs_BadText bm_BadText sb_BadText : List Value} {sn_BadText : List Str} {ab_BadText : Bool} {co_BadText : Option Bool} {dd_BadText : Option Addr} {m0_BadText m1_BadText m2_BadText m3_BadText m5_BadText : Option Value}
    (aX_BadText : PySem.W.nsIn K mainGlobals "BadText" = some (some (.ref X_BadText))) (iX_BadText : PySem.W.isClsIn K X_BadText = true) (tX_BadText : PySem.W.typeIn K (.ref X_BadText) = some (.type "type")) (bX_BadText : PySem.W.subIn K (.ref X_BadText) (.type "BaseException") = some true) (xL_BadText : K.lookup X_BadText = some (excClassObj nm_BadText qn_BadText X_BadText N_BadText bs_BadText bm_BadText true sn_BadText sb_BadText ab_BadText co_BadText dd_BadText m0_BadText m1_BadText m2_BadText m3_BadText m5_BadText "ValueError.__new__")) (rL_BadText : PySem.HandSPX.refsVE bm_BadText = true) (sX_BadText : PySem.W.findIn K (.ref X_BadText) "__setattr__" = some (some (.builtin "object.__setattr__"))) (kX_BadText : PySem.W.keepIn K (.ref X_BadText) = true) (nX_BadText : PySem.W.findIn K (.ref X_BadText) "index" = some none) (fX_BadText : PySem.W.typeIn K (.ref f20) = some (.type "function")) (gX_BadText : PySem.W.findIn K (.ref X_BadText) "__getattribute__" = some (some (.builtin "BaseException.__getattribute__"))) (hX_BadText : PySem.W.findIn K (.ref X_BadText) "__getattr__" = some none) (dX_BadText : PySem.W.hasDictIn K X_BadText = true) (cX_BadText : PySem.W.findIn K (.ref X_BadText) "__class__" = some (some (.builtin "object.__class__"))) (eX_BadText : PySem.W.specialIn K (.builtin "object.__class__") "__get__" = some (some (.builtin "getset_descriptor.__get__"))) (uX_BadText : PySem.W.takesIn K (.builtin "object.__class__") = some true) (mX_BadText : PySem.W.mroIn K X_BadText (.type "object") = some true) (vX_BadText : PySem.W.subIn K (.ref X_BadText) (.type "ValueError") = some true) (wX_BadText : PySem.W.subIn K (.ref X_BadText) (.type "LookupError") = some false)
    (aX_SpanError : PySem.W.nsIn K mainGlobals "SpanError" = some (some (.ref X_SpanError))) (iX_SpanError : PySem.W.isClsIn K X_SpanError = true) (tX_SpanError : PySem.W.typeIn K (.ref X_SpanError) = some (.type "type")) (bX_SpanError : PySem.W.subIn K (.ref X_SpanError) (.type "BaseException") = some true)
    (aX_BadInterval : PySem.W.nsIn K mainGlobals "BadInterval" = some (some (.ref X_BadInterval))) (iX_BadInterval : PySem.W.isClsIn K X_BadInterval = true) (tX_BadInterval : PySem.W.typeIn K (.ref X_BadInterval) = some (.type "type")) (bX_BadInterval : PySem.W.subIn K (.ref X_BadInterval) (.type "BaseException") = some true)
    (sX_BadText_SpanError : PySem.W.subIn K (.ref X_BadText) (.ref X_SpanError) = some true)
    (sX_BadText_BadInterval : PySem.W.subIn K (.ref X_BadText) (.ref X_BadInterval) = some false)
    (y0 : PySem.W.nsIn K mainGlobals "LAST_POSITION" = some (some (.int 1000000000000 tk0))) (z0 : PySem.W.nsIn K mainGlobals "ValueError" = some none) (z1 : PySem.W.nsIn K mainGlobals "abs" = some none) (z2 : PySem.W.nsIn K mainGlobals "bool" = some none) (z3 : PySem.W.nsIn K mainGlobals "enumerate" = some none) (z4 : PySem.W.nsIn K mainGlobals "int" = some none) (z5 : PySem.W.nsIn K mainGlobals "isinstance" = some none) (z6 : PySem.W.nsIn K mainGlobals "len" = some none) (z7 : PySem.W.nsIn K mainGlobals "range" = some none) (z8 : PySem.W.nsIn K mainGlobals "repr" = some none) (z9 : PySem.W.nsIn K mainGlobals "set" = some none) (z10 : PySem.W.nsIn K mainGlobals "sorted" = some none) (z11 : PySem.W.nsIn K mainGlobals "str" = some none) (z12 : PySem.W.nsIn K mainGlobals "tuple" = some none) (z13 : PySem.W.nsIn K mainGlobals "zip" = some none) :
    ∃ fd : FuncData, (∀ (s : Shared) (v : Value), BindsTo s fd ⟨[v], []⟩ [("_law_script", v)]) ∧ ∀ base : Heap, K.In base → base.Ns mainGlobals mg → (∃ mm, base.Ns sysModules mm) → FnG l.prog w K mg base 8 fa fd ["_law_script"] (sp_law K) := by
  have e := hfa.symm.trans (PySem.W.mg_of X G a19)
  cases e
  have F1 := fun_mk (st := s_is_number) l1 c1 k1
  have b1 := F1.binds (ps := ["value"]) fun _ _ _ _ _ _ us hl => match us, hl with | [_], _ => rfl
  have F2 := fun_mk (st := s_is_position) l2 c2 k2
  have b2 := F2.binds (ps := ["value"]) fun _ _ _ _ _ _ us hl => match us, hl with | [_], _ => rfl
  have F3 := fun_mk (st := s_is_tuple_of) l3 c3 k3
  have b3 := F3.binds (ps := ["value", "length"]) fun _ _ _ _ _ _ us hl => match us, hl with | [_, _], _ => rfl
  have F4 := fun_mk (st := s_is_interval) l4 c4 k4
  have b4 := F4.binds (ps := ["value"]) fun _ _ _ _ _ _ us hl => match us, hl with | [_], _ => rfl
  have F5 := fun_mk (st := s_parse_number) l5 c5 k5
  have b5 := F5.binds (ps := ["text"]) fun _ _ _ _ _ _ us hl => match us, hl with | [_], _ => rfl
  have F6 := fun_mk (st := s_parse_interval) l6 c6 k6
  have b6 := F6.binds (ps := ["word"]) fun _ _ _ _ _ _ us hl => match us, hl with | [_], _ => rfl
  have F7 := fun_mk (st := s_parse_intervals) l7 c7 k7
  have b7 := F7.binds (ps := ["text"]) fun _ _ _ _ _ _ us hl => match us, hl with | [_], _ => rfl
  have F8 := fun_mk (st := s_law_deck) l8 c8 k8
  have b8 := F8.binds (ps := ["_law_script"]) fun _ _ _ _ _ _ us hl => match us, hl with | [_], _ => rfl
  have F9 := fun_mk (st := s_law_draw) l9 c9 k9
  have b9 := F9.binds (ps := ["_law_deck_here", "_law_many"]) fun _ _ _ _ _ _ us hl => match us, hl with | [_, _], _ => rfl
  have F10 := fun_mk (st := s_law_same) l10 c10 k10
  have b10 := F10.binds (ps := ["_law_found", "_law_due_here"]) fun _ _ _ _ _ _ us hl => match us, hl with | [_, _], _ => rfl
  have F11 := fun_mk (st := s_law_small) l11 c11 k11
  have b11 := F11.binds (ps := ["_law_deck_here", "_law_most", "_law_span"]) fun _ _ _ _ _ _ us hl => match us, hl with | [_, _, _], _ => rfl
  have F12 := fun_mk (st := s_law_moved) l12 c12 k12
  have b12 := F12.binds (ps := ["_law_intervals", "_law_by"]) fun _ _ _ _ _ _ us hl => match us, hl with | [_, _], _ => rfl
  have F13 := fun_mk (st := s_law_text) l13 c13 k13
  have b13 := F13.binds (ps := ["_law_intervals"]) fun _ _ _ _ _ _ us hl => match us, hl with | [_], _ => rfl
  have F14 := fun_mk (st := s_law_odd) l14 c14 k14
  have b14 := F14.binds (ps := ["_law_deck_here"]) fun _ _ _ _ _ _ us hl => match us, hl with | [_], _ => rfl
  have F15 := fun_mk (st := s_law_bent) l15 c15 k15
  have b15 := F15.binds (ps := ["_law_deck_here", "_law_text_here"]) fun _ _ _ _ _ _ us hl => match us, hl with | [_, _], _ => rfl
  have F16 := fun_mk (st := s_law_number) l16 c16 k16
  have b16 := F16.binds (ps := ["_law_part"]) fun _ _ _ _ _ _ us hl => match us, hl with | [_], _ => rfl
  have F17 := fun_mk (st := s_law_due) l17 c17 k17
  have b17 := F17.binds (ps := ["_law_text_here"]) fun _ _ _ _ _ _ us hl => match us, hl with | [_], _ => rfl
  have F18 := fun_mk (st := s_law_told) l18 c18 k18
  have b18 := F18.binds (ps := ["_law_text_here"]) fun _ _ _ _ _ _ us hl => match us, hl with | [_], _ => rfl
  have F19 := fun_mk (st := s_law) l19 c19 k19
  have b19 := F19.binds (ps := ["_law_script"]) fun _ _ _ _ _ _ us hl => match us, hl with | [_], _ => rfl
  have F20 := fun_mk (st := s_BadText_init) l20 c20 k20
  have b20 := F20.binds (ps := ["self", "index"]) fun _ _ _ _ _ _ us hl => match us, hl with | [_, _], _ => rfl
  have T : Tx K mg _ _ _ _ _ _ _ _ _ _ _ _ _ _ _ _ _ _ _ _ _ _ _ _ _ _ _ _ _ _ _ _ _ _ _ _ _ _ _ _ _ _ _ tk0 := ⟨F1, b1, PySem.W.mg_of X G a1, F2, b2, PySem.W.mg_of X G a2, F3, b3, PySem.W.mg_of X G a3, F4, b4, PySem.W.mg_of X G a4, F5, b5, PySem.W.mg_of X G a5, F6, b6, PySem.W.mg_of X G a6, F7, b7, PySem.W.mg_of X G a7, F8, b8, PySem.W.mg_of X G a8, F9, b9, PySem.W.mg_of X G a9, F10, b10, PySem.W.mg_of X G a10, F11, b11, PySem.W.mg_of X G a11, F12, b12, PySem.W.mg_of X G a12, F13, b13, PySem.W.mg_of X G a13, F14, b14, PySem.W.mg_of X G a14, F15, b15, PySem.W.mg_of X G a15, F16, b16, PySem.W.mg_of X G a16, F17, b17, PySem.W.mg_of X G a17, F18, b18, PySem.W.mg_of X G a18, F19, b19, PySem.W.mg_of X G a19, F20, b20, PySem.W.mg_of X G y0, PySem.W.mg_none_of X G z0, PySem.W.mg_none_of X G z1, PySem.W.mg_none_of X G z2, PySem.W.mg_none_of X G z3, PySem.W.mg_none_of X G z4, PySem.W.mg_none_of X G z5, PySem.W.mg_none_of X G z6, PySem.W.mg_none_of X G z7, PySem.W.mg_none_of X G z8, PySem.W.mg_none_of X G z9, PySem.W.mg_none_of X G z10, PySem.W.mg_none_of X G z11, PySem.W.mg_none_of X G z12, PySem.W.mg_none_of X G z13, ⟨PySem.W.mg_of X G aX_BadText, iX_BadText, tX_BadText, bX_BadText⟩, ⟨PySem.W.mg_of X G aX_SpanError, iX_SpanError, tX_SpanError, bX_SpanError⟩, ⟨PySem.W.mg_of X G aX_BadInterval, iX_BadInterval, tX_BadInterval, bX_BadInterval⟩, ⟨⟨⟨nm_BadText, qn_BadText, N_BadText, bs_BadText, bm_BadText, sn_BadText, sb_BadText, ab_BadText, co_BadText, dd_BadText, m0_BadText, m1_BadText, m2_BadText, m3_BadText, m5_BadText, xL_BadText, rL_BadText⟩, sX_BadText, bX_BadText, tX_BadText, kX_BadText⟩, a20, fX_BadText, nX_BadText, ⟨gX_BadText, hX_BadText, bX_BadText, dX_BadText, cX_BadText, eX_BadText, uX_BadText, mX_BadText⟩⟩, vX_BadText, wX_BadText, sX_BadText_SpanError, sX_BadText_BadInterval⟩
  exact ⟨_, fun s v => .of_eq rfl, fun base _ _ hM => ok_law T hM⟩
end L9
open PySem PySem.W PyProof.Rows
set_option maxHeartbeats 0 in
theorem PySem.Challenge.cw_fewspans_k51_texts_parsed_holds : PySem.Challenge.rw_fewspans_k51_texts_parsed.Holds := by
  w_on; o_law; k_head; (case hw => w_witness2)
  k_fill
  refine L9.quiet_walk (l := PySem.Challenge.rw_fewspans_k51_texts_parsed) (n := 63) (k := 8) (x := "_law_script") (sp := fun w => L9.sp_law _) (by decide +kernel) rfl (by decide) rfl ⟨rfl, by decide, by decide⟩ (fun w h Y => PySem.W.kIn_of Y) ?F (fun _ _ a ns hl _ hS => ⟨a, ns, rfl, hS, hl, fun _ => rfl⟩)
  case F =>
    intro w mg fa h KX G hmg
    refine' L9.all_mk KX G hmg ?a1 ?l1 ?c1 ?k1 ?a2 ?l2 ?c2 ?k2 ?a3 ?l3 ?c3 ?k3 ?a4 ?l4 ?c4 ?k4 ?a5 ?l5 ?c5 ?k5 ?a6 ?l6 ?c6 ?k6 ?a7 ?l7 ?c7 ?k7 ?a8 ?l8 ?c8 ?k8 ?a9 ?l9 ?c9 ?k9 ?a10 ?l10 ?c10 ?k10 ?a11 ?l11 ?c11 ?k11 ?a12 ?l12 ?c12 ?k12 ?a13 ?l13 ?c13 ?k13 ?a14 ?l14 ?c14 ?k14 ?a15 ?l15 ?c15 ?k15 ?a16 ?l16 ?c16 ?k16 ?a17 ?l17 ?c17 ?k17 ?a18 ?l18 ?c18 ?k18 ?a19 ?l19 ?c19 ?k19 ?a20 ?i20 ?l20 ?c20 ?k20 ?aX_BadText ?iX_BadText ?tX_BadText ?bX_BadText ?xL_BadText ?rL_BadText ?sX_BadText ?kX_BadText ?nX_BadText ?fX_BadText ?gX_BadText ?hX_BadText ?dX_BadText ?cX_BadText ?eX_BadText ?uX_BadText ?mX_BadText ?vX_BadText ?wX_BadText ?aX_SpanError ?iX_SpanError ?tX_SpanError ?bX_SpanError ?aX_BadInterval ?iX_BadInterval ?tX_BadInterval ?bX_BadInterval ?sX_BadText_SpanError ?sX_BadText_BadInterval ?y0 ?z0 ?z1 ?z2 ?z3 ?z4 ?z5 ?z6 ?z7 ?z8 ?z9 ?z10 ?z11 ?z12 ?z13
    (case aX_BadText => k_is)
    (case aX_SpanError => k_is)
    (case aX_BadInterval => k_is)
    (case a1 => k_is)
    (case l1 => k_is)
    (case c1 => k_is)
    (case k1 => k_is)
    (case a2 => k_is)
    (case l2 => k_is)
    (case c2 => k_is)
    (case k2 => k_is)
    (case a3 => k_is)
    (case l3 => k_is)
    (case c3 => k_is)
    (case k3 => k_is)
    (case a4 => k_is)
    (case l4 => k_is)
    (case c4 => k_is)
    (case k4 => k_is)
    (case a5 => k_is)
    (case l5 => k_is)
    (case c5 => k_is)
    (case k5 => k_is)
    (case a6 => k_is)
    (case l6 => k_is)
    (case c6 => k_is)
    (case k6 => k_is)
    (case a7 => k_is)
    (case l7 => k_is)
    (case c7 => k_is)
    (case k7 => k_is)
    (case a8 => k_is)
    (case l8 => k_is)
    (case c8 => k_is)
    (case k8 => k_is)
    (case a9 => k_is)
    (case l9 => k_is)
    (case c9 => k_is)
    (case k9 => k_is)
    (case a10 => k_is)
    (case l10 => k_is)
    (case c10 => k_is)
    (case k10 => k_is)
    (case a11 => k_is)
    (case l11 => k_is)
    (case c11 => k_is)
    (case k11 => k_is)
    (case a12 => k_is)
    (case l12 => k_is)
    (case c12 => k_is)
    (case k12 => k_is)
    (case a13 => k_is)
    (case l13 => k_is)
    (case c13 => k_is)
    (case k13 => k_is)
    (case a14 => k_is)
    (case l14 => k_is)
    (case c14 => k_is)
    (case k14 => k_is)
    (case a15 => k_is)
    (case l15 => k_is)
    (case c15 => k_is)
    (case k15 => k_is)
    (case a16 => k_is)
    (case l16 => k_is)
    (case c16 => k_is)
    (case k16 => k_is)
    (case a17 => k_is)
    (case l17 => k_is)
    (case c17 => k_is)
    (case k17 => k_is)
    (case a18 => k_is)
    (case l18 => k_is)
    (case c18 => k_is)
    (case k18 => k_is)
    (case a19 => k_is)
    (case l19 => k_is)
    (case c19 => k_is)
    (case k19 => k_is)
    (case a20 => k_is)
    (case i20 => k_is)
    (case l20 => k_is)
    (case c20 => k_is)
    (case k20 => k_is)
    (case iX_BadText => k_is)
    (case tX_BadText => k_is)
    (case bX_BadText => k_is)
    (case xL_BadText => k_is)
    (case rL_BadText => rfl)
    (case sX_BadText => k_is)
    (case kX_BadText => k_is)
    (case nX_BadText => k_is)
    (case fX_BadText => k_is)
    (case gX_BadText => k_is)
    (case hX_BadText => k_is)
    (case dX_BadText => k_is)
    (case cX_BadText => k_is)
    (case eX_BadText => k_is)
    (case uX_BadText => k_is)
    (case mX_BadText => k_is)
    (case vX_BadText => k_is)
    (case wX_BadText => k_is)
    (case iX_SpanError => k_is)
    (case tX_SpanError => k_is)
    (case bX_SpanError => k_is)
    (case iX_BadInterval => k_is)
    (case tX_BadInterval => k_is)
    (case bX_BadInterval => k_is)
    (case sX_BadText_SpanError => k_is)
    (case sX_BadText_BadInterval => k_is)
    (case y0 => k_is)
    (case z0 => k_is)
    (case z1 => k_is)
    (case z2 => k_is)
    (case z3 => k_is)
    (case z4 => k_is)
    (case z5 => k_is)
    (case z6 => k_is)
    (case z7 => k_is)
    (case z8 => k_is)
    (case z9 => k_is)
    (case z10 => k_is)
    (case z11 => k_is)
    (case z12 => k_is)
    (case z13 => k_is)
