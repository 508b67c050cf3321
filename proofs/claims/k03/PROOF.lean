import PyProof.Rows.All
import Wide.All
import OpenK.AllK
import Wide.FinOn
import PySem.Challenge.RW_fewspans_k03_pairs_of_intervals
import HandS.ForMost
import HandS.Wide
import HandS.IsInst
import HandS.Conv
import HandS.TupLe
set_option Elab.async false
set_option linter.all false
set_option maxRecDepth 100000
set_option maxHeartbeats 4000000
namespace L9
open PySem PySem.Spec PyProof.Rows L2
/-! ### defs that are run where no text-making of the machine is under way (repr, str of nested data ask for it) -/
abbrev Quiet (A : Around) : Prop := A.guards = some []
structure FnG (P : Program) (w : World) (K : PySem.W.Frag) (mg : Str → Option Value) (base : Heap) (k : Nat) (f : Addr) (fd : FuncData) (ps : List Str) (sp : Sp) : Prop where
  size : ∀ {vs H Q}, sp vs H Q E0 → vs.length = ps.length
  go : ∀ {A outer s H us vs Q}, Room k A → Quiet A → Env0 P w K mg base A outer s H → BindsTo s fd ⟨us, []⟩ (ps.zip us) → Vals vs us → sp vs H Q E0 →
    codeAny (model P w) A (.call (.ref f) ⟨us, []⟩) (CR CX0 outer P w H s Q E0) s
section
variable {P : Program} {w : World} {K : PySem.W.Frag} {mg : Str → Option Value} {base : Heap}
theorem FnG.of {x qual : Str} {st : Stmt} {f : Addr} {fd : FuncData} {N ps : List Str} {k : Nat} {sp : Sp} (F : Fun K x qual st f fd) (S : FnScope N ps (defScope st))
    (size : ∀ {vs H Q}, sp vs H Q E0 → vs.length = ps.length)
    (body : ∀ cdv A outer s H vs Q, Room k (A.deeper (envOfC qual (defScope st) s.heap.objs.size f cdv)) → Quiet (A.deeper (envOfC qual (defScope st) s.heap.objs.size f cdv)) → sp vs H Q E0 →
      ∃ t, PSs (cxOf CX0 P w K mg base N qual (defScope st) f cdv A outer s H E0).nox (defBody st) t ∧ t { nx := fun _ H' => Q .non H', rt := Q } (start N vs) H) :
    FnG P w K mg base (k + 1) f fd ps sp := by
  obtain ⟨oc, od, kV, doc, pm, an, cdv, ct, osl, rfl, look, code⟩ := F.ex
  constructor
  · exact size
  intro A outer s H us vs Q room quiet e0 bind rel want
  have inH : K.In s.heap := e0.mod.kin.keeps fun b o q => (e0.bs b o q).1
  have lim := e0.mod.nolimit.keeps (fun b o q => (e0.bs b o q).1)
  have kinds : ∀ y ∈ ps.zip us, (defScope st).names.lookup y.1 = some .local ∨ ((defScope st).names.lookup y.1 = some .cell ∧ ((cellsFrom (s.heap.objs.size + 1) (defScope st).names []).lookup y.1).isSome = true) := by
    rintro ⟨n, v⟩ hy
    have hn := (List.of_mem_zip hy).1
    cases S.par n hn with
    | inl q => exact Or.inl q
    | inr q => exact Or.inr ⟨q, PySem.W.cellsFrom_some _ _ _ (Or.inl q)⟩
  apply codeAny_call_function room.depth (inH _ _ look) rfl S.co S.gen rfl (PySem.W.codeRec_of inH code)
  apply bind
  apply wpAny_newFunctionEnv_cells S.kind kinds
  intro env he s1 x
  subst he
  refine And.intro (lim.keeps x.toInCall.keep) (codeAny_func ?_)
  obtain ⟨t, ht, hq⟩ := body cdv A outer s H vs Q (room.deeper _) quiet want
  have I := inv_start (CX := CX0) (E := E0) S room.hd e0 (size want) rel x
  apply wpAny_mono (ht.nox.run [] s1 (start N vs) H _ I hq)
  · intro fl s' hs
    cases fl with
    | ret u =>
      obtain ⟨v, σ', H', J, rv, q⟩ := hs
      exact Exists.intro v ⟨H', J.os, J.bare, J.base, J.hok, rv, q⟩
    | next =>
      obtain ⟨σ', H', J, q⟩ := hs
      exact Exists.intro V.non ⟨H', J.os, J.bare, J.base, J.hok, rfl, q⟩
    | brk => exact hs.elim fun _ h => h.elim fun _ h => h.2.elim
    | cont => exact hs.elim fun _ h => h.elim fun _ h => h.2.elim
  · intro e s' hs
    exact hs
end
section
variable {X : Cx} {k : Nat} {f : Addr} {fd : FuncData} {ps : List Str} {sp : Sp} {x : Str} {p pos : Pos} {e : Expr} {es : List Expr} {t : TA}
theorem pe_callG (F : FnG X.prog X.w X.K X.mg X.base k f fd ps sp) (room : Room k X.A) (quiet : Quiet X.A) (hg : Gl X x) (hm : X.mg x = some (.ref f)) (keep : PySem.W.keepIn X.K (.ref f) = true) (bind : Binds X.K fd ps [])
    (args : PA X (e :: es) t) (hdb : (x == ("__debug__" : Str)) = false := by decide) (star : starEach (e :: es) X.env = (false, eval e X.env) :: starEach es X.env := by rfl) (plain : (backTo pos (starEach es X.env)).any (·.1) = false := by rfl) :
    PE X (.Call (.Name x p) (e :: es) [] pos) (tCall sp [] E0 t) := by
  constructor
  intro pins s σ H Q I h
  apply wpAny_Call_Name_kw
  apply ld_glob I hg hm _ hdb
  apply PySem.W.callWith_K (h₀ := X.base) I.ok.mod.kin keep _ star plain
  apply thn (args.run pos pins s σ H _ I h)
  rintro us s1 ⟨vs, H1, I1, rel, q⟩
  refine And.intro I1.kIn ?_
  have q' : sp vs H1 Q E0 := by
    have z := q
    rw [List.append_nil] at z
    exact z
  have same : us.length = ps.length := rel.length.symm.trans (F.size q')
  have b := bind s1 us I1.kIn (by rw [List.append_nil]; exact same)
  rw [List.append_nil] at b
  apply wpAny_call
  apply codeAny_mono (F.go room quiet I1.env0 b rel q')
  intro r s' hr
  match r, hr with
  | .error _, hr => exact hr.elim
  | .ok (.ret u), hr => exact I1.after hr
  | .ok .next, hr => exact False.elim hr
  | .ok .brk, hr => exact False.elim hr
  | .ok .cont, hr => exact False.elim hr
end
/-! ### repr of data at any depth -/
structure Sm (n dp : Nat) (d : PyData) : Prop where
  shows : d.showable = true
  short : d.leavesShort 40 = true
  small : d.weight ≤ n
  flat : d.depth ≤ dp
theorem Sm.mono {n m dp dq : Nat} {d : PyData} (h : Sm n dp d) (h1 : n ≤ m) (h2 : dp ≤ dq) : Sm m dq d := ⟨h.shows, h.short, Nat.le_trans h.small h1, Nat.le_trans h.flat h2⟩
theorem Sm.none : Sm 0 0 .none := ⟨rfl, rfl, Nat.le_refl _, Nat.le_refl _⟩
theorem Sm.bool (b : Bool) : Sm 0 0 (.bool b) := ⟨rfl, rfl, Nat.le_refl _, Nat.le_refl _⟩
theorem log2_small {i : Int} (h : i.natAbs < 10 ^ 30) : i.natAbs.log2 < 100 := PySem.Flt.log2_lt_of (by decide) (Nat.lt_trans h (by decide))
theorem Sm.int {i : Int} (h : i.natAbs < 10 ^ 30) : Sm 100 0 (.int i) := by
  have l := log2_small h
  refine ⟨decide_eq_true (Nat.lt_trans l (by decide)), decide_eq_true ?_, ?_, Nat.le_refl _⟩
  · have q := int_text_length_le10 (a := i) (k := 30) (by decide) h
    show (Str.ofString (toString i)).length ≤ 40
    rw [PySem.ofString_length]
    exact Nat.le_trans q (by decide)
  · show (if i == 0 then 0 else i.natAbs.log2 + 1) ≤ 100
    split <;> omega
theorem smAll {n dp : Nat} : ∀ {ds : List PyData}, (∀ d ∈ ds, Sm n dp d) → PyData.showableAll ds = true ∧ PyData.leavesShortAll 40 ds = true ∧ PyData.weightAll ds ≤ ds.length * (n + 1) ∧ PyData.depthAll ds ≤ dp
  | [], _ => ⟨rfl, rfl, Nat.zero_le _, Nat.zero_le _⟩
  | d :: ds, h => by
    obtain ⟨a, b, c, e⟩ := smAll (ds := ds) fun x hx => h x (List.mem_cons_of_mem _ hx)
    have z := h d List.mem_cons_self
    refine ⟨?_, ?_, ?_, ?_⟩
    · show (d.showable && PyData.showableAll ds) = true
      rw [z.shows, a]
      rfl
    · show (d.leavesShort 40 && PyData.leavesShortAll 40 ds) = true
      rw [z.short, b]
      rfl
    · show d.weight + 1 + PyData.weightAll ds ≤ (ds.length + 1) * (n + 1)
      have := z.small
      rw [Nat.add_mul]
      omega
    · show max d.depth (PyData.depthAll ds) ≤ dp
      exact Nat.max_le.mpr ⟨z.flat, e⟩
theorem Sm.tup {n dp : Nat} {ds : List PyData} (h : ∀ d ∈ ds, Sm n dp d) : Sm (ds.length * (n + 1)) (dp + 1) (.tuple ds) :=
  let ⟨a, b, c, e⟩ := smAll h
  ⟨a, b, c, Nat.succ_le_succ e⟩
theorem Sm.lst {n dp : Nat} {ds : List PyData} (h : ∀ d ∈ ds, Sm n dp d) : Sm (ds.length * (n + 1)) (dp + 1) (.list ds) :=
  let ⟨a, b, c, e⟩ := smAll h
  ⟨a, b, c, Nat.succ_le_succ e⟩
theorem Sm.fits {n dp : Nat} {d : PyData} (h : Sm n dp d) (hn : n ≤ 300000) : d.shown.length ≤ sizeLine := by
  have q := PyData.shown_le 40 (by decide) d h.short
  have := h.small
  have e : sizeLine = 16777216 := by decide
  rw [e]
  omega
/-- data, or a dict of ints with int and text keys -/
def keyD : Key → PyData
  | .inl i => .int i
  | .inr x => .str x
def dicD (kvs : List (Key × Int)) : PyData := .dict (kvs.map fun p => (keyD p.1, .int p.2))
inductive Dv (K : PySem.W.Frag) (H : Hp) : V → PyData → Prop
  | data {v : V} {d : PyData} (h : Dp K H v d) : Dv K H v d
  | dict {a : Addr} {kvs : List (Key × Int)} (h : H a = some (.dK (kvs.map fun p => (p.1, V.int p.2)))) : Dv K H (.ref a) (dicD kvs)
theorem Dp.noDict {K : PySem.W.Frag} {H : Hp} {v : V} {d : PyData} (h : Dp K H v d) : d.hasDict = false := by
  refine Dp.rec (K := K) (H := H) (motive_1 := fun v d _ => d.hasDict = false) (motive_2 := fun vs ds _ => PyData.hasDictAll ds = false) ?_ ?_ ?_ ?_ ?_ ?_ ?_ ?_ h
  all_goals intros
  all_goals simp_all [PyData.hasDict, PyData.hasDictAll]
section
variable {X : Cx}
theorem call_reprD (quiet : Quiet X.A) (units : X.A.units + 64 < cLine) : CallR X (.builtin "repr")
    (fun xs H Q => ∃ v d n dp, xs = [v] ∧ Dp X.K H v d ∧ Sm n dp d ∧ n ≤ 300000 ∧ dp ≤ 60 ∧ Q (.str d.shown) H) := by
  intro pins s σ H xs us Q I r h
  obtain ⟨v, d, n, dp, rfl, hd, sm, hn, hdp, q⟩ := h
  obtain ⟨u, rfl, ru⟩ := vals1 r
  have fits := sm.fits hn
  have flat := sm.flat
  obtain ⟨as, rd⟩ := Dp.reads I d v u hd ru
  cases hd with
  | non =>
    cases ru
    exact PySem.P.repr_of_none ⟨.str _, H, I.tok _, ⟨_, rfl⟩, q⟩
  | bl b =>
    cases ru
    exact PySem.P.repr_of_bool ⟨.str _, H, I.tok _, ⟨_, rfl⟩, q⟩
  | int i =>
    obtain ⟨t, rfl⟩ := ru
    exact PySem.P.repr_of_int (of_decide_eq_true sm.shows) ⟨.str _, H, I.tok _, ⟨_, rfl⟩, q⟩
  | str x =>
    obtain ⟨t, rfl⟩ := ru
    exact PySem.P.repr_of_str ⟨.str _, H, I.tok _, ⟨_, rfl⟩, q⟩ fits
  | lst h1 h2 =>
    cases ru
    exact repr_of_reads' rd sm.shows (PyData.noDict_hsm (Dp.noDict (Dp.lst h1 h2))) quiet (by omega) (fun _ _ e => e) (fun h' t tk more => ⟨.str _, H, I.kept more, ⟨_, rfl⟩, q⟩) fits
  | tup h1 h2 =>
    cases ru
    exact repr_of_reads' rd sm.shows (PyData.noDict_hsm (Dp.noDict (Dp.tup h1 h2))) quiet (by omega) (fun _ _ e => e) (fun h' t tk more => ⟨.str _, H, I.kept more, ⟨_, rfl⟩, q⟩) fits
end
/-! ### the end of a law row whose def is of the quiet kind -/
theorem quiet_law {P : Program} {w : World} {K : PySem.W.Frag} {mg mb : Str → Option Value} {k : Nat} {fa a : Addr} {fd : FuncData} {x : Str} {sp : Sp} {s₁ : Shared} {vs : List Value} {ns : List Int}
    (inK : K.In s₁.heap) (glob : s₁.heap.Ns mainGlobals mg) (blt : s₁.heap.Ns builtinsNs mb) (bltIs : ∀ y : Str, y ≠ "__name__" → mb y = bootBuiltins y) (lim : s₁.heap.NoLimit) (gens : s₁.gens = #[])
    (here : s₁.heap.get? a = some { cls := .type "list", data := .seq vs.toArray }) (whole : IntsAre vs ns) (few : ns.length ≤ sizeLine) (room : Room k callerA)
    (F : ∀ base : Heap, K.In base → base.Ns mainGlobals mg → FnG P w K mg base k fa fd [x] sp) (bind : ∀ (s : Shared) (u : Value), BindsTo s fd ⟨[u], []⟩ [(x, u)])
    (want : ∀ H : Hp, Only H → SqL K H a (ns.map V.int) → sp [.ref a] H (fun v _ => v = .bl true) E0) :
    codeAny (model P w) callerA (.call (.ref fa) ⟨[.ref a], []⟩) (fun r s' => r = .ok (.ret (.bool true)) ∧ OldK s₁.heap s'.heap ∧ s'.os = s₁.os ∧ AllBare s'.gens) s₁ := by
  have rel := vals_ints whole
  -- H: the script alone, or nothing
  have main : ∀ H : Hp, Only H → SqL K H a (ns.map V.int) → HOk P w H s₁.heap → (∀ b u, H b = some u → b = a ∧ K.lookup b = none) →
      codeAny (model P w) callerA (.call (.ref fa) ⟨[.ref a], []⟩) (fun r s' => r = .ok (.ret (.bool true)) ∧ OldK s₁.heap s'.heap ∧ s'.os = s₁.os ∧ AllBare s'.gens) s₁ := by
    intro H only sq ok apart
    have untold : ∀ {b o}, s₁.heap.get? b = some o → (b = a → False) → H b = none := by
      intro b o e ne
      cases q : H b with
      | none => rfl
      | some u => exact (ne (apart b u q).1).elim
    have ns1 : ∀ {b m}, s₁.heap.Ns b m → (hidT s₁.heap H).Ns b m := by
      rintro b m ⟨o, es, ep, e, d, r⟩
      refine ⟨o, es, ep, hidT_get e (untold e fun z => ?_), d, r⟩
      subst z
      rw [here] at e
      cases e
      cases d
    have kIn : K.In (hidT s₁.heap H) := by
      intro b o e
      apply hidT_get (inK b o e)
      cases q : H b with
      | none => rfl
      | some u =>
        have z := (apart b u q).2
        rw [e] at z
        cases z
    have lim1 : (hidT s₁.heap H).NoLimit := by
      obtain ⟨mc, h1, h2⟩ := lim
      exact ⟨mc, ns1 h1, h2⟩
    have e0 : Env0 P w K mg (hidT s₁.heap H) callerA [] s₁ H := {
      frames := rfl, mod := ⟨kIn, ns1 glob, ⟨mb, ns1 blt, bltIs⟩, lim1⟩, bs := fun _ _ e => of_hidT e, bsz := Nat.le_of_eq (hidT_size _ _), funs := True.intro, frf := (fun _ hb => nomatch hb), hok := ok, bare := .of_eq gens }
    apply codeAny_mono ((F _ kIn (ns1 glob)).go (us := [.ref a]) (vs := [.ref a]) room rfl e0 (bind s₁ _) (.cons rfl .nil) (want H only sq))
    intro r s' hr
    match r, hr with
    | .error _, hr => exact hr.elim
    | .ok .next, hr => exact False.elim hr
    | .ok .brk, hr => exact False.elim hr
    | .ok .cont, hr => exact False.elim hr
    | .ok (.ret u), hr =>
      obtain ⟨v, H', os, bare, un, ok', rv, q⟩ := hr
      cases (show v = V.bl true from q)
      cases (show u = Value.bool true from rv)
      refine ⟨rfl, OldK.of_keep ?_, os, bare⟩
      intro b o e
      cases only b with
      | inl n => exact un.keep b o e n (fun z => nomatch z) (fun z => nomatch z)
      | inr n =>
        obtain ⟨ob, xs, z⟩ := n
        have e1 := (ok b _ z).1
        have e2 := (ok' b _ (un.frzs b ob _ z)).1
        rw [e] at e1
        cases e1
        exact e2
  have small : (ns.map V.int).length ≤ sizeLine := by rw [List.length_map]; exact few
  cases known : K.lookup a with
  | some o =>
    have e := inK a o known
    rw [here] at e
    cases e
    have sz : vs.length ≤ sizeLine := by rw [← rel.length]; exact small
    exact main (fun _ => none) (fun _ => .inl rfl) (.inr ⟨_, vs.toArray, _, known, rfl, rfl, rfl, by simpa using sz, by simpa using rel⟩) (fun _ _ z => nomatch z) (fun _ _ z => nomatch z)
  | none =>
    have at1 : ∀ {b u}, (if b = a then some (HO.frz { cls := .type "list", data := .seq vs.toArray } (.lst (ns.map V.int))) else none) = some u → b = a := by
      intro b u z
      by_cases hb : b = a
      · exact hb
      · rw [if_neg hb] at z
        cases z
    refine main (fun b => if b = a then some (.frz { cls := .type "list", data := .seq vs.toArray } (.lst (ns.map V.int))) else none) (fun b => ?_) (.inl (.inr ⟨{ cls := .type "list", data := .seq vs.toArray }, if_pos rfl⟩)) (fun b u z => ?_) (fun b u z => ?_)
    · by_cases hb : b = a
      · exact .inr ⟨_, _, if_pos hb⟩
      · exact .inl (if_neg hb)
    · have hb := at1 z
      subst hb
      have z2 := (if_pos rfl).symm.trans z
      cases z2
      exact ⟨here, small, vs, _, rel, here⟩
    · have hb := at1 z
      subst hb
      exact ⟨rfl, known⟩
theorem quiet_walk {l : PySem.W.OpenLaw} {n k : Nat} {q : Program} {loose : List Str} {XP : (Str → Option Value) → Heap → Prop} {YP : World → Heap → Prop} {d : DefRec} {K : Params → PySem.W.Frag} {sp : World → Sp} {x : Str}
    (most : l.most = some n) (n2 : n ≤ sizeLine) (defaults : d.params.defaults = []) (room : Room k callerA) (hY : ∀ (w : World) (h : Heap), YP w h → (K w.params).In h)
    (F : ∀ (w : World) (mg : Str → Option Value) (fa : Addr) (h : Heap), (K w.params).In h → h.Ns mainGlobals mg → mg d.name = some (.ref fa) →
      ∃ fd : FuncData, (∀ (s : Shared) (u : Value), BindsTo s fd ⟨[u], []⟩ [(x, u)]) ∧ ∀ base : Heap, (K w.params).In base → base.Ns mainGlobals mg → FnG l.prog w (K w.params) mg base k fa fd [x] (sp w))
    (want : ∀ (w : World) (H : Hp) (a : Addr) (ns : List Int), ns.length ≤ n → Only H → SqL (K w.params) H a (ns.map V.int) → sp w [.ref a] H (fun v _ => v = .bl true) E0) :
    PySem.W.WalkO q loose XP YP l.row.toRowW d [] (fun f vs => PySem.call f vs) := by
  apply Att.attach_call most defaults
  intro w s₀ s₁ mg mb fa o pm cd doc a vs ns G Y ho hd hcd hmg hobj hints hlen hg
  obtain ⟨fd, hb, hF⟩ := F w mg fa _ (hY w _ Y) G.T.g hmg
  exact quiet_law (hY w _ Y) G.T.g G.T.b G.T.builtins G.T.nolimit hg hobj hints (Nat.le_trans hlen n2) room hF hb fun H o1 s1 => want w H a ns hlen o1 s1

def topS (i : Nat) : Stmt := PySem.Challenge.pw_fewspans_k03_pairs_of_intervals.main.body.getD i (.Pass ⟨0, 0, 0, 0⟩)
abbrev s_contains : Stmt := topS 1
abbrev N_contains : List Str := ["outer", "inner"]
theorem sc_contains : FnScope N_contains ["outer", "inner"] (defScope s_contains) := ⟨rfl, rfl, rfl, by decide +kernel, rfl, by decide +kernel, by decide +kernel⟩
abbrev s_intersect : Stmt := topS 2
abbrev N_intersect : List Str := ["first", "second", "low", "high"]
theorem sc_intersect : FnScope N_intersect ["first", "second"] (defScope s_intersect) := ⟨rfl, rfl, rfl, by decide +kernel, rfl, by decide +kernel, by decide +kernel⟩
abbrev s_hull_of : Stmt := topS 3
abbrev N_hull_of : List Str := ["first", "second"]
theorem sc_hull_of : FnScope N_hull_of ["first", "second"] (defScope s_hull_of) := ⟨rfl, rfl, rfl, by decide +kernel, rfl, by decide +kernel, by decide +kernel⟩
abbrev s_law_deck : Stmt := topS 5
abbrev N_law_deck : List Str := ["_law_script", "_law_cell"]
theorem sc_law_deck : FnScope N_law_deck ["_law_script"] (defScope s_law_deck) := ⟨rfl, rfl, rfl, by decide +kernel, rfl, by decide +kernel, by decide +kernel⟩
abbrev s_law_draw : Stmt := topS 6
abbrev N_law_draw : List Str := ["_law_deck_here", "_law_limit", "_law_cell", "_law_index"]
theorem sc_law_draw : FnScope N_law_draw ["_law_deck_here", "_law_limit"] (defScope s_law_draw) := ⟨rfl, rfl, rfl, by decide +kernel, rfl, by decide +kernel, by decide +kernel⟩
abbrev s_law_same : Stmt := topS 7
abbrev N_law_same : List Str := ["_law_value", "_law_due_here"]
theorem sc_law_same : FnScope N_law_same ["_law_value", "_law_due_here"] (defScope s_law_same) := ⟨rfl, rfl, rfl, by decide +kernel, rfl, by decide +kernel, by decide +kernel⟩
abbrev s_law_interval : Stmt := topS 8
abbrev N_law_interval : List Str := ["_law_deck_here", "_law_limit", "_law_low"]
theorem sc_law_interval : FnScope N_law_interval ["_law_deck_here", "_law_limit"] (defScope s_law_interval) := ⟨rfl, rfl, rfl, by decide +kernel, rfl, by decide +kernel, by decide +kernel⟩
abbrev s_law_stretched : Stmt := topS 9
abbrev N_law_stretched : List Str := ["_law_row", "_law_factor", "_law_shift", "_law_low", "_law_high"]
theorem sc_law_stretched : FnScope N_law_stretched ["_law_row", "_law_factor", "_law_shift"] (defScope s_law_stretched) := ⟨rfl, rfl, rfl, by decide +kernel, rfl, by decide +kernel, by decide +kernel⟩
abbrev s_law_positions : Stmt := topS 10
abbrev N_law_positions : List Str := ["_law_interval_here"]
theorem sc_law_positions : FnScope N_law_positions ["_law_interval_here"] (defScope s_law_positions) := ⟨rfl, rfl, rfl, by decide +kernel, rfl, by decide +kernel, by decide +kernel⟩
abbrev s_law_due : Stmt := topS 11
abbrev N_law_due : List Str := ["_law_first", "_law_second", "_law_one", "_law_other", "_law_common", "_law_together", "_law_spot", "_law_meet", "_law_inside"]
theorem sc_law_due : FnScope N_law_due ["_law_first", "_law_second"] (defScope s_law_due) := ⟨rfl, rfl, rfl, by decide +kernel, rfl, by decide +kernel, by decide +kernel⟩
abbrev s_law : Stmt := topS 12
abbrev N_law : List Str := ["_law_script", "_law_deck_here", "_law_turn", "_law_limit", "_law_first", "_law_second", "_law_due_here", "_law_one", "_law_other", "_law_found", "_law_factor", "_law_shift", "_law_meet", "_law_far"]
theorem sc_law : FnScope N_law ["_law_script"] (defScope s_law) := ⟨rfl, rfl, rfl, by decide +kernel, rfl, by decide +kernel, by decide +kernel⟩
/-! ### the deck and its draws -/
structure Dk (H : Hp) (d c : Addr) (n : Int) : Prop where
  top : H d = some (.lst [.ref c, .int n])
  cells : ∃ xs : List Int, H c = some (.lst (xs.map V.int)) ∧ xs.length ≤ 63 ∧ ∀ x ∈ xs, 0 ≤ x
theorem Dk.ne {H : Hp} {d c : Addr} {n : Int} (h : Dk H d c n) : c ≠ d := by
  obtain ⟨xs, e, _⟩ := h.cells
  intro z
  subst z
  have q := e.symm.trans h.top
  cases xs with
  | nil => cases q
  | cons x r => cases q
/-- nothing but the deck has changed -/
def Kp (d c : Addr) (H H' : Hp) : Prop := ∀ b o, b ≠ d → b ≠ c → H b = some o → H' b = some o
theorem Kp.trans {d c : Addr} {H H1 H2 : Hp} (h1 : Kp d c H H1) (h2 : Kp d c H1 H2) : Kp d c H H2 := fun b o n1 n2 e => h2 b o n1 n2 (h1 b o n1 n2 e)
theorem Kp.same {d c : Addr} {H H1 : Hp} (h : Same H H1) : Kp d c H H1 := fun b o _ _ e => h b o e
def sp_law_deck (K : PySem.W.Frag) : Sp := fun vs H Q _ => ∃ (a : Addr) (ns : List Int), vs = [.ref a] ∧ SqL K H a (ns.map V.int) ∧ ns.length ≤ 63 ∧
  ∀ H' d c, Same H H' → H d = none → H c = none → Dk H' d c 0 → Q (.ref d) H'
def sp_law_draw : Sp := fun vs H Q _ => ∃ (d c : Addr) (n lim : Int), vs = [.ref d, .int lim] ∧ Dk H d c n ∧ 0 ≤ n ∧ n < 1000000 ∧ 0 < lim ∧ lim < 2 ^ 63 ∧
  ∀ H' r, Kp d c H H' → Dk H' d c (n + 1) → 0 ≤ r → r < lim → Q (.int r) H'
theorem cut63 {xs : List V} (h : xs.length ≤ 63) : cutV xs none (some 63) = xs := by
  unfold cutV
  rw [HT.sIx_none, show HT.sIx xs.length xs.length (some 63) = min 63 xs.length from HT.sIx_nat xs.length xs.length 63]
  rw [Nat.min_eq_right h]
  simp
theorem same_new {H : Hp} {p : Addr} {o : HO} (h : H p = none) : Same H (upd H p o) := fun b x e => by
  rw [upd_ne (ne_of_none e h)]
  exact e
section
structure Tx (K : PySem.W.Frag) (mg : Str → Option Value) (f_contains f_intersect f_hull_of f_law_deck f_law_draw f_law_same f_law_interval f_law_stretched f_law_positions f_law_due f_law : Addr) (d_contains d_intersect d_hull_of d_law_deck d_law_draw d_law_same d_law_interval d_law_stretched d_law_positions d_law_due d_law : FuncData) : Prop where
  F_contains : Fun K "contains" "contains" s_contains f_contains d_contains
  b_contains : Binds K d_contains ["outer", "inner"] []
  g_contains : mg "contains" = some (.ref f_contains)
  F_intersect : Fun K "intersect" "intersect" s_intersect f_intersect d_intersect
  b_intersect : Binds K d_intersect ["first", "second"] []
  g_intersect : mg "intersect" = some (.ref f_intersect)
  F_hull_of : Fun K "hull_of" "hull_of" s_hull_of f_hull_of d_hull_of
  b_hull_of : Binds K d_hull_of ["first", "second"] []
  g_hull_of : mg "hull_of" = some (.ref f_hull_of)
  F_law_deck : Fun K "_law_deck" "_law_deck" s_law_deck f_law_deck d_law_deck
  b_law_deck : Binds K d_law_deck ["_law_script"] []
  g_law_deck : mg "_law_deck" = some (.ref f_law_deck)
  F_law_draw : Fun K "_law_draw" "_law_draw" s_law_draw f_law_draw d_law_draw
  b_law_draw : Binds K d_law_draw ["_law_deck_here", "_law_limit"] []
  g_law_draw : mg "_law_draw" = some (.ref f_law_draw)
  F_law_same : Fun K "_law_same" "_law_same" s_law_same f_law_same d_law_same
  b_law_same : Binds K d_law_same ["_law_value", "_law_due_here"] []
  g_law_same : mg "_law_same" = some (.ref f_law_same)
  F_law_interval : Fun K "_law_interval" "_law_interval" s_law_interval f_law_interval d_law_interval
  b_law_interval : Binds K d_law_interval ["_law_deck_here", "_law_limit"] []
  g_law_interval : mg "_law_interval" = some (.ref f_law_interval)
  F_law_stretched : Fun K "_law_stretched" "_law_stretched" s_law_stretched f_law_stretched d_law_stretched
  b_law_stretched : Binds K d_law_stretched ["_law_row", "_law_factor", "_law_shift"] []
  g_law_stretched : mg "_law_stretched" = some (.ref f_law_stretched)
  F_law_positions : Fun K "_law_positions" "_law_positions" s_law_positions f_law_positions d_law_positions
  b_law_positions : Binds K d_law_positions ["_law_interval_here"] []
  g_law_positions : mg "_law_positions" = some (.ref f_law_positions)
  F_law_due : Fun K "_law_due" "_law_due" s_law_due f_law_due d_law_due
  b_law_due : Binds K d_law_due ["_law_first", "_law_second"] []
  g_law_due : mg "_law_due" = some (.ref f_law_due)
  F_law : Fun K "law" "law" s_law f_law d_law
  b_law : Binds K d_law ["_law_script"] []
  g_law : mg "law" = some (.ref f_law)
  z_abs : mg "abs" = none
  z_len : mg "len" = none
  z_list : mg "list" = none
  z_max : mg "max" = none
  z_min : mg "min" = none
  z_range : mg "range" = none
  z_repr : mg "repr" = none
  z_tuple : mg "tuple" = none
variable {P : Program} {w : World} {K : PySem.W.Frag} {mg : Str → Option Value} {base : Heap} {f_contains f_intersect f_hull_of f_law_deck f_law_draw f_law_same f_law_interval f_law_stretched f_law_positions f_law_due f_law : Addr} {d_contains d_intersect d_hull_of d_law_deck d_law_draw d_law_same d_law_interval d_law_stretched d_law_positions d_law_due d_law : FuncData}
abbrev TxA (K : PySem.W.Frag) (mg : Str → Option Value) (f_contains f_intersect f_hull_of f_law_deck f_law_draw f_law_same f_law_interval f_law_stretched f_law_positions f_law_due f_law : Addr) (d_contains d_intersect d_hull_of d_law_deck d_law_draw d_law_same d_law_interval d_law_stretched d_law_positions d_law_due d_law : FuncData) := Tx K mg f_contains f_intersect f_hull_of f_law_deck f_law_draw f_law_same f_law_interval f_law_stretched f_law_positions f_law_due f_law d_contains d_intersect d_hull_of d_law_deck d_law_draw d_law_same d_law_interval d_law_stretched d_law_positions d_law_due d_law 
theorem ok_law_deck (T : Tx K mg f_contains f_intersect f_hull_of f_law_deck f_law_draw f_law_same f_law_interval f_law_stretched f_law_positions f_law_due f_law d_contains d_intersect d_hull_of d_law_deck d_law_draw d_law_same d_law_interval d_law_stretched d_law_positions d_law_due d_law) : FnOk P w K mg base CX0 1 f_law_deck d_law_deck ["_law_script"] (sp_law_deck K) := by
  refine T.F_law_deck.ok sc_law_deck (fun vs H Q E h => ?_) (fun cdv A outer s H vs Q E hr h => ?_)
  · obtain ⟨a, ns, rfl, _⟩ := h
    rfl
  · obtain ⟨a, ns, rfl, hS, hlen, q⟩ := h
    refine ⟨_, (pss_one (ps_ret (pe_lst (pa_cons (pe_lc (own := [("_law_cell", 1)]) (g := (gName 1)) (tt := tYes) (by rfl) sc_law_deck.nd (pi_list (pe_slice sl_list (pv 0) po_none (po_some pe_int))) (blkOk_by (own := [("_law_cell", 1)]) (N := N_law_deck) (sc := defScope s_law_deck) (by decide +kernel)) (fun _ _ _ _ _ => (pg_name (i := 1) sc_law_deck.nd rfl (Or.inl rfl))) (fun _ _ _ _ _ => pts_nil) (fun _ _ _ _ _ => (pe_callB call_abs (by rfl) T.z_abs (by decide +kernel) (pa_cons (pv 1) pa_nil)))) (pa_cons pe_int pa_nil))))), ?_⟩
    refine ⟨.ref a, rfl, 63, rfl, a, ns.map V.int, rfl, hS, fun p np => ?_⟩
    rw [cut63 (by rw [List.length_map]; exact hlen)]
    have s1 : Same H (upd H p (.lst (ns.map V.int))) := same_new np
    refine ⟨p, rfl, ⟨_, SqL.of upd_same⟩, fun D nD => ?_⟩
    have nDp : D ≠ p := fun e => by
      rw [e, upd_same] at nD
      cases nD
    have nD0 : H D = none := by
      rw [upd_ne nDp] at nD
      exact nD
    refine lc_list (K := K) (a := p) (xs := ns.map V.int) (fun i H' => Same (upd H p (.lst (ns.map V.int))) H' ∧ H' D = some (.lst (((ns.take i).map fun (x : Int) => if x < 0 then -x else x).map V.int))) ⟨same_new nD, upd_same⟩ (fun i H' _ h => h.1.seq (SqL.of upd_same)) ?_ ?_
    · rintro i x H' hi ⟨sm, eD⟩
      rw [List.getElem?_map] at hi
      obtain ⟨n, en, rfl⟩ := Option.map_eq_some_iff.mp hi
      refine ⟨rfl, .int n, rfl, n, rfl, _, eD, ?_, ?_, ?_⟩
      · have : (List.take i ns).length ≤ ns.length := List.length_take_le' i ns
        simp only [List.length_map]
        exact small1000 (by omega)
      · intro b o e
        have nb : b ≠ D := ne_of_none e nD
        rw [upd_ne nb]
        exact sm b o e
      · rw [upd_same, List.take_add_one, en]
        simp
    · rintro H' ⟨sm, eD⟩
      rw [List.length_map, List.take_length] at eD
      refine ⟨by show 2 ≤ sizeLine; decide, fun d nd => ?_⟩
      have nDd : D ≠ d := ne_of_none eD nd
      have nd0 : H d = none := s1.free (sm.free nd)
      refine q _ d D (s1.trans (sm.trans (same_new nd))) nd0 nD0 ⟨upd_same, _, by rw [upd_ne nDd]; exact eD, by rw [List.length_map]; exact hlen, fun x hx => ?_⟩
      obtain ⟨y, _, rfl⟩ := List.mem_map.mp hx
      split <;> omega
theorem pow5 {x : Int} (h0 : 0 ≤ x) (h1 : x < 2 ^ 63) : x.natAbs < 2 ^ 64 := by omega
theorem ok_law_draw (T : Tx K mg f_contains f_intersect f_hull_of f_law_deck f_law_draw f_law_same f_law_interval f_law_stretched f_law_positions f_law_due f_law d_contains d_intersect d_hull_of d_law_deck d_law_draw d_law_same d_law_interval d_law_stretched d_law_positions d_law_due d_law) : FnOk P w K mg base CX0 1 f_law_draw d_law_draw ["_law_deck_here", "_law_limit"] sp_law_draw := by
  refine T.F_law_draw.ok sc_law_draw (fun vs H Q E h => ?_) (fun cdv A outer s H vs Q E hr h => ?_)
  · obtain ⟨d, c, n, lim, rfl, _⟩ := h
    rfl
  · obtain ⟨d, c, n, lim, rfl, dk, n0, n1, l0, l1, q⟩ := h
    obtain ⟨xs, ec, xl, xp⟩ := dk.cells
    have ncd := dk.ne
    have ed := dk.top
    have l64 : lim.natAbs < 2 ^ 64 := by omega
    have n64 : (n + 1).natAbs < 2 ^ 64 := by omega
    refine ⟨_, (pss_cons (ps_asg (pe_op op_add (pe_ix ix_list (pv 0) pe_int (fun _ _ => rfl)) pe_int) (pg_sub (pv 0) pe_int set_list))
      (pss_cons (ps_asg (pe_tup (pa_cons pe_int (pa_cons (pe_un un_neg pe_int) pa_nil))) (pg_tup rfl (pgs_cons (pg_name (i := 2) sc_law_draw.nd rfl (Or.inl rfl)) (pgs_cons (pg_name (i := 3) sc_law_draw.nd rfl (Or.inl rfl)) pgs_nil))))
      (pss_cons (ps_if (pt_cmpR op_gt (pe_callB call_len_seq (by rfl) T.z_len PySem.boot_len (pa_cons (pe_ix ix_list (pv 0) pe_int (fun _ _ => rfl)) pa_nil)) pe_int (nomark _))
      (pss_cons (ps_set (i := 3) sc_law_draw.nd rfl (Or.inl rfl) (pe_op op_mod (pe_ix ix_list (pv 0) pe_int (fun _ _ => rfl)) (pe_callB call_len_seq (by rfl) T.z_len PySem.boot_len (pa_cons (pe_ix ix_list (pv 0) pe_int (fun _ _ => rfl)) pa_nil))))
      (pss_one (ps_set (i := 2) sc_law_draw.nd rfl (Or.inl rfl) (pe_ix ix_list (pe_ix ix_list (pv 0) pe_int (fun _ _ => rfl)) (pv 3) (fun _ _ => rfl)))))
      pss_nil)
      (pss_cons (ps_if (pt_cmpR op_ge (pv 2) (pe_op op_pow pe_int pe_int) (nomark _))
      (pss_cons (ps_asg (pe_op op_fdivW (pv 2) (pv 1)) (pg_sub (pe_ix ix_list (pv 0) pe_int (fun _ _ => rfl)) (pv 3) set_list))
      (pss_one (ps_ret (pe_op op_mod (pv 2) (pv 1)))))
      pss_nil)
      (pss_one (ps_ret (pe_op op_mod (pe_op op_fdivW (pe_op op_mod (pe_op op_pow (pe_op op_add (pe_op op_add (pe_op op_mod (pv 2) pe_int) (pe_op op_mulW pe_int (pe_ix ix_list (pv 0) pe_int (fun _ _ => rfl)))) pe_int) pe_int) pe_int) pe_int) (pv 1)))))))), ?_⟩
    -- deck[1] = deck[1] + 1
    refine ⟨.ref d, rfl, d, _, 1, .int n, rfl, rfl, SqL.of ed, rfl, n, 1, rfl, rfl, .ref d, rfl, d, _, 1, 1, rfl, rfl, ed, rfl, ?_⟩
    -- cell, index = (0, -1)
    refine ⟨1, rfl, by show 2 ≤ sizeLine; decide, fun t nt => ?_⟩
    generalize eH : upd (upd H d (.lst ([V.ref c, V.int n].set 1 (.int (n + 1))))) t (.tup [.int 0, .int (-1)]) = H1
    have nt' : t ≠ d := fun e => by
      rw [e, upd_same] at nt
      cases nt
    have nt0 : H t = none := by
      rw [upd_ne nt'] at nt
      exact nt
    have ntc : c ≠ t := ne_of_none ec nt0
    have ed1 : H1 d = some (.lst [.ref c, .int (n + 1)]) := by
      rw [← eH, upd_ne nt'.symm, upd_same]
      rfl
    have ec1 : H1 c = some (.lst (xs.map V.int)) := by
      rw [← eH, upd_ne ntc, upd_ne ncd]
      exact ec
    have kp1 : Kp d c H H1 := fun b o nb _ e => by
      rw [← eH, upd_ne (ne_of_none e nt0), upd_ne nb]
      exact e
    have et1 : H1 t = some (.tup [.int 0, .int (-1)]) := by
      rw [← eH, upd_same]
    have dk1 : Dk H1 d c (n + 1) := ⟨ed1, xs, ec1, xl, xp⟩
    refine ⟨t, _, rfl, SqT.of et1, rfl, .int 0, [.int (-1)], rfl, .int (-1), [], rfl, rfl, ?_⟩
    -- if len(deck[0]) > 0
    refine ⟨.ref d, rfl, d, _, 0, .ref c, rfl, rfl, SqL.of ed1, rfl, c, _, rfl, .inl (SqL.of ec1), _, _, rfl, rfl, _, rfl, ite2 (fun e => ?_) (fun e => ?_)⟩
    · have e1 := of_decide_eq_true e
      rw [List.length_map] at e1
      have lp : (0 : Int) < (xs.map V.int).length := by rw [List.length_map]; exact e1
      have rem0 : 0 ≤ (n + 1) % ((xs.map V.int).length : Int) := Int.emod_nonneg _ (by omega)
      have rem1 : (n + 1) % ((xs.map V.int).length : Int) < (xs.map V.int).length := Int.emod_lt_of_pos _ lp
      obtain ⟨j, ej⟩ : ∃ j : Nat, (n + 1) % ((xs.map V.int).length : Int) = j := ⟨_, (Int.toNat_of_nonneg rem0).symm⟩
      have hj : j < xs.length := by
        rw [ej, List.length_map] at rem1
        omega
      have gj : (xs.map V.int)[j]? = some (.int xs[j]) := by
        rw [List.getElem?_map, List.getElem?_eq_getElem hj]
        rfl
      have x0 : 0 ≤ xs[j] := xp _ (List.getElem_mem hj)
      -- index = deck[1] % len(deck[0]); cell = deck[0][index]
      refine ⟨.ref d, rfl, d, _, 1, .int (n + 1), rfl, rfl, SqL.of ed1, rfl, .ref d, rfl, d, _, 0, .ref c, rfl, rfl, SqL.of ed1, rfl, c, _, rfl, .inl (SqL.of ec1), _, _, rfl, rfl, lp, ?_⟩
      refine ⟨.ref d, rfl, d, _, 0, .ref c, rfl, rfl, SqL.of ed1, rfl, .int _, rfl, c, _, _, .int xs[j], rfl, rfl, SqL.of ec1, (by rw [ej]; exact atI_nat gj), ?_⟩
      -- if cell >= 10 ** 18
      refine ⟨.int xs[j], rfl, 10, 18, rfl, rfl, ⟨by decide, by decide, by decide⟩, _, _, rfl, rfl, _, rfl, ite2 (fun e2 => ?_) (fun e2 => ?_)⟩
      · -- deck[0][index] = cell // limit; return cell % limit
        refine ⟨.int xs[j], rfl, .int lim, rfl, _, _, rfl, rfl, wide_div l0 l64 (by decide) (by decide), .ref d, rfl, d, _, 0, .ref c, rfl, rfl, SqL.of ed1, rfl, .int _, rfl, c, _, _, j, rfl, rfl, ec1, ?_, ?_⟩
        · rw [ej]
          unfold ixN
          rw [if_pos (by omega), if_pos (by rw [List.length_map]; omega)]
          rfl
        · refine ⟨.int xs[j], rfl, .int lim, rfl, _, _, rfl, rfl, l0, ?_⟩
          refine q _ _ ?_ ⟨?_, xs.set j (xs[j] / lim), ?_, ?_, ?_⟩ (Int.emod_nonneg _ (by omega)) (Int.emod_lt_of_pos _ l0)
          · intro b o nb nc e
            rw [upd_ne nc]
            exact kp1 b o nb nc e
          · rw [upd_ne ncd.symm]
            exact ed1
          · rw [upd_same, List.map_set]
          · rw [List.length_set]
            exact xl
          · intro x hx
            rcases List.mem_or_eq_of_mem_set hx with hm | he
            · exact xp x hm
            · rw [he]
              exact Int.ediv_nonneg x0 (by omega)
      · refine ⟨.int xs[j], rfl, _, _, rfl, rfl, (by show (0 : Int) < 2147483587; decide), .ref d, rfl, d, _, 1, .int (n + 1), rfl, rfl, SqL.of ed1, rfl, _, _, rfl, rfl, wide_mul (a := 13) (b := 64) (by decide) n64 (by decide) (by decide) (by decide), _, _, rfl, rfl, _, _, rfl, rfl, _, _, rfl, rfl, ⟨by decide, by decide, ?_⟩, _, _, rfl, rfl, (by show (0 : Int) < 2147483647; decide), _, _, rfl, rfl, wide_div (b := 3) (by decide) (by decide) (by decide) (by decide), .int lim, rfl, _, _, rfl, rfl, l0, ?_⟩
        · have a0 := Int.emod_nonneg xs[j] (show (2147483587 : Int) ≠ 0 by decide)
          have a1 := Int.emod_lt_of_pos xs[j] (show (0 : Int) < 2147483587 by decide)
          omega
        · exact q _ _ kp1 dk1 (Int.emod_nonneg _ (by omega)) (Int.emod_lt_of_pos _ l0)
    · -- the cell is 0
      refine ⟨.int 0, rfl, 10, 18, rfl, rfl, ⟨by decide, by decide, by decide⟩, _, _, rfl, rfl, _, rfl, ite2 (fun e2 => ?_) (fun e2 => ?_)⟩
      · exact absurd e2 (by decide)
      · refine ⟨.int 0, rfl, _, _, rfl, rfl, (by show (0 : Int) < 2147483587; decide), .ref d, rfl, d, _, 1, .int (n + 1), rfl, rfl, SqL.of ed1, rfl, _, _, rfl, rfl, wide_mul (a := 13) (b := 64) (by decide) n64 (by decide) (by decide) (by decide), _, _, rfl, rfl, _, _, rfl, rfl, _, _, rfl, rfl, ⟨by decide, by decide, ?_⟩, _, _, rfl, rfl, (by show (0 : Int) < 2147483647; decide), _, _, rfl, rfl, wide_div (b := 3) (by decide) (by decide) (by decide) (by decide), .int lim, rfl, _, _, rfl, rfl, l0, ?_⟩
        · have a0 := Int.emod_nonneg 0 (show (2147483587 : Int) ≠ 0 by decide)
          have a1 := Int.emod_lt_of_pos 0 (show (0 : Int) < 2147483587 by decide)
          omega
        · exact q _ _ kp1 dk1 (Int.emod_nonneg _ (by omega)) (Int.emod_lt_of_pos _ l0)
def sp_law_interval : Sp := fun vs H Q _ => ∃ (d c : Addr) (n lim : Int), vs = [.ref d, .int lim] ∧ Dk H d c n ∧ 0 ≤ n ∧ n < 999990 ∧ 0 < lim ∧ lim < 2 ^ 62 ∧
  ∀ H' lo hi t, Kp d c H H' → Dk H' d c (n + 2) → 0 ≤ lo → lo ≤ hi → hi < lim → H t = none → H' t = some (.tup [.int lo, .int hi]) → Q (.ref t) H'
theorem Kp.none {d c : Addr} {H H' : Hp} (k : Kp d c H H') {n m : Int} (h : Dk H d c n) (h' : Dk H' d c m) {t : Addr} (e : H' t = none) : H t = none := by
  by_cases e1 : t = d
  · rw [e1, h'.top] at e
    cases e
  · by_cases e2 : t = c
    · obtain ⟨xs, z, _⟩ := h'.cells
      rw [e2, z] at e
      cases e
    · cases q : H t with
      | none => rfl
      | some o =>
        rw [k t o e1 e2 q] at e
        cases e
theorem Dk.kept {H H' : Hp} {d c : Addr} {n : Int} (h : Dk H d c n) (s : Same H H') : Dk H' d c n :=
  let ⟨xs, e, a⟩ := h.cells
  ⟨s _ _ h.top, xs, s _ _ e, a⟩
theorem ok_law_interval (T : Tx K mg f_contains f_intersect f_hull_of f_law_deck f_law_draw f_law_same f_law_interval f_law_stretched f_law_positions f_law_due f_law d_contains d_intersect d_hull_of d_law_deck d_law_draw d_law_same d_law_interval d_law_stretched d_law_positions d_law_due d_law) : FnOk P w K mg base CX0 2 f_law_interval d_law_interval ["_law_deck_here", "_law_limit"] sp_law_interval := by
  refine T.F_law_interval.ok sc_law_interval (fun vs H Q E h => ?_) (fun cdv A outer s H vs Q E hr h => ?_)
  · obtain ⟨d, c, n, lim, rfl, _⟩ := h
    rfl
  · obtain ⟨d, c, n, lim, rfl, dk, n0, n1, l0, l1, q⟩ := h
    refine ⟨_, (pss_cons (ps_set (i := 2) sc_law_interval.nd rfl (Or.inl rfl) (pe_call (ok_law_draw T) (hr.mono (by decide)) (by rfl) T.g_law_draw T.F_law_draw.kp T.b_law_draw .nil pass0 (pa_cons (pv 0) (pa_cons (pv 1) pa_nil))))
      (pss_one (ps_ret (pe_tup (pa_cons (pv 2) (pa_cons (pe_op op_add (pv 2) (pe_call (ok_law_draw T) (hr.mono (by decide)) (by rfl) T.g_law_draw T.F_law_draw.kp T.b_law_draw .nil pass0 (pa_cons (pv 0) (pa_cons (pe_op op_sub (pv 1) (pv 2)) pa_nil)))) pa_nil)))))), ?_⟩
    refine ⟨.ref d, rfl, .int lim, rfl, d, c, n, lim, rfl, dk, n0, by omega, l0, by omega, fun H1 lo kp1 dk1 lo0 lo1 => ?_⟩
    refine ⟨.int lo, rfl, .int lo, rfl, .ref d, rfl, .int lim, rfl, .int lo, rfl, _, _, rfl, rfl, d, c, n + 1, lim - lo, rfl, dk1, by omega, by omega, by omega, by omega, fun H2 r kp2 dk2 r0 r1 => ?_⟩
    refine ⟨_, _, rfl, rfl, by show 2 ≤ sizeLine; decide, fun t nt => ?_⟩
    have s := same_new (o := .tup [.int lo, .int (lo + r)]) nt
    have kp : Kp d c H H2 := kp1.trans kp2
    refine q _ lo (lo + r) t (kp.trans (Kp.same s)) ?_ lo0 (by omega) (by omega) (kp.none dk dk2 nt) upd_same
    have e : n + 1 + 1 = n + 2 := by omega
    rw [e] at dk2
    exact dk2.kept s

/-! ### what stays when the heap grows, or the deck is drawn from -/
theorem rd_same {H H' : Hp} (s : Same H H') {a : Addr} {u : HO} (h : Rd H a u) : Rd H' a u := by
  rcases h with h | ⟨o, h⟩
  · exact .inl (s _ _ h)
  · exact .inr ⟨o, s _ _ h⟩
theorem sqT_same {K : PySem.W.Frag} {H H' : Hp} (s : Same H H') {a : Addr} {xs : List V} (h : SqT K H a xs) : SqT K H' a xs := by
  rcases h with h | h
  · exact .inl (rd_same s h)
  · exact .inr h
theorem dp_same {K : PySem.W.Frag} {H H' : Hp} (s : Same H H') {v : V} {d : PyData} (h : Dp K H v d) : Dp K H' v d := by
  refine Dp.rec (K := K) (H := H) (motive_1 := fun v d _ => Dp K H' v d) (motive_2 := fun vs ds _ => DpAll K H' vs ds) .non (fun b => .bl b) (fun i => .int i) (fun x => .str x) (fun hs _ q => .lst (s.seq hs) q) (fun hs _ q => .tup (sqT_same s hs) q) .nil (fun _ _ a b => .cons a b) h
theorem Kp.keep {d c : Addr} {H H' : Hp} (k : Kp d c H H') {a : Addr} {o : HO} (n1 : a ≠ d) (n2 : a ≠ c) (h : H a = some o) : H' a = some o := k a o n1 n2 h
theorem Kp.tup {d c : Addr} {n : Int} {H H' : Hp} (k : Kp d c H H') (dk : Dk H d c n) {a : Addr} {xs : List V} (h : H a = some (.tup xs)) : H' a = some (.tup xs) := by
  obtain ⟨ys, e, _⟩ := dk.cells
  exact k a _ (ne_of h dk.top (fun z => by cases z)) (ne_of h e (fun z => by cases z)) h
theorem Dk.off {H : Hp} {d c : Addr} {n : Int} (h : Dk H d c n) {p : Addr} (e : H p = none) : p ≠ d ∧ p ≠ c := by
  obtain ⟨ys, z, _⟩ := h.cells
  exact ⟨(ne_of_none h.top e).symm, (ne_of_none z e).symm⟩
theorem dp2 {K : PySem.W.Frag} {H : Hp} {t : Addr} {x y : Int} (h : H t = some (.tup [.int x, .int y])) : Dp K H (.ref t) (.tuple [.int x, .int y]) := .tup (SqT.of h) (.cons (.int x) (.cons (.int y) .nil))
theorem sm2 {x y : Int} (h1 : x.natAbs < 10 ^ 30) (h2 : y.natAbs < 10 ^ 30) : Sm 202 1 (.tuple [.int x, .int y]) := by
  have h := Sm.tup (n := 100) (dp := 0) (ds := [.int x, .int y]) (fun d hd => by
    rcases List.mem_cons.mp hd with rfl | hd
    · exact Sm.int h1
    · rcases List.mem_cons.mp hd with rfl | hd
      · exact Sm.int h2
      · cases hd)
  exact h
/-- an interval, or None -/
def optD : Option (Int × Int) → PyData
  | none => .none
  | some (x, y) => .tuple [.int x, .int y]
def OV (H : Hp) (v : V) : Option (Int × Int) → Prop
  | none => v = .non
  | some (x, y) => ∃ t, v = .ref t ∧ H t = some (.tup [.int x, .int y])
theorem OV.same {H H' : Hp} (s : Same H H') {v : V} {o : Option (Int × Int)} (h : OV H v o) : OV H' v o := by
  match o, h with
  | none, h => exact h
  | some (x, y), h =>
    obtain ⟨t, e, z⟩ := h
    exact ⟨t, e, s _ _ z⟩
theorem OV.kp {d c : Addr} {n : Int} {H H' : Hp} (k : Kp d c H H') (dk : Dk H d c n) {v : V} {o : Option (Int × Int)} (h : OV H v o) : OV H' v o := by
  match o, h with
  | none, h => exact h
  | some (x, y), h =>
    obtain ⟨t, e, z⟩ := h
    exact ⟨t, e, k.tup dk z⟩
theorem OV.dp {K : PySem.W.Frag} {H : Hp} {v : V} {o : Option (Int × Int)} (h : OV H v o) : Dp K H v (optD o) := by
  match o, h with
  | none, h =>
    cases h
    exact .non
  | some (x, y), h =>
    obtain ⟨t, e, z⟩ := h
    subst e
    exact dp2 z

/-! ### the program -/
def sp_contains : Sp := fun vs H Q _ => ∃ (a b : Addr) (x y u v : Int), vs = [.ref a, .ref b] ∧ H a = some (.tup [.int x, .int y]) ∧ H b = some (.tup [.int u, .int v]) ∧ Q (.bl (decide (x ≤ u) && decide (v ≤ y))) H
theorem ok_contains (T : Tx K mg f_contains f_intersect f_hull_of f_law_deck f_law_draw f_law_same f_law_interval f_law_stretched f_law_positions f_law_due f_law d_contains d_intersect d_hull_of d_law_deck d_law_draw d_law_same d_law_interval d_law_stretched d_law_positions d_law_due d_law) : FnOk P w K mg base CX0 1 f_contains d_contains ["outer", "inner"] sp_contains := by
  refine T.F_contains.ok sc_contains (fun vs H Q E h => ?_) (fun cdv A outer s H vs Q E hr h => ?_)
  · obtain ⟨a, b, x, y, u, v, rfl, _⟩ := h
    rfl
  · obtain ⟨a, b, x, y, u, v, rfl, ha, hb, q⟩ := h
    refine ⟨_, (pss_one (ps_ret (pe_and (pe_cmpR op_le (pe_ix ix_tup (pv 0) pe_int (fun _ _ => rfl)) (pe_ix ix_tup (pv 1) pe_int (fun _ _ => rfl)) (nomark _)) (pe_one (pe_cmpR op_le (pe_ix ix_tup (pv 1) pe_int (fun _ _ => rfl)) (pe_ix ix_tup (pv 0) pe_int (fun _ _ => rfl)) (nomark _)))))), ?_⟩
    refine ⟨.ref a, rfl, a, _, 0, .int x, rfl, rfl, SqT.of ha, rfl, .ref b, rfl, b, _, 0, .int u, rfl, rfl, SqT.of hb, rfl, _, _, rfl, rfl, _, rfl, ite2 (fun e => ?_) (fun e => ?_)⟩
    · refine ⟨.ref b, rfl, b, _, 1, .int v, rfl, rfl, SqT.of hb, rfl, .ref a, rfl, a, _, 1, .int y, rfl, rfl, SqT.of ha, rfl, _, _, rfl, rfl, ?_⟩
      rw [e] at q
      exact q
    · rw [Bool.not_eq_true] at e
      rw [e] at q
      exact q
def mxI (i j : Int) : Int := if j > i then j else i
def mnI (i j : Int) : Int := if j < i then j else i
def meetI (x y u v : Int) : Option (Int × Int) := if mxI x u ≤ mnI y v then some (mxI x u, mnI y v) else none
def sp_intersect : Sp := fun vs H Q _ => ∃ (a b : Addr) (x y u v : Int), vs = [.ref a, .ref b] ∧ H a = some (.tup [.int x, .int y]) ∧ H b = some (.tup [.int u, .int v]) ∧
  ∀ H' r, Same H H' → OV H' r (meetI x y u v) → Q r H'
theorem ok_intersect (T : Tx K mg f_contains f_intersect f_hull_of f_law_deck f_law_draw f_law_same f_law_interval f_law_stretched f_law_positions f_law_due f_law d_contains d_intersect d_hull_of d_law_deck d_law_draw d_law_same d_law_interval d_law_stretched d_law_positions d_law_due d_law) : FnOk P w K mg base CX0 1 f_intersect d_intersect ["first", "second"] sp_intersect := by
  refine T.F_intersect.ok sc_intersect (fun vs H Q E h => ?_) (fun cdv A outer s H vs Q E hr h => ?_)
  · obtain ⟨a, b, x, y, u, v, rfl, _⟩ := h
    rfl
  · obtain ⟨a, b, x, y, u, v, rfl, ha, hb, q⟩ := h
    refine ⟨_, (pss_cons (ps_set (i := 2) sc_intersect.nd rfl (Or.inl rfl) (pe_callB (call_max2 rfl) (by rfl) T.z_max (by decide +kernel) (pa_cons (pe_ix ix_tup (pv 0) pe_int (fun _ _ => rfl)) (pa_cons (pe_ix ix_tup (pv 1) pe_int (fun _ _ => rfl)) pa_nil))))
      (pss_cons (ps_set (i := 3) sc_intersect.nd rfl (Or.inl rfl) (pe_callB (call_min2 rfl) (by rfl) T.z_min (by decide +kernel) (pa_cons (pe_ix ix_tup (pv 0) pe_int (fun _ _ => rfl)) (pa_cons (pe_ix ix_tup (pv 1) pe_int (fun _ _ => rfl)) pa_nil))))
      (pss_one (ps_ret (pe_ifExp (pt_cmpR op_le (pv 2) (pv 3) (nomark _)) (pe_tup (pa_cons (pv 2) (pa_cons (pv 3) pa_nil))) pe_non))))), ?_⟩
    refine ⟨.ref a, rfl, a, _, 0, .int x, rfl, rfl, SqT.of ha, rfl, .ref b, rfl, b, _, 0, .int u, rfl, rfl, SqT.of hb, rfl, _, _, rfl, ?_⟩
    refine ⟨.ref a, rfl, a, _, 1, .int y, rfl, rfl, SqT.of ha, rfl, .ref b, rfl, b, _, 1, .int v, rfl, rfl, SqT.of hb, rfl, _, _, rfl, ?_⟩
    refine ⟨_, rfl, _, rfl, _, _, rfl, rfl, _, rfl, ite2 (fun e => ?_) (fun e => ?_)⟩
    · have e1 : mxI x u ≤ mnI y v := of_decide_eq_true e
      refine ⟨_, rfl, _, rfl, by show 2 ≤ sizeLine; decide, fun t nt => ?_⟩
      refine q _ _ (same_new nt) ?_
      unfold meetI
      rw [if_pos e1]
      exact ⟨t, rfl, upd_same⟩
    · have e1 : ¬ mxI x u ≤ mnI y v := fun z => e (decide_eq_true z)
      refine q _ _ (Same.refl _) ?_
      unfold meetI
      rw [if_neg e1]
      rfl
def sp_hull_of : Sp := fun vs H Q _ => ∃ (a b : Addr) (x y u v : Int), vs = [.ref a, .ref b] ∧ H a = some (.tup [.int x, .int y]) ∧ H b = some (.tup [.int u, .int v]) ∧
  ∀ H' t, Same H H' → H' t = some (.tup [.int (mnI x u), .int (mxI y v)]) → Q (.ref t) H'
theorem ok_hull_of (T : Tx K mg f_contains f_intersect f_hull_of f_law_deck f_law_draw f_law_same f_law_interval f_law_stretched f_law_positions f_law_due f_law d_contains d_intersect d_hull_of d_law_deck d_law_draw d_law_same d_law_interval d_law_stretched d_law_positions d_law_due d_law) : FnOk P w K mg base CX0 1 f_hull_of d_hull_of ["first", "second"] sp_hull_of := by
  refine T.F_hull_of.ok sc_hull_of (fun vs H Q E h => ?_) (fun cdv A outer s H vs Q E hr h => ?_)
  · obtain ⟨a, b, x, y, u, v, rfl, _⟩ := h
    rfl
  · obtain ⟨a, b, x, y, u, v, rfl, ha, hb, q⟩ := h
    refine ⟨_, (pss_one (ps_ret (pe_tup (pa_cons (pe_callB (call_min2 rfl) (by rfl) T.z_min (by decide +kernel) (pa_cons (pe_ix ix_tup (pv 0) pe_int (fun _ _ => rfl)) (pa_cons (pe_ix ix_tup (pv 1) pe_int (fun _ _ => rfl)) pa_nil))) (pa_cons (pe_callB (call_max2 rfl) (by rfl) T.z_max (by decide +kernel) (pa_cons (pe_ix ix_tup (pv 0) pe_int (fun _ _ => rfl)) (pa_cons (pe_ix ix_tup (pv 1) pe_int (fun _ _ => rfl)) pa_nil))) pa_nil))))), ?_⟩
    refine ⟨.ref a, rfl, a, _, 0, .int x, rfl, rfl, SqT.of ha, rfl, .ref b, rfl, b, _, 0, .int u, rfl, rfl, SqT.of hb, rfl, _, _, rfl, .ref a, rfl, a, _, 1, .int y, rfl, rfl, SqT.of ha, rfl, .ref b, rfl, b, _, 1, .int v, rfl, rfl, SqT.of hb, rfl, _, _, rfl, by show 2 ≤ sizeLine; decide, fun t nt => ?_⟩
    exact q _ t (same_new nt) upd_same
/-! ### the law's own -/
def sp_law_same (K : PySem.W.Frag) : Sp := fun vs H Q _ => ∃ (v u : V) (d : PyData) (n dp : Nat), vs = [v, u] ∧ Dp K H v d ∧ Dp K H u d ∧ Sm n dp d ∧ n ≤ 300000 ∧ dp ≤ 60 ∧ Q (.bl true) H
theorem ok_law_same (T : Tx K mg f_contains f_intersect f_hull_of f_law_deck f_law_draw f_law_same f_law_interval f_law_stretched f_law_positions f_law_due f_law d_contains d_intersect d_hull_of d_law_deck d_law_draw d_law_same d_law_interval d_law_stretched d_law_positions d_law_due d_law) : FnG P w K mg base 1 f_law_same d_law_same ["_law_value", "_law_due_here"] (sp_law_same K) := by
  refine FnG.of T.F_law_same sc_law_same (fun {vs H Q} h => ?_) (fun cdv A outer s H vs Q hr hq h => ?_)
  · obtain ⟨v, u, d, n, dp, rfl, _⟩ := h
    rfl
  · obtain ⟨v, u, d, n, dp, rfl, h1, h2, sm, hn, hdp, q⟩ := h
    refine ⟨_, (pss_one (ps_ret (pe_cmpR op_eq (pe_callB (call_reprD hq hr.units) (by rfl) T.z_repr (by decide +kernel) (pa_cons (pv 0) pa_nil)) (pe_callB (call_reprD hq hr.units) (by rfl) T.z_repr (by decide +kernel) (pa_cons (pv 1) pa_nil)) (nomark _)))), ?_⟩
    refine ⟨v, rfl, v, d, n, dp, rfl, h1, sm, hn, hdp, u, rfl, u, d, n, dp, rfl, h2, sm, hn, hdp, rfl, ?_⟩
    rw [decide_eq_true rfl]
    exact q

/-! ### the law's positions -/
def rgN (a : Int) : Nat → List Int
  | 0 => []
  | n + 1 => a :: rgN (a + 1) n
theorem rgN_range (a : Int) : ∀ n : Nat, (List.range n).map (fun i : Nat => V.int (a + (i : Nat))) = (rgN a n).map V.int := by
  intro n
  induction n generalizing a with
  | zero => rfl
  | succ n ih =>
    rw [List.range_succ_eq_map, List.map_cons, List.map_map]
    show V.int (a + ((0 : Nat) : Int)) :: _ = V.int a :: (rgN (a + 1) n).map V.int
    rw [← ih (a + 1)]
    have e0 : a + ((0 : Nat) : Int) = a := by omega
    rw [e0]
    congr 1
    apply List.map_congr_left
    intro i _
    show V.int (a + ((i + 1 : Nat) : Int)) = V.int (a + 1 + (i : Int))
    congr 1
    omega
theorem mem_rgN {a x : Int} {n : Nat} : x ∈ rgN a n ↔ a ≤ x ∧ x < a + n := by
  induction n generalizing a with
  | zero =>
    constructor
    · intro h
      cases h
    · intro h
      omega
  | succ n ih =>
    show x ∈ a :: rgN (a + 1) n ↔ _
    rw [List.mem_cons, ih]
    omega
theorem rgN_length (a : Int) (n : Nat) : (rgN a n).length = n := by
  induction n generalizing a with
  | zero => rfl
  | succ n ih =>
    show (rgN (a + 1) n).length + 1 = n + 1
    rw [ih]
theorem rgN_filter (u v : Int) : ∀ (n : Nat) (a : Int), (rgN a n).filter (fun x => decide (u ≤ x ∧ x ≤ v)) = rgN (if u ≤ a then a else u) ((if a + n - 1 ≤ v then a + n - 1 else v) + 1 - (if u ≤ a then a else u)).toNat := by
  intro n
  induction n with
  | zero =>
    intro a
    have e : ((if a + ((0 : Nat) : Int) - 1 ≤ v then a + ((0 : Nat) : Int) - 1 else v) + 1 - (if u ≤ a then a else u)).toNat = 0 := by
      split <;> split <;> omega
    rw [e]
    rfl
  | succ n ih =>
    intro a
    show (a :: rgN (a + 1) n).filter _ = _
    rw [List.filter_cons, ih (a + 1)]
    by_cases h1 : u ≤ a
    · rw [if_pos h1, if_pos (show u ≤ a + 1 by omega)]
      by_cases h2 : a ≤ v
      · rw [if_pos (decide_eq_true ⟨h1, h2⟩)]
        have e : ((if a + ((n + 1 : Nat) : Int) - 1 ≤ v then a + ((n + 1 : Nat) : Int) - 1 else v) + 1 - a).toNat = ((if a + 1 + (n : Int) - 1 ≤ v then a + 1 + (n : Int) - 1 else v) + 1 - (a + 1)).toNat + 1 := by
          split <;> split <;> omega
        rw [e]
        rfl
      · have e0 : ¬ (decide (u ≤ a ∧ a ≤ v) = true) := fun z => h2 (of_decide_eq_true z).2
        rw [if_neg e0]
        have e1 : ((if a + 1 + (n : Int) - 1 ≤ v then a + 1 + (n : Int) - 1 else v) + 1 - (a + 1)).toNat = 0 := by
          split <;> omega
        have e2 : ((if a + ((n + 1 : Nat) : Int) - 1 ≤ v then a + ((n + 1 : Nat) : Int) - 1 else v) + 1 - a).toNat = 0 := by
          split <;> omega
        rw [e1, e2]
        rfl
    · have e0 : ¬ (decide (u ≤ a ∧ a ≤ v) = true) := fun z => h1 (of_decide_eq_true z).1
      rw [if_neg e0, if_neg h1]
      by_cases h3 : u ≤ a + 1
      · have e3 : u = a + 1 := by omega
        rw [if_pos h3, ← e3]
        congr 1
        split <;> split <;> omega
      · rw [if_neg h3]
        congr 1
        split <;> split <;> omega
theorem rgV_eq (a b : Int) : rgV a b = (rgN a (b - a).toNat).map V.int := rgN_range a _
theorem inV_ints (x : Int) (ns : List Int) : inV (.int x) (ns.map V.int) = decide (x ∈ ns) := by
  unfold inV
  induction ns with
  | nil => rfl
  | cons n r ih =>
    rw [List.map_cons, List.any_cons, ih]
    show ((n == x) || decide (x ∈ r)) = decide (x ∈ n :: r)
    by_cases e : n = x
    · subst e
      simp
    · have e2 : (n == x) = false := beq_eq_false_iff_ne.mpr e
      rw [e2, Bool.false_or]
      apply decide_eq_decide.mpr
      rw [List.mem_cons]
      constructor
      · exact .inr
      · rintro (z | z)
        · exact absurd z.symm e
        · exact z
theorem flat_ints (ns : List Int) : (ns.map V.int).all flatV = true := by
  rw [List.all_map]
  apply List.all_eq_true.mpr
  intro x _
  rfl
theorem dp_ints {K : PySem.W.Frag} {H : Hp} : ∀ ns : List Int, DpAll K H (ns.map V.int) (ns.map PyData.int)
  | [] => .nil
  | n :: r => .cons (.int n) (dp_ints r)
theorem shaped_ints (ns : List Int) : SeqAt.shaped (.list (ns.map PyData.int)) = true := by
  have h1 : ∀ ns : List Int, PyData.canLayAll0 (ns.map PyData.int) = true := by
    intro ns
    induction ns with
    | nil => rfl
    | cons n r ih => exact ih
  have h2 : ∀ ns : List Int, PyData.depthAll (ns.map PyData.int) = 0 := by
    intro ns
    induction ns with
    | nil => rfl
    | cons n r ih =>
      show max 0 (PyData.depthAll (r.map PyData.int)) = 0
      rw [ih]
      rfl
  unfold SeqAt.shaped
  rw [show PyData.canLay0 (.list (ns.map PyData.int)) = PyData.canLayAll0 (ns.map PyData.int) from rfl, h1 ns]
  show decide (PyData.depthAll (ns.map PyData.int) + 1 ≤ 64) = true
  rw [h2 ns]
  rfl
theorem eqv_nil (ns : List Int) : PyData.eqv (.list (ns.map PyData.int)) (.list []) = ns.isEmpty := by
  cases ns <;> rfl
def sp_law_positions : Sp := fun vs H Q _ => ∃ (a : Addr) (x y : Int), vs = [.ref a] ∧ H a = some (.tup [.int x, .int y]) ∧ 0 ≤ x ∧ x ≤ y ∧ y < 1000 ∧ ∀ p, H p = none → Q (.ref p) (upd H p (.lst ((rgN x (y + 1 - x).toNat).map V.int)))
theorem ok_law_positions (T : Tx K mg f_contains f_intersect f_hull_of f_law_deck f_law_draw f_law_same f_law_interval f_law_stretched f_law_positions f_law_due f_law d_contains d_intersect d_hull_of d_law_deck d_law_draw d_law_same d_law_interval d_law_stretched d_law_positions d_law_due d_law) : FnOk P w K mg base CX0 1 f_law_positions d_law_positions ["_law_interval_here"] sp_law_positions := by
  refine T.F_law_positions.ok sc_law_positions (fun vs H Q E h => ?_) (fun cdv A outer s H vs Q E hr h => ?_)
  · obtain ⟨a, x, y, rfl, _⟩ := h
    rfl
  · obtain ⟨a, x, y, rfl, ha, x0, xy, y0, q⟩ := h
    refine ⟨_, (pss_one (ps_ret (pe_listRg rfl (by rfl) T.z_list (prg_2 (by rfl) T.z_range (pe_ix ix_tup (pv 0) pe_int (fun _ _ => rfl)) (pe_op op_add (pe_ix ix_tup (pv 0) pe_int (fun _ _ => rfl)) pe_int))))), ?_⟩
    refine ⟨.ref a, rfl, a, _, 0, .int x, rfl, rfl, SqT.of ha, rfl, .ref a, rfl, a, _, 1, .int y, rfl, rfl, SqT.of ha, rfl, _, _, rfl, rfl, _, _, rfl, rfl, ⟨by omega, by omega, by omega, by omega, by omega⟩, fun p np => ?_⟩
    rw [rgV_eq]
    exact q p np

theorem rgN_first {a : Int} {n : Nat} (h : 0 < n) : (rgN a n)[0]? = some a := by
  cases n with
  | zero => omega
  | succ n => rfl
theorem rgN_snoc (a : Int) : ∀ n : Nat, rgN a (n + 1) = rgN a n ++ [a + n] := by
  intro n
  induction n generalizing a with
  | zero =>
    show [a] = [a + ((0 : Nat) : Int)]
    congr 1
    omega
  | succ n ih =>
    show a :: rgN (a + 1) (n + 1) = (a :: rgN (a + 1) n) ++ [a + ((n + 1 : Nat) : Int)]
    rw [ih (a + 1)]
    show _ = a :: (rgN (a + 1) n ++ [a + ((n + 1 : Nat) : Int)])
    congr 3
    omega
def sp_law_due : Sp := fun vs H Q _ => ∃ (a b : Addr) (x y u v : Int), vs = [.ref a, .ref b] ∧ H a = some (.tup [.int x, .int y]) ∧ H b = some (.tup [.int u, .int v]) ∧ 0 ≤ x ∧ x ≤ y ∧ y < 1000 ∧ 0 ≤ u ∧ u ≤ v ∧ v < 1000 ∧
  ∀ H' p r t, Same H H' → H p = none → H' p = some (.lst [.bl (decide (x ≤ u) && decide (v ≤ y)), r, .ref t]) → OV H' r (meetI x y u v) → H' t = some (.tup [.int (mnI x u), .int (mxI y v)]) → Q (.ref p) H'
theorem meet_list {x y u v : Int} (xy : x ≤ y) (uv : u ≤ v) : (rgN x (y + 1 - x).toNat).filter (fun s => decide (s ∈ rgN u (v + 1 - u).toNat)) = rgN (mxI x u) (mnI y v + 1 - mxI x u).toNat := by
  have e : (fun s : Int => decide (s ∈ rgN u (v + 1 - u).toNat)) = (fun s : Int => decide (u ≤ s ∧ s ≤ v)) := by
    funext s
    apply decide_eq_decide.mpr
    rw [mem_rgN]
    omega
  rw [e, rgN_filter]
  have e1 : (if u ≤ x then x else u) = mxI x u := by
    unfold mxI
    split <;> split <;> omega
  have e2 : (if x + ((y + 1 - x).toNat : Int) - 1 ≤ v then x + ((y + 1 - x).toNat : Int) - 1 else v) = mnI y v := by
    unfold mnI
    split <;> split <;> omega
  rw [e1, e2]
theorem inside_list {x y u v : Int} (xy : x ≤ y) (uv : u ≤ v) : ((rgN u (v + 1 - u).toNat).filter (fun s => !decide (s ∈ rgN x (y + 1 - x).toNat))).isEmpty = (decide (x ≤ u) && decide (v ≤ y)) := by
  rw [Bool.eq_iff_iff, List.isEmpty_iff, List.filter_eq_nil_iff, Bool.and_eq_true, decide_eq_true_eq, decide_eq_true_eq]
  constructor
  · intro h
    have h1 := h u (mem_rgN.mpr ⟨by omega, by omega⟩)
    have h2 := h v (mem_rgN.mpr ⟨by omega, by omega⟩)
    simp only [Bool.not_eq_true', decide_eq_false_iff_not, Classical.not_not] at h1 h2
    have m1 := mem_rgN.mp h1
    have m2 := mem_rgN.mp h2
    omega
  · rintro ⟨h1, h2⟩ s hs
    simp only [Bool.not_eq_true', decide_eq_false_iff_not, Classical.not_not]
    have m := mem_rgN.mp hs
    exact mem_rgN.mpr ⟨by omega, by omega⟩
theorem take_filter_snoc {ns : List Int} {i : Nat} {n : Int} {p : Int → Bool} (h : ns[i]? = some n) : (ns.take (i + 1)).filter p = (ns.take i).filter p ++ (if p n = true then [n] else []) := by
  rw [List.take_add_one, h, List.filter_append]
  congr 1
  show List.filter p [n] = _
  rw [List.filter_cons]
  split <;> rfl
theorem ok_law_due (T : Tx K mg f_contains f_intersect f_hull_of f_law_deck f_law_draw f_law_same f_law_interval f_law_stretched f_law_positions f_law_due f_law d_contains d_intersect d_hull_of d_law_deck d_law_draw d_law_same d_law_interval d_law_stretched d_law_positions d_law_due d_law) : FnOk P w K mg base CX0 2 f_law_due d_law_due ["_law_first", "_law_second"] sp_law_due := by
  refine T.F_law_due.ok sc_law_due (fun vs H Q E h => ?_) (fun cdv A outer s H vs Q E hr h => ?_)
  · obtain ⟨a, b, x, y, u, v, rfl, _⟩ := h
    rfl
  · obtain ⟨a, b, x, y, u, v, rfl, ha, hb, x0, xy, y1, u0, uv, v1, q⟩ := h
    refine ⟨_, (pss_cons (ps_asg (pe_tup (pa_cons (pe_call (ok_law_positions T) (hr.mono (by decide)) (by rfl) T.g_law_positions T.F_law_positions.kp T.b_law_positions .nil pass0 (pa_cons (pv 0) pa_nil)) (pa_cons (pe_call (ok_law_positions T) (hr.mono (by decide)) (by rfl) T.g_law_positions T.F_law_positions.kp T.b_law_positions .nil pass0 (pa_cons (pv 1) pa_nil)) pa_nil))) (pg_tup rfl (pgs_cons (pg_name (i := 2) sc_law_due.nd rfl (Or.inr rfl)) (pgs_cons (pg_name (i := 3) sc_law_due.nd rfl (Or.inr rfl)) pgs_nil))))
      (pss_cons (ps_par (by rfl) sc_law_due.nd (i := 4) (j := 5) rfl rfl (by decide) rfl rfl (pa_cons (pe_lc (own := [("_law_spot", 6)]) (g := (gName 6)) (by rfl) sc_law_due.nd (pi_list (pv 2)) (blkOk_by (own := [("_law_spot", 6)]) (N := N_law_due) (sc := defScope s_law_due) (by decide +kernel)) (fun _ _ _ _ _ => (pg_name (i := 6) sc_law_due.nd rfl (Or.inl rfl))) (fun _ _ _ _ _ => pts_one (pt_cmpR (show OpR _ (compareOp .In) (rIn K false) from op_in_seq) (pv 6) (pv 3) (by rfl))) (fun _ _ _ _ _ => (pv 6))) (pa_cons (pe_op op_cat (pv 2) (pv 3)) pa_nil)) (by rfl))
      (pss_cons (ps_set (i := 7) sc_law_due.nd rfl (Or.inl rfl) (pe_ifExp (pt_cmpR (op_neD hr.units) (pv 4) (pe_lst pa_nil) (nomark _)) (pe_tup (pa_cons (pe_ix ix_list (pv 4) pe_int (fun _ _ => rfl)) (pa_cons (pe_ix ix_list (pv 4) (pe_un un_neg pe_int) (fun _ _ => rfl)) pa_nil))) pe_non))
      (pss_cons (ps_set (i := 8) sc_law_due.nd rfl (Or.inl rfl) (pe_cmpR (op_eqD hr.units) (pe_lc (own := [("_law_spot", 6)]) (g := (gName 6)) (by rfl) sc_law_due.nd (pi_list (pv 3)) (blkOk_by (own := [("_law_spot", 6)]) (N := N_law_due) (sc := defScope s_law_due) (by decide +kernel)) (fun _ _ _ _ _ => (pg_name (i := 6) sc_law_due.nd rfl (Or.inl rfl))) (fun _ _ _ _ _ => pts_one (pt_cmpR (show OpR _ (compareOp .NotIn) (rIn K true) from op_notIn_seq) (pv 6) (pv 2) (by rfl))) (fun _ _ _ _ _ => (pv 6))) (pe_lst pa_nil) (nomark _)))
      (pss_one (ps_ret (pe_lst (pa_cons (pv 8) (pa_cons (pv 7) (pa_cons (pe_tup (pa_cons (pe_callB (cr_min rfl) (by rfl) T.z_min (by decide +kernel) (pa_cons (pv 5) pa_nil)) (pa_cons (pe_callB (cr_max rfl) (by rfl) T.z_max (by decide +kernel) (pa_cons (pv 5) pa_nil)) pa_nil))) pa_nil)))))))))), ?_⟩
    generalize eone : rgN x (y + 1 - x).toNat = one at *
    generalize eoth : rgN u (v + 1 - u).toNat = oth at *
    have lone : one.length ≤ 1000 := by rw [← eone, rgN_length]; omega
    have loth : oth.length ≤ 1000 := by rw [← eoth, rgN_length]; omega
    refine ⟨.ref a, rfl, a, x, y, rfl, ha, x0, xy, y1, fun p1 np1 => ?_⟩
    rw [eone]
    have s1 := same_new (o := .lst (one.map V.int)) np1
    refine ⟨.ref b, rfl, b, u, v, rfl, s1 _ _ hb, u0, uv, v1, fun p2 np2 => ?_⟩
    rw [eoth]
    have s2 := same_new (o := .lst (oth.map V.int)) np2
    refine ⟨by show 2 ≤ sizeLine; decide, fun t nt => ?_⟩
    have s3 := same_new (o := .tup [.ref p1, .ref p2]) nt
    refine ⟨t, _, rfl, SqT.of upd_same, rfl, .ref p1, [.ref p2], rfl, .ref p2, [], rfl, rfl, ?_⟩
    have sm3 := s1.trans (s2.trans s3)
    have e1 := s3 _ _ (s2 _ _ (upd_same (H := H) (a := p1) (o := .lst (one.map V.int))))
    have e2 := s3 _ _ (upd_same (H := upd H p1 (.lst (one.map V.int))) (a := p2) (o := .lst (oth.map V.int)))
    generalize upd (upd (upd H p1 (.lst (one.map V.int))) p2 (.lst (oth.map V.int))) t (.tup [.ref p1, .ref p2]) = H3 at *
    -- common
    refine ⟨.ref p1, rfl, p1, rfl, ⟨_, SqL.of e1⟩, fun D nD => ?_⟩
    refine lc_list (K := K) (a := p1) (xs := one.map V.int) (fun i H' => Same H3 H' ∧ H' D = some (.lst (((one.take i).filter fun s => decide (s ∈ oth)).map V.int))) ⟨same_new nD, upd_same⟩ (fun i H' _ h => SqL.of (h.1 _ _ e1)) ?_ ?_
    · rintro i z H' hi ⟨sm, eD⟩
      rw [List.getElem?_map] at hi
      obtain ⟨n, en, rfl⟩ := Option.map_eq_some_iff.mp hi
      refine ⟨rfl, .int n, rfl, .ref p2, rfl, p2, _, rfl, .inl (SqL.of (sm _ _ e2)), rfl, flat_ints oth, _, rfl, ite2 (fun e => ?_) (fun e => ?_)⟩
      · have e' : inV (.int n) (oth.map V.int) = true := e
        rw [inV_ints] at e'
        refine ⟨.int n, rfl, _, eD, ?_, ?_, ?_⟩
        · rw [List.length_map]
          exact small1000 (Nat.le_trans (List.length_filter_le _ _) (Nat.le_trans (List.length_take_le' _ _) lone))
        · intro b o eb
          rw [upd_ne (ne_of_none eb nD)]
          exact sm b o eb
        · rw [upd_same, take_filter_snoc en, if_pos e', List.map_append]
          rfl
      · have e' : ¬ inV (.int n) (oth.map V.int) = true := e
        rw [inV_ints] at e'
        refine ⟨sm, ?_⟩
        rw [eD, take_filter_snoc en, if_neg e', List.append_nil]
    · rintro H4 ⟨sm4, eD⟩
      rw [List.length_map, List.take_length] at eD
      rw [← eone, ← eoth, meet_list xy uv] at eD
      -- together
      refine ⟨.ref p1, rfl, .ref p2, rfl, p1, p2, _, _, rfl, rfl, sm4 _ _ e1, sm4 _ _ e2, ?_, fun g ng => ?_⟩
      · rw [List.length_map, List.length_map]
        exact Nat.le_trans (Nat.add_le_add lone loth) (by decide)
      have s5 := same_new (o := .lst (one.map V.int ++ oth.map V.int)) ng
      refine ⟨.ref D, .ref g, rfl, ?_⟩
      have eg := upd_same (H := H4) (a := g) (o := .lst (one.map V.int ++ oth.map V.int))
      replace eD := s5 _ _ eD
      replace e1 := s5 _ _ (sm4 _ _ e1)
      replace e2 := s5 _ _ (sm4 _ _ e2)
      have sm5 := sm3.trans (sm4.trans s5)
      generalize upd H4 g (.lst (one.map V.int ++ oth.map V.int)) = H5 at *
      -- meet
      refine ⟨.ref D, rfl, by show 0 ≤ sizeLine; decide, fun z nz => ?_⟩
      have s6 := same_new (o := .lst []) nz
      refine ⟨.list ((rgN (mxI x u) (mnI y v + 1 - mxI x u).toNat).map PyData.int), .list [], .lst (SqL.of (s6 _ _ eD)) (dp_ints _), .lst (SqL.of upd_same) .nil, shaped_ints _, rfl, _, rfl, ?_⟩
      rw [eqv_nil]
      refine ite2 (fun e => ?tt) (fun e => ?ff)
      case' tt =>
        have hlt : 0 < (mnI y v + 1 - mxI x u).toNat := by
          cases hz : (mnI y v + 1 - mxI x u).toNat with
          | zero =>
            rw [hz] at e
            exact (Bool.false_ne_true e).elim
          | succ k => omega
        have hle : mxI x u ≤ mnI y v := by omega
        have i0 : atI ((rgN (mxI x u) (mnI y v + 1 - mxI x u).toNat).map V.int) 0 = some (.int (mxI x u)) := atI_nat (j := 0) (by
          rw [List.getElem?_map, rgN_first hlt]
          rfl)
        have i1 : atI ((rgN (mxI x u) (mnI y v + 1 - mxI x u).toNat).map V.int) (-1) = some (.int (mnI y v)) := by
          obtain ⟨k, ek⟩ : ∃ k, (mnI y v + 1 - mxI x u).toNat = k + 1 := ⟨(mnI y v + 1 - mxI x u).toNat - 1, by omega⟩
          rw [ek, rgN_snoc, List.map_append]
          have ev : mxI x u + (k : Int) = mnI y v := by omega
          rw [ev]
          exact atI_last _ _
        refine ⟨.ref D, rfl, D, _, 0, _, rfl, rfl, SqL.of (s6 _ _ eD), i0, .ref D, rfl, 1, rfl, D, _, -1, _, rfl, rfl, SqL.of (s6 _ _ eD), i1, by show 2 ≤ sizeLine; decide, fun t2 nt2 => ?_⟩
        have s7 := s6.trans (same_new (o := .tup [.int (mxI x u), .int (mnI y v)]) nt2)
        have ov : OV (upd (upd H5 z (.lst [])) t2 (.tup [.int (mxI x u), .int (mnI y v)])) (.ref t2) (meetI x y u v) := by
          unfold meetI
          rw [if_pos hle]
          exact ⟨t2, rfl, upd_same⟩
      case' ff =>
        have hle : ¬ mxI x u ≤ mnI y v := by
          intro hl
          apply e
          obtain ⟨k, ek⟩ : ∃ k, (mnI y v + 1 - mxI x u).toNat = k + 1 := ⟨(mnI y v + 1 - mxI x u).toNat - 1, by omega⟩
          rw [ek]
          rfl
        have s7 := s6
        have ov : OV (upd H5 z (.lst [])) .non (meetI x y u v) := by
          unfold meetI
          rw [if_neg hle]
          rfl
      all_goals
        replace e1 := s7 _ _ e1
        replace e2 := s7 _ _ e2
        replace eg := s7 _ _ eg
        replace sm5 := sm5.trans s7
        refine ⟨.ref p2, rfl, p2, rfl, ⟨_, SqL.of e2⟩, fun D2 nD2 => ?_⟩
        refine lc_list (K := K) (a := p2) (xs := oth.map V.int) (fun i H' => Same _ H' ∧ H' D2 = some (.lst (((oth.take i).filter fun s => !decide (s ∈ one)).map V.int))) ⟨same_new nD2, upd_same⟩ (fun i H' _ h => SqL.of (h.1 _ _ e2)) ?_ ?_
        · rintro i w2 H' hi ⟨sm, eD2⟩
          rw [List.getElem?_map] at hi
          obtain ⟨n, en, rfl⟩ := Option.map_eq_some_iff.mp hi
          refine ⟨rfl, .int n, rfl, .ref p1, rfl, p1, _, rfl, .inl (SqL.of (sm _ _ e1)), rfl, flat_ints one, _, rfl, ite2 (fun e => ?_) (fun e => ?_)⟩
          · have e' : (!inV (.int n) (one.map V.int)) = true := e
            rw [inV_ints] at e'
            refine ⟨.int n, rfl, _, eD2, ?_, ?_, ?_⟩
            · rw [List.length_map]
              exact small1000 (Nat.le_trans (List.length_filter_le _ _) (Nat.le_trans (List.length_take_le' _ _) loth))
            · intro b o eb
              rw [upd_ne (ne_of_none eb nD2)]
              exact sm b o eb
            · rw [upd_same, take_filter_snoc en, if_pos e', List.map_append]
              rfl
          · have e' : ¬ (!inV (.int n) (one.map V.int)) = true := e
            rw [inV_ints] at e'
            refine ⟨sm, ?_⟩
            rw [eD2, take_filter_snoc en, if_neg e', List.append_nil]
        · rintro H8 ⟨sm8, eD2⟩
          rw [List.length_map, List.take_length] at eD2
          refine ⟨by show 0 ≤ sizeLine; decide, fun z2 nz2 => ?_⟩
          have s9 := same_new (o := .lst []) nz2
          refine ⟨.list ((oth.filter fun s => !decide (s ∈ one)).map PyData.int), .list [], .lst (SqL.of (s9 _ _ eD2)) (dp_ints _), .lst (SqL.of upd_same) .nil, shaped_ints _, rfl, ?_⟩
          rw [eqv_nil, ← eone, ← eoth, inside_list xy uv]
          have sg := s9 _ _ (sm8 _ _ eg)
          rw [← List.map_append] at sg
          have mem1 : x ∈ one ++ oth := List.mem_append_left _ (by rw [← eone]; exact mem_rgN.mpr ⟨by omega, by omega⟩)
          have mem2 : y ∈ one ++ oth := List.mem_append_left _ (by rw [← eone]; exact mem_rgN.mpr ⟨by omega, by omega⟩)
          have mem3 : u ∈ one ++ oth := List.mem_append_right _ (by rw [← eoth]; exact mem_rgN.mpr ⟨by omega, by omega⟩)
          have mem4 : v ∈ one ++ oth := List.mem_append_right _ (by rw [← eoth]; exact mem_rgN.mpr ⟨by omega, by omega⟩)
          have all : ∀ m ∈ one ++ oth, (x ≤ m ∧ m ≤ y) ∨ (u ≤ m ∧ m ≤ v) := by
            intro m hm
            rcases List.mem_append.mp hm with h | h
            · rw [← eone] at h
              have := mem_rgN.mp h
              omega
            · rw [← eoth] at h
              have := mem_rgN.mp h
              omega
          have len0 : 0 < (one ++ oth).length := List.length_pos_of_mem mem1
          refine ⟨_, rfl, _, rfl, .ref g, rfl, g, one ++ oth, rfl, SqL.of sg, len0, fun m hm hle2 => ?_⟩
          refine ⟨.ref g, rfl, g, one ++ oth, rfl, SqL.of sg, len0, fun m2 hm2 hle3 => ?_⟩
          have em : m = mnI x u := by
            have := all m hm
            have := hle2 x mem1
            have := hle2 u mem3
            unfold mnI
            split <;> omega
          have em2 : m2 = mxI y v := by
            have := all m2 hm2
            have := hle3 y mem2
            have := hle3 v mem4
            unfold mxI
            split <;> omega
          subst em em2
          refine ⟨by show 2 ≤ sizeLine; decide, fun t3 nt3 => ?_⟩
          have s10 := same_new (o := .tup [.int (mnI x u), .int (mxI y v)]) nt3
          refine ⟨by show 3 ≤ sizeLine; decide, fun p np => ?_⟩
          have sa := (sm8.trans s9).trans s10
          refine q _ p _ t3 (sm5.trans (sa.trans (same_new np))) ((sm5.trans sa).free np) upd_same (OV.same (sa.trans (same_new np)) ov) ?_
          exact same_new np _ _ upd_same

/-! ### rows of intervals -/
inductive Ivs (H : Hp) : List V → List (Int × Int) → Prop
  | nil : Ivs H [] []
  | cons {a : Addr} {x y : Int} {vs : List V} {ps : List (Int × Int)} : H a = some (.tup [.int x, .int y]) → Ivs H vs ps → Ivs H (.ref a :: vs) ((x, y) :: ps)
theorem Ivs.length {H : Hp} {vs : List V} {ps : List (Int × Int)} (h : Ivs H vs ps) : vs.length = ps.length := by
  induction h with
  | nil => rfl
  | cons _ _ ih => rw [List.length_cons, List.length_cons, ih]
theorem Ivs.same {H H' : Hp} (s : Same H H') {vs : List V} {ps : List (Int × Int)} (h : Ivs H vs ps) : Ivs H' vs ps := by
  induction h with
  | nil => exact .nil
  | cons e _ ih => exact .cons (s _ _ e) ih
theorem Ivs.kp {d c : Addr} {n : Int} {H H' : Hp} (k : Kp d c H H') (dk : Dk H d c n) {vs : List V} {ps : List (Int × Int)} (h : Ivs H vs ps) : Ivs H' vs ps := by
  induction h with
  | nil => exact .nil
  | cons e _ ih => exact .cons (k.tup dk e) ih
theorem Ivs.get {H : Hp} {vs : List V} {ps : List (Int × Int)} (h : Ivs H vs ps) : ∀ {i : Nat} {v : V}, vs[i]? = some v → ∃ a x y, v = .ref a ∧ ps[i]? = some (x, y) ∧ H a = some (.tup [.int x, .int y]) := by
  induction h with
  | nil =>
    intro i v e
    simp at e
  | cons e _ ih =>
    intro i v q
    cases i with
    | zero =>
      cases q
      exact ⟨_, _, _, rfl, rfl, e⟩
    | succ i => exact ih q
theorem Ivs.snoc {H : Hp} {vs : List V} {ps : List (Int × Int)} {a : Addr} {x y : Int} (h : Ivs H vs ps) (e : H a = some (.tup [.int x, .int y])) : Ivs H (vs ++ [.ref a]) (ps ++ [(x, y)]) := by
  induction h with
  | nil => exact .cons e .nil
  | cons z _ ih => exact .cons z ih
def pairD (p : Int × Int) : PyData := .tuple [.int p.1, .int p.2]
theorem Ivs.dp {K : PySem.W.Frag} {H : Hp} {vs : List V} {ps : List (Int × Int)} (h : Ivs H vs ps) : DpAll K H vs (ps.map pairD) := by
  induction h with
  | nil => exact .nil
  | cons e _ ih => exact .cons (dp2 e) ih

def strI (f s : Int) (p : Int × Int) : Int × Int := (p.1 * f + s, p.2 * f + f - 1 + s)
def sp_law_stretched (K : PySem.W.Frag) : Sp := fun vs H Q _ => ∃ (a : Addr) (f s : Int) (us : List V) (ps : List (Int × Int)), vs = [.ref a, .int f, .int s] ∧ (SqL K H a us ∨ SqT K H a us) ∧ Ivs H us ps ∧ ps.length ≤ 100 ∧ (∀ p ∈ ps, p.1.natAbs < 2 ^ 30 ∧ p.2.natAbs < 2 ^ 30) ∧ f.natAbs < 2 ^ 60 ∧
  ∀ H' p ws, Same H H' → H' p = some (.tup ws) → Ivs H' ws (ps.map (strI f s)) → Q (.ref p) H'
theorem ok_law_stretched (T : Tx K mg f_contains f_intersect f_hull_of f_law_deck f_law_draw f_law_same f_law_interval f_law_stretched f_law_positions f_law_due f_law d_contains d_intersect d_hull_of d_law_deck d_law_draw d_law_same d_law_interval d_law_stretched d_law_positions d_law_due d_law) : FnOk P w K mg base CX0 1 f_law_stretched d_law_stretched ["_law_row", "_law_factor", "_law_shift"] (sp_law_stretched K) := by
  refine T.F_law_stretched.ok sc_law_stretched (fun vs H Q E h => ?_) (fun cdv A outer s H vs Q E hr h => ?_)
  · obtain ⟨a, f, s, us, ps, rfl, _⟩ := h
    rfl
  · obtain ⟨a, f, sh, us, ps, rfl, row, iv, few, low, fs, q⟩ := h
    have turn : ∀ (D : Addr) (i : Nat) (x : V) (H' : Hp), H D = none → us[i]? = some x → (Same H H' ∧ ∃ ws, H' D = some (.lst ws) ∧ Ivs H' ws ((ps.take i).map (strI f sh))) →
        ∃ b x1 x2, x = .ref b ∧ H' b = some (.tup [.int x1, .int x2]) ∧ x1.natAbs < 2 ^ 30 ∧ x2.natAbs < 2 ^ 30 ∧ ∃ ws, H' D = some (.lst ws) ∧ ws.length < sizeLine ∧
          ∀ t, H' t = none → (upd H' t (.tup [.int (x1 * f + sh), .int (x2 * f + f - 1 + sh)])) D = some (.lst ws) ∧
            (Same H (upd (upd H' t (.tup [.int (x1 * f + sh), .int (x2 * f + f - 1 + sh)])) D (.lst (ws ++ [.ref t]))) ∧ ∃ ws', (upd (upd H' t (.tup [.int (x1 * f + sh), .int (x2 * f + f - 1 + sh)])) D (.lst (ws ++ [.ref t]))) D = some (.lst ws') ∧ Ivs (upd (upd H' t (.tup [.int (x1 * f + sh), .int (x2 * f + f - 1 + sh)])) D (.lst (ws ++ [.ref t]))) ws' ((ps.take (i + 1)).map (strI f sh))) := by
      rintro D i x H' nD hi ⟨sm, ws, eD, ivw⟩
      obtain ⟨b, x1, x2, rfl, ep, eb⟩ := iv.get hi
      have lo := low _ (List.mem_of_getElem? ep)
      refine ⟨b, x1, x2, rfl, sm _ _ eb, lo.1, lo.2, ws, eD, ?_, fun t nt => ?_⟩
      · rw [ivw.length, List.length_map]
        exact small1000 (Nat.le_trans (List.length_take_le' _ _) (by omega))
      · have s1 := same_new (o := .tup [.int (x1 * f + sh), .int (x2 * f + f - 1 + sh)]) nt
        have nDt : D ≠ t := ne_of_none eD nt
        have off : ∀ {b' : Addr} {zs : List V}, H' b' = some (.tup zs) → b' ≠ D := fun e => ne_of e eD (fun z => by cases z)
        refine ⟨s1 _ _ eD, fun b' o e => ?_, _, upd_same, ?_⟩
        · rw [upd_ne (ne_of_none e nD)]
          exact s1 _ _ (sm _ _ e)
        · have up : ∀ {vs : List V} {qs : List (Int × Int)}, Ivs H' vs qs → Ivs (upd (upd H' t (.tup [.int (x1 * f + sh), .int (x2 * f + f - 1 + sh)])) D (.lst (ws ++ [.ref t]))) vs qs := by
            intro vs qs hv
            induction hv with
            | nil => exact .nil
            | cons e _ ih =>
              refine .cons ?_ ih
              rw [upd_ne (off e)]
              exact s1 _ _ e
          rw [List.take_add_one, ep, List.map_append]
          refine (up ivw).snoc ?_
          rw [upd_ne nDt.symm, upd_same]
    have last : ∀ (D : Addr) (H' : Hp), (Same H H' ∧ ∃ ws, H' D = some (.lst ws) ∧ Ivs H' ws ((ps.take us.length).map (strI f sh))) → ∃ p ys, [V.ref D] = [.ref p] ∧ ((SqL K H' p ys ∧ ∀ l, H' l = none → Q (.ref l) (upd H' l (.tup ys))) ∨ (SqT K H' p ys ∧ Q (.ref p) H')) := by
      rintro D H' ⟨sm, ws, eD, ivw⟩
      refine ⟨D, ws, rfl, .inl ⟨SqL.of eD, fun l nl => ?_⟩⟩
      rw [iv.length, List.take_length] at ivw
      exact q _ l ws (sm.trans (same_new nl)) upd_same (ivw.same (same_new nl))
    rcases row with row | row
    · refine ⟨_, (pss_one (ps_ret (pe_callTy call_tuple_of (by rfl) T.z_tuple (by decide +kernel) (pa_cons (pe_lc (own := [("_law_low", 3), ("_law_high", 4)]) (g := (gTup K 2 (gCons (gName 3) (gCons (gName 4) gNil)))) (tt := tYes) (by rfl) sc_law_stretched.nd (pi_list (pv 0)) (blkOk_by (own := [("_law_low", 3), ("_law_high", 4)]) (N := N_law_stretched) (sc := defScope s_law_stretched) (by decide +kernel)) (fun _ _ _ _ _ => (pg_tup rfl (pgs_cons (pg_name (i := 3) sc_law_stretched.nd rfl (Or.inl rfl)) (pgs_cons (pg_name (i := 4) sc_law_stretched.nd rfl (Or.inl rfl)) pgs_nil)))) (fun _ _ _ _ _ => pts_nil) (fun _ _ _ _ _ => (pe_tup (pa_cons (pe_op op_add (pe_op op_mulW (pv 3) (pv 1)) (pv 2)) (pa_cons (pe_op op_add (pe_op op_sub (pe_op op_add (pe_op op_mulW (pv 4) (pv 1)) (pv 1)) pe_int) (pv 2)) pa_nil))))) pa_nil)))), ?_⟩
      refine ⟨.ref a, rfl, a, rfl, ⟨_, row⟩, fun D nD => ?_⟩
      refine lc_list (K := K) (a := a) (xs := us) (fun i H' => Same H H' ∧ ∃ ws, H' D = some (.lst ws) ∧ Ivs H' ws ((ps.take i).map (strI f sh))) ⟨same_new nD, [], upd_same, .nil⟩ (fun i H' _ h => h.1.seq row) ?_ (fun H' h => last D H' h)
      intro i x H' hi h
      obtain ⟨b, x1, x2, rfl, eb, lo1, lo2, ws, eD, sz, step⟩ := turn D i x H' nD hi h
      refine ⟨b, _, rfl, SqT.of eb, rfl, .int x1, _, rfl, .int x2, _, rfl, rfl, rfl, .int x1, rfl, .int f, rfl, _, _, rfl, rfl, wide_mul lo1 fs (by decide) (by decide) (by decide), .int sh, rfl, _, _, rfl, rfl, .int x2, rfl, .int f, rfl, _, _, rfl, rfl, wide_mul lo2 fs (by decide) (by decide) (by decide), .int f, rfl, _, _, rfl, rfl, _, _, rfl, rfl, .int sh, rfl, _, _, rfl, rfl, by show 2 ≤ sizeLine; decide, fun t nt => ?_⟩
      obtain ⟨e1, e2⟩ := step t nt
      exact ⟨ws, e1, sz, e2⟩
    · refine ⟨_, (pss_one (ps_ret (pe_callTy call_tuple_of (by rfl) T.z_tuple (by decide +kernel) (pa_cons (pe_lc (own := [("_law_low", 3), ("_law_high", 4)]) (g := (gTup K 2 (gCons (gName 3) (gCons (gName 4) gNil)))) (tt := tYes) (by rfl) sc_law_stretched.nd (pi_tup (pv 0)) (blkOk_by (own := [("_law_low", 3), ("_law_high", 4)]) (N := N_law_stretched) (sc := defScope s_law_stretched) (by decide +kernel)) (fun _ _ _ _ _ => (pg_tup rfl (pgs_cons (pg_name (i := 3) sc_law_stretched.nd rfl (Or.inl rfl)) (pgs_cons (pg_name (i := 4) sc_law_stretched.nd rfl (Or.inl rfl)) pgs_nil)))) (fun _ _ _ _ _ => pts_nil) (fun _ _ _ _ _ => (pe_tup (pa_cons (pe_op op_add (pe_op op_mulW (pv 3) (pv 1)) (pv 2)) (pa_cons (pe_op op_add (pe_op op_sub (pe_op op_add (pe_op op_mulW (pv 4) (pv 1)) (pv 1)) pe_int) (pv 2)) pa_nil))))) pa_nil)))), ?_⟩
      refine ⟨.ref a, rfl, a, rfl, ⟨_, row⟩, fun D nD => ?_⟩
      refine lc_tup (K := K) (a := a) (xs := us) (fun i H' => Same H H' ∧ ∃ ws, H' D = some (.lst ws) ∧ Ivs H' ws ((ps.take i).map (strI f sh))) ⟨same_new nD, [], upd_same, .nil⟩ (fun i H' _ h => sqT_same h.1 row) ?_ (fun H' h => last D H' h)
      intro i x H' hi h
      obtain ⟨b, x1, x2, rfl, eb, lo1, lo2, ws, eD, sz, step⟩ := turn D i x H' nD hi h
      refine ⟨b, _, rfl, SqT.of eb, rfl, .int x1, _, rfl, .int x2, _, rfl, rfl, rfl, .int x1, rfl, .int f, rfl, _, _, rfl, rfl, wide_mul lo1 fs (by decide) (by decide) (by decide), .int sh, rfl, _, _, rfl, rfl, .int x2, rfl, .int f, rfl, _, _, rfl, rfl, wide_mul lo2 fs (by decide) (by decide) (by decide), .int f, rfl, _, _, rfl, rfl, _, _, rfl, rfl, .int sh, rfl, _, _, rfl, rfl, by show 2 ≤ sizeLine; decide, fun t nt => ?_⟩
      obtain ⟨e1, e2⟩ := step t nt
      exact ⟨ws, e1, sz, e2⟩

theorem mul_mono {a b f : Int} (hf : 0 < f) : a * f ≤ b * f ↔ a ≤ b := ⟨fun h => Int.le_of_mul_le_mul_right h hf, fun h => Int.mul_le_mul_of_nonneg_right h (by omega)⟩
theorem str_contains {x y u v f s : Int} (hf : 0 < f) : (decide (x * f + s ≤ u * f + s) && decide (v * f + f - 1 + s ≤ y * f + f - 1 + s)) = (decide (x ≤ u) && decide (v ≤ y)) := by
  have e1 : decide (x * f + s ≤ u * f + s) = decide (x ≤ u) := decide_eq_decide.mpr (by
    have := mul_mono (a := x) (b := u) hf
    omega)
  have e2 : decide (v * f + f - 1 + s ≤ y * f + f - 1 + s) = decide (v ≤ y) := decide_eq_decide.mpr (by
    have := mul_mono (a := v) (b := y) hf
    omega)
  rw [e1, e2]
theorem str_mxl {x u f s : Int} (hf : 0 < f) : mxI (x * f + s) (u * f + s) = mxI x u * f + s := by
  have := mul_mono (a := u) (b := x) hf
  unfold mxI
  split <;> split <;> omega
theorem str_mnl {x u f s : Int} (hf : 0 < f) : mnI (x * f + s) (u * f + s) = mnI x u * f + s := by
  have := mul_mono (a := x) (b := u) hf
  unfold mnI
  split <;> split <;> omega
theorem str_mxh {y v f s : Int} (hf : 0 < f) : mxI (y * f + f - 1 + s) (v * f + f - 1 + s) = mxI y v * f + f - 1 + s := by
  have := mul_mono (a := v) (b := y) hf
  unfold mxI
  split <;> split <;> omega
theorem str_mnh {y v f s : Int} (hf : 0 < f) : mnI (y * f + f - 1 + s) (v * f + f - 1 + s) = mnI y v * f + f - 1 + s := by
  have := mul_mono (a := y) (b := v) hf
  unfold mnI
  split <;> split <;> omega
theorem str_meet {x y u v f s : Int} (hf : 0 < f) : meetI (x * f + s) (y * f + f - 1 + s) (u * f + s) (v * f + f - 1 + s) = (meetI x y u v).map (strI f s) := by
  unfold meetI
  rw [str_mxl hf, str_mnh hf]
  by_cases h : mxI x u ≤ mnI y v
  · have := (mul_mono (a := mxI x u) (b := mnI y v) hf).mpr h
    rw [if_pos h, if_pos (by omega)]
    rfl
  · have h2 : mnI y v + 1 ≤ mxI x u := by omega
    have h3 := (mul_mono (a := mnI y v + 1) (b := mxI x u) hf).mpr h2
    rw [Int.add_mul] at h3
    rw [if_neg h, if_neg (by omega)]
    rfl
theorem meet_comm (x y u v : Int) : meetI u v x y = meetI x y u v := by
  have e1 : mxI u x = mxI x u := by
    unfold mxI
    split <;> split <;> omega
  have e2 : mnI v y = mnI y v := by
    unfold mnI
    split <;> split <;> omega
  unfold meetI
  rw [e1, e2]
def dueD (x y u v : Int) : PyData := .list [.bool (decide (x ≤ u) && decide (v ≤ y)), optD (meetI x y u v), .tuple [.int (mnI x u), .int (mxI y v)]]
theorem sm_opt {o : Option (Int × Int)} (h : ∀ p, o = some p → p.1.natAbs < 10 ^ 30 ∧ p.2.natAbs < 10 ^ 30) : Sm 202 1 (optD o) := by
  match o, h with
  | none, _ => exact Sm.none.mono (by decide) (by decide)
  | some (x, y), h =>
    have z := h _ rfl
    exact sm2 z.1 z.2
theorem sm_three {b : Bool} {o : Option (Int × Int)} {x y : Int} (h : ∀ p, o = some p → p.1.natAbs < 10 ^ 30 ∧ p.2.natAbs < 10 ^ 30) (hx : x.natAbs < 10 ^ 30) (hy : y.natAbs < 10 ^ 30) : Sm 609 2 (.list [.bool b, optD o, .tuple [.int x, .int y]]) := by
  have z := Sm.lst (n := 202) (dp := 1) (ds := [.bool b, optD o, .tuple [.int x, .int y]]) (fun d hd => by
    rcases List.mem_cons.mp hd with rfl | hd
    · exact (Sm.bool b).mono (by decide) (by decide)
    · rcases List.mem_cons.mp hd with rfl | hd
      · exact sm_opt h
      · rcases List.mem_cons.mp hd with rfl | hd
        · exact sm2 hx hy
        · cases hd)
  exact z
theorem small_due {x y u v B : Int} (hx : 0 ≤ x ∧ x < B) (hy : 0 ≤ y ∧ y < B) (hu : 0 ≤ u ∧ u < B) (hv : 0 ≤ v ∧ v < B) (hB : B ≤ 10 ^ 29) : Sm 609 2 (dueD x y u v) := by
  have b1 : 0 ≤ mnI x u ∧ mnI x u < B := by
    unfold mnI
    split <;> omega
  have b2 : 0 ≤ mxI y v ∧ mxI y v < B := by
    unfold mxI
    split <;> omega
  have b3 : 0 ≤ mxI x u ∧ mxI x u < B := by
    unfold mxI
    split <;> omega
  have b4 : 0 ≤ mnI y v ∧ mnI y v < B := by
    unfold mnI
    split <;> omega
  refine sm_three (fun p hp => ?_) (by omega) (by omega)
  unfold meetI at hp
  split at hp
  · cases hp
    constructor
    · show (mxI x u).natAbs < 10 ^ 30
      omega
    · show (mnI y v).natAbs < 10 ^ 30
      omega
  · cases hp
theorem dp_three {K : PySem.W.Frag} {H : Hp} {p t : Addr} {b : Bool} {r : V} {o : Option (Int × Int)} {x y : Int} (e : H p = some (.lst [.bl b, r, .ref t])) (ov : OV H r o) (et : H t = some (.tup [.int x, .int y])) :
    Dp K H (.ref p) (.list [.bool b, optD o, .tuple [.int x, .int y]]) := .lst (SqL.of e) (.cons (.bl b) (.cons ov.dp (.cons (dp2 et) .nil)))
theorem same_of {H H0 : Hp} {p t : Addr} {b : Bool} {r : V} {o : Option (Int × Int)} (_ : OV H0 r o) (n : H p = none) : Same H (upd H p (.lst [.bl b, r, .ref t])) := same_new n
theorem dueD_str {x y u v f s : Int} (f0 : 0 < f) : dueD (x * f + s) (y * f + f - 1 + s) (u * f + s) (v * f + f - 1 + s) = .list [.bool (decide (x ≤ u) && decide (v ≤ y)), optD ((meetI x y u v).map (strI f s)), .tuple [.int (mnI x u * f + s), .int (mxI y v * f + f - 1 + s)]] := by
  unfold dueD
  rw [str_contains f0, str_meet f0, str_mnl f0, str_mxh f0]
def sp_law (K : PySem.W.Frag) : Sp := fun vs H Q _ => ∃ (a : Addr) (ns : List Int), vs = [.ref a] ∧ SqL K H a (ns.map V.int) ∧ ns.length ≤ 63 ∧ ∀ H', Q (.bl true) H'
theorem lim3 {r : Int} (h0 : 0 ≤ r) (h1 : r < 3) : ∃ L : Int, atI [V.int 2, .int 5, .int 12] r = some (.int L) ∧ 0 < L ∧ L ≤ 12 := by
  have : r = 0 ∨ r = 1 ∨ r = 2 := by omega
  rcases this with rfl | rfl | rfl
  · exact ⟨2, rfl, by decide, by decide⟩
  · exact ⟨5, rfl, by decide, by decide⟩
  · exact ⟨12, rfl, by decide, by decide⟩
theorem ok_law (T : Tx K mg f_contains f_intersect f_hull_of f_law_deck f_law_draw f_law_same f_law_interval f_law_stretched f_law_positions f_law_due f_law d_contains d_intersect d_hull_of d_law_deck d_law_draw d_law_same d_law_interval d_law_stretched d_law_positions d_law_due d_law) : FnG P w K mg base 3 f_law d_law ["_law_script"] (sp_law K) := by
  refine FnG.of T.F_law sc_law (fun {vs H Q} h => ?_) (fun cdv A outer s H vs Q hr hq h => ?_)
  · obtain ⟨a, ns, rfl, _⟩ := h
    rfl
  · obtain ⟨a, ns, rfl, hS, hlen, q⟩ := h
    refine ⟨_, (pss_cons (ps_set (i := 1) sc_law.nd rfl (Or.inl rfl) (pe_call (ok_law_deck T) (hr.mono (by decide)) (by rfl) T.g_law_deck T.F_law_deck.kp T.b_law_deck .nil pass0 (pa_cons (pv 0) pa_nil)))
      (pss_cons (ps_for PassesOwn.never rfl (pi_range1 (by rfl) T.z_range (pa_cons pe_int pa_nil)) (pg_name (i := 2) sc_law.nd rfl (Or.inl rfl))
      (pss_cons (ps_set (i := 3) sc_law.nd rfl (Or.inl rfl) (pe_ix ix_list (pe_lst (pa_cons pe_int (pa_cons pe_int (pa_cons pe_int pa_nil)))) (pe_call (ok_law_draw T) (hr.mono (by decide)) (by rfl) T.g_law_draw T.F_law_draw.kp T.b_law_draw .nil pass0 (pa_cons (pv 1) (pa_cons pe_int pa_nil))) (fun _ _ => rfl)))
      (pss_cons (ps_par (by rfl) sc_law.nd (i := 4) (j := 5) rfl rfl (by decide) rfl rfl (pa_cons (pe_call (ok_law_interval T) (hr.mono (by decide)) (by rfl) T.g_law_interval T.F_law_interval.kp T.b_law_interval .nil pass0 (pa_cons (pv 1) (pa_cons (pv 3) pa_nil))) (pa_cons (pe_call (ok_law_interval T) (hr.mono (by decide)) (by rfl) T.g_law_interval T.F_law_interval.kp T.b_law_interval .nil pass0 (pa_cons (pv 1) (pa_cons (pv 3) pa_nil))) pa_nil)) (by rfl))
      (pss_cons (ps_set (i := 6) sc_law.nd rfl (Or.inl rfl) (pe_call (ok_law_due T) (hr.mono (by decide)) (by rfl) T.g_law_due T.F_law_due.kp T.b_law_due .nil pass0 (pa_cons (pv 4) (pa_cons (pv 5) pa_nil))))
      (pss_cons (ps_for PassesOwn.never rfl (pi_list (pe_lst (pa_cons (pe_tup (pa_cons (pv 4) (pa_cons (pv 5) pa_nil))) (pa_cons (pe_tup (pa_cons (pv 5) (pa_cons (pv 4) pa_nil))) pa_nil)))) (pg_tup rfl (pgs_cons (pg_name (i := 7) sc_law.nd rfl (Or.inl rfl)) (pgs_cons (pg_name (i := 8) sc_law.nd rfl (Or.inl rfl)) pgs_nil)))
      (pss_cons (ps_set (i := 9) sc_law.nd rfl (Or.inl rfl) (pe_lst (pa_cons (pe_call (ok_contains T) (hr.mono (by decide)) (by rfl) T.g_contains T.F_contains.kp T.b_contains .nil pass0 (pa_cons (pv 7) (pa_cons (pv 8) pa_nil))) (pa_cons (pe_call (ok_intersect T) (hr.mono (by decide)) (by rfl) T.g_intersect T.F_intersect.kp T.b_intersect .nil pass0 (pa_cons (pv 7) (pa_cons (pv 8) pa_nil))) (pa_cons (pe_call (ok_hull_of T) (hr.mono (by decide)) (by rfl) T.g_hull_of T.F_hull_of.kp T.b_hull_of .nil pass0 (pa_cons (pv 7) (pa_cons (pv 8) pa_nil))) pa_nil)))))
      (pss_one (ps_if (pt_not (pt_val (pe_callG (ok_law_same T) (hr.mono (by decide)) hq (by rfl) T.g_law_same T.F_law_same.kp T.b_law_same (pa_cons (pv 9) (pa_cons (pe_op op_cat (pe_lst (pa_cons (pe_ix ix_list (pe_call (ok_law_due T) (hr.mono (by decide)) (by rfl) T.g_law_due T.F_law_due.kp T.b_law_due .nil pass0 (pa_cons (pv 7) (pa_cons (pv 8) pa_nil))) pe_int (fun _ _ => rfl)) pa_nil)) (pe_slice sl_list (pv 6) (po_some pe_int) po_none)) pa_nil)))))
      (pss_one (ps_ret pe_bl))
      pss_nil))))
      (pss_cons (ps_par (by rfl) sc_law.nd (i := 10) (j := 11) rfl rfl (by decide) rfl rfl (pa_cons (pe_op op_add pe_int (pe_call (ok_law_draw T) (hr.mono (by decide)) (by rfl) T.g_law_draw T.F_law_draw.kp T.b_law_draw .nil pass0 (pa_cons (pv 1) (pa_cons (pe_op op_pow pe_int pe_int) pa_nil)))) (pa_cons (pe_call (ok_law_draw T) (hr.mono (by decide)) (by rfl) T.g_law_draw T.F_law_draw.kp T.b_law_draw .nil pass0 (pa_cons (pv 1) (pa_cons (pe_op op_pow pe_int pe_int) pa_nil))) pa_nil)) (by rfl))
      (pss_cons (ps_asg (pe_call (ok_law_stretched T) (hr.mono (by decide)) (by rfl) T.g_law_stretched T.F_law_stretched.kp T.b_law_stretched .nil pass0 (pa_cons (pe_tup (pa_cons (pv 4) (pa_cons (pv 5) pa_nil))) (pa_cons (pv 10) (pa_cons (pv 11) pa_nil)))) (pg_tup rfl (pgs_cons (pg_name (i := 7) sc_law.nd rfl (Or.inl rfl)) (pgs_cons (pg_name (i := 8) sc_law.nd rfl (Or.inl rfl)) pgs_nil))))
      (pss_cons (ps_set (i := 12) sc_law.nd rfl (Or.inl rfl) (pe_ifExp (pt_cmpR op_isN (pe_ix ix_list (pv 6) pe_int (fun _ _ => rfl)) pe_non (nomark _)) pe_non (pe_ix ix_tup (pe_call (ok_law_stretched T) (hr.mono (by decide)) (by rfl) T.g_law_stretched T.F_law_stretched.kp T.b_law_stretched .nil pass0 (pa_cons (pe_slice sl_list (pv 6) (po_some pe_int) (po_some pe_int)) (pa_cons (pv 10) (pa_cons (pv 11) pa_nil)))) pe_int (fun _ _ => rfl))))
      (pss_cons (ps_set (i := 13) sc_law.nd rfl (Or.inl rfl) (pe_lst (pa_cons (pe_ix ix_list (pv 6) pe_int (fun _ _ => rfl)) (pa_cons (pv 12) (pa_cons (pe_ix ix_tup (pe_call (ok_law_stretched T) (hr.mono (by decide)) (by rfl) T.g_law_stretched T.F_law_stretched.kp T.b_law_stretched .nil pass0 (pa_cons (pe_slice sl_list (pv 6) (po_some pe_int) po_none) (pa_cons (pv 10) (pa_cons (pv 11) pa_nil)))) pe_int (fun _ _ => rfl)) pa_nil)))))
      (pss_one (ps_if (pt_not (pt_val (pe_callG (ok_law_same T) (hr.mono (by decide)) hq (by rfl) T.g_law_same T.F_law_same.kp T.b_law_same (pa_cons (pe_lst (pa_cons (pe_call (ok_contains T) (hr.mono (by decide)) (by rfl) T.g_contains T.F_contains.kp T.b_contains .nil pass0 (pa_cons (pv 7) (pa_cons (pv 8) pa_nil))) (pa_cons (pe_call (ok_intersect T) (hr.mono (by decide)) (by rfl) T.g_intersect T.F_intersect.kp T.b_intersect .nil pass0 (pa_cons (pv 7) (pa_cons (pv 8) pa_nil))) (pa_cons (pe_call (ok_hull_of T) (hr.mono (by decide)) (by rfl) T.g_hull_of T.F_hull_of.kp T.b_hull_of .nil pass0 (pa_cons (pv 7) (pa_cons (pv 8) pa_nil))) pa_nil)))) (pa_cons (pv 13) pa_nil)))))
      (pss_one (ps_ret pe_bl))
      pss_nil)))))))))))
      (pss_one (ps_ret pe_bl)))), ?_⟩
    refine ⟨.ref a, rfl, a, ns, rfl, hS, hlen, fun H1 d c s1 nd nc dk0 => ?_⟩
    refine ⟨40, rfl, by decide, by decide, for_range (n := 40) (fun i σ H' => Dk H' d c (7 * i) ∧ ∃ y2 y3 y4 y5 y6 y7 y8 y9 y10 y11 y12 y13, σ = [some (.ref a), some (.ref d), y2, y3, y4, y5, y6, y7, y8, y9, y10, y11, y12, y13])
      ⟨(by rw [show (7 * ((0 : Nat) : Int)) = 0 by omega]; exact dk0), _, _, _, _, _, _, _, _, _, _, _, _, rfl⟩ ?_ (fun σ H' _ => q H')⟩
    rintro i σ H2 hi ⟨dk2, y2, y3, y4, y5, y6, y7, y8, y9, y10, y11, y12, y13, rfl⟩
    -- the limit
    refine ⟨by show 3 ≤ sizeLine; decide, fun p np => ?_⟩
    have off := dk2.off np
    refine ⟨.ref d, rfl, d, c, _, 3, rfl, dk2.kept (same_new np), by omega, by omega, by decide, by decide, fun H3 r kp3 dk3 r0 r1 => ?_⟩
    obtain ⟨L, eL, L0, L1⟩ := lim3 r0 r1
    refine ⟨p, _, r, _, rfl, rfl, SqL.of (kp3.keep off.1 off.2 upd_same), eL, ?_⟩
    -- two intervals
    refine ⟨.ref d, rfl, .int L, rfl, d, c, _, L, rfl, dk3, by omega, by omega, L0, by omega, fun H4 x y t1 kp4 dk4 x0 xy yL n1 et1 => ?_⟩
    refine ⟨.ref d, rfl, .int L, rfl, d, c, _, L, rfl, dk4, by omega, by omega, L0, by omega, fun H5 u v t2 kp5 dk5 u0 uv vL n2 et2 => ?_⟩
    replace et1 := kp5.tup dk4 et1
    refine ⟨.ref t1, .ref t2, rfl, ?_⟩
    -- what is due
    refine ⟨.ref t1, rfl, .ref t2, rfl, t1, t2, x, y, u, v, rfl, et1, et2, x0, xy, by omega, u0, uv, by omega, fun H6 p6 r6 h6 s6 np6 e6 ov6 eh6 => ?_⟩
    have off6 := dk5.off np6
    replace dk5 := dk5.kept s6
    replace et1 := s6 _ _ et1
    replace et2 := s6 _ _ et2
    -- both orders
    refine ⟨.ref t1, rfl, .ref t2, rfl, by show 2 ≤ sizeLine; decide, fun q1 nq1 => ?_⟩
    have sq1 := same_new (o := .tup [.ref t1, .ref t2]) nq1
    refine ⟨.ref t2, rfl, .ref t1, rfl, by show 2 ≤ sizeLine; decide, fun q2 nq2 => ?_⟩
    have sq2 := same_new (o := .tup [.ref t2, .ref t1]) nq2
    refine ⟨by show 2 ≤ sizeLine; decide, fun ql nql => ?_⟩
    have sql := same_new (o := .lst [.ref q1, .ref q2]) nql
    have s7 := sq1.trans (sq2.trans sql)
    have eq1 := sql _ _ (sq2 _ _ (upd_same (H := H6) (a := q1) (o := .tup [.ref t1, .ref t2])))
    have eq2 := sql _ _ (upd_same (H := upd H6 q1 (.tup [.ref t1, .ref t2])) (a := q2) (o := .tup [.ref t2, .ref t1]))
    have eql := upd_same (H := upd (upd H6 q1 (.tup [.ref t1, .ref t2])) q2 (.tup [.ref t2, .ref t1])) (a := ql) (o := .lst [.ref q1, .ref q2])
    generalize upd (upd (upd H6 q1 (.tup [.ref t1, .ref t2])) q2 (.tup [.ref t2, .ref t1])) ql (.lst [.ref q1, .ref q2]) = H7 at *
    replace dk5 := dk5.kept s7
    replace et1 := s7 _ _ et1
    replace et2 := s7 _ _ et2
    replace e6 := s7 _ _ e6
    replace ov6 := OV.same s7 ov6
    replace eh6 := s7 _ _ eh6
    refine ⟨ql, rfl, ⟨_, SqL.of eql⟩, for_list (K := K) (a := ql) (xs := [.ref q1, .ref q2]) (fun j σ H' => Same H7 H' ∧ ∃ z7 z8 z9, σ = [some (.ref a), some (.ref d), some (.int (0 + (i : Int))), some (.int L), some (.ref t1), some (.ref t2), some (.ref p6), z7, z8, z9, y10, y11, y12, y13])
      ⟨Same.refl _, _, _, _, rfl⟩ (fun j σ H' _ h => h.1.seq (SqL.of eql)) ?_ ?_⟩
    · rintro j z σ H8 hj ⟨sm, z7, z8, z9, rfl⟩
      have pick : ∃ qx ta tb xa ya xb yb, z = .ref qx ∧ H7 qx = some (.tup [.ref ta, .ref tb]) ∧ H7 ta = some (.tup [.int xa, .int ya]) ∧ H7 tb = some (.tup [.int xb, .int yb]) ∧ 0 ≤ xa ∧ xa ≤ ya ∧ ya < 1000 ∧ 0 ≤ xb ∧ xb ≤ yb ∧ yb < 1000 ∧ meetI xa ya xb yb = meetI x y u v ∧ mnI xa xb = mnI x u ∧ mxI ya yb = mxI y v := by
        match j, hj with
        | 0, hj =>
          cases hj
          exact ⟨q1, t1, t2, x, y, u, v, rfl, eq1, et1, et2, by omega, by omega, by omega, by omega, by omega, by omega, rfl, rfl, rfl⟩
        | 1, hj =>
          cases hj
          refine ⟨q2, t2, t1, u, v, x, y, rfl, eq2, et2, et1, by omega, by omega, by omega, by omega, by omega, by omega, meet_comm _ _ _ _, ?_, ?_⟩
          · unfold mnI
            split <;> split <;> omega
          · unfold mxI
            split <;> split <;> omega
        | k + 2, hj =>
          simp at hj
      obtain ⟨qx, ta, tb, xa, ya, xb, yb, rfl, eqx, eta, etb, xa0, xya, ya1, xb0, xyb, yb1, em, emn, emx⟩ := pick
      replace eta := sm _ _ eta
      replace etb := sm _ _ etb
      replace e6 := sm _ _ e6
      replace ov6 := OV.same sm ov6
      replace eh6 := sm _ _ eh6
      refine ⟨qx, _, rfl, SqT.of (sm _ _ eqx), rfl, .ref ta, [.ref tb], rfl, .ref tb, [], rfl, rfl, ?_⟩
      refine ⟨.ref ta, rfl, .ref tb, rfl, ta, tb, xa, ya, xb, yb, rfl, eta, etb, .ref ta, rfl, .ref tb, rfl, ta, tb, xa, ya, xb, yb, rfl, eta, etb, fun H9 r9 s9 ov9 => ?_⟩
      refine ⟨.ref ta, rfl, .ref tb, rfl, ta, tb, xa, ya, xb, yb, rfl, s9 _ _ eta, s9 _ _ etb, fun Ha th sa eh => ?_⟩
      refine ⟨by show 3 ≤ sizeLine; decide, fun pf npf => ?_⟩
      have sf := same_new (o := .lst [.bl (decide (xa ≤ xb) && decide (yb ≤ ya)), r9, .ref th]) npf
      have s89 := s9.trans (sa.trans sf)
      have epf := upd_same (H := Ha) (a := pf) (o := .lst [.bl (decide (xa ≤ xb) && decide (yb ≤ ya)), r9, .ref th])
      replace ov9 := OV.same (sa.trans sf) ov9
      replace eh := sf _ _ eh
      generalize upd Ha pf (.lst [.bl (decide (xa ≤ xb) && decide (yb ≤ ya)), r9, .ref th]) = Hb at *
      refine ⟨.ref pf, rfl, .ref ta, rfl, .ref tb, rfl, ta, tb, xa, ya, xb, yb, rfl, s89 _ _ eta, s89 _ _ etb, xa0, xya, ya1, xb0, xyb, yb1, fun Hc pd rd td sd npd ed ovd etd => ?_⟩
      refine ⟨pd, _, 0, _, rfl, rfl, SqL.of ed, rfl, by show 1 ≤ sizeLine; decide, fun pl npl => ?_⟩
      have sl := same_new (o := .lst [.bl (decide (xa ≤ xb) && decide (yb ≤ ya))]) npl
      refine ⟨.ref p6, rfl, 1, rfl, p6, _, rfl, SqL.of (sl _ _ (sd _ _ (s89 _ _ e6))), fun pc npc => ?_⟩
      have sc := same_new (o := .lst (cutV [.bl (decide (x ≤ u) && decide (v ≤ y)), r6, .ref h6] (some 1) none)) npc
      refine ⟨pl, pc, _, _, rfl, rfl, sc _ _ upd_same, upd_same, by show 3 ≤ sizeLine; decide, fun pe npe => ?_⟩
      have se := same_new (o := .lst ([.bl (decide (xa ≤ xb) && decide (yb ≤ ya))] ++ cutV [.bl (decide (x ≤ u) && decide (v ≤ y)), r6, .ref h6] (some 1) none)) npe
      have sbe := sd.trans (sl.trans (sc.trans se))
      have d1 := dp_same (K := K) sbe (dp_three epf ov9 eh)
      have d2 : Dp K (upd (upd (upd Hc pl (.lst [.bl (decide (xa ≤ xb) && decide (yb ≤ ya))])) pc (.lst (cutV [.bl (decide (x ≤ u) && decide (v ≤ y)), r6, .ref h6] (some 1) none))) pe (.lst ([.bl (decide (xa ≤ xb) && decide (yb ≤ ya))] ++ cutV [.bl (decide (x ≤ u) && decide (v ≤ y)), r6, .ref h6] (some 1) none))) (.ref pe) (dueD xa ya xb yb) := by
        unfold dueD
        rw [em, emn, emx]
        exact dp_three upd_same (OV.same (s89.trans sbe) ov6) (sbe _ _ (s89 _ _ eh6))
      refine ⟨_, _, dueD xa ya xb yb, 609, 2, rfl, d1, d2, small_due (B := 1000) ⟨by omega, by omega⟩ ⟨by omega, by omega⟩ ⟨by omega, by omega⟩ ⟨by omega, by omega⟩ (by decide), by decide, by decide, ?_⟩
      refine ⟨_, rfl, ?_⟩
      refine iteF ?_
      exact ⟨sm.trans (s89.trans sbe), _, _, _, rfl⟩
    · rintro σ H8 ⟨sm, z7, z8, z9, rfl⟩
      replace dk5 := dk5.kept sm
      replace et1 := sm _ _ et1
      replace et2 := sm _ _ et2
      replace e6 := sm _ _ e6
      replace ov6 := OV.same sm ov6
      replace eh6 := sm _ _ eh6
      have e10 : (10 : Int) ^ (10 : Int).toNat = 10000000000 := by decide
      -- factor, shift
      refine ⟨.ref d, rfl, 10, 10, rfl, rfl, ⟨by decide, by decide, by decide⟩, d, c, _, _, rfl, dk5, by omega, by omega, by decide, by decide, fun H9 r9 kp9 dk9 r90 r91 => ?_⟩
      rw [e10] at r91
      refine ⟨_, _, rfl, rfl, .ref d, rfl, 10, 10, rfl, rfl, ⟨by decide, by decide, by decide⟩, d, c, _, _, rfl, dk9, by omega, by omega, by decide, by decide, fun Ha sh kpa dka sh0 sh1 => ?_⟩
      rw [e10] at sh1
      refine ⟨_, _, rfl, ?_⟩
      have kp := kp9.trans kpa
      replace et1 := kp.tup dk5 et1
      replace et2 := kp.tup dk5 et2
      replace eh6 := kp.tup dk5 eh6
      replace ov6 := OV.kp kp dk5 ov6
      replace e6 := kp.keep off6.1 off6.2 e6
      obtain ⟨f, hf⟩ : ∃ f : Int, 1 + r9 = f := ⟨_, rfl⟩
      have f0 : 0 < f := by omega
      have f1 : f ≤ 10000000000 := by omega
      have fb : f.natAbs < 2 ^ 60 := by omega
      -- both stretched
      refine ⟨.ref t1, rfl, .ref t2, rfl, by show 2 ≤ sizeLine; decide, fun tt ntt => ?_⟩
      have st := same_new (o := .tup [.ref t1, .ref t2]) ntt
      refine ⟨.int f, (by subst hf; rfl), .int sh, rfl, tt, f, sh, [.ref t1, .ref t2], [(x, y), (u, v)], rfl, .inr (SqT.of upd_same), .cons (st _ _ et1) (.cons (st _ _ et2) .nil), by show 2 ≤ 100; decide, ?_, fb, fun Hb pb ws sb epb ivb => ?_⟩
      · intro p hp
        rcases List.mem_cons.mp hp with rfl | hp
        · constructor
          · show x.natAbs < 2 ^ 30
            omega
          · show y.natAbs < 2 ^ 30
            omega
        · rcases List.mem_cons.mp hp with rfl | hp
          · constructor
            · show u.natAbs < 2 ^ 30
              omega
            · show v.natAbs < 2 ^ 30
              omega
          · cases hp
      have stb := st.trans sb
      obtain ⟨u1, u2, rfl, eu1, eu2⟩ : ∃ u1 u2, ws = [.ref u1, .ref u2] ∧ Hb u1 = some (.tup [.int (x * f + sh), .int (y * f + f - 1 + sh)]) ∧ Hb u2 = some (.tup [.int (u * f + sh), .int (v * f + f - 1 + sh)]) := by
        cases ivb with
        | cons e1 r =>
          cases r with
          | cons e2 r =>
            cases r with
            | nil => exact ⟨_, _, rfl, e1, e2⟩
      refine ⟨pb, _, rfl, SqT.of epb, rfl, .ref u1, [.ref u2], rfl, .ref u2, [], rfl, rfl, ?_⟩
      replace dka := dka.kept stb
      replace e6 := stb _ _ e6
      replace ov6 := OV.same stb ov6
      replace eh6 := stb _ _ eh6
      -- the meeting, stretched
      refine ⟨.ref p6, rfl, p6, _, 1, _, rfl, rfl, SqL.of e6, rfl, rfl, _, rfl, ?_⟩
      have bounds : ∀ p, meetI x y u v = some p → p.1.natAbs < 2 ^ 30 ∧ p.2.natAbs < 2 ^ 30 := by
        intro p hp
        unfold meetI at hp
        split at hp
        · cases hp
          constructor
          · show (mxI x u).natAbs < 2 ^ 30
            unfold mxI
            split <;> omega
          · show (mnI y v).natAbs < 2 ^ 30
            unfold mnI
            split <;> omega
        · cases hp
      refine ite2 (fun e => ?tt) (fun e => ?ff)
      case' tt =>
        have er : r6 = .non := of_decide_eq_true e
        have eo : meetI x y u v = none := by
          cases ho : meetI x y u v with
          | none => rfl
          | some p =>
            rw [ho] at ov6
            obtain ⟨t, z, _⟩ := ov6
            rw [er] at z
            cases z
        have sn := Same.refl Hb
        have ovn : OV Hb .non ((meetI x y u v).map (strI f sh)) := by
          rw [eo]
          rfl
      case' ff =>
        obtain ⟨lo, hi2, eo⟩ : ∃ lo hi2, meetI x y u v = some (lo, hi2) := by
          cases ho : meetI x y u v with
          | none =>
            rw [ho] at ov6
            exact absurd (decide_eq_true (show r6 = V.non from ov6)) e
          | some p => exact ⟨p.1, p.2, rfl⟩
        have ov7 := ov6
        rw [eo] at ov7
        obtain ⟨tm, rfl, etm⟩ := ov7
        have bb := bounds _ eo
        refine ⟨.ref p6, rfl, 1, rfl, 2, rfl, p6, _, rfl, SqL.of e6, fun pc npc => ?_⟩
        have sc := same_new (o := .lst (cutV [.bl (decide (x ≤ u) && decide (v ≤ y)), .ref tm, .ref h6] (some 1) (some 2))) npc
        refine ⟨.int f, (by subst hf; rfl), .int sh, rfl, pc, f, sh, [.ref tm], [(lo, hi2)], rfl, .inl (SqL.of upd_same), .cons (sc _ _ etm) .nil, by show 1 ≤ 100; decide, ?_, fb, fun Hc pd wd sd epd ivd => ?_⟩
        · intro p hp
          rcases List.mem_cons.mp hp with rfl | hp
          · exact bb
          · cases hp
        obtain ⟨um, rfl, eum⟩ : ∃ um, wd = [.ref um] ∧ Hc um = some (.tup [.int (lo * f + sh), .int (hi2 * f + f - 1 + sh)]) := by
          cases ivd with
          | cons e1 r =>
            cases r with
            | nil => exact ⟨_, rfl, e1⟩
        refine ⟨pd, _, 0, _, rfl, rfl, SqT.of epd, rfl, ?_⟩
        have sn := sc.trans sd
        have ovn : OV Hc (.ref um) ((meetI x y u v).map (strI f sh)) := by
          rw [eo]
          exact ⟨um, rfl, eum⟩
      all_goals
        replace dka := dka.kept sn
        replace e6 := sn _ _ e6
        replace eh6 := sn _ _ eh6
        replace eu1 := sn _ _ eu1
        replace eu2 := sn _ _ eu2
        -- far
        refine ⟨.ref p6, rfl, p6, _, 0, _, rfl, rfl, SqL.of e6, rfl, _, rfl, .ref p6, rfl, 2, rfl, p6, _, rfl, SqL.of e6, fun pg npg => ?_⟩
        have sg := same_new (o := .lst [.ref h6]) npg
        refine ⟨.int f, (by subst hf; rfl), .int sh, rfl, pg, f, sh, [.ref h6], [(mnI x u, mxI y v)], rfl, .inl (SqL.of upd_same), .cons (sg _ _ eh6) .nil, by show 1 ≤ 100; decide, ?_, fb, fun Hd ph wh sh2 eph ivh => ?_⟩
        · intro p hp
          rcases List.mem_cons.mp hp with rfl | hp
          · constructor
            · show (mnI x u).natAbs < 2 ^ 30
              unfold mnI
              split <;> omega
            · show (mxI y v).natAbs < 2 ^ 30
              unfold mxI
              split <;> omega
          · cases hp
        obtain ⟨uh, rfl, euh⟩ : ∃ uh, wh = [.ref uh] ∧ Hd uh = some (.tup [.int (mnI x u * f + sh), .int (mxI y v * f + f - 1 + sh)]) := by
          cases ivh with
          | cons e1 r =>
            cases r with
            | nil => exact ⟨_, rfl, e1⟩
        refine ⟨ph, _, 0, _, rfl, rfl, SqT.of eph, rfl, by show 3 ≤ sizeLine; decide, fun pi npi => ?_⟩
        have si := same_of (b := decide (x ≤ u) && decide (v ≤ y)) (t := uh) ovn npi
        have sni := (sg.trans sh2).trans si
        replace dka := dka.kept sni
        replace eu1 := sni _ _ eu1
        replace eu2 := sni _ _ eu2
        have dpf := dp_three (K := K) upd_same (OV.same sni ovn) (si _ _ euh)
        -- the last comparison
        refine ⟨.ref u1, rfl, .ref u2, rfl, u1, u2, _, _, _, _, rfl, eu1, eu2, .ref u1, rfl, .ref u2, rfl, u1, u2, _, _, _, _, rfl, eu1, eu2, fun Hj rj sj ovj => ?_⟩
        refine ⟨.ref u1, rfl, .ref u2, rfl, u1, u2, _, _, _, _, rfl, sj _ _ eu1, sj _ _ eu2, fun Hk tk sk ehk => ?_⟩
        refine ⟨by show 3 ≤ sizeLine; decide, fun pm npm => ?_⟩
        have sm2 := same_new (H := Hk) (p := pm) (o := .lst [.bl (decide (x * f + sh ≤ u * f + sh) && decide (v * f + f - 1 + sh ≤ y * f + f - 1 + sh)), rj, .ref tk]) npm
        have slast := sj.trans (sk.trans sm2)
        have m1 := (mul_mono (a := 0) (b := x) f0).mpr x0
        have m2 := (mul_mono (a := x) (b := 12) f0).mpr (by omega)
        have m3 := (mul_mono (a := 0) (b := y) f0).mpr (by omega)
        have m4 := (mul_mono (a := y) (b := 12) f0).mpr (by omega)
        have m5 := (mul_mono (a := 0) (b := u) f0).mpr u0
        have m6 := (mul_mono (a := u) (b := 12) f0).mpr (by omega)
        have m7 := (mul_mono (a := 0) (b := v) f0).mpr (by omega)
        have m8 := (mul_mono (a := v) (b := 12) f0).mpr (by omega)
        have d1 := dp_three (K := K) upd_same (OV.same (sk.trans sm2) ovj) (sm2 _ _ ehk)
        have d2 := dp_same (K := K) slast dpf
        refine ⟨.ref pi, rfl, _, _, dueD (x * f + sh) (y * f + f - 1 + sh) (u * f + sh) (v * f + f - 1 + sh), 609, 2, rfl, d1, ?_, small_due (B := 200000000000) ⟨by omega, by omega⟩ ⟨by omega, by omega⟩ ⟨by omega, by omega⟩ ⟨by omega, by omega⟩ (by decide), by decide, by decide, ?_⟩
        · rw [dueD_str f0]
          exact d2
        refine ⟨_, rfl, ?_⟩
        refine iteF ?_
        refine ⟨?_, _, _, _, _, _, _, _, _, _, _, _, _, rfl⟩
        have en : (7 * (i : Int) + 1 + 2 + 2 + 1 + 1) = 7 * ((i + 1 : Nat) : Int) := by omega
        rw [en] at dka
        exact dka.kept slast

end
theorem all_mk {l : PySem.W.OpenLaw} {w : World} {K : PySem.W.Frag} {h : Heap} {mg : Str → Option Value} {fa f1 f2 f3 f4 f5 f6 f7 f8 f9 f10 f11 : Addr} (X : K.In h) (G : h.Ns mainGlobals mg) (hfa : mg "law" = some (.ref fa))
    {od1 an1 od2 an2 od3 an3 od4 an4 od5 an5 od6 an6 od7 an7 od8 an8 od9 an9 od10 an10 od11 an11 : Option Addr} {sl1 sl2 sl3 sl4 sl5 sl6 sl7 sl8 sl9 sl10 sl11 : Array (Option Value)} {oc1 kV1 dc1 pm1 cd1 ct1 oc2 kV2 dc2 pm2 cd2 ct2 oc3 kV3 dc3 pm3 cd3 ct3 oc4 kV4 dc4 pm4 cd4 ct4 oc5 kV5 dc5 pm5 cd5 ct5 oc6 kV6 dc6 pm6 cd6 ct6 oc7 kV7 dc7 pm7 cd7 ct7 oc8 kV8 dc8 pm8 cd8 ct8 oc9 kV9 dc9 pm9 cd9 ct9 oc10 kV10 dc10 pm10 cd10 ct10 oc11 kV11 dc11 pm11 cd11 ct11 : Value}
    (a1 : PySem.W.nsIn K mainGlobals "contains" = some (some (.ref f1))) (l1 : K.lookup f1 = some ⟨oc1, od1, .func (PySem.W.fnOf "contains" "contains" (defArgs s_contains) (defBody s_contains) (defScope s_contains) .none kV1 dc1 pm1 an1 cd1 ct1), sl1⟩) (c1 : PySem.W.codeIn K cd1 "contains" = true) (k1 : PySem.W.keepIn K (.ref f1) = true)
    (a2 : PySem.W.nsIn K mainGlobals "intersect" = some (some (.ref f2))) (l2 : K.lookup f2 = some ⟨oc2, od2, .func (PySem.W.fnOf "intersect" "intersect" (defArgs s_intersect) (defBody s_intersect) (defScope s_intersect) .none kV2 dc2 pm2 an2 cd2 ct2), sl2⟩) (c2 : PySem.W.codeIn K cd2 "intersect" = true) (k2 : PySem.W.keepIn K (.ref f2) = true)
    (a3 : PySem.W.nsIn K mainGlobals "hull_of" = some (some (.ref f3))) (l3 : K.lookup f3 = some ⟨oc3, od3, .func (PySem.W.fnOf "hull_of" "hull_of" (defArgs s_hull_of) (defBody s_hull_of) (defScope s_hull_of) .none kV3 dc3 pm3 an3 cd3 ct3), sl3⟩) (c3 : PySem.W.codeIn K cd3 "hull_of" = true) (k3 : PySem.W.keepIn K (.ref f3) = true)
    (a4 : PySem.W.nsIn K mainGlobals "_law_deck" = some (some (.ref f4))) (l4 : K.lookup f4 = some ⟨oc4, od4, .func (PySem.W.fnOf "_law_deck" "_law_deck" (defArgs s_law_deck) (defBody s_law_deck) (defScope s_law_deck) .none kV4 dc4 pm4 an4 cd4 ct4), sl4⟩) (c4 : PySem.W.codeIn K cd4 "_law_deck" = true) (k4 : PySem.W.keepIn K (.ref f4) = true)
    (a5 : PySem.W.nsIn K mainGlobals "_law_draw" = some (some (.ref f5))) (l5 : K.lookup f5 = some ⟨oc5, od5, .func (PySem.W.fnOf "_law_draw" "_law_draw" (defArgs s_law_draw) (defBody s_law_draw) (defScope s_law_draw) .none kV5 dc5 pm5 an5 cd5 ct5), sl5⟩) (c5 : PySem.W.codeIn K cd5 "_law_draw" = true) (k5 : PySem.W.keepIn K (.ref f5) = true)
    (a6 : PySem.W.nsIn K mainGlobals "_law_same" = some (some (.ref f6))) (l6 : K.lookup f6 = some ⟨oc6, od6, .func (PySem.W.fnOf "_law_same" "_law_same" (defArgs s_law_same) (defBody s_law_same) (defScope s_law_same) .none kV6 dc6 pm6 an6 cd6 ct6), sl6⟩) (c6 : PySem.W.codeIn K cd6 "_law_same" = true) (k6 : PySem.W.keepIn K (.ref f6) = true)
    (a7 : PySem.W.nsIn K mainGlobals "_law_interval" = some (some (.ref f7))) (l7 : K.lookup f7 = some ⟨oc7, od7, .func (PySem.W.fnOf "_law_interval" "_law_interval" (defArgs s_law_interval) (defBody s_law_interval) (defScope s_law_interval) .none kV7 dc7 pm7 an7 cd7 ct7), sl7⟩) (c7 : PySem.W.codeIn K cd7 "_law_interval" = true) (k7 : PySem.W.keepIn K (.ref f7) = true)
    (a8 : PySem.W.nsIn K mainGlobals "_law_stretched" = some (some (.ref f8))) (l8 : K.lookup f8 = some ⟨oc8, od8, .func (PySem.W.fnOf "_law_stretched" "_law_stretched" (defArgs s_law_stretched) (defBody s_law_stretched) (defScope s_law_stretched) .none kV8 dc8 pm8 an8 cd8 ct8), sl8⟩) (c8 : PySem.W.codeIn K cd8 "_law_stretched" = true) (k8 : PySem.W.keepIn K (.ref f8) = true)
    (a9 : PySem.W.nsIn K mainGlobals "_law_positions" = some (some (.ref f9))) (l9 : K.lookup f9 = some ⟨oc9, od9, .func (PySem.W.fnOf "_law_positions" "_law_positions" (defArgs s_law_positions) (defBody s_law_positions) (defScope s_law_positions) .none kV9 dc9 pm9 an9 cd9 ct9), sl9⟩) (c9 : PySem.W.codeIn K cd9 "_law_positions" = true) (k9 : PySem.W.keepIn K (.ref f9) = true)
    (a10 : PySem.W.nsIn K mainGlobals "_law_due" = some (some (.ref f10))) (l10 : K.lookup f10 = some ⟨oc10, od10, .func (PySem.W.fnOf "_law_due" "_law_due" (defArgs s_law_due) (defBody s_law_due) (defScope s_law_due) .none kV10 dc10 pm10 an10 cd10 ct10), sl10⟩) (c10 : PySem.W.codeIn K cd10 "_law_due" = true) (k10 : PySem.W.keepIn K (.ref f10) = true)
    (a11 : PySem.W.nsIn K mainGlobals "law" = some (some (.ref f11))) (l11 : K.lookup f11 = some ⟨oc11, od11, .func (PySem.W.fnOf "law" "law" (defArgs s_law) (defBody s_law) (defScope s_law) .none kV11 dc11 pm11 an11 cd11 ct11), sl11⟩) (c11 : PySem.W.codeIn K cd11 "law" = true) (k11 : PySem.W.keepIn K (.ref f11) = true)
    (z0 : PySem.W.nsIn K mainGlobals "abs" = some none) (z1 : PySem.W.nsIn K mainGlobals "len" = some none) (z2 : PySem.W.nsIn K mainGlobals "list" = some none) (z3 : PySem.W.nsIn K mainGlobals "max" = some none) (z4 : PySem.W.nsIn K mainGlobals "min" = some none) (z5 : PySem.W.nsIn K mainGlobals "range" = some none) (z6 : PySem.W.nsIn K mainGlobals "repr" = some none) (z7 : PySem.W.nsIn K mainGlobals "tuple" = some none) :
    ∃ fd : FuncData, (∀ (s : Shared) (v : Value), BindsTo s fd ⟨[v], []⟩ [("_law_script", v)]) ∧ ∀ base : Heap, K.In base → base.Ns mainGlobals mg → FnG l.prog w K mg base 3 fa fd ["_law_script"] (sp_law K) := by
  have e := hfa.symm.trans (PySem.W.mg_of X G a11)
  cases e
  have F1 := fun_mk (st := s_contains) l1 c1 k1
  have b1 := F1.binds (ps := ["outer", "inner"]) fun _ _ _ _ _ _ us hl => match us, hl with | [_, _], _ => rfl
  have F2 := fun_mk (st := s_intersect) l2 c2 k2
  have b2 := F2.binds (ps := ["first", "second"]) fun _ _ _ _ _ _ us hl => match us, hl with | [_, _], _ => rfl
  have F3 := fun_mk (st := s_hull_of) l3 c3 k3
  have b3 := F3.binds (ps := ["first", "second"]) fun _ _ _ _ _ _ us hl => match us, hl with | [_, _], _ => rfl
  have F4 := fun_mk (st := s_law_deck) l4 c4 k4
  have b4 := F4.binds (ps := ["_law_script"]) fun _ _ _ _ _ _ us hl => match us, hl with | [_], _ => rfl
  have F5 := fun_mk (st := s_law_draw) l5 c5 k5
  have b5 := F5.binds (ps := ["_law_deck_here", "_law_limit"]) fun _ _ _ _ _ _ us hl => match us, hl with | [_, _], _ => rfl
  have F6 := fun_mk (st := s_law_same) l6 c6 k6
  have b6 := F6.binds (ps := ["_law_value", "_law_due_here"]) fun _ _ _ _ _ _ us hl => match us, hl with | [_, _], _ => rfl
  have F7 := fun_mk (st := s_law_interval) l7 c7 k7
  have b7 := F7.binds (ps := ["_law_deck_here", "_law_limit"]) fun _ _ _ _ _ _ us hl => match us, hl with | [_, _], _ => rfl
  have F8 := fun_mk (st := s_law_stretched) l8 c8 k8
  have b8 := F8.binds (ps := ["_law_row", "_law_factor", "_law_shift"]) fun _ _ _ _ _ _ us hl => match us, hl with | [_, _, _], _ => rfl
  have F9 := fun_mk (st := s_law_positions) l9 c9 k9
  have b9 := F9.binds (ps := ["_law_interval_here"]) fun _ _ _ _ _ _ us hl => match us, hl with | [_], _ => rfl
  have F10 := fun_mk (st := s_law_due) l10 c10 k10
  have b10 := F10.binds (ps := ["_law_first", "_law_second"]) fun _ _ _ _ _ _ us hl => match us, hl with | [_, _], _ => rfl
  have F11 := fun_mk (st := s_law) l11 c11 k11
  have b11 := F11.binds (ps := ["_law_script"]) fun _ _ _ _ _ _ us hl => match us, hl with | [_], _ => rfl
  have T : Tx K mg _ _ _ _ _ _ _ _ _ _ _ _ _ _ _ _ _ _ _ _ _ _ := ⟨F1, b1, PySem.W.mg_of X G a1, F2, b2, PySem.W.mg_of X G a2, F3, b3, PySem.W.mg_of X G a3, F4, b4, PySem.W.mg_of X G a4, F5, b5, PySem.W.mg_of X G a5, F6, b6, PySem.W.mg_of X G a6, F7, b7, PySem.W.mg_of X G a7, F8, b8, PySem.W.mg_of X G a8, F9, b9, PySem.W.mg_of X G a9, F10, b10, PySem.W.mg_of X G a10, F11, b11, PySem.W.mg_of X G a11, PySem.W.mg_none_of X G z0, PySem.W.mg_none_of X G z1, PySem.W.mg_none_of X G z2, PySem.W.mg_none_of X G z3, PySem.W.mg_none_of X G z4, PySem.W.mg_none_of X G z5, PySem.W.mg_none_of X G z6, PySem.W.mg_none_of X G z7⟩
  exact ⟨_, fun s v => .of_eq rfl, fun base _ _ => ok_law T⟩
end L9
open PySem PySem.W PyProof.Rows
set_option maxHeartbeats 0 in
theorem PySem.Challenge.cw_fewspans_k03_pairs_of_intervals_holds : PySem.Challenge.rw_fewspans_k03_pairs_of_intervals.Holds := by
  w_on; o_law; k_head; (case hw => w_witness2)
  k_fill
  refine L9.quiet_walk (l := PySem.Challenge.rw_fewspans_k03_pairs_of_intervals) (n := 63) (k := 3) (x := "_law_script") (sp := fun w => L9.sp_law _) rfl (by decide) rfl ⟨rfl, by decide, by decide⟩ (fun w h Y => PySem.W.kIn_of Y) ?F (fun _ _ a ns hl _ hS => ⟨a, ns, rfl, hS, hl, fun _ => rfl⟩)
  case F =>
    intro w mg fa h KX G hmg
    refine' L9.all_mk KX G hmg ?a1 ?l1 ?c1 ?k1 ?a2 ?l2 ?c2 ?k2 ?a3 ?l3 ?c3 ?k3 ?a4 ?l4 ?c4 ?k4 ?a5 ?l5 ?c5 ?k5 ?a6 ?l6 ?c6 ?k6 ?a7 ?l7 ?c7 ?k7 ?a8 ?l8 ?c8 ?k8 ?a9 ?l9 ?c9 ?k9 ?a10 ?l10 ?c10 ?k10 ?a11 ?l11 ?c11 ?k11 ?z0 ?z1 ?z2 ?z3 ?z4 ?z5 ?z6 ?z7
    (case a1 => k_is)
    (case l1 => k_is)
    (case c1 => k_is)
    (case k1 => k_is)
    (case a2 => k_is)
    (case l2 => k_is)
    (case c2 => k_is)
    (case k2 => k_is)
    (case a3 => k_is)
    (case l3 => k_is)
    (case c3 => k_is)
    (case k3 => k_is)
    (case a4 => k_is)
    (case l4 => k_is)
    (case c4 => k_is)
    (case k4 => k_is)
    (case a5 => k_is)
    (case l5 => k_is)
    (case c5 => k_is)
    (case k5 => k_is)
    (case a6 => k_is)
    (case l6 => k_is)
    (case c6 => k_is)
    (case k6 => k_is)
    (case a7 => k_is)
    (case l7 => k_is)
    (case c7 => k_is)
    (case k7 => k_is)
    (case a8 => k_is)
    (case l8 => k_is)
    (case c8 => k_is)
    (case k8 => k_is)
    (case a9 => k_is)
    (case l9 => k_is)
    (case c9 => k_is)
    (case k9 => k_is)
    (case a10 => k_is)
    (case l10 => k_is)
    (case c10 => k_is)
    (case k10 => k_is)
    (case a11 => k_is)
    (case l11 => k_is)
    (case c11 => k_is)
    (case k11 => k_is)
    (case z0 => k_is)
    (case z1 => k_is)
    (case z2 => k_is)
    (case z3 => k_is)
    (case z4 => k_is)
    (case z5 => k_is)
    (case z6 => k_is)
    (case z7 => k_is)
