import PyProof.Rows.All
import Wide.All
import OpenK.AllK
import Wide.FinOn
import PyProof.EqAt
import PyProof.EqKinds
import PyProof.TupleCall
import PyProof.JoinWalk
import KE.KNest
import HandS.Base
import HandS.Call
import HandS.List
import HandS.Comp
import HandS.AnyAll
import HandS.Set
import HandS.SetFor
import HandS.Strs
import HandS.ForMost
import HandS.ForExc
import HandS.TryMany
import HandS.EndTab
import KE.KNestM
import HandS.FStr
import HandS.RaiseMore
import HandS.Flow
import HandS.Walk
import PyProof.ZipIter
import PyProof.CallType
import PyProof.Walk
import PyProof.WalkLemmas
import PyProof.RangeIter
import PyProof.RulesTry
import HandS.Conv
import HandS.DictSubView0
import HandS.GenList
import HandS.WordsExc
import KE.DataCmp
import KE.SortData
import HandS.IsInst
import HandS.Codes
import HandS.ExcIs
import HandS.SetBool
import PySem.Challenge.RW_markbox_k10_the_rules_told
set_option Elab.async false
set_option linter.all false
set_option maxRecDepth 100000
set_option maxHeartbeats 8000001
namespace MbX
open L2 PySem PySem.Spec PyProof.Rows
/-- a generator expression's own scope, by what can be computed -/
structure GenN (env : Env) (scope : Scope) (x : Str) : Prop where
  sort : scope.kind = .function ∧ scope.isCoroutine = false ∧ ∀ y ∈ scope.names, y.2 ≠ .cell
  names : scope.names.lookup (".0" : Str) = some NameKind.local ∧ scope.names.lookup x = some NameKind.local
  fre : ∀ y ∈ scope.names, y.2 = .free → (env.kindOf y.1 = some .cell ∨ env.kindOf y.1 = some .free)
def genC (sc scope : Scope) (x : Str) : Bool := (match scope.kind with | .function => true | _ => false) && !scope.isCoroutine && (scope.names.all fun y => match y.2 with | .cell => false | _ => true) &&
  decide (scope.names.lookup (".0" : Str) = some NameKind.local) && decide (scope.names.lookup x = some NameKind.local) &&
  (scope.names.all fun y => match y.2 with | .free => (match sc.names.lookup y.1 with | some .cell => true | some .free => true | _ => false) | _ => true)
theorem genN_by {env : Env} {sc scope : Scope} {x : Str} (hs : env.scope = sc) (h : genC sc scope x = true) : GenN env scope x := by
  subst hs
  unfold genC at h
  simp only [Bool.and_eq_true, List.all_eq_true, decide_eq_true_eq, Bool.not_eq_true'] at h
  obtain ⟨⟨⟨⟨⟨h1, h2⟩, h3⟩, h4⟩, h5⟩, h6⟩ := h
  refine ⟨⟨?_, h2, fun y hy e => ?_⟩, ⟨h4, h5⟩, fun y hy e => ?_⟩
  · split at h1
    · assumption
    · cases h1
  · have q := h3 y hy
    simp only [e] at q
    cases q
  · have q := h6 y hy
    simp only [e] at q
    show env.scope.names.lookup y.1 = _ ∨ env.scope.names.lookup y.1 = _
    split at q
    · exact Or.inl ‹_›
    · exact Or.inr ‹_›
    · cases q
theorem GenN.to {env : Env} {scope : Scope} {x : Str} (S : GenN env scope x) (h : ∀ y, (env.kindOf y = some .cell ∨ env.kindOf y = some .free) → ∃ c, env.cells.lookup y = some c) : GxR.GenS env scope x :=
  ⟨S.sort.1, S.sort.2.1, S.sort.2.2, S.names.1, S.names.2, fun y hy e => h y.1 (S.fre y hy e)⟩
/-- the element at the walked list's place i, in a heap that has all of h0 but what stands at P: the truth value tr i -/
def EltG (prog : Program) (w : World) (scope : Scope) (x : Str) (elt : Expr) (cells : List (Str × Addr)) (P : Addr) (h0 : Heap) (us : List Value) (tr : Nat → Bool) : Prop :=
  ∀ (cenv : Env) (A' : Around) (E' : Value → Shared → Prop) (i : Nat) (v : Value) (s₂ : Shared) (m₂ : Str → Option Value), cenv.scope = scope → cenv.cells = cloFrom cells scope.names [] → us[i]? = some v → s₂.heap.Ns cenv.locals m₂ → m₂ x = some v →
    (∀ b o, b ≠ P → h0.get? b = some o → s₂.heap.get? b = some o) →
    wpAny (model prog w) A' (eval elt cenv) (fun y s₃ => y = .bool (tr i) ∧ Keeps s₂ s₃) E' s₂
section
variable {X : Cx} {s : Shared} {H : Hp} {σ : L2.St} {pins : List (Addr × Obj)}
def ReadyL (X : Cx) (pins : List (Addr × Obj)) (σ : L2.St) (H1 : Hp) (P : Addr) (n : Nat) (tr : Nat → Bool) (g : Addr) (s5 : Shared) : Prop :=
  ∃ (fp wr : List Addr) (Gs : Array GenState → Array GenState → Prop) (Item : Nat → Value → Prop) (At : Nat → Shared → Prop), WalksS X.prog X.w X.A.in1 g fp wr Gs n Item At ∧ At 0 s5 ∧ TruthOf X.prog X.w X.A.in1 Item tr ∧
    ∀ t, Moved wr Gs s5 t → ∃ H2, GxR.Tabbed P H1 H2 ∧ Inv X pins σ H2 t
/-- what the element wants to know of the walked list and of the slots -/
abbrev EC := L2.St → Hp → List V → (Nat → Bool) → Prop
def EltOk (X : Cx) (scope : Scope) (x : Str) (elt : Expr) (P : Addr) (C : EC) : Prop :=
  ∀ (pins : List (Addr × Obj)) (s : Shared) (σ : L2.St) (H : Hp) (ws : List V) (us : List Value) (tr : Nat → Bool), Inv X pins σ H s → (H P ≠ none ∧ ∃ ps, s.heap.get? P = some { cls := .none, data := .fields ps }) → Vals ws us → C σ H ws tr → EltG X.prog X.w scope x elt X.env.cells P s.heap us tr

/-- the code object of the expression, found in the def's table or laid there: either way the table has at most grown -/
theorem code_ways {c P : Addr} {o : Obj} {ps : Array Value} {gpos : Pos} {qn : Str} {scope : Scope} {Z : Value → Shared → Prop} (TB : GxR.TabB X.base X.mg c P) (hcode : X.env.code = .ref c) (I : Inv X pins σ H s) (hP : H P = some (.tbl ps)) (ht : TriplesOk ps.toList)
    (goOn : ∀ (cv : Value) (h3 : Heap) (tk : Nat) (more : Array Value), Heap.ExtBut P (s.heap.push o) h3 → s.heap.objs.size < h3.objs.size → h3.get? P = some { cls := .none, data := .fields (ps ++ more) } → TriplesOk (ps ++ more).toList → Z cv { s with heap := h3, toks := tk }) :
    wpAny (model X.prog X.w) X.A (genexprCode X.env gpos qn scope) Z X.xe { s with heap := s.heap.push o } := by
  have tab1 : (s.heap.push o).get? P = some { cls := .none, data := .fields ps } := Heap.get?_push_of_some _ (I.hok P _ hP)
  have codeAt : PySem.W.CodeHd (s.heap.push o) c P := TB.code.keeps fun b u e => Heap.get?_push_of_some _ (I.bk b u e)
  have one : (s.heap.push o).objs.size = s.heap.objs.size + 1 := Heap.size_push ..
  cases look : codeAmong gpos ps.toList with
  | some cv =>
    refine wpAny_genexprCode_hit hcode (codeAt.code tab1 ht) look (goOn cv _ s.toks #[] (Heap.ExtBut.refl _ _) ?_ (by rw [tab1, Array.append_empty]) (by rw [Array.append_empty]; exact ht))
    rw [one]
    exact Nat.lt_succ_self _
  | none =>
    refine wpAny_genexprCodeX hcode (codeAt.code tab1 ht) (codeAt.tab tab1) look fun cnew h3 tk ext ge lt isC _ isT _ => ?_
    obtain ⟨_, _, _, _, _, _, _, _, _, _, _, _, _, _, _, _, _, _, _, tri, _⟩ := isC
    refine goOn _ h3 tk _ ext ?_ isT.2 tri
    have := Nat.le_trans ge (Nat.le_of_lt lt)
    exact Nat.lt_of_lt_of_le (by rw [one]; exact Nat.lt_succ_self _) this
/-- what stands at two places that hold unlike objects -/
theorem apart {h : Heap} {p q : Addr} {o u : Obj} (hp : h.get? p = some o) (hq : h.get? q = some u) (d : o.cls ≠ u.cls) : p ≠ q := fun e => by
  rw [e, hq] at hp
  exact d (congrArg Obj.cls (Option.some.inj hp)).symm
theorem gen_list {c P : Addr} {elt iter : Expr} {x : Str} {px gpos : Pos} {scope : Scope} {C : EC} {te : TE} {k : Nat} {Q₁ : Value → Shared → Prop} {R : List V → Hp → (Nat → Bool) → Prop}
    (hr : Room k X.A) (TB : GxR.TabB X.base X.mg c P) (hcode : X.env.code = .ref c) (S₀ : GenN X.env scope x) (hi : PE X iter te) (hel : EltOk X scope x elt P C) (fold : ∀ v, genFold iter X.env v = pure v) (I₀ : Inv X pins σ H s)
    (h : te σ H fun v H1 => ∃ (yl : Addr) (ws : List V) (tr : Nat → Bool), v = .ref yl ∧ SqL X.K H1 yl ws ∧ C σ H1 ws tr ∧ GxR.TabG H1 P ∧ R ws H1 tr) (hQ : ∀ ws H1 tr g s5, R ws H1 tr → ReadyL X pins σ H1 P ws.length tr g s5 → Q₁ (.ref g) s5) :
    wpAny (model X.prog X.w) X.A (eval (.GeneratorExp elt [⟨.Name x px, iter, [], 0⟩] scope gpos) X.env) Q₁ X.xe s := by
  have S := S₀.to I₀.ok.has
  have depth : X.A.depth < recursionLimit := by have := hr.dp; omega
  refine wpAny_GeneratorExp_walksQ hr.hd S.co (closure_ok S.free) S.cell S.dot S.loc S.kind depth ?_ fold
  refine thn (hi.run pins s σ H _ I₀ h) fun u t got => ?_
  obtain ⟨_, H1, I, rel, yl, ws, tr, rfl, seq, hC, ⟨ps, hP, tri⟩, hR⟩ := got
  cases (show u = Value.ref yl from rel)
  obtain ⟨us, vals, plain, _⟩ := I.list seq
  have elts := hel pins t σ H1 ws us tr I ⟨by rw [hP]; simp, ps, I.hok P _ hP⟩ vals hC
  have isL := plain.isList
  obtain ⟨lo, atL, lcls, ln, ldat⟩ := id isL
  have tabT : t.heap.get? P = some { cls := .none, data := .fields ps } := I.hok P _ hP
  have ltP := Heap.lt_size tabT
  have ltL : yl < t.heap.objs.size := Heap.lt_size atL
  obtain ⟨_, statics, _⟩ := I.nolimit
  have ltC := statics.lt
  obtain ⟨so, ses, sep, atC, sdat, _⟩ := id statics
  have neCP : cStatics ≠ P := fun e => by
    rw [e, tabT] at atC
    cases atC
    cases sdat
  have neLP : yl ≠ P := apart atL tabT (by rw [lcls]; exact fun z => by cases z)
  refine wpAny_pyIter_list isL ?_
  generalize hit : ({ cls := .type "list_iterator", data := .fields #[.ref yl, .int 0 0] } : Obj) = it
  refine ⟨I.nolimit.push it, code_ways TB hcode I hP tri fun cv h3 tk more ext gt tab3 tri3 => ?_⟩
  have old3 : ∀ b u, b ≠ P → t.heap.get? b = some u → h3.get? b = some u := fun b u n e => ext b u n (Heap.get?_push_of_some _ e)
  have glob3 : h3.Ns X.env.globals X.mg := by
    rw [I.ok.glob]
    exact ((I.mod.glob.keeps I.bk).push it).extBut ext TB.gP
  obtain ⟨bm, ob, g1, g2, g3, g4, g5, g6, g7, g8⟩ := TB.bm
  refine wpAny_builtinsFor (m := X.mg) glob3 g1 g2 (old3 _ _ g4 (I.bk _ _ g5)) g6 g7 g8 ?_
  have it3 : h3.IsListIter t.heap.objs.size yl 0 := by
    have it2 : (t.heap.push it).IsListIter t.heap.objs.size yl 0 := by
      rw [← hit]
      exact ⟨_, Heap.get?_push_size _ (by rfl), by rfl, by rfl⟩
    exact it2.at fun u e => ext _ u (Nat.ne_of_gt ltP) e
  have lst3 : h3.IsList yl us.toArray := ⟨lo, old3 _ _ neLP atL, lcls, ln, ldat⟩
  refine ⟨t.heap.objs.size, [t.heap.objs.size, yl], [t.heap.objs.size], us.toArray.size, fun i v => us.toArray[i]? = some v, fun i hh => hh.IsListIter t.heap.objs.size yl i ∧ hh.IsList yl us.toArray, fun _ => true, fun i y => y = .bool (tr i), rfl,
    fun A' hA => Walks.list hA _ _ (Nat.ne_of_lt ltL) _, ⟨it3, lst3⟩, ?below, (I.nolimit.push it).extBut ext neCP, ?notC, ?quiet, ?made⟩
  case below =>
    intro b hb
    have both : b = t.heap.objs.size ∨ b = yl := by simpa using hb
    rcases both with e | e
    · rw [e]; exact gt
    · rw [e]; exact Nat.lt_trans ltL gt
  case notC =>
    intro hb
    have e : cStatics = t.heap.objs.size := by simpa using hb
    exact Nat.ne_of_lt ltC e
  case quiet =>
    intro href kept
    constructor
    · intro A' E' i v s₂ m₂ _ _ _ _ _
      simp only [List.forIn_nil]
      exact wpAny_pure ⟨rfl, GxR.keeps_refl s₂⟩
    · intro A' E' i v s₂ m₂ _ here _ ns nm stays
      refine elts _ A' E' i v s₂ m₂ rfl rfl (by simpa using here) ns nm fun b u n e => ?_
      have lt := Heap.lt_size e
      refine stays b (List.mem_range.mpr (Nat.lt_trans lt gt)) (fun hb => ?_) u (kept b u (old3 b u n e))
      have e2 : b = t.heap.objs.size := by simpa using hb
      exact Nat.ne_of_lt lt e2
  case made =>
    intro g h5 tk5 gs bare gtG size5 kept5 W5 at5
    rw [GxR.passing_true, List.length_range] at W5
    have len : us.toArray.size = ws.length := by rw [List.size_toArray, vals.length]
    rw [len] at W5 at5
    refine hQ ws H1 tr g _ hR ⟨_, _, _, _, _, W5.in4_1, at5, fun j y sj Qj Ej truth hq => ?_, fun s' mv => ?_⟩
    · obtain ⟨i, place, e⟩ := truth
      have e2 : i = j := by
        obtain ⟨_, z⟩ := List.getElem?_eq_some_iff.mp place
        rw [List.getElem_range] at z
        exact z.symm
      rw [e, e2]
      exact wpAny_truthy_bool hq
    · have out : ∀ b u, t.heap.get? b = some u → b ∉ h3.objs.size :: [t.heap.objs.size] := fun b u e hb => by
        have lt := Heap.lt_size e
        have both : b = h3.objs.size ∨ b = t.heap.objs.size := by simpa using hb
        rcases both with z | z
        · exact Nat.lt_irrefl _ (Nat.lt_trans (z ▸ lt) gt)
        · exact Nat.ne_of_lt lt z
      have here : s'.heap.get? P = some { cls := .none, data := .fields (ps ++ more) } := mv.heap P _ (out P _ tabT) (kept5 P _ tab3)
      have all : AllBare s'.gens := AllBare.movedS (I.bare.push bare) mv
      have grown := GxR.inv_tab (h' := s'.heap) (g' := s'.gens) (d' := s'.drawn) (t' := s'.toks) I hP (fun b u n e => mv.heap b u (out b u e) (kept5 b u (old3 b u n e))) here all
      rw [GxR.sh_eta t s' mv.os] at grown
      exact ⟨_, ⟨⟨_, upd_same, tri3⟩, fun b n => upd_ne n⟩, grown⟩

/-- all(elt for x in te), te a list; behind it the def's table may have grown -/
def tAllL (K : PySem.W.Frag) (P : Addr) (C : EC) (te : TE) : TE := fun σ H Q => te σ H fun v H1 => ∃ (yl : Addr) (ws : List V) (tr : Nat → Bool), v = .ref yl ∧ SqL K H1 yl ws ∧ C σ H1 ws tr ∧ GxR.TabG H1 P ∧ ∀ H2, GxR.Tabbed P H1 H2 → Q (.bl ((List.range ws.length).all tr)) H2
theorem boot_all : bootBuiltins "all" = some (Value.builtin "all") := by decide +kernel
theorem pe_allL {c P : Addr} {elt iter : Expr} {x : Str} {px p pos gpos : Pos} {scope : Scope} {C : EC} {te : TE} {k : Nat}
    (hr : Room k X.A) (hg : Gl X "all") (hm : X.mg "all" = none) (TB : GxR.TabB X.base X.mg c P) (hcode : X.env.code = .ref c) (S₀ : GenN X.env scope x) (hi : PE X iter te) (hel : EltOk X scope x elt P C) (fold : ∀ v, genFold iter X.env v = pure v)
    (alone : starEach [.GeneratorExp elt [⟨.Name x px, iter, [], 0⟩] scope gpos] X.env = (false, eval (.GeneratorExp elt [⟨.Name x px, iter, [], 0⟩] scope gpos) X.env) :: starEach [] X.env := by rfl) :
    PE X (.Call (.Name "all" p) [.GeneratorExp elt [⟨.Name x px, iter, [], 0⟩] scope gpos] [] pos) (tAllL X.K P C te) := by
  constructor
  intro pins s σ H Q inv want
  apply wpAny_Call_Name_kw
  apply ld_blt inv hg hm boot_all
  refine PyProof.Rows.callWith_builtin1 ?_ alone (by rfl)
  rw [alone]
  apply Calls.spliced_cons
  refine gen_list (R := fun ws H1 tr => ∀ H2, GxR.Tabbed P H1 H2 → Q (.bl ((List.range ws.length).all tr)) H2) hr TB hcode S₀ hi hel fold inv want ?_
  rintro ws H1 tr g s5 told ⟨fp, wr, Gs, Item, At, walk, start, truth, after⟩
  apply Calls.spliced_nil
  apply call_all_walkS
  refine walk.self 0 _ _ _ start ⟨g, fp, wr, Gs, _, Item, At, _, rfl, walk, start, truth, fun t moved => ?_⟩
  obtain ⟨H2, tabs, inv2⟩ := after t moved
  exact ⟨.bl _, H2, inv2, rfl, told H2 tabs⟩

/-! ### elements -/
theorem clo_keep {cells : List (Str × Addr)} {n : Str} : ∀ (l : List (Str × NameKind)) (acc : List (Str × Addr)), n ∉ l.map (·.1) → (cloFrom cells l acc).lookup n = acc.lookup n
  | [], _, _ => rfl
  | (m, k) :: r, acc, hn => by
    have hm : n ≠ m := fun e => hn (by simp [e])
    have hr : n ∉ r.map (·.1) := fun e => hn (by simp only [List.map_cons, List.mem_cons]; exact .inr e)
    unfold cloFrom
    split
    · rw [clo_keep r _ hr]
      have : (n == m) = false := by simpa using hm
      simp [List.lookup, this]
    · exact clo_keep r _ hr
theorem clo_lookup {cells : List (Str × Addr)} {n : Str} {c : Addr} (hc : cells.lookup n = some c) : ∀ (l : List (Str × NameKind)) (acc : List (Str × Addr)), l.lookup n = some .free → (l.map (·.1)).Nodup → (cloFrom cells l acc).lookup n = some c
  | [], _, h, _ => by simp at h
  | (m, k) :: r, acc, h1, h2 => by
    have h2' : m ∉ r.map (·.1) ∧ (r.map (·.1)).Nodup := by simpa only [List.map_cons, List.nodup_cons] using h2
    by_cases hm : n = m
    · subst hm
      have hk : k = .free := by simpa [List.lookup] using h1
      subst hk
      unfold cloFrom
      rw [if_pos (by decide), clo_keep r _ h2'.1]
      simp [List.lookup, hc]
    · have hb : (n == m) = false := by simpa using hm
      have h1' : r.lookup n = some .free := by simpa only [List.lookup, hb] using h1
      unfold cloFrom
      split
      · exact clo_lookup hc r _ h1' h2'.2
      · exact clo_lookup hc r _ h1' h2'.2
/-- a captured slot, read in the element's frame -/
theorem cap_read {X : Cx} {pins : List (Addr × Obj)} {σ : L2.St} {H : Hp} {s : Shared} {P : Addr} {scope : Scope} {j : Nat} {y : Str} {v : V} (I : Inv X pins σ H s) (hP : H P ≠ none) (hN : X.N[j]? = some y) (hs : σ[j]? = some (some v))
    (hk : X.env.scope.names.lookup y = some .cell ∨ X.env.scope.names.lookup y = some .free) (hfr : scope.names.lookup y = some .free) (hnd : (scope.names.map (·.1)).Nodup) :
    ∃ (c : Addr) (u : Value), RelV v u ∧ (∀ cenv : Env, cenv.scope = scope → cenv.cells = cloFrom X.env.cells scope.names [] → cenv.cells.lookup y = some c) ∧ (∀ h2 : Heap, (∀ b o, b ≠ P → s.heap.get? b = some o → h2.get? b = some o) → h2.IsCell c (some u)) := by
  obtain ⟨m, hn, hl⟩ := I.loc
  obtain ⟨u, r, l⟩ := hl j y v hN hs (.inr hk)
  rcases l with ⟨hk', _⟩ | ⟨_, c, hc, hcell⟩
  · have hk2 : X.env.scope.names.lookup y = some .local := hk'
    rcases hk with z | z
    · rw [z] at hk2; cases hk2
    · rw [z] at hk2; cases hk2
  · refine ⟨c, u, r, fun cenv e1 e2 => by rw [e2]; exact clo_lookup hc _ _ hfr hnd, fun h2 hk2 => ?_⟩
    obtain ⟨o, ho, hd⟩ := hcell
    refine ⟨o, hk2 c o (fun z => ?_) ho, hd⟩
    have := I.freeC y c hc
    rw [z] at this
    exact hP this
/-- the truth at place i -/
def trOf {α : Type} (l : List α) (p : α → Bool) (i : Nat) : Bool := match l[i]? with
  | some k => p k
  | none => false
theorem trOf_some {α : Type} {l : List α} {p : α → Bool} {i : Nat} {k : α} (h : l[i]? = some k) : trOf l p i = p k := by
  unfold trOf
  rw [h]
theorem all_trOf {α : Type} (p : α → Bool) : ∀ l : List α, (List.range l.length).all (trOf l p) = l.all p
  | [] => rfl
  | a :: l => by
    rw [List.length_cons, List.range_succ_eq_map, List.all_cons, List.all_cons, List.all_map, ← all_trOf p l]
    rfl
/-- 0 <= x < cap, the list of ints, cap the captured int in slot j -/
def cBelow (j : Nat) : EC := fun σ _ ws tr => ∃ (ns : List Int) (n : Int), σ[j]? = some (some (.int n)) ∧ ws = ns.map V.int ∧ tr = trOf ns fun k => decide (0 ≤ k) && decide (k < n)
theorem vals_int_at {ns : List Int} {us : List Value} {i : Nat} {v : Value} (rv : Vals (ns.map V.int) us) (hv : us[i]? = some v) : ∃ k t, ns[i]? = some k ∧ v = .int k t := by
  have hl := rv.length
  have hi : i < us.length := (List.getElem?_eq_some_iff.mp hv).1
  rw [List.length_map] at hl
  obtain ⟨k, hk⟩ : ∃ k, ns[i]? = some k := ⟨ns[i]'(by omega), List.getElem?_eq_getElem _⟩
  have hb : (ns.map V.int)[i]? = some (V.int k) := by rw [List.getElem?_map, hk] <;> rfl
  rcases rv.get hb with ⟨_, same, ru⟩
  cases hv.symm.trans same
  obtain ⟨t, e⟩ := (show ∃ t, v = Value.int k t from ru)
  exact ⟨k, t, hk, e⟩
theorem elt_below {X : Cx} {scope : Scope} {x cap : Str} {P : Addr} {j j0 : Nat} {p1 p2 p3 p4 : Pos} (hN : X.N[j]? = some cap) (hk : X.env.scope.names.lookup cap = some .cell ∨ X.env.scope.names.lookup cap = some .free) (hfr : scope.names.lookup cap = some .free)
    (hnd : (scope.names.map (·.1)).Nodup) (hkind : scope.kind = .function) (hloc : scope.names.lookup x = some .local) (hd1 : (x == ("__debug__" : Str)) = false := by decide) (hd2 : (cap == ("__debug__" : Str)) = false := by decide) (hd3 : (cap == ("__classdict__" : Str)) = false := by decide) :
    EltOk X scope x (.Compare (.Constant (.int 0) j0 p1) [.LtE, .Lt] [.Name x p2, .Name cap p3] p4) P (cBelow j) := by
  intro pins s σ H ws us tr I hP rv ⟨ns, n, hs, ew, et⟩ cenv A' E' i v s₂ m₂ e1 e2 hv hn hm hkp
  subst ew et
  obtain ⟨k, t, hk', rfl⟩ := vals_int_at rv hv
  obtain ⟨c, u, ru, hc, hcell⟩ := cap_read I hP.1 hN hs hk hfr hnd
  obtain ⟨tn, rfl⟩ := (show ∃ t, u = Value.int n t from ru)
  have hkc : cenv.scope.kind = .function := by rw [e1]; exact hkind
  refine Compare_chain (wpAny_Constant_int (chain_link ?_)) (by with_unfolding_all rfl)
  refine wpAny_Name (wpAny_loadName_local hkc (show cenv.scope.names.lookup x = some .local by rw [e1]; exact hloc) hn hm ?_) hd1
  refine PyProof.Rows.le_int (wpAny_truthy_bool ?_)
  rw [trOf_some hk']
  by_cases h0 : 0 ≤ k
  · rw [decide_eq_true h0]
    refine ite_tt ?_
    refine chain_last ?_
    refine wpAny_Name (wpAny_loadName_free hkc (show cenv.scope.names.lookup cap = some .free by rw [e1]; exact hfr) (hc cenv e1 e2) (hcell _ hkp) ?_ hd3) hd2
    exact PyProof.Rows.lt_int ⟨by simp, GxR.keeps_tok _ _⟩
  · rw [decide_eq_false h0]
    exact ite_ff ⟨by simp, GxR.keeps_tok _ _⟩
/-- x in cap, the walked list of ints, cap the captured list of ints in slot j -/
def cInCap (K : PySem.W.Frag) (j : Nat) : EC := fun σ H ws tr => ∃ (ns rs : List Int) (r : Addr), σ[j]? = some (some (.ref r)) ∧ SqL K H r (rs.map V.int) ∧ ws = ns.map V.int ∧ tr = trOf ns fun k => decide (k ∈ rs)
/-- cap in x, the walked list of lists of ints, cap the captured int in slot j -/
def cCapIn (K : PySem.W.Frag) (j : Nat) : EC := fun σ H ws tr => ∃ (m : Int) (as : List Addr) (rss : List (List Int)), σ[j]? = some (some (.int m)) ∧ ws = as.map V.ref ∧ as.length = rss.length ∧ (∀ (i : Nat) (a : Addr), as[i]? = some a → ∃ rs : List Int, rss[i]? = some rs ∧ SqL K H a (rs.map V.int)) ∧
  tr = trOf rss fun rs => decide (m ∈ rs)
theorem any_eqU_int {m : Int} {rs : List Int} {us : List Value} (rv : Vals (rs.map V.int) us) : us.toArray.any (eqU (.int m)) = decide (m ∈ rs) := by
  have fl : (rs.map V.int).all flatV = true := by
    rw [List.all_eq_true]
    intro v hv
    obtain ⟨k, _, rfl⟩ := List.mem_map.mp hv
    rfl
  rw [show us.toArray.any (eqU (.int m)) = us.any (eqU (.int m)) by simp, any_eqU rv fl]
  rw [Bool.eq_iff_iff, decide_eq_true_eq, List.any_eq_true]
  constructor
  · rintro ⟨y, hy, e⟩
    obtain ⟨k, hk, rfl⟩ := List.mem_map.mp hy
    have : k = m := by simpa [eqV] using e
    rw [← this]
    exact hk
  · intro h
    exact ⟨.int m, List.mem_map.mpr ⟨m, h, rfl⟩, by simp [eqV]⟩
/-- a list of ints as it stands in the element's heap -/
theorem list_there {X : Cx} {pins : List (Addr × Obj)} {σ : L2.St} {H : Hp} {s : Shared} {P a : Addr} {rs : List Int} (I : Inv X pins σ H s) (hP : ∃ ps, s.heap.get? P = some { cls := .none, data := .fields ps }) (hS : SqL X.K H a (rs.map V.int)) :
    ∃ us : List Value, Vals (rs.map V.int) us ∧ ∀ h2 : Heap, (∀ b o, b ≠ P → s.heap.get? b = some o → h2.get? b = some o) → h2.IsList a us.toArray := by
  obtain ⟨us, rv, plain, _⟩ := I.list hS
  obtain ⟨o, ho, hc, n, hd⟩ := id plain.isList
  obtain ⟨ps, hPs⟩ := hP
  refine ⟨us, rv, fun h2 k => ⟨o, k a o (apart ho hPs ?_) ho, hc, n, hd⟩⟩
  rw [hc]
  exact fun z => by cases z
theorem in_ints {prog : Program} {w : World} {A : Around} {E : Value → Shared → Prop} {s : Shared} {a : Addr} {m : Int} {t : Tok} {rs : List Int} {us : List Value} {Q : Value → Shared → Prop} (rv : Vals (rs.map V.int) us) (hl : s.heap.IsList a us.toArray) (h : Q (.bool (decide (m ∈ rs))) s) :
    wpAny (model prog w) A (compareOp .In (.int m t) (.ref a)) Q E s := by
  have fl : (rs.map V.int).all flatV = true := by
    rw [List.all_eq_true]
    intro v hv
    obtain ⟨k, _, rfl⟩ := List.mem_map.mp hv
    rfl
  refine SeqAt.in_listAt (eqU (.int m)) hl (fun y hy => mem_eqAt (x := .int m) ⟨t, rfl⟩ rfl rv fl y (by simpa using hy)) ?_
  rw [any_eqU_int rv]
  exact h
theorem elt_inCap {X : Cx} {scope : Scope} {x cap : Str} {P : Addr} {j : Nat} {p2 p3 p4 : Pos} (hN : X.N[j]? = some cap) (hk : X.env.scope.names.lookup cap = some .cell ∨ X.env.scope.names.lookup cap = some .free) (hfr : scope.names.lookup cap = some .free)
    (hnd : (scope.names.map (·.1)).Nodup) (hkind : scope.kind = .function) (hloc : scope.names.lookup x = some .local) (hd1 : (x == ("__debug__" : Str)) = false := by decide) (hd2 : (cap == ("__debug__" : Str)) = false := by decide) (hd3 : (cap == ("__classdict__" : Str)) = false := by decide) :
    EltOk X scope x (.Compare (.Name x p2) [.In] [.Name cap p3] p4) P (cInCap X.K j) := by
  intro pins s σ H ws us tr I hP rv ⟨ns, rs, r, hs, hS, ew, et⟩ cenv A' E' i v s₂ m₂ e1 e2 hv hn hm hkp
  subst ew et
  obtain ⟨k, t, hk', rfl⟩ := vals_int_at rv hv
  obtain ⟨c, u, ru, hc, hcell⟩ := cap_read I hP.1 hN hs hk hfr hnd
  obtain rfl := (show u = Value.ref r from ru)
  obtain ⟨zs, rz, there⟩ := list_there I hP.2 hS
  have hkc : cenv.scope.kind = .function := by rw [e1]; exact hkind
  refine wpAny_Compare1 ?_ rfl
  refine wpAny_Name (wpAny_loadName_local hkc (show cenv.scope.names.lookup x = some .local by rw [e1]; exact hloc) hn hm ?_) hd1
  refine wpAny_Name (wpAny_loadName_free hkc (show cenv.scope.names.lookup cap = some .free by rw [e1]; exact hfr) (hc cenv e1 e2) (hcell _ hkp) ?_ hd3) hd2
  rw [trOf_some hk']
  exact in_ints rz (there _ hkp) ⟨rfl, GxR.keeps_refl _⟩
theorem elt_capIn {X : Cx} {scope : Scope} {x cap : Str} {P : Addr} {j : Nat} {p2 p3 p4 : Pos} (hN : X.N[j]? = some cap) (hk : X.env.scope.names.lookup cap = some .cell ∨ X.env.scope.names.lookup cap = some .free) (hfr : scope.names.lookup cap = some .free)
    (hnd : (scope.names.map (·.1)).Nodup) (hkind : scope.kind = .function) (hloc : scope.names.lookup x = some .local) (hd1 : (x == ("__debug__" : Str)) = false := by decide) (hd2 : (cap == ("__debug__" : Str)) = false := by decide) (hd3 : (cap == ("__classdict__" : Str)) = false := by decide) :
    EltOk X scope x (.Compare (.Name cap p2) [.In] [.Name x p3] p4) P (cCapIn X.K j) := by
  intro pins s σ H ws us tr I hP rv ⟨m, as, rss, hs, ew, el, hall, et⟩ cenv A' E' i v s₂ m₂ e1 e2 hv hn hm hkp
  subst ew et
  have lt : i < as.length := by
    have h1 := (List.getElem?_eq_some_iff.mp hv).1
    have h2 := rv.length
    rw [List.length_map] at h2
    omega
  have ha : as[i]? = some as[i] := List.getElem?_eq_getElem lt
  obtain ⟨rs, hrs, hS⟩ := hall i _ ha
  obtain ⟨u', hu', ru'⟩ := rv.get (show (as.map V.ref)[i]? = some (V.ref as[i]) by rw [List.getElem?_map, ha]; rfl)
  rw [hv] at hu'
  cases hu'
  obtain rfl := (show v = Value.ref as[i] from ru')
  obtain ⟨c, u, ru, hc, hcell⟩ := cap_read I hP.1 hN hs hk hfr hnd
  obtain ⟨t, rfl⟩ := (show ∃ t, u = Value.int m t from ru)
  obtain ⟨zs, rz, there⟩ := list_there I hP.2 hS
  have hkc : cenv.scope.kind = .function := by rw [e1]; exact hkind
  refine wpAny_Compare1 ?_ rfl
  refine wpAny_Name (wpAny_loadName_free hkc (show cenv.scope.names.lookup cap = some .free by rw [e1]; exact hfr) (hc cenv e1 e2) (hcell _ hkp) ?_ hd3) hd2
  refine wpAny_Name (wpAny_loadName_local hkc (show cenv.scope.names.lookup x = some .local by rw [e1]; exact hloc) hn hm ?_) hd1
  rw [trOf_some hrs]
  exact in_ints rz (there _ hkp) ⟨rfl, GxR.keeps_refl _⟩
end
end MbX

namespace MbS
open L2 PySem PySem.Spec PyProof.Rows
/-- a set that is made and still empty -/
abbrev noSet (w : World) : Obj := { cls := .type "set", dict := none, data := .set #[] 0 (.fresh 0 0 (!w.params.followText "set-order")) }
section
variable {w : World} {prog : Program} {E : Value → Shared → Prop} {A : Around} {s : Shared}
/-- what is left behind set(xs): at q the numbers of ns, each once; all else as it was -/
def FullSet (w : World) (s : Shared) (q : Addr) (ns : List Int) (t : Shared) : Prop :=
  ∃ (h' : Heap) (tk n : Nat), t = { s with heap := h', toks := tk } ∧ SetR w h' q (fun j => decide (j ∈ ns)) n ∧ n ≤ ns.length ∧ ∀ b o, b ≠ q → s.heap.get? b = some o → h'.get? b = some o
/-- the filling of an empty set at q from a list of areI at l -/
theorem fill_ints {l q : Addr} {us : List Value} {ns : List Int} (calm : A.handled = none) (isL : s.heap.IsList l us.toArray) (areI : IntsAre us ns) (room : ns.length + 1 < scanBound) (ql : q ≠ l) (atQ : s.heap.get? q = some (noSet w)) :
    codeAny (model prog w) A (.call (.builtin "set.__init__") ⟨[.ref q, .ref l], []⟩) (wants (fun r t => r = .none ∧ FullSet w s q ns t) E) s := by
  have qT : s.TypeIs (.ref q) "set" := ⟨_, atQ, rfl⟩
  refine codeAny_call_builtin F.called_set.init.plain F.entry_set_init (check_set_init_1 qT ?_)
  obtain ⟨⟨kind, own, content, slots⟩, atL, lk, cap, lc⟩ := id isL
  simp only at lk lc
  subst lk
  subst lc
  have notSet := F.sub_list_set
  have notFro := F.sub_list_frozenset
  have notDict : (Value.type "list" == Value.type "dict") = false := by decide
  have lLt : l < s.heap.objs.size := Heap.lt_size atL
  have qLt : q < s.heap.objs.size := Heap.lt_size atQ
  have calm3 : A.in1.in1.handled = none := by simp [calm]
  have size : us.toArray.size = ns.length := by rw [List.size_toArray]; exact IntsAre.length areI
  have each : ∀ (i : Nat) (v : Value), us.toArray[i]? = some v → ∃ k t, ns[i]? = some k ∧ v = .int k t := fun i v e => by
    have e' : us[i]? = some v := by simpa using e
    have lt : i < ns.length := by rw [← IntsAre.length areI]; exact (List.getElem?_eq_some_iff.mp e').1
    obtain ⟨t, rfl⟩ := IntsAre.int_at areI i v e'
    refine ⟨ns[i], t, List.getElem?_eq_getElem lt, ?_⟩
    rw [List.getD_eq_getElem?_getD, List.getElem?_eq_getElem lt]
    rfl
  unfold Builtin.«set.__init__»
  unfold Builtin.Frozenset.updateFrom noKeywords
  generalize it_ : pyIter = walked
  wp_walk
  subst it_
  refine wpAny_pyIter_list isL (wpAny_bind (wpAny_runValue ?_))
  have fresh : l ≠ s.heap.objs.size := Nat.ne_of_lt lLt
  have apartQ : q ∉ [s.heap.objs.size, l] := by
    simp only [List.mem_cons, List.not_mem_nil, or_false, not_or]
    exact ⟨Nat.ne_of_lt qLt, ql⟩
  refine set_update_ints (Walks.list calm3 _ l fresh us.toArray).toS q apartQ ns size room each (us.toArray.size - 0) 0 _ (by omega) (Nat.zero_le _) ?start ?none fun t n mv few full => ?_
  case start => exact ⟨⟨_, Heap.get?_push_size _ rfl, rfl, rfl⟩, isL.push _⟩
  case none => exact ⟨0, Nat.le_refl _, setR_new_at (w := w) (Heap.get?_push_of_some _ atQ)⟩
  obtain ⟨h', gs, dr, tk, os⟩ := t
  obtain rfl : gs = s.gens := mv.gens
  obtain rfl : dr = s.drawn := mv.drawn
  obtain rfl : os = s.os := mv.os
  show wpAny _ _ _ _ _ _
  refine wpAny_pure ?_
  unfold ret
  rw [size] at few
  refine wpAny_pure ⟨rfl, h', tk, n, rfl, full, few, fun b o n e => ?_⟩
  have bLt := Heap.lt_size e
  refine mv.heap b o ?_ (Heap.get?_push_of_some _ e)
  simp only [List.mem_cons, List.not_mem_nil, or_false, not_or]
  exact ⟨n, Nat.ne_of_lt bLt⟩
/-- set(xs), xs a list of areI -/
theorem make_ints {l : Addr} {us : List Value} {ns : List Int} {Q : Value → Shared → Prop} (calm : A.handled = none) (isL : s.heap.IsList l us.toArray) (areI : IntsAre us ns) (room : ns.length + 1 < scanBound)
    (hQ : ∀ (h' : Heap) (tk n : Nat), SetR w h' s.heap.objs.size (fun j => decide (j ∈ ns)) n → n ≤ ns.length → (∀ b o, s.heap.get? b = some o → h'.get? b = some o) → Q (.ref s.heap.objs.size) { s with heap := h', toks := tk }) :
    wpAny (model prog w) A (call (Value.type "set") [Value.ref l]) Q E s := by
  obtain ⟨_, _, order⟩ := F.called_set.mro
  have made := F.called_set.made
  have subs := F.called_set.sub
  have plainT := F.called_set.notType
  have makes := F.called_set.canCreate
  have typed := F.typeCall_set_1 (.ref l)
  refine wpAny_call (codeAny_of_tree (show wpAny _ _ (callAny (.type "set") _) _ _ _ from ?_))
  refine wpAny_pure ⟨Code.quiet_builtin _ (by decide +kernel), codeAny_builtin F.entry_type_call ?walk⟩
  case walk =>
    rw [Around.under_plain (weight_type_call_type "set" [Value.ref l] []) (by rfl)]
    repeat any_goals first | assumption | wp_step
    refine codeAny_mono (code_set_led1 (.ref l) (E := E) (Q₁ := fun u t => u = .ref s.heap.objs.size ∧ t = { s with heap := s.heap.push (noSet w) }) ⟨rfl, rfl⟩) fun r t got => ?_
    cases r with
    | error _ => exact got
    | ok flow =>
      cases flow with
      | next => exact got.elim
      | brk => exact got.elim
      | cont => exact got.elim
      | ret u =>
        obtain ⟨rfl, rfl⟩ := got
        have atQ : (s.heap.push (noSet w)).get? s.heap.objs.size = some (noSet w) := Heap.get?_push_size _ rfl
        have qT : Shared.TypeIs { s with heap := s.heap.push (noSet w) } (.ref s.heap.objs.size) "set" := ⟨_, atQ, rfl⟩
        have found := F.called_set.init.lookup
        have bound := F.called_set.init.bind (.ref s.heap.objs.size)
        have ql : s.heap.objs.size ≠ l := fun e => by
          obtain ⟨_, atL, _⟩ := id isL
          exact Nat.lt_irrefl _ (e ▸ Heap.lt_size atL)
        repeat any_goals first | assumption | wp_step
        refine codeAny_mono (fill_ints (s := { s with heap := s.heap.push (noSet w) }) (E := E) (by simp [calm]) (isL.push _) areI room ql atQ) fun r t got => ?_
        cases r with
        | error _ => exact got
        | ok flow =>
          cases flow with
          | next => exact got.elim
          | brk => exact got.elim
          | cont => exact got.elim
          | ret u =>
            obtain ⟨rfl, h', tk, n, rfl, full, few, kept⟩ := got
            repeat any_goals first | assumption | wp_step
            exact hQ h' tk n full few fun b o e => kept b o (Nat.ne_of_lt (Heap.lt_size e)) (Heap.get?_push_of_some _ e)
end
/-- set(xs) of a list of areI -/
def rSetL (K : PySem.W.Frag) (w : World) : List V → Hp → VK → Prop := fun vs H Q => ∃ (p : Addr) (ns : List Int), vs = [.ref p] ∧ SqL K H p (ns.map V.int) ∧ ns.length ≤ 1000 ∧
  ∀ (q : Addr) (n : Nat), n ≤ ns.length → H q = none → Q (.ref q) (upd H q (SetO w q (fun j => decide (j ∈ ns)) n))
theorem cr_setL {X : Cx} (hc : X.calm = true) : CallR X (.type "set") (rSetL X.K X.w) := by
  intro pins s σ H vs us Q I rel h
  obtain ⟨p0, ns, rfl, hq, hl, q⟩ := h
  rw [Vals.ref1 rel]
  obtain ⟨its, rv, pt, _⟩ := I.list hq
  refine make_ints (I.ok.hd hc) pt.isList (by simpa using ints_of_vals rv) (by unfold scanBound; omega) fun h' tk n full few kept => ?_
  have free : H s.heap.objs.size = none := I.hok.fresh (Nat.le_refl _)
  exact ⟨.ref _, upd H s.heap.objs.size (SetO X.w s.heap.objs.size (fun j => decide (j ∈ ns)) n), I.laid kept (Nat.le_refl _) (setO_new full), rfl, q _ n few free⟩
end MbS

namespace Mb
open L2 PySem PySem.Spec PyProof.Rows
/-! ### heaps: the tables of code objects at Ts may grow, all else that is tracked stays -/
def Tabs (Ts : List Addr) (H : Hp) : Prop := ∀ P ∈ Ts, GxR.TabG H P
structure Kp (Ts : List Addr) (H H' : Hp) : Prop where
  t0 : Tabs Ts H
  keep : ∀ b o, b ∉ Ts → H b = some o → H' b = some o
  t1 : Tabs Ts H'
section
variable {Ts : List Addr} {H H1 H2 : Hp} {a b : Addr} {o : HO}
theorem Tabs.out (t : Tabs Ts H) (h : H a = some o) (n : ∀ ps, o ≠ .tbl ps) : a ∉ Ts := fun hm => by
  obtain ⟨ps, e, _⟩ := t a hm
  rw [h] at e
  exact n ps (Option.some.inj e)
theorem Tabs.outN (t : Tabs Ts H) (h : H a = none) : a ∉ Ts := fun hm => by
  obtain ⟨ps, e, _⟩ := t a hm
  rw [h] at e
  cases e
theorem Kp.refl (t : Tabs Ts H) : Kp Ts H H := ⟨t, fun _ _ _ e => e, t⟩
theorem Kp.trans (x : Kp Ts H H1) (y : Kp Ts H1 H2) : Kp Ts H H2 := ⟨x.t0, fun b o nb e => y.keep b o nb (x.keep b o nb e), y.t1⟩
theorem Kp.obj (x : Kp Ts H H1) (h : H a = some o) (n : ∀ ps, o ≠ .tbl ps) : H1 a = some o := x.keep a o (x.t0.out h n) h
theorem Kp.lst (x : Kp Ts H H1) {xs : List V} (h : H a = some (.lst xs)) : H1 a = some (.lst xs) := x.obj h fun _ q => by cases q
theorem Kp.ins (x : Kp Ts H H1) {C dx : Addr} {fs : List (Str × V)} (h : H a = some (.ins C dx fs)) : H1 a = some (.ins C dx fs) := x.obj h fun _ q => by cases q
theorem Kp.free (x : Kp Ts H H1) (h : H1 a = none) : H a = none := by
  cases q : H a with
  | none => rfl
  | some u =>
    have hn : a ∉ Ts := x.t1.outN h
    rw [x.keep a u hn q] at h
    cases h
theorem Kp.seq {K : PySem.W.Frag} {xs : List V} (x : Kp Ts H H1) (h : SqL K H a xs) : SqL K H1 a xs := by
  obtain (h | ⟨o, h⟩) | h := h
  · exact .inl (.inl (x.lst h))
  · exact .inl (.inr ⟨o, x.obj h fun _ q => by cases q⟩)
  · exact .inr h
theorem Tabs.put (t : Tabs Ts H) (h : a ∉ Ts) : Tabs Ts (upd H a o) := fun P hP => by
  obtain ⟨ps, e, r⟩ := t P hP
  have hn : P ≠ a := fun z => h (by rw [← z]; exact hP)
  exact ⟨ps, by rw [upd_ne hn]; exact e, r⟩
theorem Kp.new (x : Kp Ts H H1) (h : H1 a = none) : Kp Ts H (upd H1 a o) :=
  ⟨x.t0, fun b u nb e => by rw [upd_ne (ne_of_none (x.keep b u nb e) h)]; exact x.keep b u nb e, x.t1.put (x.t1.outN h)⟩
theorem Kp.own (x : Kp Ts H H1) (h : H a = none) (hn : a ∉ Ts) : Kp Ts H (upd H1 a o) :=
  ⟨x.t0, fun b u nb e => by rw [upd_ne (ne_of_none e h)]; exact x.keep b u nb e, x.t1.put hn⟩
theorem Kp.of_same (t : Tabs Ts H) (s : Same H H1) : Kp Ts H H1 := ⟨t, fun b o _ e => s b o e, fun P hP => by
  obtain ⟨ps, e, r⟩ := t P hP
  exact ⟨ps, s P _ e, r⟩⟩
/-- one table of several has grown -/
theorem Kp.grown {P : Addr} (t : Tabs Ts H) (hP : P ∈ Ts) (g : GxR.Tabbed P H H1) : Kp Ts H H1 := ⟨t, fun b o nb e => by rw [g.2 b (fun z => nb (by rw [z]; exact hP))]; exact e, fun R hR => by
  by_cases hb : R = P
  · rw [hb]; exact g.1
  · obtain ⟨ps, e, r⟩ := t R hR
    exact ⟨ps, by rw [g.2 R hb]; exact e, r⟩⟩
theorem Same.up (s : Same H H1) (h : H1 a = none) : Same H (upd H1 a o) := fun b u e => by
  rw [upd_ne (ne_of_none (s b u e) h)]
  exact s b u e
end
/-! ### lists of lists of ints -/
def RowsAt (H : Hp) (as : List Addr) (nss : List (List Int)) : Prop := as.length = nss.length ∧ ∀ (i : Nat) (a : Addr), as[i]? = some a → ∃ ns : List Int, nss[i]? = some ns ∧ H a = some (.lst (ns.map V.int))
theorem RowsAt.of {H : Hp} {as : List Addr} {nss : List (List Int)} (r : RowsAt H as nss) {i : Nat} {ns : List Int} (h : nss[i]? = some ns) : ∃ a, as[i]? = some a ∧ H a = some (.lst (ns.map V.int)) := by
  have hi : i < nss.length := (List.getElem?_eq_some_iff.mp h).1
  obtain ⟨a, ha⟩ : ∃ a, as[i]? = some a := ⟨as[i]'(by rw [r.1]; exact hi), List.getElem?_eq_getElem _⟩
  obtain ⟨ms, e, q⟩ := r.2 i a ha
  rw [h] at e
  cases e
  exact ⟨a, ha, q⟩
theorem RowsAt.kp {Ts : List Addr} {H H1 : Hp} {as : List Addr} {nss : List (List Int)} (r : RowsAt H as nss) (k : Kp Ts H H1) : RowsAt H1 as nss :=
  ⟨r.1, fun i a e => let ⟨ns, h1, h2⟩ := r.2 i a e; ⟨ns, h1, k.lst h2⟩⟩
theorem RowsAt.same {H H1 : Hp} {as : List Addr} {nss : List (List Int)} (r : RowsAt H as nss) (k : Same H H1) : RowsAt H1 as nss :=
  ⟨r.1, fun i a e => let ⟨ns, h1, h2⟩ := r.2 i a e; ⟨ns, h1, k _ _ h2⟩⟩
theorem RowsAt.nil {H : Hp} : RowsAt H [] [] := ⟨rfl, fun i a e => by simp at e⟩
theorem RowsAt.snoc {H : Hp} {as : List Addr} {nss : List (List Int)} {a : Addr} {ns : List Int} (r : RowsAt H as nss) (h : H a = some (.lst (ns.map V.int))) : RowsAt H (as ++ [a]) (nss ++ [ns]) := by
  refine ⟨by rw [List.length_append, List.length_append, r.1]; rfl, fun i b e => ?_⟩
  by_cases hi : i < as.length
  · rw [List.getElem?_append_left hi] at e
    obtain ⟨ms, h1, h2⟩ := r.2 i b e
    exact ⟨ms, by rw [List.getElem?_append_left (by rw [← r.1]; exact hi)]; exact h1, h2⟩
  · have hi2 : i = as.length := by
      have := (List.getElem?_eq_some_iff.mp e).1
      rw [List.length_append, List.length_singleton] at this
      omega
    subst hi2
    rw [List.getElem?_append_right (Nat.le_refl _), Nat.sub_self] at e
    have : a = b := by simpa using e
    subst this
    refine ⟨ns, ?_, h⟩
    rw [r.1, List.getElem?_append_right (Nat.le_refl _), Nat.sub_self]
    rfl
theorem dpInts {K : PySem.W.Frag} {H : Hp} : ∀ ns : List Int, DpAll K H (ns.map V.int) (ns.map PyData.int)
  | [] => .nil
  | n :: r => .cons (.int n) (dpInts r)
theorem layInts : ∀ ns : List Int, PyData.canLayAll0 (ns.map PyData.int) = true ∧ PyData.depthAll (ns.map PyData.int) = 0
  | [] => ⟨rfl, rfl⟩
  | n :: r => by
    obtain ⟨h1, h2⟩ := layInts r
    refine ⟨?_, ?_⟩
    · show (PyData.canLay0 (.int n) && PyData.canLayAll0 (r.map PyData.int)) = true
      rw [h1]; rfl
    · show max (PyData.depth (.int n)) (PyData.depthAll (r.map PyData.int)) = 0
      rw [h2]; rfl
theorem shInts (ns : List Int) : SeqAt.shaped (.list (ns.map PyData.int)) = true := by
  obtain ⟨h1, h2⟩ := layInts ns
  show (PyData.canLayAll0 (ns.map PyData.int) && decide (PyData.depthAll (ns.map PyData.int) + 1 ≤ 64)) = true
  rw [h1, h2]; rfl
theorem layRows : ∀ nss : List (List Int), PyData.canLayAll0 (nss.map fun ns => .list (ns.map PyData.int)) = true ∧ PyData.depthAll (nss.map fun ns => .list (ns.map PyData.int)) ≤ 1
  | [] => ⟨rfl, Nat.zero_le _⟩
  | ns :: r => by
    obtain ⟨h1, h2⟩ := layRows r
    obtain ⟨k1, k2⟩ := layInts ns
    refine ⟨?_, ?_⟩
    · show (PyData.canLayAll0 (ns.map PyData.int) && PyData.canLayAll0 (r.map fun ns => .list (ns.map PyData.int))) = true
      rw [h1, k1]; rfl
    · show max (PyData.depthAll (ns.map PyData.int) + 1) (PyData.depthAll (r.map fun ns => .list (ns.map PyData.int))) ≤ 1
      rw [k2]
      omega
theorem shRows (nss : List (List Int)) : SeqAt.shaped (.list (nss.map fun ns => .list (ns.map PyData.int))) = true := by
  obtain ⟨h1, h2⟩ := layRows nss
  show (PyData.canLayAll0 (nss.map fun ns => .list (ns.map PyData.int)) && decide (PyData.depthAll (nss.map fun ns => .list (ns.map PyData.int)) + 1 ≤ 64)) = true
  rw [h1, decide_eq_true (by omega)]; rfl
theorem eqInts : ∀ ns ms : List Int, PyData.eqvAll (ns.map PyData.int) (ms.map PyData.int) = decide (ns = ms)
  | [], [] => rfl
  | [], _ :: _ => rfl
  | _ :: _, [] => rfl
  | n :: r, m :: q => by
    show ((n == m) && PyData.eqvAll (r.map PyData.int) (q.map PyData.int)) = _
    rw [eqInts r q]
    by_cases h : n = m
    · subst h; simp
    · simp [h]
theorem eqRows : ∀ ns ms : List (List Int), PyData.eqvAll (ns.map fun ns => .list (ns.map PyData.int)) (ms.map fun ns => .list (ns.map PyData.int)) = decide (ns = ms)
  | [], [] => rfl
  | [], _ :: _ => rfl
  | _ :: _, [] => rfl
  | n :: r, m :: q => by
    show (PyData.eqvAll (n.map PyData.int) (m.map PyData.int) && PyData.eqvAll (r.map fun ns => .list (ns.map PyData.int)) (q.map fun ns => .list (ns.map PyData.int))) = _
    rw [eqRows r q, eqInts n m]
    by_cases h : n = m
    · subst h; simp
    · simp [h]
abbrev gridD (nss : List (List Int)) : PyData := .list (nss.map fun ns => .list (ns.map PyData.int))
abbrev rowD (ns : List Int) : PyData := .list (ns.map PyData.int)
theorem dpRows {K : PySem.W.Frag} {H : Hp} : ∀ (as : List Addr) (nss : List (List Int)), RowsAt H as nss → DpAll K H (as.map V.ref) (nss.map fun ns => .list (ns.map PyData.int))
  | [], [], _ => .nil
  | [], _ :: _, r => by have := r.1; simp at this
  | _ :: _, [], r => by have := r.1; simp at this
  | a :: as, ns :: nss, r => by
    obtain ⟨ms, e, h⟩ := r.2 0 a rfl
    have e' : ns = ms := by simpa using e
    subst e'
    exact .cons (.lst (SqL.of h) (dpInts ns)) (dpRows as nss ⟨by have := r.1; simpa using this, fun i b q => by simpa using r.2 (i + 1) b (by simpa using q)⟩)
theorem dpGrid {K : PySem.W.Frag} {H : Hp} {l : Addr} {as : List Addr} {nss : List (List Int)} (h : H l = some (.lst (as.map V.ref))) (r : RowsAt H as nss) : Dp K H (.ref l) (gridD nss) := .lst (SqL.of h) (dpRows as nss r)
/-! ### a def whose code object is known -/
structure FunC (K : PySem.W.Frag) (x qual : Str) (st : Stmt) (f : Addr) (fd : FuncData) (c : Addr) : Prop where
  ex : ∃ (oc : Value) (od : Option Addr) (kV doc pm : Value) (an : Option Addr) (ct : Value) (osl : Array (Option Value)),
    fd = PySem.W.fnOf x qual (defArgs st) (defBody st) (defScope st) .none kV doc pm an (.ref c) ct ∧ K.lookup f = some ⟨oc, od, .func fd, osl⟩ ∧ PySem.W.codeIn K (.ref c) qual = true
  kp : (PySem.W.keepIn K (.ref f)) = true
theorem FunC.fn {K : PySem.W.Frag} {x qual : Str} {st : Stmt} {f : Addr} {fd : FuncData} {c : Addr} (F : FunC K x qual st f fd c) : Fun K x qual st f fd := by
  obtain ⟨oc, od, kV, doc, pm, an, ct, osl, e, l, h⟩ := F.ex
  exact ⟨⟨oc, od, kV, doc, pm, an, .ref c, ct, osl, e, l, h⟩, F.kp⟩
section
variable {K : PySem.W.Frag} {P : Program} {w : World} {mg : Str → Option Value} {base : Heap}
theorem FunC.ok {x qual : Str} {st : Stmt} {f c : Addr} {fd : FuncData} {N ps : List Str} {k : Nat} {sp : Sp} (F : FunC K x qual st f fd c) (S : FnScope N ps (defScope st)) (len : ∀ vs H Q E, sp vs H Q E → vs.length = ps.length)
    (hb : ∀ (A : Around) (outer : List Env) (s : Shared) (H : Hp) (vs : List V) (Q : VK) (E : XK), Room k (A.deeper (envOfC qual (defScope st) s.heap.objs.size f (.ref c))) → sp vs H Q E →
      ∃ t, PSs (cxOf CX0 P w K mg base N qual (defScope st) f (.ref c) A outer s H E).nox (defBody st) t ∧ t { nx := fun _ H' => Q .non H', rt := Q } (start N vs) H) : FnOk P w K mg base CX0 (k + 1) f fd ps sp := by
  obtain ⟨oc, od, kV, doc, pm, an, ct, osl, rfl, l, h⟩ := F.ex
  refine fn_of l h S len fun A outer s H vs Q E hr hsp => ?_
  obtain ⟨t, p, q⟩ := hb A outer s H vs Q E hr hsp
  exact ⟨t, p.nox, q⟩
end
/-! ### an object made within a try: what is raised is wished for at any slots -/
def EM (n : Nat) (W : WX) : XK := fun cls d H => ∀ σ : L2.St, σ.length = n → W cls d σ H
theorem passM {X : Cx} {W : WX} (tk : Takes X W) : Passes (L2.CX X.prog X.w) X (EM X.N.length W) := fun _ σ _ _ e s' I c => tk e s' (XE.of_call I (fun _ _ _ h => h σ I.len) c)
/-! ### the end, with the tables of every def of the top -/
def TabsOf (K : PySem.W.Frag) (q : Program) (h : Heap) : Prop := ∀ (x : Str) (c P : Addr), ((recsOf q).find? fun e => e.name == x).isSome = true → PySem.W.tabIn K x = some (c, P) → PySem.W.CodeHd h c P ∧ h.get? P = some { cls := .none, data := .fields #[] }
theorem walk_tabs {l : PySem.W.OpenLaw} {n k : Nat} {q : Program} {loose : List Str} {XP : (Str → Option Value) → Heap → Prop} {YP : World → Heap → Prop} {d : DefRec} {K : Params → PySem.W.Frag} {CX : World → CXT} {x : Str}
    (few : l.most = some n) (line : n ≤ sizeLine) (bare : d.params.defaults = []) (room : Room k callerA) (written : ∀ (w : World) (h : Heap), YP w h → (K w.params).In h)
    (F : ∀ (w : World) (mg : Str → Option Value) (fa : Addr) (h : Heap), (K w.params).In h → h.Ns mainGlobals mg → mg d.name = some (.ref fa) → TabsOf (K w.params) q h → LamX.LawAtS l w (K w.params) (CX w) k n x mg fa h)
    (shut : ∀ (w : World) (H : Hp) (s : Shared) (e : Value) (t : Shared), CX w [] H s (fun _ _ _ => False) e t → False) : PySem.W.WalkO q loose XP YP l.row.toRowW d [] (fun f vs => PySem.call f vs) := by
  refine Att.attach_callB few bare fun w s₀ s₁ mg mb fa o pm cd doc a vs ns G Y _ _ _ hmg hobj hints hlen hbits hg => ?_
  have hK := written w _ Y
  have tabs : TabsOf (K w.params) q s₁.heap := fun y c P h1 h2 => by
    cases hf : (recsOf q).find? fun e => e.name == y with
    | none => rw [hf] at h1; cases h1
    | some r => exact PySem.W.tab_of G.T hK hf h2
  obtain ⟨fd, cs, sp, a1, a2, a3, a4, a5, a6⟩ := F w mg fa _ hK G.T.g hmg tabs
  exact LamX.law_callTs hK G.T.g G.T.b G.T.builtins G.T.nolimit hg a1 a2 a3 G.T.bmain hobj hints (Nat.le_trans hlen line) room a6 a4 (fun H hH hS => a5 H a ns hlen hbits hH hS) fun H e t => shut w H s₁ e t
end Mb

namespace Mb
open L2 PySem
/-- the i-th statement of the text -/
def top (i : Nat) : Stmt := (PySem.Challenge.pw_markbox_k10_the_rules_told).main.body.getD i (.Pass ⟨0, 0, 0, 0⟩)
abbrev sTold : Stmt := top 2
abbrev sBelow : Stmt := top 3
abbrev sHasAll : Stmt := top 4
abbrev s_without : Stmt := top 5
abbrev s_all_sets : Stmt := top 6
abbrev sOnAll : Stmt := top 15
abbrev sSizes : Stmt := top 16
abbrev sMarks : Stmt := top 17
abbrev sThings : Stmt := top 18
abbrev sInit : Stmt := inClass (top 19) 0
abbrev sWith : Stmt := inClass (top 19) 1
abbrev sOf : Stmt := inClass (top 19) 2
abbrev sClosed : Stmt := inClass (top 19) 3
abbrev s_met : Stmt := top 21
abbrev s_fewest : Stmt := top 22
abbrev s_box_with : Stmt := top 24
abbrev s_boxes : Stmt := top 25
abbrev s_lies_under : Stmt := top 26
abbrev s_places_over : Stmt := top 27
abbrev s_right_over : Stmt := top 28
abbrev s_steps : Stmt := top 29
abbrev sWhole : Stmt := top 31
abbrev sCell : Stmt := top 32
abbrev s_law_mix : Stmt := top 33
abbrev s_law_on : Stmt := top 34
abbrev s_law_table_by : Stmt := top 35
abbrev s_law_sets : Stmt := top 36
abbrev s_law_closure : Stmt := top 37
abbrev s_law_lacks : Stmt := top 38
abbrev s_law_rules : Stmt := top 39
abbrev s_law_same : Stmt := top 40
abbrev s_law_ahead : Stmt := top 41
abbrev sLaw : Stmt := top 42
abbrev nAhead : List PySem.Str := ["_law_table", "_law_cell", "_law_marks", "_law_box", "_law_rule"]
end Mb

namespace Mb
open L2 PySem PySem.Spec PyProof.Rows
/-! ### the mathematics -/
def okRow (n : Int) (ns : List Int) : Bool := ns.all fun k => decide (0 ≤ k) && decide (k < n)
def badSize (n : Int) (len : Nat) : Prop := n < 0 ∨ n > 8 ∨ len > 12
/-- ms is the set ns as it is told -/
def Told (ns ms : List Int) : Prop := ms.Pairwise (· < ·) ∧ ∀ k, k ∈ ms ↔ k ∈ ns
/-! ### what the top has written -/
structure Txt (K : PySem.W.Frag) (mg : Str → Option Value) (CS CM : Addr) : Prop where
  sorted : mg "sorted" = none
  set : mg "set" = none
  all : mg "all" = none
  len : mg "len" = none
  mm : ∃ t, mg "MOST_MARKS" = some (.int 8 t)
  mt : ∃ t, mg "MOST_THINGS" = some (.int 12 t)
  gS : mg "BadSize" = some (.ref CS)
  gM : mg "BadMark" = some (.ref CM)
  xS : ∃ b, PySem.W.excIn K CS b "ValueError.__new__" = true ∧ b = [.type "ValueError", .type "Exception", .type "BaseException", .type "object"]
  xM : ∃ b, PySem.W.excIn K CM b "ValueError.__new__" = true ∧ b = [.type "ValueError", .type "Exception", .type "BaseException", .type "object"]
  kS : PySem.W.keepIn K (.ref CS) = true
  kM : PySem.W.keepIn K (.ref CM) = true
  bS : PySem.W.subIn K (.ref CS) (.type "BaseException") = some true
  bM : PySem.W.subIn K (.ref CM) (.type "BaseException") = some true
  tS : PySem.W.typeIn K (.ref CS) = some (.type "type")
  tM : PySem.W.typeIn K (.ref CM) = some (.type "type")
section
variable {P : Program} {w : World} {K : PySem.W.Frag} {mg : Str → Option Value} {base : Heap} {CS CM : Addr}
/-! ### told(numbers) -/
def spTold (K : PySem.W.Frag) : Sp := fun vs H Q _ => ∃ (a : Addr) (ns : List Int), vs = [.ref a] ∧ SqL K H a (ns.map V.int) ∧ ns.length ≤ 60 ∧
  ∀ (H' : Hp) (p : Addr) (ms : List Int), Same H H' → H p = none → H' p = some (.lst (ms.map V.int)) → Told ns ms → Q (.ref p) H'
theorem scTold : FnScope ["numbers"] ["numbers"] (defScope sTold) := ⟨rfl, rfl, rfl, by decide +kernel, rfl, by decide +kernel, by decide +kernel⟩
theorem ok_told {f : Addr} {fd : FuncData} (F : Fun K "told" "told" sTold f fd) (T : Txt K mg CS CM) : FnOk P w K mg base CX0 1 f fd ["numbers"] (spTold K) := by
  refine F.ok scTold (fun vs H Q E h => ?_) (fun cdv A outer s H vs Q E hr h => ?_)
  · obtain ⟨a, ns, rfl, _⟩ := h
    rfl
  · obtain ⟨a, ns, rfl, hS, hl, k⟩ := h
    refine ⟨_, pss_one (ps_ret (pe_callB (cr_sortedSet rfl) (by rfl) T.sorted (by decide +kernel) (pa_cons (pe_callTy (MbS.cr_setL rfl) (by rfl) T.set (by decide +kernel) (pa_cons (pv 0) pa_nil)) pa_nil))), ?_⟩
    refine ⟨_, rfl, a, ns, rfl, hS, by omega, fun q n hn hq => ?_⟩
    refine ⟨q, _, n, rfl, upd_same, by omega, fun ms p h1 h2 h3 hp => ?_⟩
    have hqp : H p = none := by
      by_cases e : p = q
      · rw [e]; exact hq
      · rw [upd_ne e] at hp; exact hp
    refine k _ p ms (Same.up (Same.up (Same.refl H) hq) hp) hqp upd_same ⟨h1, fun z => ?_⟩
    rw [h2 z, decide_eq_true_eq]
/-! ### all_below(numbers, many) -/
def spBelow (K : PySem.W.Frag) (Ts : List Addr) : Sp := fun vs H Q _ => ∃ (a : Addr) (ns : List Int) (n : Int), vs = [.ref a, .int n] ∧ SqL K H a (ns.map V.int) ∧ Tabs Ts H ∧ ∀ H', Kp Ts H H' → Q (.bl (okRow n ns)) H'
theorem scBelow : FnScope ["numbers", "many"] ["numbers", "many"] (defScope sBelow) := ⟨rfl, rfl, rfl, by decide +kernel, rfl, by decide +kernel, by decide +kernel⟩
theorem ok_below {f c Pt : Addr} {fd : FuncData} {Ts : List Addr} (F : FunC K "all_below" "all_below" sBelow f fd c) (T : Txt K mg CS CM) (TB : GxR.TabB base mg c Pt) (hPt : Pt ∈ Ts) : FnOk P w K mg base CX0 1 f fd ["numbers", "many"] (spBelow K Ts) := by
  refine F.ok scBelow (fun vs H Q E h => ?_) (fun A outer s H vs Q E hr h => ?_)
  · obtain ⟨a, ns, n, rfl, _⟩ := h
    rfl
  · obtain ⟨a, ns, n, rfl, hS, tb, k⟩ := h
    refine ⟨_, pss_one (ps_ret (MbX.pe_allL hr (by rfl) T.all TB rfl (MbX.genN_by (sc := defScope sBelow) rfl (by decide +kernel)) (pv 0) (MbX.elt_below (j := 1) (cap := "many") rfl (.inl rfl) rfl (by decide +kernel) rfl rfl) (by intro _; rfl))), ?_⟩
    refine ⟨_, rfl, a, ns.map V.int, _, rfl, hS, ⟨ns, n, rfl, rfl, rfl⟩, tb Pt hPt, fun H2 g => ?_⟩
    have e := k H2 (Kp.grown tb hPt g)
    rw [List.length_map, MbX.all_trOf]
    exact e
/-! ### check_sizes(many, rows) -/
def spSizes (K : PySem.W.Frag) (CS : Addr) : Sp := fun vs H Q E => ∃ (a : Addr) (ws : List V) (n : Int), vs = [.int n, .ref a] ∧ SqL K H a ws ∧ (badSize n ws.length → E (.ref CS) none H) ∧ (¬ badSize n ws.length → Q .non H)
theorem scSizes : FnScope ["many", "rows"] ["many", "rows"] (defScope sSizes) := ⟨rfl, rfl, rfl, by decide +kernel, rfl, by decide +kernel, by decide +kernel⟩
theorem raiseS {X : Cx} (T : Txt X.K X.mg CS CM) : Raises X (.ref CS) := raises_own T.bS T.tS
theorem ok_sizes {f : Addr} {fd : FuncData} (F : Fun K "check_sizes" "check_sizes" sSizes f fd) (T : Txt K mg CS CM) : FnOk P w K mg base (L2.CX P w) 1 f fd ["many", "rows"] (spSizes K CS) := by
  refine F.okX scSizes (fun vs H Q E h => ?_) (fun cdv A outer s H vs Q E hr h => ?_)
  · obtain ⟨a, ws, n, rfl, _⟩ := h
    rfl
  · obtain ⟨a, ws, n, rfl, hS, kE, kQ⟩ := h
    obtain ⟨bS, xS, rfl⟩ := T.xS
    obtain ⟨t8, h8⟩ := T.mm
    obtain ⟨t12, h12⟩ := T.mt
    refine ⟨_, pss_cons (ps_if (PW.pt (pw_or (pt_cmpR op_lt (pv 0) pe_int (nomark _)) (pw_or1 (pt_cmpR op_gt (pv 0) (pe_glob (v := .int 8) (by rfl) h8 ⟨_, rfl⟩) (nomark _)))))
        (pss_one (ps_raise rfl (takes_of rfl rfl rfl rfl) (SkE.pmk_own1 PySem.F.excBase_ValueError xS T.gS T.kS (raises_own T.bS T.tS) (by rfl)
          (pe_joined (.cons pe_str (.cons (pe_fmt (pe_glob (v := .int 8) (by rfl) h8 ⟨_, rfl⟩)) (.cons pe_str .nil))))))) pss_nil)
      (pss_one (ps_if (pt_cmpR op_gt (pe_callB call_len_seq (by rfl) T.len PySem.boot_len (pa_cons (pv 1) pa_nil)) (pe_glob (v := .int 12) (by rfl) h12 ⟨_, rfl⟩) (nomark _))
        (pss_one (ps_raise rfl (takes_of rfl rfl rfl rfl) (SkE.pmk_own1 PySem.F.excBase_ValueError xS T.gS T.kS (raises_own T.bS T.tS) (by rfl)
          (pe_joined (.cons pe_str (.cons (pe_fmt (pe_glob (v := .int 12) (by rfl) h12 ⟨_, rfl⟩)) (.cons pe_str .nil))))))) pss_nil)), ?_⟩
    refine ⟨_, rfl, ⟨_, _, rfl, rfl, ⟨_, rfl, ?_⟩⟩⟩
    apply ite2 <;> intro c
    · refine iteT ⟨_, rfl, by decide +kernel, .inr ⟨8, rfl, by decide, _, rfl, by decide +kernel, _, rfl, by decide +kernel, ?_⟩⟩
      exact kE (.inl (of_decide_eq_true c))
    refine ⟨_, rfl, ⟨_, _, rfl, rfl, ⟨_, rfl, ?_⟩⟩⟩
    refine ite2 (fun d => ?_) (fun d => ?_)
    · refine ⟨_, rfl, by decide +kernel, .inr ⟨8, rfl, by decide, _, rfl, by decide +kernel, _, rfl, by decide +kernel, ?_⟩⟩
      exact kE (.inr (.inl (of_decide_eq_true d)))
    refine ⟨_, rfl, a, _, rfl, .inl hS, _, _, rfl, rfl, _, rfl, ?_⟩
    refine ite2 (fun e => ?_) (fun e => ?_)
    · refine ⟨_, rfl, by decide +kernel, .inr ⟨12, rfl, by decide, _, rfl, by decide +kernel, _, rfl, by decide +kernel, ?_⟩⟩
      have e' := of_decide_eq_true e
      exact kE (.inr (.inr (by omega)))
    · refine kQ fun z => ?_
      rcases z with z | z | z
      · exact c (decide_eq_true z)
      · exact d (decide_eq_true z)
      · exact e (decide_eq_true (by omega))
/-! ### check_marks(marks, many) -/
def spMarks (K : PySem.W.Frag) (CM : Addr) (Ts : List Addr) : Sp := fun vs H Q E => ∃ (a : Addr) (ns : List Int) (n : Int), vs = [.ref a, .int n] ∧ SqL K H a (ns.map V.int) ∧ Tabs Ts H ∧ (okRow n ns = false → ∀ H', Kp Ts H H' → E (.ref CM) none H') ∧ (okRow n ns = true → ∀ H', Kp Ts H H' → Q .non H')
theorem scMarks : FnScope ["marks", "many"] ["marks", "many"] (defScope sMarks) := ⟨rfl, rfl, rfl, by decide +kernel, rfl, by decide +kernel, by decide +kernel⟩
theorem ok_marks {f fB : Addr} {fd fdB : FuncData} {Ts : List Addr} (F : Fun K "check_marks" "check_marks" sMarks f fd) (T : Txt K mg CS CM) (GB : FnOk P w K mg base CX0 1 fB fdB ["numbers", "many"] (spBelow K Ts)) (gB : mg "all_below" = some (.ref fB)) (kB : PySem.W.keepIn K (.ref fB) = true) (bB : Binds K fdB ["numbers", "many"] []) :
    FnOk P w K mg base (L2.CX P w) 2 f fd ["marks", "many"] (spMarks K CM Ts) := by
  refine F.okX scMarks (fun vs H Q E h => ?_) (fun cdv A outer s H vs Q E hr h => ?_)
  · obtain ⟨a, ns, n, rfl, _⟩ := h
    rfl
  · obtain ⟨a, ns, n, rfl, hS, tb, kE, kQ⟩ := h
    obtain ⟨bM, xM, rfl⟩ := T.xM
    refine ⟨_, pss_one (ps_if (pt_not (pt_val (pe_call GB hr (by rfl) gB kB bB .nil pass0 (pa_cons (pv 0) (pa_cons (pv 1) pa_nil)))))
        (pss_one (ps_raise rfl (takes_of rfl rfl rfl rfl) (pmk_own PySem.F.excBase_ValueError xM T.gM T.kM (raises_own T.bM T.tM) (by rfl)))) pss_nil), ?_⟩
    refine ⟨_, rfl, _, rfl, a, ns, n, rfl, hS, tb, fun H' kp => ⟨_, rfl, ?_⟩⟩
    cases e : okRow n ns with
    | false => exact iteT (kE e H' kp)
    | true => exact iteF (kQ e H' kp)
/-! ### Table.__init__(self, many, rows) -/
/-- the fields of a table: its count, the list of its rows -/
def tf (n : Int) (r : Addr) : List (Str × V) := putF "rows" (.ref r) (putF "many" (.int n) [])
theorem mr_ : ¬ (("many" : Str) = "rows") := by decide +kernel
theorem tf_many (n : Int) (r : Addr) : (tf n r).lookup ("many" : Str) = some (.int n) := by
  unfold tf
  rw [lookup_putF, if_neg mr_, lookup_putF, if_pos rfl]
theorem tf_rows (n : Int) (r : Addr) : (tf n r).lookup ("rows" : Str) = some (.ref r) := by
  unfold tf
  rw [lookup_putF, if_pos rfl]
/-- each row as it is told -/
def AllTold (nss mss : List (List Int)) : Prop := nss.length = mss.length ∧ ∀ (i : Nat) (ns ms : List Int), nss[i]? = some ns → mss[i]? = some ms → Told ns ms
/-- behind H a table stands at x, its rows new -/
structure MadeAt (Ts : List Addr) (C : Addr) (H H' : Hp) (x : Addr) (n : Int) (mss : List (List Int)) : Prop where
  kp : Kp Ts H H'
  new : H x = none
  ob : ∃ (dx r : Addr) (ts : List Addr), H' x = some (.ins C dx (tf n r)) ∧ H r = none ∧ H' r = some (.lst (ts.map V.ref)) ∧ (∀ t ∈ ts, H t = none) ∧ RowsAt H' ts mss
def spInit (K : PySem.W.Frag) (C CS CM : Addr) (Ts : List Addr) : Sp := fun vs H Q E => ∃ (H0 : Hp) (x dx l : Addr) (n : Int) (as : List Addr) (nss : List (List Int)), vs = [.ref x, .int n, .ref l] ∧ Kp Ts H0 H ∧ H0 x = none ∧ H x = some (.ins C dx []) ∧
  H l = some (.lst (as.map V.ref)) ∧ RowsAt H as nss ∧ as.length ≤ 60 ∧ (∀ ns ∈ nss, ns.length ≤ 60) ∧
  (badSize n nss.length → ∀ H', Kp Ts H0 H' → E (.ref CS) none H') ∧
  (¬ badSize n nss.length → (∃ ns ∈ nss, okRow n ns = false) → ∀ H', Kp Ts H0 H' → E (.ref CM) none H') ∧
  (¬ badSize n nss.length → (∀ ns ∈ nss, okRow n ns = true) → ∀ H' mss, MadeAt Ts C H0 H' x n mss → AllTold nss mss → Q .non H')
theorem scInit : FnScope ["self", "many", "rows", "row"] ["self", "many", "rows"] (defScope sInit) := ⟨rfl, rfl, rfl, by decide +kernel, rfl, by decide +kernel, by decide +kernel⟩
theorem ok_init {f C fT fS fM : Addr} {fd fdT fdS fdM : FuncData} {Ts : List Addr} (F : Fun K "__init__" "Table.__init__" sInit f fd) (T : Txt K mg CS CM) (cl : Cls K C) (nM : NoAttr K C "many") (nR : NoAttr K C "rows")
    (GT : FnOk P w K mg base CX0 1 fT fdT ["numbers"] (spTold K)) (gT : mg "told" = some (.ref fT)) (kT : PySem.W.keepIn K (.ref fT) = true) (bT : Binds K fdT ["numbers"] [])
    (GS : FnOk P w K mg base (L2.CX P w) 1 fS fdS ["many", "rows"] (spSizes K CS)) (gS : mg "check_sizes" = some (.ref fS)) (kS : PySem.W.keepIn K (.ref fS) = true) (bS : Binds K fdS ["many", "rows"] [])
    (GM : FnOk P w K mg base (L2.CX P w) 2 fM fdM ["marks", "many"] (spMarks K CM Ts)) (gM : mg "check_marks" = some (.ref fM)) (kM : PySem.W.keepIn K (.ref fM) = true) (bM : Binds K fdM ["marks", "many"] []) :
    FnOk P w K mg base (L2.CX P w) 3 f fd ["self", "many", "rows"] (spInit K C CS CM Ts) := by
  refine F.okX scInit (fun vs H Q E h => ?_) (fun cdv A outer s H vs Q E hr h => ?_)
  · obtain ⟨H0, x, dx, l, n, as, nss, rfl, _⟩ := h
    rfl
  · obtain ⟨H0, x, dx, l, n, as, nss, rfl, kp0, nx, hx, hl, hrows, hlen, hlens, k1, k2, k3⟩ := h
    have hr1 := hr.mono (j := 1) (by decide)
    refine ⟨_, pss_cons (ps_expr (pe_call GS hr1 (by rfl) gS kS bS .nil (passes_call (takes_of rfl rfl rfl rfl) fun _ _ _ _ e => e) (pa_cons (pv 1) (pa_cons (pv 2) pa_nil))))
      (pss_cons (ps_for PassesOwn.leaving rfl (pi_list (pv 2)) (pg_name (i := 3) scInit.nd rfl (Or.inl rfl))
        (pss_one (ps_expr (pe_call GM hr (by rfl) gM kM bM .nil (passes_call (takes_of rfl rfl rfl rfl) fun _ _ _ _ e => e) (pa_cons (pv 3) (pa_cons (pv 1) pa_nil))))))
      (pss_cons (ps_fld (pv 0) (pv 1) rfl)
      (pss_one (ps_fld (pv 0) (pe_lc (own := [("row", 3)]) (g := gName 3) (tt := tYes) rfl scInit.nd (pi_list (pv 2)) (blkOk_by (N := ["self", "many", "rows", "row"]) (sc := defScope sInit) (by decide +kernel)) (fun _ _ _ _ _ => pg_name (i := 3) scInit.nd rfl (Or.inl rfl)) (fun _ _ _ _ _ => pts_nil)
        (fun _ _ _ _ _ => pe_call GT hr1 (by rfl) gT kT bT .nil pass0 (pa_cons (pv 3) pa_nil))) rfl)))), ?_⟩
    have hlm : (as.map V.ref).length = nss.length := by rw [List.length_map, hrows.1]
    refine ⟨_, rfl, _, rfl, l, _, n, rfl, SqL.of hl, fun bad => k1 (by rw [← hlm]; exact bad) H kp0, fun ok1 => ?_⟩
    have ok1' : ¬ badSize n nss.length := by rw [← hlm]; exact ok1
    have k2' := k2 ok1'
    have k3' := k3 ok1'
    refine ⟨_, rfl, l, rfl, ⟨_, SqL.of hl⟩, for_list (K := K) (a := l) (xs := as.map V.ref) (fun i σ H' => ∃ v : Option V, σ = [some (.ref x), some (.int n), some (.ref l), v] ∧ Kp Ts H H' ∧ ∀ j ns, j < i → nss[j]? = some ns → okRow n ns = true)
      ⟨none, rfl, Kp.refl kp0.t1, fun j ns hj => absurd hj (Nat.not_lt_zero _)⟩ (fun i σ H' _ ⟨_, _, kp, _⟩ => SqL.of (kp.lst hl)) ?_ ?_⟩
    · rintro i y σ H1 hy ⟨v, rfl, kp, hall⟩
      obtain ⟨a, ha, rfl⟩ : ∃ a, as[i]? = some a ∧ y = V.ref a := by
        rw [List.getElem?_map] at hy
        cases q : as[i]? with
        | none => rw [q] at hy; cases hy
        | some a => rw [q] at hy; exact ⟨a, rfl, (Option.some.inj hy).symm⟩
      obtain ⟨ns, hns, hA⟩ := hrows.2 i a ha
      refine ⟨_, rfl, _, rfl, a, ns, n, rfl, SqL.of (kp.lst hA), kp.t1, fun e H2 kp2 => ?_, fun e H2 kp2 => ?_⟩
      · exact k2' ⟨ns, List.mem_of_getElem? hns, e⟩ H2 ((kp0.trans kp).trans kp2)
      · refine ⟨some (.ref a), rfl, kp.trans kp2, fun j ms hj hm => ?_⟩
        by_cases hji : j = i
        · subst hji
          rw [hns] at hm
          cases hm
          exact e
        · exact hall j ms (by omega) hm
    · rintro σ H1 ⟨v, rfl, kp, hall⟩
      have hok : ∀ ns ∈ nss, okRow n ns = true := fun ns hm => by
        obtain ⟨j, hj, e⟩ := List.getElem_of_mem hm
        exact hall j ns (by rw [hlm]; exact hj) (by rw [List.getElem?_eq_getElem hj, e])
      have hx1 := kp.ins hx
      have hxT : x ∉ Ts := kp.t1.out hx1 fun _ q => by cases q
      refine ⟨_, rfl, _, rfl, x, C, dx, [], rfl, hx1, cl, nM, by decide, ?_⟩
      have kx : ∀ {o : HO}, Kp Ts H0 (upd H1 x o) := fun {o} => (kp0.trans kp).own nx hxT
      have lx : l ≠ x := ne_of hl hx (by intro q; cases q)
      have hl2 : (upd H1 x (.ins C dx (putF "many" (.int n) []))) l = some (.lst (as.map V.ref)) := by
        rw [upd_ne lx]; exact kp.lst hl
      generalize hH2 : upd H1 x (.ins C dx (putF "many" (.int n) [])) = H2 at hl2
      have kp2 : Kp Ts H0 H2 := by rw [← hH2]; exact kx
      have hx2 : H2 x = some (.ins C dx (putF "many" (.int n) [])) := by rw [← hH2]; exact upd_same
      have rows2 : RowsAt H2 as nss := ⟨hrows.1, fun i a e => by
        obtain ⟨ns, h1, h2⟩ := hrows.2 i a e
        refine ⟨ns, h1, ?_⟩
        have ax : a ≠ x := ne_of h2 hx (by intro q; cases q)
        rw [← hH2, upd_ne ax]
        exact kp.lst h2⟩
      refine ⟨_, rfl, l, rfl, ⟨_, SqL.of hl2⟩, fun D hD => lc_list (K := K) (a := l) (xs := as.map V.ref) (fun i H3 => ∃ (ts : List Addr) (mss : List (List Int)), H3 D = some (.lst (ts.map V.ref)) ∧ Kp Ts H2 H3 ∧ ts.length = i ∧ RowsAt H3 ts mss ∧ AllTold (nss.take i) mss ∧ ∀ t ∈ ts, H2 t = none ∧ t ≠ D)
        ⟨[], [], upd_same, (Kp.refl kp2.t1).new hD, rfl, RowsAt.nil, ⟨rfl, fun i ns ms h => by simp at h⟩, fun t ht => by cases ht⟩ (fun i H3 _ ⟨_, _, _, k, _⟩ => SqL.of (k.lst hl2)) ?_ ?_⟩
      · rintro i y H3 hy ⟨ts, mss, hD3, kp3, hti, hR, hT, hnew⟩
        obtain ⟨a, ha, rfl⟩ : ∃ a, as[i]? = some a ∧ y = V.ref a := by
          rw [List.getElem?_map] at hy
          cases q : as[i]? with
          | none => rw [q] at hy; cases hy
          | some a => rw [q] at hy; exact ⟨a, rfl, (Option.some.inj hy).symm⟩
        obtain ⟨ns, hns, hA⟩ := rows2.2 i a ha
        refine ⟨rfl, _, rfl, a, ns, rfl, SqL.of (kp3.lst hA), hlens ns (List.mem_of_getElem? hns), fun H4 p ms same hp hp4 told => ?_⟩
        have hDp : D ≠ p := ne_of_none hD3 hp
        have kp4 : Kp Ts H2 H4 := kp3.trans (Kp.of_same kp3.t1 same)
        have R4 : RowsAt H4 ts mss := hR.same same
        have h2p : H2 p = none := kp3.free hp
        have i60 : i < 60 := by
          have := (List.getElem?_eq_some_iff.mp ha).1
          omega
        refine ⟨ts.map V.ref, same _ _ hD3, by rw [List.length_map, hti, sizeLine_eq]; omega, ts ++ [p], mss ++ [ms], ?_, kp4.own hD (kp3.t1.out hD3 fun _ q => by cases q), by rw [List.length_append, hti]; rfl, ?_, ?_, ?_⟩
        · rw [upd_same, List.map_append]
          rfl
        · have R5 : RowsAt H4 (ts ++ [p]) (mss ++ [ms]) := R4.snoc hp4
          refine ⟨R5.1, fun j b e => ?_⟩
          obtain ⟨qs, h1, h2⟩ := R5.2 j b e
          refine ⟨qs, h1, ?_⟩
          have hb : b ∈ ts ++ [p] := List.mem_of_getElem? e
          have nb : b ≠ D := by
            rcases (List.mem_append).1 hb with z | z
            · exact (hnew b z).2
            · rw [List.mem_singleton.mp z]; exact hDp.symm
          rw [upd_ne nb]
          exact h2
        · have hl3 : mss.length = i := by rw [← hT.1, List.length_take]; have := (List.getElem?_eq_some_iff.mp hns).1; omega
          have hl4 : (nss.take i).length = i := by rw [hT.1, hl3]
          rw [List.take_add_one, hns]
          refine ⟨by simp only [List.length_append, hT.1]; rfl, fun j qs rs e1 e2 => ?_⟩
          by_cases hj : j < i
          · rw [List.getElem?_append_left (by omega)] at e1
            rw [List.getElem?_append_left (by omega)] at e2
            exact hT.2 j qs rs e1 e2
          · rw [List.getElem?_append_right (by omega)] at e1
            rw [List.getElem?_append_right (by omega)] at e2
            have hj0 : j = i := by
              have := (List.getElem?_eq_some_iff.mp e2).1
              simp only [List.length_singleton] at this
              omega
            subst hj0
            rw [hl4, Nat.sub_self] at e1
            rw [hl3, Nat.sub_self] at e2
            have e1' : ns = qs := by simpa using e1
            have e2' : ms = rs := by simpa using e2
            subst e1' e2'
            exact told
        · intro t ht
          rcases (List.mem_append).1 ht with z | z
          · exact hnew t z
          · rw [(List.mem_singleton).1 z]
            exact ⟨h2p, hDp.symm⟩
      · rintro H3 ⟨ts, mss, hD3, kp3, hti, hR, hT, hnew⟩
        have hx3 := kp3.ins hx2
        have hlen2 : (as.map V.ref).length = nss.length := hlm
        rw [hlen2, List.take_length] at hT
        refine ⟨_, rfl, x, C, dx, _, rfl, hx3, cl, nR, by (show 1 < 1000); decide, ?_⟩
        have xT : x ∉ Ts := kp3.t1.out hx3 fun _ q => by cases q
        have Dx : D ≠ x := ne_of hD3 hx3 (by intro q; cases q)
        refine k3' hok _ mss ⟨(kp2.trans kp3).own nx xT, nx, dx, D, ts, upd_same, kp2.free hD, by rw [upd_ne Dx]; exact hD3, fun t ht => kp2.free (hnew t ht).1, ⟨hR.1, fun j b e => ?_⟩⟩ hT
        obtain ⟨qs, h1, h2⟩ := hR.2 j b e
        refine ⟨qs, h1, ?_⟩
        have bx : b ≠ x := ne_of h2 hx3 (by intro q; cases q)
        rw [upd_ne bx]
        exact h2
end
end Mb

namespace Mb
open L2 PySem PySem.Spec PyProof.Rows
/-! ### the mathematics of a table -/
def has (ms ns : List Int) : Bool := ns.all fun k => decide (k ∈ ms)
def onAll (m : Int) (rss : List (List Int)) : Bool := rss.all fun rs => decide (m ∈ rs)
def hasAt (mss : List (List Int)) (ns : List Int) (j : Nat) : Bool := match mss[j]? with
  | some ms => has ms ns
  | none => false
/-- the numbers below j that pass, rising -/
def passTo (p : Nat → Bool) : Nat → List Int
  | 0 => []
  | j + 1 => passTo p j ++ (if p j = true then [(j : Int)] else [])
def thingsOf (mss : List (List Int)) (ns : List Int) : List Int := passTo (hasAt mss ns) mss.length
def picked (mss : List (List Int)) (ks : List Int) : List (List Int) := ks.map fun k => mss.getD k.toNat []
def marksOf (n : Int) (mss : List (List Int)) (ks : List Int) : List Int := passTo (fun m => onAll (m : Int) (picked mss ks)) n.toNat
def closedOf (n : Int) (mss : List (List Int)) (ns : List Int) : List Int := marksOf n mss (thingsOf mss ns)
theorem passTo_len (p : Nat → Bool) : ∀ j : Nat, (passTo p j).length ≤ j
  | 0 => Nat.le_refl _
  | j + 1 => by
    show (passTo p j ++ _).length ≤ _
    rw [List.length_append]
    have := passTo_len p j
    split
    · simp only [List.length_singleton]; omega
    · simp only [List.length_nil]; omega
theorem passTo_mem (p : Nat → Bool) : ∀ (j : Nat) (k : Int), k ∈ passTo p j ↔ 0 ≤ k ∧ k < j ∧ p k.toNat = true
  | 0, k => by
    show k ∈ ([] : List Int) ↔ _
    constructor
    · intro h; cases h
    · intro h; omega
  | j + 1, k => by
    show k ∈ passTo p j ++ _ ↔ _
    rw [List.mem_append, passTo_mem p j k]
    by_cases h : p j = true
    · rw [if_pos h]
      constructor
      · rintro (z | z)
        · exact ⟨z.1, by omega, z.2.2⟩
        · rw [(List.mem_singleton).1 z]
          exact ⟨by omega, by omega, by simpa using h⟩
      · rintro ⟨z1, z2, z3⟩
        by_cases e : k = j
        · exact .inr (by rw [e]; exact List.mem_singleton.mpr rfl)
        · exact .inl ⟨z1, by omega, z3⟩
    · rw [if_neg h]
      constructor
      · rintro (z | z)
        · exact ⟨z.1, by omega, z.2.2⟩
        · cases z
      · rintro ⟨z1, z2, z3⟩
        by_cases e : k = j
        · rw [e] at z3
          exact absurd (by simpa using z3) h
        · exact .inl ⟨z1, by omega, z3⟩
theorem passTo_rise (p : Nat → Bool) : ∀ j : Nat, (passTo p j).Pairwise (· < ·)
  | 0 => List.Pairwise.nil
  | j + 1 => by
    show (passTo p j ++ _).Pairwise _
    rw [List.pairwise_append]
    refine ⟨passTo_rise p j, ?_, fun a ha b hb => ?_⟩
    · split
      · exact List.pairwise_singleton _ _
      · exact List.Pairwise.nil
    · have h1 := ((passTo_mem p j a).mp ha).2.1
      split at hb
      · rw [List.mem_singleton.mp hb]; exact h1
      · cases hb
theorem okRow_iff {n : Int} {ns : List Int} : okRow n ns = true ↔ ∀ k ∈ ns, 0 ≤ k ∧ k < n := by
  unfold okRow
  simp only [List.all_eq_true, Bool.and_eq_true, decide_eq_true_eq]
theorem things_ok (mss : List (List Int)) (ns : List Int) : okRow mss.length (thingsOf mss ns) = true := okRow_iff.mpr fun k hk => by
  have h := (passTo_mem _ _ _).mp hk
  exact ⟨h.1, h.2.1⟩
/-! ### a table that stands at x -/
structure TabAt (C : Addr) (H : Hp) (x : Addr) (n : Int) (mss : List (List Int)) : Prop where
  ob : ∃ (dx r : Addr) (ts : List Addr), H x = some (.ins C dx (tf n r)) ∧ H r = some (.lst (ts.map V.ref)) ∧ RowsAt H ts mss
  few : mss.length ≤ 60
  lo : 0 ≤ n
  hi : n ≤ 60
  short : ∀ ms ∈ mss, ms.length ≤ 60
theorem TabAt.kp {C : Addr} {Ts : List Addr} {H H1 : Hp} {x : Addr} {n : Int} {mss : List (List Int)} (t : TabAt C H x n mss) (k : Kp Ts H H1) : TabAt C H1 x n mss :=
  ⟨let ⟨dx, r, ts, h1, h2, h3⟩ := t.ob; ⟨dx, r, ts, k.ins h1, k.lst h2, h3.kp k⟩, t.few, t.lo, t.hi, t.short⟩
theorem TabAt.same {C : Addr} {H H1 : Hp} {x : Addr} {n : Int} {mss : List (List Int)} (t : TabAt C H x n mss) (k : Same H H1) : TabAt C H1 x n mss :=
  ⟨let ⟨dx, r, ts, h1, h2, h3⟩ := t.ob; ⟨dx, r, ts, k _ _ h1, k _ _ h2, h3.same k⟩, t.few, t.lo, t.hi, t.short⟩
structure Txt2 (K : PySem.W.Frag) (mg : Str → Option Value) (CT : Addr) : Prop where
  enumerate : mg "enumerate" = none
  range : mg "range" = none
  gT : mg "BadThing" = some (.ref CT)
  xT : ∃ b, PySem.W.excIn K CT b "ValueError.__new__" = true ∧ b = [.type "ValueError", .type "Exception", .type "BaseException", .type "object"]
  kT : PySem.W.keepIn K (.ref CT) = true
  bT : PySem.W.subIn K (.ref CT) (.type "BaseException") = some true
  tT : PySem.W.typeIn K (.ref CT) = some (.type "type")
section
variable {P : Program} {w : World} {K : PySem.W.Frag} {mg : Str → Option Value} {base : Heap} {C CS CM CT : Addr}
/-! ### has_all(row, marks), on_all(mark, rows) -/
def spHasAll (K : PySem.W.Frag) (Ts : List Addr) : Sp := fun vs H Q _ => ∃ (r a : Addr) (rs ns : List Int), vs = [.ref r, .ref a] ∧ SqL K H r (rs.map V.int) ∧ SqL K H a (ns.map V.int) ∧ Tabs Ts H ∧ ∀ H', Kp Ts H H' → Q (.bl (has rs ns)) H'
theorem scHasAll : FnScope ["whole", "part"] ["whole", "part"] (defScope sHasAll) := ⟨rfl, rfl, rfl, by decide +kernel, rfl, by decide +kernel, by decide +kernel⟩
theorem ok_hasAll {f c Pt : Addr} {fd : FuncData} {Ts : List Addr} (F : FunC K "has_all" "has_all" sHasAll f fd c) (T : Txt K mg CS CM) (TB : GxR.TabB base mg c Pt) (hPt : Pt ∈ Ts) : FnOk P w K mg base CX0 1 f fd ["whole", "part"] (spHasAll K Ts) := by
  refine F.ok scHasAll (fun vs H Q E h => ?_) (fun A outer s H vs Q E hr h => ?_)
  · obtain ⟨r, a, rs, ns, rfl, _⟩ := h
    rfl
  · obtain ⟨r, a, rs, ns, rfl, hR, hS, tb, k⟩ := h
    refine ⟨_, pss_one (ps_ret (MbX.pe_allL hr (by rfl) T.all TB rfl (MbX.genN_by (sc := defScope sHasAll) rfl (by decide +kernel)) (pv 1) (MbX.elt_inCap (j := 0) (cap := "whole") rfl (.inl rfl) rfl (by decide +kernel) rfl rfl) (by intro _; rfl))), ?_⟩
    refine ⟨_, rfl, a, ns.map V.int, _, rfl, hS, ⟨ns, rs, r, rfl, hR, rfl, rfl⟩, tb Pt hPt, fun H2 g => ?_⟩
    have e := k H2 (Kp.grown tb hPt g)
    rw [List.length_map, MbX.all_trOf]
    exact e
/-- a list of lists of ints, to be read -/
def GridR (K : PySem.W.Frag) (H : Hp) (a : Addr) (rss : List (List Int)) : Prop := ∃ as : List Addr, SqL K H a (as.map V.ref) ∧ as.length = rss.length ∧ ∀ (i : Nat) (b : Addr), as[i]? = some b → ∃ rs : List Int, rss[i]? = some rs ∧ SqL K H b (rs.map V.int)
theorem GridR.kp {Ts : List Addr} {H H1 : Hp} {a : Addr} {rss : List (List Int)} (g : GridR K H a rss) (k : Kp Ts H H1) : GridR K H1 a rss :=
  let ⟨as, h1, h2, h3⟩ := g
  ⟨as, k.seq h1, h2, fun i b e => let ⟨rs, q1, q2⟩ := h3 i b e; ⟨rs, q1, k.seq q2⟩⟩
theorem GridR.of {H : Hp} {a : Addr} {as : List Addr} {rss : List (List Int)} (h : H a = some (.lst (as.map V.ref))) (r : RowsAt H as rss) : GridR K H a rss := ⟨as, SqL.of h, r.1, fun i b e => let ⟨rs, h1, h2⟩ := r.2 i b e; ⟨rs, h1, SqL.of h2⟩⟩
def spOnAll (K : PySem.W.Frag) (Ts : List Addr) : Sp := fun vs H Q _ => ∃ (m : Int) (a : Addr) (rss : List (List Int)), vs = [.int m, .ref a] ∧ GridR K H a rss ∧ Tabs Ts H ∧ ∀ H', Kp Ts H H' → Q (.bl (onAll m rss)) H'
theorem scOnAll : FnScope ["mark", "rows"] ["mark", "rows"] (defScope sOnAll) := ⟨rfl, rfl, rfl, by decide +kernel, rfl, by decide +kernel, by decide +kernel⟩
theorem ok_onAll {f c Pt : Addr} {fd : FuncData} {Ts : List Addr} (F : FunC K "on_all" "on_all" sOnAll f fd c) (T : Txt K mg CS CM) (TB : GxR.TabB base mg c Pt) (hPt : Pt ∈ Ts) : FnOk P w K mg base CX0 1 f fd ["mark", "rows"] (spOnAll K Ts) := by
  refine F.ok scOnAll (fun vs H Q E h => ?_) (fun A outer s H vs Q E hr h => ?_)
  · obtain ⟨m, a, rss, rfl, _⟩ := h
    rfl
  · obtain ⟨m, a, rss, rfl, ⟨as, hS, hl, hR⟩, tb, k⟩ := h
    refine ⟨_, pss_one (ps_ret (MbX.pe_allL hr (by rfl) T.all TB rfl (MbX.genN_by (sc := defScope sOnAll) rfl (by decide +kernel)) (pv 1) (MbX.elt_capIn (j := 0) (cap := "mark") rfl (.inl rfl) rfl (by decide +kernel) rfl rfl) (by intro _; rfl))), ?_⟩
    refine ⟨_, rfl, a, as.map V.ref, _, rfl, hS, ⟨m, as, rss, rfl, rfl, hl, hR, rfl⟩, tb Pt hPt, fun H2 g => ?_⟩
    have e := k H2 (Kp.grown tb hPt g)
    rw [List.length_map, hl, MbX.all_trOf]
    exact e
/-! ### check_things(things, many) -/
theorem scThings : FnScope ["things", "many"] ["things", "many"] (defScope sThings) := ⟨rfl, rfl, rfl, by decide +kernel, rfl, by decide +kernel, by decide +kernel⟩
theorem ok_things {f fB : Addr} {fd fdB : FuncData} {Ts : List Addr} (F : Fun K "check_things" "check_things" sThings f fd) (T : Txt2 K mg CT) (GB : FnOk P w K mg base CX0 1 fB fdB ["numbers", "many"] (spBelow K Ts)) (gB : mg "all_below" = some (.ref fB)) (kB : PySem.W.keepIn K (.ref fB) = true) (bB : Binds K fdB ["numbers", "many"] []) :
    FnOk P w K mg base (L2.CX P w) 2 f fd ["things", "many"] (spMarks K CT Ts) := by
  refine F.okX scThings (fun vs H Q E h => ?_) (fun cdv A outer s H vs Q E hr h => ?_)
  · obtain ⟨a, ns, n, rfl, _⟩ := h
    rfl
  · obtain ⟨a, ns, n, rfl, hS, tb, kE, kQ⟩ := h
    obtain ⟨bT, xT, rfl⟩ := T.xT
    refine ⟨_, pss_one (ps_if (pt_not (pt_val (pe_call GB hr (by rfl) gB kB bB .nil pass0 (pa_cons (pv 0) (pa_cons (pv 1) pa_nil)))))
        (pss_one (ps_raise rfl (takes_of rfl rfl rfl rfl) (pmk_own PySem.F.excBase_ValueError xT T.gT T.kT (raises_own T.bT T.tT) (by rfl)))) pss_nil), ?_⟩
    refine ⟨_, rfl, _, rfl, a, ns, n, rfl, hS, tb, fun H' kp => ⟨_, rfl, ?_⟩⟩
    cases e : okRow n ns with
    | false => exact iteT (kE e H' kp)
    | true => exact iteF (kQ e H' kp)
/-! ### Table.things_with(self, marks) -/
def spWith (K : PySem.W.Frag) (C CM : Addr) (Ts : List Addr) : Sp := fun vs H Q E => ∃ (x a : Addr) (n : Int) (mss : List (List Int)) (ns : List Int), vs = [.ref x, .ref a] ∧ TabAt C H x n mss ∧ SqL K H a (ns.map V.int) ∧ Tabs Ts H ∧
  (okRow n ns = false → ∀ H', Kp Ts H H' → E (.ref CM) none H') ∧
  (okRow n ns = true → ∀ (H' : Hp) (p : Addr), Kp Ts H H' → H p = none → H' p = some (.lst ((thingsOf mss ns).map V.int)) → Q (.ref p) H')
abbrev nWith : List Str := ["self", "marks", "thing", "row"]
theorem scWith : FnScope nWith ["self", "marks"] (defScope sWith) := ⟨rfl, rfl, rfl, by decide +kernel, rfl, by decide +kernel, by decide +kernel⟩
theorem ok_with {f fM fH : Addr} {fd fdM fdH : FuncData} {Ts : List Addr} (F : Fun K "things_with" "Table.things_with" sWith f fd) (T : Txt2 K mg CT) (cl : Cls K C) (nM : NoAttr K C "many") (nR : NoAttr K C "rows")
    (GM : FnOk P w K mg base (L2.CX P w) 2 fM fdM ["marks", "many"] (spMarks K CM Ts)) (gM : mg "check_marks" = some (.ref fM)) (kM : PySem.W.keepIn K (.ref fM) = true) (bM : Binds K fdM ["marks", "many"] [])
    (GH : FnOk P w K mg base CX0 1 fH fdH ["whole", "part"] (spHasAll K Ts)) (gH : mg "has_all" = some (.ref fH)) (kH : PySem.W.keepIn K (.ref fH) = true) (bH : Binds K fdH ["whole", "part"] []) :
    FnOk P w K mg base (L2.CX P w) 3 f fd ["self", "marks"] (spWith K C CM Ts) := by
  refine F.okX scWith (fun vs H Q E h => ?_) (fun cdv A outer s H vs Q E hr h => ?_)
  · obtain ⟨x, a, n, mss, ns, rfl, _⟩ := h
    rfl
  · obtain ⟨x, a, n, mss, ns, rfl, tab, hS, tb, kE, kQ⟩ := h
    have hr1 := hr.mono (j := 1) (by decide)
    refine ⟨_, pss_cons (ps_expr (pe_call GM hr (by rfl) gM kM bM .nil (passes_call (takes_of rfl rfl rfl rfl) fun _ _ _ _ e => e) (pa_cons (pv 1) (pa_cons (pe_fld (pv 0) rfl) pa_nil))))
      (pss_one (ps_ret (pe_lc (own := [("thing", 2), ("row", 3)]) (g := gTup K 2 (gCons (gName 2) (gCons (gName 3) gNil))) (tt := tB (tCall (spHasAll K Ts) [] E0 (tCons (tVar 3) (tCons (tVar 1) tNil)))) rfl scWith.nd (pi_enum (by rfl) T.enumerate (pa_cons (pe_fld (pv 0) rfl) pa_nil)) (blkOk_by (N := nWith) (sc := defScope sWith) (by decide +kernel))
        (fun _ _ _ _ _ => pg_tup rfl (pgs_cons (pg_name (i := 2) scWith.nd rfl (Or.inl rfl)) (pgs_cons (pg_name (i := 3) scWith.nd rfl (Or.inl rfl)) pgs_nil)))
        (fun _ _ _ _ _ => pts_one (pt_val (pe_call GH hr1 (by rfl) gH kH bH .nil pass0 (pa_cons (pv 3) (pa_cons (pv 1) pa_nil))))) (fun _ _ _ _ _ => pv 2)))), ?_⟩
    obtain ⟨dx, r, ts, hx, hr0, hT⟩ := tab.ob
    refine ⟨_, rfl, _, rfl, x, C, dx, _, _, rfl, hx, cl, nM, tf_many _ _, a, ns, n, rfl, hS, tb, fun e H' kp => kE e H' kp, fun ok H1 kp1 => ?_⟩
    have hx1 := kp1.ins hx
    have hr1' := kp1.lst hr0
    have hT1 := hT.kp kp1
    refine ⟨_, rfl, x, C, dx, _, _, rfl, hx1, cl, nR, tf_rows _ _, r, _, rfl, SqL.of hr1', fun D hD => ?_⟩
    refine lc_it (walk_enum (K := K) (a := r) (xs := ts.map V.ref)) (fun i H2 => H2 D = some (.lst ((passTo (hasAt mss ns) i).map V.int)) ∧ Kp Ts H1 H2) ⟨upd_same, (Kp.refl kp1.t1).new hD⟩ (fun i H2 _ q => SqL.of (q.2.lst hr1')) ?_ ?_
    · rintro i v H2 H3 hi ⟨hD2, kp2⟩ ⟨Tt, v1, v2, rfl, hTt, rfl, e1, e2⟩
      cases e1
      obtain ⟨t, ht, rfl⟩ : ∃ t, ts[i]? = some t ∧ v2 = V.ref t := by
        have e2' : (ts.map V.ref)[i]? = some v2 := e2
        rw [List.getElem?_map] at e2'
        cases q : ts[i]? with
        | none => rw [q] at e2'; cases e2'
        | some t => rw [q] at e2'; exact ⟨t, rfl, (Option.some.inj e2').symm⟩
      obtain ⟨ms, hms, hM⟩ := hT1.2 i t ht
      have kp3 : Kp Ts H1 (upd H2 Tt (.tup [.int (i : Nat), .ref t])) := kp2.new hTt
      have DT : D ≠ Tt := ne_of_none hD2 hTt
      have il : i < 60 := by
        have := (List.getElem?_eq_some_iff.mp hms).1
        have := tab.few
        omega
      have pl := passTo_len (hasAt mss ns) i
      have ph : hasAt mss ns i = has ms ns := by unfold hasAt; rw [hms]
      refine ⟨Tt, _, rfl, SqT.of upd_same, rfl, _, _, rfl, _, _, rfl, rfl, rfl, _, rfl, _, rfl, t, a, ms, ns, rfl, SqL.of (kp3.lst hM), kp3.seq (kp1.seq hS), kp3.t1, fun H4 kp4 => ⟨_, rfl, ?_⟩⟩
      have hD4 : H4 D = some (.lst ((passTo (hasAt mss ns) i).map V.int)) := kp4.lst (by rw [upd_ne DT]; exact hD2)
      have kp5 := kp3.trans kp4
      have es : passTo (hasAt mss ns) (i + 1) = passTo (hasAt mss ns) i ++ (if hasAt mss ns i = true then [(i : Int)] else []) := rfl
      rw [es, ph]
      cases hh : has ms ns with
      | true =>
        refine iteT ⟨_, rfl, _, hD4, by rw [List.length_map, sizeLine_eq]; omega, ?_, kp5.own hD (kp1.t1.outN hD)⟩
        rw [upd_same, List.map_append, if_pos rfl]
        rfl
      | false =>
        refine iteF ?_
        rw [if_neg Bool.false_ne_true, List.append_nil]
        exact ⟨hD4, kp5⟩
    · rintro H2 ⟨hD2, kp2⟩
      have el : (ts.map V.ref).length = mss.length := by rw [List.length_map, hT.1]
      rw [el] at hD2
      exact kQ ok H2 D (kp1.trans kp2) (kp1.free hD) hD2
/-! ### Table.marks_of(self, things) -/
def spOf (K : PySem.W.Frag) (C CT : Addr) (Ts : List Addr) : Sp := fun vs H Q E => ∃ (x a : Addr) (n : Int) (mss : List (List Int)) (ks : List Int), vs = [.ref x, .ref a] ∧ TabAt C H x n mss ∧ SqL K H a (ks.map V.int) ∧ ks.length ≤ 1000 ∧ Tabs Ts H ∧
  (okRow mss.length ks = false → ∀ H', Kp Ts H H' → E (.ref CT) none H') ∧
  (okRow mss.length ks = true → ∀ (H' : Hp) (p : Addr), Kp Ts H H' → H p = none → H' p = some (.lst ((marksOf n mss ks).map V.int)) → Q (.ref p) H')
abbrev nOf : List Str := ["self", "things", "rows", "thing", "mark"]
theorem scOf : FnScope nOf ["self", "things"] (defScope sOf) := ⟨rfl, rfl, rfl, by decide +kernel, rfl, by decide +kernel, by decide +kernel⟩
theorem ok_of {f fK fO : Addr} {fd fdK fdO : FuncData} {Ts : List Addr} (F : Fun K "marks_of" "Table.marks_of" sOf f fd) (T0 : Txt K mg CS CM) (T : Txt2 K mg CT) (cl : Cls K C) (nM : NoAttr K C "many") (nR : NoAttr K C "rows")
    (GK : FnOk P w K mg base (L2.CX P w) 2 fK fdK ["things", "many"] (spMarks K CT Ts)) (gK : mg "check_things" = some (.ref fK)) (kK : PySem.W.keepIn K (.ref fK) = true) (bK : Binds K fdK ["things", "many"] [])
    (GO : FnOk P w K mg base CX0 1 fO fdO ["mark", "rows"] (spOnAll K Ts)) (gO : mg "on_all" = some (.ref fO)) (kO : PySem.W.keepIn K (.ref fO) = true) (bO : Binds K fdO ["mark", "rows"] []) :
    FnOk P w K mg base (L2.CX P w) 3 f fd ["self", "things"] (spOf K C CT Ts) := by
  refine F.okX scOf (fun vs H Q E h => ?_) (fun cdv A outer s H vs Q E hr h => ?_)
  · obtain ⟨x, a, n, mss, ks, rfl, _⟩ := h
    rfl
  · obtain ⟨x, a, n, mss, ks, rfl, tab, hS, hkl, tb, kE, kQ⟩ := h
    have hr1 := hr.mono (j := 1) (by decide)
    refine ⟨_, pss_cons (ps_expr (pe_call GK hr (by rfl) gK kK bK .nil (passes_call (takes_of rfl rfl rfl rfl) fun _ _ _ _ e => e) (pa_cons (pv 1) (pa_cons (pe_callB call_len_seq (by rfl) T0.len PySem.boot_len (pa_cons (pe_fld (pv 0) rfl) pa_nil)) pa_nil))))
      (pss_cons (ps_set (i := 2) scOf.nd rfl (Or.inr rfl) (pe_lc (own := [("thing", 3)]) (g := gName 3) (tt := tYes) (te := tOp (rIxL K) (tFld K (tVar 0) "rows") (tVar 3)) rfl scOf.nd (pi_list (pv 1)) (blkOk_by (N := nOf) (sc := defScope sOf) (by decide +kernel)) (fun _ _ _ _ _ => pg_name (i := 3) scOf.nd rfl (Or.inl rfl)) (fun _ _ _ _ _ => pts_nil)
        (fun _ _ _ _ _ => pe_ix ix_list (pe_fld (pv 0) rfl) (pv 3) (fun _ _ => rfl))))
      (pss_one (ps_ret (pe_lc (own := [("mark", 4)]) (g := gName 4) (tt := tB (tCall (spOnAll K Ts) [] E0 (tCons (tVar 4) (tCons (tVar 2) tNil)))) rfl scOf.nd (pi_range1 (by rfl) T.range (pa_cons (pe_fld (pv 0) rfl) pa_nil)) (blkOk_by (N := nOf) (sc := defScope sOf) (by decide +kernel)) (fun _ _ _ _ _ => pg_name (i := 4) scOf.nd rfl (Or.inl rfl))
        (fun _ _ _ _ _ => pts_one (pt_val (pe_call GO hr1 (by rfl) gO kO bO .nil pass0 (pa_cons (pv 4) (pa_cons (pv 2) pa_nil))))) (fun _ _ _ _ _ => pv 4))))), ?_⟩
    obtain ⟨dx, r, ts, hx, hr0, hT⟩ := tab.ob
    have tl : (ts.map V.ref).length = mss.length := by rw [List.length_map, hT.1]
    refine ⟨_, rfl, _, rfl, x, C, dx, _, _, rfl, hx, cl, nR, tf_rows _ _, r, _, rfl, .inl (SqL.of hr0), a, ks, _, rfl, hS, tb, fun e H' kp => kE (by rw [← tl]; exact e) H' kp, fun ok0 H1 kp1 => ?_⟩
    have ok : okRow mss.length ks = true := by rw [← tl]; exact ok0
    have hx1 := kp1.ins hx
    have hr1' := kp1.lst hr0
    have hT1 := hT.kp kp1
    -- the rows of these things
    refine ⟨_, rfl, a, rfl, ⟨_, kp1.seq hS⟩, fun D hD => ?_⟩
    refine lc_list (K := K) (a := a) (xs := ks.map V.int) (fun i H2 => ∃ us : List Addr, H2 D = some (.lst (us.map V.ref)) ∧ Same H1 H2 ∧ RowsAt H1 us (picked mss (ks.take i))) ⟨[], upd_same, Same.up (Same.refl H1) hD, RowsAt.nil⟩ (fun i H2 _ ⟨_, _, s, _⟩ => s.seq (kp1.seq hS)) ?_ ?_
    · rintro i y H2 hy ⟨us, hD2, s2, hU⟩
      obtain ⟨k, hk, rfl⟩ : ∃ k, ks[i]? = some k ∧ y = V.int k := by
        rw [List.getElem?_map] at hy
        cases q : ks[i]? with
        | none => rw [q] at hy; cases hy
        | some k => rw [q] at hy; exact ⟨k, rfl, (Option.some.inj hy).symm⟩
      have hk0 := okRow_iff.mp ok k (List.mem_of_getElem? hk)
      obtain ⟨j, rfl⟩ := Int.eq_ofNat_of_zero_le hk0.1
      have hj : j < mss.length := by omega
      have hmj : mss[j]? = some mss[j] := List.getElem?_eq_getElem hj
      obtain ⟨t, ht, hM⟩ := hT1.of hmj
      have il : i < 1000 := by
        have := (List.getElem?_eq_some_iff.mp hk).1
        omega
      have ul : us.length ≤ i := by
        rw [hU.1]
        unfold picked
        rw [List.length_map, List.length_take]
        omega
      have tk : picked mss (ks.take (i + 1)) = picked mss (ks.take i) ++ [mss[j]] := by
        unfold picked
        rw [List.take_add_one, hk, List.map_append]
        congr 1
        show [mss.getD (j : Int).toNat []] = [mss[j]]
        rw [Int.toNat_natCast, List.getD_eq_getElem?_getD, hmj]
        rfl
      refine ⟨rfl, _, rfl, x, C, dx, _, _, rfl, s2 _ _ hx1, cl, nR, tf_rows _ _, _, rfl, r, _, (j : Int), _, rfl, rfl, SqL.of (s2 _ _ hr1'), atI_nat (by rw [List.getElem?_map, ht]; rfl), ?_⟩
      refine ⟨us.map V.ref, hD2, by rw [List.length_map, sizeLine_eq]; omega, us ++ [t], by rw [upd_same, List.map_append]; rfl, fun b o e => ?_, by rw [tk]; exact hU.snoc hM⟩
      rw [upd_ne (ne_of_none e hD)]
      exact s2 b o e
    · rintro H2 ⟨us, hD2, s2, hU⟩
      rw [List.length_map, List.take_length] at hU
      have kp2 : Kp Ts H1 H2 := Kp.of_same kp1.t1 s2
      have hx2 := s2 _ _ hx1
      refine ⟨_, rfl, x, C, dx, _, _, rfl, hx2, cl, nM, tf_many _ _, n, rfl, by have := tab.lo; omega, by have := tab.hi; omega, fun D3 hD3 => ?_⟩
      refine lc_range (lo := 0) (n := n.toNat) (fun i H3 => H3 D3 = some (.lst ((passTo (fun m => onAll (m : Int) (picked mss ks)) i).map V.int)) ∧ Kp Ts H2 H3) ⟨upd_same, (Kp.refl kp2.t1).new hD3⟩ ?_ ?_
      · rintro i H3 hi ⟨hD4, kp3⟩
        have gr : GridR K H3 D (picked mss ks) := (GridR.of hD2 (hU.same s2)).kp kp3
        have il : i < 60 := by have := tab.hi; omega
        have pl := passTo_len (fun m => onAll (m : Int) (picked mss ks)) i
        refine ⟨rfl, _, rfl, _, rfl, _, D, _, rfl, gr, kp3.t1, fun H4 kp4 => ⟨_, rfl, ?_⟩⟩
        have hD5 := kp4.lst hD4
        have kp5 := kp3.trans kp4
        have es : passTo (fun m => onAll (m : Int) (picked mss ks)) (i + 1) = passTo (fun m => onAll (m : Int) (picked mss ks)) i ++ (if onAll (i : Int) (picked mss ks) = true then [(i : Int)] else []) := rfl
        rw [es, Int.zero_add]
        cases hh : onAll (i : Int) (picked mss ks) with
        | true =>
          refine iteT ⟨_, rfl, _, hD5, by rw [List.length_map, sizeLine_eq]; omega, ?_, kp5.own hD3 (kp2.t1.outN hD3)⟩
          rw [upd_same, List.map_append, if_pos rfl]
          rfl
        | false =>
          refine iteF ?_
          rw [if_neg Bool.false_ne_true, List.append_nil]
          exact ⟨hD5, kp5⟩
      · rintro H3 ⟨hD4, kp3⟩
        exact kQ ok H3 D3 ((kp1.trans kp2).trans kp3) ((kp1.trans kp2).free hD3) hD4
/-! ### Table.closed(self, marks) -/
def spClosed (K : PySem.W.Frag) (C CM : Addr) (Ts : List Addr) : Sp := fun vs H Q E => ∃ (x a : Addr) (n : Int) (mss : List (List Int)) (ns : List Int), vs = [.ref x, .ref a] ∧ TabAt C H x n mss ∧ SqL K H a (ns.map V.int) ∧ Tabs Ts H ∧
  (okRow n ns = false → ∀ H', Kp Ts H H' → E (.ref CM) none H') ∧
  (okRow n ns = true → ∀ (H' : Hp) (p : Addr), Kp Ts H H' → H p = none → H' p = some (.lst ((closedOf n mss ns).map V.int)) → Q (.ref p) H')
theorem tf_no {n : Int} {r : Addr} {m : Str} (h1 : ¬ m = "rows") (h2 : ¬ m = "many") : (tf n r).lookup m = none := by
  unfold tf
  rw [lookup_putF, if_neg h1, lookup_putF, if_neg h2]
  rfl
theorem scClosed : FnScope ["self", "marks"] ["self", "marks"] (defScope sClosed) := ⟨rfl, rfl, rfl, by decide +kernel, rfl, by decide +kernel, by decide +kernel⟩
theorem ok_closed {f fW fO : Addr} {fd fdW fdO : FuncData} {Ts : List Addr} (F : Fun K "closed" "Table.closed" sClosed f fd) (cl : Cls K C)
    (GW : FnOk P w K mg base (L2.CX P w) 3 fW fdW ["self", "marks"] (spWith K C CM Ts)) (mW : Meth K C "things_with" fW) (bW : Binds K fdW ["self", "marks"] [])
    (GO : FnOk P w K mg base (L2.CX P w) 3 fO fdO ["self", "things"] (spOf K C CT Ts)) (mO : Meth K C "marks_of" fO) (bO : Binds K fdO ["self", "things"] []) :
    FnOk P w K mg base (L2.CX P w) 4 f fd ["self", "marks"] (spClosed K C CM Ts) := by
  refine F.okX scClosed (fun vs H Q E h => ?_) (fun cdv A outer s H vs Q E hr h => ?_)
  · obtain ⟨x, a, n, mss, ns, rfl, _⟩ := h
    rfl
  · obtain ⟨x, a, n, mss, ns, rfl, tab, hS, tb, kE, kQ⟩ := h
    refine ⟨_, pss_one (ps_ret (pe_meth (pv 0) cl mO GO hr bO .nil (passes_call (takes_of rfl rfl rfl rfl) fun _ _ _ _ e => e)
      (pa_cons (pe_meth (pv 0) cl mW GW hr bW .nil (passes_call (takes_of rfl rfl rfl rfl) fun _ _ _ _ e => e) (pa_cons (pv 1) pa_nil)) pa_nil))), ?_⟩
    obtain ⟨dx, r, ts, hx, hr0, hT⟩ := id tab.ob
    refine ⟨_, rfl, x, dx, _, rfl, hx, tf_no (by decide +kernel) (by decide +kernel), _, rfl, x, dx, _, rfl, hx, tf_no (by decide +kernel) (by decide +kernel), _, rfl, ?_⟩
    refine ⟨x, a, n, mss, ns, rfl, tab, hS, tb, kE, fun ok H1 p kp1 np hp => ?_⟩
    have tl := passTo_len (hasAt mss ns) mss.length
    have tm : (thingsOf mss ns).length ≤ mss.length := tl
    refine ⟨x, p, n, mss, thingsOf mss ns, rfl, tab.kp kp1, SqL.of hp, by have := tab.few; omega, kp1.t1, fun e => ?_, fun _ H2 q kp2 nq hq => ?_⟩
    · rw [things_ok] at e
      cases e
    · exact kQ ok H2 q (kp1.trans kp2) (kp1.free nq) hq
end
end Mb

namespace Mb
open L2 PySem PySem.Spec PyProof.Rows
/-! ### what the laws' texts rest on -/
/-- ns is a set of marks below n, as it is told -/
def SetIn (n : Int) (ns : List Int) : Prop := ns.Pairwise (· < ·) ∧ ∀ k ∈ ns, 0 ≤ k ∧ k < n
theorem okRow_snoc {n k : Int} {ns : List Int} (h : okRow n ns = true) (h0 : 0 ≤ k) (h1 : k < n) : okRow n (ns ++ [k]) = true := okRow_iff.mpr fun j hj => by
  rcases (List.mem_append).1 hj with z | z
  · exact okRow_iff.mp h j z
  · rw [List.mem_singleton.mp z]; exact ⟨h0, h1⟩
theorem okRow_app {n : Int} {ns ms : List Int} (h : okRow n ns = true) (h2 : okRow n ms = true) : okRow n (ns ++ ms) = true := okRow_iff.mpr fun j hj => by
  rcases (List.mem_append).1 hj with z | z
  · exact okRow_iff.mp h j z
  · exact okRow_iff.mp h2 j z
theorem rise_short {n : Nat} : ∀ {ms : List Int}, SetIn n ms → ms.length ≤ n := by
  induction n with
  | zero =>
    intro ms h
    cases ms with
    | nil => exact Nat.le_refl _
    | cons a r => have := h.2 a List.mem_cons_self; omega
  | succ n ih =>
    intro ms h
    by_cases hz : ms = []
    · rw [hz]; exact Nat.zero_le _
    · have hd := List.dropLast_concat_getLast hz
      have hp : (ms.dropLast ++ [ms.getLast hz]).Pairwise (· < ·) := by rw [hd]; exact h.1
      rw [List.pairwise_append] at hp
      have q : SetIn n ms.dropLast := ⟨hp.1, fun k hk => by
        have h1 := h.2 k (List.dropLast_subset _ hk)
        have h2 := hp.2.2 k hk _ (List.mem_singleton.mpr rfl)
        have h3 := h.2 _ (List.getLast_mem hz)
        omega⟩
      have := ih q
      rw [List.length_dropLast] at this
      omega
theorem ne_v (v : V) : (!decide (v = v)) = false := by simp
theorem ref_at {as : List Addr} {i : Nat} {y : V} (h : (as.map V.ref)[i]? = some y) : ∃ a, as[i]? = some a ∧ y = V.ref a := by
  rw [List.getElem?_map] at h
  cases q : as[i]? with
  | none => rw [q] at h; cases h
  | some a => rw [q] at h; exact ⟨a, rfl, (Option.some.inj h).symm⟩
theorem int_at {ns : List Int} {i : Nat} {y : V} (h : (ns.map V.int)[i]? = some y) : ∃ k, ns[i]? = some k ∧ y = V.int k := by
  rw [List.getElem?_map] at h
  cases q : ns[i]? with
  | none => rw [q] at h; cases h
  | some a => rw [q] at h; exact ⟨a, rfl, (Option.some.inj h).symm⟩
theorem atI_in {α : Type} {xs : List α} {i : Int} (h0 : 0 ≤ i) (h1 : i < xs.length) : ∃ v, atI xs i = some v ∧ xs[i.toNat]? = some v := by
  rcases Int.eq_ofNat_of_zero_le h0 with ⟨j, rfl⟩
  have hj : j < xs.length := by omega
  refine ⟨xs[j], atI_nat (List.getElem?_eq_getElem hj), ?_⟩
  rw [Int.toNat_natCast]
  exact List.getElem?_eq_getElem hj
theorem eqv_row (ns ms : List Int) : PyData.eqv (rowD ns) (rowD ms) = decide (ns = ms) := eqInts ns ms
theorem eqv_grid (ns ms : List (List Int)) : PyData.eqv (gridD ns) (gridD ms) = decide (ns = ms) := eqRows ns ms
theorem ne_grid (m : List (List Int)) : (!decide (m = m)) = false := by simp
theorem inV_int (m : Int) (ns : List Int) : inV (.int m) (ns.map V.int) = decide (m ∈ ns) := by
  unfold inV
  rw [Bool.eq_iff_iff, decide_eq_true_eq, List.any_eq_true]
  constructor
  · rintro ⟨y, hy, e⟩
    obtain ⟨k, hk, rfl⟩ := List.mem_map.mp hy
    have : k = m := by simpa [eqV] using e
    rw [← this]; exact hk
  · intro h
    exact ⟨.int m, List.mem_map.mpr ⟨m, h, rfl⟩, by simp [eqV]⟩
theorem flat_ints (ns : List Int) : (ns.map V.int).all flatV = true := by
  rw [List.all_eq_true]
  intro v hv
  obtain ⟨k, _, rfl⟩ := List.mem_map.mp hv
  rfl
/-- those of ns that lack in ms -/
def lacking (ns ms : List Int) : List Int := ns.filter fun k => !decide (k ∈ ms)
theorem lacking_nil {ns ms : List Int} : decide (lacking ns ms = []) = has ms ns := by
  unfold lacking has
  rw [Bool.eq_iff_iff, decide_eq_true_eq, List.filter_eq_nil_iff, List.all_eq_true]
  constructor
  · intro h k hk
    have := h k hk
    simpa using this
  · intro h k hk
    have := h k hk
    simpa using this
/-- those of the things ks whose rows lack m -/
def without (m : Int) (mss : List (List Int)) (ks : List Int) : List Int := ks.filter fun k => !decide (m ∈ mss.getD k.toNat [])
theorem without_nil {m : Int} {mss : List (List Int)} {ks : List Int} : decide (without m mss ks = []) = onAll m (picked mss ks) := by
  unfold without onAll picked
  rw [Bool.eq_iff_iff, decide_eq_true_eq, List.filter_eq_nil_iff, List.all_eq_true]
  constructor
  · intro h r hr
    obtain ⟨k, hk, rfl⟩ := List.mem_map.mp hr
    have := h k hk
    simpa using this
  · intro h k hk
    have := h _ (List.mem_map.mpr ⟨k, hk, rfl⟩)
    simpa using this
theorem filter_take {α : Type} (p : α → Bool) {xs : List α} {i : Nat} {x : α} (h : xs[i]? = some x) : (xs.take (i + 1)).filter p = (xs.take i).filter p ++ (if p x = true then [x] else []) := by
  rw [List.take_add_one, List.filter_append, h]
  congr 1
  show List.filter p [x] = _
  rw [List.filter_cons]
  split <;> rfl
/-- two lists that rise and hold the same -/
theorem rise_eq : ∀ {ns ms : List Int}, ns.Pairwise (· < ·) → ms.Pairwise (· < ·) → (∀ k, k ∈ ms ↔ k ∈ ns) → ms = ns
  | [], [], _, _, _ => rfl
  | [], m :: ms, _, _, h => by have := (h m).mp List.mem_cons_self; cases this
  | n :: ns, [], _, _, h => by have := (h n).mpr List.mem_cons_self; cases this
  | n :: ns, m :: ms, hn, hm, h => by
    obtain ⟨n1, n2⟩ := List.pairwise_cons.mp hn
    obtain ⟨m1, m2⟩ := List.pairwise_cons.mp hm
    have e : m = n := by
      rcases List.mem_cons.mp ((h m).mp List.mem_cons_self) with e | e
      · exact e
      · rcases List.mem_cons.mp ((h n).mpr List.mem_cons_self) with e2 | e2
        · exact e2.symm
        · have := n1 m e; have := m1 n e2; omega
    subst e
    rw [rise_eq n2 m2 fun k => ⟨fun hk => by
      rcases List.mem_cons.mp ((h k).mp (List.mem_cons_of_mem _ hk)) with e | e
      · have := m1 k hk; omega
      · exact e, fun hk => by
      rcases List.mem_cons.mp ((h k).mpr (List.mem_cons_of_mem _ hk)) with e | e
      · have := n1 k hk; omega
      · exact e⟩]
theorem three {H : Hp} {c1 c2 d : Addr} {o1 o2 o3 : HO} (h1 : H c1 = none) (h2 : (upd H c1 o1) c2 = none) (h3 : (upd (upd H c1 o1) c2 o2) d = none) : ∃ G : Hp, G = upd (upd (upd H c1 o1) c2 o2) d o3 ∧ Same H G ∧ G c1 = some o1 ∧ G c2 = some o2 ∧ G d = some o3 := by
  refine ⟨_, rfl, ?_, ?_, ?_, upd_same⟩
  · exact Same.up (Same.up (Same.up (Same.refl _) h1) h2) h3
  · exact (Same.up (Same.up (Same.refl _) h2) h3) _ _ upd_same
  · exact (Same.up (Same.refl _) h3) _ _ upd_same
theorem rows_two {H : Hp} {p q : Addr} {ns ms : List Int} (h1 : H p = some (.lst (ns.map V.int))) (h2 : H q = some (.lst (ms.map V.int))) : RowsAt H [p, q] [ns, ms] := ⟨rfl, fun i b e => by
  match i, e with
  | 0, e => cases e; exact ⟨ns, rfl, h1⟩
  | 1, e => cases e; exact ⟨ms, rfl, h2⟩
  | i + 2, e => simp at e⟩
end Mb

namespace Mb
open L2 PySem PySem.Spec PyProof.Rows
/-- what list(x) asks of a list or a tuple -/
def rListOf (K : PySem.W.Frag) : List V → Hp → VK → Prop := fun xs H Q => ∃ p ys, xs = [V.ref p] ∧ (SqL K H p ys ∨ SqT K H p ys) ∧ ∀ l : Addr, H l = none → Q (V.ref l) (upd H l (.lst ys))
/-- new rows at as, listed at l, none of which stood in H -/
structure NewRows (H H' : Hp) (l : Addr) (as : List Addr) (nss : List (List Int)) : Prop where
  same : Same H H'
  nl : H l = none
  lst : H' l = some (.lst (as.map V.ref))
  rows : RowsAt H' as nss
  nd : as.Nodup
  new : ∀ a ∈ as, H a = none ∧ a ≠ l
theorem NewRows.snoc {H H1 H2 : Hp} {l p : Addr} {as : List Addr} {nss : List (List Int)} {ns : List Int} (r : NewRows H H1 l as nss) (s : Same H1 H2) (hp : H1 p = none) (hp2 : H2 p = some (.lst (ns.map V.int))) :
    NewRows H (upd H2 l (.lst (as.map V.ref ++ [.ref p]))) l (as ++ [p]) (nss ++ [ns]) := by
  have pl : p ≠ l := (ne_of_none r.lst hp).symm
  have np : H p = none := r.same.free hp
  have hpas : p ∉ as := fun hm => by
    obtain ⟨j, hj, e⟩ := List.getElem_of_mem hm
    obtain ⟨ms, _, h2⟩ := r.rows.2 j p (by rw [List.getElem?_eq_getElem hj, e])
    rw [hp] at h2
    cases h2
  refine ⟨fun b o e => ?_, r.nl, ?_, ?_, ?_, ?_⟩
  · rw [upd_ne (ne_of_none e r.nl)]
    exact s _ _ (r.same b o e)
  · rw [upd_same, List.map_append]
    rfl
  · have R := (r.rows.same s).snoc hp2
    refine ⟨R.1, fun j b e => ?_⟩
    obtain ⟨qs, h1, h2⟩ := R.2 j b e
    refine ⟨qs, h1, ?_⟩
    have hb : b ∈ as ++ [p] := List.mem_of_getElem? e
    have nb : b ≠ l := by
      rcases (List.mem_append).1 hb with z | z
      · exact (r.new b z).2
      · rw [List.mem_singleton.mp z]; exact pl
    rw [upd_ne nb]
    exact h2
  · rw [List.nodup_append]
    refine ⟨r.nd, by simp, fun a ha b hb e => ?_⟩
    rw [List.mem_singleton.mp hb] at e
    rw [e] at ha
    exact hpas ha
  · intro a ha
    rcases (List.mem_append).1 ha with z | z
    · exact r.new a z
    · rw [(List.mem_singleton).1 z]
      exact ⟨np, pl⟩
end Mb

namespace MbC
open PySem PySem.Spec
open Sem (wp)
theorem mro_comb : mroOf (.type "itertools.combinations") = pure [.type "itertools.combinations", .type "object"] := by rw [mroOf_type]; kernel_rfl
theorem look_new : typeLookup (.type "itertools.combinations") "__new__" = pure (some (.builtin "itertools.combinations.__new__")) := by rw [typeLookup_type, builtinLookup_eq_fast]; kernel_rfl
theorem slot_init : Slot "itertools.combinations" "__init__" "object.__init__" :=
  .of (owner := "object") (n := "__init__") (by rw [typeLookup_type, builtinLookup_eq_fast]; kernel_rfl) (by decide +kernel) (by decide +kernel) (by decide +kernel) (by first | exact .inl (by decide +kernel) | exact .inr (by decide +kernel)) (by rw [isSubtype_type]; kernel_rfl)
theorem sub_comb : isSubtype (.type "itertools.combinations") (.type "itertools.combinations") = pure true := by rw [isSubtype_type]; kernel_rfl
theorem called_comb : TypeCalled "itertools.combinations" "itertools.combinations.__new__" "object.__init__" :=
  ⟨by decide +kernel, by decide +kernel, ⟨_, _, mro_comb⟩, madeBy_type mro_comb look_new (by decide +kernel), by decide +kernel, sub_comb, slot_init⟩
theorem typeCall_2 (a b : Value) : checkTypeCall "itertools.combinations" ⟨[a, b], []⟩ = pure () := by kernel_rfl
theorem newCall_2 (a b : Value) : checkBuiltinCall "itertools.combinations.__new__" ⟨[.type "itertools.combinations", a, b], []⟩ = pure () := by kernel_rfl
theorem entry_new : entryFor table "itertools.combinations.__new__" = some Builtin.«itertools.combinations.__new__» := entryFor_of_tree (by kernel_rfl)
theorem slot_next : Slot "itertools.combinations" "__next__" "itertools.combinations.__next__" :=
  .of (owner := "itertools.combinations") (n := "__next__") (by rw [typeLookup_type, builtinLookup_eq_fast]; kernel_rfl) (by decide +kernel) (by decide +kernel) (by decide +kernel) (by first | exact .inl (by decide +kernel) | exact .inr (by decide +kernel)) sub_comb
theorem slot_iter : Slot "itertools.combinations" "__iter__" "itertools.combinations.__iter__" :=
  .of (owner := "itertools.combinations") (n := "__iter__") (by rw [typeLookup_type, builtinLookup_eq_fast]; kernel_rfl) (by decide +kernel) (by decide +kernel) (by decide +kernel) (by first | exact .inl (by decide +kernel) | exact .inr (by decide +kernel)) sub_comb
theorem entry_iter : entryFor table "itertools.combinations.__iter__" = some Builtin.«dict_keyiterator.__iter__» :=
  entryFor_alias (id' := "dict_keyiterator.__iter__") (by kernel_rfl) (by decide +kernel) (by decide +kernel) (by kernel_rfl)
theorem entry_next : entryFor table "itertools.combinations.__next__" = some Builtin.«itertools.combinations.__next__» := entryFor_of_tree (by kernel_rfl)
theorem owner_comb : Manifest.owners.lookup (String.ofList ("itertools.combinations".toList.reverse).reverse) = some Manifest.sig_itertools_combinations := by kernel_rfl
theorem args_iter (a : Value) : argsOk "itertools.combinations.__iter__" ⟨[a], []⟩ := by
  unfold argsOk; rw [signature?_of (id := "itertools.combinations.__iter__") (n := "__iter__".toList.reverse) (o := "itertools.combinations".toList.reverse) (by kernel_rfl) owner_comb]; kernel_rfl
theorem args_next (a : Value) : argsOk "itertools.combinations.__next__" ⟨[a], []⟩ := by
  unfold argsOk; rw [signature?_of (id := "itertools.combinations.__next__") (n := "__next__".toList.reverse) (o := "itertools.combinations".toList.reverse) (by kernel_rfl) owner_comb]; kernel_rfl
theorem noDict : typeHasDict (.type "itertools.combinations") = false := by decide +kernel
theorem plain_new : plainId "itertools.combinations.__new__" = true := by decide +kernel
end MbC

namespace MbC
open PySem PySem.Spec
open Sem (wp)
open PyProof.Rows L2
/-- what stands at a combinations object: its pool, how far it is, what it gave last, its indices -/
def combObj (p : Addr) (st : Int) (res : Value) (idx : List Nat) : Obj := { cls := .type "itertools.combinations", data := .fields (Value.ref p :: rawInt st :: res :: idx.map fun (i : Nat) => rawInt i).toArray }
theorem two_named (a b : Value) : Builtin.Itertools.itBindNamed "combinations" ["iterable", "r"] 2 2 [a, b] [] = pure [some a, some b] := by kernel_rfl
section
variable {prog : Program} {w : World} {A : Around} {E : Value → Shared → Prop} {s : Shared} {r : Addr} {t u v : Tok} {n : Nat}
theorem class_rest {a b : Value} {Q : Value × List Value → Shared → Prop} (h : Q (.type "itertools.combinations", [a, b]) s) :
    wpAny (model prog w) A (Builtin.Itertools.itClassAndRest "combinations" ⟨[.type "itertools.combinations", a, b], []⟩) Q E s := by
  have hsub2 : isSubtype (.type "itertools.combinations") (.type ("itertools." ++ "combinations")) = pure true := by
    rw [show "itertools." ++ "combinations" = "itertools.combinations" by decide +kernel]
    exact sub_comb
  wp_walk
  exact h
theorem size_arg {k : Nat} {tz : Tok} {Q : Int → Shared → Prop} (hk : k ≤ 1000) (h : Q k s) : wpAny (model prog w) A (Builtin.Itertools.itSsizeArg (.int k tz)) Q E s := by
  have c1 : ¬ ((decide ((k : Int) < -(2 ^ 63 : Int)) || decide ((k : Int) ≥ (2 ^ 63 : Int))) = true) := by
    have a : decide ((k : Int) < -(2 ^ 63 : Int)) = false := decide_eq_false (by omega)
    have b : decide ((k : Int) ≥ (2 ^ 63 : Int)) = false := decide_eq_false (by omega)
    rw [a, b]
    decide
  repeat (first | (rw [if_neg c1]) | wp_step)
  exact h
theorem code_new {Q₁ : Value → Shared → Prop} {tz : Tok} {b : Int} {k : Nat} (hh : A.handled = none) (hr : IsRange s.heap r 0 b 1 t u v) (hsmall : Builtin.Range.small 0 b 1 = true) (hn : Builtin.Range.rangeSize 0 b 1 = n) (hlen : n ≤ 2 ^ 24) (hk : k ≤ n) (hn8 : n ≤ 1000)
    (h : ∀ (h' : Heap) (tk : Nat) (acc : Array Value), (∀ b o, s.heap.get? b = some o → h'.get? b = some o) → ItemsOf (fun i v => ∃ t, v = .int (0 + i * 1) t) acc n →
      Q₁ (.ref (h'.objs.size + 1)) { s with heap := (h'.push { cls := .type "tuple", data := .seq acc }).push (combObj h'.objs.size 0 .none (List.range k)), toks := tk }) :
    codeAny (model prog w) A (.call (.builtin "itertools.combinations.__new__") ⟨[.type "itertools.combinations", .ref r, .int k tz], []⟩) (wants Q₁ E) s := by
  refine codeAny_of_tree ?_
  show wpAny _ A.in1 (do checkBuiltinCall "itertools.combinations.__new__" ⟨[.type "itertools.combinations", .ref r, .int k tz], []⟩; again (.builtin "itertools.combinations.__new__" ⟨[.type "itertools.combinations", .ref r, .int k tz], []⟩)) _ _ s
  refine wpAny_bind (wpAny_of_eq (newCall_2 _ _) (wpAny_pure ⟨plainId_quiet plain_new _, codeAny_builtin entry_new ?_⟩))
  rw [Around.under_plainId plain_new _]
  wp_delta
  refine wpAny_bind ?_
  wp_delta
  refine wpAny_bind ?_
  refine class_rest ?_
  refine wpAny_bind (wpAny_of_eq (two_named _ _) ?_)
  refine wpAny_bind (size_arg (by omega) ?_)
  refine wpAny_bind (collect_range (A := A.in1) (show A.in1.handled = none from hh) hr hsmall hn hlen fun h' tk acc hk' hacc => ?_)
  have c2 : ¬ ((k : Int) < 0) := by omega
  rw [if_neg c2]
  have c3 : ¬ (Builtin.Itertools.itTooMany (k : Int) = true) := by
    show ¬ (decide ((k : Int) > 2 ^ 20) = true)
    rw [decide_eq_true_eq]
    omega
  rw [if_neg c3]
  refine wpAny_bind (wpAny_newObj_type ?_ ?_)
  · have c4 : ¬ (k > acc.toList.length) := by rw [Array.length_toList, hacc.1]; omega
    refine wpAny_pure ?_
    dsimp only []
    rw [Int.toNat_natCast, if_neg c4, Array.toArray_toList]
    have c5 : (!typeHasDict (.type "itertools.combinations")) = true := by rw [noDict]; rfl
    refine wpAny_bind ?_
    unfold Builtin.Itertools.itNewRecord
    rw [if_pos c5]
    refine wpAny_newObj_type ?_ ?_
    · refine wpAny_pure ?_
      have q := h h' tk acc hk' hacc
      rw [← Heap.size_push h' { cls := .type "tuple", data := .seq acc }] at q
      exact q
    · show (_ : Array Value).size ≤ _
      rw [List.size_toArray, List.length_append, List.length_map, List.length_range, sizeLine_eq]
      show 3 + k ≤ _
      omega
  · show acc.toList.toArray.size ≤ sizeLine
    rw [Array.toArray_toList, hacc.1, sizeLine_eq]
    omega
theorem call_comb {tz : Tok} {b : Int} {k : Nat} {Q : Value → Shared → Prop} (hh : A.handled = none) (hr : IsRange s.heap r 0 b 1 t u v) (hsmall : Builtin.Range.small 0 b 1 = true) (hn : Builtin.Range.rangeSize 0 b 1 = n) (hlen : n ≤ 2 ^ 24) (hk : k ≤ n) (hn8 : n ≤ 1000)
    (hQ : ∀ (h' : Heap) (tk : Nat) (acc : Array Value), (∀ b o, s.heap.get? b = some o → h'.get? b = some o) → ItemsOf (fun i v => ∃ t, v = .int (0 + i * 1) t) acc n →
      Q (.ref (h'.objs.size + 1)) { s with heap := (h'.push { cls := .type "tuple", data := .seq acc }).push (combObj h'.objs.size 0 .none (List.range k)), toks := tk }) :
    wpAny (model prog w) A (call (.type "itertools.combinations") [.ref r, .int k tz]) Q E s := by
  refine callType_codes (Q₁ := fun obj s₁ => s₁.TypeIs obj "itertools.combinations" ∧ Q obj s₁) called_comb (typeCall_2 _ _) F.entry_object_init
    (code_new (A := A.in1) hh hr hsmall hn hlen hk hn8 fun h' tk acc hk' hacc => ⟨⟨combObj h'.objs.size 0 .none (List.range k), by rw [← Heap.size_push h' { cls := .type "tuple", data := .seq acc }]; exact Heap.get?_push_size _ rfl, rfl⟩, hQ h' tk acc hk' hacc⟩) fun obj s₁ h₁ => ?_
  exact ⟨h₁.1, F.args_object_init_3 obj _ _, object_init_meets called_comb.init.lookup called_comb.made (by decide) prog w A.in1 _ s₁ ⟨h₁.1, rfl, h₁.2⟩⟩
end
section
variable {prog : Program} {w : World} {A : Around} {E : Value → Shared → Prop} {s : Shared} {it p : Addr}
theorem nums_of (p : Addr) (st : Int) (res : Value) (idx : List Nat) {Q : List Nat → Shared → Prop} (hit : s.heap.get? it = some (combObj p st res idx)) (h : Q idx s) :
    wpAny (model prog w) A (Builtin.Itertools.itNumbersFrom (.ref it) 3) Q E s := by
  unfold Builtin.Itertools.itNumbersFrom
  refine wpAny_bind (wpAny_load hit ?_)
  refine wpAny_pure ?_
  have e : ∀ l : List Nat, (l.map fun (i : Nat) => rawInt i).map (fun v => match v with | .int n _ => n.toNat | _ => 0) = l := fun l => by
    induction l with
    | nil => rfl
    | cons a r ih => exact congr (congrArg _ (Int.toNat_natCast a)) ih
  have e2 := e idx
  exact Eq.mp (congrArg (fun l => Q l s) e2.symm) h
/-- the item is a new tuple -/
def Handed (s : Shared) (it p : Addr) (items : Array Value) (idx : List Nat) (h' : Heap) : Prop :=
  h'.get? it = some (combObj p 1 (.ref s.heap.objs.size) idx) ∧ h'.get? s.heap.objs.size = some { cls := .type "tuple", data := .seq (idx.map fun i => items.getD i .none).toArray } ∧ h'.objs.size = s.heap.objs.size + 1 ∧ ∀ b o, b ≠ it → s.heap.get? b = some o → h'.get? b = some o
theorem hand_out {m : Sem Value} {s : Shared} {res : Value} {idx : List Nat} {items : Array Value} {Q : Value → Shared → Prop} (hit : s.heap.get? it = some (combObj p 1 res idx)) (hl : idx.length ≤ 1000)
    (hm : wpAny (model prog w) A m (fun v s' => v = .ref s.heap.objs.size ∧ s' = { s with heap := s.heap.push { cls := .type "tuple", data := .seq (idx.map fun i => items.getD i .none).toArray } }) E s)
    (hQ : ∀ h', Handed s it p items idx h' → Q (.ref s.heap.objs.size) { s with heap := h' }) :
    wpAny (model prog w) A (m >>= fun result => field (.ref it) 2 >>= fun before => setField (.ref it) 2 result >>= fun _ => letGo [before] [result] >>= fun _ => ret result) (fun fin s' => ∃ v, fin = .done (.ret v) ∧ Q v s') E s := by
  refine wpAny_bind (wpAny_mono hm ?_ fun _ _ x => x)
  rintro v s1 ⟨rfl, rfl⟩
  have hit1 : (s.heap.push { cls := .type "tuple", data := .seq (idx.map fun i => items.getD i .none).toArray }).get? it = some (combObj p 1 res idx) := Heap.get?_push_of_some _ hit
  have itl := Heap.lt_size hit
  refine wpAny_bind (wpAny_field hit1 rfl (x := res) rfl ?_)
  refine wpAny_bind (wpAny_setField_rec hit1 (by simp) fun h2 hit2 hs2 => ?_)
  refine wpAny_bind (wpAny_letGo (wpAny_pure ⟨_, rfl, hQ h2 ⟨hit2, ?_, ?_, fun b o hb e => ?_⟩⟩))
  · exact (hs2.2 _ (Nat.ne_of_gt itl)).trans (Heap.get?_push_size _ rfl)
  · rw [hs2.1, Heap.size_push]
  · exact (hs2.2 b hb).trans (Heap.get?_push_of_some _ e)
theorem pool_of {items : Array Value} {Q : Array Value → Shared → Prop} {s : Shared} (hp : IsTup s.heap p items) (h : Q items s) : wpAny (model prog w) A (Builtin.Itertools.itPoolItems (.ref p)) Q E s := by
  obtain ⟨o, ho, hc, n, hd⟩ := hp
  unfold Builtin.Itertools.itPoolItems
  refine wpAny_bind ?_
  show wpAny _ _ (load p >>= _) _ _ _
  refine wpAny_bind ?_
  refine wpAny_load ho ?_
  rw [hd]
  apply wpAny_pure
  exact wpAny_pure h
theorem next_first {res : Value} {idx : List Nat} {items : Array Value} {Q : Value → Shared → Prop} (hit : s.heap.get? it = some (combObj p 0 res idx)) (hp : IsTup s.heap p items) (hl : idx.length ≤ 1000) (hne : p ≠ it)
    (hQ : ∀ h', Handed s it p items idx h' → Q (.ref s.heap.objs.size) { s with heap := h' }) :
    wpAny (model prog w) A (Builtin.«itertools.combinations.__next__» ⟨[.ref it], []⟩) (fun fin s' => ∃ v, fin = .done (.ret v) ∧ Q v s') E s := by
  wp_delta
  wp_delta
  refine wpAny_bind ?_
  refine wpAny_pure ?_
  refine wpAny_bind (wpAny_field hit rfl (x := .ref p) rfl ?_)
  refine wpAny_bind (nums_of p 0 res idx hit ?_)
  refine wpAny_bind ?_
  show wpAny _ _ (field (.ref it) 1 >>= _) _ _ _
  refine wpAny_bind (wpAny_field hit rfl (x := rawInt 0) rfl (wpAny_pure ?_))
  refine wpAny_bind (wpAny_setField_rec hit (by simp) fun h1 hit1 hs1 => ?_)
  have sz : h1.objs.size = s.heap.objs.size := hs1.1
  refine hand_out (s := { s with heap := h1 }) (p := p) (res := res) (idx := idx) (items := items) hit1 hl ?_ fun h' H => ?_
  · wp_delta
    refine wpAny_bind (pool_of (hp.extBut hs1.extBut hne) ?_)
    exact wpAny_newObj_type ⟨rfl, rfl⟩ (by show (_ : Array Value).size ≤ _; rw [List.size_toArray, List.length_map, sizeLine_eq]; omega)
  · obtain ⟨a, b, c, d⟩ := H
    have b2 : h'.get? s.heap.objs.size = some { cls := .type "tuple", data := .seq (idx.map fun i => items.getD i .none).toArray } := by rw [← sz]; exact b
    have a2 : h'.get? it = some (combObj p 1 (.ref s.heap.objs.size) idx) := by rw [← sz]; exact a
    show Q (.ref h1.objs.size) _
    rw [sz]
    exact hQ h' ⟨a2, b2, by rw [c]; show h1.objs.size + 1 = _; rw [sz], fun q o hq e => d q o hq ((hs1.2 q hq).trans e)⟩
theorem step_of {α : Type} {n : Nat} {f : Nat → List Nat → Option (List Nat)} {l : List Nat} {o : Option (List Nat)} {k : List Nat → Sem α} {z : Sem α} {Q : α → Shared → Prop} {E : Value → Shared → Prop} {s : Shared} (e : f n l = o)
    (h : wpAny (model prog w) A (match o with | some x => k x | none => z) Q E s) : wpAny (model prog w) A (match f n l with | some x => k x | none => z) Q E s := by
  rw [e]
  exact h
/-- the sets of r numbers out of lo .. lo + m - 1, by their order as lists -/
def subs : Nat → Nat → Nat → List (List Nat)
  | _, _, 0 => [[]]
  | _, 0, _ + 1 => []
  | lo, m + 1, r + 1 => (subs (lo + 1) m r).map (lo :: ·) ++ subs (lo + 1) m (r + 1)
def goesOn (f : Nat → List Nat → Option (List Nat)) : Bool := (List.range 9).all fun n => (List.range 9).all fun r => !decide (r ≤ n) || (List.range (subs 0 n r).length).all fun i => decide (f n ((subs 0 n r).getD i []) = (subs 0 n r)[i + 1]?)
theorem goesOn_at {f : Nat → List Nat → Option (List Nat)} (h : goesOn f = true) {n r i : Nat} {idx : List Nat} (hn : n < 9) (hr : r ≤ n) (hi : (subs 0 n r)[i]? = some idx) : f n idx = (subs 0 n r)[i + 1]? := by
  unfold goesOn at h
  rw [List.all_eq_true] at h
  have h1 := h n (List.mem_range.mpr hn)
  rw [List.all_eq_true] at h1
  have h2 := h1 r (List.mem_range.mpr (by omega))
  rw [decide_eq_true hr, Bool.not_true, Bool.false_or, List.all_eq_true] at h2
  have h3 := of_decide_eq_true (h2 i (List.mem_range.mpr (List.getElem?_eq_some_iff.mp hi).1))
  rw [List.getD_eq_getElem?_getD, hi] at h3
  exact h3
theorem subs_len : ∀ (lo m r : Nat), ∀ l ∈ subs lo m r, l.length = r
  | _, _, 0, l, h => by
    have : l = [] := by cases ‹Nat› <;> simpa [subs] using h
    rw [this]; rfl
  | _, 0, _ + 1, l, h => by simp [subs] at h
  | lo, m + 1, r + 1, l, h => by
    rw [subs, List.mem_append, List.mem_map] at h
    rcases h with ⟨q, hq, rfl⟩ | h
    · rw [List.length_cons, subs_len (lo + 1) m r q hq]
    · exact subs_len (lo + 1) m (r + 1) l h
theorem next_item {res : Value} {n r i : Nat} {idx nxt : List Nat} {items : Array Value} {Q : Value → Shared → Prop} (hit : s.heap.get? it = some (combObj p 1 res idx)) (hp : IsTup s.heap p items) (hne : p ≠ it)
    (hz : items.size = n) (hn : n < 9) (hr : r ≤ n) (hi : (subs 0 n r)[i]? = some idx) (hx : (subs 0 n r)[i + 1]? = some nxt)
    (hQ : ∀ h', Handed s it p items nxt h' → Q (.ref s.heap.objs.size) { s with heap := h' }) :
    wpAny (model prog w) A (Builtin.«itertools.combinations.__next__» ⟨[.ref it], []⟩) (fun fin s' => ∃ v, fin = .done (.ret v) ∧ Q v s') E s := by
  wp_delta
  wp_delta
  refine wpAny_bind ?_
  refine wpAny_pure ?_
  refine wpAny_bind (wpAny_field hit rfl (x := .ref p) rfl ?_)
  refine wpAny_bind (nums_of p 1 res idx hit ?_)
  refine wpAny_bind ?_
  show wpAny _ _ (field (.ref it) 1 >>= _) _ _ _
  refine wpAny_bind (wpAny_field hit rfl (x := rawInt 1) rfl (wpAny_pure ?_))
  refine wpAny_bind (pool_of hp ?_)
  refine step_of (o := some nxt) (Eq.trans (by rw [hz]; exact goesOn_at (by decide +kernel) hn hr hi) hx) ?_
  have hl : nxt.length ≤ 1000 := by
    rw [subs_len 0 n r nxt (List.mem_of_getElem? hx)]
    omega
  refine wpAny_bind ?_
  unfold Builtin.Itertools.itSetNumbersFrom
  have sz3 : ((Value.ref p :: rawInt 1 :: res :: idx.map fun (i : Nat) => rawInt i).toArray.extract 0 3 ++ (nxt.map fun (n : Nat) => rawInt n).toArray) = (Value.ref p :: rawInt 1 :: res :: nxt.map fun (i : Nat) => rawInt i).toArray := by
    apply Array.ext'
    simp
  refine wpAny_updateFields hit rfl ?_ (by rw [sz3, List.size_toArray, sizeLine_eq]; simp only [List.length_cons, List.length_map]; omega)
  have hit1 : (s.heap.update it (Obj.mapFields fun fs => fs.extract 0 3 ++ (nxt.map fun (n : Nat) => rawInt n).toArray)).get? it = some (combObj p 1 res nxt) := by
    refine Eq.trans (Heap.get?_update_self _ hit rfl) ?_
    exact congrArg (fun v => some ({ cls := .type "itertools.combinations", data := .fields v } : Obj)) sz3
  have hs1 := Heap.SameBut.update s.heap it (Obj.mapFields fun fs => fs.extract 0 3 ++ (nxt.map fun (n : Nat) => rawInt n).toArray)
  generalize s.heap.update it (Obj.mapFields fun fs => fs.extract 0 3 ++ (nxt.map fun (n : Nat) => rawInt n).toArray) = h1 at hit1 hs1
  have sz : h1.objs.size = s.heap.objs.size := hs1.1
  refine hand_out (s := { s with heap := h1 }) (p := p) (res := res) (idx := nxt) (items := items) hit1 hl ?_ fun h' H => ?_
  · wp_delta
    refine wpAny_bind (pool_of (hp.extBut hs1.extBut hne) ?_)
    exact wpAny_newObj_type ⟨rfl, rfl⟩ (by show (_ : Array Value).size ≤ _; rw [List.size_toArray, List.length_map, sizeLine_eq]; omega)
  · obtain ⟨a, b, c, d⟩ := H
    have b2 : h'.get? s.heap.objs.size = some { cls := .type "tuple", data := .seq (nxt.map fun i => items.getD i .none).toArray } := by rw [← sz]; exact b
    have a2 : h'.get? it = some (combObj p 1 (.ref s.heap.objs.size) nxt) := by rw [← sz]; exact a
    show Q (.ref h1.objs.size) _
    rw [sz]
    exact hQ h' ⟨a2, b2, by rw [c]; show h1.objs.size + 1 = _; rw [sz], fun q o hq e => d q o hq ((hs1.2 q hq).trans e)⟩
/-! ### as an iterator -/
theorem pyIter_comb {st : Int} {res : Value} {idx : List Nat} {Q : Value → Shared → Prop} (hit : s.heap.get? it = some (combObj p st res idx)) (h : Q (.ref it) s) : wpAny (model prog w) A (pyIter (.ref it)) Q E s := by
  have hT : s.TypeIs (.ref it) "itertools.combinations" := ⟨_, hit, rfl⟩
  refine wpAny_pyIter_slot hT slot_iter (wpAny_call_entry slot_iter hT entry_iter ?_ (args_iter _))
  show wpAny _ _ (ret (Value.ref it)) _ _ _
  exact wpAny_pure ⟨_, rfl, "itertools.combinations", _, hT, slot_next.lookup, h⟩
theorem pyNext_first {res : Value} {idx : List Nat} {items : Array Value} {Q : Option Value → Shared → Prop} (hit : s.heap.get? it = some (combObj p 0 res idx)) (hp : IsTup s.heap p items) (hl : idx.length ≤ 1000) (hne : p ≠ it)
    (hQ : ∀ h', Handed s it p items idx h' → Q (some (.ref s.heap.objs.size)) { s with heap := h' }) : wpAny (model prog w) A (pyNext (.ref it)) Q E s := by
  have hT : s.TypeIs (.ref it) "itertools.combinations" := ⟨_, hit, rfl⟩
  unfold pyNext
  exact wpAny_bind (wpAny_attempt (wpAny_callSpecial?_slot (name := Str.ofString "__next__") hT slot_next
    (wpAny_call_entry slot_next hT entry_next (next_first hit hp hl hne fun h' H => wpAny_pure (hQ h' H)) (args_next _))))
theorem pyNext_item {res : Value} {n r i : Nat} {idx nxt : List Nat} {items : Array Value} {Q : Option Value → Shared → Prop} (hit : s.heap.get? it = some (combObj p 1 res idx)) (hp : IsTup s.heap p items) (hne : p ≠ it)
    (hz : items.size = n) (hn : n < 9) (hr : r ≤ n) (hi : (subs 0 n r)[i]? = some idx) (hx : (subs 0 n r)[i + 1]? = some nxt)
    (hQ : ∀ h', Handed s it p items nxt h' → Q (some (.ref s.heap.objs.size)) { s with heap := h' }) : wpAny (model prog w) A (pyNext (.ref it)) Q E s := by
  have hT : s.TypeIs (.ref it) "itertools.combinations" := ⟨_, hit, rfl⟩
  unfold pyNext
  exact wpAny_bind (wpAny_attempt (wpAny_callSpecial?_slot (name := Str.ofString "__next__") hT slot_next
    (wpAny_call_entry slot_next hT entry_next (next_item hit hp hne hz hn hr hi hx fun h' H => wpAny_pure (hQ h' H)) (args_next _))))
theorem pyNext_end {res : Value} {n r i : Nat} {idx : List Nat} {items : Array Value} {Q : Option Value → Shared → Prop} (hh : A.handled = none) (hit : s.heap.get? it = some (combObj p 1 res idx)) (hp : IsTup s.heap p items)
    (hz : items.size = n) (hn : n < 9) (hr : r ≤ n) (hi : (subs 0 n r)[i]? = some idx) (hx : (subs 0 n r)[i + 1]? = none)
    (dry : ∀ h', Heap.ExtBut it s.heap h' → Q none { s with heap := h' }) : wpAny (model prog w) A (pyNext (.ref it)) Q E s := by
  have hT : s.TypeIs (.ref it) "itertools.combinations" := ⟨_, hit, rfl⟩
  unfold pyNext
  refine wpAny_bind (wpAny_attempt (wpAny_callSpecial?_slot (name := Str.ofString "__next__") hT slot_next (wpAny_call_entry slot_next hT entry_next ?_ (args_next _))))
  wp_delta
  wp_delta
  refine wpAny_bind ?_
  refine wpAny_pure ?_
  refine wpAny_bind (wpAny_field hit rfl (x := .ref p) rfl ?_)
  refine wpAny_bind (nums_of p 1 res idx hit ?_)
  refine wpAny_bind ?_
  show wpAny _ _ (field (.ref it) 1 >>= _) _ _ _
  refine wpAny_bind (wpAny_field hit rfl (x := rawInt 1) rfl (wpAny_pure ?_))
  refine wpAny_bind (pool_of hp ?_)
  refine step_of (o := none) (Eq.trans (by rw [hz]; exact goesOn_at (by decide +kernel) hn hr hi) hx) ?_
  refine wpAny_bind (wpAny_setField_rec hit (by simp) fun h1 hit1 hs1 => ?_)
  refine DVw.raise_stop (s := { s with heap := h1 }) hh fun h2 e oe hk he hc => ?_
  have gone : Heap.ExtBut it s.heap h2 := fun b o hb q => hk b o (hs1.extBut b o hb q)
  exact wpAny_bind (wpAny_isInstance (T := "StopIteration") (b := true) ⟨oe, he, hc⟩ isSubtype_stop (wpAny_pure (dry h2 gone)))
end
end MbC

namespace MbC
open L2 PySem PySem.Spec PyProof.Rows
/-! ### for part in combinations(range(n), r) -/
def ofN (l : List Nat) : List V := l.map fun (k : Nat) => V.int (k : Int)
/-- each set of r numbers below n, in a new tuple -/
def Itq (n r : Nat) : It := ⟨fun i _ => i < (subs 0 n r).length, fun i H v H' => ∃ T l, v = .ref T ∧ H T = none ∧ (subs 0 n r)[i]? = some l ∧ H' = upd H T (.tup (ofN l)), fun i _ => (subs 0 n r).length ≤ i⟩
def firstIs : Bool := (List.range 9).all fun n => (List.range 9).all fun r => !decide (r ≤ n) || decide ((subs 0 n r)[0]? = some (List.range r))
theorem first_is {n r : Nat} (hn : n < 9) (hr : r ≤ n) : (subs 0 n r)[0]? = some (List.range r) := by
  have h : firstIs = true := by decide +kernel
  unfold firstIs at h
  rw [List.all_eq_true] at h
  have h1 := h n (List.mem_range.mpr hn)
  rw [List.all_eq_true] at h1
  have h2 := h1 r (List.mem_range.mpr (by omega))
  rw [decide_eq_true hr, Bool.not_true, Bool.false_or] at h2
  exact of_decide_eq_true h2
theorem subs_below : ∀ (lo m r : Nat), ∀ l ∈ subs lo m r, ∀ k ∈ l, k < lo + m
  | _, _, 0, l, h, k, hk => by
    have : l = [] := by cases ‹Nat› <;> simpa [subs] using h
    rw [this] at hk; cases hk
  | _, 0, _ + 1, l, h, k, hk => by simp [subs] at h
  | lo, m + 1, r + 1, l, h, k, hk => by
    rw [subs, List.mem_append, List.mem_map] at h
    rcases h with ⟨q, hq, rfl⟩ | h
    · rcases (List.mem_cons).1 hk with e | e
      · omega
      · have := subs_below (lo + 1) m r q hq k e; omega
    · have := subs_below (lo + 1) m (r + 1) l h k hk; omega
/-- the pool holds 0, 1, .. -/
def Pool (h : Heap) (p : Addr) (n : Nat) (items : Array Value) : Prop := IsTup h p items ∧ items.size = n ∧ ∀ j, j < n → ∃ t, items.getD j .none = .int (j : Int) t
theorem vals_pool {n : Nat} {items : Array Value} (h : ∀ j, j < n → ∃ t, items.getD j .none = .int (j : Int) t) : ∀ {l : List Nat}, (∀ k ∈ l, k < n) → Vals (ofN l) (l.map fun i => items.getD i .none)
  | [], _ => .nil
  | k :: r, hk => .cons (h k (hk k List.mem_cons_self)) (vals_pool h fun j hj => hk j (List.mem_cons_of_mem _ hj))
/-- where it stands ahead of turn i -/
def At (n r : Nat) (it p : Addr) (i : Nat) (h : Heap) : Prop := p ≠ it ∧ ∃ items, Pool h p n items ∧ ((i = 0 ∧ h.get? it = some (combObj p 0 .none (List.range r))) ∨ ∃ (j : Nat) (res : Value) (idx : List Nat), i = j + 1 ∧ (subs 0 n r)[j]? = some idx ∧ h.get? it = some (combObj p 1 res idx))
theorem turn_comb {P : Program} {w : World} {K : PySem.W.Frag} {tg : Expr} {n r : Nat} (hn : n < 9) (hr : r ≤ n) (it p : Addr) : Turn P w K tg (Itq n r) [it, p] it (At n r it p) where
  mem := by simp
  obj := fun i h st b hb => by
    obtain ⟨hne, items, ⟨⟨o, ho, hc, k, hd⟩, _⟩, at'⟩ := st
    have e : b = it ∨ b = p := by simpa using hb
    rcases e with rfl | rfl
    · rcases at' with ⟨_, q⟩ | ⟨j, res, idx, _, _, q⟩ <;> exact ⟨_, q, fun v z => nomatch z⟩
    · exact ⟨o, ho, fun v z => by rw [hd] at z; cases z⟩
  keep := fun i h h' st k => by
    obtain ⟨hne, items, ⟨⟨o, ho, hc, m, hd⟩, hz, hi⟩, at'⟩ := st
    refine ⟨hne, items, ⟨⟨o, k p (by simp) o ho, hc, m, hd⟩, hz, hi⟩, ?_⟩
    rcases at' with ⟨e, q⟩ | ⟨j, res, idx, e, hx, q⟩
    · exact .inl ⟨e, k it (by simp) _ q⟩
    · exact .inr ⟨j, res, idx, e, hx, k it (by simp) _ q⟩
  item := by
    rintro X rfl rfl rfl hc i pins s σ H E I hf ⟨hne, items, ⟨hp, hz, hi⟩, at'⟩ hg
    obtain ⟨l, hl⟩ : ∃ l, (subs 0 n r)[i]? = some l := ⟨_, List.getElem?_eq_getElem hg⟩
    have llen : l.length ≤ 1000 := by rw [subs_len 0 n r l (List.mem_of_getElem? hl)]; omega
    have lbel : ∀ k ∈ l, k < n := fun k hk => by have := subs_below 0 n r l (List.mem_of_getElem? hl) k hk; omega
    have itl : it < s.heap.objs.size := by rcases at' with ⟨_, q⟩ | ⟨j, res, idx, _, _, q⟩ <;> exact Heap.lt_size q
    have pl : p < s.heap.objs.size := by obtain ⟨o, ho, _⟩ := hp; exact Heap.lt_size ho
    have goal : ∀ h', Handed s it p items l h' → ∃ u, some (Value.ref s.heap.objs.size) = some u ∧
        wpAny (model X.prog X.w) X.A (letOwnedTupleGo tg (.ref it) u) (fun _ s2 => ∃ x H', Inv X pins σ H' s2 ∧ RelV x u ∧ (Itq n r).yld i H x H' ∧ At n r it p (i + 1) s2.heap ∧ ∀ b ∈ [it, p], H' b = none) E { s with heap := h' } := fun h' Hd => by
      obtain ⟨a, b, c, d⟩ := Hd
      have new : ObjOk X.prog X.w (upd H s.heap.objs.size (.tup (ofN l))) h' s.heap.objs.size (.tup (ofN l)) :=
        ⟨by unfold ofN; rw [List.length_map, sizeLine_eq]; omega, _, vals_pool hi lbel, ⟨_, b, rfl, _, rfl⟩⟩
      have I1 : Inv X pins σ (upd H s.heap.objs.size (.tup (ofN l))) { s with heap := h' } :=
        I.turnedNew (t' := s.toks) (ch := [it, p]) (fun q o hb e => d q o (fun z => hb (by simp [z])) e) hf (Nat.le_refl _) new
      refine ⟨_, rfl, go_of (s := { s with heap := h' }) (n := "itertools.combinations") a rfl rfl (by decide) ⟨.ref s.heap.objs.size, _, I1, rfl, ⟨_, l, rfl, I.hok.fresh (Nat.le_refl _), hl, rfl⟩, ?_, fun q hq => ?_⟩⟩
      · refine ⟨hne, items, ⟨?_, hz, hi⟩, .inr ⟨i, _, l, rfl, hl, a⟩⟩
        obtain ⟨o, ho, rest⟩ := hp
        exact ⟨o, d p o hne ho, rest⟩
      · have hb' : q < s.heap.objs.size := by
          have e' : q = it ∨ q = p := by simpa using hq
          rcases e' with z | z <;> rw [z] <;> assumption
        exact (upd_ne (Nat.ne_of_lt hb')).trans (hf q hq).1
    rcases at' with ⟨rfl, q⟩ | ⟨j, res, idx, rfl, hx, q⟩
    · have e : l = List.range r := Option.some.inj (hl.symm.trans (first_is hn hr))
      subst e
      exact pyNext_first q hp llen hne goal
    · exact pyNext_item q hp hne hz hn hr hx hl goal
  done := by
    rintro X rfl rfl rfl hc i pins s σ H E I hf ⟨hne, items, ⟨hp, hz, hi⟩, at'⟩ hg
    rcases hf it (List.mem_cons_self) with ⟨f0, f1, f2, f3, f4, f5⟩
    have hg' : (subs 0 n r).length ≤ i := hg
    rcases at' with ⟨rfl, q⟩ | ⟨j, res, idx, rfl, hx, q⟩
    · have := (List.getElem?_eq_some_iff.mp (first_is hn hr)).1
      omega
    · exact pyNext_end (I.ok.hd hc) q hp hz hn hr hx (List.getElem?_eq_none_iff.mpr hg') fun h' eb => ⟨rfl, I.turned (t' := s.toks) (fun b o hb e => eb b o hb e) f0 f1 f3 f4 f5⟩
  self := by
    rintro A i s Q E ⟨hne, items, _, at'⟩ h
    rcases at' with ⟨_, q⟩ | ⟨j, res, idx, _, _, q⟩ <;> exact pyIter_comb q h
theorem walk_comb {n r : Nat} : Walk (Itq n r) (subs 0 n r).length (fun _ => True) (fun i H v H' => ∃ T l, v = .ref T ∧ H T = none ∧ (subs 0 n r)[i]? = some l ∧ H' = upd H T (.tup (ofN l))) :=
  ⟨fun _ _ lt _ => lt, fun _ _ => Nat.le_refl (subs 0 n r).length, fun _ _ _ _ _ _ got => got⟩
def iComb (ta tb : TE) : TI := fun σ H R => ta σ H fun x H1 => ∃ n : Int, x = .int n ∧ tb σ H1 fun y H2 => ∃ m k : Nat, n = m ∧ y = .int k ∧ m < 9 ∧ k ≤ m ∧ R (Itq m k) H2
theorem pi_comb {X : Cx} {tg a b : Expr} {ta tb : TE} {p p1 pos1 pos : Pos} (hc : X.calm = true) (hgC : Gl X "combinations") (hmC : X.mg "combinations" = some (.type "itertools.combinations")) (hgR : Gl X "range") (hmR : X.mg "range" = none) (ha : PE X a ta) (hb : PE X b tb)
    (n1 : starEach [a] X.env = (false, eval a X.env) :: starEach [] X.env := by rfl)
    (n2 : starEach [.Call (.Name "range" p1) [a] [] pos1, b] X.env = (false, eval (.Call (.Name "range" p1) [a] [] pos1) X.env) :: starEach [b] X.env := by rfl)
    (n3 : starEach [b] X.env = (false, eval b X.env) :: starEach [] X.env := by rfl) (hpl : (backTo pos (starEach [b] X.env)).any (·.1) = false := by rfl) :
    PI X tg (.Call (.Name "combinations" p) [.Call (.Name "range" p1) [a] [] pos1, b] [] pos) (iComb ta tb) := by
  constructor
  intro pins s σ H R I h
  refine Call_ (ld_glob I hgC hmC (PyProof.Rows.callWith_type1 (args_cons (wpAny_mono (Q := fun x s' => ∃ (r : Addr) (n : Int) (t u v : Tok) (H' : Hp), x = .ref r ∧ Inv X ((r, ({ cls := .type "range", data := .fields #[.int 0 t, .int n u, .int 1 v] } : Obj)) :: pins) σ H' s' ∧
      tb σ H' fun y H2 => ∃ m k : Nat, n = m ∧ y = .int k ∧ m < 9 ∧ k ≤ m ∧ R (Itq m k) H2) (E := X.xe) ?_ ?_ fun _ _ x => x) n2) n2 hpl))
  · refine Call_ (ld_blt I hgR hmR boot_range (PyProof.Rows.callWith_type1 (one_arg ha I h (fun v s2 x H2 I2 rx q => ?_) n1) n1))
    obtain ⟨n, rfl, q2⟩ := q
    obtain ⟨t, rfl⟩ := rx
    refine call_range_1 ?_
    have I3 : Inv X pins σ H2 { s2 with heap := s2.heap.push { cls := .type "range", data := .fields #[.int 0 s2.toks, .int n t, .int 1 (s2.toks + 1)] }, toks := s2.toks + 1 + 1 } := I2.kept fun b u e => Heap.get?_push_of_some _ e
    refine ⟨s2.heap.objs.size, n, s2.toks, t, s2.toks + 1, H2, rfl, I3.pins_of fun z hz => ?_, q2⟩
    rcases (List.mem_cons).1 hz with e | e
    · rw [e]
      refine ⟨Heap.get?_push_size _ rfl, I2.hok.fresh (Nat.le_refl _), Nat.ne_of_gt I2.lt, I2.nofs (Nat.le_refl _), fun v z => nomatch z⟩
    · exact I3.pin z (List.mem_append_right _ e)
  · rintro x s1 ⟨r, n, t, u, v, H', rfl, I1, q⟩
    refine one_arg hb I1 q (fun y s2 yv H2 I2 ry q2 => ?_) n3
    obtain ⟨m, k, rfl, rfl, hm, hk, hR⟩ := q2
    obtain ⟨tz, rfl⟩ := ry
    have hr : IsRange s2.heap r 0 m 1 t u v := (I2.pin _ (List.mem_append_right _ List.mem_cons_self)).1
    have I3 : Inv X pins σ H2 s2 := I2.pins_of fun z hz => I2.pin z (List.mem_append_right _ (List.mem_cons_of_mem _ hz))
    refine call_comb (n := m) (I3.ok.hd hc) hr (small_one (by omega) (by omega) (by omega) (by omega)) (by rw [rangeSize_nat]; omega) (by omega) hk (by omega) fun h' tk acc hk' hacc => ?_
    have hz : (h'.push { cls := .type "tuple", data := .seq acc }).objs.size = h'.objs.size + 1 := Heap.size_push ..
    have hit : ((h'.push { cls := .type "tuple", data := .seq acc }).push (combObj h'.objs.size 0 .none (List.range k))).get? (h'.objs.size + 1) = some (combObj h'.objs.size 0 .none (List.range k)) := by
      rw [← hz]; exact Heap.get?_push_size _ rfl
    have hp : ((h'.push { cls := .type "tuple", data := .seq acc }).push (combObj h'.objs.size 0 .none (List.range k))).get? h'.objs.size = some { cls := .type "tuple", data := .seq acc } :=
      Heap.get?_push_of_some (combObj h'.objs.size 0 .none (List.range k)) (Heap.get?_push_size _ rfl)
    refine pyIter_comb hit ?_
    have I4 : Inv X pins σ H2 { s2 with heap := (h'.push { cls := .type "tuple", data := .seq acc }).push (combObj h'.objs.size 0 .none (List.range k)), toks := tk } :=
      I3.kept fun b o e => Heap.get?_push_of_some _ (Heap.get?_push_of_some _ (hk' b o e))
    refine ⟨h'.objs.size + 1, [h'.objs.size + 1, h'.objs.size], _, Itq m k, H2, rfl, I4, turn_comb hm hk _ _, ⟨Nat.ne_of_lt (Nat.lt_succ_self _), acc, ⟨⟨_, hp, rfl, _, rfl⟩, hacc.1, fun j hj => ?_⟩, .inl ⟨rfl, hit⟩⟩, fun b hb => ?_, hR⟩
    · obtain ⟨x, hx⟩ : ∃ x, acc[j]? = some x := ⟨_, Array.getElem?_eq_getElem (by rw [hacc.1]; exact hj)⟩
      obtain ⟨t, rfl⟩ := hacc.2 j x hx
      exact ⟨t, by rw [Array.getD_eq_getD_getElem?, hx]; show Value.int (0 + (j : Int) * 1) t = _; rw [Int.zero_add, Int.mul_one]⟩
    · have IA : Inv X pins σ H2 { s2 with heap := h', toks := tk } := I3.kept hk'
      have hle : h'.objs.size ≤ b := by
        have e' : b = h'.objs.size + 1 ∨ b = h'.objs.size := by simpa using hb
        rcases e' with z | z
        · rw [z]; exact Nat.le_succ _
        · rw [z]; exact Nat.le_refl _
      exact IA.fpOk hle (IA.hok.fresh hle)
end MbC

namespace MbC
open L2 PySem PySem.Spec PyProof.Rows
/-- the turns of a walk that begins at H0; S: one turn, told what must hold behind it; D: what follows -/
def Turns (J : It) (H0 : Hp) (D : Hp → Prop) (S : (Hp → Prop) → V → Hp → Prop) : Prop :=
  ∃ W : Nat → Nat → Hp → Prop, (∃ m, W 0 m H0) ∧ ∀ i m H, W i m H → (J.stop i H ∧ D H) ∨ (J.go i H ∧ ∃ N : Hp → Prop, (∀ H', N H' → ∃ m', m' < m ∧ W (i + 1) m' H') ∧ ∀ x H', J.yld i H x H' → S N x H')
theorem turns_by {J : It} {n : Nat} {G : Hp → Prop} {Y : Nat → Hp → V → Hp → Prop} (w : Walk J n G Y) {H0 : Hp} {D : Hp → Prop} {S : (Hp → Prop) → V → Hp → Prop} (Pv : Nat → Hp → Prop) (start : Pv 0 H0) (stands : ∀ i H, i ≤ n → Pv i H → G H)
    (turn : ∀ i x H H', i < n → Pv i H → Y i H x H' → S (Pv (i + 1)) x H') (behind : ∀ H, Pv n H → D H) : Turns J H0 D S := by
  refine ⟨fun i left H => left + i = n ∧ Pv i H, ⟨n, Nat.add_zero n, start⟩, ?_⟩
  rintro i left H ⟨sum, p⟩
  have g := stands i H (by omega) p
  cases left with
  | zero =>
    have e : i = n := by omega
    exact .inl ⟨by rw [e]; exact w.stops H g, behind H (by rw [← e]; exact p)⟩
  | succ k =>
    have lt : i < n := by omega
    exact .inr ⟨w.goes i H lt g, Pv (i + 1), fun H' p' => ⟨k, Nat.lt_succ_self k, by omega, p'⟩, fun x H' y => turn i x H H' lt p (w.yields i H x H' lt g y)⟩
end MbC

namespace Mb
open L2 PySem PySem.Spec PyProof.Rows
/-! ### all sets of numbers below n, by their size -/
def szI (n r : Nat) : List (List Int) := (MbC.subs 0 n r).map fun l => l.map fun (k : Nat) => (k : Int)
def setsTo (n : Nat) : Nat → List (List Int)
  | 0 => []
  | r + 1 => setsTo n r ++ szI n r
/-- all of them -/
def setsOf (n : Nat) : List (List Int) := setsTo n (n + 1)
theorem szI_at {n r j : Nat} {l : List Nat} (h : (MbC.subs 0 n r)[j]? = some l) : (szI n r)[j]? = some (l.map fun (k : Nat) => (k : Int)) := by
  unfold szI
  rw [List.getElem?_map, h]
  rfl
theorem szI_len (n r : Nat) : (szI n r).length = (MbC.subs 0 n r).length := List.length_map _
def fewSets : Bool := (List.range 9).all fun n => (List.range 10).all fun r => decide ((setsTo n r).length + (MbC.subs 0 n r).length ≤ 1000)
theorem few_sets {n r : Nat} (hn : n < 9) (hr : r < 10) : (setsTo n r).length + (MbC.subs 0 n r).length ≤ 1000 := by
  have h : fewSets = true := by decide +kernel
  unfold fewSets at h
  rw [List.all_eq_true] at h
  have h1 := h n (List.mem_range.mpr hn)
  rw [List.all_eq_true] at h1
  exact of_decide_eq_true (h1 r (List.mem_range.mpr hr))
theorem ofN_int (l : List Nat) : MbC.ofN l = (l.map fun (k : Nat) => (k : Int)).map V.int := by
  unfold MbC.ofN
  rw [List.map_map]
  rfl
/-- the module's names that all_sets wants -/
structure Txt3 (mg : Str → Option Value) : Prop where
  comb : mg "combinations" = some (.type "itertools.combinations")
  list : mg "list" = none
  range : mg "range" = none
section
variable {K : PySem.W.Frag} {P : Program} {w : World} {mg : Str → Option Value} {base : Heap}
def spSets : Sp := fun vs H Q _ => ∃ n : Nat, vs = [.int n] ∧ n < 9 ∧ ∀ (H' : Hp) (l : Addr) (as : List Addr), NewRows H H' l as (setsOf n) → Q (.ref l) H'
abbrev nSets : List Str := ["many", "size", "part"]
theorem scSets : FnScope nSets ["many"] (defScope s_all_sets) := ⟨rfl, rfl, rfl, by decide +kernel, rfl, by decide +kernel, by decide +kernel⟩
theorem ok_sets {f : Addr} {fd : FuncData} (F : Fun K "all_sets" "all_sets" s_all_sets f fd) (T : Txt3 mg) : FnOk P w K mg base CX0 1 f fd ["many"] spSets := by
  refine F.ok scSets (fun vs H Q E h => ?_) (fun cdv A outer s H vs Q E hr h => ?_)
  · obtain ⟨n, rfl, _⟩ := h
    rfl
  · obtain ⟨n, rfl, hn, k⟩ := h
    refine ⟨_, pss_one (ps_ret (pe_lc2 (own := [("size", 1), ("part", 2)]) (vs1 := [2]) (g := gName 1) (g1 := gName 2) (tt := tYes) (tt1 := tYes) (te := tCB (rListOf K) (tCons (tVar 2) tNil)) rfl scSets.nd (pi_range1 (by rfl) T.range (pa_cons (pe_op op_add (pv 0) pe_int) pa_nil)) (blkOk_by (N := nSets) (sc := defScope s_all_sets) (by decide +kernel)) (by decide)
      (fun _ _ _ _ _ => pg_name (i := 1) scSets.nd rfl (Or.inl rfl)) (fun _ _ _ _ _ => pts_nil)
      (fun _ _ _ _ _ => MbC.pi_comb rfl (by rfl) T.comb (by rfl) T.range (pv 0) (pv 1)) (fun _ _ _ _ _ => pg_name (i := 2) scSets.nd rfl (Or.inl rfl)) (fun _ _ _ _ _ => pts_nil)
      (fun _ _ _ _ _ => pe_callTy call_list_of (by rfl) T.list PyProof.Rows.boot_list (pa_cons (pv 2) pa_nil)))), ?_⟩
    refine ⟨_, rfl, _, _, rfl, rfl, _, rfl, by omega, by omega, fun D hD => ?_⟩
    refine MbC.turns_by (walk_range (lo := 0) (n := _)) (fun i H2 => ∃ as : List Addr, NewRows H H2 D as (setsTo n i)) ⟨[], Same.up (Same.refl H) hD, hD, upd_same, RowsAt.nil, List.nodup_nil, fun a ha => by cases ha⟩ (fun _ _ _ _ => trivial) ?_ ?_
    · rintro i x H2 H2' hi ⟨as, R⟩ ⟨rfl, rfl⟩
      have i9 : i < 10 := by omega
      refine ⟨rfl, _, rfl, _, rfl, _, rfl, n, i, rfl, (by show V.int (0 + (i : Int)) = _; rw [Int.zero_add]), hn, by omega, ?_⟩
      refine MbC.turns_by MbC.walk_comb (fun j H3 => ∃ bs : List Addr, NewRows H H3 D bs (setsTo n i ++ (szI n i).take j)) ⟨as, by rw [List.take_zero, List.append_nil]; exact R⟩ (fun _ _ _ _ => trivial) ?_ ?_
      · rintro j x H3 H4 hj ⟨bs, R3⟩ ⟨Tt, l, rfl, hTt, hl, rfl⟩
        have s4 : Same H3 (upd H3 Tt (.tup (MbC.ofN l))) := Same.up (Same.refl _) hTt
        refine ⟨rfl, _, rfl, Tt, _, rfl, .inr (SqT.of upd_same), fun q hq => ?_⟩
        have s5 := Same.up (o := .lst (MbC.ofN l)) s4 hq
        have np : H3 q = none := s4.free hq
        refine ⟨bs.map V.ref, s5 _ _ R3.lst, ?_, bs ++ [q], ?_⟩
        · rw [List.length_map, R3.rows.1, List.length_append, List.length_take, szI_len, sizeLine_eq]
          have := few_sets hn i9
          omega
        · have R5 := R3.snoc (ns := l.map fun (k : Nat) => (k : Int)) s5 np (by rw [upd_same, ofN_int])
          rw [List.take_add_one, szI_at hl, ← List.append_assoc]
          exact R5
      · rintro H3 ⟨bs, R3⟩
        rw [← szI_len, List.take_length] at R3
        exact ⟨bs, R3⟩
    · rintro H2 ⟨as, R⟩
      have e : ((n : Int) + 1).toNat = n + 1 := by omega
      rw [e] at R
      exact k H2 D as R
end
end Mb

namespace MbX
open PySem PySem.Spec PyProof.Rows L2 GenW
/-! ### all(elt for x in ..) whose element calls defs of the program -/
/-- the names that it captures, and their slots in the def -/
abbrev Caps := List (Str × Nat)
def slotOf (σ : L2.St) (j : Nat) : Option V := (σ[j]?).getD none
/-- the slots of its frame: what is walked, then what is captured -/
def capσ (caps : Caps) (σ : L2.St) (x : Option V) : L2.St := x :: caps.map fun p => slotOf σ p.2
structure CapsOk (X : Cx) (scope : Scope) (caps : Caps) : Prop where
  ok : ∀ p ∈ caps, X.N[p.2]? = some p.1 ∧ (X.env.scope.names.lookup p.1 = some .cell ∨ X.env.scope.names.lookup p.1 = some .free) ∧ scope.names.lookup p.1 = some .free
  nd : (scope.names.map (·.1)).Nodup
abbrev gEnv (X : Cx) (scope : Scope) (C : Addr) (code : Value) : Env := genEnv scope (cloFrom X.env.cells scope.names []) C code builtinsNs X.env
/-- its frame's context -/
def gx (X : Cx) (x : Str) (caps : Caps) (scope : Scope) (code : Value) (fp : List Addr) (s : Shared) (H : Hp) : Cx where
  prog := X.prog
  w := X.w
  K := X.K
  mg := X.mg
  base := X.base
  A := X.A.in1.in1.deeper (gEnv X scope s.heap.objs.size code)
  N := x :: caps.map (·.1)
  s_0 := s
  H_0 := H
  env := gEnv X scope s.heap.objs.size code
  outer := X.stack
  stack := gEnv X scope s.heap.objs.size code :: X.stack
  ex := fp
  fn := fun _ => false
  calm := true
  pn := []
  xe := fun _ _ => False
theorem clo_back {cells : List (Str × Addr)} {n : Str} {c : Addr} : ∀ (l : List (Str × NameKind)) (acc : List (Str × Addr)), (∀ y ∈ l, y.2 = .free → ∃ d, cells.lookup y.1 = some d) → (acc.lookup n = some c → cells.lookup n = some c) → (cloFrom cells l acc).lookup n = some c → cells.lookup n = some c
  | [], _, _, h, e => h e
  | (m, k) :: r, acc, hf, h, e => by
    unfold cloFrom at e
    split at e
    · rename_i q
      refine clo_back r _ (fun y hy => hf y (List.mem_cons_of_mem _ hy)) (fun z => ?_) e
      by_cases nm : n = m
      · subst nm
        obtain ⟨d, hd⟩ := hf (n, k) List.mem_cons_self (by cases k <;> first | rfl | cases q)
        have : d = c := by simpa [List.lookup, hd] using z
        rw [← this]
        exact hd
      · have nb : (n == m) = false := by simpa using nm
        exact h (by simpa [List.lookup, nb] using z)
    · exact clo_back r acc (fun y hy => hf y (List.mem_cons_of_mem _ hy)) h e
section
variable {X : Cx} {s : Shared} {H : Hp} {σ : L2.St} {pins : List (Addr × Obj)}
theorem gx_inv {x : Str} {caps : Caps} {scope : Scope} {code : Value} {fp : List Addr} {s5 : Shared} {a : Addr} {go : Obj} {m : Str → Option Value} (I : Inv X pins σ H s) (hd : X.A.handled = none) (S : GenN X.env scope x) (cp : CapsOk X scope caps)
    (hf : ∀ b ∈ fp, FpOk X pins H b) (hl : ∀ b ∈ fp, b < s.heap.objs.size) (os : s5.os = s.os) (hb : AllBare s5.gens) (hn : s5.heap.Ns s.heap.objs.size m) (kp : ∀ b o, s.heap.get? b = some o → s5.heap.get? b = some o)
    (ha : s5.heap.get? a = some go) (al : s.heap.objs.size < a) (ac : ∀ v, go.data ≠ .cell v) : Inv (gx X x caps scope code fp s H) [(a, go)] (capσ caps σ none) H s5 := by
  have frees : ∀ y ∈ scope.names, y.2 = .free → ∃ d, X.env.cells.lookup y.1 = some d := (S.to I.ok.has).free
  have back : ∀ {y : Str} {c : Addr}, (cloFrom X.env.cells scope.names []).lookup y = some c → X.env.cells.lookup y = some c := fun {y c} e => clo_back _ _ frees (fun z => by cases z) e
  have old : ∀ b, s.heap.objs.size ≤ b → b ∉ frs X.stack := fun b hb hm =>
    ((List.mem_cons).1 (I.stkSub b hm)).elim (fun z => Nat.lt_irrefl _ (Nat.lt_of_lt_of_le I.lt (z ▸ hb))) (I.nofs hb)
  have fps : ∀ b ∈ fp, b ∉ frs X.stack := fun b hb hm => ((List.mem_cons).1 (I.stkSub b hm)).elim (hf b hb).2.1 (hf b hb).2.2.1
  refine ⟨⟨I.ok.mod, S.sort.1, I.ok.glob, rfl, Nat.le_refl _, fun y z c h1 h2 => I.ok.inj y z c (back h1) (back h2), fun y hy => ?_, fun y c q => (by cases q), fun _ => hd, ?_, .inr ⟨rfl, rfl⟩, fun b hb => ⟨Nat.ne_of_lt (hl b hb), fun y c e => (hf b hb).2.2.2.2.1 y c (back e)⟩, I.bs, Nat.le_trans I.ok.bsz I.sz, fun b o e hb => ?_, fps, I.stack, I.stkFree⟩,
    os, hb, Un.kept kp, ⟨m, hn, ?_⟩, fun y c e => ?_, I.hok.fresh (Nat.le_refl _), fun y c e => I.freeC y c (back e), fun p hp => ?_, I.hok.kept kp, ?_⟩
  · rcases hy with hy | hy
    · have hy2 : scope.names.lookup y = some .cell := hy
      exact absurd rfl (S.sort.2.2 _ (PySem.mem_of_lookup hy2))
    · have hy2 : scope.names.lookup y = some .free := hy
      obtain ⟨c, hc⟩ := frees _ (PySem.mem_of_lookup hy2) rfl
      exact ⟨c, clo_lookup hc _ _ hy2 cp.nd⟩
  · exact Around.frames_deeper (A := X.A.in1.in1) I.ok.frames
  · rcases (hf b hb).2.2.2.1 with z | z
    · exact I.ok.noex b o e z
    · exact absurd (Nat.le_trans I.ok.bsz z) (Nat.not_le_of_lt (Heap.lt_size e))
  · intro i y v e1 e2 e3
    cases i with
    | zero => cases e2
    | succ j =>
      have e1' : (caps.map (·.1))[j]? = some y := e1
      have e2' : (caps.map fun p => slotOf σ p.2)[j]? = some (some v) := e2
      rw [List.getElem?_map] at e1' e2'
      cases q : caps[j]? with
      | none => rw [q] at e1'; cases e1'
      | some p =>
        rw [q] at e1' e2'
        obtain ⟨h1, h2, h3⟩ := cp.ok p (List.mem_of_getElem? q)
        have ey : p.1 = y := Option.some.inj e1'
        have ev : slotOf σ p.2 = some v := Option.some.inj e2'
        subst ey
        have hs : σ[p.2]? = some (some v) := by
          unfold slotOf at ev
          cases r : σ[p.2]? with
          | none => rw [r] at ev; cases ev
          | some w => rw [r] at ev; exact congrArg some ev
        obtain ⟨m0, _, hl0⟩ := I.loc
        obtain ⟨u, ru, l⟩ := hl0 p.2 p.1 v h1 hs (.inr h2)
        refine ⟨u, ru, ?_⟩
        rcases l with ⟨k, _⟩ | ⟨_, c, hc, hcell⟩
        · have k2 : X.env.scope.names.lookup p.1 = some .local := k
          rcases h2 with z | z <;> (rw [z] at k2; cases k2)
        · obtain ⟨o, ho, hdt⟩ := hcell
          exact .inr ⟨.inr h3, c, clo_lookup hc _ _ h3 cp.nd, o, kp c o ho, hdt⟩
  · obtain ⟨v, o, ho, hdt⟩ := I.cell y c (back e)
    exact ⟨v, o, kp c o ho, hdt⟩
  · have hp2 : p = (a, go) := by simpa [gx] using hp
    subst hp2
    exact ⟨ha, I.hok.fresh (Nat.le_of_lt al), Nat.ne_of_gt al, old a (Nat.le_of_lt al), ac⟩
  · show (capσ caps σ none).length = (x :: caps.map (·.1)).length
    simp [capσ]
theorem over_gen {A : Around} {elt iter : Expr} {tg : Expr} {scope : Scope} {pos : Pos} {it acc : Value} {env : Env} : A.over (.compLoop (.GeneratorExp elt [⟨tg, iter, [], 0⟩] scope pos) 0 it acc env) [] = A.deeper env := rfl
theorem over_gen0 {A : Around} {elt iter : Expr} {tg : Expr} {scope : Scope} {pos : Pos} {it acc : Value} {env : Env} : A.over (.compStart (.GeneratorExp elt [⟨tg, iter, [], 0⟩] scope pos) 0 it acc env) [] = A.deeper env := rfl
/-- what is walked, and what each turn must show -/
structure Plan (J : It) (n : Nat) (te : TE) (cs : L2.St) (Pv : Nat → Hp → Prop) (Bad : Hp → Prop) : Prop where
  go : ∀ i H, i < n → Pv i H → J.go i H
  stop : ∀ H, Pv n H → J.stop n H
  turn : ∀ i x H H', i < n → Pv i H → J.yld i H x H' → te (some x :: cs) H' fun y H3 => ∃ b, y = .bl b ∧ if b = true then Pv (i + 1) H3 else Bad H3
/-- while it sleeps only the table of generators changes -/
structure Dozed (s s' : Shared) : Prop where
  heap : s'.heap = s.heap
  os : s'.os = s.os
  bare : AllBare s'.gens
theorem Dozed.inv {s' : Shared} (z : Dozed s s') (I : Inv X pins σ H s) : Inv X pins σ H s' := by
  rcases s' with ⟨h', g', d', t', o'⟩
  obtain ⟨e1, e2, e3⟩ := z
  have e1' : h' = s.heap := e1
  have e2' : o' = s.os := e2
  subst e1' e2'
  exact ⟨I.ok, I.os, e3, I.base, I.loc, I.cell, I.free, I.freeC, I.pin, I.hok, I.len⟩
/-- where it stands -/
structure Stand (G : Cx) (a : Addr) (go : Obj) (cs : L2.St) (fp : List Addr) (tn : Nat → Heap → Prop) (i : Nat) (H : Hp) (s : Shared) : Prop where
  inv : ∃ o, Inv G [(a, go)] (o :: cs) H s
  tn : tn i s.heap
  free : ∀ c ∈ fp, H c = none
theorem Stand.doze {G : Cx} {a : Addr} {go : Obj} {cs : L2.St} {fp : List Addr} {tn : Nat → Heap → Prop} {i : Nat} {s' : Shared} (z : Dozed s s') (S : Stand G a go cs fp tn i H s) : Stand G a go cs fp tn i H s' :=
  ⟨let ⟨o, I⟩ := S.inv; ⟨o, z.inv I⟩, by rw [z.heap]; exact S.tn, S.free⟩
def gives (G : Cx) (a : Addr) (go : Obj) (cs : L2.St) (fp : List Addr) (tn : Nat → Heap → Prop) (n : Nat) (Pv : Nat → Hp → Prop) (Bad : Hp → Prop) : Protocol := fun m _ v s kap =>
  ∃ (i : Nat) (b : Bool) (H' : Hp), i + m = n ∧ i < n ∧ v = .bool b ∧ Stand G a go cs fp tn (i + 1) H' s ∧ (if b = true then Pv (i + 1) H' else Bad H') ∧ (b = true → ∀ s', Dozed s s' → kap (.send .none) s')
def ends (G : Cx) (a : Addr) (go : Obj) (cs : L2.St) (n : Nat) (Pv : Nat → Hp → Prop) : GenEnd := fun _ _ r s => r = .ok .next ∧ ∃ o H', Inv G [(a, go)] (o :: cs) H' s ∧ Pv n H'
theorem seg_turns {x : Str} {px pos : Pos} {caps : Caps} {scope : Scope} {code : Value} {fp : List Addr} {H0 : Hp} {elt iter : Expr} {it a : Addr} {go : Obj} {J : It} {tn : Nat → Heap → Prop} {te : TE} {n : Nat} {cs : L2.St} {Pv : Nat → Hp → Prop} {Bad : Hp → Prop}
    (T : Turn X.prog X.w X.K (.Name x px) J fp it tn) (S : GenN X.env scope x) (nd : (x :: caps.map (·.1)).Nodup) (he : PE (gx X x caps scope code fp s H0) elt te) (P : Plan J n te cs Pv Bad) (hafp : a ∉ fp) :
    ∀ (k i : Nat) (s₀ s1 : Shared) (H : Hp), i + k = n → Stand (gx X x caps scope code fp s H0) a go cs fp tn i H s1 → Pv i H →
      Seg (model X.prog X.w) X.A.in1.in1 (ends (gx X x caps scope code fp s H0) a go cs n Pv) (gives (gx X x caps scope code fp s H0) a go cs fp tn n Pv Bad) (k + 1) s₀
        (.compLoop (.GeneratorExp elt [⟨.Name x px, iter, [], 0⟩] scope pos) 0 (.ref it) .none (gEnv X scope s.heap.objs.size code))
        ((model X.prog X.w).den (.compLoop (.GeneratorExp elt [⟨.Name x px, iter, [], 0⟩] scope pos) 0 (.ref it) .none (gEnv X scope s.heap.objs.size code))) [] s1 := by
  generalize hG : gx X x caps scope code fp s H0 = G at he ⊢
  have fpok : ∀ {H : Hp} {σ : L2.St} {s1 : Shared}, Inv G [(a, go)] σ H s1 → (∀ c ∈ fp, H c = none) → ∀ b ∈ fp, FpOk G [(a, go)] H b := fun {H σ s1} I fr b hb => by
    have ex : b ∈ G.ex := by rw [← hG]; exact hb
    refine ⟨fr b hb, (I.ok.exf b ex).1, I.ok.exfs b ex, .inl ex, (I.ok.exf b ex).2, fun p hp => ?_⟩
    have hp2 : p = (a, go) := by
      have : G.pn = [] := by rw [← hG]; rfl
      rw [this] at hp
      simpa using hp
    rw [hp2]
    exact fun z => hafp (by rw [show a = b from z]; exact hb)
  have gP : G.prog = X.prog := by rw [← hG]; rfl
  have gw : G.w = X.w := by rw [← hG]; rfl
  have gK : G.K = X.K := by rw [← hG]; rfl
  have gc : G.calm = true := by rw [← hG]; rfl
  have gA : G.A = X.A.in1.in1.deeper (gEnv X scope s.heap.objs.size code) := by rw [← hG]; rfl
  have gE : G.env = gEnv X scope s.heap.objs.size code := by rw [← hG]; rfl
  have gN : G.N = x :: caps.map (·.1) := by rw [← hG]; rfl
  have gX : ∀ v s', ¬ G.xe v s' := by rw [← hG]; exact fun _ _ z => z
  have nm : PG G (.Name x px) (gName 0) := pg_name (by rw [gN]; exact nd) (by rw [gN]; rfl) (.inl (by rw [gE]; exact S.names.2)) (.inr (by rw [gE]; exact S.names.2))
  have co : (gEnv X scope s.heap.objs.size code).scope.isCoroutine = false := S.sort.2.1
  clear hG
  intro k
  induction k with
  | zero =>
    intro i s₀ s1 H sum st p
    have e : i = n := sum
    subst e
    obtain ⟨⟨o, I⟩, ht, fr⟩ := st
    show Seg _ _ _ _ _ s₀ _ ((compTurn (.GeneratorExp elt [⟨.Name x px, iter, [], 0⟩] scope pos) 0 (.ref it) .none (gEnv X scope s.heap.objs.size code)).onRaise (leaving (gEnv X scope s.heap.objs.size code))) [] s1
    rw [compTurn_gen]
    rw [Sem.onRaise_eq_wrap]
    refine seg_bind_wrap (wpAny_standAt (seg_bind_wrap ?_))
    rw [over_gen, ← gA]
    refine wpAny_mono (T.done G gP gw gK gc i [(a, go)] s1 (o :: cs) H _ I (fpok I fr) ht (P.stop H p)) (fun r s2 q => ?_) fun _ _ z => z
    obtain ⟨rfl, I2⟩ := q
    exact seg_end (.ok .next) ⟨rfl, o, H, I2, p⟩
  | succ k ih =>
    intro i s₀ s1 H sum st p
    obtain ⟨⟨o, I⟩, ht, fr⟩ := st
    have lt : i < n := by omega
    show Seg _ _ _ _ _ s₀ _ ((compTurn (.GeneratorExp elt [⟨.Name x px, iter, [], 0⟩] scope pos) 0 (.ref it) .none (gEnv X scope s.heap.objs.size code)).onRaise (leaving (gEnv X scope s.heap.objs.size code))) [] s1
    rw [compTurn_gen]
    rw [Sem.onRaise_eq_wrap]
    refine seg_bind_wrap (wpAny_standAt (seg_bind_wrap ?_))
    rw [over_gen, ← gA]
    refine wpAny_mono (T.item G gP gw gK gc i [(a, go)] s1 (o :: cs) H _ I (fpok I fr) ht (P.go i H lt p)) (fun r s2 q => ?_) fun _ _ z => z
    obtain ⟨u, rfl, q⟩ := q
    refine seg_bind_wrap ?_
    rw [over_gen, ← gA]
    refine wpAny_mono q (fun _ s3 q => ?_) fun _ _ z => z
    obtain ⟨xv, H1, I1, rx, yl, ht1, fr1⟩ := q
    have fo := fun b hb => T.obj (i + 1) _ ht1 b hb
    have I2 := I1.pinned (fpok I1 fr1) fo
    generalize hpn : [(a, go)] ++ pinsAt fp s3.heap = pn at I2
    have back : ∀ {σ' : L2.St} {H' : Hp} {s' : Shared}, Inv G pn σ' H' s' → tn (i + 1) s'.heap ∧ (∀ c ∈ fp, H' c = none) ∧ Inv G [(a, go)] σ' H' s' := fun {σ' H' s'} I' => by
      rw [← hpn] at I'
      have got : ∀ b ∈ fp, ∀ ob, s3.heap.get? b = some ob → s'.heap.get? b = some ob ∧ H' b = none := fun b hb ob e => by
        have q := I'.pin (b, ob) (List.mem_append_right _ (List.mem_append_right _ (mem_pinsAt hb e)))
        exact ⟨q.1, q.2.1⟩
      refine ⟨T.keep (i + 1) _ _ ht1 fun b hb ob e => (got b hb ob e).1, fun c hc => ?_, I'.unpinned⟩
      obtain ⟨ob, e, _⟩ := fo c hc
      exact (got c hc ob e).2
    refine seg_bind_wrap ?_
    rw [over_gen, ← gA, ← gE]
    have set := nm.run pn s3 (o :: cs) H1 xv u (fun σ' H' => σ' = some xv :: cs ∧ H' = H1) I2 rx ⟨rfl, rfl⟩
    rw [gP, gw] at set
    refine wpAny_mono set (fun _ s4 q => ?_) fun v s' z => absurd z (gX v s')
    obtain ⟨_, _, I4, rfl, rfl⟩ := q
    refine seg_bind_wrap (m := pure true) (wpAny_pure ?_)
    dsimp only []
    rw [if_pos rfl]
    rw [Sem.bind_eq_wrap', Sem.wrap_wrap]
    refine seg_bind_wrap ?_
    rw [gE, over_gen, ← gA, ← gE]
    have val := he.run pn s4 (some xv :: cs) _ _ I4 (P.turn i xv H _ lt p yl)
    rw [gP, gw] at val
    refine wpAny_mono val (fun y s5 q => ?_) fun v s' z => absurd z (gX v s')
    obtain ⟨_, H5, I5, ry, b, rfl, after⟩ := q
    obtain rfl := (show y = Value.bool b from ry)
    obtain ⟨ht5, fr5, J5⟩ := back I5
    refine seg_bind_wrap ?_
    refine wpAny_standAt ?_
    have out : yieldOut G.env (.bool b) = yieldValue (.bool b) := by
      unfold yieldOut
      rw [gE, co]
      rfl
    rw [out]
    refine seg_yield rfl rfl rfl ⟨i, b, H5, sum, lt, rfl, ⟨⟨_, J5⟩, ht5, fr5⟩, after, fun yes s6 z => ?_⟩
    rw [if_pos yes] at after
    refine seg_again rfl ?_
    have next := ih (i + 1) s6 s6 H5 (by omega) (Stand.doze z ⟨⟨_, J5⟩, ht5, fr5⟩) after
    rw [← gE] at next
    exact next
theorem seg_start {x : Str} {px pos : Pos} {caps : Caps} {scope : Scope} {code : Value} {fp : List Addr} {H0 : Hp} {elt iter : Expr} {it a : Addr} {go : Obj} {J : It} {tn : Nat → Heap → Prop} {te : TE} {n : Nat} {cs : L2.St} {Pv : Nat → Hp → Prop} {Bad : Hp → Prop}
    (T : Turn X.prog X.w X.K (.Name x px) J fp it tn) (S : GenN X.env scope x) (nd : (x :: caps.map (·.1)).Nodup) (he : PE (gx X x caps scope code fp s H0) elt te) (P : Plan J n te cs Pv Bad) (hafp : a ∉ fp)
    (s₀ s1 : Shared) (H : Hp) (st : Stand (gx X x caps scope code fp s H0) a go cs fp tn 0 H s1) (p : Pv 0 H) :
    Seg (model X.prog X.w) X.A.in1.in1 (ends (gx X x caps scope code fp s H0) a go cs n Pv) (gives (gx X x caps scope code fp s H0) a go cs fp tn n Pv Bad) (n + 1) s₀
        (.compStart (.GeneratorExp elt [⟨.Name x px, iter, [], 0⟩] scope pos) 0 (.ref it) .none (gEnv X scope s.heap.objs.size code))
        ((model X.prog X.w).den (.compStart (.GeneratorExp elt [⟨.Name x px, iter, [], 0⟩] scope pos) 0 (.ref it) .none (gEnv X scope s.heap.objs.size code))) [] s1 := by
  have turns := seg_turns (px := px) (pos := pos) (iter := iter) (go := go) T S nd he P hafp n 0 s₀ s1 H (Nat.zero_add n) st p
  show Seg _ _ _ _ _ s₀ _ ((compStart (.GeneratorExp elt [⟨.Name x px, iter, [], 0⟩] scope pos) 0 (.ref it) .none (gEnv X scope s.heap.objs.size code)).onRaise (leaving (gEnv X scope s.heap.objs.size code))) [] s1
  unfold compStart
  rw [Sem.onRaise_eq_wrap]
  refine seg_bind_wrap (m := ask) (wpAny_askSetting ?_)
  have ht := st.tn
  split
  · exact seg_again rfl turns
  · exact seg_bind_wrap (wpAny_rule (seg_bind_wrap (m := standAt _) (wpAny_standAt (seg_bind_wrap (T.self _ 0 s1 _ _ ht (seg_again rfl turns))))))
/-- asleep ahead of turn i -/
structure Asleep (X : Cx) (G : Cx) (a : Addr) (go : Obj) (cs : L2.St) (fp : List Addr) (tn : Nat → Heap → Prop) (n : Nat) (Pv : Nat → Hp → Prop) (Bad : Hp → Prop) (g k : Nat) (s : Shared) : Prop where
  gen : s.heap.IsGen a g
  lim : s.heap.NoLimit
  goes : ∃ gs, s.gens[g]? = some gs ∧ gs.Goes (model X.prog X.w) X.A.in1.in1 (ends G a go cs n Pv) (gives G a go cs fp tn n Pv Bad) (k + 1) (.send .none) (s.setGen g .running)
theorem all_turns {G : Cx} {a : Addr} {go : Obj} {cs : L2.St} {fp : List Addr} {tn : Nat → Heap → Prop} {n g : Nat} {Pv : Nat → Hp → Prop} {Bad : Hp → Prop} {R : Result → Shared → Prop} (hd : X.A.handled = none) (hdp : X.A.depth < recursionLimit) (gP : G.prog = X.prog) (gw : G.w = X.w)
    (isg : ∀ h : Heap, h.get? a = some go → h.IsGen a g)
    (good : ∀ σ' H' s', Inv G [] σ' H' s' → Pv n H' → R (.ok (.ret (.bool true))) s') (bad : ∀ σ' H' s', Inv G [] σ' H' s' → Bad H' → R (.ok (.ret (.bool false))) s') :
    ∀ (k i : Nat) (s1 : Shared), i + k = n → Asleep X G a go cs fp tn n Pv Bad g k s1 → codeAny (model X.prog X.w) X.A (.builtin "all.loop" ⟨[.ref a], []⟩) R s1 := by
  have pin : ∀ {σ' : L2.St} {H' : Hp} {s' : Shared}, Inv G [(a, go)] σ' H' s' → s'.heap.get? a = some go := fun {σ' H' s'} I => (I.pin (a, go) (List.mem_append_right _ (List.mem_singleton.mpr rfl))).1
  have bare : ∀ {σ' : L2.St} {H' : Hp} {s' : Shared} {gs : GenState}, Inv G [(a, go)] σ' H' s' → gs.bare = true → Inv G [(a, go)] σ' H' (s'.setGen g gs) := fun {σ' H' s' gs} I hb => Dozed.inv (s := s') (s' := s'.setGen g gs) ⟨rfl, rfl, allBare_setGen I.bare hb⟩ I
  have less : ∀ {σ' : L2.St} {H' : Hp} {s' : Shared}, Inv G [(a, go)] σ' H' s' → Inv G [] σ' H' s' := fun {σ' H' s'} I => I.pins_of fun p hp => by cases hp
  intro k
  induction k with
  | zero =>
    intro i s1 sum st
    obtain ⟨gs, hgs, hgo⟩ := st.goes
    apply codeAny_builtin F.entry_all_loop
    rw [Around.under_plainId F.plain_all_loop]
    show wpAny _ X.A.in1 (pyNext (.ref a) >>= _) _ _ s1
    refine wpAny_bind (wpAny_pyNext_genexpQ (A := X.A.in1) (P := fun _ _ s' => ∃ o H', Inv G [(a, go)] (o :: cs) H' s' ∧ Pv n H') hd st.lim hdp st.gen hgs hgo (fun v s2 gs' hb q => ?_) fun s2 q h' hk => ?_)
    · obtain ⟨j, b, H', e1, e2, _⟩ := q
      exact absurd e1 (by omega)
    · obtain ⟨o, H', I, p⟩ := q
      have I2 := bare (gs := .finished) I rfl
      have I3 : Inv G [(a, go)] (o :: cs) H' { s2.setGen g .finished with heap := h' } := I2.kept (t' := (s2.setGen g .finished).toks) hk
      exact wpAny_bind (wpAny_rule (wpAny_pure (good _ _ _ (less I3) p)))
  | succ k ih =>
    intro i s1 sum st
    obtain ⟨gs, hgs, hgo⟩ := st.goes
    have hgl : g < s1.gens.size := (Array.getElem?_eq_some_iff.mp hgs).1
    apply codeAny_builtin F.entry_all_loop
    rw [Around.under_plainId F.plain_all_loop]
    show wpAny _ X.A.in1 (pyNext (.ref a) >>= _) _ _ s1
    refine wpAny_bind (wpAny_gsz (n := g + 1) hgl (wpAny_pyNext_genexpQ (A := X.A.in1) (P := fun _ _ s' => ∃ o H', Inv G [(a, go)] (o :: cs) H' s' ∧ Pv n H') hd st.lim hdp st.gen hgs hgo (fun v s2 gs' hb q => ?_) fun s2 q h' hk => ?_))
    · intro hsz
      obtain ⟨j, b, H', e1, e2, rfl, S2, after, more⟩ := q
      obtain ⟨o, I⟩ := S2.inv
      have I2 := bare I hb
      have e1' : j + (k + 1) = n := e1
      refine wpAny_bind (wpAny_holding (wpAny_truthy_bool (wpAny_bind (wpAny_letGo ?_))))
      cases b with
      | true =>
        rw [if_pos rfl] at after
        refine wpAny_pure ⟨plainId_quiet F.plain_all_loop _, ih (j + 1) _ (by omega) ⟨isg _ (pin I2), I2.nolimit, gs', setGen_at (by rw [setGen_size] at hsz; exact hsz), ?_⟩⟩
        exact more rfl _ ⟨rfl, rfl, (bare (gs := .running) I2 rfl).bare⟩
      | false =>
        rw [if_neg Bool.false_ne_true] at after
        exact wpAny_bind (wpAny_rule (wpAny_pure (bad _ _ _ (less I2) after)))
    · intro _
      obtain ⟨o, H', I, p⟩ := q
      have I2 := bare (gs := .finished) I rfl
      have I3 : Inv G [(a, go)] (o :: cs) H' { s2.setGen g .finished with heap := h' } := I2.kept (t' := (s2.setGen g .finished).toks) hk
      exact wpAny_bind (wpAny_rule (wpAny_pure (good _ _ _ (less I3) p)))
end
end MbX

namespace MbX
open PySem PySem.Spec PyProof.Rows L2 GenW
section
variable {X : Cx} {s : Shared} {H : Hp} {σ : L2.St} {pins : List (Addr × Obj)}
/-- the code object is found in the def's table, or laid there -/
theorem code_either {c P : Addr} {ps : Array Value} {gpos : Pos} {qn : Str} {scope : Scope} {Z : Value → Shared → Prop} (TB : GxR.TabB X.base X.mg c P) (hcode : X.env.code = .ref c) (I : Inv X pins σ H s) (hP : H P = some (.tbl ps)) (ht : TriplesOk ps.toList)
    (goOn : ∀ (cv : Value) (h3 : Heap) (tk : Nat) (more : Array Value), Heap.ExtBut P s.heap h3 → h3.get? P = some { cls := .none, data := .fields (ps ++ more) } → TriplesOk (ps ++ more).toList → Z cv { s with heap := h3, toks := tk }) :
    wpAny (model X.prog X.w) X.A (genexprCode X.env gpos qn scope) Z X.xe s := by
  have tab1 : s.heap.get? P = some { cls := .none, data := .fields ps } := I.hok P _ hP
  have codeAt : PySem.W.CodeHd s.heap c P := TB.code.keeps fun b u e => I.bk b u e
  cases look : codeAmong gpos ps.toList with
  | some cv => exact wpAny_genexprCode_hit hcode (codeAt.code tab1 ht) look (goOn cv _ s.toks #[] (Heap.ExtBut.refl _ _) (by rw [tab1, Array.append_empty]) (by rw [Array.append_empty]; exact ht))
  | none =>
    refine wpAny_genexprCodeX hcode (codeAt.code tab1 ht) (codeAt.tab tab1) look fun cnew h3 tk ext ge lt isC _ isT _ => ?_
    obtain ⟨_, _, _, _, _, _, _, _, _, _, _, _, _, _, _, _, _, _, _, tri, _⟩ := isC
    exact goOn _ h3 tk _ ext isT.2 tri
/-- all(elt for x in te), the element a call: behind the walk's start the def's table may have grown; then each turn keeps what Pv says -/
def tAllC (P : Addr) (wi : TI) (caps : Caps) (te : TE) : TE := fun σ H Q => wi σ H fun J H1 => GxR.TabG H1 P ∧ ∀ H2, GxR.Tabbed P H1 H2 →
  ∃ (n : Nat) (Pv : Nat → Hp → Prop), Pv 0 H2 ∧ Plan J n te (caps.map fun p => slotOf σ p.2) Pv (fun H' => Q (.bl false) H') ∧ ∀ H', Pv n H' → Q (.bl true) H'
theorem pe_allC {c P : Addr} {elt iter : Expr} {x : Str} {px p pos gpos : Pos} {scope : Scope} {caps : Caps} {wi : TI} {te : TE} {k : Nat} (hr : Room k X.A) (hg : Gl X "all") (hm : X.mg "all" = none) (TB : GxR.TabB X.base X.mg c P) (hcode : X.env.code = .ref c)
    (S₀ : GenN X.env scope x) (cp : CapsOk X scope caps) (nd : (x :: caps.map (·.1)).Nodup) (hi : PI X (.Name x px) iter wi) (he : ∀ code fp s H, PE (gx X x caps scope code fp s H) elt te) (hs : ∀ v, genFold iter X.env v = pure v)
    (na : starEach [.GeneratorExp elt [⟨.Name x px, iter, [], 0⟩] scope gpos] X.env = (false, eval (.GeneratorExp elt [⟨.Name x px, iter, [], 0⟩] scope gpos) X.env) :: starEach [] X.env := by rfl) :
    PE X (.Call (.Name "all" p) [.GeneratorExp elt [⟨.Name x px, iter, [], 0⟩] scope gpos] [] pos) (tAllC P wi caps te) := by
  constructor
  intro pins s σ H Q I h
  refine wpAny_Call_Name_kw (ld_blt I hg hm boot_all (PyProof.Rows.callWith_builtin1 ?_ na (by rfl)))
  refine args_cons ?_ na
  have S := S₀.to I.ok.has
  refine wpAny_GeneratorExp_make S.co (closure_ok S.free) S.cell S.dot S.kind hr.depth ?_ hs
  refine wpAny_mono (hi.run pins s σ H _ I h) (fun xv s1 hx => wpAny_mono hx (fun itv s2 q => ?_) fun _ _ z => z) fun _ _ z => z
  obtain ⟨it, fp, tn, J, H1, rfl, I1, T, ht, hf, ⟨ps, hP, tri⟩, hR⟩ := q
  refine ⟨I1.nolimit, code_either TB hcode I1 hP tri fun cv h3 tk more ext tab3 tri3 => ?_⟩
  have notP : ∀ b ∈ fp, b ≠ P := fun b hb z => by
    have q := (hf b hb).1
    rw [z, hP] at q
    cases q
  have old3 : ∀ b u, b ≠ P → s2.heap.get? b = some u → h3.get? b = some u := fun b u n e => ext b u n e
  have I3 : Inv X pins σ (upd H1 P (.tbl (ps ++ more))) { s2 with heap := h3, toks := tk } := GxR.inv_tab (g' := s2.gens) (d' := s2.drawn) (t' := tk) I1 hP old3 tab3 I1.bare
  have grown : GxR.Tabbed P H1 (upd H1 P (.tbl (ps ++ more))) := ⟨⟨_, upd_same, tri3⟩, fun b n => upd_ne n⟩
  have hR3 := hR _ grown
  have hf3 : ∀ b ∈ fp, FpOk X pins (upd H1 P (.tbl (ps ++ more))) b := fun b hb => ⟨by rw [upd_ne (notP b hb)]; exact (hf b hb).1, (hf b hb).2⟩
  have ht3 : tn 0 h3 := T.keep 0 _ _ ht fun b hb o e => old3 b o (notP b hb) e
  have lt3 : ∀ b ∈ fp, b < h3.objs.size := fun b hb => by
    obtain ⟨o, e, _⟩ := T.obj 0 _ ht3 b hb
    exact Heap.lt_size e
  generalize hH3 : upd H1 P (.tbl (ps ++ more)) = H3 at I3 grown hR3 hf3
  generalize hs3 : ({ s2 with heap := h3, toks := tk } : Shared) = s3 at I3
  have e3 : h3 = s3.heap := by rw [← hs3]
  have glob3 : s3.heap.Ns X.env.globals X.mg := by
    rw [I3.ok.glob]
    exact I3.mod.glob.keeps I3.bk
  obtain ⟨bm, ob, g1, g2, g3, g4, g5, g6, g7, g8⟩ := TB.bm
  refine wpAny_builtinsFor (m := X.mg) glob3 g1 g2 (I3.bk _ _ g5) g6 g7 g8 ?_
  intro h' hn' hs'
  rw [e3] at ht3 lt3
  have keep' : ∀ b o, s3.heap.get? b = some o → h'.get? b = some o := fun b o e => hs'.extBut b o (Nat.ne_of_lt (Heap.lt_size e)) (Heap.get?_push_of_some _ e)
  have hsz : h'.objs.size = s3.heap.objs.size + 1 := by rw [hs'.1, Heap.size_push]
  refine args_nil ?_
  generalize hgo : ({ cls := .type "generator", data := .fields #[.int s3.gens.size 0, .str "<genexpr>" (s3.toks + 1), .str (X.env.qual ++ "<genexpr>") (s3.toks + 1 + 1)] } : Obj) = go
  have gData : go.data = .fields #[.int s3.gens.size 0, .str "<genexpr>" (s3.toks + 1), .str (X.env.qual ++ "<genexpr>") (s3.toks + 1 + 1)] := by rw [← hgo]
  have isg : ∀ h : Heap, h.get? h'.objs.size = some go → h.IsGen h'.objs.size s3.gens.size := fun h e => ⟨go, _, _, e, by rw [← hgo], gData, by rw [← hgo]⟩
  have pushed : (h'.push go).get? h'.objs.size = some go := by rw [← hgo]; exact Heap.get?_push_size _ rfl
  obtain ⟨n, Pv, pv0, plan, fin⟩ := hR3
  have afp : h'.objs.size ∉ fp := fun hm => by
    have q := lt3 _ hm
    rw [hsz] at q
    exact absurd q (Nat.not_lt_of_le (Nat.le_succ _))
  have G0 := gx_inv (x := x) (caps := caps) (scope := scope) (code := cv) (fp := fp) (go := go) (a := h'.objs.size) (s5 := { s3 with heap := h'.push go, gens := s3.gens.push (GenState.fresh
            (Code.compStart (.GeneratorExp elt [⟨.Name x px, iter, [], 0⟩] scope gpos) 0 (.ref it) .none (gEnv X scope s3.heap.objs.size cv))), toks := s3.toks + 1 + 1 + 1 })
    I3 hr.hd S₀ cp hf3 lt3 rfl (AllBare.push I3.bare rfl) (hn'.push go) (fun b o e => Heap.get?_push_of_some _ (keep' b o e)) pushed (by rw [hsz]; exact Nat.lt_succ_self _) (fun v z => by rw [gData] at z; cases z)
  have back : ∀ {σ' : L2.St} {H' : Hp} {s' : Shared}, Inv (gx X x caps scope cv fp s3 H3) [] σ' H' s' → Inv X pins σ H' s' := fun {σ' H' s'} J' =>
    I3.call' (ch := fp) J'.os J'.base J'.hok J'.bare fun b hb => ⟨(hf3 b hb).2.2.2.1, (hf3 b hb).2.1, (hf3 b hb).2.2.2.2.1, (hf3 b hb).2.2.2.2.2⟩
  apply call_function_tree F.kind_all F.plain_all F.entry_all (F.args_all1 _)
  unfold Builtin.«all»
  refine wpAny_bind (m := oneArg "all" _) (wpAny_pure (wpAny_bind (wpAny_pyIter_gen (isg _ pushed) (wpAny_pure ⟨plainId_quiet F.plain_all_loop _, ?_⟩))))
  refine all_turns (G := gx X x caps scope cv fp s3 H3) (cs := caps.map fun p => slotOf σ p.2) (fp := fp) (tn := tn) (n := n) (Pv := Pv) (Bad := fun H' => Q (.bl false) H') hr.hd hr.depth rfl rfl isg
    (fun σ' H' s' J' p' => ⟨.bl true, H', back J', rfl, fin H' p'⟩) (fun σ' H' s' J' p' => ⟨.bl false, H', back J', rfl, p'⟩) n 0 _ (Nat.zero_add n) ⟨isg _ pushed, G0.nolimit, _, Array.getElem?_push_size .., rfl, ?_⟩
  refine seg_start (px := px) (pos := gpos) (iter := iter) (go := go) T S₀ nd (he cv fp s3 H3) plan afp _ _ H3 ⟨⟨none, ?_⟩, ?_, fun c hc => (hf3 c hc).1⟩ pv0
  · refine Dozed.inv ?_ G0
    exact ⟨rfl, rfl, allBare_setGen G0.bare rfl⟩
  · exact T.keep 0 _ _ ht3 fun b hb o e => Heap.get?_push_of_some _ (keep' b o e)
end
/-- the plan of a walk by its turns -/
theorem plan_by {J : It} {n : Nat} {Gd : Hp → Prop} {Y : Nat → Hp → V → Hp → Prop} (w : Walk J n Gd Y) {te : TE} {cs : L2.St} {Pv : Nat → Hp → Prop} {Bad : Hp → Prop} (stands : ∀ i H, i ≤ n → Pv i H → Gd H)
    (turn : ∀ i x H H', i < n → Pv i H → Y i H x H' → te (some x :: cs) H' fun y H3 => ∃ b, y = .bl b ∧ if b = true then Pv (i + 1) H3 else Bad H3) : Plan J n te cs Pv Bad :=
  ⟨fun i H lt p => w.goes i H lt (stands i H (Nat.le_of_lt lt) p), fun H p => w.stops H (stands n H (Nat.le_refl n) p), fun i x H H' lt p y => turn i x H H' lt p (w.yields i H x H' lt (stands i H (Nat.le_of_lt lt) p) y)⟩
end MbX

namespace Mb
open L2 PySem PySem.Spec PyProof.Rows
section
variable {P : Program} {w : World} {K : PySem.W.Frag} {mg : Str → Option Value} {base : Heap} {C CS CM CT : Addr}
/-! ### without(one, other) -/
def spWithout (K : PySem.W.Frag) : Sp := fun vs H Q _ => ∃ (a b : Addr) (ns ms : List Int), vs = [.ref a, .ref b] ∧ SqL K H a (ns.map V.int) ∧ SqL K H b (ms.map V.int) ∧ ns.length ≤ 1000 ∧
  ∀ (H' : Hp) (q : Addr), Same H H' → H q = none → H' q = some (.lst ((lacking ns ms).map V.int)) → Q (.ref q) H'
abbrev nWithout : List Str := ["one", "other", "number"]
theorem scWithout : FnScope nWithout ["one", "other"] (defScope s_without) := ⟨rfl, rfl, rfl, by decide +kernel, rfl, by decide +kernel, by decide +kernel⟩
theorem ok_without {f : Addr} {fd : FuncData} (F : Fun K "without" "without" s_without f fd) : FnOk P w K mg base CX0 1 f fd ["one", "other"] (spWithout K) := by
  refine F.ok scWithout (fun vs H Q E h => ?_) (fun cdv A outer s H vs Q E hr h => ?_)
  · obtain ⟨a, b, ns, ms, rfl, _⟩ := h
    rfl
  · obtain ⟨a, b, ns, ms, rfl, hA, hB, len, k⟩ := h
    refine ⟨_, pss_one (ps_ret (pe_lc (own := [("number", 2)]) (g := gName 2) (tt := tTest (tOp (rIn K true) (tVar 2) (tVar 1))) rfl scWithout.nd (pi_list (pv 0)) (blkOk_by (N := nWithout) (sc := defScope s_without) (by decide +kernel)) (fun _ _ _ _ _ => pg_name (i := 2) scWithout.nd rfl (Or.inl rfl))
      (fun _ _ _ _ _ => pts_one (pt_cmpR op_notIn_seq (pv 2) (pv 1) (by rfl))) (fun _ _ _ _ _ => pv 2))), ?_⟩
    refine ⟨_, rfl, a, rfl, ⟨_, hA⟩, fun D hD => ?_⟩
    refine lc_list (K := K) (a := a) (xs := ns.map V.int) (fun i H2 => H2 D = some (.lst ((lacking (ns.take i) ms).map V.int)) ∧ Same H H2) ⟨upd_same, Same.up (Same.refl H) hD⟩ (fun i H2 _ z => z.2.seq hA) ?_ ?_
    · rintro i v H2 hv ⟨hD2, s2⟩
      obtain ⟨m, hm, rfl⟩ := int_at hv
      refine ⟨rfl, _, rfl, _, rfl, b, _, rfl, .inl (s2.seq hB), rfl, flat_ints _, _, rfl, ?_⟩
      rw [if_pos rfl, inV_int]
      have fl : lacking (ns.take (i + 1)) ms = lacking (ns.take i) ms ++ (if (!decide (m ∈ ms)) = true then [m] else []) := filter_take _ hm
      have ll : (lacking (ns.take i) ms).length ≤ ns.length := Nat.le_trans (List.length_filter_le _ _) (by rw [List.length_take]; omega)
      rw [fl]
      apply ite2 <;> intro c
      · rw [if_pos c]
        refine ⟨_, rfl, _, hD2, by rw [List.length_map, sizeLine_eq]; omega, by rw [upd_same, List.map_append]; rfl, fun u o e => ?_⟩
        rw [upd_ne (ne_of_none e hD)]
        exact s2 u o e
      · rw [if_neg c, List.append_nil]
        exact ⟨hD2, s2⟩
    · rintro H2 ⟨hD2, s2⟩
      rw [List.length_map, List.take_length] at hD2
      exact k H2 D s2 hD hD2
/-! ### met(rule, marks) -/
/-- what meets a rule -/
def metB (as bs ms : List Int) : Bool := !has ms as || has ms bs
def spMet (K : PySem.W.Frag) (Ts : List Addr) : Sp := fun vs H Q _ => ∃ (t p q m : Addr) (as bs ms : List Int), vs = [.ref t, .ref m] ∧ SqT K H t [.ref p, .ref q] ∧ SqL K H p (as.map V.int) ∧ SqL K H q (bs.map V.int) ∧ SqL K H m (ms.map V.int) ∧ Tabs Ts H ∧
  ∀ H', Kp Ts H H' → Q (.bl (metB as bs ms)) H'
abbrev nMet : List Str := ["rule", "marks", "ahead", "behind"]
theorem scMet : FnScope nMet ["rule", "marks"] (defScope s_met) := ⟨rfl, rfl, rfl, by decide +kernel, rfl, by decide +kernel, by decide +kernel⟩
theorem ok_met {f fH : Addr} {fd fdH : FuncData} {Ts : List Addr} (F : Fun K "met" "met" s_met f fd)
    (GH : FnOk P w K mg base CX0 1 fH fdH ["whole", "part"] (spHasAll K Ts)) (gH : mg "has_all" = some (.ref fH)) (kH : PySem.W.keepIn K (.ref fH) = true) (bH : Binds K fdH ["whole", "part"] []) : FnOk P w K mg base CX0 2 f fd ["rule", "marks"] (spMet K Ts) := by
  refine F.ok scMet (fun vs H Q E h => ?_) (fun cdv A outer s H vs Q E hr h => ?_)
  · obtain ⟨t, p, q, m, as, bs, ms, rfl, _⟩ := h
    rfl
  · obtain ⟨t, p, q, m, as, bs, ms, rfl, hT, hA, hB, hM, tb, k⟩ := h
    refine ⟨_, pss_cons (ps_asg (pv 0) (pg_tup rfl (pgs_cons (pg_name (i := 2) scMet.nd rfl (Or.inl rfl)) (pgs_cons (pg_name (i := 3) scMet.nd rfl (Or.inl rfl)) pgs_nil))))
      (pss_one (ps_ret (pe_or (pe_not (pe_call GH hr (by rfl) gH kH bH .nil pass0 (pa_cons (pv 1) (pa_cons (pv 2) pa_nil)))) (pe_one (pe_call GH hr (by rfl) gH kH bH .nil pass0 (pa_cons (pv 1) (pa_cons (pv 3) pa_nil))))))), ?_⟩
    refine ⟨_, rfl, t, _, rfl, hT, rfl, _, _, rfl, _, _, rfl, rfl, ?_⟩
    refine ⟨_, rfl, _, rfl, m, p, ms, as, rfl, hM, hA, tb, fun H1 kp1 => ⟨_, rfl, _, rfl, ?_⟩⟩
    cases e : has ms as with
    | false =>
      refine iteT ?_
      have e2 : metB as bs ms = true := by unfold metB; rw [e]; rfl
      rw [← e2]
      exact k H1 kp1
    | true =>
      refine iteF ⟨_, rfl, _, rfl, m, q, ms, bs, rfl, kp1.seq hM, kp1.seq hB, kp1.t1, fun H2 kp2 => ?_⟩
      have e2 : metB as bs ms = has ms bs := by unfold metB; rw [e]; rfl
      rw [← e2]
      exact k H2 (kp1.trans kp2)
end
end Mb

namespace Mb
/-! ### closures, knots, and the fewest rules -/
def sub (a b : List Int) : Prop := ∀ k ∈ a, k ∈ b
theorem sub_refl (a : List Int) : sub a a := fun _ h => h
theorem sub.trans {a b c : List Int} (h : sub a b) (g : sub b c) : sub a c := fun k hk => g k (h k hk)
section
variable {n : Int} {mss : List (List Int)} {a b s : List Int} {k : Int}
theorem has_iff {ms ns : List Int} : has ms ns = true ↔ sub ns ms := by
  unfold has sub
  simp only [List.all_eq_true, decide_eq_true_eq]
theorem things_mem {j : Int} : j ∈ thingsOf mss a ↔ ∃ (i : Nat) (ms : List Int), j = i ∧ mss[i]? = some ms ∧ sub a ms := by
  unfold thingsOf
  rw [passTo_mem]
  constructor
  · rintro ⟨h0, h1, h2⟩
    obtain ⟨i, rfl⟩ := Int.eq_ofNat_of_zero_le h0
    rw [Int.toNat_natCast] at h2
    unfold hasAt at h2
    cases e : mss[i]? with
    | none => simp [e] at h2
    | some ms => rw [e] at h2; exact ⟨i, ms, rfl, e, has_iff.mp h2⟩
  · rintro ⟨i, ms, rfl, e, h⟩
    have := (List.getElem?_eq_some_iff.mp e).1
    refine ⟨by omega, by omega, ?_⟩
    rw [Int.toNat_natCast]
    unfold hasAt
    rw [e]
    exact has_iff.mpr h
theorem closed_mem : k ∈ closedOf n mss a ↔ 0 ≤ k ∧ k < n ∧ ∀ ms ∈ mss, sub a ms → k ∈ ms := by
  unfold closedOf marksOf
  rw [passTo_mem]
  have e : ∀ m : Int, onAll m (picked mss (thingsOf mss a)) = true ↔ ∀ ms ∈ mss, sub a ms → m ∈ ms := fun m => by
    unfold onAll picked
    simp only [List.all_eq_true, List.mem_map, decide_eq_true_eq]
    constructor
    · intro h ms hm hs
      obtain ⟨i, hi, e⟩ := List.getElem_of_mem hm
      have e' : mss[i]? = some ms := by rw [List.getElem?_eq_getElem hi, e]
      refine h ms ⟨(i : Int), things_mem.mpr ⟨i, ms, rfl, e', hs⟩, ?_⟩
      rw [Int.toNat_natCast, List.getD_eq_getElem?_getD, e']
      rfl
    · rintro h ms ⟨j, hj, rfl⟩
      obtain ⟨i, ms, rfl, e, hs⟩ := things_mem.mp hj
      rw [Int.toNat_natCast, List.getD_eq_getElem?_getD, e]
      exact h ms (List.mem_of_getElem? e) hs
  constructor
  · rintro ⟨h0, h1, h2⟩
    refine ⟨h0, by omega, (e k).mp ?_⟩
    have e2 : ((k.toNat : Nat) : Int) = k := Int.toNat_of_nonneg h0
    rw [e2] at h2
    exact h2
  · rintro ⟨h0, h1, h2⟩
    refine ⟨h0, by omega, ?_⟩
    have e2 : ((k.toNat : Nat) : Int) = k := Int.toNat_of_nonneg h0
    show onAll ((k.toNat : Nat) : Int) _ = true
    rw [e2]
    exact (e k).mpr h2
theorem closed_set : SetIn n (closedOf n mss a) := ⟨passTo_rise _ _, fun k hk => ⟨(closed_mem.mp hk).1, (closed_mem.mp hk).2.1⟩⟩
theorem closed_ext (h : SetIn n a) : sub a (closedOf n mss a) := fun k hk => closed_mem.mpr ⟨(h.2 k hk).1, (h.2 k hk).2, fun _ _ q => q k hk⟩
theorem closed_mono (h : sub a b) : sub (closedOf n mss a) (closedOf n mss b) := fun k hk => by
  obtain ⟨h0, h1, h2⟩ := closed_mem.mp hk
  exact closed_mem.mpr ⟨h0, h1, fun ms hm q => h2 ms hm (h.trans q)⟩
theorem set_eq (ha : SetIn n a) (hb : SetIn n b) (h : sub a b) (g : sub b a) : a = b := rise_eq hb.1 ha.1 fun k => ⟨h k, g k⟩
theorem closed_idem : closedOf n mss (closedOf n mss a) = closedOf n mss a := by
  refine set_eq closed_set closed_set (fun k hk => ?_) (closed_ext closed_set)
  obtain ⟨h0, h1, h2⟩ := closed_mem.mp hk
  exact closed_mem.mpr ⟨h0, h1, fun ms hm q => h2 ms hm fun j hj => (closed_mem.mp hj).2.2 ms hm q⟩
/-- closed just where the closure is no more -/
theorem closed_iff (h : SetIn n s) : closedOf n mss s = s ↔ sub (closedOf n mss s) s := ⟨fun e => by rw [e]; exact sub_refl s, fun g => set_eq closed_set h g (closed_ext h)⟩
/-! ### knots -/
structure Knots (n : Int) (mss : List (List Int)) (ks : List (List Int)) : Prop where
  nd : ks.Nodup
  mem : ∀ s, s ∈ ks ↔ SetIn n s ∧ closedOf n mss s ≠ s ∧ ∀ q ∈ ks, sub q s → q ≠ s → sub (closedOf n mss q) s
/-- a set meets a rule -/
def Meets (s : List Int) (r : List Int × List Int) : Prop := sub r.1 s → sub r.2 s
variable {ks : List (List Int)}
/-- what has the closures of all knots in it is closed -/
theorem Knots.full (K : Knots n mss ks) (h : SetIn n s) (g : ∀ q ∈ ks, sub q s → sub (closedOf n mss q) s) : closedOf n mss s = s := by
  refine Classical.byContradiction fun ne => ?_
  have hs : s ∈ ks := (K.mem s).mpr ⟨h, ne, fun q hq h1 _ => g q hq h1⟩
  exact ne ((closed_iff h).mpr (g s hs (sub_refl s)))
theorem closed_has (e : closedOf n mss s = s) (q : List Int) (h : sub q s) : sub (closedOf n mss q) s := by
  have := closed_mono (n := n) (mss := mss) h
  rw [e] at this
  exact this
/-- the marks that both have -/
def both (a b : List Int) : List Int := a.filter fun k => decide (k ∈ b)
theorem both_mem : k ∈ both a b ↔ k ∈ a ∧ k ∈ b := by
  unfold both
  rw [List.mem_filter, decide_eq_true_eq]
theorem both_set (h : SetIn n a) : SetIn n (both a b) := ⟨h.1.sublist List.filter_sublist, fun k hk => h.2 k (both_mem.mp hk).1⟩
/-- a rule that is met by all closed sets, and neither by the one knot nor by another one, asks that they be the same -/
theorem Knots.apart (K : Knots n mss ks) {p q : List Int} {r : List Int × List Int} (hp : p ∈ ks) (hq : q ∈ ks) (hr : ∀ t, SetIn n t → closedOf n mss t = t → Meets t r) (h1 : ¬ Meets p r) (h2 : ¬ Meets q r) : p = q := by
  refine Classical.byContradiction fun ne => ?_
  obtain ⟨p1, p2, p3⟩ := (K.mem p).mp hp
  obtain ⟨q1, q2, q3⟩ := (K.mem q).mp hq
  have ap : sub r.1 p := Classical.byContradiction fun z => h1 fun y => absurd y z
  have aq : sub r.1 q := Classical.byContradiction fun z => h2 fun y => absurd y z
  have bp : ¬ sub r.2 p := fun z => h1 fun _ => z
  have bq : ¬ sub r.2 q := fun z => h2 fun _ => z
  -- where the one has the other, its closure is had, too
  have one : ∀ {x y : List Int}, x ∈ ks → SetIn n x → sub r.1 x → sub x y → x ≠ y → (∀ z ∈ ks, sub z y → z ≠ y → sub (closedOf n mss z) y) → sub r.2 y := fun {x y} hx sx ax hxy nxy h3 => by
    have full := hr (closedOf n mss x) closed_set closed_idem (ax.trans (closed_ext sx))
    exact full.trans (h3 x hx hxy nxy)
  by_cases pq : sub p q
  · exact bq (one hp p1 ap pq ne q3)
  by_cases qp : sub q p
  · exact bp (one hq q1 aq qp (Ne.symm ne) p3)
  -- else what both have is closed
  have cl : closedOf n mss (both p q) = both p q := K.full (both_set p1) fun z hz hzs => by
    have zp : sub z p := fun k hk => (both_mem.mp (hzs k hk)).1
    have zq : sub z q := fun k hk => (both_mem.mp (hzs k hk)).2
    have n1 : z ≠ p := fun e => pq (by rw [← e]; exact zq)
    have n2 : z ≠ q := fun e => qp (by rw [← e]; exact zp)
    exact fun k hk => both_mem.mpr ⟨p3 z hz zp n1 k hk, q3 z hz zq n2 k hk⟩
  have := hr (both p q) (both_set p1) cl fun k hk => both_mem.mpr ⟨ap k hk, aq k hk⟩
  exact bp fun k hk => (both_mem.mp (this k hk)).1
theorem pick_each {α β : Type} [BEq α] [LawfulBEq α] {F : α → β → Prop} : ∀ (rs : List β) (ks : List α), ks.Nodup → (∀ p ∈ ks, ∃ r ∈ rs, F p r) → (∀ p ∈ ks, ∀ q ∈ ks, ∀ r ∈ rs, F p r → F q r → p = q) → ks.length ≤ rs.length
  | [], ks, _, h, _ => by
    cases ks with
    | nil => exact Nat.le_refl _
    | cons p t => obtain ⟨r, hr, _⟩ := h p List.mem_cons_self; cases hr
  | r :: rs, ks, nd, h, g => by
    by_cases e : ∃ p ∈ ks, F p r
    · obtain ⟨p, hp, hF⟩ := e
      have ih := pick_each rs (ks.erase p) (nd.erase p) (fun q hq => by
        obtain ⟨nq, hq2⟩ := nd.mem_erase_iff.mp hq
        obtain ⟨r', hr', hF'⟩ := h q hq2
        rcases List.mem_cons.mp hr' with e2 | e2
        · rw [e2] at hF'
          exact absurd (g q hq2 p hp r List.mem_cons_self hF' hF) nq
        · exact ⟨r', e2, hF'⟩) fun a ha b hb r' hr' => g a (List.mem_of_mem_erase ha) b (List.mem_of_mem_erase hb) r' (List.mem_cons_of_mem _ hr')
      rw [List.length_erase_of_mem hp] at ih
      have := List.length_pos_of_mem hp
      show _ ≤ rs.length + 1
      omega
    · have ih := pick_each rs ks nd (fun q hq => by
        obtain ⟨r', hr', hF'⟩ := h q hq
        rcases List.mem_cons.mp hr' with e2 | e2
        · rw [e2] at hF'
          exact absurd ⟨q, hq, hF'⟩ e
        · exact ⟨r', e2, hF'⟩) fun a ha b hb r' hr' => g a ha b hb r' (List.mem_cons_of_mem _ hr')
      exact Nat.le_succ_of_le ih
/-- no fewer rules than there are knots are met by just the closed sets -/
theorem Knots.fewest (K : Knots n mss ks) {rs : List (List Int × List Int)} (h : ∀ s, SetIn n s → ((∀ r ∈ rs, Meets s r) ↔ closedOf n mss s = s)) : ks.length ≤ rs.length := by
  refine pick_each (F := fun p r => ¬ Meets p r) rs ks K.nd (fun p hp => ?_) fun p hp q hq r hr h1 h2 => K.apart hp hq (fun t ht e => (h t ht).mpr e r hr) h1 h2
  obtain ⟨p1, p2, _⟩ := (K.mem p).mp hp
  refine Classical.byContradiction fun no => p2 ((h p p1).mp fun r hr => ?_)
  exact Classical.byContradiction fun z => no ⟨r, hr, z⟩
/-- the rule of a knot -/
def ruleOf (n : Int) (mss : List (List Int)) (q : List Int) : List Int × List Int := (q, lacking (closedOf n mss q) q)
theorem lacking_mem : k ∈ lacking a b ↔ k ∈ a ∧ k ∉ b := by
  unfold lacking
  rw [List.mem_filter]
  simp
theorem meets_rule {q : List Int} : Meets s (ruleOf n mss q) ↔ (sub q s → sub (closedOf n mss q) s) := by
  unfold Meets ruleOf
  constructor
  · intro h hq k hk
    by_cases e : k ∈ q
    · exact hq k e
    · exact h hq k (lacking_mem.mpr ⟨hk, e⟩)
  · intro h hq k hk
    exact h hq k (lacking_mem.mp hk).1
/-- just the closed sets meet the rules of all knots -/
theorem Knots.just (K : Knots n mss ks) (h : SetIn n s) : (∀ r ∈ ks.map (ruleOf n mss), Meets s r) ↔ closedOf n mss s = s := by
  constructor
  · intro g
    exact K.full h fun q hq => meets_rule.mp (g _ (List.mem_map.mpr ⟨q, hq, rfl⟩))
  · rintro e r hr
    obtain ⟨q, _, rfl⟩ := List.mem_map.mp hr
    exact meets_rule.mpr (closed_has e q)
/-- what a knot has ahead meets the rules ahead of it: all but its own -/
theorem Knots.before (K : Knots n mss ks) {p q : List Int} (hp : p ∈ ks) (hq : q ∈ ks) (ne : p ≠ q) : Meets q (ruleOf n mss p) := meets_rule.mpr fun h => ((K.mem q).mp hq).2.2 p hp h ne
end
end Mb

namespace Mb
/-! ### lists without a number twice: of the same members, and in the same order -/
theorem order_eq {α : Type} {R : α → α → Prop} (asym : ∀ a b, R a b → R b a → False) : ∀ {as bs : List α}, as.Pairwise R → bs.Pairwise R → (∀ x, x ∈ as ↔ x ∈ bs) → as = bs
  | [], [], _, _, _ => rfl
  | [], b :: bs, _, _, h => by have := (h b).mpr List.mem_cons_self; cases this
  | a :: as, [], _, _, h => by have := (h a).mp List.mem_cons_self; cases this
  | a :: as, b :: bs, ha, hb, h => by
    obtain ⟨a1, a2⟩ := List.pairwise_cons.mp ha
    obtain ⟨b1, b2⟩ := List.pairwise_cons.mp hb
    have e : a = b := by
      rcases List.mem_cons.mp ((h a).mp List.mem_cons_self) with e | e
      · exact e
      · rcases List.mem_cons.mp ((h b).mpr List.mem_cons_self) with e2 | e2
        · exact e2.symm
        · exact (asym a b (a1 b e2) (b1 a e)).elim
    subst e
    have na : a ∉ as := fun z => asym a a (a1 a z) (a1 a z)
    have nb : a ∉ bs := fun z => asym a a (b1 a z) (b1 a z)
    rw [order_eq asym a2 b2 fun x => ⟨fun hx => by
      rcases List.mem_cons.mp ((h x).mp (List.mem_cons_of_mem _ hx)) with e | e
      · rw [e] at hx; exact absurd hx na
      · exact e, fun hx => by
      rcases List.mem_cons.mp ((h x).mpr (List.mem_cons_of_mem _ hx)) with e | e
      · rw [e] at hx; exact absurd hx nb
      · exact e⟩]
/-! ### the size of a set -/
theorem rise_sublist : ∀ {b a : List Int}, a.Pairwise (· < ·) → b.Pairwise (· < ·) → sub a b → a.Sublist b
  | [], a, _, _, h => by
    cases a with
    | nil => exact List.Sublist.slnil
    | cons x t => exact absurd (h x List.mem_cons_self) (by simp)
  | y :: b, [], _, _, _ => List.nil_sublist _
  | y :: b, x :: a, ha, hb, h => by
    obtain ⟨a1, a2⟩ := List.pairwise_cons.mp ha
    obtain ⟨b1, b2⟩ := List.pairwise_cons.mp hb
    rcases List.mem_cons.mp (h x List.mem_cons_self) with e | e
    · subst e
      refine List.Sublist.cons₂ _ (rise_sublist a2 b2 fun k hk => ?_)
      rcases List.mem_cons.mp (h k (List.mem_cons_of_mem _ hk)) with q | q
      · have := a1 k hk; omega
      · exact q
    · refine List.Sublist.cons _ (rise_sublist ha b2 fun k hk => ?_)
      rcases List.mem_cons.mp (h k hk) with q | q
      · have z := b1 x e
        rcases (List.mem_cons).1 hk with r | r
        · omega
        · have := a1 k r; omega
      · exact q
variable {n : Int} {mss : List (List Int)} {a b s : List Int} {k : Int} {ks ls : List (List Int)}
theorem sub_len (ha : SetIn n a) (hb : SetIn n b) (h : sub a b) : a.length ≤ b.length := (rise_sublist ha.1 hb.1 h).length_le
theorem sub_less (ha : SetIn n a) (hb : SetIn n b) (h : sub a b) (ne : a ≠ b) : a.length < b.length := by
  have l := rise_sublist ha.1 hb.1 h
  rcases Nat.lt_or_eq_of_le l.length_le with e | e
  · exact e
  · exact absurd (l.eq_of_length e) ne
/-- two lists of all knots have the same -/
theorem Knots.same (K : Knots n mss ks) (L : Knots n mss ls) : ∀ (z : Nat) (s : List Int), s.length ≤ z → (s ∈ ks ↔ s ∈ ls)
  | z, s, hz => by
    have ih : SetIn n s → ∀ q : List Int, SetIn n q → sub q s → q ≠ s → (q ∈ ks ↔ q ∈ ls) := fun hs q hq h ne => by
      have lt := sub_less hq hs h ne
      cases z with
      | zero => omega
      | succ z => exact Knots.same K L z q (by omega)
    rw [K.mem s, L.mem s]
    constructor
    · rintro ⟨h1, h2, h3⟩
      exact ⟨h1, h2, fun q hq hqs ne => h3 q ((ih h1 q ((L.mem q).mp hq).1 hqs ne).mpr hq) hqs ne⟩
    · rintro ⟨h1, h2, h3⟩
      exact ⟨h1, h2, fun q hq hqs ne => h3 q ((ih h1 q ((K.mem q).mp hq).1 hqs ne).mp hq) hqs ne⟩
/-! ### the order of sets -/
def before (a b : List Int) : Prop := a.length < b.length ∨ a.length = b.length ∧ a < b
theorem lt_asym : ∀ {a b : List Int}, a < b → b < a → False := fun h g => List.lt_asymm h g
theorem Mb.before_asym (a b : List Int) (h : Mb.before a b) (g : Mb.before b a) : False := by
  rcases h with h | ⟨h1, h2⟩ <;> rcases g with g | ⟨g1, g2⟩
  · omega
  · omega
  · omega
  · exact lt_asym h2 g2
/-- in order, the list of all knots is one -/
theorem Knots.one (K : Knots n mss ks) (L : Knots n mss ls) (hk : ks.Pairwise Mb.before) (hl : ls.Pairwise Mb.before) : ks = ls := order_eq Mb.before_asym hk hl fun s => Knots.same K L s.length s (Nat.le_refl _)
/-! ### the knots, found among all sets by their size -/
def subB (a b : List Int) : Bool := a.all fun k => decide (k ∈ b)
theorem subB_iff : subB a b = true ↔ sub a b := by
  unfold subB sub
  simp only [List.all_eq_true, decide_eq_true_eq]
/-- whether s is a knot, where found are the smaller ones -/
def isKnot (n : Int) (mss found : List (List Int)) (s : List Int) : Bool := !decide (closedOf n mss s = s) && found.all fun q => !subB q s || subB (closedOf n mss q) s
def knotsIn (n : Int) (mss : List (List Int)) : List (List Int) → List (List Int) → List (List Int)
  | [], found => found
  | s :: r, found => knotsIn n mss r (if isKnot n mss found s = true then found ++ [s] else found)
theorem isKnot_iff {found : List (List Int)} : isKnot n mss found s = true ↔ closedOf n mss s ≠ s ∧ ∀ q ∈ found, sub q s → sub (closedOf n mss q) s := by
  unfold isKnot
  rw [Bool.and_eq_true, List.all_eq_true]
  constructor
  · rintro ⟨h1, h2⟩
    refine ⟨by simpa using h1, fun q hq hqs => ?_⟩
    have := h2 q hq
    rw [Bool.or_eq_true] at this
    rcases this with e | e
    · have e2 : subB q s = false := by simpa using e
      rw [subB_iff.mpr hqs] at e2
      cases e2
    · exact subB_iff.mp e
  · rintro ⟨h1, h2⟩
    refine ⟨by simpa using h1, fun q hq => ?_⟩
    rw [Bool.or_eq_true]
    by_cases e : sub q s
    · exact .inr (subB_iff.mpr (h2 q hq e))
    · refine .inl ?_
      cases e2 : subB q s with
      | false => rfl
      | true => exact absurd (subB_iff.mp e2) e
/-- what the walk over the sets keeps: pre is behind, post ahead -/
structure Walk (n : Int) (mss pre found : List (List Int)) : Prop where
  sub : found.Sublist pre
  mem : ∀ s ∈ pre, s ∈ found ↔ closedOf n mss s ≠ s ∧ ∀ q ∈ found, Mb.sub q s → q ≠ s → Mb.sub (closedOf n mss q) s
theorem knotsIn_walk : ∀ (post pre found : List (List Int)), (∀ s ∈ pre ++ post, SetIn n s) → (pre ++ post).Pairwise Mb.before → Walk n mss pre found → Walk n mss (pre ++ post) (knotsIn n mss post found)
  | [], pre, found, _, _, w => by rw [List.append_nil]; exact w
  | s :: post, pre, found, hs, hp, w => by
    have e : pre ++ s :: post = (pre ++ [s]) ++ post := by simp
    rw [e] at hs hp ⊢
    refine knotsIn_walk post (pre ++ [s]) _ hs hp ?_
    have hp2 : (pre ++ [s]).Pairwise Mb.before := (List.pairwise_append.mp hp).1
    have bef : ∀ q ∈ pre, Mb.before q s := fun q hq => (List.pairwise_append.mp hp2).2.2 q hq s (List.mem_singleton.mpr rfl)
    have ns : s ∉ pre := fun z => Mb.before_asym s s (bef s z) (bef s z)
    have inS : ∀ q ∈ pre ++ [s], SetIn n q := fun q hq => hs q (List.mem_append.mpr (.inl hq))
    have nf : ∀ q ∈ found, q ≠ s := fun q hq z => ns (by rw [← z]; exact w.sub.subset hq)
    have small : ∀ t ∈ pre, Mb.sub s t → False := fun t ht h => by
      have hl := sub_len (inS s (by simp)) (inS t (by simp [ht])) h
      rcases bef t ht with b | ⟨b1, b2⟩
      · omega
      · have : s = t := Classical.byContradiction fun ne => by
          have := sub_less (inS s (by simp)) (inS t (by simp [ht])) h ne
          omega
        exact ns (by rw [this]; exact ht)
    have kn : isKnot n mss found s = true ↔ closedOf n mss s ≠ s ∧ ∀ q ∈ found, Mb.sub q s → q ≠ s → Mb.sub (closedOf n mss q) s := by
      rw [isKnot_iff]
      exact ⟨fun ⟨h1, h2⟩ => ⟨h1, fun q hq h _ => h2 q hq h⟩, fun ⟨h1, h2⟩ => ⟨h1, fun q hq h => h2 q hq h (nf q hq)⟩⟩
    by_cases c : isKnot n mss found s = true
    · rw [if_pos c]
      refine ⟨w.sub.append (List.Sublist.refl _), fun t ht => ?_⟩
      rcases (List.mem_append).1 ht with z | z
      · have nt : t ≠ s := fun y => ns (by rw [← y]; exact z)
        have m : t ∈ found ++ [s] ↔ t ∈ found := by simp [nt]
        rw [m, w.mem t z]
        refine ⟨fun ⟨h1, h2⟩ => ⟨h1, fun q hq h ne => ?_⟩, fun ⟨h1, h2⟩ => ⟨h1, fun q hq h ne => h2 q (by simp [hq]) h ne⟩⟩
        rcases (List.mem_append).1 hq with y | y
        · exact h2 q y h ne
        · rw [List.mem_singleton.mp y] at h
          exact (small t z h).elim
      · have z' := List.mem_singleton.mp z
        subst z'
        refine ⟨fun _ => ⟨(kn.mp c).1, fun q hq h ne => ?_⟩, fun _ => by simp⟩
        rcases (List.mem_append).1 hq with y | y
        · exact (kn.mp c).2 q y h ne
        · exact absurd (List.mem_singleton.mp y) ne
    · rw [if_neg c]
      refine ⟨w.sub.trans (List.sublist_append_left _ _), fun t ht => ?_⟩
      rcases (List.mem_append).1 ht with z | z
      · exact w.mem t z
      · have z' := List.mem_singleton.mp z
        subst z'
        exact ⟨fun h => absurd (w.sub.subset h) ns, fun h => absurd (kn.mpr h) c⟩
/-- walked over all sets by their size, the knots are found, in order -/
theorem knotsIn_all {sets : List (List Int)} (all : ∀ s, s ∈ sets ↔ SetIn n s) (ord : sets.Pairwise Mb.before) : Knots n mss (knotsIn n mss sets []) ∧ (knotsIn n mss sets []).Pairwise Mb.before := by
  have w := knotsIn_walk (n := n) (mss := mss) sets [] [] (fun s hs => (all s).mp (by simpa using hs)) (by simpa using ord) ⟨List.Sublist.refl _, fun s hs => by cases hs⟩
  rw [List.nil_append] at w
  have p := ord.sublist w.sub
  refine ⟨⟨?_, fun s => ?_⟩, p⟩
  · exact p.imp fun h e => by subst e; exact Mb.before_asym _ _ h h
  · constructor
    · intro h
      exact ⟨(all s).mp (w.sub.subset h), (w.mem s (w.sub.subset h)).mp h⟩
    · rintro ⟨h1, h2⟩
      exact (w.mem s ((all s).mpr h1)).mpr h2
end Mb

namespace Mb
open L2 PySem PySem.Spec PyProof.Rows
/-! ### all_sets tells all sets, in their order -/
theorem subs_mem : ∀ (m lo r : Nat) (l : List Nat), l ∈ MbC.subs lo m r ↔ l.Pairwise (· < ·) ∧ (∀ k ∈ l, lo ≤ k ∧ k < lo + m) ∧ l.length = r
  | m, lo, 0, l => by
    have e : MbC.subs lo m 0 = [[]] := by cases m <;> rfl
    rw [e, List.mem_singleton, List.length_eq_zero_iff]
    constructor
    · rintro rfl
      exact ⟨List.Pairwise.nil, fun k hk => (by cases hk), rfl⟩
    · exact fun h => h.2.2
  | 0, lo, r + 1, l => by
    constructor
    · intro h; cases h
    · rintro ⟨_, h2, h3⟩
      cases l with
      | nil => cases h3
      | cons a t => have := h2 a List.mem_cons_self; omega
  | m + 1, lo, r + 1, l => by
    rw [MbC.subs, List.mem_append, List.mem_map]
    constructor
    · rintro (⟨t, ht, rfl⟩ | h)
      · obtain ⟨h1, h2, h3⟩ := (subs_mem m (lo + 1) r t).mp ht
        refine ⟨List.pairwise_cons.mpr ⟨fun b hb => (h2 b hb).1, h1⟩, fun k hk => ?_, by rw [List.length_cons, h3]⟩
        rcases List.mem_cons.mp hk with rfl | hk
        · omega
        · have := h2 k hk; omega
      · obtain ⟨h1, h2, h3⟩ := (subs_mem m (lo + 1) (r + 1) l).mp h
        exact ⟨h1, fun k hk => by have := h2 k hk; omega, h3⟩
    · rintro ⟨h1, h2, h3⟩
      cases l with
      | nil => cases h3
      | cons a t =>
        obtain ⟨g1, g2⟩ := List.pairwise_cons.mp h1
        have ha := h2 a List.mem_cons_self
        by_cases e : a = lo
        · subst e
          refine .inl ⟨t, (subs_mem m (a + 1) r t).mpr ⟨g2, fun k hk => ?_, by simpa using h3⟩, rfl⟩
          have := g1 k hk
          have := h2 k (List.mem_cons_of_mem _ hk)
          omega
        · refine .inr ((subs_mem m (lo + 1) (r + 1) (a :: t)).mpr ⟨h1, fun k hk => ?_, h3⟩)
          have hk2 := h2 k hk
          rcases List.mem_cons.mp hk with rfl | hk
          · omega
          · have := g1 k hk; omega
theorem subs_ord : ∀ (m lo r : Nat), (MbC.subs lo m r).Pairwise (· < ·)
  | m, lo, 0 => by
    have e : MbC.subs lo m 0 = [[]] := by cases m <;> rfl
    rw [e]
    exact List.pairwise_singleton _ _
  | 0, lo, r + 1 => List.Pairwise.nil
  | m + 1, lo, r + 1 => by
    rw [MbC.subs, List.pairwise_append]
    refine ⟨List.pairwise_map.mpr ((subs_ord m (lo + 1) r).imp fun {a b} h => List.cons_lt_cons_iff.mpr (.inr ⟨rfl, h⟩)), subs_ord m (lo + 1) (r + 1), fun a ha b hb => ?_⟩
    obtain ⟨t, _, rfl⟩ := List.mem_map.mp ha
    obtain ⟨_, h2, h3⟩ := (subs_mem m (lo + 1) (r + 1) b).mp hb
    cases b with
    | nil => cases h3
    | cons c u => exact List.cons_lt_cons_iff.mpr (.inl (by have := h2 c List.mem_cons_self; omega))
theorem up_lt : ∀ {a b : List Nat}, a < b → (a.map fun (k : Nat) => (k : Int)) < (b.map fun (k : Nat) => (k : Int))
  | [], [], h => absurd h (List.lt_irrefl _)
  | [], b :: t, _ => List.nil_lt_cons _ _
  | a :: s, [], h => absurd h (List.not_lt_nil _)
  | a :: s, b :: t, h => by
    simp only [List.map_cons]
    rcases List.cons_lt_cons_iff.mp h with z | ⟨rfl, z⟩
    · exact List.cons_lt_cons_iff.mpr (.inl (by omega))
    · exact List.cons_lt_cons_iff.mpr (.inr ⟨rfl, up_lt z⟩)
theorem szI_mem {n r : Nat} {s : List Int} : s ∈ szI n r ↔ SetIn (n : Int) s ∧ s.length = r := by
  unfold szI
  rw [List.mem_map]
  constructor
  · rintro ⟨l, hl, rfl⟩
    obtain ⟨h1, h2, h3⟩ := (subs_mem n 0 r l).mp hl
    refine ⟨⟨List.pairwise_map.mpr (h1.imp fun {a b} h => by omega), fun k hk => ?_⟩, by rw [List.length_map, h3]⟩
    obtain ⟨j, hj, rfl⟩ := List.mem_map.mp hk
    have := h2 j hj
    omega
  · rintro ⟨⟨h1, h2⟩, h3⟩
    refine ⟨s.map Int.toNat, (subs_mem n 0 r _).mpr ⟨List.pairwise_map.mpr (h1.imp_of_mem fun {a b} ha hb h => ?_), fun k hk => ?_, by rw [List.length_map, h3]⟩, ?_⟩
    · have := h2 a ha; have := h2 b hb; omega
    · obtain ⟨j, hj, rfl⟩ := List.mem_map.mp hk
      have := h2 j hj
      omega
    · rw [List.map_map]
      conv => rhs; rw [← List.map_id s]
      refine List.map_congr_left fun k hk => ?_
      have := h2 k hk
      show ((k.toNat : Nat) : Int) = k
      omega
theorem setsTo_mem {n : Nat} {s : List Int} : ∀ {r : Nat}, s ∈ setsTo n r ↔ SetIn (n : Int) s ∧ s.length < r
  | 0 => by
    constructor
    · intro h; cases h
    · rintro ⟨_, h⟩; omega
  | r + 1 => by
    rw [setsTo, List.mem_append, setsTo_mem, szI_mem]
    constructor
    · rintro (⟨h1, h2⟩ | ⟨h1, h2⟩)
      · exact ⟨h1, by omega⟩
      · exact ⟨h1, by omega⟩
    · rintro ⟨h1, h2⟩
      by_cases e : s.length = r
      · exact .inr ⟨h1, e⟩
      · exact .inl ⟨h1, by omega⟩
theorem sets_all {n : Nat} {s : List Int} : s ∈ setsOf n ↔ SetIn (n : Int) s := by
  unfold setsOf
  rw [setsTo_mem]
  exact ⟨fun h => h.1, fun h => ⟨h, Nat.lt_succ_of_le (rise_short h)⟩⟩
theorem setsTo_ord {n : Nat} : ∀ r : Nat, (setsTo n r).Pairwise before
  | 0 => List.Pairwise.nil
  | r + 1 => by
    rw [setsTo, List.pairwise_append]
    refine ⟨setsTo_ord r, ?_, fun a ha b hb => .inl ?_⟩
    · unfold szI
      refine List.pairwise_map.mpr ((subs_ord n 0 r).imp_of_mem fun {a b} ha hb h => .inr ⟨?_, up_lt h⟩)
      rw [List.length_map, List.length_map, ((subs_mem n 0 r a).mp ha).2.2, ((subs_mem n 0 r b).mp hb).2.2]
    · rw [(szI_mem.mp hb).2]
      exact (setsTo_mem.mp ha).2
theorem sets_ord (n : Nat) : (setsOf n).Pairwise before := setsTo_ord _
theorem sets_few {n : Nat} (hn : n < 9) : (setsOf n).length ≤ 1000 := by
  unfold setsOf
  rw [setsTo, List.length_append, szI_len]
  exact few_sets hn (by omega)
end Mb

namespace Mb
open L2 PySem PySem.Spec PyProof.Rows
/-! ### heaps: what stands at L may be changed too -/
structure Kx (Ts L : List Addr) (H H' : Hp) : Prop where
  t0 : Tabs Ts H
  keep : ∀ b o, b ∉ Ts → b ∉ L → H b = some o → H' b = some o
  live : ∀ b, H' b = none → H b = none
  t1 : Tabs Ts H'
section
variable {Ts L L' : List Addr} {H H1 H2 : Hp} {a b : Addr} {o : HO}
theorem Kp.kx (k : Kp Ts H H1) : Kx Ts L H H1 := ⟨k.t0, fun b o n _ e => k.keep b o n e, fun _ e => k.free e, k.t1⟩
theorem Kx.kp (k : Kx Ts [] H H1) : Kp Ts H H1 := ⟨k.t0, fun b o n e => k.keep b o n (by simp) e, k.t1⟩
theorem Kx.refl (t : Tabs Ts H) : Kx Ts L H H := (Kp.refl t).kx
theorem Kx.trans (x : Kx Ts L H H1) (y : Kx Ts L H1 H2) : Kx Ts L H H2 := ⟨x.t0, fun b o n m e => y.keep b o n m (x.keep b o n m e), fun b e => x.live b (y.live b e), y.t1⟩
theorem Kx.mono (x : Kx Ts L H H1) (h : ∀ b ∈ L, b ∈ L') : Kx Ts L' H H1 := ⟨x.t0, fun b o n m e => x.keep b o n (fun z => m (h b z)) e, x.live, x.t1⟩
theorem Kx.obj (x : Kx Ts L H H1) (h : H a = some o) (n : ∀ ps, o ≠ .tbl ps) (m : a ∉ L) : H1 a = some o := x.keep a o (x.t0.out h n) m h
theorem Kx.lst (x : Kx Ts L H H1) {xs : List V} (h : H a = some (.lst xs)) (m : a ∉ L) : H1 a = some (.lst xs) := x.obj h (fun _ q => by cases q) m
/-- a list at L is stored to -/
theorem Kx.put (x : Kx Ts L H H1) (h : H1 a = some o) (n : ∀ ps, o ≠ .tbl ps) (m : a ∈ L) {u : HO} : Kx Ts L H (upd H1 a u) :=
  ⟨x.t0, fun b o' nb mb e => by rw [upd_ne (fun z => mb (by rw [z]; exact m))]; exact x.keep b o' nb mb e, fun b e => by
    by_cases hb : b = a
    · rw [hb, upd_same] at e; cases e
    · rw [upd_ne hb] at e; exact x.live b e, x.t1.put (x.t1.out h n)⟩
theorem Kx.new (x : Kx Ts L H H1) (h : H1 a = none) : Kx Ts L H (upd H1 a o) :=
  ⟨x.t0, fun b u nb mb e => by rw [upd_ne (ne_of_none (x.keep b u nb mb e) h)]; exact x.keep b u nb mb e, fun b e => by
    by_cases hb : b = a
    · rw [hb, upd_same] at e; cases e
    · rw [upd_ne hb] at e; exact x.live b e, x.t1.put (x.t1.outN h)⟩
theorem Kx.of_same (t : Tabs Ts H) (s : Same H H1) : Kx Ts L H H1 := (Kp.of_same t s).kx
/-- what was changed stands as it was again -/
theorem Kx.back (x : Kx Ts (a :: L) H H1) (h : H a = some o) (h1 : H1 a = some o) : Kx Ts L H H1 := ⟨x.t0, fun b u nb mb e => by
  by_cases hb : b = a
  · rw [hb] at e ⊢
    rw [h] at e
    cases e
    exact h1
  · exact x.keep b u nb (fun z => (List.mem_cons.mp z).elim hb mb) e, x.live, x.t1⟩
end
/-- lists told and their copies, alike, in pairs in the list at sh; none of them at Av -/
structure Shown (Av : List Addr) (H : Hp) (sh : Addr) (c : Nat) : Prop where
  ob : ∃ ts : List Addr, H sh = some (.lst (ts.map V.ref)) ∧ ts.length ≤ c ∧ ∀ t ∈ ts, ∃ (p q : Addr) (ms : List Int), H t = some (.tup [.ref p, .ref q]) ∧ H p = some (.lst (ms.map V.int)) ∧ H q = some (.lst (ms.map V.int)) ∧ p ∉ Av ∧ q ∉ Av ∧ p ≠ sh ∧ q ≠ sh
  out : sh ∉ Av
theorem Shown.kx {Av Ts L : List Addr} {H H1 : Hp} {sh : Addr} {c : Nat} (s : Shown Av H sh c) (k : Kx Ts L H H1) (hL : ∀ b ∈ L, b ∈ Av) (lists : ∀ b ∈ L, ∃ xs, H b = some (.lst xs)) : Shown Av H1 sh c := by
  obtain ⟨ts, h1, h2, h3⟩ := s.ob
  refine ⟨⟨ts, k.lst h1 (fun z => s.out (hL _ z)), h2, fun t ht => ?_⟩, s.out⟩
  obtain ⟨p, q, ms, g1, g2, g3, g4, g5, g6, g7⟩ := h3 t ht
  have nt : t ∉ L := fun z => by
    obtain ⟨xs, e⟩ := lists t z
    rw [g1] at e
    cases e
  exact ⟨p, q, ms, k.obj g1 (fun _ z => by cases z) nt, k.lst g2 (fun z => g4 (hL _ z)), k.lst g3 (fun z => g5 (hL _ z)), g4, g5, g6, g7⟩
theorem Shown.mono {Av : List Addr} {H : Hp} {sh : Addr} {c d : Nat} (s : Shown Av H sh c) (h : c ≤ d) : Shown Av H sh d :=
  ⟨let ⟨ts, h1, h2, h3⟩ := s.ob; ⟨ts, h1, Nat.le_trans h2 h, h3⟩, s.out⟩
/-- a table at x whose own lists are none of Av -/
structure TabAv (C : Addr) (H : Hp) (x : Addr) (n : Int) (mss : List (List Int)) (Av : List Addr) : Prop where
  ob : ∃ (dx r : Addr) (ts : List Addr), H x = some (.ins C dx (tf n r)) ∧ H r = some (.lst (ts.map V.ref)) ∧ RowsAt H ts mss ∧ r ∉ Av ∧ (∀ t ∈ ts, t ∉ Av) ∧ x ∉ Av
  few : mss.length ≤ 12
  lo : 0 ≤ n
  hi : n ≤ 8
  sets : ∀ ms ∈ mss, SetIn n ms
theorem TabAv.at {C : Addr} {H : Hp} {x : Addr} {n : Int} {mss : List (List Int)} {Av : List Addr} (t : TabAv C H x n mss Av) : TabAt C H x n mss :=
  ⟨let ⟨dx, r, ts, h1, h2, h3, _⟩ := t.ob; ⟨dx, r, ts, h1, h2, h3⟩, by have := t.few; omega, t.lo, by have := t.hi; omega, fun ms hm => by
    have s := t.sets ms hm
    have := t.hi
    have q : SetIn ((8 : Nat) : Int) ms := ⟨s.1, fun k hk => by have := s.2 k hk; omega⟩
    have := rise_short q
    omega⟩
theorem TabAv.kx {C : Addr} {Ts L : List Addr} {H H1 : Hp} {x : Addr} {n : Int} {mss : List (List Int)} {Av : List Addr} (t : TabAv C H x n mss Av) (k : Kx Ts L H H1) (hL : ∀ b ∈ L, b ∈ Av) : TabAv C H1 x n mss Av := by
  obtain ⟨dx, r, ts, h1, h2, h3, h4, h5, h6⟩ := t.ob
  refine ⟨⟨dx, r, ts, k.obj h1 (fun _ z => by cases z) (fun z => h6 (hL _ z)), k.lst h2 (fun z => h4 (hL _ z)), ⟨h3.1, fun i b e => ?_⟩, h4, h5, h6⟩, t.few, t.lo, t.hi, t.sets⟩
  obtain ⟨ns, q1, q2⟩ := h3.2 i b e
  exact ⟨ns, q1, k.lst q2 fun z => h5 b (List.mem_of_getElem? e) (hL _ z)⟩
/-- the law's own rows, at l, none of them at Av -/
structure GridAv (H : Hp) (l : Addr) (mss : List (List Int)) (Av : List Addr) : Prop where
  ob : ∃ as : List Addr, H l = some (.lst (as.map V.ref)) ∧ RowsAt H as mss ∧ (∀ a ∈ as, a ∉ Av) ∧ l ∉ Av
theorem GridAv.kx {Ts L : List Addr} {H H1 : Hp} {l : Addr} {mss : List (List Int)} {Av : List Addr} (t : GridAv H l mss Av) (k : Kx Ts L H H1) (hL : ∀ b ∈ L, b ∈ Av) : GridAv H1 l mss Av := by
  obtain ⟨as, h1, h2, h3, h4⟩ := t.ob
  refine ⟨⟨as, k.lst h1 (fun z => h4 (hL _ z)), ⟨h2.1, fun i b e => ?_⟩, h3, h4⟩⟩
  obtain ⟨ns, q1, q2⟩ := h2.2 i b e
  exact ⟨ns, q1, k.lst q2 fun z => h3 b (List.mem_of_getElem? e) (hL _ z)⟩
theorem GridAv.r {K : PySem.W.Frag} {H : Hp} {l : Addr} {mss : List (List Int)} {Av : List Addr} (t : GridAv H l mss Av) : GridR K H l mss := by
  obtain ⟨as, h1, h2, _⟩ := t.ob
  exact GridR.of h1 h2
end Mb

namespace Mb
open L2 PySem PySem.Spec PyProof.Rows
/-- pairs of lists, told anew -/
structure NewPairs (H H' : Hp) (r : Addr) (ps : List (List Int × List Int)) : Prop where
  nr : H r = none
  ob : ∃ ts : List Addr, H' r = some (.lst (ts.map V.ref)) ∧ ts.length = ps.length ∧ ∀ (i : Nat) (t : Addr), ts[i]? = some t → ∃ (p q : Addr) (as bs : List Int), ps[i]? = some (as, bs) ∧ H t = none ∧ H' t = some (.tup [.ref p, .ref q]) ∧ H p = none ∧ H q = none ∧ H' p = some (.lst (as.map V.int)) ∧ H' q = some (.lst (bs.map V.int))
/-- what tells pairs of a table, not too many and not too long -/
def spPairs (C : Addr) (Ts : List Addr) (F : Int → List (List Int) → List (List Int × List Int)) : Sp := fun vs H Q _ => ∃ (x : Addr) (n : Int) (mss : List (List Int)), vs = [.ref x] ∧ TabAv C H x n mss [] ∧ Tabs Ts H ∧ ∀ (H' : Hp) (r : Addr), Kp Ts H H' → NewPairs H H' r (F n mss) → Q (.ref r) H'
def Small (F : Int → List (List Int) → List (List Int × List Int)) : Prop := ∀ n mss, 0 ≤ n → n ≤ 8 → mss.length ≤ 12 → (F n mss).length ≤ 1000 ∧ ∀ p ∈ F n mss, p.1.length ≤ 1000 ∧ p.2.length ≤ 1000
/-- what tells a new list -/
def spList (C : Addr) (Ts : List Addr) : Sp := fun vs H Q _ => ∃ (x : Addr) (n : Int) (mss : List (List Int)), vs = [.ref x] ∧ TabAv C H x n mss [] ∧ n ≤ 5 ∧ Tabs Ts H ∧ ∀ (H' : Hp) (r : Addr) (xs : List V), Kp Ts H H' → H r = none → H' r = some (.lst xs) → Q (.ref r) H'
/-- other answers are asked for ahead: the table stays -/
def spAhead (C : Addr) (Ts : List Addr) : Sp := fun vs H Q _ => ∃ (x : Addr) (z n : Int) (mss : List (List Int)), vs = [.ref x, .int z] ∧ TabAv C H x n mss [] ∧ Tabs Ts H ∧ ∀ H', Kp Ts H H' → Q .non H'
theorem Kx.own {Ts L : List Addr} {H H1 : Hp} {a : Addr} {u : HO} (x : Kx Ts L H H1) (h : H a = none) (m : a ∉ Ts) : Kx Ts L H (upd H1 a u) :=
  ⟨x.t0, fun b o nb mb e => by rw [upd_ne (ne_of_none e h)]; exact x.keep b o nb mb e, fun b e => by
    by_cases hb : b = a
    · rw [hb]; exact h
    · rw [upd_ne hb] at e; exact x.live b e, x.t1.put m⟩
/-- the methods of the table, as the law calls them -/
structure MTxt (P : Program) (w : World) (K : PySem.W.Frag) (mg : Str → Option Value) (base : Heap) (C CM CT : Addr) (Ts : List Addr) : Prop where
  cl : Cls K C
  nM : NoAttr K C "many"
  nR : NoAttr K C "rows"
  wi : ∃ (f : Addr) (fd : FuncData), FnOk P w K mg base (L2.CX P w) 3 f fd ["self", "marks"] (spWith K C CM Ts) ∧ Meth K C "things_with" f ∧ Binds K fd ["self", "marks"] []
  of : ∃ (f : Addr) (fd : FuncData), FnOk P w K mg base (L2.CX P w) 3 f fd ["self", "things"] (spOf K C CT Ts) ∧ Meth K C "marks_of" f ∧ Binds K fd ["self", "things"] []
  cd : ∃ (f : Addr) (fd : FuncData), FnOk P w K mg base (L2.CX P w) 4 f fd ["self", "marks"] (spClosed K C CM Ts) ∧ Meth K C "closed" f ∧ Binds K fd ["self", "marks"] []
/-- the names that _law_ahead wants -/
structure ATxt (mg : Str → Option Value) : Prop where
  list : mg "list" = none
  len : mg "len" = none
  range : mg "range" = none
end Mb

namespace Mb
open L2 PySem PySem.Spec PyProof.Rows
/-! ### pairs of lists, laid one by one; r is the list of them -/
structure PairsIn (H H' : Hp) (r : Addr) (ts : List Addr) (ps : List (List Int × List Int)) : Prop where
  len : ts.length = ps.length
  each : ∀ (i : Nat) (t : Addr), ts[i]? = some t → ∃ (p q : Addr) (as bs : List Int), ps[i]? = some (as, bs) ∧ (H t = none ∧ H p = none ∧ H q = none) ∧ (t ≠ r ∧ p ≠ r ∧ q ≠ r) ∧ H' t = some (.tup [.ref p, .ref q]) ∧ H' p = some (.lst (as.map V.int)) ∧ H' q = some (.lst (bs.map V.int))
section
variable {H H1 H2 : Hp} {r : Addr} {ts : List Addr} {ps : List (List Int × List Int)}
theorem PairsIn.nil : PairsIn H H1 r [] [] := ⟨rfl, fun i t e => by simp at e⟩
theorem PairsIn.kp {Ts : List Addr} (p : PairsIn H H1 r ts ps) (k : Kp Ts H1 H2) : PairsIn H H2 r ts ps := ⟨p.len, fun i t e => by
  obtain ⟨a, b, as, bs, h1, h2, h3, h4, h5, h6⟩ := p.each i t e
  exact ⟨a, b, as, bs, h1, h2, h3, k.obj h4 (fun _ z => by cases z), k.lst h5, k.lst h6⟩⟩
theorem PairsIn.put {o : HO} (p : PairsIn H H1 r ts ps) : PairsIn H (upd H1 r o) r ts ps := ⟨p.len, fun i t e => by
  obtain ⟨a, b, as, bs, h1, h2, h3, h4, h5, h6⟩ := p.each i t e
  exact ⟨a, b, as, bs, h1, h2, h3, by rw [upd_ne h3.1]; exact h4, by rw [upd_ne h3.2.1]; exact h5, by rw [upd_ne h3.2.2]; exact h6⟩⟩
theorem PairsIn.snoc {t a b : Addr} {as bs : List Int} (p : PairsIn H H1 r ts ps) (h2 : H t = none ∧ H a = none ∧ H b = none) (h3 : t ≠ r ∧ a ≠ r ∧ b ≠ r) (h4 : H1 t = some (.tup [.ref a, .ref b])) (h5 : H1 a = some (.lst (as.map V.int))) (h6 : H1 b = some (.lst (bs.map V.int))) :
    PairsIn H H1 r (ts ++ [t]) (ps ++ [(as, bs)]) := by
  refine ⟨by rw [List.length_append, List.length_append, p.len]; rfl, fun i u e => ?_⟩
  by_cases hi : i < ts.length
  · rw [List.getElem?_append_left hi] at e
    obtain ⟨c, d, cs, ds, g1, g⟩ := p.each i u e
    exact ⟨c, d, cs, ds, by rw [List.getElem?_append_left (by rw [← p.len]; exact hi)]; exact g1, g⟩
  · have hi2 : i = ts.length := by
      have := (List.getElem?_eq_some_iff.mp e).1
      rw [List.length_append, List.length_singleton] at this
      omega
    subst hi2
    rw [List.getElem?_append_right (Nat.le_refl _), Nat.sub_self] at e
    obtain rfl : t = u := by simpa using e
    refine ⟨a, b, as, bs, ?_, h2, h3, h4, h5, h6⟩
    rw [p.len, List.getElem?_append_right (Nat.le_refl _), Nat.sub_self]
    rfl
theorem PairsIn.told (p : PairsIn H H1 r ts ps) (hr : H r = none) (h : H1 r = some (.lst (ts.map V.ref))) : NewPairs H H1 r ps := ⟨hr, ts, h, p.len, fun i t e => by
  obtain ⟨a, b, as, bs, h1, ⟨n1, n2, n3⟩, h3, h4, h5, h6⟩ := p.each i t e
  exact ⟨a, b, as, bs, h1, n1, h4, n2, n3, h5, h6⟩⟩
end
/-! ### fewest(table) -/
/-- the rules of all knots, in their order -/
def rulesOf (n : Int) (mss : List (List Int)) : List (List Int × List Int) := (knotsIn n mss (setsOf n.toNat) []).map (ruleOf n mss)
theorem met_rule {n : Int} {mss : List (List Int)} {q s : List Int} : metB (ruleOf n mss q).1 (ruleOf n mss q).2 s = (!subB q s || subB (closedOf n mss q) s) := by
  rw [Bool.eq_iff_iff]
  unfold metB
  simp only [Bool.or_eq_true, Bool.not_eq_true', ← Bool.not_eq_true]
  rw [has_iff, has_iff, subB_iff, subB_iff]
  have m := meets_rule (n := n) (mss := mss) (s := s) (q := q)
  unfold Meets at m
  constructor
  · rintro (h | h)
    · exact .inl h
    · by_cases c : sub q s
      · exact .inr (m.mp (fun _ => h) c)
      · exact .inl c
  · rintro (h | h)
    · exact .inl h
    · by_cases c : sub q s
      · exact .inr (m.mpr (fun _ => h) c)
      · exact .inl c
theorem all_met {n : Int} {mss found : List (List Int)} {s : List Int} : isKnot n mss found s = (!decide (closedOf n mss s = s) && (found.map (ruleOf n mss)).all fun r => metB r.1 r.2 s) := by
  unfold isKnot
  rw [List.all_map]
  congr 1
  refine congrArg (fun f => found.all f) (funext fun q => ?_)
  exact met_rule.symm
theorem knotsIn_sub {n : Int} {mss : List (List Int)} : ∀ (ss found : List (List Int)), (knotsIn n mss ss found).length ≤ ss.length + found.length ∧ ∀ q ∈ knotsIn n mss ss found, q ∈ ss ∨ q ∈ found
  | [], found => ⟨by rw [knotsIn, List.length_nil, Nat.zero_add]; exact Nat.le_refl _, fun q hq => .inr hq⟩
  | s :: r, found => by
    rw [knotsIn]
    obtain ⟨h1, h2⟩ := knotsIn_sub r (if isKnot n mss found s = true then found ++ [s] else found)
    refine ⟨Nat.le_trans h1 ?_, fun q hq => ?_⟩
    · rw [List.length_cons]
      split
      · simp only [List.length_append, List.length_singleton]; omega
      · omega
    · rcases h2 q hq with z | z
      · exact .inl (List.mem_cons_of_mem _ z)
      · split at z
        · rcases (List.mem_append).1 z with z | z
          · exact .inr z
          · rw [List.mem_singleton.mp z]; exact .inl List.mem_cons_self
        · exact .inr z
theorem set_short {n : Int} {s : List Int} (h0 : 0 ≤ n) (h8 : n ≤ 8) (h : SetIn n s) : s.length ≤ 8 := by
  rcases Int.eq_ofNat_of_zero_le h0 with ⟨m, rfl⟩
  have := rise_short h
  omega
theorem rules_small : Small rulesOf := fun n mss h0 h8 _ => by
  rcases Int.eq_ofNat_of_zero_le h0 with ⟨m, rfl⟩
  have few := sets_few (n := m) (by omega)
  obtain ⟨h1, h2⟩ := knotsIn_sub (n := m) (mss := mss) (setsOf m) []
  unfold rulesOf
  rw [Int.toNat_natCast]
  refine ⟨by rw [List.length_map]; rw [List.length_nil] at h1; omega, fun p hp => ?_⟩
  rcases (List.mem_map).1 hp with ⟨q, hq, rfl⟩
  have hs : q ∈ setsOf m := (h2 q hq).elim id fun z => by cases z
  have l1 := set_short h0 h8 (sets_all.mp hs)
  have l2 := set_short h0 h8 (closed_set (n := m) (mss := mss) (a := q))
  refine ⟨by show q.length ≤ 1000; omega, ?_⟩
  have l3 : (lacking (closedOf m mss q) q).length ≤ (closedOf m mss q).length := List.length_filter_le _ _
  show (lacking (closedOf m mss q) q).length ≤ 1000
  omega
section
variable {P : Program} {w : World} {K : PySem.W.Frag} {mg : Str → Option Value} {base : Heap} {C CS CM CT : Addr}
theorem room_gx {k : Nat} {A : Around} {env : Env} (r : Room (k + 1) A) : Room k (A.in1.in1.deeper env) :=
  ⟨r.hd, by have := r.dp; show A.depth + 1 + 3 * k + 5 < _; omega, by have := r.un; show A.units + 1 + 1 + 3 + 16 * k + 200 < _; omega⟩
abbrev nFewest : List Str := ["table", "rules", "marks", "closure"]
theorem scFewest : FnScope nFewest ["table"] (defScope s_fewest) := ⟨rfl, rfl, rfl, by decide +kernel, rfl, by decide +kernel, by decide +kernel⟩
theorem ok_fewest {f c Pt fA fM fW fC : Addr} {fd fdA fdM fdW fdC : FuncData} {Ts : List Addr} {kP : Nat} (h4 : 4 ≤ kP) (F : FunC K "fewest" "fewest" s_fewest f fd c) (TB : GxR.TabB base mg c Pt) (hPt : Pt ∈ Ts) (all : mg "all" = none) (cl : Cls K C) (nM : NoAttr K C "many")
    (GA : FnOk P w K mg base CX0 1 fA fdA ["many"] spSets) (gA : mg "all_sets" = some (.ref fA)) (kA : PySem.W.keepIn K (.ref fA) = true) (bA : Binds K fdA ["many"] [])
    (GC : FnOk P w K mg base (L2.CX P w) 4 fC fdC ["self", "marks"] (spClosed K C CM Ts)) (mC : Meth K C "closed" fC) (bC : Binds K fdC ["self", "marks"] [])
    (GM : FnOk P w K mg base CX0 2 fM fdM ["rule", "marks"] (spMet K Ts)) (gM : mg "met" = some (.ref fM)) (kM : PySem.W.keepIn K (.ref fM) = true) (bM : Binds K fdM ["rule", "marks"] [])
    (GW : FnOk P w K mg base CX0 1 fW fdW ["one", "other"] (spWithout K)) (gW : mg "without" = some (.ref fW)) (kW : PySem.W.keepIn K (.ref fW) = true) (bW : Binds K fdW ["one", "other"] []) :
    FnOk P w K mg base CX0 (kP + 1) f fd ["table"] (spPairs C Ts rulesOf) := by
  refine F.ok scFewest (fun vs H Q E h => ?_) (fun A outer s H vs Q E hr h => ?_)
  · obtain ⟨x, n, mss, rfl, _⟩ := h
    rfl
  · obtain ⟨x, n, mss, rfl, tab, tb, k⟩ := h
    have hr4 : Room 4 _ := hr.mono h4
    have hr3 : Room 3 _ := hr.mono (by omega)
    have hr1 : Room 1 _ := hr.mono (by omega)
    refine ⟨_, pss_cons (ps_set (i := 1) scFewest.nd rfl (Or.inl rfl) (pe_lst pa_nil))
      (pss_cons (ps_for PassesOwn.never rfl (pi_list (pe_call GA hr1 (by rfl) gA kA bA .nil pass0 (pa_cons (pe_fld (pv 0) rfl) pa_nil))) (pg_name (i := 2) scFewest.nd rfl (Or.inr rfl))
        (pss_cons (ps_set (i := 3) scFewest.nd rfl (Or.inl rfl) (pe_meth (pv 0) cl mC GC hr4 bC .nil passL (pa_cons (pv 2) pa_nil)))
        (pss_one (ps_if (PW.pt (pw_and (pt_cmpR (op_neD hr.units) (pv 3) (pv 2) (nomark _)) (pw_and1 (pt_val (MbX.pe_allC (x := "rule") (caps := [("marks", 2)]) hr3 (by rfl) all TB rfl (MbX.genN_by (sc := defScope s_fewest) rfl (by decide +kernel)) ⟨fun p hp => by rw [List.mem_singleton.mp hp]; exact ⟨rfl, .inl rfl, by decide +kernel⟩, by decide +kernel⟩ (by decide) (pi_list (pv 1))
              (fun code fp s H => pe_call GM (room_gx hr3) (by rfl) gM kM bM .nil pass0 (pa_cons (pv 0) (pa_cons (pv 1) pa_nil))) (by intro _; rfl))))))
          (pss_one (ps_expr (pe_bm PySem.F.plainAttrs_list PySem.F.slot_list_append PySem.F.type_list_append mt_append (pv 1) (pa_cons (pe_tup (pa_cons (pv 2) (pa_cons (pe_call GW hr1 (by rfl) gW kW bW .nil pass0 (pa_cons (pv 3) (pa_cons (pv 2) pa_nil))) pa_nil))) pa_nil)))) pss_nil))))
      (pss_one (ps_ret (pv 1)))), ?_⟩
    obtain ⟨m, rfl⟩ := Int.eq_ofNat_of_zero_le tab.lo
    have m9 : m < 9 := by have := tab.hi; omega
    have tat : TabAt C H x m mss := tab.at
    obtain ⟨dx, r, us, hx, hr0, hT, _⟩ := tab.ob
    have few := sets_few m9
    refine ⟨Nat.zero_le _, fun R hR => ?_⟩
    have kpR : Kp Ts H (upd H R (.lst [])) := (Kp.refl tb).new hR
    have RT : R ∉ Ts := tb.outN hR
    refine ⟨_, rfl, x, C, dx, _, _, rfl, kpR.ins hx, cl, nM, tf_many _ _, m, rfl, m9, fun H1 l as N => ?_⟩
    have lR : l ≠ R := fun z => by have := N.nl; rw [z, upd_same] at this; cases this
    have asR : ∀ a ∈ as, H a = none ∧ a ≠ R := fun a ha => by
      have q := (N.new a ha).1
      have ne : a ≠ R := fun z => by rw [z, upd_same] at q; cases q
      rw [upd_ne ne] at q
      exact ⟨q, ne⟩
    have kp1 : Kp Ts H H1 := kpR.trans (Kp.of_same kpR.t1 N.same)
    have al : as.length = (setsOf m).length := N.rows.1
    refine ⟨l, rfl, ⟨_, SqL.of N.lst⟩, for_list (K := K) (a := l) (xs := as.map V.ref) (fun i σ H' => ∃ (v2 v3 : Option V) (ts : List Addr) (found : List (List Int)), σ = [some (.ref x), some (.ref R), v2, v3] ∧ Kp Ts H H' ∧ H' l = some (.lst (as.map V.ref)) ∧ RowsAt H' as (setsOf m) ∧
        H' R = some (.lst (ts.map V.ref)) ∧ PairsIn H H' R ts (found.map (ruleOf m mss)) ∧ knotsIn m mss ((setsOf m).drop i) found = knotsIn m mss (setsOf m) [] ∧ found.length ≤ i)
      ⟨none, none, [], [], rfl, kp1, N.lst, N.rows, N.same _ _ upd_same, PairsIn.nil, rfl, Nat.le_refl _⟩ (fun i σ H' _ ⟨_, _, _, _, _, _, w, _⟩ => SqL.of w) ?_ ?_⟩
    · rintro i y σ H2 hy ⟨v2, v3, ts, found, rfl, kp2, hl2, rows2, hR2, P2, run, small⟩
      obtain ⟨a, ha, rfl⟩ := ref_at hy
      obtain ⟨s, hs, hA⟩ := rows2.2 i a ha
      have i1 : i < (setsOf m).length := (List.getElem?_eq_some_iff.mp hs).1
      have hs2 : (setsOf m)[i] = s := (List.getElem?_eq_some_iff.mp hs).2
      have set : SetIn (m : Int) s := sets_all.mp (List.mem_of_getElem? hs)
      have ok : okRow m s = true := okRow_iff.mpr set.2
      rw [List.drop_eq_getElem_cons i1, hs2] at run
      have no : (tf (m : Int) r).lookup ("closed" : Str) = none := tf_no (by decide +kernel) (by decide +kernel)
      refine ⟨_, rfl, x, dx, _, rfl, kp2.ins hx, no, _, rfl, x, a, m, mss, s, rfl, tat.kp kp2, SqL.of hA, kp2.t1, fun w => ?_, fun _ H3 p kp3 np hp => ?_⟩
      · rw [ok] at w; cases w
      have same : ∀ H4, Kp Ts H3 H4 → isKnot m mss found s = false → ∃ (v2 v3 : Option V) (ts : List Addr) (found : List (List Int)), [some (V.ref x), some (.ref R), some (.ref a), some (.ref p)] = [some (.ref x), some (.ref R), v2, v3] ∧ Kp Ts H H4 ∧ H4 l = some (.lst (as.map V.ref)) ∧ RowsAt H4 as (setsOf m) ∧
          H4 R = some (.lst (ts.map V.ref)) ∧ PairsIn H H4 R ts (found.map (ruleOf m mss)) ∧ knotsIn m mss ((setsOf m).drop (i + 1)) found = knotsIn m mss (setsOf m) [] ∧ found.length ≤ i + 1 := fun H4 kp4 e => by
        have k34 := kp3.trans kp4
        refine ⟨_, _, ts, found, rfl, kp2.trans k34, k34.lst hl2, rows2.kp k34, k34.lst hR2, P2.kp k34, ?_, by omega⟩
        rw [knotsIn, e, if_neg Bool.false_ne_true] at run
        exact run
      refine ⟨_, rfl, _, rfl, rowD (closedOf m mss s), rowD s, .lst (SqL.of hp) (dpInts _), .lst (SqL.of (kp3.lst hA)) (dpInts _), shInts _, shInts _, _, rfl, ?_⟩
      rw [eqv_row]
      cases ne : decide (closedOf m mss s = s) with
      | true => exact iteF (iteF (same H3 (Kp.refl kp3.t1) (by rw [all_met, ne]; rfl)))
      | false =>
        refine iteT ?_
        have P3 := P2.kp kp3
        have hR3 := kp3.lst hR2
        have hA3 := kp3.lst hA
        refine ⟨_, rfl, R, rfl, ⟨_, SqL.of hR3⟩, kp3.t1 Pt hPt, fun H4 g => ?_⟩
        have kp4 : Kp Ts H3 H4 := Kp.grown kp3.t1 hPt g
        refine ⟨(ts.map V.ref).length, fun j H5 => Kp Ts H3 H5 ∧ ∀ q ∈ found.take j, metB (ruleOf m mss q).1 (ruleOf m mss q).2 s = true, ⟨kp4, fun q hq => by cases hq⟩, MbX.plan_by (walk_list (K := K) (a := R) (xs := ts.map V.ref)) (fun j H5 _ z => SqL.of (z.1.lst hR3)) ?_, ?_⟩
        · rintro j y H5 H6 hj ⟨kp5, so⟩ ⟨rfl, hy5⟩
          obtain ⟨t, ht, rfl⟩ := ref_at hy5
          obtain ⟨p5, q5, as5, bs5, e5, _, _, hT5, hP5, hQ5⟩ := (P3.kp kp5).each j t ht
          rw [List.getElem?_map] at e5
          obtain ⟨kn, ek, er⟩ := Option.map_eq_some_iff.mp e5
          refine ⟨_, rfl, _, rfl, t, p5, q5, a, as5, bs5, s, rfl, SqT.of hT5, SqL.of hP5, SqL.of hQ5, SqL.of (kp5.lst hA3), kp5.t1, fun H7 kp7 => ⟨_, rfl, ?_⟩⟩
          have em : metB as5 bs5 s = metB (ruleOf m mss kn).1 (ruleOf m mss kn).2 s := by rw [er]
          rw [em]
          cases c5 : metB (ruleOf m mss kn).1 (ruleOf m mss kn).2 s with
          | true =>
            refine iteT ⟨kp5.trans kp7, fun q hq => ?_⟩
            rw [List.take_add_one, ek] at hq
            rcases (List.mem_append).1 hq with z | z
            · exact so q z
            · rw [List.mem_singleton.mp z]; exact c5
          | false =>
            refine iteF ⟨_, rfl, iteF (same H7 (kp5.trans kp7) ?_)⟩
            rw [all_met, ne]
            show ((found.map (ruleOf m mss)).all fun r => metB r.1 r.2 s) = false
            rw [List.all_eq_false]
            exact ⟨_, List.mem_map.mpr ⟨kn, List.mem_of_getElem? ek, rfl⟩, by rw [c5]; exact Bool.false_ne_true⟩
        · rintro H5 ⟨kp5, so⟩
          refine ⟨_, rfl, iteT ?_⟩
          have knot : isKnot m mss found s = true := by
            rw [all_met, ne]
            show ((found.map (ruleOf m mss)).all fun r => metB r.1 r.2 s) = true
            rw [List.all_eq_true]
            intro r hr
            obtain ⟨q, hq, rfl⟩ := List.mem_map.mp hr
            refine so q ?_
            rw [List.length_map, P3.len, List.length_map, List.take_length]
            exact hq
          rw [knotsIn, knot, if_pos rfl] at run
          have kp15 := (kp2.trans kp3).trans kp5
          have cl8 := rise_short (closed_set (n := m) (mss := mss) (a := s))
          refine ⟨_, rfl, .inl ⟨rfl, _, SqL.of (kp5.lst hR3)⟩, _, rfl, _, rfl, _, rfl, p, a, _, s, rfl, SqL.of (kp5.lst hp), SqL.of (kp5.lst hA3), by omega, fun H6 q6 s6 nq hq6 => ⟨(by show 2 ≤ sizeLine; decide), fun t ht => ?_⟩⟩
          have R6 := s6 _ _ (kp5.lst hR3)
          have tl : ts.length ≤ i := by rw [P3.len, List.length_map]; exact small
          have tR : t ≠ R := ne_of_none R6 ht |>.symm
          refine ⟨R, _, _, rfl, rfl, by rw [upd_ne (Ne.symm tR)]; exact R6, by rw [List.length_map, sizeLine_eq]; omega, ?_⟩
          have kp6 : Kp Ts H5 H6 := Kp.of_same kp5.t1 s6
          have kp7 : Kp Ts H5 (upd H6 t (.tup [.ref a, .ref q6])) := kp6.new ht
          have q6t : q6 ≠ t := ne_of_none hq6 ht
          have hq7 : (upd H6 t (.tup [.ref a, .ref q6])) q6 = some (.lst ((lacking (closedOf m mss s) s).map V.int)) := by rw [upd_ne q6t]; exact hq6
          have ha7 := (kp5.trans kp7).lst hA3
          have k37 := kp5.trans kp7
          have P7 := (P3.kp k37).snoc (t := t) (a := a) (b := q6) (as := s) (bs := lacking (closedOf m mss s) s) ⟨(kp15.trans kp6).free ht, (asR a (List.mem_of_getElem? ha)).1, kp15.free nq⟩
            ⟨tR, (asR a (List.mem_of_getElem? ha)).2, fun z => by rw [z, kp5.lst hR3] at nq; cases nq⟩ upd_same ha7 hq7
          refine ⟨_, _, ts ++ [t], found ++ [s], rfl, (kp15.trans kp7).own hR RT, ?_, ?_, ?_, ?_, run, ?_⟩
          · rw [upd_ne lR]; exact k37.lst (kp3.lst hl2)
          · refine ⟨rows2.1, fun j b e => ?_⟩
            obtain ⟨ms, h1, h2⟩ := rows2.2 j b e
            exact ⟨ms, h1, by rw [upd_ne (asR b (List.mem_of_getElem? e)).2]; exact k37.lst (kp3.lst h2)⟩
          · rw [upd_same, List.map_append]; rfl
          · rw [List.map_append]
            exact P7.put
          · simp only [List.length_append, List.length_singleton]; omega
    · rintro σ H2 ⟨v2, v3, ts, found, rfl, kp2, hl2, rows2, hR2, P2, run, small⟩
      rw [List.length_map, al, List.drop_length] at run
      refine ⟨_, rfl, k H2 R kp2 (PairsIn.told ?_ hR hR2)⟩
      have e : rulesOf m mss = found.map (ruleOf m mss) := by
        unfold rulesOf
        rw [Int.toNat_natCast, ← run]
        rfl
      rw [e]
      exact P2
end
end Mb

namespace Mb
open L2 PySem PySem.Spec PyProof.Rows
/-- told pairs, listed at l -/
def PairsR (K : PySem.W.Frag) (H : Hp) (l : Addr) (ps : List (List Int × List Int)) : Prop := ∃ ts : List Addr, SqL K H l (ts.map V.ref) ∧ ts.length = ps.length ∧ ∀ (i : Nat) (t : Addr), ts[i]? = some t → ∃ (p q : Addr) (as bs : List Int), ps[i]? = some (as, bs) ∧ SqT K H t [.ref p, .ref q] ∧ SqL K H p (as.map V.int) ∧ SqL K H q (bs.map V.int)
section
variable {K : PySem.W.Frag}
theorem sqt_kp {Ts : List Addr} {H H1 : Hp} {a : Addr} {xs : List V} (k : Kp Ts H H1) (h : SqT K H a xs) : SqT K H1 a xs := by
  obtain (h | ⟨o, h⟩) | h := h
  · exact .inl (.inl (k.obj h fun _ q => by cases q))
  · exact .inl (.inr ⟨o, k.obj h fun _ q => by cases q⟩)
  · exact .inr h
theorem PairsR.kp {Ts : List Addr} {H H1 : Hp} {l : Addr} {ps : List (List Int × List Int)} (p : PairsR K H l ps) (k : Kp Ts H H1) : PairsR K H1 l ps := by
  obtain ⟨ts, h1, h2, h3⟩ := p
  refine ⟨ts, k.seq h1, h2, fun i t e => ?_⟩
  obtain ⟨a, b, as, bs, g1, g2, g3, g4⟩ := h3 i t e
  exact ⟨a, b, as, bs, g1, sqt_kp k g2, k.seq g3, k.seq g4⟩
theorem NewPairs.r {H H1 : Hp} {l : Addr} {ps : List (List Int × List Int)} (p : NewPairs H H1 l ps) : PairsR K H1 l ps := by
  obtain ⟨ts, h1, h2, h3⟩ := p.ob
  refine ⟨ts, SqL.of h1, h2, fun i t e => ?_⟩
  obtain ⟨a, b, as, bs, g1, _, g2, _, _, g3, g4⟩ := h3 i t e
  exact ⟨a, b, as, bs, g1, SqT.of g2, SqL.of g3, SqL.of g4⟩
end
end Mb

namespace Mb
open L2 PySem PySem.Spec PyProof.Rows
/-! ### pairs of rows, and lists of them, as data -/
abbrev pairD (p : List Int × List Int) : PyData := .tuple [rowD p.1, rowD p.2]
abbrev pairsD (ps : List (List Int × List Int)) : PyData := .list (ps.map pairD)
theorem layPair (p : List Int × List Int) : PyData.canLay0 (pairD p) = true ∧ PyData.depth (pairD p) = 2 := by
  obtain ⟨h1, h2⟩ := layInts p.1
  obtain ⟨g1, g2⟩ := layInts p.2
  refine ⟨?_, ?_⟩
  · show (PyData.canLayAll0 (p.1.map PyData.int) && (PyData.canLayAll0 (p.2.map PyData.int) && PyData.canLayAll0 [])) = true
    rw [h1, g1]; rfl
  · show max (PyData.depthAll (p.1.map PyData.int) + 1) (max (PyData.depthAll (p.2.map PyData.int) + 1) (PyData.depthAll [])) + 1 = 2
    rw [h2, g2]; rfl
theorem shPair (p : List Int × List Int) : SeqAt.shaped (pairD p) = true := by
  obtain ⟨h1, h2⟩ := layPair p
  show (PyData.canLay0 (pairD p) && decide (PyData.depth (pairD p) ≤ 64)) = true
  rw [h1, h2]; rfl
theorem layPairs : ∀ ps : List (List Int × List Int), PyData.canLayAll0 (ps.map pairD) = true ∧ PyData.depthAll (ps.map pairD) ≤ 2
  | [] => ⟨rfl, Nat.zero_le _⟩
  | p :: r => by
    obtain ⟨h1, h2⟩ := layPairs r
    obtain ⟨k1, k2⟩ := layPair p
    refine ⟨?_, ?_⟩
    · show (PyData.canLay0 (pairD p) && PyData.canLayAll0 (r.map pairD)) = true
      rw [h1, k1]; rfl
    · show max (PyData.depth (pairD p)) (PyData.depthAll (r.map pairD)) ≤ 2
      rw [k2]
      omega
theorem shPairs (ps : List (List Int × List Int)) : SeqAt.shaped (pairsD ps) = true := by
  obtain ⟨h1, h2⟩ := layPairs ps
  show (PyData.canLayAll0 (ps.map pairD) && decide (PyData.depthAll (ps.map pairD) + 1 ≤ 64)) = true
  rw [h1, decide_eq_true (by omega)]; rfl
theorem eqv_pair (p q : List Int × List Int) : PyData.eqv (pairD p) (pairD q) = decide (p = q) := by
  show (PyData.eqvAll (p.1.map PyData.int) (q.1.map PyData.int) && (PyData.eqvAll (p.2.map PyData.int) (q.2.map PyData.int) && true)) = _
  rw [eqInts, eqInts, Bool.and_true]
  rw [Bool.eq_iff_iff, Bool.and_eq_true, decide_eq_true_eq, decide_eq_true_eq, decide_eq_true_eq]
  exact ⟨fun h => Prod.ext h.1 h.2, fun h => by rw [h]; exact ⟨rfl, rfl⟩⟩
theorem eqPairs : ∀ ps qs : List (List Int × List Int), PyData.eqvAll (ps.map pairD) (qs.map pairD) = decide (ps = qs)
  | [], [] => rfl
  | [], _ :: _ => rfl
  | _ :: _, [] => rfl
  | p :: r, q :: t => by
    show (PyData.eqv (pairD p) (pairD q) && PyData.eqvAll (r.map pairD) (t.map pairD)) = _
    rw [eqPairs r t, eqv_pair]
    by_cases h : p = q
    · subst h; simp
    · simp [h]
theorem eqv_pairs (ps qs : List (List Int × List Int)) : PyData.eqv (pairsD ps) (pairsD qs) = decide (ps = qs) := eqPairs ps qs
section
variable {K : PySem.W.Frag} {H : Hp}
theorem dpPair {t p q : Addr} {as bs : List Int} (hT : SqT K H t [.ref p, .ref q]) (hA : SqL K H p (as.map V.int)) (hB : SqL K H q (bs.map V.int)) : Dp K H (.ref t) (pairD (as, bs)) :=
  .tup hT (.cons (.lst hA (dpInts as)) (.cons (.lst hB (dpInts bs)) .nil))
theorem dpPairAll : ∀ (ts : List Addr) (ps : List (List Int × List Int)), ts.length = ps.length → (∀ (i : Nat) (t : Addr), ts[i]? = some t → ∃ (p q : Addr) (as bs : List Int), ps[i]? = some (as, bs) ∧ SqT K H t [.ref p, .ref q] ∧ SqL K H p (as.map V.int) ∧ SqL K H q (bs.map V.int)) → DpAll K H (ts.map V.ref) (ps.map pairD)
  | [], [], _, _ => .nil
  | [], _ :: _, e, _ => by simp at e
  | _ :: _, [], e, _ => by simp at e
  | t :: ts, p :: ps, e, h => by
    obtain ⟨a, b, as, bs, e2, h1, h2, h3⟩ := h 0 t rfl
    obtain rfl : p = (as, bs) := by simpa using e2
    exact .cons (dpPair h1 h2 h3) (dpPairAll ts ps (by simpa using e) fun i u q => by simpa using h (i + 1) u (by simpa using q))
theorem dpPairs {l : Addr} {ps : List (List Int × List Int)} (h : PairsR K H l ps) : Dp K H (.ref l) (pairsD ps) := by
  obtain ⟨ts, h1, h2, h3⟩ := h
  exact .lst h1 (dpPairAll ts ps h2 h3)
theorem dpRowAll : ∀ (as : List Addr) (nss : List (List Int)), as.length = nss.length → (∀ (i : Nat) (a : Addr), as[i]? = some a → ∃ ns, nss[i]? = some ns ∧ SqL K H a (ns.map V.int)) → DpAll K H (as.map V.ref) (nss.map fun ns => .list (ns.map PyData.int))
  | [], [], _, _ => .nil
  | [], _ :: _, e, _ => by simp at e
  | _ :: _, [], e, _ => by simp at e
  | a :: as, ns :: nss, e, h => by
    obtain ⟨ms, e2, h1⟩ := h 0 a rfl
    obtain rfl : ns = ms := by simpa using e2
    exact .cons (.lst h1 (dpInts ns)) (dpRowAll as nss (by simpa using e) fun i u q => by simpa using h (i + 1) u (by simpa using q))
theorem dpGridR {l : Addr} {nss : List (List Int)} (h : GridR K H l nss) : Dp K H (.ref l) (gridD nss) := by
  obtain ⟨as, h1, h2, h3⟩ := h
  exact .lst h1 (dpRowAll as nss h2 h3)
/-- rows that may be read, at cs -/
structure RowsQ (K : PySem.W.Frag) (H : Hp) (cs : List Addr) (nss : List (List Int)) : Prop where
  len : cs.length = nss.length
  each : ∀ (i : Nat) (a : Addr), cs[i]? = some a → ∃ ns : List Int, nss[i]? = some ns ∧ SqL K H a (ns.map V.int)
theorem RowsQ.nil : RowsQ K H [] [] := ⟨rfl, fun i a e => by simp at e⟩
theorem RowsQ.same {H1 : Hp} {cs : List Addr} {nss : List (List Int)} (r : RowsQ K H cs nss) (s : Same H H1) : RowsQ K H1 cs nss := ⟨r.len, fun i a e => let ⟨ns, h1, h2⟩ := r.each i a e; ⟨ns, h1, s.seq h2⟩⟩
theorem RowsQ.snoc {cs : List Addr} {nss : List (List Int)} {a : Addr} {ns : List Int} (r : RowsQ K H cs nss) (h : SqL K H a (ns.map V.int)) : RowsQ K H (cs ++ [a]) (nss ++ [ns]) := by
  refine ⟨by rw [List.length_append, List.length_append, r.len]; rfl, fun i b e => ?_⟩
  by_cases hi : i < cs.length
  · rw [List.getElem?_append_left hi] at e
    obtain ⟨ms, h1, h2⟩ := r.each i b e
    exact ⟨ms, by rw [List.getElem?_append_left (by rw [← r.len]; exact hi)]; exact h1, h2⟩
  · have hi2 : i = cs.length := by
      have := (List.getElem?_eq_some_iff.mp e).1
      rw [List.length_append, List.length_singleton] at this
      omega
    subst hi2
    rw [List.getElem?_append_right (Nat.le_refl _), Nat.sub_self] at e
    obtain rfl : a = b := by simpa using e
    refine ⟨ns, ?_, h⟩
    rw [r.len, List.getElem?_append_right (Nat.le_refl _), Nat.sub_self]
    rfl
theorem RowsQ.dp {cs : List Addr} {nss : List (List Int)} {l : Addr} (r : RowsQ K H cs nss) (h : H l = some (.lst (cs.map V.ref))) : Dp K H (.ref l) (gridD nss) := .lst (SqL.of h) (dpRowAll cs nss r.len r.each)
/-- rules that may be read, at cs -/
structure PairsQ (K : PySem.W.Frag) (H : Hp) (cs : List Addr) (ps : List (List Int × List Int)) : Prop where
  len : cs.length = ps.length
  each : ∀ (i : Nat) (t : Addr), cs[i]? = some t → ∃ (p q : Addr) (as bs : List Int), ps[i]? = some (as, bs) ∧ SqT K H t [.ref p, .ref q] ∧ SqL K H p (as.map V.int) ∧ SqL K H q (bs.map V.int)
theorem same_tup {H1 : Hp} {a : Addr} {xs : List V} (s : Same H H1) (h : SqT K H a xs) : SqT K H1 a xs := by
  obtain (h | ⟨o, h⟩) | h := h
  · exact .inl (.inl (s _ _ h))
  · exact .inl (.inr ⟨o, s _ _ h⟩)
  · exact .inr h
theorem PairsQ.nil : PairsQ K H [] [] := ⟨rfl, fun i a e => by simp at e⟩
theorem PairsQ.same {H1 : Hp} {cs : List Addr} {ps : List (List Int × List Int)} (r : PairsQ K H cs ps) (s : Same H H1) : PairsQ K H1 cs ps := ⟨r.len, fun i a e => by
  obtain ⟨p, q, as, bs, h1, h2, h3, h4⟩ := r.each i a e
  exact ⟨p, q, as, bs, h1, same_tup s h2, s.seq h3, s.seq h4⟩⟩
theorem PairsQ.snoc {cs : List Addr} {ps : List (List Int × List Int)} {t p q : Addr} {as bs : List Int} (r : PairsQ K H cs ps) (h1 : SqT K H t [.ref p, .ref q]) (h2 : SqL K H p (as.map V.int)) (h3 : SqL K H q (bs.map V.int)) : PairsQ K H (cs ++ [t]) (ps ++ [(as, bs)]) := by
  refine ⟨by rw [List.length_append, List.length_append, r.len]; rfl, fun i b e => ?_⟩
  by_cases hi : i < cs.length
  · rw [List.getElem?_append_left hi] at e
    obtain ⟨p', q', as', bs', g1, g⟩ := r.each i b e
    exact ⟨p', q', as', bs', by rw [List.getElem?_append_left (by rw [← r.len]; exact hi)]; exact g1, g⟩
  · have hi2 : i = cs.length := by
      have := (List.getElem?_eq_some_iff.mp e).1
      rw [List.length_append, List.length_singleton] at this
      omega
    subst hi2
    rw [List.getElem?_append_right (Nat.le_refl _), Nat.sub_self] at e
    obtain rfl : t = b := by simpa using e
    refine ⟨p, q, as, bs, ?_, h1, h2, h3⟩
    rw [r.len, List.getElem?_append_right (Nat.le_refl _), Nat.sub_self]
    rfl
theorem PairsQ.dp {cs : List Addr} {ps : List (List Int × List Int)} {l : Addr} (r : PairsQ K H cs ps) (h : H l = some (.lst (cs.map V.ref))) : Dp K H (.ref l) (pairsD ps) := .lst (SqL.of h) (dpPairAll cs ps r.len r.each)
theorem PairsR.same {H1 : Hp} {l : Addr} {ps : List (List Int × List Int)} (r : PairsR K H l ps) (s : Same H H1) : PairsR K H1 l ps := by
  obtain ⟨ts, h1, h2, h3⟩ := r
  refine ⟨ts, s.seq h1, h2, fun i t e => ?_⟩
  obtain ⟨p, q, as, bs, g1, g2, g3, g4⟩ := h3 i t e
  exact ⟨p, q, as, bs, g1, same_tup s g2, s.seq g3, s.seq g4⟩
end
end Mb

namespace Mb
open L2 PySem PySem.Spec PyProof.Rows
/-! ### order of rows; a row among rows -/
open PySem.W in
theorem ints_alike : ∀ ns ms : List Int, alikeAll (ns.map PyData.int) (ms.map PyData.int) = true
  | [], _ => by simp [alikeAll]
  | n :: ns, [] => by simp [alikeAll]
  | n :: ns, m :: ms => by
    show alikeAll (.int n :: ns.map PyData.int) (.int m :: ms.map PyData.int) = true
    rw [alikeAll, ints_alike ns ms]
    simp [alike]
open PySem.W in
theorem row_alike (ns ms : List Int) : alike (rowD ns) (rowD ms) = true := by
  show alike (.list _) (.list _) = true
  rw [alike]
  exact ints_alike ns ms
open PySem.W in
theorem ints_lt : ∀ ns ms : List Int, PyProof.Rows.lexLt itemOrd (keyToksAll (ns.map PyData.int)) (keyToksAll (ms.map PyData.int)) = decide (ns < ms)
  | [], [] => by
    rw [decide_eq_false (List.lt_irrefl _)]
    exact lex_irrefl _
  | [], m :: ms => by
    rw [decide_eq_true (List.nil_lt_cons _ _)]
    show PyProof.Rows.lexLt itemOrd (keyToksAll []) (keyToksAll (.int m :: ms.map PyData.int)) = true
    rw [toks_all_cons, keyToksAll, lex_atom (by intro z; cases z), lex_one]
    rfl
  | n :: ns, [] => by
    rw [decide_eq_false (List.not_lt_nil _)]
    show PyProof.Rows.lexLt itemOrd (keyToksAll (.int n :: ns.map PyData.int)) (keyToksAll []) = false
    rw [toks_all_cons, keyToksAll, lex_atom (by intro z; cases z), lex_one]
    rfl
  | n :: ns, m :: ms => by
    have al : alike (.int n) (.int m) = true := by simp [alike]
    show PyProof.Rows.lexLt itemOrd (keyToksAll (.int n :: ns.map PyData.int)) (keyToksAll (.int m :: ms.map PyData.int)) = _
    by_cases h : n = m
    · subst h
      rw [dataLt_all_yes al (by simp [PyData.eqv]), ints_lt ns ms]
      rw [Bool.eq_iff_iff, decide_eq_true_eq, decide_eq_true_eq, List.cons_lt_cons_iff]
      exact ⟨fun z => .inr ⟨rfl, z⟩, fun z => z.elim (fun q => absurd q (Int.lt_irrefl _)) fun q => q.2⟩
    · rw [dataLt_all_no al (by simp [PyData.eqv, h]), dataLt_int]
      rw [Bool.eq_iff_iff, decide_eq_true_eq, decide_eq_true_eq, List.cons_lt_cons_iff]
      exact ⟨.inl, fun z => z.elim id fun q => absurd q.1 h⟩
open PySem.W in
theorem row_lt (ns ms : List Int) : dataLt (rowD ns) (rowD ms) = decide (ns < ms) := by
  show dataLt (.list _) (.list _) = _
  rw [dataLt_list]
  exact ints_lt ns ms
/-- a < b of two rows -/
def rLtRow (K : PySem.W.Frag) : R2 := fun x y H Q => ∃ ns ms : List Int, Dp K H x (rowD ns) ∧ Dp K H y (rowD ms) ∧ Q (.bl (decide (ns < ms))) H
theorem op_ltRow {X : Cx} (hu : X.A.units + 64 < cLine) : OpR X (compareOp .Lt) (rLtRow X.K) := by
  rintro pins s σ H x y v u Q I rx ry ⟨ns, ms, hd, he, q⟩
  obtain ⟨as, r1⟩ := Dp.reads I _ x v hd rx
  obtain ⟨bs, r2⟩ := Dp.reads I _ y u he ry
  have sh := SeqAt.depth_of_shaped (shInts ns)
  refine PySem.W.lt_data r1 r2 (row_alike ns ms) (fun z => by cases z) (Nat.lt_of_le_of_lt (Nat.add_le_add_left (Nat.le_trans (Nat.min_le_left _ _) sh) _) hu) ⟨.bl _, H, I, rfl, ?_⟩
  rw [row_lt]
  exact q
theorem map_int_inj : ∀ {ns ms : List Int}, ns.map PyData.int = ms.map PyData.int → ns = ms
  | [], [], _ => rfl
  | [], _ :: _, h => by cases h
  | _ :: _, [], h => by cases h
  | n :: ns, m :: ms, h => by
    injection h with h1 h2
    injection h1 with h1
    rw [h1, map_int_inj h2]
/-- a row among rows -/
def rInRow (K : PySem.W.Frag) : R2 := fun x y H Q => ∃ (p : Addr) (cs : List Addr) (ns : List Int) (nss : List (List Int)), y = .ref p ∧ SqL K H p (cs.map V.ref) ∧ RowsQ K H cs nss ∧ Dp K H x (rowD ns) ∧ Q (.bl (decide (ns ∈ nss))) H
theorem vals_ref {xs : List V} {us : List Value} (r : Vals xs us) : ∀ (i : Nat) (w : Value), us[i]? = some w → ∃ x, xs[i]? = some x ∧ RelV x w := by
  induction r with
  | nil => intro i w e; simp at e
  | cons h _ ih =>
    intro i w e
    cases i with
    | zero =>
      obtain rfl := (Option.some.inj e)
      exact ⟨_, rfl, h⟩
    | succ i => exact ih i w e
open Classical in
theorem op_inRow {X : Cx} (hu : X.A.units + 65 < cLine) : OpR X (compareOp .In) (rInRow X.K) := by
  rintro pins s σ H x y v u Q I rx ry ⟨p, cs, ns, nss, rfl, hq, rows, hd, q⟩
  cases ry
  rcases I.list hq with ⟨its, r, pl, hz⟩
  obtain ⟨as, rv⟩ := Dp.reads I _ x v hd rx
  have each : ∀ (i : Nat) (w : Value), its[i]? = some w → ∃ (ms : List Int) (bs : List Addr), nss[i]? = some ms ∧ Reads s.heap w (rowD ms) bs := fun i w e => by
    obtain ⟨z, hz, rz⟩ := vals_ref r i w e
    obtain ⟨c, hc, rfl⟩ := ref_at hz
    obtain ⟨ms, hm, hS⟩ := rows.each i c hc
    obtain ⟨bs, rb⟩ := Dp.reads I _ _ w (.lst hS (dpInts ms)) rz
    exact ⟨ms, bs, hm, rb⟩
  have lens : its.length = nss.length := by
    have e := r.length
    rw [List.length_map, rows.len] at e
    exact e.symm
  let e : Value → Bool := fun w => decide (∃ i : Nat, its[i]? = some w ∧ nss[i]? = some ns)
  have val : ∀ (i : Nat) (w : Value) (ms : List Int) (bs : List Addr), its[i]? = some w → nss[i]? = some ms → Reads s.heap w (rowD ms) bs → e w = decide (ms = ns) := fun i w ms bs h1 h2 h3 => by
    rw [Bool.eq_iff_iff]
    rw [decide_eq_true_eq, decide_eq_true_eq]
    constructor
    · rintro ⟨j, g1, g2⟩
      obtain ⟨ms', bs', g3, g4⟩ := each j w g1
      rw [g2] at g3
      cases g3
      have d := PySem.W.alike_unique (rowD ms) (rowD ns) w bs bs' (row_alike _ _) h3 g4
      injection d with d
      exact map_int_inj d
    · rintro rfl
      exact ⟨i, h1, h2⟩
  refine SeqAt.in_listAt e pl.isList (fun w hw => ?_) ⟨.bl _, H, I, rfl, ?_⟩
  · obtain ⟨i, hi, ei⟩ := List.getElem_of_mem (show w ∈ its by simpa using hw)
    have e1 : its[i]? = some w := by rw [List.getElem?_eq_getElem hi, ei]
    obtain ⟨ms, bs, h2, h3⟩ := each i w e1
    rw [val i w ms bs e1 h2 h3, ← eqv_row]
    have sh := SeqAt.depth_of_shaped (shInts ms)
    refine PySem.W.eqAt_alike _ _ _ _ _ _ _ _ h3 rv (row_alike _ _) (Nat.lt_of_le_of_lt (Nat.add_le_add_left (Nat.le_trans (Nat.min_le_left _ _) sh) _) ?_)
    show X.A.units + 1 + 64 < cLine
    omega
  · have ev : its.toArray.any e = decide (ns ∈ nss) := by
      rw [show its.toArray.any e = its.any e by simp, Bool.eq_iff_iff, List.any_eq_true, decide_eq_true_eq]
      constructor
      · rintro ⟨w, hw, he⟩
        obtain ⟨j, _, g2⟩ := of_decide_eq_true he
        exact List.mem_of_getElem? g2
      · intro hm
        obtain ⟨i, hi, ei⟩ := List.getElem_of_mem hm
        have hi2 : i < its.length := by omega
        refine ⟨its[i], List.getElem_mem hi2, ?_⟩
        exact decide_eq_true (p := ∃ j : Nat, its[j]? = some its[i] ∧ nss[j]? = some ns) ⟨i, List.getElem?_eq_getElem hi2, by rw [List.getElem?_eq_getElem hi, ei]⟩
    rw [ev]
    exact q
end Mb

namespace Mb
/-! ### the sets of marks, by number -/
def bitOn (x m : Nat) : Bool := decide (x / 2 ^ m % 2 = 1)
/-- the set of the number x, of marks below n -/
def setBy (x n : Nat) : List Int := passTo (bitOn x) n
theorem setBy_set (x n : Nat) : SetIn (n : Int) (setBy x n) := ⟨passTo_rise _ _, fun k hk => ⟨((passTo_mem _ _ _).mp hk).1, ((passTo_mem _ _ _).mp hk).2.1⟩⟩
theorem bitOn_test (x m : Nat) : bitOn x m = x.testBit m := by
  unfold bitOn
  rw [Nat.testBit_eq_decide_div_mod_eq]
/-- the number of what p picks below n -/
def numBy (p : Nat → Bool) : Nat → Nat
  | 0 => 0
  | n + 1 => (if p n = true then 2 ^ n else 0) + numBy p n
theorem numBy_lt (p : Nat → Bool) : ∀ n, numBy p n < 2 ^ n
  | 0 => Nat.one_pos
  | n + 1 => by
    have ih := numBy_lt p n
    have : 2 ^ (n + 1) = 2 ^ n + 2 ^ n := by rw [Nat.pow_succ]; omega
    show (if p n = true then 2 ^ n else 0) + numBy p n < _
    split <;> omega
theorem numBy_bit (p : Nat → Bool) : ∀ n m, m < n → (numBy p n).testBit m = p m
  | 0, m, h => absurd h (Nat.not_lt_zero _)
  | n + 1, m, h => by
    show ((if p n = true then 2 ^ n else 0) + numBy p n).testBit m = p m
    rcases Nat.lt_or_eq_of_le (Nat.le_of_lt_succ h) with e | e
    · split
      · rw [Nat.testBit_two_pow_add_gt e, numBy_bit p n m e]
      · rw [Nat.zero_add, numBy_bit p n m e]
    · subst e
      have z : (numBy p m).testBit m = false := Nat.testBit_lt_two_pow (numBy_lt p m)
      split
      · rename_i c
        rw [Nat.testBit_two_pow_add_eq, z, c]
        rfl
      · rename_i c
        rw [Nat.zero_add, z]
        simpa using c
/-- each set of marks has a number -/
theorem setBy_all {n : Nat} {s : List Int} (h : SetIn (n : Int) s) : ∃ x, x < 2 ^ n ∧ setBy x n = s := by
  refine ⟨numBy (fun m => decide ((m : Int) ∈ s)) n, numBy_lt _ _, rise_eq h.1 (passTo_rise _ _) fun k => ?_⟩
  show k ∈ passTo _ _ ↔ _
  rw [passTo_mem]
  constructor
  · rintro ⟨h0, h1, h2⟩
    rw [bitOn_test, numBy_bit _ _ _ (by omega), decide_eq_true_eq] at h2
    rwa [Int.toNat_of_nonneg h0] at h2
  · intro hk
    obtain ⟨h0, h1⟩ := h.2 k hk
    refine ⟨h0, h1, ?_⟩
    rw [bitOn_test, numBy_bit _ _ _ (by omega), decide_eq_true_eq, Int.toNat_of_nonneg h0]
    exact hk
/-- and but one -/
theorem setBy_inj {n x y : Nat} (hx : x < 2 ^ n) (hy : y < 2 ^ n) (e : setBy x n = setBy y n) : x = y := by
  refine Nat.eq_of_testBit_eq fun m => ?_
  by_cases hm : m < n
  · have q : ∀ z : Nat, (m : Int) ∈ setBy z n ↔ z.testBit m = true := fun z => by
      show (m : Int) ∈ passTo _ _ ↔ _
      rw [passTo_mem, Int.toNat_natCast, bitOn_test]
      constructor
      · exact fun h => h.2.2
      · exact fun h => ⟨by omega, by omega, h⟩
    rw [Bool.eq_iff_iff, ← q x, ← q y, e]
  · have up : 2 ^ n ≤ 2 ^ m := Nat.pow_le_pow_right (by decide) (by omega)
    rw [Nat.testBit_lt_two_pow (by omega : x < 2 ^ m), Nat.testBit_lt_two_pow (by omega : y < 2 ^ m)]
theorem setBy_len (x n : Nat) : (setBy x n).length ≤ n := passTo_len _ _
end Mb

namespace Mb
open L2 PySem PySem.Spec PyProof.Rows
/-! ### sorted(xs), of things that read as data -/
section
variable {β : Type}
/-- val tells what stands in the list for each of L, enc what it reads as -/
def rSortedD (K : PySem.W.Frag) (val : β → V) (enc : β → PyData) : List V → Hp → VK → Prop := fun vs H Q => ∃ (a : Addr) (L : List β), vs = [V.ref a] ∧ SqL K H a (L.map val) ∧ (∀ p ∈ L, Dp K H (val p) (enc p)) ∧
  ∀ q : Addr, H q = none → Q (.ref q) (upd H q (.lst ((L.mergeSort (PySem.W.dataLe false enc)).map val)))
theorem each_of_vals {val : β → V} {R : Value → β → Prop} : ∀ {L : List β} {us : List Value}, Vals (L.map val) us → (∀ p ∈ L, ∀ u, RelV (val p) u → R u p) → PySem.W.EachIs R us L
  | [], _, r, _ => by
    cases r
    exact .nil
  | p :: L, _, r, h => by
    cases r with
    | cons h1 h2 => exact .cons (h p List.mem_cons_self _ h1) (each_of_vals h2 fun q hq => h q (List.mem_cons_of_mem _ hq))
theorem vals_of_each {val : β → V} : ∀ {L : List β} {us : List Value}, PySem.W.EachIs (fun u p => RelV (val p) u) us L → Vals (L.map val) us
  | _, _, .nil => .nil
  | _, _, .cons h t => .cons h (vals_of_each t)
theorem cr_sortedD {X : Cx} {val : β → V} {enc : β → PyData} (hal : ∀ b b', PySem.W.alike (enc b) (enc b') = true) (hk : (∀ b, ∃ x r, enc b = .tuple (x :: r)) ∨ ∀ b, enc b ≠ .none ∧ ∀ xs, enc b ≠ .tuple xs) (hd : ∀ b, (enc b).depth ≤ 64) (hu : X.A.units + 66 < cLine) :
    CallR X (.builtin "sorted") (rSortedD X.K val enc) := by
  rintro pins s σ H vs us Q I r ⟨a, L, rfl, hs, hD, q⟩
  rcases I.list hs with ⟨its, rv, hl, hz⟩
  rw [Vals.ref1 r]
  have e : PySem.W.EachIs (fun u p => RelV (val p) u) its L := each_of_vals rv fun p _ u hu => hu
  have er : PySem.W.EachIs (fun u p => ∃ as, Reads s.heap u (enc p) as) its L := each_of_vals rv fun p hp u hu => Dp.reads I _ _ _ (hD p hp) hu
  refine PySem.W.sorted_data (R := fun u p => RelV (val p) u) hl.isList e er (PySem.W.AllAlike.of hal) ?_ ?_ (fun b _ => ?_) fun out ho h1 => ?_
  · rcases hk with h | h
    · exact PySem.W.Sortable.tuples h
    · exact PySem.W.Sortable.others h
  · have := hz
    rw [List.length_map] at this
    exact this
  · have := hd b
    omega
  · obtain ⟨ep, he'⟩ := PyProof.Rows.sortedAll_at s.heap its out.toArray
    have hlen : ((L.mergeSort (PySem.W.dataLe false enc)).map val).length ≤ sizeLine := by
      rw [List.length_map, List.length_mergeSort]
      rw [List.length_map] at hz
      exact hz
    exact ⟨.ref _, upd H (s.heap.objs.size + 1) (.lst ((L.mergeSort (PySem.W.dataLe false enc)).map val)), I.laid (t' := s.toks) (fun _ _ => PyProof.Rows.sortedAll_old) (Nat.le_succ _) ⟨hlen, out, ep, vals_of_each h1, he'⟩, rfl, q _ (I.hok.fresh (Nat.le_succ _))⟩
end
/-! ### rows, sorted -/
theorem row_depth (ns : List Int) : (rowD ns).depth ≤ 64 := SeqAt.depth_of_shaped (shInts ns)
theorem row_other (ns : List Int) : rowD ns ≠ .none ∧ ∀ xs, rowD ns ≠ .tuple xs := ⟨fun z => (by cases z), fun _ z => (by cases z)⟩
theorem sorted_le {α : Type} (x : α → List Int) (L : List α) : (L.mergeSort fun p q => decide (x p ≤ x q)).Pairwise fun p q => x p ≤ x q := by
  have h := List.pairwise_mergeSort (le := fun p q : α => decide (x p ≤ x q)) (fun a b c h1 h2 => by
    rw [decide_eq_true_eq] at h1 h2 ⊢
    exact List.le_trans h1 h2) (fun a b => by
    simp only [Bool.or_eq_true, decide_eq_true_eq]
    exact List.le_total _ _) L
  exact h.imp fun h => of_decide_eq_true h
/-- the rows differ: each is less than the next -/
theorem sorted_lt {α : Type} (x : α → List Int) {L : List α} (nd : (L.map x).Nodup) : ((L.mergeSort fun p q => decide (x p ≤ x q)).map x).Pairwise (· < ·) := by
  have h1 := sorted_le x L
  have p := (List.mergeSort_perm L fun p q => decide (x p ≤ x q)).map x
  have h2 : ((L.mergeSort fun p q => decide (x p ≤ x q)).map x).Pairwise (· ≠ ·) := (p.nodup_iff).mpr nd
  have h3 : ((L.mergeSort fun p q => decide (x p ≤ x q)).map x).Pairwise (· ≤ ·) := List.pairwise_map.mpr h1
  refine (h3.and h2).imp fun {a b} ⟨g1, g2⟩ => ?_
  rcases List.le_iff_lt_or_eq.mp g1 with g | g
  · exact g
  · exact absurd g g2
theorem sorted_mem {α β : Type} (x : α → β) {L : List α} {le : α → α → Bool} {s : β} : s ∈ (L.mergeSort le).map x ↔ s ∈ L.map x := ((List.mergeSort_perm L le).map x).mem_iff
/-- the sets of a size, by their numbers -/
def ofSize (m i j : Nat) : List (List Int) := ((List.range j).map fun x => setBy x m).filter fun s => decide (s.length = i)
theorem ofSize_succ (m i j : Nat) : ofSize m i (j + 1) = ofSize m i j ++ (if decide ((setBy j m).length = i) = true then [setBy j m] else []) := by
  unfold ofSize
  rw [List.range_succ, List.map_append, List.filter_append]
  congr 1
  by_cases h : (setBy j m).length = i
  · simp [h]
  · simp [h]
theorem setsBy_nodup (m : Nat) : ((List.range (2 ^ m)).map fun x => setBy x m).Nodup := by
  refine List.pairwise_map.mpr ?_
  refine List.Pairwise.imp_of_mem (R := (· < ·)) (fun {a b} ha hb h e => ?_) List.pairwise_lt_range
  have := setBy_inj (List.mem_range.mp ha) (List.mem_range.mp hb) e
  omega
theorem ofSize_nodup (m i : Nat) : (ofSize m i (2 ^ m)).Nodup := (setsBy_nodup m).sublist List.filter_sublist
theorem ofSize_mem {m i : Nat} {s : List Int} : s ∈ ofSize m i (2 ^ m) ↔ SetIn (m : Int) s ∧ s.length = i := by
  unfold ofSize
  rw [List.mem_filter, List.mem_map, decide_eq_true_eq]
  constructor
  · rintro ⟨⟨x, _, rfl⟩, h⟩
    exact ⟨setBy_set x m, h⟩
  · rintro ⟨h1, h2⟩
    obtain ⟨x, hx, e⟩ := setBy_all h1
    exact ⟨⟨x, List.mem_range.mpr hx, e⟩, h2⟩
theorem ofSize_len (m i j : Nat) : (ofSize m i j).length ≤ j := by
  unfold ofSize
  refine Nat.le_trans (List.length_filter_le _ _) ?_
  simp [List.length_map]
end Mb

namespace Mb
open L2 PySem PySem.Spec PyProof.Rows
structure LTxt (K : PySem.W.Frag) (mg : Str → Option Value) : Prop where
  isi : mg "isinstance" = none
  int : mg "int" = none
  bool : mg "bool" = none
  list : mg "list" = none
  len : mg "len" = none
  range : mg "range" = none
  max : mg "max" = none
  sum : mg "sum" = none
section
variable {P : Program} {w : World} {K : PySem.W.Frag} {mg : Str → Option Value} {base : Heap} {C CS CM CT : Addr}
/-! ### a cell of the script -/
def cellAt (ns : List Int) (k : Int) : Int := ns.getD k.toNat 0
def spCell (K : PySem.W.Frag) : Sp := fun vs H Q _ => ∃ (a : Addr) (ns : List Int) (k : Int), vs = [.ref a, .int k] ∧ SqL K H a (ns.map V.int) ∧ 0 ≤ k ∧ Q (.int (cellAt ns k)) H
theorem scCell : FnScope ["_law_script", "_law_k"] ["_law_script", "_law_k"] (defScope sCell) := ⟨rfl, rfl, rfl, by decide +kernel, rfl, by decide +kernel, by decide +kernel⟩
theorem ok_cell {f : Addr} {fd : FuncData} (F : Fun K "_law_cell_at" "_law_cell_at" sCell f fd) (T : LTxt K mg) : FnOk P w K mg base CX0 1 f fd ["_law_script", "_law_k"] (spCell K) := by
  refine F.ok scCell (fun vs H Q E h => ?_) (fun cdv A outer s H vs Q E hr h => ?_)
  · rcases h with ⟨a, ns, k, rfl, _⟩
    rfl
  · obtain ⟨a, ns, k, rfl, hS, h0, kQ⟩ := h
    refine ⟨_, pss_cons (ps_if (pt_cmpR op_lt (pv 1) (pe_callB call_len_seq (by rfl) T.len PySem.boot_len (pa_cons (pv 0) pa_nil)) (nomark _)) (pss_one (ps_ret (pe_ix ix_list (pv 0) (pv 1) (fun _ _ => rfl)))) pss_nil) (pss_one (ps_ret pe_int)), ?_⟩
    refine ⟨_, rfl, _, rfl, a, _, rfl, .inl hS, ⟨_, _, rfl, rfl, ⟨_, rfl, ?_⟩⟩⟩
    apply ite2 <;> intro c
    · have c' := of_decide_eq_true c
      obtain ⟨v, hv, hv2⟩ := atI_in (xs := ns.map V.int) h0 c'
      have ev : v = .int (cellAt ns k) := by
        obtain ⟨z, hz, rfl⟩ := int_at hv2
        unfold cellAt
        rw [List.getD_eq_getElem?_getD, hz]
        rfl
      subst ev
      exact ⟨_, rfl, _, rfl, a, _, k, _, rfl, rfl, hS, hv, kQ⟩
    · have hlt : ns.length ≤ k.toNat := by
        have : ¬ k < ((ns.map V.int).length : Int) := fun z => c (decide_eq_true z)
        rw [List.length_map] at this
        omega
      have ev : cellAt ns k = 0 := by
        unfold cellAt
        rw [List.getD_eq_getElem?_getD, List.getElem?_eq_none_iff.mpr hlt]
        rfl
      rw [ev] at kQ
      exact kQ
end
end Mb

namespace Mb
open L2 PySem PySem.Spec PyProof.Rows
/-- the bits of any whole number -/
def bitI (z : Int) (m : Nat) : Bool := decide (Int.fdiv z (2 ^ m) % 2 = 1)
def setByI (z : Int) (n : Nat) : List Int := passTo (bitI z) n
theorem bitI_nat (x m : Nat) : bitI (x : Int) m = bitOn x m := by
  unfold bitI bitOn
  have e : Int.fdiv (x : Int) ((2 : Int) ^ m) = ((x / 2 ^ m : Nat) : Int) := by
    rw [Int.fdiv_eq_ediv_of_nonneg _ (Int.pow_nonneg (by decide))]
    rw [Int.natCast_ediv]
    congr 1
  rw [e]
  rw [Bool.eq_iff_iff]
  rw [decide_eq_true_eq, decide_eq_true_eq]
  omega
theorem passTo_congr {p q : Nat → Bool} : ∀ n : Nat, (∀ m, m < n → p m = q m) → passTo p n = passTo q n
  | 0, _ => rfl
  | n + 1, h => by
    show passTo p n ++ _ = passTo q n ++ _
    rw [passTo_congr n fun m hm => h m (by omega), h n (by omega)]
theorem setByI_nat (x n : Nat) : setByI (x : Int) n = setBy x n := passTo_congr n fun m _ => bitI_nat x m
theorem setByI_set (z : Int) (n : Nat) : SetIn (n : Int) (setByI z n) := ⟨passTo_rise _ _, fun k hk => ⟨((passTo_mem _ _ _).mp hk).1, ((passTo_mem _ _ _).mp hk).2.1⟩⟩
theorem worth_at {i : Nat} (h : i < 8) : atI [V.int 1, .int 2, .int 4, .int 8, .int 16, .int 32, .int 64, .int 128] (i : Int) = some (.int (2 ^ i)) := by
  refine atI_nat ?_
  match i, h with
  | 0, _ => rfl
  | 1, _ => rfl
  | 2, _ => rfl
  | 3, _ => rfl
  | 4, _ => rfl
  | 5, _ => rfl
  | 6, _ => rfl
  | 7, _ => rfl
end Mb

namespace Mb
open L2 PySem PySem.Spec PyProof.Rows
/-- rows, each with its place, all new since H -/
def RowsL (H H' : Hp) (L : List (Addr × List Int)) : Prop := ∀ p ∈ L, H p.1 = none ∧ H' p.1 = some (.lst (p.2.map V.int))
theorem RowsL.same {H H1 H2 : Hp} {L : List (Addr × List Int)} (r : RowsL H H1 L) (s : Same H1 H2) : RowsL H H2 L := fun p hp => ⟨(r p hp).1, s _ _ (r p hp).2⟩
theorem RowsL.q {K : PySem.W.Frag} {H H' : Hp} {L : List (Addr × List Int)} (r : RowsL H H' L) : RowsQ K H' (L.map (·.1)) (L.map (·.2)) := by
  refine ⟨by rw [List.length_map, List.length_map], fun i a e => ?_⟩
  rw [List.getElem?_map] at e
  rcases (Option.map_eq_some_iff).1 e with ⟨p, hp, rfl⟩
  exact ⟨p.2, by rw [List.getElem?_map, hp]; rfl, SqL.of (r p (List.mem_of_getElem? hp)).2⟩
theorem Room.units66 {k : Nat} {A : Around} (r : Room k A) : A.units + 66 < cLine := by have := r.un; omega
abbrev refL (L : List (Addr × List Int)) : List V := L.map fun p => V.ref p.1
section
variable {P : Program} {w : World} {K : PySem.W.Frag} {mg : Str → Option Value} {base : Heap} {C CS CM CT CN CE : Addr}
/-! ### all sets, by their size -/
def spSets10 : Sp := fun vs H Q _ => ∃ m : Nat, vs = [.int m] ∧ m ≤ 6 ∧ ∀ (H' : Hp) (F : Addr) (L : List (Addr × List Int)), Same H H' → H F = none → H' F = some (.lst (refL L)) → RowsL H H' L → L.map (·.2) = setsOf m → Q (.ref F) H'
abbrev nSets10 : List Str := ["_law_many", "_law_found", "_law_size", "_law_some", "_law_number", "_law_marks", "_law_mark"]
theorem scSets10 : FnScope nSets10 ["_law_many"] (defScope s_law_sets) := ⟨rfl, rfl, rfl, by decide +kernel, rfl, by decide +kernel, by decide +kernel⟩
theorem worth7 {i : Nat} (h : i < 7) : atI [V.int 1, .int 2, .int 4, .int 8, .int 16, .int 32, .int 64] (i : Int) = some (.int ((2 ^ i : Nat) : Int)) := by
  refine atI_nat ?_
  match i, h with
  | 0, _ => rfl
  | 1, _ => rfl
  | 2, _ => rfl
  | 3, _ => rfl
  | 4, _ => rfl
  | 5, _ => rfl
  | 6, _ => rfl
theorem worth6 {i : Nat} (h : i < 6) : atI [V.int 1, .int 2, .int 4, .int 8, .int 16, .int 32] (i : Int) = some (.int ((2 ^ i : Nat) : Int)) := by
  refine atI_nat ?_
  match i, h with
  | 0, _ => rfl
  | 1, _ => rfl
  | 2, _ => rfl
  | 3, _ => rfl
  | 4, _ => rfl
  | 5, _ => rfl
theorem ok_sets10 {f : Addr} {fd : FuncData} (F : Fun K "_law_sets" "_law_sets" s_law_sets f fd) (L : LTxt K mg) (so : mg "sorted" = none) : FnOk P w K mg base CX0 1 f fd ["_law_many"] spSets10 := by
  refine F.ok scSets10 (fun vs H Q E h => ?_) (fun cdv A outer s H vs Q E hr h => ?_)
  · obtain ⟨m, rfl, _⟩ := h
    rfl
  · obtain ⟨m, rfl, m6, k⟩ := h
    refine ⟨_, pss_cons (ps_set (i := 1) scSets10.nd rfl (Or.inl rfl) (pe_lst pa_nil))
      (pss_cons (ps_for PassesOwn.never rfl (pi_range1 (by rfl) L.range (pa_cons (pe_op op_add (pv 0) pe_int) pa_nil)) (pg_name (i := 2) scSets10.nd rfl (Or.inl rfl))
        (pss_cons (ps_set (i := 3) scSets10.nd rfl (Or.inl rfl) (pe_lst pa_nil))
        (C8.pss_cut (ps_for PassesOwn.never rfl (pi_range1 (by rfl) L.range (pa_cons (pe_ix ix_list (pe_lst (pa_cons pe_int (pa_cons pe_int (pa_cons pe_int (pa_cons pe_int (pa_cons pe_int (pa_cons pe_int (pa_cons pe_int pa_nil)))))))) (pv 0) (fun _ _ => rfl)) pa_nil)) (pg_name (i := 4) scSets10.nd rfl (Or.inr rfl))
          (pss_cons (ps_setLc (i := 5) (own := [("_law_mark", 6)]) (g := gName 6) (tt := tTest (tOp rEq (tOp (rI (fun _ j => 0 < j) fun i j => V.int (i % j)) (tOp (rI CDivN fun i j => V.int (i.fdiv j)) (tVar 4) (tOp (rIxL K) (tLst (tCons (tC (V.int 1)) (tCons (tC (V.int 2)) (tCons (tC (V.int 4)) (tCons (tC (V.int 8)) (tCons (tC (V.int 16)) (tCons (tC (V.int 32)) tNil))))))) (tVar 6))) (tC (V.int 2))) (tC (V.int 1)))) (te := tVar 6) rfl scSets10.nd rfl rfl (sw_true rfl rfl rfl (by decide +kernel)) (pi_range1 (by rfl) L.range (pa_cons (pv 0) pa_nil)) (blkOk_by (N := nSets10) (sc := defScope s_law_sets) (by decide +kernel)) (fun _ _ _ _ _ => pg_name (i := 6) scSets10.nd rfl (Or.inl rfl))
              (fun _ _ _ _ _ => pts_one (pt_cmpR op_eq (pe_op op_mod (pe_op op_fdivN (pv 4) (pe_ix ix_list (pe_lst (pa_cons pe_int (pa_cons pe_int (pa_cons pe_int (pa_cons pe_int (pa_cons pe_int (pa_cons pe_int pa_nil))))))) (pv 6) (fun _ _ => rfl))) pe_int) pe_int (nomark _))) (fun _ _ _ _ _ => pv 6))
          (pss_one (ps_if (pt_cmpR op_eq (pe_callB call_len_seq (by rfl) L.len PySem.boot_len (pa_cons (pv 5) pa_nil)) (pv 2) (nomark _))
            (pss_one (ps_expr (pe_bm PySem.F.plainAttrs_list PySem.F.slot_list_append PySem.F.type_list_append mt_append (pv 3) (pa_cons (pv 5) pa_nil)))) pss_nil))))
        (pss_one (ps_set (i := 1) scSets10.nd rfl (Or.inl rfl) (pe_op op_cat (pv 1) (pe_callB (cr_sortedD (val := fun p : Addr × List Int => V.ref p.1) (enc := fun p => rowD p.2) (fun _ _ => row_alike _ _) (.inr fun _ => row_other _) (fun _ => row_depth _) (Room.units66 hr)) (by rfl) so (by decide +kernel) (pa_cons (pv 3) pa_nil))))))))
      (pss_one (ps_ret (pv 1)))), ?_⟩
    refine ⟨Nat.zero_le _, fun F0 hF0 => ?_⟩
    refine ⟨_, rfl, _, _, rfl, rfl, _, rfl, by omega, by omega, for_range (lo := 0) (n := _) (fun i σ H' => ∃ (v2 v3 v4 v5 : Option V) (F : Addr) (L : List (Addr × List Int)), σ = [some (.int m), some (.ref F), v2, v3, v4, v5, none] ∧ Same H H' ∧ H F = none ∧ H' F = some (.lst (refL L)) ∧ RowsL H H' L ∧ (L.map (·.2)).Pairwise Mb.before ∧ (∀ s, s ∈ L.map (·.2) ↔ SetIn (m : Int) s ∧ s.length < i) ∧ L.length ≤ 64 * i)
      ⟨none, none, none, none, F0, [], rfl, Same.up (Same.refl H) hF0, hF0, upd_same, fun p hp => (by cases hp), List.Pairwise.nil, fun s => ⟨fun h => (by cases h), fun h => absurd h.2 (Nat.not_lt_zero _)⟩, Nat.zero_le _⟩ ?_ ?_⟩
    · rintro i σ H1 hi ⟨v2, v3, v4, v5, F, Lf, rfl, s1, nF, hF, rows, ord, mem, few⟩
      have i7 : i ≤ m := by omega
      refine ⟨Nat.zero_le _, fun S hS => ?_⟩
      have s12 : Same H1 (upd H1 S (.lst [])) := Same.up (Same.refl H1) hS
      have gS : (upd H1 S (.lst [])) S = some (.lst []) := upd_same
      generalize upd H1 S (.lst []) = H2 at s12 gS
      refine ⟨fun σ H' => ∃ (v4 v5 : Option V) (L : List (Addr × List Int)), σ = [some (.int m), some (.ref F), some (.int (0 + (i : Int))), some (.ref S), v4, v5, none] ∧ Same H1 H' ∧ H' S = some (.lst (refL L)) ∧ (∀ p ∈ L, p.1 ≠ S) ∧ RowsL H1 H' L ∧ L.map (·.2) = ofSize m i (2 ^ m), ?_, ?_⟩
      · refine ⟨(by show 7 ≤ sizeLine; decide), fun Z hZ => ?_⟩
        have s23 : Same H2 (upd H2 Z (.lst [V.int 1, .int 2, .int 4, .int 8, .int 16, .int 32, .int 64])) := Same.up (Same.refl H2) hZ
        have gZ : (upd H2 Z (.lst [V.int 1, .int 2, .int 4, .int 8, .int 16, .int 32, .int 64])) Z = some (.lst [V.int 1, .int 2, .int 4, .int 8, .int 16, .int 32, .int 64]) := upd_same
        generalize upd H2 Z (.lst [V.int 1, .int 2, .int 4, .int 8, .int 16, .int 32, .int 64]) = H3 at s23 gZ
        obtain ⟨pw, hpw⟩ : ∃ pw : Nat, pw = 2 ^ m := ⟨_, rfl⟩
        have pm : pw ≤ 64 := by
          rw [hpw]
          exact Nat.pow_le_pow_right (n := 2) (by decide) (show m ≤ 6 by omega)
        have pat := worth7 (i := m) (by omega)
        rw [← hpw] at pat
        refine ⟨_, rfl, Z, _, _, _, rfl, rfl, SqL.of gZ, pat, _, rfl, by omega, by omega, for_range (lo := 0) (n := _) (fun j σ H' => ∃ (v4 v5 : Option V) (L : List (Addr × List Int)), σ = [some (.int m), some (.ref F), some (.int (0 + (i : Int))), some (.ref S), v4, v5, none] ∧ Same H1 H' ∧ H' S = some (.lst (refL L)) ∧ (∀ p ∈ L, p.1 ≠ S) ∧ RowsL H1 H' L ∧ L.map (·.2) = ofSize m i j)
          ⟨v4, v5, [], rfl, s12.trans s23, s23 _ _ gS, fun p hp => (by cases hp), fun p hp => (by cases hp), rfl⟩ ?_ ?_⟩
        · rintro j σ H4 hj ⟨v4, v5, L4, rfl, s4, gS4, off, rows4, e4⟩
          refine ⟨_, rfl, (m : Int), rfl, by omega, by omega, fun D hD => ?_⟩
          have zj : (0 : Int) + (j : Int) = (j : Int) := Int.zero_add _
          rw [Int.toNat_natCast, zj]
          refine lc_range (lo := 0) (n := m) (fun u H' => H' D = some (.lst ((setByI (j : Int) u).map V.int)) ∧ Same H4 H') ⟨upd_same, Same.up (Same.refl H4) hD⟩ ?_ ?_
          · rintro u H5 hu ⟨hD5, s5⟩
            have il := passTo_len (bitI (j : Int)) u
            have es : setByI (j : Int) (u + 1) = setByI (j : Int) u ++ (if bitI (j : Int) u = true then [(u : Int)] else []) := rfl
            have u6 : u < 6 := by omega
            refine ⟨rfl, _, rfl, (by show 6 ≤ sizeLine; decide), fun q hq => ?_⟩
            have s56 : Same H5 (upd H5 q (.lst [V.int 1, .int 2, .int 4, .int 8, .int 16, .int 32])) := Same.up (Same.refl H5) hq
            have hD6 := s56 _ _ hD5
            have hq6 : (upd H5 q (.lst [V.int 1, .int 2, .int 4, .int 8, .int 16, .int 32])) q = some (.lst [V.int 1, .int 2, .int 4, .int 8, .int 16, .int 32]) := upd_same
            generalize upd H5 q (.lst [V.int 1, .int 2, .int 4, .int 8, .int 16, .int 32]) = H6 at s56 hD6 hq6
            have hw := worth6 (i := u) u6
            have p1 : 1 ≤ 2 ^ u := Nat.one_le_two_pow
            have p2 : 2 ^ u ≤ 32 := Nat.pow_le_pow_right (n := 2) (by decide) (show u ≤ 5 by omega)
            obtain ⟨x, hx⟩ : ∃ x : Nat, x = 2 ^ u := ⟨_, rfl⟩
            rw [← hx] at hw p1 p2
            refine ⟨_, rfl, q, _, _, _, rfl, rfl, SqL.of hq6, (by rw [Int.zero_add]; exact hw), _, _, rfl, rfl, ⟨by omega, by omega⟩, _, _, rfl, rfl, (by show (0 : Int) < 2; decide), rfl, _, rfl, ?_⟩
            have eb : decide (V.int (Int.fdiv (j : Int) (x : Int) % 2) = V.int 1) = bitI (j : Int) u := by
              rw [dec_int, hx, Int.natCast_pow]
              rfl
            have zu : (0 : Int) + (u : Int) = (u : Int) := Int.zero_add _
            rw [es, zu]
            dsimp only []
            rw [eb]
            have s57 := s5.trans s56
            apply ite2 <;> intro c
            · rw [if_pos c]
              refine ⟨_, rfl, _, hD6, by rw [List.length_map, sizeLine_eq]; show (passTo _ _).length < _; omega, by rw [upd_same, List.map_append]; rfl, fun b o e => ?_⟩
              rw [upd_ne (ne_of_none e hD)]
              exact s57 b o e
            · rw [if_neg c, List.append_nil]
              exact ⟨hD6, s57⟩
          · rintro H5 ⟨hD5, s5⟩
            rw [setByI_nat] at hD5
            have lS : (setBy j m).length ≤ m := setBy_len j m
            refine ⟨_, rfl, D, _, rfl, .inl (SqL.of hD5), _, rfl, rfl, _, rfl, ?_⟩
            have ec : decide (V.int (((setBy j m).map V.int).length : Int) = V.int (0 + (i : Int))) = decide ((setBy j m).length = i) := by
              rw [dec_int, List.length_map, Int.zero_add, Bool.eq_iff_iff, beq_iff_eq, decide_eq_true_eq]
              omega
            rw [ec]
            have DS : D ≠ S := fun z => by rw [z, gS4] at hD; cases hD
            have s15 := s4.trans s5
            apply ite2 <;> intro c
            · have l4 : L4.length ≤ j := by
                have := congrArg List.length e4
                rw [List.length_map] at this
                rw [this]
                exact ofSize_len m i j
              refine ⟨_, rfl, .inl ⟨rfl, _, SqL.of (s5 _ _ gS4)⟩, _, rfl, S, _, _, rfl, rfl, s5 _ _ gS4, by rw [List.length_map, sizeLine_eq]; omega, ?_⟩
              refine ⟨_, _, L4 ++ [(D, setBy j m)], rfl, fun b o e => ?_, by rw [upd_same]; show _ = some (HO.lst (List.map _ _)); rw [List.map_append]; rfl, fun p hp => ?_, fun p hp => ?_, ?_⟩
              · have bS : b ≠ S := fun z => by rw [z, hS] at e; cases e
                rw [upd_ne bS]
                exact s15 b o e
              · rcases (List.mem_append).1 hp with z | z
                · exact off p z
                · rw [(List.mem_singleton).1 z]
                  exact DS
              · rcases (List.mem_append).1 hp with z | z
                · exact ⟨(rows4 p z).1, by rw [upd_ne (off p z)]; exact s5 _ _ (rows4 p z).2⟩
                · rw [(List.mem_singleton).1 z]
                  exact ⟨s4.free hD, by rw [upd_ne DS]; exact hD5⟩
              · rw [List.map_append, e4, ofSize_succ, if_pos c]
                rfl
            · exact ⟨_, _, L4, rfl, s15, s5 _ _ gS4, off, rows4.same s5, by rw [e4, ofSize_succ, if_neg c, List.append_nil]⟩
        · rintro σ H4 ⟨v4, v5, L4, rfl, s4, gS4, off, rows4, e4⟩
          rw [show ((pw : Int)).toNat = pw from Int.toNat_natCast _, hpw] at e4
          exact ⟨v4, v5, L4, rfl, s4, gS4, off, rows4, e4⟩
      · rintro σ H4 ⟨v4, v5, L4, rfl, s4, gS4, off, rows4, e4⟩
        refine ⟨_, rfl, _, rfl, S, L4, rfl, SqL.of gS4, fun p hp => .lst (SqL.of (rows4 p hp).2) (dpInts _), fun q hq => ?_⟩
        have eo : PySem.W.dataLe false (fun p : Addr × List Int => rowD p.2) = fun p q => decide (p.2 ≤ q.2) := PySem.W.dataLe_rows (fun p : Addr × List Int => p.2)
        rw [eo]
        obtain ⟨L5, hL5⟩ : ∃ L5, L5 = L4.mergeSort (fun p q => decide (p.2 ≤ q.2)) := ⟨_, rfl⟩
        have nd : (L4.map (·.2)).Nodup := by rw [e4]; exact ofSize_nodup m i
        have lt5 : (L5.map (·.2)).Pairwise (· < ·) := by rw [hL5]; exact sorted_lt (fun p : Addr × List Int => p.2) nd
        have mem5 : ∀ s, s ∈ L5.map (·.2) ↔ SetIn (m : Int) s ∧ s.length = i := fun s => by
          rw [hL5, sorted_mem, e4, ofSize_mem]
        have in5 : ∀ p ∈ L5, p ∈ L4 := fun p hp => by
          rw [hL5] at hp
          exact (List.mergeSort_perm _ _).mem_iff.mp hp
        have len5 : L5.length ≤ 64 := by
          rw [hL5, List.length_mergeSort]
          have := congrArg List.length e4
          rw [List.length_map] at this
          rw [this]
          refine Nat.le_trans (ofSize_len m i _) ?_
          exact Nat.pow_le_pow_right (n := 2) (by decide) (show m ≤ 6 by omega)
        rw [← hL5]
        have sq : Same H4 (upd H4 q (.lst (L5.map fun p => V.ref p.1))) := Same.up (Same.refl H4) hq
        have gq : (upd H4 q (.lst (L5.map fun p => V.ref p.1))) q = some (.lst (L5.map fun p => V.ref p.1)) := upd_same
        generalize upd H4 q (.lst (L5.map fun p => V.ref p.1)) = H5 at sq gq
        have s15 := s4.trans sq
        refine ⟨F, q, _, _, rfl, rfl, s15 _ _ hF, gq, by rw [List.length_map, List.length_map, sizeLine_eq]; omega, fun F2 hF2 => ?_⟩
        have s16 := s15.trans (Same.up (o := .lst (refL Lf ++ L5.map fun p => V.ref p.1)) (Same.refl H5) hF2)
        refine ⟨_, _, _, _, F2, Lf ++ L5, rfl, s1.trans s16, s1.free (s15.free hF2), by rw [upd_same]; show _ = some (HO.lst (List.map _ _)); rw [List.map_append], fun p hp => ?_, ?_, fun s => ?_, ?_⟩
        · rcases (List.mem_append).1 hp with z | z
          · exact ⟨(rows p z).1, s16 _ _ (rows p z).2⟩
          · have r := rows4 p (in5 p z)
            exact ⟨s1.free r.1, (sq.trans (Same.up (o := .lst (refL Lf ++ L5.map fun p => V.ref p.1)) (Same.refl H5) hF2)) _ _ r.2⟩
        · rw [List.map_append, List.pairwise_append]
          refine ⟨ord, ?_, fun a ha b hb => .inl ?_⟩
          · refine List.Pairwise.imp_of_mem (R := (· < ·)) (fun {a b} ha hb h => .inr ⟨?_, h⟩) lt5
            rw [((mem5 a).mp ha).2, ((mem5 b).mp hb).2]
          · rw [((mem5 b).mp hb).2]
            exact ((mem a).mp ha).2
        · rw [List.map_append, List.mem_append, mem, mem5]
          constructor
          · rintro (⟨h1, h2⟩ | ⟨h1, h2⟩)
            · exact ⟨h1, by omega⟩
            · exact ⟨h1, by omega⟩
          · rintro ⟨h1, h2⟩
            by_cases e : s.length = i
            · exact .inr ⟨h1, e⟩
            · exact .inl ⟨h1, by omega⟩
        · rw [List.length_append]
          omega
    · rintro σ H1 ⟨v2, v3, v4, v5, F, Lf, rfl, s1, nF, hF, rows, ord, mem, few⟩
      refine ⟨_, rfl, k H1 F Lf s1 nF hF rows ?_⟩
      refine order_eq Mb.before_asym ord (sets_ord m) fun s => ?_
      rw [mem, sets_all]
      constructor
      · exact fun h => h.1
      · intro h
        have := rise_short h
        exact ⟨h, by omega⟩
end
end Mb

namespace Mb
open L2 PySem PySem.Spec PyProof.Rows
theorem GridR.same {K : PySem.W.Frag} {H H' : Hp} {l : Addr} {mss : List (List Int)} (g : GridR K H l mss) (s : Same H H') : GridR K H' l mss := by
  obtain ⟨as, h1, h2, h3⟩ := g
  exact ⟨as, Same.seq s h1, h2, fun i b e => by
    obtain ⟨rs, q1, q2⟩ := h3 i b e
    exact ⟨rs, q1, Same.seq s q2⟩⟩
end Mb

namespace Mb
open L2 PySem PySem.Spec PyProof.Rows
section
variable {P : Program} {w : World} {K : PySem.W.Frag} {mg : Str → Option Value} {base : Heap} {C CS CM CT CN CE : Addr}
/-! ### the closure of a set of marks, as the law tells it -/
def spClosure (K : PySem.W.Frag) : Sp := fun vs H Q _ => ∃ (l p : Addr) (n : Int) (mss : List (List Int)) (ns : List Int), vs = [.int n, .ref l, .ref p] ∧ 0 ≤ n ∧ n ≤ 60 ∧ GridR K H l mss ∧ mss.length ≤ 60 ∧ SqL K H p (ns.map V.int) ∧ ns.length ≤ 1000 ∧
  ∀ (H' : Hp) (q : Addr), Same H H' → H q = none → H' q = some (.lst ((closedOf n mss ns).map V.int)) → Q (.ref q) H'
abbrev nClosure : List Str := ["_law_many", "_law_rows", "_law_marks", "_law_things", "_law_k", "_law_mark"]
theorem scClosure : FnScope nClosure ["_law_many", "_law_rows", "_law_marks"] (defScope s_law_closure) := ⟨rfl, rfl, rfl, by decide +kernel, rfl, by decide +kernel, by decide +kernel⟩
abbrev scClo1 : Scope := { kind := .function, names := [(".0", .local), ("_law_k", .cell), ("_law_marks", .cell), ("_law_rows", .cell)], isGenerator := false, isCoroutine := false }
abbrev scClo2 : Scope := { kind := .function, names := [(".0", .local), ("_law_mark", .cell), ("_law_rows", .cell), ("_law_things", .cell)], isGenerator := false, isCoroutine := false }
theorem ok_closure {f : Addr} {fd : FuncData} (F : Fun K "_law_closure" "_law_closure" s_law_closure f fd) (L : LTxt K mg) : FnOk P w K mg base CX0 1 f fd ["_law_many", "_law_rows", "_law_marks"] (spClosure K) := by
  refine F.ok scClosure (fun vs H Q E h => ?_) (fun cdv A outer s H vs Q E hr h => ?_)
  · obtain ⟨l, p, n, mss, ns, rfl, _⟩ := h
    rfl
  · obtain ⟨l, p, n, mss, ns, rfl, n0, n60, gr, few, hp, hlen, k⟩ := h
    refine ⟨_, pss_cons (ps_set (i := 3) scClosure.nd rfl (Or.inr rfl) (pe_lc (own := [("_law_k", 4)]) (g := gName 4) (tt := tTest (tOp (rEqD K) (tLc (iList K (tVar 2)) (gName 5) (tTest (tOp (rIn K true) (tVar 5) (tOp (rIxL K) (tVar 1) (tVar 4)))) (tVar 5) [5]) (tLst tNil))) rfl scClosure.nd
          (pi_range1 (by rfl) L.range (pa_cons (pe_callB call_len_seq (by rfl) L.len PySem.boot_len (pa_cons (pv 1) pa_nil)) pa_nil)) (blkOk_by (N := nClosure) (sc := defScope s_law_closure) (by decide +kernel)) (fun _ _ _ _ _ => pg_name (i := 4) scClosure.nd rfl (Or.inr rfl))
          (fun _ _ _ _ _ => pts_one (pt_cmpR (op_eqD hr.units) (pe_lc (own := [("_law_mark", 5)]) (g := gName 5) rfl scClosure.nd (pi_list (pv 2)) (by exact blkOk_by (N := nClosure) (sc := scClo1) (by decide +kernel)) (fun _ _ _ _ _ => pg_name (i := 5) scClosure.nd rfl (Or.inl rfl))
              (fun _ _ _ _ _ => pts_one (pt_cmpR op_notIn_seq (pv 5) (pe_ix ix_list (pv 1) (pv 4) (fun _ _ => rfl)) (by rfl))) (fun _ _ _ _ _ => pv 5)) (pe_lst pa_nil) (nomark _)))
          (fun _ _ _ _ _ => pv 4)))
      (pss_one (ps_ret (pe_lc (own := [("_law_mark", 5)]) (g := gName 5) (tt := tTest (tOp (rEqD K) (tLc (iList K (tVar 3)) (gName 4) (tTest (tOp (rIn K true) (tVar 5) (tOp (rIxL K) (tVar 1) (tVar 4)))) (tVar 4) [4]) (tLst tNil))) rfl scClosure.nd
          (pi_range1 (by rfl) L.range (pa_cons (pv 0) pa_nil)) (blkOk_by (N := nClosure) (sc := defScope s_law_closure) (by decide +kernel)) (fun _ _ _ _ _ => pg_name (i := 5) scClosure.nd rfl (Or.inr rfl))
          (fun _ _ _ _ _ => pts_one (pt_cmpR (op_eqD hr.units) (pe_lc (own := [("_law_k", 4)]) (g := gName 4) rfl scClosure.nd (pi_list (pv 3)) (by exact blkOk_by (N := nClosure) (sc := scClo2) (by decide +kernel)) (fun _ _ _ _ _ => pg_name (i := 4) scClosure.nd rfl (Or.inl rfl))
              (fun _ _ _ _ _ => pts_one (pt_cmpR op_notIn_seq (pv 5) (pe_ix ix_list (pv 1) (pv 4) (fun _ _ => rfl)) (by rfl))) (fun _ _ _ _ _ => pv 4)) (pe_lst pa_nil) (nomark _)))
          (fun _ _ _ _ _ => pv 5)))), ?_⟩
    obtain ⟨as, hl, hla, hrows⟩ := gr
    have lenA : (as.map V.ref).length = mss.length := by rw [List.length_map, hla]
    have rowAt : ∀ {i : Nat} {ms : List Int}, mss[i]? = some ms → ∃ b, atI (as.map V.ref) (i : Int) = some (.ref b) ∧ SqL K H b (ms.map V.int) := fun {i ms} e => by
      have hi : i < as.length := by rw [hla]; exact (List.getElem?_eq_some_iff.mp e).1
      have ha : as[i]? = some as[i] := List.getElem?_eq_getElem hi
      obtain ⟨ms', h1, h2⟩ := hrows i _ ha
      rw [e] at h1
      cases h1
      exact ⟨as[i], atI_nat (by rw [List.getElem?_map, ha]; rfl), h2⟩
    refine ⟨_, rfl, l, _, rfl, .inl hl, _, rfl, by omega, by omega, fun D hD => ?_⟩
    rw [lenA, Int.toNat_natCast]
    refine lc_range (lo := 0) (n := mss.length) (fun i H2 => H2 D = some (.lst ((passTo (hasAt mss ns) i).map V.int)) ∧ Same H H2) ⟨upd_same, Same.up (Same.refl H) hD⟩ ?_ ?_
    · rintro i H2 hi ⟨hD2, s2⟩
      have hms : mss[i]? = some mss[i] := List.getElem?_eq_getElem hi
      obtain ⟨b, hb, hB⟩ := rowAt hms
      refine ⟨rfl, _, rfl, p, rfl, ⟨_, s2.seq hp⟩, fun D2 hD20 => ?_⟩
      refine lc_list (K := K) (a := p) (xs := ns.map V.int) (fun j H3 => H3 D2 = some (.lst ((lacking (ns.take j) mss[i]).map V.int)) ∧ Same H2 H3) ⟨upd_same, Same.up (Same.refl H2) hD20⟩ (fun j H3 _ z => z.2.seq (s2.seq hp)) ?_ ?_
      · rintro j v H3 hv ⟨hD3, s3⟩
        obtain ⟨m, hm, rfl⟩ := int_at hv
        have s23 := s2.trans s3
        refine ⟨rfl, _, rfl, _, rfl, _, rfl, l, _, _, _, rfl, rfl, s23.seq hl, by rw [Int.zero_add]; exact hb, b, _, rfl, .inl (s23.seq hB), rfl, flat_ints _, _, rfl, ?_⟩
        rw [if_pos rfl, inV_int]
        have fl : lacking (ns.take (j + 1)) mss[i] = lacking (ns.take j) mss[i] ++ (if (!decide (m ∈ mss[i])) = true then [m] else []) := filter_take _ hm
        have ll : (lacking (ns.take j) mss[i]).length ≤ ns.length := by
          refine Nat.le_trans (List.length_filter_le _ _) ?_
          rw [List.length_take]
          omega
        rw [fl]
        refine ite2 (fun c2 => ?_) (fun c2 => ?_)
        · rw [if_pos c2]
          refine ⟨_, rfl, _, hD3, by rw [List.length_map, sizeLine_eq]; omega, by rw [upd_same, List.map_append]; rfl, fun u o e => ?_⟩
          rw [upd_ne (ne_of_none e hD20)]
          exact s3 u o e
        · rw [if_neg c2, List.append_nil]
          exact ⟨hD3, s3⟩
      · rintro H3 ⟨hD3, s3⟩
        rw [List.length_map, List.take_length] at hD3
        refine ⟨Nat.zero_le _, fun e he => ?_⟩
        have De : D2 ≠ e := ne_of_none hD3 he
        refine ⟨rowD (lacking ns mss[i]), rowD [], .lst (SqL.of (by rw [upd_ne De]; exact hD3)) (dpInts _), .lst (SqL.of (xs := []) upd_same) .nil, shInts _, shInts [], _, rfl, ?_⟩
        rw [eqv_row, lacking_nil]
        have s4 := Same.up (o := .lst []) s3 he
        have hD4 := s4 _ _ hD2
        have ph : hasAt mss ns i = has mss[i] ns := by unfold hasAt; rw [hms]
        have es : passTo (hasAt mss ns) (i + 1) = passTo (hasAt mss ns) i ++ (if has mss[i] ns = true then [(i : Int)] else []) := by rw [← ph]; rfl
        have pl := passTo_len (hasAt mss ns) i
        rw [es, Int.zero_add]
        refine ite2 (fun c2 => ?_) (fun c2 => ?_)
        · rw [if_pos c2]
          refine ⟨_, rfl, _, hD4, by rw [List.length_map, sizeLine_eq]; omega, by rw [upd_same, List.map_append]; rfl, fun u o e => ?_⟩
          rw [upd_ne (ne_of_none e hD)]
          exact s4 _ _ (s2 u o e)
        · rw [if_neg c2, List.append_nil]
          exact ⟨hD4, s2.trans s4⟩
    rintro H1 ⟨hD1, s1⟩
    have hq : SqL K H1 D ((thingsOf mss ns).map V.int) := SqL.of hD1
    have hkl : (thingsOf mss ns).length ≤ 1000 := by
      have : (thingsOf mss ns).length ≤ mss.length := passTo_len _ _
      omega
    have okK : okRow mss.length (thingsOf mss ns) = true := things_ok mss ns
    generalize hks : thingsOf mss ns = ks at hq hkl okK
    generalize D = q at hq
    refine ⟨_, rfl, n, rfl, by omega, by omega, fun D hD => ?_⟩
    refine lc_range (lo := 0) (n := n.toNat) (fun i H2 => H2 D = some (.lst ((passTo (fun m => onAll (m : Int) (picked mss ks)) i).map V.int)) ∧ Same H1 H2) ⟨upd_same, Same.up (Same.refl H1) hD⟩ ?_ ?_
    · rintro i H2 hi ⟨hD2, s2⟩
      have s12 := s1.trans s2
      refine ⟨rfl, _, rfl, q, rfl, ⟨_, s2.seq hq⟩, fun D2 hD20 => ?_⟩
      refine lc_list (K := K) (a := q) (xs := ks.map V.int) (fun j H3 => H3 D2 = some (.lst ((without (i : Int) mss (ks.take j)).map V.int)) ∧ Same H2 H3) ⟨upd_same, Same.up (Same.refl H2) hD20⟩ (fun j H3 _ z => z.2.seq (s2.seq hq)) ?_ ?_
      · rintro j v H3 hv ⟨hD3, s3⟩
        obtain ⟨m, hm, rfl⟩ := int_at hv
        have hm0 := okRow_iff.mp okK m (List.mem_of_getElem? hm)
        obtain ⟨u, rfl⟩ := Int.eq_ofNat_of_zero_le hm0.1
        have hu : u < mss.length := by omega
        have hms : mss[u]? = some mss[u] := List.getElem?_eq_getElem hu
        obtain ⟨b, hb, hB⟩ := rowAt hms
        have s13 := s12.trans s3
        have gd : mss.getD ((u : Nat) : Int).toNat [] = mss[u] := by rw [Int.toNat_natCast, List.getD_eq_getElem?_getD, hms]; rfl
        refine ⟨rfl, _, rfl, _, rfl, _, rfl, l, _, _, _, rfl, rfl, s13.seq hl, hb, b, _, rfl, .inl (s13.seq hB), rfl, flat_ints _, _, rfl, ?_⟩
        rw [if_pos rfl, inV_int, Int.zero_add]
        have fl : without (i : Int) mss (ks.take (j + 1)) = without (i : Int) mss (ks.take j) ++ (if (!decide ((i : Int) ∈ mss[u])) = true then [(u : Int)] else []) := by
          rw [← gd]
          exact filter_take _ hm
        have ll : (without (i : Int) mss (ks.take j)).length ≤ ks.length := by
          refine Nat.le_trans (List.length_filter_le _ _) ?_
          rw [List.length_take]
          omega
        rw [fl]
        refine ite2 (fun c2 => ?_) (fun c2 => ?_)
        · rw [if_pos c2]
          refine ⟨_, rfl, _, hD3, by rw [List.length_map, sizeLine_eq]; omega, by rw [upd_same, List.map_append]; rfl, fun z o e => ?_⟩
          rw [upd_ne (ne_of_none e hD20)]
          exact s3 z o e
        · rw [if_neg c2, List.append_nil]
          exact ⟨hD3, s3⟩
      · rintro H3 ⟨hD3, s3⟩
        rw [List.length_map, List.take_length] at hD3
        refine ⟨Nat.zero_le _, fun e he => ?_⟩
        have De : D2 ≠ e := ne_of_none hD3 he
        refine ⟨rowD (without (i : Int) mss ks), rowD [], .lst (SqL.of (by rw [upd_ne De]; exact hD3)) (dpInts _), .lst (SqL.of (xs := []) upd_same) .nil, shInts _, shInts [], _, rfl, ?_⟩
        rw [eqv_row, without_nil]
        have s4 := Same.up (o := .lst []) s3 he
        have hD4 := s4 _ _ hD2
        have es : passTo (fun m => onAll (m : Int) (picked mss ks)) (i + 1) = passTo (fun m => onAll (m : Int) (picked mss ks)) i ++ (if onAll (i : Int) (picked mss ks) = true then [(i : Int)] else []) := rfl
        have pl := passTo_len (fun m => onAll (m : Int) (picked mss ks)) i
        rw [es, Int.zero_add]
        refine ite2 (fun c2 => ?_) (fun c2 => ?_)
        · rw [if_pos c2]
          refine ⟨_, rfl, _, hD4, by rw [List.length_map, sizeLine_eq]; omega, by rw [upd_same, List.map_append]; rfl, fun u o e => ?_⟩
          rw [upd_ne (ne_of_none e hD)]
          exact s4 _ _ (s2 u o e)
        · rw [if_neg c2, List.append_nil]
          exact ⟨hD4, s2.trans s4⟩
    · rintro H2 ⟨hD2, s2⟩
      refine k H2 D (s1.trans s2) (s1.free hD) ?_
      have ec : closedOf n mss ns = marksOf n mss ks := by unfold closedOf; rw [hks]
      rw [hD2, ec]
      rfl
theorem cut_ints (ns : List Int) (lo hi : Option Int) : ∃ ms : List Int, cutV (ns.map V.int) lo hi = ms.map V.int ∧ ms.length ≤ ns.length := by
  refine ⟨(ns.drop (HT.sIx (ns.map V.int).length 0 lo)).take (HT.sIx (ns.map V.int).length (ns.map V.int).length hi - HT.sIx (ns.map V.int).length 0 lo), ?_, ?_⟩
  · unfold cutV
    simp only [List.map_take, List.map_drop]
  · rw [List.length_take, List.length_drop]
    omega
end
end Mb

namespace Mb
open L2 PySem PySem.Spec PyProof.Rows
theorem PairsIn.same {H H1 H2 : Hp} {r : Addr} {ts : List Addr} {ps : List (List Int × List Int)} (p : PairsIn H H1 r ts ps) (s : Same H1 H2) : PairsIn H H2 r ts ps := ⟨p.len, fun i t e => by
  obtain ⟨a, b, as, bs, h1, h2, h3, h4, h5, h6⟩ := p.each i t e
  exact ⟨a, b, as, bs, h1, h2, h3, s _ _ h4, s _ _ h5, s _ _ h6⟩⟩
theorem picked_twice (rs : List (List Int × List Int)) (s : List Int) : decide (((rs.filter fun r => has s r.1).filter fun r => !has s r.2) = []) = rs.all fun r => metB r.1 r.2 s := by
  rw [Bool.eq_iff_iff, decide_eq_true_eq, List.filter_eq_nil_iff, List.all_eq_true]
  unfold metB
  constructor
  · intro h r hr
    cases c : has s r.1 with
    | false => rfl
    | true =>
      have := h r (List.mem_filter.mpr ⟨hr, c⟩)
      simpa using this
  · intro h r hr
    obtain ⟨h1, h2⟩ := List.mem_filter.mp hr
    have := h r h1
    rw [h2] at this
    have e : has s r.2 = true := by simpa using this
    rw [e]
    decide
section
variable {P : Program} {w : World} {K : PySem.W.Frag} {mg : Str → Option Value} {base : Heap} {C CS CM CT CN CE : Addr}
/-! ### what one lacks of another -/
abbrev nLacks : List Str := ["_law_one", "_law_other", "_law_mark"]
theorem scLacks : FnScope nLacks ["_law_one", "_law_other"] (defScope s_law_lacks) := ⟨rfl, rfl, rfl, by decide +kernel, rfl, by decide +kernel, by decide +kernel⟩
theorem ok_lacks {f : Addr} {fd : FuncData} (F : Fun K "_law_lacks" "_law_lacks" s_law_lacks f fd) : FnOk P w K mg base CX0 1 f fd ["_law_one", "_law_other"] (spWithout K) := by
  refine F.ok scLacks (fun vs H Q E h => ?_) (fun cdv A outer s H vs Q E hr h => ?_)
  · obtain ⟨a, b, ns, ms, rfl, _⟩ := h
    rfl
  · obtain ⟨a, b, ns, ms, rfl, hA, hB, len, k⟩ := h
    refine ⟨_, pss_one (ps_ret (pe_lc (own := [("_law_mark", 2)]) (g := gName 2) (tt := tTest (tOp (rIn K true) (tVar 2) (tVar 1))) rfl scLacks.nd (pi_list (pv 0)) (blkOk_by (N := nLacks) (sc := defScope s_law_lacks) (by decide +kernel)) (fun _ _ _ _ _ => pg_name (i := 2) scLacks.nd rfl (Or.inl rfl))
      (fun _ _ _ _ _ => pts_one (pt_cmpR op_notIn_seq (pv 2) (pv 1) (by rfl))) (fun _ _ _ _ _ => pv 2))), ?_⟩
    refine ⟨_, rfl, a, rfl, ⟨_, hA⟩, fun D hD => ?_⟩
    refine lc_list (K := K) (a := a) (xs := ns.map V.int) (fun i H2 => H2 D = some (.lst ((lacking (ns.take i) ms).map V.int)) ∧ Same H H2) ⟨upd_same, Same.up (Same.refl H) hD⟩ (fun i H2 _ z => z.2.seq hA) ?_ ?_
    · rintro i v H2 hv ⟨hD2, s2⟩
      obtain ⟨m, hm, rfl⟩ := int_at hv
      refine ⟨rfl, _, rfl, _, rfl, b, _, rfl, .inl (s2.seq hB), rfl, flat_ints _, _, rfl, ?_⟩
      rw [if_pos rfl, inV_int]
      have fl : lacking (ns.take (i + 1)) ms = lacking (ns.take i) ms ++ (if (!decide (m ∈ ms)) = true then [m] else []) := filter_take _ hm
      have ll : (lacking (ns.take i) ms).length ≤ ns.length := Nat.le_trans (List.length_filter_le _ _) (by rw [List.length_take]; omega)
      rw [fl]
      apply ite2 <;> intro c
      · rw [if_pos c]
        refine ⟨_, rfl, _, hD2, by rw [List.length_map, sizeLine_eq]; omega, by rw [upd_same, List.map_append]; rfl, fun u o e => ?_⟩
        rw [upd_ne (ne_of_none e hD)]
        exact s2 u o e
      · rw [if_neg c, List.append_nil]
        exact ⟨hD2, s2⟩
    · rintro H2 ⟨hD2, s2⟩
      rw [List.length_map, List.take_length] at hD2
      exact k H2 D s2 hD hD2
/-! ### the rules of all knots, as the law tells them -/
def spRules10 (K : PySem.W.Frag) : Sp := fun vs H Q _ => ∃ (m : Nat) (l : Addr) (mss : List (List Int)), vs = [.int m, .ref l] ∧ m ≤ 6 ∧ GridR K H l mss ∧ mss.length ≤ 60 ∧ ∀ (H' : Hp) (F : Addr), Same H H' → NewPairs H H' F (rulesOf m mss) → Q (.ref F) H'
abbrev nRules10 : List Str := ["_law_many", "_law_rows", "_law_found", "_law_marks", "_law_full", "_law_smaller", "_law_rule"]
theorem scRules10 : FnScope nRules10 ["_law_many", "_law_rows"] (defScope s_law_rules) := ⟨rfl, rfl, rfl, by decide +kernel, rfl, by decide +kernel, by decide +kernel⟩
theorem ok_rules10 {f fS fC fL : Addr} {fd fdS fdC fdL : FuncData} (F : Fun K "_law_rules" "_law_rules" s_law_rules f fd) (L : LTxt K mg)
    (GS : FnOk P w K mg base CX0 1 fS fdS ["_law_many"] spSets10) (gS : mg "_law_sets" = some (.ref fS)) (kS : PySem.W.keepIn K (.ref fS) = true) (bS : Binds K fdS ["_law_many"] [])
    (GC : FnOk P w K mg base CX0 1 fC fdC ["_law_many", "_law_rows", "_law_marks"] (spClosure K)) (gC : mg "_law_closure" = some (.ref fC)) (kC : PySem.W.keepIn K (.ref fC) = true) (bC : Binds K fdC ["_law_many", "_law_rows", "_law_marks"] [])
    (GL : FnOk P w K mg base CX0 1 fL fdL ["_law_one", "_law_other"] (spWithout K)) (gL : mg "_law_lacks" = some (.ref fL)) (kL : PySem.W.keepIn K (.ref fL) = true) (bL : Binds K fdL ["_law_one", "_law_other"] []) :
    FnOk P w K mg base CX0 2 f fd ["_law_many", "_law_rows"] (spRules10 K) := by
  refine F.ok scRules10 (fun vs H Q E h => ?_) (fun cdv A outer s H vs Q E hr h => ?_)
  · obtain ⟨m, l, mss, rfl, _⟩ := h
    rfl
  · obtain ⟨m, l, mss, rfl, m6, gr, few, k⟩ := h
    have hr1 := hr.mono (j := 1) (by decide)
    refine ⟨_, pss_cons (ps_set (i := 2) scRules10.nd rfl (Or.inl rfl) (pe_lst pa_nil))
      (pss_cons (ps_for PassesOwn.never rfl (pi_list (pe_call GS hr1 (by rfl) gS kS bS .nil pass0 (pa_cons (pv 0) pa_nil))) (pg_name (i := 3) scRules10.nd rfl (Or.inr rfl))
        (pss_cons (ps_set (i := 4) scRules10.nd rfl (Or.inl rfl) (pe_call GC hr1 (by rfl) gC kC bC .nil pass0 (pa_cons (pv 0) (pa_cons (pv 1) (pa_cons (pv 3) pa_nil)))))
        (C8.pss_cut (ps_setLc (i := 5) (own := [("_law_rule", 6)]) (g := gName 6) (tt := tTest (tOp (rEqD K) (tCall (spWithout K) [] E0 (tCons (tOp (rIxT K) (tVar 6) (tC (.int 0))) (tCons (tVar 3) tNil))) (tLst tNil))) (te := tVar 6) rfl scRules10.nd rfl rfl (sw_true rfl rfl rfl (by decide +kernel)) (pi_list (pv 2)) (blkOk_by (N := nRules10) (sc := defScope s_law_rules) (by decide +kernel)) (fun _ _ _ _ _ => pg_name (i := 6) scRules10.nd rfl (Or.inl rfl))
            (fun _ _ _ _ _ => pts_one (pt_cmpR (op_eqD hr.units) (pe_call GL hr1 (by rfl) gL kL bL .nil pass0 (pa_cons (pe_ix ix_tup (pv 6) pe_int (fun _ _ => rfl)) (pa_cons (pv 3) pa_nil))) (pe_lst pa_nil) (nomark _))) (fun _ _ _ _ _ => pv 6))
        (pss_one (ps_if (PW.pt (pw_and (pt_cmpR (op_neD hr.units) (pv 4) (pv 3) (nomark _)) (pw_and1 (pt_cmpR (op_eqD hr.units) (pe_lc (own := [("_law_rule", 6)]) (g := gName 6) (tt := tTest (tOp (rNeD K) (tCall (spWithout K) [] E0 (tCons (tOp (rIxT K) (tVar 6) (tC (.int 1))) (tCons (tVar 3) tNil))) (tLst tNil))) (te := tVar 6) rfl scRules10.nd (pi_list (pv 5)) (blkOk_by (N := nRules10) (sc := defScope s_law_rules) (by decide +kernel)) (fun _ _ _ _ _ => pg_name (i := 6) scRules10.nd rfl (Or.inl rfl))
              (fun _ _ _ _ _ => pts_one (pt_cmpR (op_neD hr.units) (pe_call GL hr1 (by rfl) gL kL bL .nil pass0 (pa_cons (pe_ix ix_tup (pv 6) pe_int (fun _ _ => rfl)) (pa_cons (pv 3) pa_nil))) (pe_lst pa_nil) (nomark _))) (fun _ _ _ _ _ => pv 6)) (pe_lst pa_nil) (nomark _)))))
          (pss_one (ps_expr (pe_bm PySem.F.plainAttrs_list PySem.F.slot_list_append PySem.F.type_list_append mt_append (pv 2) (pa_cons (pe_tup (pa_cons (pv 3) (pa_cons (pe_call GL hr1 (by rfl) gL kL bL .nil pass0 (pa_cons (pv 4) (pa_cons (pv 3) pa_nil))) pa_nil))) pa_nil)))) pss_nil)))))
      (pss_one (ps_ret (pv 2)))), ?_⟩
    have at0 : ∀ y z : Addr, atI [V.ref y, V.ref z] 0 = some (.ref y) := fun _ _ => rfl
    have at1 : ∀ y z : Addr, atI [V.ref y, V.ref z] 1 = some (.ref z) := fun _ _ => rfl
    have fewS := sets_few (n := m) (by omega)
    refine ⟨Nat.zero_le _, fun R hR => ?_⟩
    have sR : Same H (upd H R (.lst [])) := Same.up (Same.refl H) hR
    have gR : (upd H R (.lst [])) R = some (.lst []) := upd_same
    have oR : ∀ b : Addr, (upd H R (.lst [])) b = none → H b = none ∧ b ≠ R := fun b e => by
      have ne : b ≠ R := fun z => by rw [z, upd_same] at e; cases e
      rw [upd_ne ne] at e
      exact ⟨e, ne⟩
    generalize upd H R (.lst []) = H0 at sR gR oR
    refine ⟨_, rfl, m, rfl, m6, fun H1 S Ls s1 nS hS1 rows1 eS => ?_⟩
    have RS : R ≠ S := fun z => by rw [← z, gR] at nS; cases nS
    have offR : ∀ p ∈ Ls, H p.1 = none ∧ p.1 ≠ R := fun p hp => oR _ (rows1 p hp).1
    have lenS : Ls.length = (setsOf m).length := by rw [← eS, List.length_map]
    refine ⟨S, rfl, ⟨_, SqL.of hS1⟩, for_list (K := K) (a := S) (xs := refL Ls) (fun i σ H' => ∃ (v3 v4 v5 : Option V) (ts : List Addr) (found : List (List Int)), σ = [some (.int m), some (.ref l), some (.ref R), v3, v4, v5, none] ∧ Same H H' ∧ H' S = some (.lst (refL Ls)) ∧ RowsL H0 H' Ls ∧
        H' R = some (.lst (ts.map V.ref)) ∧ PairsIn H H' R ts (found.map (ruleOf m mss)) ∧ knotsIn m mss ((setsOf m).drop i) found = knotsIn m mss (setsOf m) [] ∧ found.length ≤ i ∧ ∀ q ∈ found, q.length ≤ 1000)
      ⟨none, none, none, [], [], rfl, sR.trans s1, hS1, rows1, s1 _ _ gR, PairsIn.nil, rfl, Nat.le_refl _, fun q hq => (by cases hq)⟩ (fun i σ H' _ ⟨_, _, _, _, _, _, _, w, _⟩ => SqL.of w) ?_ ?_⟩
    · rintro i y σ H2 hy ⟨v3, v4, v5, ts, found, rfl, s2, hS2, rows2, hR2, P2, run, small, short⟩
      obtain ⟨pa, hpa, rfl⟩ : ∃ pa : Addr × List Int, Ls[i]? = some pa ∧ y = .ref pa.1 := by
        rw [List.getElem?_map] at hy
        obtain ⟨pa, h1, h2⟩ := Option.map_eq_some_iff.mp hy
        exact ⟨pa, h1, h2.symm⟩
      obtain ⟨a, s⟩ := pa
      have hin := List.mem_of_getElem? hpa
      have hA : H2 a = some (.lst (s.map V.int)) := (rows2 _ hin).2
      obtain ⟨nHa, aR⟩ := offR _ hin
      have hs : (setsOf m)[i]? = some s := by rw [← eS, List.getElem?_map, hpa]; rfl
      have i1 : i < (setsOf m).length := (List.getElem?_eq_some_iff.mp hs).1
      have hs2 : (setsOf m)[i] = s := (List.getElem?_eq_some_iff.mp hs).2
      have set : SetIn (m : Int) s := sets_all.mp (List.mem_of_getElem? hs)
      have sl := rise_short set
      rw [List.drop_eq_getElem_cons i1, hs2] at run
      have sl60 : s.length ≤ 1000 := by omega
      refine ⟨_, rfl, _, rfl, _, rfl, l, a, (m : Int), mss, s, rfl, by omega, by omega, GridR.same gr s2, few, SqL.of hA, sl60, fun H3 p s3 np hp => ?_⟩
      have s23 := s2.trans s3
      have hR3 := s3 _ _ hR2
      have hA3 := s3 _ _ hA
      have P3 := P2.same s3
      have fl : found.length ≤ 1000 := by omega
      have tl : ts.length = found.length := by rw [P3.len, List.length_map]
      have cl8 := rise_short (closed_set (n := m) (mss := mss) (a := s))
      have short3 : ∀ r ∈ found.map (ruleOf m mss), r.2.length ≤ 1000 := fun r hr => by
        obtain ⟨q, hq, rfl⟩ := List.mem_map.mp hr
        have h1 := rise_short (closed_set (n := m) (mss := mss) (a := q))
        have : (lacking (closedOf m mss q) q).length ≤ (closedOf m mss q).length := List.length_filter_le _ _
        show (lacking (closedOf m mss q) q).length ≤ 1000
        omega
      -- the smaller ones
      refine ⟨fun σ H' => ∃ (D : Addr) (us : List Addr), σ = [some (.int m), some (.ref l), some (.ref R), some (.ref a), some (.ref p), some (.ref D), none] ∧ Same H3 H' ∧ H' D = some (.lst (us.map V.ref)) ∧ PairsQ K H3 us ((found.map (ruleOf m mss)).filter fun r => has s r.1), ?_, ?_⟩
      · refine ⟨_, rfl, R, rfl, ⟨_, SqL.of hR3⟩, fun D hD => ?_⟩
        refine lc_list (K := K) (a := R) (xs := ts.map V.ref) (fun j H4 => ∃ us : List Addr, H4 D = some (.lst (us.map V.ref)) ∧ Same H3 H4 ∧ PairsQ K H3 us (((found.map (ruleOf m mss)).take j).filter fun r => has s r.1)) ⟨[], upd_same, Same.up (Same.refl H3) hD, PairsQ.nil⟩ (fun j H4 _ ⟨_, _, s4, _⟩ => SqL.of (s4 _ _ hR3)) ?_ ?_
        · rintro j y H4 hy ⟨us, hD4, s4, pq⟩
          obtain ⟨t, ht, rfl⟩ := ref_at hy
          obtain ⟨p', q', as', bs', e', _, _, hT', hP', hQ'⟩ := P3.each j t ht
          have jl := (List.getElem?_eq_some_iff.mp ht).1
          refine ⟨rfl, _, rfl, t, _, _, _, rfl, rfl, SqT.of (s4 _ _ hT'), at0 p' q', _, rfl, p', a, as', s, rfl, SqL.of (s4 _ _ hP'), SqL.of (s4 _ _ hA3), ?_, fun H5 z s5 nz hz => ⟨Nat.zero_le _, fun e he => ?_⟩⟩
          · rw [List.getElem?_map] at e'
            obtain ⟨kn, ek, er⟩ := Option.map_eq_some_iff.mp e'
            cases er
            exact short _ (List.mem_of_getElem? ek)
          have ze : z ≠ e := ne_of_none hz he
          have s6 : Same H5 (upd H5 e (.lst [])) := Same.up (Same.refl H5) he
          refine ⟨rowD (lacking as' s), rowD [], .lst (SqL.of (s6 _ _ hz)) (dpInts _), .lst (SqL.of (xs := []) upd_same) .nil, shInts _, shInts [], _, rfl, ?_⟩
          rw [eqv_row, lacking_nil, filter_take _ e']
          have s46 := s4.trans (s5.trans s6)
          have hD6 := (s5.trans s6) _ _ hD4
          refine ite2 (fun cc => ?_) (fun cc => ?_)
          · rw [if_pos cc]
            have cl : us.length ≤ 1000 := by
              rw [pq.len]
              refine Nat.le_trans (List.length_filter_le _ _) ?_
              rw [List.length_take]
              omega
            refine ⟨_, rfl, _, hD6, by rw [List.length_map, sizeLine_eq]; omega, us ++ [t], by rw [upd_same, List.map_append]; rfl, fun u o e => ?_, pq.snoc (SqT.of hT') (SqL.of hP') (SqL.of hQ')⟩
            rw [upd_ne (ne_of_none e hD)]
            exact s46 u o e
          · rw [if_neg cc, List.append_nil]
            exact ⟨us, hD6, s46, pq⟩
        · rintro H4 ⟨us, hD4, s4, pq⟩
          rw [List.length_map, P3.len, List.take_length] at pq
          exact ⟨D, us, rfl, s4, hD4, pq⟩
      rintro σ H4 ⟨D, us, rfl, s4, hD4, pq4⟩
      have s24 := s23.trans s4
      have hR4 := s4 _ _ hR3
      have hA4 := s4 _ _ hA3
      have P4 := P3.same s4
      have S4 := (s3.trans s4) _ _ hS2
      have rows4 := rows2.same (s3.trans s4)
      have same : ∀ H5, Same H4 H5 → isKnot m mss found s = false → ∃ (v3 v4 v5 : Option V) (ts : List Addr) (found : List (List Int)), [some (V.int m), some (.ref l), some (.ref R), some (.ref a), some (.ref p), some (.ref D), none] = [some (V.int m), some (.ref l), some (.ref R), v3, v4, v5, none] ∧ Same H H5 ∧ H5 S = some (.lst (refL Ls)) ∧ RowsL H0 H5 Ls ∧
          H5 R = some (.lst (ts.map V.ref)) ∧ PairsIn H H5 R ts (found.map (ruleOf m mss)) ∧ knotsIn m mss ((setsOf m).drop (i + 1)) found = knotsIn m mss (setsOf m) [] ∧ found.length ≤ i + 1 ∧ ∀ q ∈ found, q.length ≤ 1000 := fun H5 s5 e => by
        refine ⟨_, _, _, ts, found, rfl, s24.trans s5, s5 _ _ S4, rows4.same s5, s5 _ _ hR4, P4.same s5, ?_, by omega, short⟩
        rw [knotsIn, e, if_neg Bool.false_ne_true] at run
        exact run
      refine ⟨_, rfl, _, rfl, rowD (closedOf m mss s), rowD s, .lst (SqL.of (s4 _ _ hp)) (dpInts _), .lst (SqL.of hA4) (dpInts _), shInts _, shInts _, _, rfl, ?_⟩
      rw [eqv_row]
      cases ne : decide (closedOf m mss s = s) with
      | true => exact iteF (iteF (same H4 (Same.refl H4) (by rw [all_met, ne]; rfl)))
      | false =>
        refine iteT ?_
        refine ⟨_, rfl, D, rfl, ⟨_, SqL.of hD4⟩, fun D2 hD2 => ?_⟩
        obtain ⟨ps, hps⟩ : ∃ ps, ps = (found.map (ruleOf m mss)).filter fun r => has s r.1 := ⟨_, rfl⟩
        rw [← hps] at pq4
        have shortP : ∀ r ∈ ps, r.2.length ≤ 1000 := fun r hr => short3 r (by rw [hps] at hr; exact (List.mem_filter.mp hr).1)
        have lenP : ps.length ≤ 1000 := by
          rw [hps]
          refine Nat.le_trans (List.length_filter_le _ _) ?_
          rw [List.length_map]
          exact fl
        refine lc_list (K := K) (a := D) (xs := us.map V.ref) (fun j H5 => ∃ zs : List Addr, H5 D2 = some (.lst (zs.map V.ref)) ∧ Same H4 H5 ∧ PairsQ K H4 zs ((ps.take j).filter fun r => !has s r.2)) ⟨[], upd_same, Same.up (Same.refl H4) hD2, PairsQ.nil⟩ (fun j H5 _ ⟨_, _, s5, _⟩ => SqL.of (s5 _ _ hD4)) ?_ ?_
        · rintro j y H5 hy ⟨zs, hD5, s5, pq⟩
          obtain ⟨t, ht, rfl⟩ := ref_at hy
          obtain ⟨p', q', as', bs', e', hT', hP', hQ'⟩ := pq4.each j t ht
          have s45 := s4.trans s5
          refine ⟨rfl, _, rfl, t, _, _, _, rfl, rfl, same_tup s45 hT', at1 p' q', _, rfl, q', a, bs', s, rfl, s45.seq hQ', SqL.of (s45 _ _ hA3), shortP _ (List.mem_of_getElem? e'), fun H6 z s6 nz hz => ⟨Nat.zero_le _, fun e he => ?_⟩⟩
          have s7 : Same H6 (upd H6 e (.lst [])) := Same.up (Same.refl H6) he
          refine ⟨rowD (lacking bs' s), rowD [], .lst (SqL.of (s7 _ _ hz)) (dpInts _), .lst (SqL.of (xs := []) upd_same) .nil, shInts _, shInts [], _, rfl, ?_⟩
          rw [eqv_row, lacking_nil, filter_take _ e']
          have s57 := s5.trans (s6.trans s7)
          have hD7 := (s6.trans s7) _ _ hD5
          refine ite2 (fun cc => ?_) (fun cc => ?_)
          · rw [if_pos cc]
            have cl : zs.length ≤ 1000 := by
              rw [pq.len]
              refine Nat.le_trans (List.length_filter_le _ _) ?_
              rw [List.length_take]
              omega
            refine ⟨_, rfl, _, hD7, by rw [List.length_map, sizeLine_eq]; omega, zs ++ [t], by rw [upd_same, List.map_append]; rfl, fun u o e => ?_, pq.snoc (same_tup s4 hT') (s4.seq hP') (s4.seq hQ')⟩
            rw [upd_ne (ne_of_none e hD2)]
            exact s57 u o e
          · rw [if_neg cc, List.append_nil]
            exact ⟨zs, hD7, s57, pq⟩
        · rintro H5 ⟨zs, hD5, s5, pq⟩
          rw [List.length_map, pq4.len, List.take_length] at pq
          refine ⟨Nat.zero_le _, fun e he => ?_⟩
          have s6 : Same H5 (upd H5 e (.lst [])) := Same.up (Same.refl H5) he
          refine ⟨pairsD (ps.filter fun r => !has s r.2), pairsD [], ((pq.same s5).same s6).dp (s6 _ _ hD5), .lst (SqL.of (xs := []) upd_same) .nil, shPairs _, shPairs [], _, rfl, ?_⟩
          rw [eqv_pairs, hps, picked_twice]
          have kn : isKnot m mss found s = (found.map (ruleOf m mss)).all fun r => metB r.1 r.2 s := by rw [all_met, ne]; rfl
          rw [← kn]
          have s46 := s5.trans s6
          generalize upd H5 e (.lst []) = H6 at s46
          cases ck : isKnot m mss found s with
          | false => exact iteF (same H6 s46 ck)
          | true =>
            refine iteT ?_
            rw [knotsIn, ck, if_pos rfl] at run
            have hR6 := s46 _ _ hR4
            refine ⟨_, rfl, .inl ⟨rfl, _, SqL.of hR6⟩, _, rfl, _, rfl, _, rfl, p, a, _, s, rfl, SqL.of ((s4.trans s46) _ _ hp), SqL.of (s46 _ _ hA4), by omega, fun H7 q7 s7 nq hq7 => ⟨(by show 2 ≤ sizeLine; decide), fun t ht => ?_⟩⟩
            have R7 := s7 _ _ hR6
            have tR : t ≠ R := ne_of_none R7 ht |>.symm
            have s8 : Same H7 (upd H7 t (.tup [.ref a, .ref q7])) := Same.up (Same.refl H7) ht
            have g8 : (upd H7 t (.tup [.ref a, .ref q7])) t = some (.tup [.ref a, .ref q7]) := upd_same
            generalize upd H7 t (.tup [.ref a, .ref q7]) = H8 at s8 g8
            refine ⟨R, _, _, rfl, rfl, s8 _ _ R7, by rw [List.length_map, sizeLine_eq]; omega, ?_⟩
            have s48 := s46.trans (s7.trans s8)
            have P8 := (P4.same s48).snoc (t := t) (a := a) (b := q7) (as := s) (bs := lacking (closedOf m mss s) s) ⟨(s24.trans (s46.trans s7)).free ht, nHa, (s24.trans s46).free nq⟩
              ⟨tR, aR, fun z => by rw [z, hR6] at nq; cases nq⟩ g8 (s48 _ _ hA4) (s8 _ _ hq7)
            have keep : ∀ (b : Addr) (o : HO), H4 b = some o → b ≠ R → (upd H8 R (.lst (ts.map V.ref ++ [V.ref t]))) b = some o := fun b o e ne => by
              rw [upd_ne ne]
              exact s48 b o e
            refine ⟨_, _, _, ts ++ [t], found ++ [s], rfl, fun b o e => ?_, keep _ _ S4 (Ne.symm RS), fun q hq => ⟨(rows4 q hq).1, keep _ _ (rows4 q hq).2 (offR q hq).2⟩, ?_, ?_, run, ?_, fun q hq => ?_⟩
            · exact keep b o (s24 b o e) (fun z => by rw [z, hR] at e; cases e)
            · rw [upd_same, List.map_append]; rfl
            · rw [List.map_append]
              exact P8.put
            · simp only [List.length_append, List.length_singleton]; omega
            · rcases (List.mem_append).1 hq with z | z
              · exact short q z
              · rw [(List.mem_singleton).1 z]
                exact sl60
    · rintro σ H2 ⟨v3, v4, v5, ts, found, rfl, s2, hS2, rows2, hR2, P2, run, small, short⟩
      have ll : (refL Ls).length = (setsOf m).length := by rw [List.length_map, lenS]
      rw [ll, List.drop_length] at run
      refine ⟨_, rfl, k H2 R s2 (PairsIn.told ?_ hR hR2)⟩
      have e : rulesOf m mss = found.map (ruleOf m mss) := by
        unfold rulesOf
        rw [Int.toNat_natCast, ← run]
        rfl
      rw [e]
      exact P2
end
end Mb

namespace Mb
open L2 PySem PySem.Spec PyProof.Rows
section
variable {P : Program} {w : World} {K : PySem.W.Frag} {mg : Str → Option Value} {base : Heap} {C CS CM CT : Addr}
/-! ### box_with(table, marks) -/
def spBoxWith (K : PySem.W.Frag) (C : Addr) (Ts : List Addr) : Sp := fun vs H Q _ => ∃ (x a : Addr) (n : Int) (mss : List (List Int)) (ns : List Int), vs = [.ref x, .ref a] ∧ TabAt C H x n mss ∧ SqL K H a (ns.map V.int) ∧ okRow n ns = true ∧ Tabs Ts H ∧
  ∀ (H' : Hp) (t p q : Addr), Kp Ts H H' → (H t = none ∧ H p = none ∧ H q = none ∧ p ≠ q) → H' t = some (.tup [.ref p, .ref q]) → H' p = some (.lst ((thingsOf mss ns).map V.int)) → H' q = some (.lst ((closedOf n mss ns).map V.int)) → Q (.ref t) H'
abbrev nBoxWith : List Str := ["table", "marks", "things"]
theorem scBoxWith : FnScope nBoxWith ["table", "marks"] (defScope s_box_with) := ⟨rfl, rfl, rfl, by decide +kernel, rfl, by decide +kernel, by decide +kernel⟩
theorem ok_boxWith {f fW fO : Addr} {fd fdW fdO : FuncData} {Ts : List Addr} (F : Fun K "box_with" "box_with" s_box_with f fd) (cl : Cls K C)
    (GW : FnOk P w K mg base (L2.CX P w) 3 fW fdW ["self", "marks"] (spWith K C CM Ts)) (mW : Meth K C "things_with" fW) (bW : Binds K fdW ["self", "marks"] [])
    (GO : FnOk P w K mg base (L2.CX P w) 3 fO fdO ["self", "things"] (spOf K C CT Ts)) (mO : Meth K C "marks_of" fO) (bO : Binds K fdO ["self", "things"] []) :
    FnOk P w K mg base CX0 4 f fd ["table", "marks"] (spBoxWith K C Ts) := by
  refine F.ok scBoxWith (fun vs H Q E h => ?_) (fun cdv A outer s H vs Q E hr h => ?_)
  · obtain ⟨x, a, n, mss, ns, rfl, _⟩ := h
    rfl
  · obtain ⟨x, a, n, mss, ns, rfl, tab, hS, ok, tb, k⟩ := h
    refine ⟨_, pss_cons (ps_set (i := 2) scBoxWith.nd rfl (Or.inl rfl) (pe_meth (pv 0) cl mW GW hr bW .nil passL (pa_cons (pv 1) pa_nil)))
      (pss_one (ps_ret (pe_tup (pa_cons (pv 2) (pa_cons (pe_meth (pv 0) cl mO GO hr bO .nil passL (pa_cons (pv 2) pa_nil)) pa_nil))))), ?_⟩
    obtain ⟨dx, r, us, hx, hr0, hT⟩ := tab.ob
    have no1 : (tf n r).lookup ("things_with" : Str) = none := tf_no (by decide +kernel) (by decide +kernel)
    have no2 : (tf n r).lookup ("marks_of" : Str) = none := tf_no (by decide +kernel) (by decide +kernel)
    refine ⟨_, rfl, x, dx, _, rfl, hx, no1, _, rfl, x, a, n, mss, ns, rfl, tab, hS, tb, fun w => ?_, fun _ H1 p kp1 np hp => ?_⟩
    · rw [ok] at w; cases w
    have tl : (thingsOf mss ns).length ≤ mss.length := passTo_len _ _
    have few := tab.few
    refine ⟨_, rfl, _, rfl, x, dx, _, rfl, kp1.ins hx, no2, _, rfl, x, p, n, mss, _, rfl, tab.kp kp1, SqL.of hp, by omega, kp1.t1, fun w => ?_, fun _ H2 q kp2 nq hq => ⟨(by show 2 ≤ sizeLine; decide), fun t ht => ?_⟩⟩
    · rw [things_ok] at w; cases w
    have kp3 : Kp Ts H2 (upd H2 t (.tup [.ref p, .ref q])) := (Kp.refl kp2.t1).new ht
    have k12 := kp1.trans kp2
    exact k _ t p q (k12.trans kp3) ⟨k12.free ht, np, kp1.free nq, ne_of_none hp nq⟩ upd_same (kp3.lst (kp2.lst hp)) (kp3.lst hq)
/-! ### boxes(table) -/
def fullSets (n : Int) (mss : List (List Int)) : List (List Int) := (setsOf n.toNat).filter fun s => decide (closedOf n mss s = s)
/-- all boxes, in their order -/
def boxesOf (n : Int) (mss : List (List Int)) : List (List Int × List Int) := (fullSets n mss).map fun s => (thingsOf mss s, s)
theorem full_mem {n : Int} {mss : List (List Int)} (h0 : 0 ≤ n) {s : List Int} : s ∈ fullSets n mss ↔ SetIn n s ∧ closedOf n mss s = s := by
  rcases Int.eq_ofNat_of_zero_le h0 with ⟨m, rfl⟩
  unfold fullSets
  rw [List.mem_filter, Int.toNat_natCast, sets_all, decide_eq_true_eq]
theorem full_ord (n : Int) (mss : List (List Int)) : (fullSets n mss).Pairwise before := (sets_ord _).sublist List.filter_sublist
theorem full_few {n : Int} (h0 : 0 ≤ n) (h8 : n ≤ 8) (mss : List (List Int)) : (fullSets n mss).length ≤ 1000 := by
  rcases Int.eq_ofNat_of_zero_le h0 with ⟨m, rfl⟩
  exact Nat.le_trans (List.length_filter_le _ _) (sets_few (by omega))
theorem boxes_small : Small boxesOf := fun n mss h0 h8 few => by
  refine ⟨by unfold boxesOf; rw [List.length_map]; exact full_few h0 h8 mss, fun p hp => ?_⟩
  obtain ⟨s, hs, rfl⟩ := List.mem_map.mp hp
  have l1 := set_short h0 h8 ((full_mem h0).mp hs).1
  have l2 : (thingsOf mss s).length ≤ mss.length := passTo_len _ _
  exact ⟨by show (thingsOf mss s).length ≤ 1000; omega, by show s.length ≤ 1000; omega⟩
abbrev nBoxes : List Str := ["table", "closed_sets", "marks"]
theorem scBoxes : FnScope nBoxes ["table"] (defScope s_boxes) := ⟨rfl, rfl, rfl, by decide +kernel, rfl, by decide +kernel, by decide +kernel⟩
theorem ok_boxes {f fA fB fC : Addr} {fd fdA fdB fdC : FuncData} {Ts : List Addr} {kP : Nat} (h4 : 4 ≤ kP) (F : Fun K "boxes" "boxes" s_boxes f fd) (cl : Cls K C) (nM : NoAttr K C "many")
    (GA : FnOk P w K mg base CX0 1 fA fdA ["many"] spSets) (gA : mg "all_sets" = some (.ref fA)) (kA : PySem.W.keepIn K (.ref fA) = true) (bA : Binds K fdA ["many"] [])
    (GC : FnOk P w K mg base (L2.CX P w) 4 fC fdC ["self", "marks"] (spClosed K C CM Ts)) (mC : Meth K C "closed" fC) (bC : Binds K fdC ["self", "marks"] [])
    (GB : FnOk P w K mg base CX0 4 fB fdB ["table", "marks"] (spBoxWith K C Ts)) (gB : mg "box_with" = some (.ref fB)) (kB : PySem.W.keepIn K (.ref fB) = true) (bB : Binds K fdB ["table", "marks"] []) :
    FnOk P w K mg base CX0 (kP + 1) f fd ["table"] (spPairs C Ts boxesOf) := by
  refine F.ok scBoxes (fun vs H Q E h => ?_) (fun cdv A outer s H vs Q E hr h => ?_)
  · obtain ⟨x, n, mss, rfl, _⟩ := h
    rfl
  · obtain ⟨x, n, mss, rfl, tab, tb, k⟩ := h
    have hr4 : Room 4 _ := hr.mono h4
    have hr1 : Room 1 _ := hr.mono (by omega)
    refine ⟨_, pss_cons (ps_setLc (i := 1) (own := [("marks", 2)]) (g := gName 2) (tt := tTest (tOp (rEqD K) (tMeth C "closed" (spClosed K C CM Ts) [] E0 (tVar 0) (tCons (tVar 2) tNil)) (tVar 2))) rfl scBoxes.nd rfl rfl (sw_true rfl rfl rfl (by decide +kernel))
          (pi_list (pe_call GA hr1 (by rfl) gA kA bA .nil pass0 (pa_cons (pe_fld (pv 0) rfl) pa_nil))) (blkOk_by (N := nBoxes) (sc := defScope s_boxes) (by decide +kernel)) (fun _ _ _ _ _ => pg_name (i := 2) scBoxes.nd rfl (Or.inl rfl))
          (fun _ _ _ _ _ => pts_one (pt_cmpR (op_eqD hr.units) (pe_meth (pv 0) cl mC GC hr4 bC .nil passL (pa_cons (pv 2) pa_nil)) (pv 2) (nomark _))) (fun _ _ _ _ _ => pv 2))
      (pss_one (ps_ret (pe_lc (own := [("marks", 2)]) (g := gName 2) (tt := tYes) (te := tCall (spBoxWith K C Ts) [] E0 (tCons (tVar 0) (tCons (tVar 2) tNil))) rfl scBoxes.nd
          (pi_list (pv 1)) (blkOk_by (N := nBoxes) (sc := defScope s_boxes) (by decide +kernel)) (fun _ _ _ _ _ => pg_name (i := 2) scBoxes.nd rfl (Or.inl rfl)) (fun _ _ _ _ _ => pts_nil)
          (fun _ _ _ _ _ => pe_call GB hr4 (by rfl) gB kB bB .nil pass0 (pa_cons (pv 0) (pa_cons (pv 2) pa_nil)))))), ?_⟩
    obtain ⟨m, rfl⟩ := Int.eq_ofNat_of_zero_le tab.lo
    have m9 : m < 9 := by have := tab.hi; omega
    have tat : TabAt C H x m mss := tab.at
    obtain ⟨dx, r, us, hx, hr0, hT, _⟩ := tab.ob
    have few := sets_few m9
    have no : (tf (m : Int) r).lookup ("closed" : Str) = none := tf_no (by decide +kernel) (by decide +kernel)
    refine ⟨_, rfl, x, C, dx, _, _, rfl, hx, cl, nM, tf_many _ _, m, rfl, m9, fun H1 l as N => ?_⟩
    have kp1 : Kp Ts H H1 := Kp.of_same tb N.same
    have al : as.length = (setsOf m).length := N.rows.1
    refine ⟨l, rfl, ⟨_, SqL.of N.lst⟩, fun D hD => ?_⟩
    refine lc_list (K := K) (a := l) (xs := as.map V.ref) (fun i H2 => ∃ cs : List Addr, H2 D = some (.lst (cs.map V.ref)) ∧ Kp Ts H1 H2 ∧ RowsAt H1 cs (((setsOf m).take i).filter fun s => decide (closedOf m mss s = s)))
      ⟨[], upd_same, (Kp.refl kp1.t1).new hD, RowsAt.nil⟩ (fun i H2 _ ⟨_, _, z, _⟩ => SqL.of (z.lst N.lst)) ?_ ?_
    · rintro i y H2 hy ⟨cs, hD2, kp2, rows⟩
      obtain ⟨a, ha, rfl⟩ := ref_at hy
      obtain ⟨s, hs, hA⟩ := N.rows.2 i a ha
      have i1 : i < (setsOf m).length := (List.getElem?_eq_some_iff.mp hs).1
      have set : SetIn (m : Int) s := sets_all.mp (List.mem_of_getElem? hs)
      have ok : okRow m s = true := okRow_iff.mpr set.2
      have kp12 := kp1.trans kp2
      refine ⟨rfl, _, rfl, x, dx, _, rfl, kp12.ins hx, no, _, rfl, x, a, m, mss, s, rfl, tat.kp kp12, SqL.of (kp2.lst hA), kp2.t1, fun w => ?_, fun _ H3 p kp3 np hp => ?_⟩
      · rw [ok] at w; cases w
      refine ⟨_, rfl, rowD (closedOf m mss s), rowD s, .lst (SqL.of hp) (dpInts _), .lst (SqL.of (kp3.lst (kp2.lst hA))) (dpInts _), shInts _, shInts _, _, rfl, ?_⟩
      rw [eqv_row, filter_take _ hs]
      have D3 := kp3.lst hD2
      apply ite2 <;> intro c
      · rw [if_pos c]
        have cl8 : cs.length ≤ 1000 := by
          rw [rows.1]
          refine Nat.le_trans (List.length_filter_le _ _) ?_
          rw [List.length_take]
          omega
        refine ⟨_, rfl, _, D3, by rw [List.length_map, sizeLine_eq]; omega, cs ++ [a], by rw [upd_same, List.map_append]; rfl, (kp2.trans kp3).own hD (kp1.t1.outN hD), rows.snoc hA⟩
      · rw [if_neg c, List.append_nil]
        exact ⟨cs, D3, kp2.trans kp3, rows⟩
    · rintro H2 ⟨cs, hD2, kp2, rows⟩
      rw [List.length_map, al, List.take_length] at rows
      have rows : RowsAt H1 cs (fullSets m mss) := by unfold fullSets; rw [Int.toNat_natCast]; exact rows
      have kp12 := kp1.trans kp2
      refine ⟨_, rfl, D, rfl, ⟨_, SqL.of hD2⟩, fun R hR => ?_⟩
      refine lc_list (K := K) (a := D) (xs := cs.map V.ref) (fun i H3 => ∃ ts : List Addr, H3 R = some (.lst (ts.map V.ref)) ∧ Kp Ts H2 H3 ∧ PairsIn H H3 R ts ((boxesOf m mss).take i))
        ⟨[], upd_same, (Kp.refl kp2.t1).new hR, PairsIn.nil⟩ (fun i H3 _ ⟨_, _, z, _⟩ => SqL.of (z.lst hD2)) ?_ ?_
      · rintro i y H3 hy ⟨ts, hR3, kp3, P3⟩
        obtain ⟨a, ha, rfl⟩ := ref_at hy
        obtain ⟨s, hs, hA⟩ := rows.2 i a ha
        have full := (full_mem tab.lo).mp (List.mem_of_getElem? hs)
        have ok : okRow m s = true := okRow_iff.mpr full.1.2
        have kp13 := kp12.trans kp3
        refine ⟨rfl, _, rfl, _, rfl, x, a, m, mss, s, rfl, tat.kp kp13, SqL.of (kp3.lst (kp2.lst hA)), ok, kp3.t1, fun H4 t p q kp4 ⟨n1, n2, n3, _⟩ ht hp hq => ?_⟩
        rw [full.2] at hq
        have R4 := kp4.lst hR3
        have tl : ts.length ≤ 1000 := by
          have f := full_few tab.lo tab.hi mss
          rw [P3.len, List.length_take]
          have := (List.getElem?_eq_some_iff.mp hs).1
          unfold boxesOf
          rw [List.length_map]
          omega
        have eb : (boxesOf m mss)[i]? = some (thingsOf mss s, s) := by unfold boxesOf; rw [List.getElem?_map, hs]; rfl
        have P4 := (P3.kp kp4).snoc ⟨kp13.free n1, kp13.free n2, kp13.free n3⟩ ⟨fun z => (by rw [z, hR3] at n1; cases n1), fun z => (by rw [z, hR3] at n2; cases n2), fun z => (by rw [z, hR3] at n3; cases n3)⟩ ht hp hq
        refine ⟨_, R4, by rw [List.length_map, sizeLine_eq]; omega, ts ++ [t], by rw [upd_same, List.map_append]; rfl, (kp3.trans kp4).own hR (kp2.t1.outN hR), ?_⟩
        rw [List.take_add_one, eb]
        exact P4.put
      · rintro H3 ⟨ts, hR3, kp3, P3⟩
        have el : (cs.map V.ref).length = (boxesOf m mss).length := by
          unfold boxesOf
          rw [List.length_map, List.length_map, rows.1]
        rw [el, List.take_length] at P3
        exact k H3 R (kp12.trans kp3) (P3.told (kp12.free hR) hR3)
end
end Mb

namespace Mb
open L2 PySem PySem.Spec PyProof.Rows
theorem told_same {n : Int} {nss mss : List (List Int)} (t : AllTold nss mss) (hs : ∀ ns ∈ nss, SetIn n ns) : mss = nss := by
  refine List.ext_getElem? fun i => ?_
  cases q : nss[i]? with
  | none =>
    rw [List.getElem?_eq_none_iff] at q ⊢
    rw [← t.1]; exact q
  | some ns =>
    have hi : i < mss.length := by rw [← t.1]; exact (List.getElem?_eq_some_iff.mp q).1
    have e : mss[i]? = some mss[i] := List.getElem?_eq_getElem hi
    have w := t.2 i ns _ q e
    rw [e, rise_eq (hs ns (List.mem_of_getElem? q)).1 w.1 w.2]
theorem side_back {α : Type} (xs : List α) (w : α) (i : Nat) (h : i ≤ xs.length) : (xs.take i ++ [w] ++ xs.drop i)[i]? = some w ∧ (xs.take i ++ [w] ++ xs.drop i).eraseIdx i = xs := by
  have l : (xs.take i).length = i := by rw [List.length_take]; omega
  constructor
  · rw [List.append_assoc, List.getElem?_append_right (by omega), l, Nat.sub_self]
    rfl
  · rw [List.append_assoc, List.eraseIdx_append_of_length_le (by omega), l, Nat.sub_self]
    show xs.take i ++ xs.drop i = xs
    exact List.take_append_drop i xs
end Mb

namespace Mb
open L2 PySem PySem.Spec PyProof.Rows
theorem Room.units65 {k : Nat} {A : Around} (r : Room k A) : A.units + 65 < cLine := by have := r.un; omega
/-- told pairs, that may be changed, listed at l -/
def PairsM (H : Hp) (l : Addr) (ps : List (List Int × List Int)) : Prop := ∃ ts : List Addr, H l = some (.lst (ts.map V.ref)) ∧ ts.length = ps.length ∧ ∀ (i : Nat) (t : Addr), ts[i]? = some t → ∃ (p q : Addr) (as bs : List Int), ps[i]? = some (as, bs) ∧ H t = some (.tup [.ref p, .ref q]) ∧ H p = some (.lst (as.map V.int)) ∧ H q = some (.lst (bs.map V.int))
theorem NewPairs.m {H H1 : Hp} {l : Addr} {ps : List (List Int × List Int)} (p : NewPairs H H1 l ps) : PairsM H1 l ps := by
  obtain ⟨ts, h1, h2, h3⟩ := p.ob
  refine ⟨ts, h1, h2, fun i t e => ?_⟩
  obtain ⟨a, b, as, bs, g1, _, g2, _, _, g3, g4⟩ := h3 i t e
  exact ⟨a, b, as, bs, g1, g2, g3, g4⟩
theorem worth9 {i : Nat} (h : i ≤ 8) : atI [V.int 1, .int 2, .int 4, .int 8, .int 16, .int 32, .int 64, .int 128, .int 256] (i : Int) = some (.int (2 ^ i)) := by
  rcases (show i = 0 ∨ i = 1 ∨ i = 2 ∨ i = 3 ∨ i = 4 ∨ i = 5 ∨ i = 6 ∨ i = 7 ∨ i = 8 by omega) with c | c | c | c | c | c | c | c | c <;> subst c <;> rfl
theorem pow9 {i : Nat} (h : i ≤ 8) : (2 : Int) ^ i ≤ 256 ∧ (0 : Int) ≤ 2 ^ i := by
  rcases (show i = 0 ∨ i = 1 ∨ i = 2 ∨ i = 3 ∨ i = 4 ∨ i = 5 ∨ i = 6 ∨ i = 7 ∨ i = 8 by omega) with c | c | c | c | c | c | c | c | c <;> subst c <;> decide
/-- a set, picked out of the marks, is itself -/
theorem set_picked {n : Int} {ns : List Int} (h0 : 0 ≤ n) (h : SetIn n ns) : passTo (fun m => decide ((m : Int) ∈ ns)) n.toNat = ns := by
  refine rise_eq h.1 (passTo_rise _ _) fun k => ?_
  rw [passTo_mem, decide_eq_true_eq]
  constructor
  · rintro ⟨k0, _, hk⟩
    rwa [Int.toNat_of_nonneg k0] at hk
  · intro hk
    have q := h.2 k hk
    exact ⟨q.1, by omega, by rwa [Int.toNat_of_nonneg q.1]⟩
/-- some lists of numbers (S) may have grown, the rest stays -/
structure Chg (S : Addr → Prop) (H H' : Hp) (j : Nat) : Prop where
  keep : ∀ (b : Addr) (o : HO), ¬ S b → H b = some o → H' b = some o
  lst : ∀ b : Addr, S b → ∃ xs : List Int, H' b = some (.lst (xs.map V.int)) ∧ xs.length ≤ 1000 + j
theorem Chg.put {S : Addr → Prop} {H H' : Hp} {j : Nat} {b : Addr} {xs : List Int} (c : Chg S H H' j) (h : S b) (l : xs.length ≤ 1001 + j) : Chg S H (upd H' b (.lst (xs.map V.int))) (j + 1) := by
  refine ⟨fun d o nd e => ?_, fun d hd => ?_⟩
  · have : d ≠ b := fun z => nd (by rw [z]; exact h)
    rw [upd_ne this]
    exact c.keep d o nd e
  · by_cases z : d = b
    · subst z
      exact ⟨xs, upd_same, by omega⟩
    · obtain ⟨ys, h1, h2⟩ := c.lst d hd
      exact ⟨ys, by rw [upd_ne z]; exact h1, by omega⟩
theorem told_pairs {H : Hp} : ∀ ts : List Addr, (∀ t ∈ ts, ∃ (p q : Addr) (as bs : List Int), H t = some (.tup [.ref p, .ref q]) ∧ H p = some (.lst (as.map V.int)) ∧ H q = some (.lst (bs.map V.int))) → ∃ ps : List (List Int × List Int), ts.length = ps.length ∧ ∀ (i : Nat) (t : Addr), ts[i]? = some t → ∃ (p q : Addr) (as bs : List Int), ps[i]? = some (as, bs) ∧ H t = some (.tup [.ref p, .ref q]) ∧ H p = some (.lst (as.map V.int)) ∧ H q = some (.lst (bs.map V.int))
  | [], _ => ⟨[], rfl, fun i t e => (by simp at e)⟩
  | t :: ts, h => by
    obtain ⟨ps, h1, h2⟩ := told_pairs ts fun u hu => h u (List.mem_cons_of_mem _ hu)
    obtain ⟨p, q, as, bs, g1, g2, g3⟩ := h t List.mem_cons_self
    refine ⟨(as, bs) :: ps, by rw [List.length_cons, List.length_cons, h1], fun i u e => ?_⟩
    cases i with
    | zero =>
      obtain rfl : t = u := by simpa using e
      exact ⟨p, q, as, bs, rfl, g1, g2, g3⟩
    | succ i => simpa using h2 i u (by simpa using e)
theorem PairsM.r {K : PySem.W.Frag} {H : Hp} {l : Addr} {ps : List (List Int × List Int)} (p : PairsM H l ps) : PairsR K H l ps := by
  obtain ⟨ts, h1, h2, h3⟩ := p
  refine ⟨ts, SqL.of h1, h2, fun i t e => ?_⟩
  obtain ⟨a, b, as, bs, g1, g2, g3, g4⟩ := h3 i t e
  exact ⟨a, b, as, bs, g1, SqT.of g2, SqL.of g3, SqL.of g4⟩
abbrev teCopy (K : PySem.W.Frag) : TE := tTup (tCons (tCB (rListOf K) (tCons (tOp (rIxT K) (tVar 7) (tC (V.int 0))) tNil)) (tCons (tCB (rListOf K) (tCons (tOp (rIxT K) (tVar 7) (tC (V.int 1))) tNil)) tNil))
theorem copy_all {K : PySem.W.Frag} {Ts : List Addr} {v0 v1 v2 v3 v4 v5 v7 : Option V} {rest : L2.St} {H6 : Hp} {F : Addr} {ps : List (List Int × List Int)} {Q : VK} (pm : PairsM H6 F ps) (small : ps.length ≤ 2000) (tb : Tabs Ts H6)
    (k : ∀ (H7 : Hp) (D : Addr), Same H6 H7 → NewPairs H6 H7 D ps → Q (.ref D) H7) : tLc (iList K (tVar 6)) (gName 7) tYes (teCopy K) [7] (v0 :: v1 :: v2 :: v3 :: v4 :: v5 :: some (.ref F) :: v7 :: rest) H6 Q := by
  obtain ⟨ts, hF, htl, hts⟩ := pm
  have at0 : ∀ y z : Addr, atI [V.ref y, V.ref z] 0 = some (.ref y) := fun _ _ => rfl
  have at1 : ∀ y z : Addr, atI [V.ref y, V.ref z] 1 = some (.ref z) := fun _ _ => rfl
  refine ⟨_, rfl, F, rfl, ⟨_, SqL.of hF⟩, fun D hD => ?_⟩
  refine lc_list (K := K) (a := F) (xs := ts.map V.ref) (fun j H3 => ∃ us : List Addr, H3 D = some (.lst (us.map V.ref)) ∧ Same H6 H3 ∧ PairsIn H6 H3 D us (ps.take j)) ⟨[], upd_same, Same.up (Same.refl H6) hD, PairsIn.nil⟩ (fun j H3 _ ⟨_, _, s3, _⟩ => s3.seq (SqL.of hF)) ?_ ?_
  · rintro j y H3 hy ⟨us, hD3, s3, P3⟩
    obtain ⟨t, ht, rfl⟩ := ref_at hy
    obtain ⟨p, q, as', bs', e, hT', hp, hq⟩ := hts j t ht
    have jl := (List.getElem?_eq_some_iff.mp e).1
    refine ⟨rfl, _, rfl, t, _, _, _, rfl, rfl, SqT.of (s3 _ _ hT'), at0 p q, p, _, rfl, .inl (SqL.of (s3 _ _ hp)), fun u1 hu1 => ?_⟩
    have s4 : Same H3 (upd H3 u1 (.lst (as'.map V.int))) := Same.up (Same.refl H3) hu1
    refine ⟨_, rfl, t, _, _, _, rfl, rfl, SqT.of (s4 _ _ (s3 _ _ hT')), at1 p q, q, _, rfl, .inl (SqL.of (s4 _ _ (s3 _ _ hq))), fun u2 hu2 => ⟨(by show 2 ≤ sizeLine; decide), fun u3 hu3 => ?_⟩⟩
    obtain ⟨G, eG, sG, g1, g2, g3⟩ := three (o3 := .tup [V.ref u1, V.ref u2]) hu1 hu2 hu3
    rw [← eG]
    have n2 : H3 u2 = none := s4.free hu2
    have n3 : H3 u3 = none := (Same.up (o := .lst (bs'.map V.int)) s4 hu2).free hu3
    have ne : ∀ {z : Addr}, H3 z = none → z ≠ D := fun {z} e w => by rw [w, hD3] at e; cases e
    have ul := P3.len
    rw [List.length_take] at ul
    have tb3 := (Kp.of_same tb s3).t1
    refine ⟨_, sG _ _ hD3, by rw [List.length_map, sizeLine_eq]; omega, us ++ [u3], by rw [upd_same, List.map_append]; rfl, fun u o e => ?_, ?_⟩
    · rw [upd_ne (ne_of_none e hD)]
      exact sG _ _ (s3 u o e)
    · rw [List.take_add_one, e]
      exact ((P3.kp (Kp.of_same tb3 sG)).snoc ⟨s3.free n3, s3.free hu1, s3.free n2⟩ ⟨ne n3, ne hu1, ne n2⟩ g3 g1 g2).put
  · rintro H3 ⟨us, hD3, s3, P3⟩
    rw [List.length_map, htl, List.take_length] at P3
    exact k H3 D s3 (P3.told hD hD3)
end Mb

namespace Mb
open L2 PySem PySem.Spec PyProof.Rows
section
variable {P : Program} {w : World} {K : PySem.W.Frag} {mg : Str → Option Value} {base : Heap} {C CS CM CT CN CE : Addr}
def spWhole : Sp := fun vs H Q _ => ∃ i : Int, vs = [.int i] ∧ Q (.bl true) H
theorem scWhole : FnScope ["_law_found"] ["_law_found"] (defScope sWhole) := ⟨rfl, rfl, rfl, by decide +kernel, rfl, by decide +kernel, by decide +kernel⟩
theorem ok_whole {f : Addr} {fd : FuncData} (F : Fun K "_law_whole" "_law_whole" sWhole f fd) (T : LTxt K mg) : FnOk P w K mg base CX0 1 f fd ["_law_found"] spWhole := by
  refine F.ok scWhole (fun vs H Q E h => ?_) (fun cdv A outer s H vs Q E hr h => ?_)
  · obtain ⟨i, rfl, _⟩ := h
    rfl
  · obtain ⟨i, rfl, k⟩ := h
    refine ⟨_, pss_one (ps_ret (pe_and (pe_callB call_isi (by rfl) T.isi PyProof.Rows.boot_isinstance (pa_cons (pv 0) (pa_cons (pe_bltn (v := .ty "int") (by rfl) T.int PyProof.Rows.boot_int rfl) pa_nil)))
      (pe_one (pe_not (pe_callB call_isi (by rfl) T.isi PyProof.Rows.boot_isinstance (pa_cons (pv 0) (pa_cons (pe_bltn (v := .ty "bool") (by rfl) T.bool (by decide +kernel) rfl) pa_nil))))))), ?_⟩
    refine ⟨_, rfl, _, _, _, _, true, rfl, ClsV.ty "int", TyX.base (TyOf.int i), kit_ty (by decide +kernel), _, rfl, ?_⟩
    refine iteT ?_
    exact ⟨_, rfl, _, _, _, _, false, rfl, ClsV.ty "bool", TyX.base (TyOf.int i), kit_ty (by decide +kernel), _, rfl, k⟩
def spSet : Sp := fun vs H Q _ => ∃ (p q : Addr) (ms : List Int), vs = [.ref p, .ref q] ∧ H p = some (.lst (ms.map V.int)) ∧ H q = some (.lst (ms.map V.int)) ∧ ms.length ≤ 1000 ∧ Q (.bl true) H
abbrev nSet : List Str := ["_law_found", "_law_due_here", "_law_k"]
end
end Mb

namespace Mb
open L2 PySem PySem.Spec PyProof.Rows
section
variable {P : Program} {w : World} {K : PySem.W.Frag} {mg : Str → Option Value} {base : Heap} {C CS CM CT CN CE : Addr}
/-! ### told pairs are those that are due -/
def spSame10 (K : PySem.W.Frag) : Sp := fun vs H Q _ => ∃ (F D : Addr) (ps : List (List Int × List Int)), vs = [.ref F, .ref D] ∧ PairsM H F ps ∧ PairsR K H D ps ∧ ps.length ≤ 2000 ∧ ∀ H' : Hp, Same H H' → Q (.bl true) H'
abbrev nSame10 : List Str := ["_law_found", "_law_due", "_law_k", "_law_part", "_law_one"]
theorem scSame10 : FnScope nSame10 ["_law_found", "_law_due"] (defScope s_law_same) := ⟨rfl, rfl, rfl, by decide +kernel, rfl, by decide +kernel, by decide +kernel⟩
theorem ok_same10 {f fW : Addr} {fd fdW : FuncData} (F : Fun K "_law_same" "_law_same" s_law_same f fd) (L : LTxt K mg) (tT : mg "tuple" = none)
    (GW : FnOk P w K mg base CX0 1 fW fdW ["_law_found"] spWhole) (gW : mg "_law_whole" = some (.ref fW)) (kW : PySem.W.keepIn K (.ref fW) = true) (bW : Binds K fdW ["_law_found"] []) :
    FnOk P w K mg base CX0 2 f fd ["_law_found", "_law_due"] (spSame10 K) := by
  refine F.ok scSame10 (fun vs H Q E h => ?_) (fun cdv A outer s H vs Q E hr h => ?_)
  · obtain ⟨F, D, ps, rfl, _⟩ := h
    rfl
  · obtain ⟨F, D, ps, rfl, pm, pr, small, k⟩ := h
    have hr1 := hr.mono (j := 1) (by decide)
    refine ⟨_, pss_cons (ps_if (PW.pt (pw_or (pt_not (pt_val (pe_callB call_isi (by rfl) L.isi PyProof.Rows.boot_isinstance (pa_cons (pv 0) (pa_cons (pe_bltn (v := .ty "list") (by rfl) L.list PyProof.Rows.boot_list rfl) pa_nil)))))
          (pw_or1 (pt_cmpR op_ne (pe_callB call_len_seq (by rfl) L.len PySem.boot_len (pa_cons (pv 0) pa_nil)) (pe_callB call_len_seq (by rfl) L.len PySem.boot_len (pa_cons (pv 1) pa_nil)) (nomark _))))) (pss_one (ps_ret pe_bl)) pss_nil)
      (pss_cons (ps_for PassesOwn.never rfl (pi_range1 (by rfl) L.range (pa_cons (pe_callB call_len_seq (by rfl) L.len PySem.boot_len (pa_cons (pv 1) pa_nil)) pa_nil)) (pg_name (i := 2) scSame10.nd rfl (Or.inl rfl))
        (pss_cons (ps_if (PW.pt (pw_or (pt_not (pt_val (pe_callB call_isi (by rfl) L.isi PyProof.Rows.boot_isinstance (pa_cons (pe_ix ix_list (pv 0) (pv 2) (fun _ _ => rfl)) (pa_cons (pe_bltn (v := .ty "tuple") (by rfl) tT (by decide +kernel) rfl) pa_nil)))))
            (pw_or (pt_cmpR op_ne (pe_callB call_len_seq (by rfl) L.len PySem.boot_len (pa_cons (pe_ix ix_list (pv 0) (pv 2) (fun _ _ => rfl)) pa_nil)) pe_int (nomark _))
            (pw_or1 (pt_cmpR (op_neD hr.units) (pe_ix ix_list (pv 0) (pv 2) (fun _ _ => rfl)) (pe_ix ix_list (pv 1) (pv 2) (fun _ _ => rfl)) (nomark _)))))) (pss_one (ps_ret pe_bl)) pss_nil)
        (pss_one (ps_for PassesOwn.never rfl (pi_tup (pe_ix ix_list (pv 0) (pv 2) (fun _ _ => rfl))) (pg_name (i := 3) scSame10.nd rfl (Or.inl rfl))
          (pss_one (ps_if (PW.pt (pw_or (pt_not (pt_val (pe_callB call_isi (by rfl) L.isi PyProof.Rows.boot_isinstance (pa_cons (pv 3) (pa_cons (pe_bltn (v := .ty "list") (by rfl) L.list PyProof.Rows.boot_list rfl) pa_nil)))))
            (pw_or1 (pt_cmpR (op_neD hr.units) (pe_lc (own := [("_law_one", 4)]) (g := gName 4) (tt := tNot (tB (tCall spWhole [] E0 (tCons (tVar 4) tNil)))) (te := tVar 4) rfl scSame10.nd (pi_list (pv 3)) (blkOk_by (N := nSame10) (sc := defScope s_law_same) (by decide +kernel)) (fun _ _ _ _ _ => pg_name (i := 4) scSame10.nd rfl (Or.inl rfl))
                (fun _ _ _ _ _ => pts_one (pt_not (pt_val (pe_call GW hr1 (by rfl) gW kW bW .nil pass0 (pa_cons (pv 4) pa_nil))))) (fun _ _ _ _ _ => pv 4)) (pe_lst pa_nil) (nomark _))))) (pss_one (ps_ret pe_bl)) pss_nil))))))
      (pss_one (ps_ret pe_bl))), ?_⟩
    obtain ⟨ts, hF, htl, hts⟩ := pm
    obtain ⟨us, hD, hul, hus⟩ := pr
    refine ⟨_, rfl, _, _, _, _, true, rfl, ClsV.ty "list", TyX.base (TyOf.lst hF), kit_ty (by decide +kernel), _, rfl, ?_⟩
    refine iteF ?_
    refine ⟨_, rfl, F, _, rfl, .inl (SqL.of hF), _, rfl, D, _, rfl, .inl hD, rfl, _, rfl, ?_⟩
    have l1 : (ts.map V.ref).length = ps.length := by rw [List.length_map, htl]
    have l2 : (us.map V.ref).length = ps.length := by rw [List.length_map, hul]
    refine ite2 (fun c => absurd c (by rw [l1, l2]; simp)) (fun _ => ?_)
    refine ⟨_, rfl, D, _, rfl, .inl hD, _, rfl, by omega, by omega, for_range (lo := 0) (n := _) (fun i σ H' => ∃ v2 v3 : Option V, σ = [some (.ref F), some (.ref D), v2, v3, none] ∧ Same H H') ⟨none, none, rfl, Same.refl H⟩ ?_ ?_⟩
    · rintro i σ H1 hi ⟨v2, v3, rfl, s1⟩
      have il : i < ps.length := by omega
      have e1 : ts[i]? = some ts[i] := List.getElem?_eq_getElem (by omega)
      have e2 : us[i]? = some us[i] := List.getElem?_eq_getElem (by omega)
      have z0 : (0 : Int) + (i : Int) = (i : Int) := Int.zero_add _
      have a1 : atI (ts.map V.ref) ((0 : Int) + (i : Int)) = some (.ref ts[i]) := by rw [z0]; exact atI_nat (by rw [List.getElem?_map, e1]; rfl)
      have a2 : atI (us.map V.ref) ((0 : Int) + (i : Int)) = some (.ref us[i]) := by rw [z0]; exact atI_nat (by rw [List.getElem?_map, e2]; rfl)
      obtain ⟨p, q, as, bs, h1, hT, hP, hQ⟩ := hts i _ e1
      obtain ⟨p', q', as', bs', g1, gT, gP, gQ⟩ := hus i _ e2
      rw [h1] at g1
      cases g1
      generalize ts[i] = t at a1 hT
      generalize us[i] = u at a2 gT
      refine ⟨_, rfl, _, rfl, F, _, _, _, rfl, rfl, SqL.of (s1 _ _ hF), a1, _, _, _, _, true, rfl, ClsV.ty "tuple", TyX.base (TyOf.tup (s1 _ _ hT)), kit_ty (by decide +kernel), _, rfl, ?_⟩
      refine iteF ?_
      refine ⟨_, rfl, _, rfl, F, _, _, _, rfl, rfl, SqL.of (s1 _ _ hF), a1, t, _, rfl, .inr (SqT.of (s1 _ _ hT)), rfl, _, rfl, ?_⟩
      refine iteF ?_
      refine ⟨_, rfl, _, rfl, F, _, _, _, rfl, rfl, SqL.of (s1 _ _ hF), a1, _, rfl, _, rfl, D, _, _, _, rfl, rfl, s1.seq hD, a2, ?_⟩
      refine ⟨pairD (as, bs), pairD (as, bs), dpPair (SqT.of (s1 _ _ hT)) (SqL.of (s1 _ _ hP)) (SqL.of (s1 _ _ hQ)), dpPair (same_tup s1 gT) (s1.seq gP) (s1.seq gQ), shPair _, shPair _, _, rfl, ?_⟩
      rw [eqv_pair, decide_eq_true (show (as, bs) = (as, bs) from rfl)]
      refine iteF ?_
      refine ⟨_, rfl, _, rfl, F, _, _, _, rfl, rfl, SqL.of (s1 _ _ hF), a1, t, rfl, ⟨_, SqT.of (s1 _ _ hT)⟩, for_tup (K := K) (a := t) (xs := [V.ref p, V.ref q]) (fun j σ H' => ∃ v3 : Option V, σ = [some (.ref F), some (.ref D), some (.int (0 + (i : Int))), v3, none] ∧ Same H H') ⟨v3, rfl, s1⟩ (fun j σ H' _ ⟨_, _, z⟩ => SqT.of (z _ _ hT)) ?_ ?_⟩
      · rintro j y σ H2 hy ⟨v3, rfl, s2⟩
        have got : ∃ (b : Addr) (cs : List Int), y = .ref b ∧ H b = some (.lst (cs.map V.int)) := by
          have hm := List.mem_of_getElem? hy
          simp only [or_false, List.mem_cons, List.not_mem_nil] at hm
          rcases hm with e | e
          · exact ⟨p, as, e, hP⟩
          · exact ⟨q, bs, e, hQ⟩
        obtain ⟨b, cs, rfl, hB0⟩ := got
        have hB := s2 _ _ hB0
        refine ⟨_, rfl, _, _, _, _, true, rfl, ClsV.ty "list", TyX.base (TyOf.lst hB), kit_ty (by decide +kernel), _, rfl, ?_⟩
        refine iteF ?_
        refine ⟨_, rfl, b, rfl, ⟨_, SqL.of hB⟩, fun D1 hD1 => ?_⟩
        refine lc_list (K := K) (a := b) (xs := cs.map V.int) (fun j H3 => H3 D1 = some (.lst []) ∧ Same H2 H3) ⟨upd_same, Same.up (Same.refl H2) hD1⟩ (fun j H3 _ z => z.2.seq (SqL.of hB)) ?_ ?_
        · rintro j v H3 hv ⟨hD3, s3⟩
          obtain ⟨m, hm, rfl⟩ := int_at hv
          refine ⟨rfl, _, rfl, m, rfl, _, rfl, ?_⟩
          exact iteF ⟨hD3, s3⟩
        · rintro H3 ⟨hD3, s3⟩
          refine ⟨Nat.zero_le _, fun e he => ?_⟩
          have De : D1 ≠ e := ne_of_none hD3 he
          refine ⟨rowD [], rowD [], .lst (SqL.of (xs := []) (by rw [upd_ne De]; exact hD3)) .nil, .lst (SqL.of (xs := []) upd_same) .nil, shInts [], shInts [], _, rfl, ?_⟩
          rw [eqv_row]
          exact iteF ⟨_, rfl, s2.trans (Same.up (o := .lst []) s3 he)⟩
      · rintro σ H2 ⟨v3, rfl, s2⟩
        exact ⟨_, _, rfl, s2⟩
    · rintro σ H1 ⟨v2, v3, rfl, s1⟩
      exact k _ s1
end
end Mb

namespace Mb
open L2 PySem PySem.Spec PyProof.Rows
abbrev sMix : Stmt := s_law_mix
abbrev sTableBy : Stmt := s_law_table_by
section
variable {P : Program} {w : World} {K : PySem.W.Frag} {mg : Str → Option Value} {base : Heap} {C CS CM CT : Addr}
/-! ### a number of one's own for each place -/
def spMix (K : PySem.W.Frag) : Sp := fun vs H Q _ => ∃ (a : Addr) (ns : List Int) (f k : Int), vs = [.ref a, .int f, .int k] ∧ SqL K H a (ns.map V.int) ∧ ns.length ≤ 1000 ∧ 0 ≤ f ∧ 0 ≤ k ∧ ∀ z : Int, Q (.int z) H
abbrev nMix : List Str := ["_law_script", "_law_first", "_law_k", "_law_many", "_law_base"]
theorem scMix : FnScope nMix ["_law_script", "_law_first", "_law_k"] (defScope sMix) := ⟨rfl, rfl, rfl, by decide +kernel, rfl, by decide +kernel, by decide +kernel⟩
theorem ok_mix {f fC : Addr} {fd fdC : FuncData} (F : Fun K "_law_mix" "_law_mix" sMix f fd) (T : LTxt K mg) (GC : FnOk P w K mg base CX0 1 fC fdC ["_law_script", "_law_k"] (spCell K)) (gC : mg "_law_cell_at" = some (.ref fC)) (kC : PySem.W.keepIn K (.ref fC) = true) (bC : Binds K fdC ["_law_script", "_law_k"] []) :
    FnOk P w K mg base CX0 2 f fd ["_law_script", "_law_first", "_law_k"] (spMix K) := by
  refine F.ok scMix (fun vs H Q E h => ?_) (fun cdv A outer s H vs Q E hr h => ?_)
  · obtain ⟨a, ns, f, k, rfl, _⟩ := h
    rfl
  · obtain ⟨a, ns, f, k, rfl, hS, hl, hf, hk, kQ⟩ := h
    refine ⟨_, pss_cons (ps_set (i := 3) scMix.nd rfl (Or.inl rfl) (pe_callB (call_max2 rfl) (by rfl) T.max PyProof.Rows.boot_max (pa_cons pe_int (pa_cons (pe_op op_sub (pe_callB call_len_seq (by rfl) T.len PySem.boot_len (pa_cons (pv 0) pa_nil)) (pv 1)) pa_nil))))
      (pss_cons (ps_set (i := 4) scMix.nd rfl (Or.inl rfl) (pe_call GC hr (by rfl) gC kC bC .nil pass0 (pa_cons (pv 0) (pa_cons (pe_op op_add (pv 1) (pe_op op_mod (pv 2) (pv 3))) pa_nil))))
      (pss_cons (ps_if (pt_cmpR op_lt (pv 2) (pv 3) (nomark _)) (pss_one (ps_ret (pe_op op_add (pv 4) (pe_op op_mul (pe_op op_mod (pv 4) pe_int) pe_int)))) pss_nil)
      (pss_one (ps_ret (pe_op op_mod (pe_op op_mul (pe_op op_add (pe_op op_mod (pv 4) pe_int) (pe_op op_mul pe_int (pe_op op_fdivN (pv 2) (pv 3)))) pe_int) pe_int))))), ?_⟩
    refine ⟨_, rfl, a, _, rfl, .inl hS, _, rfl, _, _, rfl, rfl, _, _, rfl, ?_⟩
    generalize hm : (if ((ns.map V.int).length : Int) - f > 1 then ((ns.map V.int).length : Int) - f else 1) = m
    have hlm : (ns.map V.int).length = ns.length := List.length_map _
    have m1 : 1 ≤ m := by rw [← hm]; split <;> omega
    have m2 : m ≤ 1000 := by rw [← hm]; split <;> omega
    have km := Int.emod_nonneg k (show m ≠ 0 by omega)
    refine ⟨_, rfl, _, rfl, _, rfl, _, rfl, _, _, rfl, rfl, by omega, _, _, rfl, rfl, a, ns, _, rfl, hS, by omega, ?_⟩
    refine ⟨_, rfl, _, rfl, ⟨_, _, rfl, rfl, ⟨_, rfl, ?_⟩⟩⟩
    apply ite2 <;> intro _
    · exact ⟨_, rfl, _, rfl, _, _, rfl, rfl, (by show (0 : Int) < 251; decide), _, _, rfl, rfl, .inr ⟨by decide, by decide⟩, _, _, rfl, rfl, kQ _⟩
    · exact ⟨_, rfl, _, _, rfl, rfl, (by show (0 : Int) < 1000003; decide), _, rfl, _, rfl, _, _, rfl, rfl, ⟨by omega, by omega⟩, _, _, rfl, rfl, .inl ⟨by decide, by decide⟩, _, _, rfl, rfl, _, _, rfl, rfl, .inr ⟨by decide, by decide⟩, _, _, rfl, rfl, (by show (0 : Int) < 1000003; decide), kQ _⟩
end
end Mb

namespace Mb
open L2 PySem PySem.Spec PyProof.Rows
/-- the pair of a count and of rows, all new -/
structure NewTab (H H' : Hp) (t l : Addr) (as : List Addr) (n : Int) (nss : List (List Int)) : Prop where
  rows : NewRows H H' l as nss
  nt : H t = none
  tup : H' t = some (.tup [.int n, .ref l])
  lo : 0 ≤ n
  hi : n ≤ 8
  few : nss.length ≤ 12
  sets : ∀ ns ∈ nss, SetIn n ns
def spTableBy (K : PySem.W.Frag) : Sp := fun vs H Q _ => ∃ (a : Addr) (zs : List Int), vs = [.ref a] ∧ SqL K H a (zs.map V.int) ∧ zs.length ≤ 1000 ∧ ∀ (H' : Hp) (t l : Addr) (as : List Addr) (n : Int) (nss : List (List Int)), NewTab H H' t l as n nss → Q (.ref t) H'
end Mb

namespace Mb
open L2 PySem PySem.Spec PyProof.Rows
abbrev sOn : Stmt := s_law_on
section
variable {P : Program} {w : World} {K : PySem.W.Frag} {mg : Str → Option Value} {base : Heap} {C CS CM CT : Addr}
/-! ### has the thing the mark, of at most six -/
def spOn : Sp := fun vs H Q _ => ∃ z m y n : Int, vs = [.int z, .int m, .int y, .int n] ∧ 0 ≤ m ∧ m < 6 ∧ 0 ≤ n ∧ ∀ (b : Bool) (H' : Hp), Same H H' → Q (.bl b) H'
abbrev nOn : List Str := ["_law_number", "_law_mark", "_law_way", "_law_many", "_law_worth", "_law_one", "_law_other"]
theorem scOn : FnScope nOn ["_law_number", "_law_mark", "_law_way", "_law_many"] (defScope sOn) := ⟨rfl, rfl, rfl, by decide +kernel, rfl, by decide +kernel, by decide +kernel⟩
theorem worth_in {v : V} (h : v ∈ [V.int 1, .int 2, .int 4, .int 8, .int 16, .int 32]) : ∃ z : Int, v = .int z ∧ 1 ≤ z ∧ z ≤ 128 := by
  simp only [List.mem_cons, List.not_mem_nil, or_false] at h
  rcases h with z | z | z | z | z | z <;> exact ⟨_, z, by decide, by decide⟩
theorem ok_on {f : Addr} {fd : FuncData} (F : Fun K "_law_on" "_law_on" sOn f fd) : FnOk P w K mg base CX0 1 f fd ["_law_number", "_law_mark", "_law_way", "_law_many"] spOn := by
  refine F.ok scOn (fun vs H Q E h => ?_) (fun cdv A outer s H vs Q E hr h => ?_)
  · obtain ⟨z, m, y, n, rfl, _⟩ := h
    rfl
  · obtain ⟨z, m, y, n, rfl, m0, m8, n0, k⟩ := h
    refine ⟨_, pss_cons (ps_set (i := 4) scOn.nd rfl (Or.inl rfl) (pe_ix ix_list (pe_lst (pa_cons pe_int (pa_cons pe_int (pa_cons pe_int (pa_cons pe_int (pa_cons pe_int (pa_cons pe_int pa_nil))))))) (pv 1) (fun _ _ => rfl)))
      (pss_cons (ps_set (i := 5) scOn.nd rfl (Or.inl rfl) (pe_cmpR op_eq (pe_op op_mod (pe_op op_fdivN (pv 0) (pv 4)) pe_int) pe_int (nomark _)))
      (pss_cons (ps_set (i := 6) scOn.nd rfl (Or.inl rfl) (pe_cmpR op_eq (pe_op op_mod (pe_op op_fdivN (pe_op op_fdivN (pv 0) pe_int) (pv 4)) pe_int) pe_int (nomark _)))
      (pss_cons (ps_if (pt_cmpR op_eq (pv 2) pe_int (nomark _)) (pss_one (ps_ret (pv 5))) pss_nil)
      (pss_cons (ps_if (pt_cmpR op_eq (pv 2) pe_int (nomark _)) (pss_one (ps_ret (pe_and (pv 5) (pe_one (pv 6))))) pss_nil)
      (pss_cons (ps_if (pt_cmpR op_eq (pv 2) pe_int (nomark _)) (pss_one (ps_ret (pe_or (pv 5) (pe_one (pv 6))))) pss_nil)
      (pss_one (ps_ret (pe_cmpR op_ne (pv 1) (pe_op op_mod (pv 0) (pe_op op_add (pv 3) pe_int)) (nomark _))))))))), ?_⟩
    refine ⟨(by show 6 ≤ sizeLine; decide), fun p hp => ?_⟩
    obtain ⟨v, hv, hv2⟩ := atI_in (xs := [V.int 1, .int 2, .int 4, .int 8, .int 16, .int 32]) m0 (by simpa using m8)
    obtain ⟨q, rfl, q1, q2⟩ := worth_in (List.mem_of_getElem? hv2)
    have s1 := Same.up (o := .lst [V.int 1, .int 2, .int 4, .int 8, .int 16, .int 32]) (Same.refl H) hp
    refine ⟨_, rfl, p, _, _, _, rfl, rfl, SqL.of upd_same, hv, ?_⟩
    refine ⟨_, rfl, _, rfl, _, _, rfl, rfl, ⟨by omega, by omega⟩, _, _, rfl, rfl, (by show (0 : Int) < 2; decide), rfl, ?_⟩
    refine ⟨_, rfl, _, _, rfl, rfl, ⟨by decide, by decide⟩, _, rfl, _, _, rfl, rfl, ⟨by omega, by omega⟩, _, _, rfl, rfl, (by show (0 : Int) < 2; decide), rfl, ?_⟩
    refine ⟨_, rfl, rfl, ⟨_, rfl, ?_⟩⟩
    refine ite2 (fun _ => ⟨_, rfl, k _ _ s1⟩) (fun _ => ?_)
    refine ⟨_, rfl, rfl, ⟨_, rfl, ?_⟩⟩
    refine ite2 (fun _ => ⟨_, rfl, _, rfl, ?_⟩) (fun _ => ?_)
    · exact ite2 (fun _ => ⟨_, rfl, k _ _ s1⟩) (fun _ => k _ _ s1)
    refine ⟨_, rfl, rfl, ⟨_, rfl, ?_⟩⟩
    refine ite2 (fun _ => ⟨_, rfl, _, rfl, ?_⟩) (fun _ => ?_)
    · exact ite2 (fun _ => k _ _ s1) (fun _ => ⟨_, rfl, k _ _ s1⟩)
    exact ⟨_, rfl, _, rfl, _, rfl, _, _, rfl, rfl, _, _, rfl, rfl, by omega, rfl, k _ _ s1⟩
/-! ### a table of at most six marks -/
def spTableBy10 (K : PySem.W.Frag) : Sp := fun vs H Q _ => ∃ (a : Addr) (zs : List Int) (u : Int), vs = [.ref a, .int u] ∧ 0 ≤ u ∧ u ≤ 1 ∧ SqL K H a (zs.map V.int) ∧ zs.length ≤ 1000 ∧ ∀ (H' : Hp) (t l : Addr) (as : List Addr) (n : Int) (nss : List (List Int)), NewTab H H' t l as n nss → n ≤ 6 → Q (.ref t) H'
abbrev nTableBy : List Str := ["_law_script", "_law_turn", "_law_many", "_law_things", "_law_way", "_law_rows", "_law_k", "_law_number", "_law_mark"]
theorem scTableBy : FnScope nTableBy ["_law_script", "_law_turn"] (defScope sTableBy) := ⟨rfl, rfl, rfl, by decide +kernel, rfl, by decide +kernel, by decide +kernel⟩
theorem ok_tableBy {f fC fX fO : Addr} {fd fdC fdX fdO : FuncData} (F : Fun K "_law_table_by" "_law_table_by" sTableBy f fd) (T : LTxt K mg) (GC : FnOk P w K mg base CX0 1 fC fdC ["_law_script", "_law_k"] (spCell K)) (gC : mg "_law_cell_at" = some (.ref fC)) (kC : PySem.W.keepIn K (.ref fC) = true) (bC : Binds K fdC ["_law_script", "_law_k"] [])
    (GX : FnOk P w K mg base CX0 2 fX fdX ["_law_script", "_law_first", "_law_k"] (spMix K)) (gX : mg "_law_mix" = some (.ref fX)) (kX : PySem.W.keepIn K (.ref fX) = true) (bX : Binds K fdX ["_law_script", "_law_first", "_law_k"] [])
    (GO : FnOk P w K mg base CX0 1 fO fdO ["_law_number", "_law_mark", "_law_way", "_law_many"] spOn) (gO : mg "_law_on" = some (.ref fO)) (kO : PySem.W.keepIn K (.ref fO) = true) (bO : Binds K fdO ["_law_number", "_law_mark", "_law_way", "_law_many"] []) :
    FnOk P w K mg base CX0 3 f fd ["_law_script", "_law_turn"] (spTableBy10 K) := by
  refine F.ok scTableBy (fun vs H Q E h => ?_) (fun cdv A outer s H vs Q E hr h => ?_)
  · obtain ⟨a, zs, u, rfl, _⟩ := h
    rfl
  · obtain ⟨a, zs, u, rfl, u0, u1, hS, hzl, k⟩ := h
    have hr1 := hr.mono (j := 1) (by decide)
    refine ⟨_, C8.pss_cut (ps_set (i := 2) scTableBy.nd rfl (Or.inr rfl) (pe_op op_mod (pe_op op_fdivN (pe_call GC hr1 (by rfl) gC kC bC .nil pass0 (pa_cons (pv 0) (pa_cons (pv 1) pa_nil))) pe_int) pe_int))
      (C8.pss_cut (ps_if (PW.pt (pw_and (pt_cmpR op_eq (pv 1) pe_int (nomark _)) (pw_and1 (pt_cmpR op_eq (pe_op op_mod (pe_op op_fdivN (pe_call GC hr1 (by rfl) gC kC bC .nil pass0 (pa_cons (pv 0) (pa_cons pe_int pa_nil))) pe_int) pe_int) pe_int (nomark _))))) (pss_one (ps_set (i := 2) scTableBy.nd rfl (Or.inr rfl) pe_int)) pss_nil)
      (C8.pss_cut (ps_set (i := 3) scTableBy.nd rfl (Or.inl rfl) (pe_op op_mod (pe_call GC hr1 (by rfl) gC kC bC .nil pass0 (pa_cons (pv 0) (pa_cons (pe_op op_add pe_int (pv 1)) pa_nil))) pe_int))
      (C8.pss_cut (ps_if (pt_cmpR op_eq (pe_op op_mod (pe_op op_fdivN (pe_call GC hr1 (by rfl) gC kC bC .nil pass0 (pa_cons (pv 0) (pa_cons (pe_op op_add pe_int (pv 1)) pa_nil))) pe_int) pe_int) pe_int (nomark _)) (pss_one (ps_set (i := 3) scTableBy.nd rfl (Or.inl rfl) (pe_op op_add pe_int (pe_op op_mod (pe_op op_fdivN (pe_call GC hr1 (by rfl) gC kC bC .nil pass0 (pa_cons (pv 0) (pa_cons (pe_op op_add pe_int (pv 1)) pa_nil))) pe_int) pe_int)))) pss_nil)
      (C8.pss_cut (ps_if (pt_cmpR op_eq (pv 2) pe_int (nomark _)) (pss_one (ps_set (i := 3) scTableBy.nd rfl (Or.inl rfl) (pe_op op_mod (pv 3) pe_int))) pss_nil)
      (C8.pss_cut (ps_set (i := 4) scTableBy.nd rfl (Or.inr rfl) (pe_op op_mod (pe_call GC hr1 (by rfl) gC kC bC .nil pass0 (pa_cons (pv 0) (pa_cons (pe_op op_add pe_int (pv 1)) pa_nil))) pe_int))
      (pss_cons (ps_set (i := 5) scTableBy.nd rfl (Or.inl rfl) (pe_lst pa_nil))
      (pss_cons (ps_for PassesOwn.never rfl (pi_range1 (by rfl) T.range (pa_cons (pv 3) pa_nil)) (pg_name (i := 6) scTableBy.nd rfl (Or.inl rfl))
        (pss_cons (ps_set (i := 7) scTableBy.nd rfl (Or.inr rfl) (pe_call GX hr (by rfl) gX kX bX .nil pass0 (pa_cons (pv 0) (pa_cons pe_int (pa_cons (pe_op op_add (pe_op op_mul pe_int (pv 1)) (pv 6)) pa_nil)))))
        (pss_one (ps_expr (pe_bm PySem.F.plainAttrs_list PySem.F.slot_list_append PySem.F.type_list_append mt_append (pv 5) (pa_cons (pe_lc (own := [("_law_mark", 8)]) (g := gName 8) (tt := tB (tCall spOn [] E0 (tCons (tVar 7) (tCons (tVar 8) (tCons (tVar 4) (tCons (tVar 2) tNil)))))) rfl scTableBy.nd (pi_range1 (by rfl) T.range (pa_cons (pv 2) pa_nil)) (blkOk_by (N := nTableBy) (sc := defScope sTableBy) (by decide +kernel)) (fun _ _ _ _ _ => pg_name (i := 8) scTableBy.nd rfl (Or.inl rfl))
          (fun _ _ _ _ _ => pts_one (pt_val (pe_call GO hr1 (by rfl) gO kO bO .nil pass0 (pa_cons (pv 7) (pa_cons (pv 8) (pa_cons (pv 4) (pa_cons (pv 2) pa_nil))))))) (fun _ _ _ _ _ => pv 8)) pa_nil))))))
      (pss_one (ps_ret (pe_tup (pa_cons (pv 2) (pa_cons (pv 5) pa_nil)))))))))))), ?_⟩
    have c0 : ∀ {m : Int} (x : Int), 0 < m → 0 ≤ x % m ∧ x % m < m := fun x h => ⟨Int.emod_nonneg _ (Int.ne_of_gt h), Int.emod_lt_of_pos _ h⟩
    -- how many marks
    refine ⟨fun σ H' => ∃ n : Int, σ = [some (.ref a), some (.int u), some (.int n), none, none, none, none, none, none] ∧ H' = H ∧ 0 ≤ n ∧ n ≤ 6, ?_, ?_⟩
    · have q := c0 ((cellAt zs u).fdiv 6) (show (0 : Int) < 6 by decide)
      exact ⟨_, rfl, _, rfl, a, zs, _, rfl, hS, u0, _, _, rfl, rfl, ⟨by decide, by decide⟩, _, _, rfl, rfl, (by show (0 : Int) < 6; decide), _, rfl, rfl, q.1, by omega⟩
    rintro σ H' ⟨n, rfl, eH, n0, n8⟩
    subst eH
    refine ⟨fun σ H0 => ∃ n : Int, σ = [some (.ref a), some (.int u), some (.int n), none, none, none, none, none, none] ∧ H0 = H' ∧ 0 ≤ n ∧ n ≤ 6, ?_, ?_⟩
    · refine ⟨_, rfl, rfl, _, rfl, ?_⟩
      refine ite2 (fun _ => ?_) (fun _ => iteF ⟨n, rfl, rfl, n0, n8⟩)
      refine ⟨_, rfl, a, zs, _, rfl, hS, by decide, _, _, rfl, rfl, ⟨by decide, by decide⟩, _, _, rfl, rfl, (by show (0 : Int) < 8; decide), rfl, _, rfl, ?_⟩
      refine ite2 (fun _ => ?_) (fun _ => ⟨n, rfl, rfl, n0, n8⟩)
      exact ⟨_, rfl, rfl, by decide, by decide⟩
    rintro σ H0 ⟨n, rfl, eH, n0, n8⟩
    subst eH
    -- how many things
    refine ⟨fun σ H' => ∃ t : Int, σ = [some (.ref a), some (.int u), some (.int n), some (.int t), none, none, none, none, none] ∧ H' = H0 ∧ 0 ≤ t ∧ t ≤ 12, ?_, ?_⟩
    · have q := c0 (cellAt zs (2 + u)) (show (0 : Int) < 7 by decide)
      exact ⟨_, rfl, _, rfl, _, _, rfl, rfl, a, zs, _, rfl, hS, by omega, _, _, rfl, rfl, (by show (0 : Int) < 7; decide), _, rfl, rfl, q.1, by omega⟩
    rintro σ H' ⟨t, rfl, eH, t0, t12⟩
    subst eH
    refine ⟨fun σ H0 => ∃ t : Int, σ = [some (.ref a), some (.int u), some (.int n), some (.int t), none, none, none, none, none] ∧ H0 = H' ∧ 0 ≤ t ∧ t ≤ 12, ?_, ?_⟩
    · refine ⟨_, rfl, _, rfl, _, _, rfl, rfl, a, zs, _, rfl, hS, by omega, _, _, rfl, rfl, ⟨by decide, by decide⟩, _, _, rfl, rfl, (by show (0 : Int) < 8; decide), rfl, _, rfl, ?_⟩
      refine ite2 (fun _ => ?_) (fun _ => ⟨t, rfl, rfl, t0, t12⟩)
      have q := c0 ((cellAt zs (2 + u)).fdiv 56) (show (0 : Int) < 6 by decide)
      exact ⟨_, rfl, _, rfl, _, _, rfl, rfl, a, zs, _, rfl, hS, by omega, _, _, rfl, rfl, ⟨by decide, by decide⟩, _, _, rfl, rfl, (by show (0 : Int) < 6; decide), _, _, rfl, rfl, _, rfl, rfl, by omega, by omega⟩
    rintro σ H0 ⟨t, rfl, eH, t0, t12⟩
    subst eH
    refine ⟨fun σ H' => ∃ t : Int, σ = [some (.ref a), some (.int u), some (.int n), some (.int t), none, none, none, none, none] ∧ H' = H0 ∧ 0 ≤ t ∧ t ≤ 12, ?_, ?_⟩
    · refine ⟨_, rfl, rfl, _, rfl, ?_⟩
      refine ite2 (fun _ => ?_) (fun _ => ⟨t, rfl, rfl, t0, t12⟩)
      have q := c0 t (show (0 : Int) < 7 by decide)
      exact ⟨_, rfl, _, _, rfl, rfl, (by show (0 : Int) < 7; decide), _, rfl, rfl, by omega, by omega⟩
    rintro σ H' ⟨t, rfl, eH, t0, t12⟩
    subst eH
    refine ⟨fun σ H0 => ∃ y : Int, σ = [some (.ref a), some (.int u), some (.int n), some (.int t), some (.int y), none, none, none, none] ∧ H0 = H', ?_, ?_⟩
    · exact ⟨_, rfl, _, rfl, _, _, rfl, rfl, a, zs, _, rfl, hS, by omega, _, _, rfl, rfl, (by show (0 : Int) < 4; decide), _, rfl, rfl⟩
    rintro σ H0 ⟨y, rfl, eH⟩
    subst eH
    refine ⟨Nat.zero_le _, fun l hl => ?_⟩
    refine ⟨_, rfl, t, rfl, by omega, by omega, for_range (lo := 0) (n := t.toNat) (fun i σ H2 => ∃ (kv nv : Option V) (as : List Addr) (nss : List (List Int)), σ = [some (.ref a), some (.int u), some (.int n), some (.int t), some (.int y), some (.ref l), kv, nv, none] ∧
        NewRows H0 H2 l as nss ∧ nss.length = i ∧ (∀ ns ∈ nss, SetIn n ns))
      ⟨none, none, [], [], rfl, ⟨Same.up (Same.refl _) hl, hl, upd_same, RowsAt.nil, List.nodup_nil, fun a ha => by cases ha⟩, rfl, fun ns hn => by cases hn⟩ ?_ ?_⟩
    · rintro i σ H2 hi ⟨kv, nv, as, nss, rfl, R, hlen, hall⟩
      refine ⟨_, rfl, _, rfl, _, _, rfl, rfl, .inl ⟨by decide, by decide⟩, _, rfl, _, _, rfl, rfl, a, zs, _, _, rfl, R.same.seq hS, hzl, by decide, by omega, fun z => ?_⟩
      refine ⟨_, rfl, .inl ⟨rfl, _, SqL.of R.lst⟩, _, rfl, n, rfl, by omega, by omega, fun D hD => ?_⟩
      refine lc_range (lo := 0) (n := n.toNat) (fun j H3 => ∃ ms : List Int, H3 D = some (.lst (ms.map V.int)) ∧ Same H2 H3 ∧ ms.length ≤ j ∧ SetIn j ms) ⟨[], upd_same, Same.up (Same.refl H2) hD, Nat.le_refl _, List.Pairwise.nil, fun k hk => by cases hk⟩ ?_ ?_
      · rintro j H3 hj ⟨ms, hD3, s3, hml, hms⟩
        refine ⟨rfl, _, rfl, _, rfl, _, rfl, _, rfl, _, _, _, _, rfl, by omega, by omega, n0, fun b H4 s4 => ⟨_, rfl, ?_⟩⟩
        have s5 := s3.trans s4
        cases b with
        | false => exact iteF ⟨ms, s4 _ _ hD3, s5, by omega, hms.1, fun k hk => ⟨(hms.2 k hk).1, by have := (hms.2 k hk).2; omega⟩⟩
        | true =>
          refine iteT ⟨_, rfl, _, s4 _ _ hD3, by rw [List.length_map, sizeLine_eq]; omega, ms ++ [0 + (j : Int)], by rw [upd_same, List.map_append]; rfl, fun c o e => ?_, by rw [List.length_append, List.length_singleton]; omega, ?_, fun k hk => ?_⟩
          · rw [upd_ne (ne_of_none e hD)]
            exact s5 c o e
          · rw [List.pairwise_append]
            refine ⟨hms.1, List.pairwise_singleton _ _, fun u hu v hv => ?_⟩
            rw [List.mem_singleton.mp hv]
            have := (hms.2 u hu).2
            omega
          · rcases (List.mem_append).1 hk with z | z
            · exact ⟨(hms.2 k z).1, by have := (hms.2 k z).2; omega⟩
            · rw [(List.mem_singleton).1 z]
              omega
      · rintro H3 ⟨ms, hD3, s3, hml, hms⟩
        have i12 : i < 12 := by omega
        refine ⟨l, _, _, rfl, rfl, s3 _ _ R.lst, by rw [List.length_map, R.rows.1, hlen, sizeLine_eq]; omega, ?_⟩
        refine ⟨_, _, as ++ [D], nss ++ [ms], rfl, R.snoc s3 hD hD3, by rw [List.length_append, hlen]; rfl, fun ns hn => ?_⟩
        rcases (List.mem_append).1 hn with y | y
        · exact hall ns y
        · rw [List.mem_singleton.mp y]
          exact ⟨hms.1, fun k hk => ⟨(hms.2 k hk).1, by have := (hms.2 k hk).2; omega⟩⟩
    · rintro σ H2 ⟨kv, nv, as, nss, rfl, R, hlen, hall⟩
      refine ⟨_, rfl, _, rfl, (by show 2 ≤ sizeLine; decide), fun p hp => ?_⟩
      have np := R.same.free hp
      refine k _ p l as n nss ⟨⟨Same.up R.same hp, R.nl, ?_, R.rows.same (Same.up (Same.refl _) hp), R.nd, R.new⟩, np, upd_same, n0, by omega, by omega, hall⟩ n8
      rw [upd_ne (ne_of_none R.lst hp)]
      exact R.lst
end
end Mb

namespace Mb
open L2 PySem PySem.Spec PyProof.Rows
/-! ### a table that is made; what was handed in is cleared -/
theorem MadeAt.av {Ts : List Addr} {C : Addr} {H H1 : Hp} {x : Addr} {n : Int} {nss mss : List (List Int)} {Av : List Addr} (m : MadeAt Ts C H H1 x n mss) (t : AllTold nss mss) (few : nss.length ≤ 12) (h0 : 0 ≤ n) (h8 : n ≤ 8) (hs : ∀ ns ∈ nss, SetIn n ns) (hA : ∀ b ∈ Av, H b ≠ none) : TabAv C H1 x n nss Av := by
  have e := told_same t hs
  subst e
  obtain ⟨dx, r, ts, h1, h2, h3, h4, h5⟩ := m.ob
  exact ⟨⟨dx, r, ts, h1, h3, h5, fun z => hA _ z h2, fun b hb z => hA _ z (h4 b hb), fun z => hA _ z m.new⟩, few, h0, h8, hs⟩
theorem NewRows.there {H H1 : Hp} {l : Addr} {as : List Addr} {mss : List (List Int)} (r : NewRows H H1 l as mss) : ∀ b ∈ l :: as, H1 b ≠ none ∧ H b = none := fun b hb => by
  rcases (List.mem_cons).1 hb with z | z
  · rw [z, r.lst]
    exact ⟨fun q => (by cases q), r.nl⟩
  · obtain ⟨i, hi, e⟩ := List.getElem_of_mem z
    obtain ⟨ns, _, h2⟩ := r.rows.2 i b (by rw [List.getElem?_eq_getElem hi, e])
    rw [h2]
    exact ⟨fun q => (by cases q), (r.new b z).1⟩
theorem NewRows.lists {H H1 H2 : Hp} {Ts : List Addr} {l : Addr} {as : List Addr} {mss : List (List Int)} (r : NewRows H H1 l as mss) (k : Kp Ts H1 H2) : ∀ b ∈ l :: as, ∃ xs : List V, H2 b = some (.lst xs) := fun b hb => by
  rcases (List.mem_cons).1 hb with z | z
  · rw [z]
    exact ⟨_, k.lst r.lst⟩
  · obtain ⟨i, hi, e⟩ := List.getElem_of_mem z
    obtain ⟨ns, _, h2⟩ := r.rows.2 i b (by rw [List.getElem?_eq_getElem hi, e])
    exact ⟨_, k.lst h2⟩
/-- what stood before the changed things were laid stays -/
theorem Kx.before {Ts L : List Addr} {H H1 H2 : Hp} (k : Kp Ts H H1) (x : Kx Ts L H1 H2) (h : ∀ b ∈ L, H b = none) : Kp Ts H H2 := ⟨k.t0, fun b o nb e => x.keep b o nb (fun z => by rw [h b z] at e; cases e) (k.keep b o nb e), x.t1⟩
end Mb

namespace Mb
open L2 PySem PySem.Spec PyProof.Rows
section
variable {P : Program} {w : World} {K : PySem.W.Frag} {mg : Str → Option Value} {base : Heap} {C CS CM CT CN CE : Addr}
def spLaw (K : PySem.W.Frag) (Ts : List Addr) : Sp := fun vs H Q _ => ∃ (a : Addr) (zs : List Int), vs = [.ref a] ∧ SqL K H a (zs.map V.int) ∧ zs.length ≤ 1000 ∧ Tabs Ts H ∧ ∀ H', Q (.bl true) H'
abbrev nLaw : List Str := ["_law_script", "_law_one", "_law_other", "_law_row", "_law_given", "_law_tables", "_law_found", "_law_rule", "_law_due", "_law_copy"]
theorem scLaw : FnScope nLaw ["_law_script"] (defScope sLaw) := ⟨rfl, rfl, rfl, by decide +kernel, rfl, by decide +kernel, by decide +kernel⟩
theorem ok_law {f fC fB fX fS fU fH fI : Addr} {fd fdC fdB fdX fdS fdU fdH fdI : FuncData} {Ts : List Addr} {kH : Nat} (F : Fun K "law" "law" sLaw f fd) (L : LTxt K mg) (M : Mk K C fI) (cl : Cls K C) (nR : NoAttr K C "rows")
    (GI : FnOk P w K mg base (L2.CX P w) 3 fI fdI ["self", "many", "rows"] (spInit K C CS CM Ts)) (gTab : mg "Table" = some (.ref C)) (bI : Binds K fdI ["self", "many", "rows"] [])
    (GC : FnOk P w K mg base CX0 1 fC fdC ["_law_script", "_law_k"] (spCell K)) (gC : mg "_law_cell_at" = some (.ref fC)) (kC : PySem.W.keepIn K (.ref fC) = true) (bC : Binds K fdC ["_law_script", "_law_k"] [])
    (GB : FnOk P w K mg base CX0 3 fB fdB ["_law_script", "_law_turn"] (spTableBy10 K)) (gB : mg "_law_table_by" = some (.ref fB)) (kB : PySem.W.keepIn K (.ref fB) = true) (bB : Binds K fdB ["_law_script", "_law_turn"] [])
    (GX : FnOk P w K mg base CX0 6 fX fdX ["table"] (spPairs C Ts rulesOf)) (gX : mg "fewest" = some (.ref fX)) (kX : PySem.W.keepIn K (.ref fX) = true) (bX : Binds K fdX ["table"] [])
    (GS : FnOk P w K mg base CX0 2 fS fdS ["_law_found", "_law_due"] (spSame10 K)) (gS : mg "_law_same" = some (.ref fS)) (kS : PySem.W.keepIn K (.ref fS) = true) (bS : Binds K fdS ["_law_found", "_law_due"] [])
    (GU : FnOk P w K mg base CX0 2 fU fdU ["_law_many", "_law_rows"] (spRules10 K)) (gU : mg "_law_rules" = some (.ref fU)) (kU : PySem.W.keepIn K (.ref fU) = true) (bU : Binds K fdU ["_law_many", "_law_rows"] [])
    (GH : FnOk P w K mg base CX0 kH fH fdH ["_law_table", "_law_cell"] (spAhead C Ts)) (gH : mg "_law_ahead" = some (.ref fH)) (keH : PySem.W.keepIn K (.ref fH) = true) (bH : Binds K fdH ["_law_table", "_law_cell"] []) (h6 : 6 ≤ kH)
    : FnOk P w K mg base CX0 (kH + 1) f fd ["_law_script"] (spLaw K Ts) := by
  refine F.ok scLaw (fun vs H Q E h => ?_) (fun cdv A outer s H vs Q E hr h => ?_)
  · obtain ⟨a, zs, rfl, _⟩ := h
    rfl
  · obtain ⟨a, zs, rfl, hS, hlen, tb, k⟩ := h
    have hr6 : Room 6 _ := hr.mono h6
    have hr4 : Room 4 _ := hr.mono (by omega)
    have hr3 : Room 3 _ := hr.mono (by omega)
    have hr2 : Room 2 _ := hr.mono (by omega)
    have hr1 : Room 1 _ := hr.mono (by omega)
    refine ⟨_, pss_cons (ps_set (i := 1) scLaw.nd rfl (Or.inl rfl) (pe_call GB hr3 (by rfl) gB kB bB .nil pass0 (pa_cons (pv 0) (pa_cons pe_int pa_nil))))
      (pss_cons (ps_set (i := 2) scLaw.nd rfl (Or.inl rfl) (pe_call GB hr3 (by rfl) gB kB bB .nil pass0 (pa_cons (pv 0) (pa_cons pe_int pa_nil))))
      (C8.pss_cut (ps_setLc (i := 4) (own := [("_law_row", 3)]) (g := gName 3) (tt := tYes) (te := tCB (rListOf K) (tCons (tVar 3) tNil)) rfl scLaw.nd rfl rfl (sw_true rfl rfl rfl (by decide +kernel)) (pi_list (pe_ix ix_tup (pv 1) pe_int (fun _ _ => rfl))) (blkOk_by (N := nLaw) (sc := defScope sLaw) (by decide +kernel)) (fun _ _ _ _ _ => pg_name (i := 3) scLaw.nd rfl (Or.inl rfl)) (fun _ _ _ _ _ => pts_nil) (fun _ _ _ _ _ => pe_callTy call_list_of (by rfl) L.list PyProof.Rows.boot_list (pa_cons (pv 3) pa_nil)))
      (C8.pss_cut (ps_set (i := 5) scLaw.nd rfl (Or.inl rfl) (pe_lst (pa_cons (pe_make M GI hr4 (by rfl) gTab bI .nil passL (pa_cons (pe_ix ix_tup (pv 1) pe_int (fun _ _ => rfl)) (pa_cons (pv 4) pa_nil))) (pa_cons (pe_make M GI hr4 (by rfl) gTab bI .nil passL (pa_cons (pe_ix ix_tup (pv 2) pe_int (fun _ _ => rfl)) (pa_cons (pe_ix ix_tup (pv 2) pe_int (fun _ _ => rfl)) pa_nil))) pa_nil))))
      (C8.pss_cut (ps_for PassesOwn.never rfl (pi_list (pv 4)) (pg_name (i := 3) scLaw.nd rfl (Or.inl rfl)) (pss_one (ps_expr (pe_bm0 PySem.F.plainAttrs_list PySem.F.slot_list_clear PySem.F.type_list_clear mt_clear (pv 3)))))
      (C8.pss_cut (ps_expr (pe_bm0 PySem.F.plainAttrs_list PySem.F.slot_list_clear PySem.F.type_list_clear mt_clear (pv 4)))
      (C8.pss_cut (ps_expr (pe_call GH hr (by rfl) gH keH bH .nil pass0 (pa_cons (pe_ix ix_list (pv 5) pe_int (fun _ _ => rfl)) (pa_cons (pe_call GC hr1 (by rfl) gC kC bC .nil pass0 (pa_cons (pv 0) (pa_cons pe_int pa_nil))) pa_nil))))
      (C8.pss_cut (ps_set (i := 8) scLaw.nd rfl (Or.inl rfl) (pe_call GU hr2 (by rfl) gU kU bU .nil pass0 (pa_cons (pe_ix ix_tup (pv 1) pe_int (fun _ _ => rfl)) (pa_cons (pe_ix ix_tup (pv 1) pe_int (fun _ _ => rfl)) pa_nil))))
      (C8.pss_cut (ps_set (i := 6) scLaw.nd rfl (Or.inl rfl) (pe_call GX hr6 (by rfl) gX kX bX .nil pass0 (pa_cons (pe_ix ix_list (pv 5) pe_int (fun _ _ => rfl)) pa_nil)))
      (C8.pss_cut (ps_if (pt_not (pt_val (pe_call GS hr2 (by rfl) gS kS bS .nil pass0 (pa_cons (pv 6) (pa_cons (pv 8) pa_nil))))) (pss_one (ps_ret pe_bl)) pss_nil)
      (C8.pss_cut (ps_expr (pe_bm PySem.F.plainAttrs_list PySem.F.slot_list_append PySem.F.type_list_append mt_append (pv 6) (pa_cons (pe_tup (pa_cons (pe_lst pa_nil) (pa_cons (pe_lst pa_nil) pa_nil))) pa_nil)))
      (C8.pss_cut (ps_setLc (i := 9) (own := [("_law_rule", 7)]) (g := gName 7) (tt := tYes) (te := teCopy K) rfl scLaw.nd rfl rfl (sw_true rfl rfl rfl (by decide +kernel)) (pi_list (pv 6)) (blkOk_by (N := nLaw) (sc := defScope sLaw) (by decide +kernel)) (fun _ _ _ _ _ => pg_name (i := 7) scLaw.nd rfl (Or.inl rfl)) (fun _ _ _ _ _ => pts_nil)
          (fun _ _ _ _ _ => pe_tup (pa_cons (pe_callTy call_list_of (by rfl) L.list PyProof.Rows.boot_list (pa_cons (pe_ix ix_tup (pv 7) pe_int (fun _ _ => rfl)) pa_nil)) (pa_cons (pe_callTy call_list_of (by rfl) L.list PyProof.Rows.boot_list (pa_cons (pe_ix ix_tup (pv 7) pe_int (fun _ _ => rfl)) pa_nil)) pa_nil))))
      (C8.pss_cut (ps_if (PW.pt (pw_or (pt_not (pt_val (pe_call GS hr2 (by rfl) gS kS bS .nil pass0 (pa_cons (pe_call GX hr6 (by rfl) gX kX bX .nil pass0 (pa_cons (pe_ix ix_list (pv 5) pe_int (fun _ _ => rfl)) pa_nil)) (pa_cons (pe_call GU hr2 (by rfl) gU kU bU .nil pass0 (pa_cons (pe_ix ix_tup (pv 2) pe_int (fun _ _ => rfl)) (pa_cons (pe_ix ix_tup (pv 2) pe_int (fun _ _ => rfl)) pa_nil))) pa_nil)))))
          (pw_or1 (pt_not (pt_val (pe_call GS hr2 (by rfl) gS kS bS .nil pass0 (pa_cons (pe_call GX hr6 (by rfl) gX kX bX .nil pass0 (pa_cons (pe_ix ix_list (pv 5) pe_int (fun _ _ => rfl)) pa_nil)) (pa_cons (pv 8) pa_nil)))))))) (pss_one (ps_ret pe_bl)) pss_nil)
      (pss_one (ps_ret (pe_and (pe_cmpR (op_eqD hr.units) (pe_fld (pe_ix ix_list (pv 5) pe_int (fun _ _ => rfl)) rfl) (pe_ix ix_tup (pv 1) pe_int (fun _ _ => rfl)) (nomark _)) (pe_one (pe_cmpR (op_eqD hr.units) (pv 6) (pv 9) (nomark _)))))))))))))))))), ?_⟩
    refine ⟨_, rfl, a, zs, 0, rfl, by decide, by decide, hS, hlen, fun H1 t1 l1 as1 n1 mss1 R1 n16 => ?_⟩
    have kp1 : Kp Ts H H1 := Kp.of_same tb R1.rows.same
    refine ⟨_, rfl, a, zs, 1, rfl, by decide, by decide, kp1.seq hS, hlen, fun H2 t2 l2 as2 n2 mss2 R2 n26 => ?_⟩
    have kp12 : Kp Ts H1 H2 := Kp.of_same kp1.t1 R2.rows.same
    have kp2 := kp1.trans kp12
    obtain ⟨m1, rfl⟩ := Int.eq_ofNat_of_zero_le R1.lo
    obtain ⟨m2, rfl⟩ := Int.eq_ofNat_of_zero_le R2.lo
    have hT1 : H2 t1 = some (.tup [.int m1, .ref l1]) := R2.rows.same _ _ R1.tup
    have hT2 := R2.tup
    have hl1 : H2 l1 = some (.lst (as1.map V.ref)) := R2.rows.same _ _ R1.rows.lst
    have rows1 : RowsAt H2 as1 mss1 := R1.rows.rows.same R2.rows.same
    have hl2 := R2.rows.lst
    have rows2 := R2.rows.rows
    have few1 := R1.few
    have few2 := R2.few
    have sets1 := R1.sets
    have sets2 := R2.sets
    have h81 := R1.hi
    have h82 := R2.hi
    have nb : ∀ {m : Nat} {mss : List (List Int)}, (m : Int) ≤ 8 → mss.length ≤ 12 → ¬ badSize m mss.length := fun {m mss} h1 h2 z => by
      rcases z with z | z | z <;> omega
    have rowOk : ∀ {m : Nat} {mss : List (List Int)}, (∀ ms ∈ mss, SetIn (m : Int) ms) → ∀ ms ∈ mss, okRow m ms = true := fun {m mss} h ms hm => okRow_iff.mpr (h ms hm).2
    have short : ∀ {m : Nat} {mss : List (List Int)}, (m : Int) ≤ 8 → (∀ ms ∈ mss, SetIn (m : Int) ms) → ∀ ms ∈ mss, ms.length ≤ 60 := fun {m mss} h8 h ms hm => by
      have := rise_short (h ms hm)
      omega
    have at0 : ∀ y z : V, atI [y, z] 0 = some y := fun _ _ => rfl
    have at1 : ∀ y z : V, atI [y, z] 1 = some z := fun _ _ => rfl
    -- the rows handed in
    refine ⟨fun σ H' => ∃ (g : Addr) (bs : List Addr), σ = [some (.ref a), some (.ref t1), some (.ref t2), none, some (.ref g), none, none, none, none, none] ∧ NewRows H2 H' g bs mss1, ?_, ?_⟩
    · refine ⟨_, rfl, t1, _, _, _, rfl, rfl, SqT.of hT1, at1 _ _, l1, rfl, ⟨_, SqL.of hl1⟩, fun D hD => ?_⟩
      refine lc_list (K := K) (a := l1) (xs := as1.map V.ref) (fun i H5 => ∃ bs : List Addr, NewRows H2 H5 D bs (mss1.take i)) ⟨[], Same.up (Same.refl _) hD, hD, upd_same, RowsAt.nil, List.nodup_nil, fun b hb => by cases hb⟩ (fun i H5 _ ⟨_, r⟩ => SqL.of (r.same _ _ hl1)) ?_ ?_
      · rintro i y H5 hy ⟨bs, r⟩
        obtain ⟨q, hq, rfl⟩ := ref_at hy
        obtain ⟨ns, hns, hQ⟩ := rows1.2 i q hq
        refine ⟨rfl, _, rfl, q, _, rfl, .inl (SqL.of (r.same _ _ hQ)), fun p hp => ?_⟩
        have Dp : D ≠ p := ne_of_none r.lst hp
        have tk : mss1.take (i + 1) = mss1.take i ++ [ns] := by rw [List.take_add_one, hns]; rfl
        have il : i < 12 := by have := (List.getElem?_eq_some_iff.mp hns).1; omega
        have bl : bs.length ≤ i := by rw [r.rows.1, List.length_take]; omega
        refine ⟨bs.map V.ref, Eq.trans (upd_ne Dp) r.lst, by rw [List.length_map, sizeLine_eq]; omega, bs ++ [p], ?_⟩
        rw [tk]
        exact r.snoc (Same.up (Same.refl _) hp) hp upd_same
      · rintro H5 ⟨bs, r⟩
        rw [List.length_map, rows1.1, List.take_length] at r
        exact ⟨D, bs, rfl, r⟩
    rintro σ H5 ⟨g, bs, rfl, r5⟩
    have kp5 : Kp Ts H2 H5 := Kp.of_same kp12.t1 r5.same
    -- the tables
    refine ⟨fun σ H' => ∃ (T x y : Addr), σ = [some (.ref a), some (.ref t1), some (.ref t2), none, some (.ref g), some (.ref T), none, none, none, none] ∧ Kp Ts H5 H' ∧ H' T = some (.lst [.ref x, .ref y]) ∧ TabAv C H' x m1 mss1 (g :: bs) ∧ TabAv C H' y m2 mss2 (g :: bs) ∧ H5 T = none, ?_, ?_⟩
    · refine ⟨_, rfl, t1, _, _, _, rfl, rfl, SqT.of (kp5.obj hT1 fun _ z => by cases z), at0 _ _, _, rfl, fun x dx nx ndx ne => ?_⟩
      have kp7 : Kp Ts H5 (upd (upd H5 dx (.own x)) x (.ins C dx [])) := ((Kp.refl kp5.t1).own ndx (kp5.t1.outN ndx)).own nx (kp5.t1.outN nx)
      refine ⟨H5, x, dx, g, m1, bs, mss1, rfl, kp7, nx, upd_same, kp7.lst r5.lst, r5.rows.kp kp7, by rw [r5.rows.1]; omega, short h81 sets1, fun bad => absurd bad (nb h81 few1), fun _ sb => ?_, fun _ _ H8 tss made told => ⟨rfl, ?_⟩⟩
      · obtain ⟨ms, hm, e⟩ := sb
        rw [rowOk sets1 ms hm] at e
        cases e
      have kp8 := made.kp
      have tab8 : TabAv C H8 x m1 mss1 (g :: bs) := made.av told few1 R1.lo h81 sets1 fun b hb => (r5.there b hb).1
      have kp58 := kp5.trans kp8
      refine ⟨_, rfl, t2, _, _, _, rfl, rfl, SqT.of (kp58.obj hT2 fun _ z => by cases z), at0 _ _, _, rfl, t2, _, _, _, rfl, rfl, SqT.of (kp58.obj hT2 fun _ z => by cases z), at1 _ _, fun y dy ny ndy ne2 => ?_⟩
      have kp9 : Kp Ts H8 (upd (upd H8 dy (.own y)) y (.ins C dy [])) := ((Kp.refl kp8.t1).own ndy (kp8.t1.outN ndy)).own ny (kp8.t1.outN ny)
      have k29 := kp58.trans kp9
      refine ⟨H8, y, dy, l2, m2, as2, mss2, rfl, kp9, ny, upd_same, k29.lst hl2, rows2.kp k29, by rw [rows2.1]; omega, short h82 sets2, fun bad => absurd bad (nb h82 few2), fun _ sb => ?_, fun _ _ H9 tss2 made2 told2 => ⟨rfl, ?_⟩⟩
      · obtain ⟨ms, hm, e⟩ := sb
        rw [rowOk sets2 ms hm] at e
        cases e
      have tab9 : TabAv C H9 y m2 mss2 (g :: bs) := made2.av told2 few2 R2.lo h82 sets2 fun b hb z => by
        have q := (r5.there b hb).1
        exact q (kp8.free z)
      have k59 := kp8.trans made2.kp
      refine ⟨(by show 2 ≤ sizeLine; decide), fun T hT => ?_⟩
      have kT : Kp Ts H9 (upd H9 T (.lst [.ref x, .ref y])) := (Kp.refl made2.kp.t1).own hT (made2.kp.t1.outN hT)
      exact ⟨T, x, y, rfl, k59.trans kT, upd_same, (tab8.kx (L := []) (made2.kp.trans kT).kx (by simp)), (tab9.kx (L := []) kT.kx (by simp)), k59.free hT⟩
    rintro σ H10 ⟨T, x, y, rfl, k10, hTl, tabx, taby, nT⟩
    have lists10 := r5.lists k10
    have TAv : T ∉ g :: bs := fun z => (r5.there T z).1 nT
    -- what was handed in is cleared
    refine ⟨fun σ H' => ∃ v3 : Option V, σ = [some (.ref a), some (.ref t1), some (.ref t2), v3, some (.ref g), some (.ref T), none, none, none, none] ∧ Kx Ts (g :: bs) H10 H' ∧ H' g = some (.lst (bs.map V.ref)), ?_, ?_⟩
    · have hg10 := k10.lst r5.lst
      have ng : g ∉ bs := fun z => (r5.new g z).2 rfl
      refine ⟨_, rfl, g, rfl, ⟨_, SqL.of hg10⟩, for_list (K := K) (a := g) (xs := bs.map V.ref) (fun i σ H' => ∃ v3 : Option V, σ = [some (.ref a), some (.ref t1), some (.ref t2), v3, some (.ref g), some (.ref T), none, none, none, none] ∧ Kx Ts (g :: bs) H10 H' ∧ H' g = some (.lst (bs.map V.ref)) ∧ (∀ q ∈ bs, ∃ xs : List V, H' q = some (.lst xs)))
        ⟨none, rfl, Kx.refl k10.t1, hg10, fun q hq => lists10 q (List.mem_cons_of_mem _ hq)⟩ (fun i σ H' _ ⟨_, _, _, z, _⟩ => SqL.of z) ?_ ?_⟩
      · rintro i y σ H11 hy ⟨v, rfl, kx, hg, kl⟩
        obtain ⟨q, hq, rfl⟩ := ref_at hy
        have hm : q ∈ bs := List.mem_of_getElem? hq
        obtain ⟨xs, hx⟩ := kl q hm
        refine ⟨_, rfl, .inl ⟨rfl, _, SqL.of hx⟩, q, _, rfl, rfl, hx, ?_⟩
        have gq : g ≠ q := fun z => ng (by rw [z]; exact hm)
        refine ⟨some (.ref q), rfl, kx.put hx (fun _ z => by cases z) (List.mem_cons_of_mem _ hm), by rw [upd_ne gq]; exact hg, fun p hp => ?_⟩
        by_cases pq : p = q
        · rw [pq, upd_same]
          exact ⟨_, rfl⟩
        · obtain ⟨ys, h1⟩ := kl p hp
          exact ⟨ys, by rw [upd_ne pq]; exact h1⟩
      · rintro σ H11 ⟨v, rfl, kx, hg, _⟩
        exact ⟨v, rfl, kx, hg⟩
    rintro σ H11 ⟨v3, rfl, kx11, hg11⟩
    refine ⟨fun σ H' => σ = [some (.ref a), some (.ref t1), some (.ref t2), v3, some (.ref g), some (.ref T), none, none, none, none] ∧ Kx Ts (g :: bs) H10 H', ?_, ?_⟩
    · exact ⟨_, rfl, .inl ⟨rfl, _, SqL.of hg11⟩, g, _, rfl, rfl, hg11, rfl, kx11.put hg11 (fun _ z => by cases z) List.mem_cons_self⟩
    rintro σ H12 ⟨rfl, kx12⟩
    have tabx12 : TabAv C H12 x m1 mss1 [] := by
      have q := tabx.kx kx12 fun b hb => hb
      exact ⟨let ⟨d, r, us, e1, e2, e3, _⟩ := q.ob; ⟨d, r, us, e1, e2, e3, by simp, by simp, by simp⟩, q.few, q.lo, q.hi, q.sets⟩
    have taby12 : TabAv C H12 y m2 mss2 [] := by
      have q := taby.kx kx12 fun b hb => hb
      exact ⟨let ⟨d, r, us, e1, e2, e3, _⟩ := q.ob; ⟨d, r, us, e1, e2, e3, by simp, by simp, by simp⟩, q.few, q.lo, q.hi, q.sets⟩
    have hTl12 : H12 T = some (.lst [.ref x, .ref y]) := kx12.lst hTl TAv
    have k12 : Kp Ts H2 H12 := Kx.before (kp5.trans k10) kx12 fun b hb => (r5.there b hb).2
    clear kx12 kx11 hg11 tabx taby lists10 nT TAv hTl k10
    -- other answers ahead
    refine ⟨fun σ H' => σ = [some (.ref a), some (.ref t1), some (.ref t2), v3, some (.ref g), some (.ref T), none, none, none, none] ∧ Kp Ts H12 H', ?_, ?_⟩
    · exact ⟨_, rfl, T, _, _, _, rfl, rfl, SqL.of hTl12, at0 _ _, _, rfl, a, zs, _, rfl, (kp2.trans k12).seq hS, by decide, x, _, (m1 : Int), mss1, rfl, tabx12, k12.t1, fun H13 k13 => ⟨rfl, k13⟩⟩
    rintro σ H13 ⟨rfl, k13⟩
    have k213 := k12.trans k13
    -- the rules that are due
    refine ⟨fun σ H' => ∃ U : Addr, σ = [some (.ref a), some (.ref t1), some (.ref t2), v3, some (.ref g), some (.ref T), none, none, some (.ref U), none] ∧ Kp Ts H13 H' ∧ PairsR K H' U (rulesOf m1 mss1), ?_, ?_⟩
    · refine ⟨_, rfl, t1, _, _, _, rfl, rfl, SqT.of (k213.obj hT1 fun _ z => by cases z), at0 _ _, _, rfl, t1, _, _, _, rfl, rfl, SqT.of (k213.obj hT1 fun _ z => by cases z), at1 _ _, m1, l1, mss1, rfl, by omega, GridR.of (k213.lst hl1) (rows1.kp k213), by omega, fun H14 U s14 N => ?_⟩
      exact ⟨U, rfl, Kp.of_same k13.t1 s14, N.r⟩
    rintro σ H14 ⟨U, rfl, k14, pU⟩
    have k1214 := k13.trans k14
    have tabx14 : TabAv C H14 x m1 mss1 [] := tabx12.kx (L := []) k1214.kx (by simp)
    have taby14 : TabAv C H14 y m2 mss2 [] := taby12.kx (L := []) k1214.kx (by simp)
    have hTl14 := k1214.lst hTl12
    have k214 := k12.trans k1214
    have big1 := (rules_small m1 mss1 R1.lo h81 few1).1
    have big2 := (rules_small m2 mss2 R2.lo h82 few2).1
    -- the rules that are told
    refine ⟨fun σ H' => ∃ F : Addr, σ = [some (.ref a), some (.ref t1), some (.ref t2), v3, some (.ref g), some (.ref T), some (.ref F), none, some (.ref U), none] ∧ Kp Ts H14 H' ∧ NewPairs H14 H' F (rulesOf m1 mss1), ?_, ?_⟩
    · exact ⟨_, rfl, T, _, _, _, rfl, rfl, SqL.of hTl14, at0 _ _, x, (m1 : Int), mss1, rfl, tabx14, k14.t1, fun H15 F k15 N => ⟨F, rfl, k15, N⟩⟩
    rintro σ H15 ⟨F, rfl, k15, N⟩
    refine ⟨fun σ H' => σ = [some (.ref a), some (.ref t1), some (.ref t2), v3, some (.ref g), some (.ref T), some (.ref F), none, some (.ref U), none] ∧ Same H15 H', ?_, ?_⟩
    · exact ⟨_, rfl, _, rfl, F, U, rulesOf m1 mss1, rfl, N.m, pU.kp k15, by omega, fun H16 s16 => ⟨_, rfl, iteF ⟨rfl, s16⟩⟩⟩
    rintro σ H16 ⟨rfl, s16⟩
    have k16 := k15.trans (Kp.of_same k15.t1 s16)
    obtain ⟨ts, hF15, htl, hts⟩ := N.ob
    have nF := N.nr
    have hF16 := s16 _ _ hF15
    have tF : ∀ t ∈ ts, ∃ (p q : Addr) (as bs : List Int), (t ≠ F ∧ p ≠ F ∧ q ≠ F) ∧ H16 t = some (.tup [.ref p, .ref q]) ∧ H16 p = some (.lst (as.map V.int)) ∧ H16 q = some (.lst (bs.map V.int)) := fun t ht => by
      obtain ⟨i, hi, e⟩ := List.getElem_of_mem ht
      obtain ⟨p, q, as, bs, h1, _, h2, _, _, h3, h4⟩ := hts i t (by rw [List.getElem?_eq_getElem hi, e])
      have ne : ∀ (b : Addr) (xs : List Int), H15 b = some (.lst (xs.map V.int)) → b ≠ F := fun b xs h z => by
        rw [z, hF15] at h
        have e : ts.map V.ref = xs.map V.int := by injection h with h; injection h
        have hm : V.ref t ∈ xs.map V.int := by rw [← e]; exact List.mem_map.mpr ⟨t, ht, rfl⟩
        obtain ⟨z, _, hz⟩ := List.mem_map.mp hm
        cases hz
      exact ⟨p, q, as, bs, ⟨fun z => (by rw [z, hF15] at h2; cases h2), ne p as h3, ne q bs h4⟩, s16 _ _ h2, s16 _ _ h3, s16 _ _ h4⟩
    -- changed
    refine ⟨fun σ H' => ∃ ps : List (List Int × List Int), σ = [some (.ref a), some (.ref t1), some (.ref t2), v3, some (.ref g), some (.ref T), some (.ref F), none, some (.ref U), none] ∧ Kp Ts H14 H' ∧ PairsM H' F ps ∧ ps.length ≤ 2000, ?_, ?_⟩
    · refine ⟨_, rfl, .inl ⟨rfl, _, SqL.of hF16⟩, Nat.zero_le _, fun u1 hu1 => ⟨Nat.zero_le _, fun u2 hu2 => ⟨(by show 2 ≤ sizeLine; decide), fun u3 hu3 => ?_⟩⟩⟩
      obtain ⟨G, eG, sG, g1, g2, g3⟩ := three (o3 := .tup [V.ref u1, V.ref u2]) hu1 hu2 hu3
      rw [← eG]
      have hFG := sG _ _ hF16
      refine ⟨F, _, _, rfl, rfl, hFG, by rw [List.length_map, sizeLine_eq]; omega, ?_⟩
      have n16 : ∀ b : Addr, H16 b = none → b ≠ F := fun b e z => by rw [z, hF16] at e; cases e
      have nu2 : H16 u2 = none := (Same.up (Same.refl H16) hu1).free hu2
      have nu3 : H16 u3 = none := (Same.up (Same.up (Same.refl H16) hu1) hu2).free hu3
      obtain ⟨ps, lps, hps⟩ := told_pairs (H := upd G F (.lst (ts.map V.ref ++ [V.ref u3]))) (ts ++ [u3]) fun t ht => by
        rcases (List.mem_append).1 ht with z | z
        · obtain ⟨p, q, as, bs, ⟨n1, n2, n3⟩, h1, h2, h3⟩ := tF t z
          exact ⟨p, q, as, bs, by rw [upd_ne n1]; exact sG _ _ h1, by rw [upd_ne n2]; exact sG _ _ h2, by rw [upd_ne n3]; exact sG _ _ h3⟩
        · rw [(List.mem_singleton).1 z]
          exact ⟨u1, u2, [], [], by rw [upd_ne (n16 u3 nu3)]; exact g3, by rw [upd_ne (n16 u1 hu1)]; exact g1, by rw [upd_ne (n16 u2 nu2)]; exact g2⟩
      refine ⟨ps, rfl, ⟨k14.t1, fun b o nb e => ?_, ?_⟩, ⟨ts ++ [u3], by rw [upd_same, List.map_append]; rfl, lps, hps⟩, by rw [← lps, List.length_append, List.length_singleton]; omega⟩
      · have bF : b ≠ F := fun z => by rw [z, nF] at e; cases e
        rw [upd_ne bF]
        exact sG _ _ (k16.keep b o nb e)
      · exact (k16.trans (Kp.of_same k16.t1 sG)).t1.put (fun z => by
          obtain ⟨_, e, _⟩ := k16.t0 F z
          rw [nF] at e
          cases e)
    rintro σ H17 ⟨ps, rfl, k17, pm17, lps⟩
    -- a copy
    refine ⟨fun σ H' => ∃ D : Addr, σ = [some (.ref a), some (.ref t1), some (.ref t2), v3, some (.ref g), some (.ref T), some (.ref F), none, some (.ref U), some (.ref D)] ∧ Kp Ts H14 H' ∧ PairsR K H' F ps ∧ PairsR K H' D ps, ?_, ?_⟩
    · exact copy_all pm17 lps k17.t1 fun H7 D s N2 => ⟨D, rfl, k17.trans (Kp.of_same k17.t1 s), pm17.r.same s, N2.r⟩
    rintro σ H18 ⟨D, rfl, k18, prF, prD⟩
    have k218 := k214.trans k18
    -- the other table's, and the first one's again
    refine ⟨fun σ H' => σ = [some (.ref a), some (.ref t1), some (.ref t2), v3, some (.ref g), some (.ref T), some (.ref F), none, some (.ref U), some (.ref D)] ∧ Kp Ts H18 H', ?_, ?_⟩
    · refine ⟨_, rfl, T, _, _, _, rfl, rfl, SqL.of (k18.lst hTl14), at1 _ _, y, (m2 : Int), mss2, rfl, taby14.kx (L := []) k18.kx (by simp), k18.t1, fun H19 F2 k19 N2 => ?_⟩
      have k219 := k218.trans k19
      refine ⟨_, rfl, t2, _, _, _, rfl, rfl, SqT.of (k219.obj hT2 fun _ z => by cases z), at0 _ _, _, rfl, t2, _, _, _, rfl, rfl, SqT.of (k219.obj hT2 fun _ z => by cases z), at1 _ _, m2, l2, mss2, rfl, by omega, GridR.of (k219.lst hl2) (rows2.kp k219), by omega, fun H20 U2 s20 N3 => ?_⟩
      have pm20 : PairsM H20 F2 (rulesOf m2 mss2) := by
        obtain ⟨us, e1, e2, e3⟩ := N2.m
        exact ⟨us, s20 _ _ e1, e2, fun i t e => let ⟨p, q, as, bs, y1, y2, y3, y4⟩ := e3 i t e; ⟨p, q, as, bs, y1, s20 _ _ y2, s20 _ _ y3, s20 _ _ y4⟩⟩
      refine ⟨F2, U2, rulesOf m2 mss2, rfl, pm20, N3.r, by omega, fun H21 s21 => ⟨_, rfl, iteF ?_⟩⟩
      have k1821 := k19.trans (Kp.of_same k19.t1 (s20.trans s21))
      have k1421 := k18.trans k1821
      refine ⟨_, rfl, T, _, _, _, rfl, rfl, SqL.of (k1421.lst hTl14), at0 _ _, x, (m1 : Int), mss1, rfl, tabx14.kx (L := []) k1421.kx (by simp), k1821.t1, fun H22 F3 k22 N4 => ?_⟩
      refine ⟨_, rfl, F3, U, rulesOf m1 mss1, rfl, N4.m, pU.kp (k1421.trans k22), by omega, fun H23 s23 => ⟨_, rfl, iteF ⟨rfl, k1821.trans (k22.trans (Kp.of_same k22.t1 s23))⟩⟩⟩
    rintro σ H19 ⟨rfl, k19⟩
    have k1419 := k18.trans k19
    have k219 := k214.trans k1419
    obtain ⟨dx23, r23, ts23, hx23, hr23, hT23, _⟩ := (tabx14.kx (L := []) k1419.kx (by simp)).ob
    have gr23 : GridR K H19 l1 mss1 := GridR.of (k219.lst hl1) (rows1.kp k219)
    refine ⟨_, rfl, T, _, _, _, rfl, rfl, SqL.of (k1419.lst hTl14), at0 _ _, x, C, dx23, _, _, rfl, hx23, cl, nR, tf_rows _ _, _, rfl, t1, _, _, _, rfl, rfl, SqT.of (k219.obj hT1 fun _ z => by cases z), at1 _ _, gridD mss1, gridD mss1, dpGrid hr23 hT23, dpGridR gr23, shRows _, shRows _, _, rfl, ?_⟩
    rw [eqv_grid, decide_eq_true (show mss1 = mss1 from rfl)]
    refine iteT ?_
    refine ⟨_, rfl, _, rfl, pairsD ps, pairsD ps, dpPairs (prF.kp k19), dpPairs (prD.kp k19), shPairs _, shPairs _, ?_⟩
    rw [eqv_pairs, decide_eq_true (show ps = ps from rfl)]
    exact k _
end
end Mb

namespace Mb
open L2 PySem PySem.Spec PyProof.Rows
section
variable {P : Program} {w : World} {K : PySem.W.Frag} {mg : Str → Option Value} {base : Heap} {C CS CM CT CN CE : Addr}
/-- told pairs, some of whose lists have been put to -/
structure PairsAt (H H' : Hp) (r : Addr) (us : List Addr) (i : Nat) : Prop where
  lst : H' r = some (.lst (us.map V.ref))
  each : ∀ (j : Nat) (u : Addr), us[j]? = some u → ∃ p q : Addr, H' u = some (.tup [.ref p, .ref q]) ∧ H p = none ∧ H q = none ∧ p ≠ r ∧ q ≠ r ∧ (∃ xs : List V, H' p = some (.lst xs) ∧ xs.length ≤ 1000 + i) ∧ ∃ xs : List V, H' q = some (.lst xs) ∧ xs.length ≤ 1000 + i
theorem PairsAt.start {H H' : Hp} {r : Addr} {ps : List (List Int × List Int)} (N : NewPairs H H' r ps) (hs : ∀ p ∈ ps, p.1.length ≤ 1000 ∧ p.2.length ≤ 1000) : ∃ us : List Addr, us.length = ps.length ∧ PairsAt H H' r us 0 := by
  obtain ⟨us, h1, h2, h3⟩ := N.ob
  refine ⟨us, h2, ⟨h1, fun j u hu => ?_⟩⟩
  obtain ⟨p, q, as, bs, e, _, g2, g3, g4, g5, g6⟩ := h3 j u hu
  have hm := hs _ (List.mem_of_getElem? e)
  have ne : ∀ (w : Addr) (cs : List Int), H' w = some (.lst (cs.map V.int)) → w ≠ r := fun w cs hw z => by
    rw [z, h1] at hw
    have e2 : us.map V.ref = cs.map V.int := by
      injection (Option.some.inj hw)
    have e3 := congrArg (fun l => l[j]?) e2
    simp only [List.getElem?_map, hu] at e3
    cases hc : cs[j]? with
    | none => rw [hc] at e3; cases e3
    | some c => rw [hc] at e3; cases e3
  exact ⟨p, q, g2, g3, g4, ne p as g5, ne q bs g6, ⟨_, g5, by rw [List.length_map]; exact hm.1⟩, ⟨_, g6, by rw [List.length_map]; exact hm.2⟩⟩
theorem PairsAt.put {H H' : Hp} {r u p q w : Addr} {us : List Addr} {i : Nat} {xs : List V} (P : PairsAt H H' r us i) (hw : H' w = some (.lst xs)) (hl : xs.length ≤ 1000 + i) (nr : w ≠ r) : PairsAt H (upd H' w (.lst (xs ++ [.int 99]))) r us (i + 1) := by
  refine ⟨by rw [upd_ne (Ne.symm nr)]; exact P.lst, fun j u hu => ?_⟩
  obtain ⟨p, q, g1, g2, g3, g4, g5, ⟨ys, g6, g7⟩, zs, g8, g9⟩ := P.each j u hu
  have uw : u ≠ w := ne_of g1 hw (by intro z; cases z)
  have one : ∀ (b : Addr) (ys : List V), H' b = some (.lst ys) → ys.length ≤ 1000 + i → ∃ zs : List V, (upd H' w (.lst (xs ++ [.int 99]))) b = some (.lst zs) ∧ zs.length ≤ 1000 + (i + 1) := fun b ys hb hl2 => by
    by_cases e : b = w
    · subst e
      exact ⟨_, upd_same, by rw [List.length_append, List.length_singleton]; omega⟩
    · exact ⟨ys, by rw [upd_ne e]; exact hb, by omega⟩
  exact ⟨p, q, by rw [upd_ne uw]; exact g1, g2, g3, g4, g5, one p ys g6 g7, one q zs g8 g9⟩
theorem PairsAt.pick {H H' : Hp} {r u : Addr} {us : List Addr} {i j : Nat} {z : Int} (P : PairsAt H H' r us i) (hu : us[j]? = some u) (h0 : 0 ≤ z) (h1 : z < 2) : ∃ (p q w : Addr) (xs : List V), H' u = some (.tup [.ref p, .ref q]) ∧ atI [V.ref p, V.ref q] z = some (.ref w) ∧ H w = none ∧ w ≠ r ∧ H' w = some (.lst xs) ∧ xs.length ≤ 1000 + i := by
  obtain ⟨p, q, g1, g2, g3, g4, g5, ⟨ys, g6, g7⟩, zs, g8, g9⟩ := P.each j u hu
  obtain ⟨v, hv, hv2⟩ := atI_in (xs := [V.ref p, V.ref q]) h0 (by show z < 2; exact h1)
  have hm := List.mem_of_getElem? hv2
  simp only [or_false, List.mem_cons, List.not_mem_nil] at hm
  rcases hm with e | e
  · subst e; exact ⟨p, q, p, ys, g1, hv, g2, g4, g6, g7⟩
  · subst e; exact ⟨p, q, q, zs, g1, hv, g3, g5, g8, g9⟩
theorem scAhead : FnScope nAhead ["_law_table", "_law_cell"] (defScope s_law_ahead) := ⟨rfl, rfl, rfl, by decide +kernel, rfl, by decide +kernel, by decide +kernel⟩
theorem rg_ints (n : Int) : rgV 0 n = ((List.range n.toNat).map fun i : Nat => (i : Int)).map V.int := by
  unfold rgV
  rw [List.map_map]
  have e : (n - 0).toNat = n.toNat := by congr 1; omega
  rw [e]
  apply List.map_congr_left
  intro i _
  show V.int (0 + (i : Int)) = V.int (i : Int)
  rw [Int.zero_add]
theorem rg_ok (n : Int) : okRow n ((List.range n.toNat).map fun i : Nat => (i : Int)) = true := okRow_iff.mpr fun k hk => by
  obtain ⟨i, hi, rfl⟩ := List.mem_map.mp hk
  have := List.mem_range.mp hi
  exact ⟨by omega, by omega⟩
theorem rg_len (n : Int) : ((List.range n.toNat).map fun i : Nat => (i : Int)).length = n.toNat := by rw [List.length_map, List.length_range]
theorem ok_ahead {f fB fS fF : Addr} {fd fdB fdS fdF : FuncData} {Ts : List Addr} {kP : Nat} {FB FF : Int → List (List Int) → List (List Int × List Int)} (F : Fun K "_law_ahead" "_law_ahead" s_law_ahead f fd) (L : ATxt mg) (M : MTxt P w K mg base C CM CT Ts) (hB : Small FB) (hF : Small FF) (h4 : 4 ≤ kP)
    (GB : FnOk P w K mg base CX0 kP fB fdB ["table"] (spPairs C Ts FB)) (gB : mg "boxes" = some (.ref fB)) (kB : PySem.W.keepIn K (.ref fB) = true) (bB : Binds K fdB ["table"] [])
    (GS : FnOk P w K mg base CX0 kP fS fdS ["table"] (spList C Ts)) (gS : mg "steps" = some (.ref fS)) (kS : PySem.W.keepIn K (.ref fS) = true) (bS : Binds K fdS ["table"] [])
    (GF : FnOk P w K mg base CX0 kP fF fdF ["table"] (spPairs C Ts FF)) (gF : mg "fewest" = some (.ref fF)) (kF : PySem.W.keepIn K (.ref fF) = true) (bF : Binds K fdF ["table"] []) :
    FnOk P w K mg base CX0 (kP + 1) f fd ["_law_table", "_law_cell"] (spAhead C Ts) := by
  obtain ⟨f1, d1, G1, m1, b1⟩ := M.wi
  obtain ⟨f2, d2, G2, m2, b2⟩ := M.cd
  obtain ⟨f3, d3, G3, m3, b3⟩ := M.of
  refine F.ok scAhead (fun vs H Q E h => ?_) (fun cdv A outer s H vs Q E hr h => ?_)
  · obtain ⟨x, z, n, mss, rfl, _⟩ := h
    rfl
  · obtain ⟨x, z, n, mss, rfl, tab, tb, k⟩ := h
    have hr4 : Room 4 _ := hr.mono h4
    have hr3 : Room 3 _ := hr.mono (by omega)
    refine ⟨_, pss_cons (ps_if (PW.pt (pw_or (pt_cmpR op_gt (pe_fld (pv 0) rfl) pe_int (nomark _)) (pw_or1 (pt_cmpR op_gt (pe_callB call_len_seq (by rfl) L.len PySem.boot_len (pa_cons (pe_fld (pv 0) rfl) pa_nil)) pe_int (nomark _))))) (pss_one ps_retN) pss_nil)
      (C8.pss_cut (ps_if (pt_cmpR op_eq (pe_op op_mod (pv 1) pe_int) pe_int (nomark _))
        (pss_cons (ps_for PassesOwn.never rfl (pi_tup (pe_tup (pa_cons (pe_lst pa_nil) (pa_cons (pe_listRg rfl (by rfl) L.list (prg_1 (by rfl) L.range (pe_fld (pv 0) rfl))) pa_nil)))) (pg_name (i := 2) scAhead.nd rfl (Or.inl rfl))
          (pss_cons (ps_expr (pe_bm PySem.F.plainAttrs_list PySem.F.slot_list_append PySem.F.type_list_append mt_append (pe_meth (pv 0) M.cl m2 G2 hr4 b2 .nil passL (pa_cons (pv 2) pa_nil)) (pa_cons pe_int pa_nil)))
          (pss_one (ps_expr (pe_bm PySem.F.plainAttrs_list PySem.F.slot_list_append PySem.F.type_list_append mt_append (pe_meth (pv 0) M.cl m1 G1 hr3 b1 .nil passL (pa_cons (pv 2) pa_nil)) (pa_cons pe_int pa_nil))))))
        (pss_one (ps_expr (pe_bm0 PySem.F.plainAttrs_list PySem.F.slot_list_clear PySem.F.type_list_clear mt_clear (pe_meth (pv 0) M.cl m3 G3 hr3 b3 .nil passL (pa_cons (pe_listRg rfl (by rfl) L.list (prg_1 (by rfl) L.range (pe_callB call_len_seq (by rfl) L.len PySem.boot_len (pa_cons (pe_fld (pv 0) rfl) pa_nil)))) pa_nil)))))) pss_nil)
      (C8.pss_cut (ps_if (pt_cmpR op_eq (pe_op op_mod (pv 1) pe_int) pe_int (nomark _))
        (pss_one (ps_for PassesOwn.never rfl (pi_list (pe_call GB hr (by rfl) gB kB bB .nil pass0 (pa_cons (pv 0) pa_nil))) (pg_name (i := 3) scAhead.nd rfl (Or.inl rfl))
          (pss_one (ps_expr (pe_bm PySem.F.plainAttrs_list PySem.F.slot_list_append PySem.F.type_list_append mt_append (pe_ix ix_tup (pv 3) (pe_op op_mod (pe_op op_fdivN (pv 1) pe_int) pe_int) (fun _ _ => rfl)) (pa_cons pe_int pa_nil)))))) pss_nil)
      (C8.pss_cut (ps_if (pt_cmpR op_eq (pe_op op_mod (pv 1) pe_int) pe_int (nomark _))
        (pss_one (ps_expr (pe_bm0 PySem.F.plainAttrs_list PySem.F.slot_list_clear PySem.F.type_list_clear mt_clear (pe_call GB hr (by rfl) gB kB bB .nil pass0 (pa_cons (pv 0) pa_nil))))) pss_nil)
      (C8.pss_cut (ps_if (pt_cmpR op_eq (pe_op op_mod (pv 1) pe_int) pe_int (nomark _))
        (pss_one (ps_expr (pe_bm0 PySem.F.plainAttrs_list PySem.F.slot_list_clear PySem.F.type_list_clear mt_clear (pe_call GS hr (by rfl) gS kS bS .nil pass0 (pa_cons (pv 0) pa_nil))))) pss_nil)
      (pss_one (ps_if (pt_cmpR op_eq (pe_op op_mod (pv 1) pe_int) pe_int (nomark _))
        (pss_one (ps_for PassesOwn.never rfl (pi_list (pe_call GF hr (by rfl) gF kF bF .nil pass0 (pa_cons (pv 0) pa_nil))) (pg_name (i := 4) scAhead.nd rfl (Or.inl rfl))
          (pss_one (ps_expr (pe_bm PySem.F.plainAttrs_list PySem.F.slot_list_append PySem.F.type_list_append mt_append (pe_ix ix_tup (pv 4) (pe_op op_mod (pe_op op_fdivN (pv 1) pe_int) pe_int) (fun _ _ => rfl)) (pa_cons pe_int pa_nil)))))) pss_nil)))))), ?_⟩
    obtain ⟨dx, r, ts, hx, hr0, hT, _⟩ := tab.ob
    have n0 := tab.lo
    have n8 := tab.hi
    have few := tab.few
    have tat : TabAt C H x n mss := tab.at
    have no1 : (tf n r).lookup ("closed" : Str) = none := tf_no (by decide +kernel) (by decide +kernel)
    have no2 : (tf n r).lookup ("things_with" : Str) = none := tf_no (by decide +kernel) (by decide +kernel)
    have no3 : (tf n r).lookup ("marks_of" : Str) = none := tf_no (by decide +kernel) (by decide +kernel)
    have lenT : (ts.map V.ref).length = mss.length := by rw [List.length_map, hT.1]
    refine ⟨_, rfl, x, C, dx, _, _, rfl, hx, M.cl, M.nM, tf_many _ _, _, _, rfl, rfl, _, rfl, ?_⟩
    refine ite2 (fun _ => iteT (k H (Kp.refl tb))) (fun c4 => ?_)
    have n5 : n ≤ 5 := by
      have c5 : ¬ 4 < n := fun z => c4 (decide_eq_true z)
      omega
    refine ⟨_, rfl, x, C, dx, _, _, rfl, hx, M.cl, M.nR, tf_rows _ _, r, _, rfl, .inl (SqL.of hr0), _, _, rfl, rfl, _, rfl, ?_⟩
    refine ite2 (fun _ => k H (Kp.refl tb)) (fun c7 => ?_)
    refine ⟨fun σ H' => ∃ v2 : Option V, σ = [some (.ref x), some (.int z), v2, none, none] ∧ Kp Ts H H', ?_, ?_⟩
    · refine ⟨_, rfl, _, _, rfl, rfl, (by show (0 : Int) < 10; decide), rfl, _, rfl, ?_⟩
      refine ite2 (fun _ => ?_) (fun _ => ⟨none, rfl, Kp.refl tb⟩)
      refine ⟨Nat.zero_le _, fun e he => ⟨_, rfl, x, C, dx, _, _, rfl, ((Kp.refl tb).new he).ins hx, M.cl, M.nM, tf_many _ _, n, rfl, RgOk.of_le (by decide) (by omega) (by decide) n0, fun q hq => ⟨(by show 2 ≤ sizeLine; decide), fun t ht => ?_⟩⟩⟩
      obtain ⟨G, eG, sG, ge, gq, gt⟩ := three (o3 := .tup [V.ref e, V.ref q]) he hq ht
      rw [← eG]
      refine ⟨t, rfl, ⟨_, SqT.of gt⟩, for_tup (K := K) (a := t) (xs := [V.ref e, V.ref q]) (fun i σ H' => ∃ v2 : Option V, σ = [some (.ref x), some (.int z), v2, none, none] ∧ Kp Ts H H' ∧ H' e = some (.lst []) ∧ H' q = some (.lst (rgV 0 n)) ∧ H' t = some (.tup [V.ref e, V.ref q]))
        ⟨none, rfl, Kp.of_same tb sG, ge, gq, gt⟩ (fun i σ H' _ ⟨_, _, _, _, _, w⟩ => SqT.of w) ?_ ?_⟩
      · rintro i y σ H1 hy ⟨v2, rfl, kp1, he1, hq1, ht1⟩
        have got : ∃ (u : Addr) (ns : List Int), y = .ref u ∧ H1 u = some (.lst (ns.map V.int)) ∧ okRow n ns = true := by
          have hm := List.mem_of_getElem? hy
          simp only [or_false, List.mem_cons, List.not_mem_nil] at hm
          rcases hm with w | w
          · exact ⟨e, [], w, he1, rfl⟩
          · exact ⟨q, _, w, by rw [hq1, rg_ints], rg_ok n⟩
        obtain ⟨u, ns, rfl, hu, ok⟩ := got
        refine ⟨_, rfl, x, dx, _, rfl, kp1.ins hx, no1, _, rfl, x, u, n, mss, ns, rfl, tat.kp kp1, SqL.of hu, kp1.t1, fun w => ?_, fun _ H2 p kp2 np hp => ?_⟩
        · rw [ok] at w; cases w
        have pl : (closedOf n mss ns).length ≤ n.toNat := passTo_len _ _
        refine ⟨.inl ⟨rfl, _, SqL.of hp⟩, p, _, _, rfl, rfl, hp, by rw [List.length_map, sizeLine_eq]; omega, ?_⟩
        have kp3 : Kp Ts H (upd H2 p (.lst ((closedOf n mss ns).map V.int ++ [.int 99]))) := (kp1.trans kp2).own (kp1.free np) (tb.outN (kp1.free np))
        have keep3 : ∀ (b : Addr) (xs : List V), H1 b = some (.lst xs) → (upd H2 p (.lst ((closedOf n mss ns).map V.int ++ [.int 99]))) b = some (.lst xs) := fun b xs w => by
          rw [upd_ne (ne_of_none w np)]
          exact kp2.lst w
        have ht3 : (upd H2 p (.lst ((closedOf n mss ns).map V.int ++ [.int 99]))) t = some (.tup [V.ref e, V.ref q]) := by
          rw [upd_ne (ne_of_none ht1 np)]
          exact kp2.obj ht1 fun _ w => by cases w
        have hu3 := keep3 u _ hu
        have he3 := keep3 e _ he1
        have hq3 := keep3 q _ hq1
        generalize upd H2 p (.lst ((closedOf n mss ns).map V.int ++ [.int 99])) = H3 at kp3 hu3 he3 hq3 ht3
        refine ⟨_, rfl, x, dx, _, rfl, kp3.ins hx, no2, _, rfl, x, u, n, mss, ns, rfl, tat.kp kp3, SqL.of hu3, kp3.t1, fun w => ?_, fun _ H4 p4 kp4 np4 hp4 => ?_⟩
        · rw [ok] at w; cases w
        have pl4 : (thingsOf mss ns).length ≤ mss.length := passTo_len _ _
        refine ⟨.inl ⟨rfl, _, SqL.of hp4⟩, p4, _, _, rfl, rfl, hp4, by rw [List.length_map, sizeLine_eq]; omega, ?_⟩
        exact ⟨_, rfl, (kp3.trans kp4).own (kp3.free np4) (tb.outN (kp3.free np4)), by rw [upd_ne (ne_of_none he3 np4)]; exact kp4.lst he3, by rw [upd_ne (ne_of_none hq3 np4)]; exact kp4.lst hq3, by rw [upd_ne (ne_of_none ht3 np4)]; exact kp4.obj ht3 fun _ w => by cases w⟩
      · rintro σ H1 ⟨v2, rfl, kp1, _, _, _⟩
        refine ⟨_, rfl, x, dx, _, rfl, kp1.ins hx, no3, _, rfl, x, C, dx, _, _, rfl, kp1.ins hx, M.cl, M.nR, tf_rows _ _, r, _, rfl, .inl (SqL.of (kp1.lst hr0)), _, rfl, ?_⟩
        rw [lenT]
        refine ⟨RgOk.of_le (by decide) (by omega) (by decide) (by omega), fun q2 hq2 => ?_⟩
        have kp2 : Kp Ts H (upd H1 q2 (.lst (rgV 0 mss.length))) := kp1.new hq2
        have h2 : (upd H1 q2 (.lst (rgV 0 mss.length))) q2 = some (.lst (((List.range (mss.length : Int).toNat).map fun i : Nat => (i : Int)).map V.int)) := by rw [upd_same, rg_ints]
        refine ⟨x, q2, n, mss, _, rfl, tat.kp kp2, SqL.of h2, by rw [rg_len]; omega, kp2.t1, fun w => ?_, fun _ H4 p4 kp4 np4 hp4 => ?_⟩
        · rw [rg_ok] at w; cases w
        refine ⟨.inl ⟨rfl, _, SqL.of hp4⟩, p4, _, rfl, rfl, hp4, ?_⟩
        exact ⟨_, rfl, (kp2.trans kp4).own (kp2.free np4) (tb.outN (kp2.free np4))⟩
    rintro σ H1 ⟨v2, rfl, kp1⟩
    refine ⟨fun σ H' => ∃ u2 u3 u4 : Option V, σ = [some (.ref x), some (.int z), u2, u3, u4] ∧ Kp Ts H H', ?_, ?_⟩
    · refine ⟨_, rfl, _, _, rfl, rfl, (by show (0 : Int) < 5; decide), rfl, _, rfl, ?_⟩
      refine ite2 (fun _ => ?_) (fun _ => ⟨_, _, _, rfl, kp1⟩)
      refine ⟨_, rfl, x, n, mss, rfl, tab.kx (L := []) kp1.kx (by simp), kp1.t1, fun H2 r2 kp2 N => ?_⟩
      obtain ⟨lenF, partF⟩ := hB n mss n0 n8 few
      obtain ⟨us, lenU, pa⟩ := PairsAt.start N partF
      refine ⟨r2, rfl, ⟨_, SqL.of pa.lst⟩, for_list (K := K) (a := r2) (xs := us.map V.ref) (fun i σ H' => ∃ u2 u3 u4 : Option V, σ = [some (.ref x), some (.int z), u2, u3, u4] ∧ Kp Ts H1 H' ∧ PairsAt H1 H' r2 us i)
        ⟨_, _, _, rfl, kp2, pa⟩ (fun i σ H' _ ⟨_, _, _, _, _, w⟩ => SqL.of w.lst) ?_ ?_⟩
      · rintro i y σ H3 hy ⟨u2, u3, u4, rfl, kp3, pa3⟩
        obtain ⟨u, hu, rfl⟩ := ref_at hy
        have i1 : i < 1000 := by
          have := (List.getElem?_eq_some_iff.mp hu).1
          omega
        have q0 := Int.emod_nonneg (Int.fdiv z 5) (show (2 : Int) ≠ 0 by decide)
        have q1 := Int.emod_lt_of_pos (Int.fdiv z 5) (show (0 : Int) < 2 by decide)
        obtain ⟨p, q, w, xs, hu3, hat, nw, wr, hw, wl⟩ := pa3.pick hu q0 q1
        refine ⟨_, rfl, _, rfl, _, _, rfl, rfl, ⟨by decide, by decide⟩, _, _, rfl, rfl, (by show (0 : Int) < 2; decide), u, _, _, _, rfl, rfl, SqT.of hu3, hat, .inl ⟨rfl, _, SqL.of hw⟩, w, _, _, rfl, rfl, hw, by rw [sizeLine_eq]; omega, ?_⟩
        exact ⟨_, _, _, rfl, kp3.own nw (kp2.t0.outN nw), pa3.put (u := u) (p := p) (q := q) hw wl wr⟩
      · rintro σ H3 ⟨u2, u3, u4, rfl, kp3, _⟩
        exact ⟨_, _, _, rfl, kp1.trans kp3⟩
    rintro σ H5 ⟨u2, u3, u4, rfl, kp5⟩
    refine ⟨fun σ H' => ∃ u2 u3 u4 : Option V, σ = [some (.ref x), some (.int z), u2, u3, u4] ∧ Kp Ts H H', ?_, ?_⟩
    · refine ⟨_, rfl, _, _, rfl, rfl, (by show (0 : Int) < 5; decide), rfl, _, rfl, ?_⟩
      refine ite2 (fun _ => ?_) (fun _ => ⟨_, _, _, rfl, kp5⟩)
      refine ⟨_, rfl, x, n, mss, rfl, tab.kx (L := []) kp5.kx (by simp), kp5.t1, fun H2 r2 kp2 N => ?_⟩
      obtain ⟨us, hus, _⟩ := N.ob
      exact ⟨.inl ⟨rfl, _, SqL.of hus⟩, r2, _, rfl, rfl, hus, _, _, _, rfl, (kp5.trans kp2).own (kp5.free N.nr) (tb.outN (kp5.free N.nr))⟩
    rintro σ H6 ⟨u2, u3, u4, rfl, kp6⟩
    refine ⟨fun σ H' => ∃ u2 u3 u4 : Option V, σ = [some (.ref x), some (.int z), u2, u3, u4] ∧ Kp Ts H H', ?_, ?_⟩
    · refine ⟨_, rfl, _, _, rfl, rfl, (by show (0 : Int) < 5; decide), rfl, _, rfl, ?_⟩
      refine ite2 (fun _ => ?_) (fun _ => ⟨_, _, _, rfl, kp6⟩)
      refine ⟨_, rfl, x, n, mss, rfl, tab.kx (L := []) kp6.kx (by simp), n5, kp6.t1, fun H2 r2 xs kp2 nr hr2 => ?_⟩
      exact ⟨.inl ⟨rfl, _, SqL.of hr2⟩, r2, _, rfl, rfl, hr2, _, _, _, rfl, (kp6.trans kp2).own (kp6.free nr) (tb.outN (kp6.free nr))⟩
    rintro σ H7 ⟨u2, u3, u4, rfl, kp7⟩
    · refine ⟨_, rfl, _, _, rfl, rfl, (by show (0 : Int) < 5; decide), rfl, _, rfl, ?_⟩
      refine ite2 (fun _ => ?_) (fun _ => k H7 kp7)
      refine ⟨_, rfl, x, n, mss, rfl, tab.kx (L := []) kp7.kx (by simp), kp7.t1, fun H2 r2 kp2 N => ?_⟩
      obtain ⟨lenF, partF⟩ := hF n mss n0 n8 few
      obtain ⟨us, lenU, pa⟩ := PairsAt.start N partF
      refine ⟨r2, rfl, ⟨_, SqL.of pa.lst⟩, for_list (K := K) (a := r2) (xs := us.map V.ref) (fun i σ H' => ∃ u2 u3 u4 : Option V, σ = [some (.ref x), some (.int z), u2, u3, u4] ∧ Kp Ts H7 H' ∧ PairsAt H7 H' r2 us i)
        ⟨_, _, _, rfl, kp2, pa⟩ (fun i σ H' _ ⟨_, _, _, _, _, w⟩ => SqL.of w.lst) ?_ ?_⟩
      · rintro i y σ H3 hy ⟨u2, u3, u4, rfl, kp3, pa3⟩
        obtain ⟨u, hu, rfl⟩ := ref_at hy
        have i1 : i < 1000 := by
          have := (List.getElem?_eq_some_iff.mp hu).1
          omega
        have q0 := Int.emod_nonneg (Int.fdiv z 5) (show (2 : Int) ≠ 0 by decide)
        have q1 := Int.emod_lt_of_pos (Int.fdiv z 5) (show (0 : Int) < 2 by decide)
        obtain ⟨p, q, w, xs, hu3, hat, nw, wr, hw, wl⟩ := pa3.pick hu q0 q1
        refine ⟨_, rfl, _, rfl, _, _, rfl, rfl, ⟨by decide, by decide⟩, _, _, rfl, rfl, (by show (0 : Int) < 2; decide), u, _, _, _, rfl, rfl, SqT.of hu3, hat, .inl ⟨rfl, _, SqL.of hw⟩, w, _, _, rfl, rfl, hw, by rw [sizeLine_eq]; omega, ?_⟩
        exact ⟨_, _, _, rfl, kp3.own nw (kp2.t0.outN nw), pa3.put (u := u) (p := p) (q := q) hw wl wr⟩
      · rintro σ H3 ⟨u2, u3, u4, rfl, kp3, _⟩
        exact k H3 (kp7.trans kp3)
end
end Mb

namespace Mb
open L2 PySem PySem.Spec PyProof.Rows
/-! ### which boxes lie over which -/
/-- all of as stand in bs, and they are unlike -/
def liesB (as bs : List Int) : Bool := !decide (as = bs) && has bs as
/-- the places over as, among the things of bss -/
def placesOf (as : List Int) (bss : List (List Int)) : List Int := passTo (fun j => liesB as (bss.getD j [])) bss.length
section
variable {P : Program} {w : World} {K : PySem.W.Frag} {mg : Str → Option Value} {base : Heap} {C CS CM CT : Addr}
/-! ### lies_under(one, other) -/
def spLies (K : PySem.W.Frag) (Ts : List Addr) : Sp := fun vs H Q _ => ∃ (t u p q p' q' : Addr) (as bs : List Int), vs = [.ref t, .ref u] ∧ SqT K H t [.ref p, .ref q] ∧ SqT K H u [.ref p', .ref q'] ∧ SqL K H p (as.map V.int) ∧ SqL K H p' (bs.map V.int) ∧ Tabs Ts H ∧
  ∀ H', Kp Ts H H' → Q (.bl (liesB as bs)) H'
theorem scLies : FnScope ["one", "other"] ["one", "other"] (defScope s_lies_under) := ⟨rfl, rfl, rfl, by decide +kernel, rfl, by decide +kernel, by decide +kernel⟩
theorem ok_lies {f fH : Addr} {fd fdH : FuncData} {Ts : List Addr} (F : Fun K "lies_under" "lies_under" s_lies_under f fd)
    (GH : FnOk P w K mg base CX0 1 fH fdH ["whole", "part"] (spHasAll K Ts)) (gH : mg "has_all" = some (.ref fH)) (kH : PySem.W.keepIn K (.ref fH) = true) (bH : Binds K fdH ["whole", "part"] []) : FnOk P w K mg base CX0 2 f fd ["one", "other"] (spLies K Ts) := by
  refine F.ok scLies (fun vs H Q E h => ?_) (fun cdv A outer s H vs Q E hr h => ?_)
  · obtain ⟨t, u, p, q, p', q', as, bs, rfl, _⟩ := h
    rfl
  · obtain ⟨t, u, p, q, p', q', as, bs, rfl, hT, hU, hA, hB, tb, k⟩ := h
    refine ⟨_, pss_one (ps_ret (pe_and (pe_cmpR (op_neD hr.units) (pe_ix ix_tup (pv 0) pe_int (fun _ _ => rfl)) (pe_ix ix_tup (pv 1) pe_int (fun _ _ => rfl)) (by rfl))
      (pe_one (pe_call GH hr (by rfl) gH kH bH .nil pass0 (pa_cons (pe_ix ix_tup (pv 1) pe_int (fun _ _ => rfl)) (pa_cons (pe_ix ix_tup (pv 0) pe_int (fun _ _ => rfl)) pa_nil)))))), ?_⟩
    have e0 : ∀ a b : Addr, atI [V.ref a, V.ref b] 0 = some (.ref a) := fun _ _ => rfl
    refine ⟨_, rfl, t, _, _, _, rfl, rfl, hT, e0 p q, _, rfl, u, _, _, _, rfl, rfl, hU, e0 p' q', rowD as, rowD bs, .lst hA (dpInts _), .lst hB (dpInts _), shInts _, shInts _, _, rfl, ?_⟩
    rw [eqv_row]
    have el : liesB as bs = (!decide (as = bs) && has bs as) := rfl
    cases c : decide (as = bs) with
    | true =>
      rw [c] at el
      refine iteF ?_
      have e2 : liesB as bs = false := el
      rw [← e2]
      exact k H (Kp.refl tb)
    | false =>
      rw [c] at el
      refine iteT ⟨_, rfl, u, _, _, _, rfl, rfl, hU, e0 p' q', _, rfl, t, _, _, _, rfl, rfl, hT, e0 p q, p', p, bs, as, rfl, hB, hA, tb, fun H1 kp1 => ?_⟩
      have e2 : liesB as bs = has bs as := el
      rw [← e2]
      exact k H1 kp1
/-! ### places_over(box, listed) -/
def spPlaces (K : PySem.W.Frag) (Ts : List Addr) : Sp := fun vs H Q _ => ∃ (t p q l : Addr) (as : List Int) (ps : List (List Int × List Int)), vs = [.ref t, .ref l] ∧ SqT K H t [.ref p, .ref q] ∧ SqL K H p (as.map V.int) ∧ PairsR K H l ps ∧ ps.length ≤ 1000 ∧ Tabs Ts H ∧
  ∀ (H' : Hp) (r : Addr), Kp Ts H H' → H r = none → H' r = some (.lst ((placesOf as (ps.map (·.1))).map V.int)) → Q (.ref r) H'
abbrev nPlaces : List Str := ["box", "listed", "place", "other"]
theorem scPlaces : FnScope nPlaces ["box", "listed"] (defScope s_places_over) := ⟨rfl, rfl, rfl, by decide +kernel, rfl, by decide +kernel, by decide +kernel⟩
theorem ok_places {f fU : Addr} {fd fdU : FuncData} {Ts : List Addr} (F : Fun K "places_over" "places_over" s_places_over f fd) (T : Txt2 K mg CT)
    (GU : FnOk P w K mg base CX0 2 fU fdU ["one", "other"] (spLies K Ts)) (gU : mg "lies_under" = some (.ref fU)) (kU : PySem.W.keepIn K (.ref fU) = true) (bU : Binds K fdU ["one", "other"] []) : FnOk P w K mg base CX0 3 f fd ["box", "listed"] (spPlaces K Ts) := by
  refine F.ok scPlaces (fun vs H Q E h => ?_) (fun cdv A outer s H vs Q E hr h => ?_)
  · obtain ⟨t, p, q, l, as, ps, rfl, _⟩ := h
    rfl
  · obtain ⟨t, p, q, l, as, ps, rfl, hT, hA, hL, few, tb, k⟩ := h
    refine ⟨_, pss_one (ps_ret (pe_lc (own := [("place", 2), ("other", 3)]) (g := gTup K 2 (gCons (gName 2) (gCons (gName 3) gNil))) (tt := tB (tCall (spLies K Ts) [] E0 (tCons (tVar 0) (tCons (tVar 3) tNil)))) rfl scPlaces.nd (pi_enum (by rfl) T.enumerate (pa_cons (pv 1) pa_nil)) (blkOk_by (N := nPlaces) (sc := defScope s_places_over) (by decide +kernel))
        (fun _ _ _ _ _ => pg_tup rfl (pgs_cons (pg_name (i := 2) scPlaces.nd rfl (Or.inl rfl)) (pgs_cons (pg_name (i := 3) scPlaces.nd rfl (Or.inl rfl)) pgs_nil)))
        (fun _ _ _ _ _ => pts_one (pt_val (pe_call GU hr (by rfl) gU kU bU .nil pass0 (pa_cons (pv 0) (pa_cons (pv 3) pa_nil))))) (fun _ _ _ _ _ => pv 2))), ?_⟩
    obtain ⟨ts, hl, hlen, hts⟩ := id hL
    refine ⟨_, rfl, l, _, rfl, hl, fun D hD => ?_⟩
    refine lc_it (walk_enum (K := K) (a := l) (xs := ts.map V.ref)) (fun i H2 => H2 D = some (.lst ((passTo (fun j => liesB as ((ps.map (·.1)).getD j [])) i).map V.int)) ∧ Kp Ts H H2) ⟨upd_same, (Kp.refl tb).new hD⟩ (fun i H2 _ q => q.2.seq hl) ?_ ?_
    · rintro i v H2 H3 hi ⟨hD2, kp2⟩ ⟨Tt, v1, v2, rfl, hTt, rfl, e1, e2⟩
      cases e1
      obtain ⟨u, hu, rfl⟩ := ref_at (show (ts.map V.ref)[i]? = some v2 from e2)
      have kp3 : Kp Ts H (upd H2 Tt (.tup [.int (i : Nat), .ref u])) := kp2.new hTt
      have DT : D ≠ Tt := ne_of_none hD2 hTt
      obtain ⟨p', q', bs, cs, eb, hU, hB, _⟩ := hts i u hu
      have il : i < ps.length := (List.getElem?_eq_some_iff.mp eb).1
      have pl := passTo_len (fun j => liesB as ((ps.map (·.1)).getD j [])) i
      have ph : (ps.map (·.1)).getD i [] = bs := by
        rw [List.getD_eq_getElem?_getD, List.getElem?_map, eb]
        rfl
      refine ⟨Tt, _, rfl, SqT.of upd_same, rfl, _, _, rfl, _, _, rfl, rfl, rfl, _, rfl, _, rfl, t, u, p, q, p', q', as, bs, rfl, sqt_kp kp3 hT, sqt_kp kp3 hU, kp3.seq hA, kp3.seq hB, kp3.t1, fun H4 kp4 => ⟨_, rfl, ?_⟩⟩
      have hD4 : H4 D = some (.lst ((passTo (fun j => liesB as ((ps.map (·.1)).getD j [])) i).map V.int)) := kp4.lst (by rw [upd_ne DT]; exact hD2)
      have kp5 := kp3.trans kp4
      have es : passTo (fun j => liesB as ((ps.map (·.1)).getD j [])) (i + 1) = passTo (fun j => liesB as ((ps.map (·.1)).getD j [])) i ++ (if liesB as ((ps.map (·.1)).getD i []) = true then [(i : Int)] else []) := rfl
      rw [es, ph]
      cases hh : liesB as bs with
      | true =>
        refine iteT ⟨_, rfl, _, hD4, by rw [List.length_map, sizeLine_eq]; omega, ?_, kp5.own hD (tb.outN hD)⟩
        rw [upd_same, List.map_append, if_pos rfl]
        rfl
      | false =>
        refine iteF ?_
        rw [if_neg Bool.false_ne_true, List.append_nil]
        exact ⟨hD4, kp5⟩
    · rintro H2 ⟨hD2, kp2⟩
      have el : (ts.map V.ref).length = (ps.map (·.1)).length := by rw [List.length_map, List.length_map, hlen]
      rw [el] at hD2
      exact k H2 D kp2 hD hD2
end
end Mb

namespace Mb
open L2 PySem PySem.Spec PyProof.Rows
/-! ### of few marks: the boxes over one are not many more than those further over -/
/-- which of three chains the marks of y outside x are in, where x lacks three at most -/
def chainM (x y : Nat) : Nat :=
  [0, 0, 1, 0, 2, 2, 1, 0].getD (((List.range 5).filter fun i => !x.testBit i).foldr (fun i z => 2 * z + (if y.testBit i = true then 1 else 0)) 0) 0
def chainsOk : Bool := (List.range 32).all fun x => !decide (2 ≤ (setBy x 5).length) || (List.range 32).all fun y => decide (chainM x y < 3) && (List.range 32).all fun z => !(Nat.beq (y &&& x) (z &&& x) && Nat.beq (chainM x y) (chainM x z)) || (Nat.beq (y &&& z) y || Nat.beq (y &&& z) z)
theorem chains_ok : chainsOk = true := by decide +kernel
def meetOk : Bool := (List.range 32).all fun x => (List.range 32).all fun y => decide (both (setBy y 5) (setBy x 5) = setBy (y &&& x) 5) && (!decide (y &&& x = y) || subB (setBy y 5) (setBy x 5))
theorem meet_ok : meetOk = true := by decide +kernel
def smallOk : Bool := (List.range 32).all fun x => decide (2 ≤ (setBy x 5).length) || decide (setBy x 5 ∈ [[], [0], [1], [2], [3], [(4 : Int)]])
theorem small_ok : smallOk = true := by decide +kernel
theorem at_range {n : Nat} {f : Nat → Bool} (h : (List.range n).all f = true) {x : Nat} (hx : x < n) : f x = true := List.all_eq_true.mp h x (List.mem_range.mpr hx)
theorem or_of {a b : Bool} (h : (!a || b) = true) (ha : a = true) : b = true := by rw [ha] at h; exact h
theorem chain_at {x y z : Nat} (hx : x < 32) (hy : y < 32) (hz : z < 32) (two : 2 ≤ (setBy x 5).length) : chainM x y < 3 ∧ (y &&& x = z &&& x → chainM x y = chainM x z → y &&& z = y ∨ y &&& z = z) := by
  have h := at_range (or_of (at_range chains_ok hx) (decide_eq_true two)) hy
  rw [Bool.and_eq_true] at h
  refine ⟨of_decide_eq_true h.1, fun e1 e2 => ?_⟩
  have g := or_of (at_range h.2 hz) (by rw [e1, e2, Nat.beq_refl, Nat.beq_refl]; rfl)
  rw [Bool.or_eq_true] at g
  exact g.imp Nat.eq_of_beq_eq_true Nat.eq_of_beq_eq_true
theorem meet_at {x y : Nat} (hx : x < 32) (hy : y < 32) : both (setBy y 5) (setBy x 5) = setBy (y &&& x) 5 ∧ (y &&& x = y → sub (setBy y 5) (setBy x 5)) := by
  have h := at_range (at_range meet_ok hx) hy
  rw [Bool.and_eq_true] at h
  exact ⟨of_decide_eq_true h.1, fun e => subB_iff.mp (or_of h.2 (decide_eq_true e))⟩
theorem small_at {x : Nat} (hx : x < 32) : 2 ≤ (setBy x 5).length ∨ setBy x 5 ∈ [[], [0], [1], [2], [3], [(4 : Int)]] := by
  have h := at_range small_ok hx
  rw [Bool.or_eq_true] at h
  exact h.imp of_decide_eq_true of_decide_eq_true
theorem split_len {α : Type} (p : α → Bool) : ∀ l : List α, l.length = (l.filter p).length + (l.filter fun a => !p a).length
  | [] => rfl
  | a :: l => by
    have ih := split_len p l
    cases c : p a <;> simp [List.filter_cons, c] <;> omega
/-- the maximal ones below X and what lies below them -/
theorem few_tops {M U : List (List Int)} (nd : M.Nodup) (set : ∀ s ∈ M, SetIn 5 s) (anti : ∀ s ∈ M, ∀ t ∈ M, sub s t → s = t) (meet : ∀ s ∈ M, ∀ t ∈ M, s ≠ t → both s t ∈ U) : M.length ≤ 3 * U.length + 3 := by
  have mask : ∀ s ∈ M, ∃ x, x < 32 ∧ setBy x 5 = s := fun s hs => setBy_all (n := 5) (set s hs)
  by_cases c : ∃ a ∈ M, 2 ≤ a.length
  · obtain ⟨a, ha, two⟩ := c
    obtain ⟨x, hx, ex⟩ := mask a ha
    have two' : 2 ≤ (setBy x 5).length := by rw [ex]; exact two
    have le : (M.erase a).length ≤ (U.flatMap fun u => [(u, 0), (u, 1), (u, 2)]).length := by
      refine pick_each (F := fun s r => ∃ y, y < 32 ∧ setBy y 5 = s ∧ setBy (y &&& x) 5 = r.1 ∧ chainM x y = r.2) _ _ (nd.erase a) (fun s hs => ?_) fun s hs t ht r _ ⟨y, hy, ey, y1, y2⟩ ⟨z, hz, ez, z1, z2⟩ => ?_
      · obtain ⟨ne, hs⟩ := nd.mem_erase_iff.mp hs
        obtain ⟨y, hy, ey⟩ := mask s hs
        have m := (meet_at hx hy).1
        have ch := (chain_at hx hy hy two').1
        refine ⟨(setBy (y &&& x) 5, chainM x y), List.mem_flatMap.mpr ⟨both s a, meet s hs a ha ne, ?_⟩, y, hy, ey, rfl, rfl⟩
        rw [← ey, ← ex, m]
        have : chainM x y = 0 ∨ chainM x y = 1 ∨ chainM x y = 2 := by omega
        rcases this with e | e | e <;> rw [e] <;> simp
      · have hs2 := (nd.mem_erase_iff.mp hs).2
        have ht2 := (nd.mem_erase_iff.mp ht).2
        have e1 : y &&& x = z &&& x := setBy_inj (n := 5) (Nat.lt_of_le_of_lt Nat.and_le_left hy) (Nat.lt_of_le_of_lt Nat.and_le_left hz) (y1.trans z1.symm)
        rcases (chain_at hx hy hz two').2 e1 (y2.trans z2.symm) with e | e
        · have q := (meet_at hz hy).2 e
          rw [ey, ez] at q
          exact anti s hs2 t ht2 q
        · rw [Nat.and_comm] at e
          have q := (meet_at hy hz).2 e
          rw [ey, ez] at q
          exact (anti t ht2 s hs2 q).symm
    have l3 : ∀ V : List (List Int), (V.flatMap fun u => [(u, 0), (u, 1), (u, 2)]).length = 3 * V.length := fun V => by
      induction V with
      | nil => rfl
      | cons v V ih => rw [List.flatMap_cons, List.length_append, ih, List.length_cons]; show 3 + 3 * V.length = 3 * (V.length + 1); omega
    rw [l3 U, List.length_erase_of_mem ha] at le
    omega
  · have le : M.length ≤ 6 := by
      refine pick_each (F := fun s r => s = r) [[], [0], [1], [2], [3], [(4 : Int)]] M nd (fun s hs => ?_) fun s _ t _ r _ h1 h2 => h1.trans h2.symm
      obtain ⟨x, hx, ex⟩ := mask s hs
      refine ⟨s, ?_, rfl⟩
      rcases small_at hx with z | z
      · rw [ex] at z; exact absurd ⟨s, hs, z⟩ c
      · rw [ex] at z; exact z
    cases U with
    | cons u U => rw [List.length_cons]; omega
    | nil =>
      match M, nd, meet with
      | [], _, _ => exact Nat.zero_le _
      | [a], _, _ => show 1 ≤ _; omega
      | a :: b :: r, nd, meet =>
        have ne : a ≠ b := fun e => by
          rw [List.nodup_cons] at nd
          exact nd.1 (by rw [e]; exact List.mem_cons_self)
        have := meet a List.mem_cons_self b (List.mem_cons_of_mem _ List.mem_cons_self) ne
        cases this
/-! ### the places -/
theorem things_sub {n : Int} {mss : List (List Int)} {s t : List Int} (hs : SetIn n s) (ht : SetIn n t) (cs : closedOf n mss s = s) : sub (thingsOf mss s) (thingsOf mss t) ↔ sub t s := by
  constructor
  · intro h k hk
    rw [← cs]
    refine closed_mem.mpr ⟨(ht.2 k hk).1, (ht.2 k hk).2, fun ms hm g => ?_⟩
    obtain ⟨i, hi, e⟩ := List.getElem_of_mem hm
    have e2 : mss[i]? = some ms := by rw [List.getElem?_eq_getElem hi, e]
    obtain ⟨j, ms', ej, h1, h2⟩ := things_mem.mp (h (i : Int) (things_mem.mpr ⟨i, ms, rfl, e2, g⟩))
    obtain rfl : i = j := by omega
    rw [e2] at h1
    cases h1
    exact h2 k hk
  · intro h j hj
    obtain ⟨i, ms, ej, h1, h2⟩ := things_mem.mp hj
    exact things_mem.mpr ⟨i, ms, ej, h1, h.trans h2⟩
theorem lies_iff {n : Int} {mss : List (List Int)} {s t : List Int} (hs : SetIn n s) (ht : SetIn n t) (cs : closedOf n mss s = s) (ct : closedOf n mss t = t) : liesB (thingsOf mss s) (thingsOf mss t) = true ↔ sub t s ∧ t ≠ s := by
  unfold liesB
  rw [Bool.and_eq_true, has_iff, things_sub hs ht cs, Bool.not_eq_true', decide_eq_false_iff_not]
  constructor
  · rintro ⟨h1, h2⟩
    exact ⟨h2, fun e => h1 (by rw [e])⟩
  · rintro ⟨h1, h2⟩
    refine ⟨fun e => h2 ?_, h1⟩
    rw [← ct, ← cs]
    unfold closedOf
    rw [e]
/-- for each box, in their order, the places over it -/
def ovsOf (n : Int) (mss : List (List Int)) : List (List Int) := (boxesOf n mss).map fun b => placesOf b.1 ((boxesOf n mss).map (·.1))
theorem full_at {n : Int} {mss : List (List Int)} (h0 : 0 ≤ n) {i : Nat} {s : List Int} (h : (fullSets n mss)[i]? = some s) : SetIn n s ∧ closedOf n mss s = s := (full_mem h0).mp (List.mem_of_getElem? h)
theorem full_nodup (n : Int) (mss : List (List Int)) : (fullSets n mss).Nodup := (full_ord n mss).imp fun {a b} h e => by
  rw [e] at h
  exact Mb.before_asym b b h h
theorem full_one {n : Int} {mss : List (List Int)} {i j : Nat} {s : List Int} (h : (fullSets n mss)[i]? = some s) (g : (fullSets n mss)[j]? = some s) : i = j := by
  obtain ⟨h1, h2⟩ := List.getElem?_eq_some_iff.mp h
  obtain ⟨g1, g2⟩ := List.getElem?_eq_some_iff.mp g
  have nd := List.pairwise_iff_getElem.mp (full_nodup n mss)
  rcases Nat.lt_trichotomy i j with c | c | c
  · exact absurd (h2.trans g2.symm) (nd i j h1 g1 c)
  · exact c
  · exact absurd (g2.trans h2.symm) (nd j i g1 h1 c)
theorem ovs_at {n : Int} {mss : List (List Int)} (h0 : 0 ≤ n) {k : Nat} {o : List Int} (h : (ovsOf n mss)[k]? = some o) : ∃ s, (fullSets n mss)[k]? = some s ∧ o.Pairwise (· < ·) ∧ ∀ j, j ∈ o ↔ ∃ (i : Nat) (t : List Int), j = i ∧ (fullSets n mss)[i]? = some t ∧ sub t s ∧ t ≠ s := by
  unfold ovsOf boxesOf at h
  rw [List.map_map, List.map_map, List.getElem?_map] at h
  obtain ⟨s, hs, e⟩ := Option.map_eq_some_iff.mp h
  subst e
  obtain ⟨s1, s2⟩ := full_at h0 hs
  refine ⟨s, hs, passTo_rise _ _, fun j => ?_⟩
  have at_ : ∀ (i : Nat) (t : List Int), (fullSets n mss)[i]? = some t → ((fullSets n mss).map (fun s => thingsOf mss s)).getD i [] = thingsOf mss t := fun i t e => by
    rw [List.getD_eq_getElem?_getD, List.getElem?_map, e]
    rfl
  show j ∈ passTo _ _ ↔ _
  rw [passTo_mem]
  constructor
  · rintro ⟨j0, j1, j2⟩
    obtain ⟨i, rfl⟩ := Int.eq_ofNat_of_zero_le j0
    have hi : i < (fullSets n mss).length := by rw [List.length_map] at j1; omega
    have ht : (fullSets n mss)[i]? = some (fullSets n mss)[i] := List.getElem?_eq_getElem hi
    obtain ⟨t1, t2⟩ := full_at h0 ht
    rw [Int.toNat_natCast] at j2
    have e2 := at_ i _ ht
    have q : liesB (thingsOf mss s) (thingsOf mss (fullSets n mss)[i]) = true := by rw [← e2]; exact j2
    exact ⟨i, _, rfl, ht, (lies_iff s1 t1 s2 t2).mp q⟩
  · rintro ⟨i, t, rfl, ht, h1⟩
    obtain ⟨t1, t2⟩ := full_at h0 ht
    have hi := (List.getElem?_eq_some_iff.mp ht).1
    refine ⟨by omega, by rw [List.length_map]; omega, ?_⟩
    rw [Int.toNat_natCast]
    have q := (lies_iff s1 t1 s2 t2).mpr h1
    have e2 := at_ i _ ht
    rw [← e2] at q
    exact q
theorem ovs_of {n : Int} {mss : List (List Int)} {k : Nat} {s : List Int} (h : (fullSets n mss)[k]? = some s) : ∃ o, (ovsOf n mss)[k]? = some o := by
  unfold ovsOf boxesOf
  rw [List.map_map, List.map_map, List.getElem?_map, h]
  exact ⟨_, rfl⟩
theorem closed_both {n : Int} {mss : List (List Int)} {s t : List Int} (hs : SetIn n s) (cs : closedOf n mss s = s) (ct : closedOf n mss t = t) : closedOf n mss (both s t) = both s t :=
  (closed_iff (both_set hs)).mpr fun k hk => both_mem.mpr ⟨closed_has cs (both s t) (fun k h => (both_mem.mp h).1) k hk, closed_has ct (both s t) (fun k h => (both_mem.mp h).2) k hk⟩
theorem quarter {n : Int} {mss : List (List Int)} (h0 : 0 ≤ n) (h5 : n ≤ 5) {k : Nat} {o us : List Int} (ho : (ovsOf n mss)[k]? = some o) (hu : ∀ j, (∃ (i : Nat) (oo : List Int), (i : Int) ∈ o ∧ (ovsOf n mss)[i]? = some oo ∧ j ∈ oo) → j ∈ us) : o.length ≤ 4 * us.length + 3 := by
  obtain ⟨s, hs, rise, mem⟩ := ovs_at h0 ho
  have ond : o.Nodup := rise.imp fun {a b} h e => by omega
  have l1 : (o.filter fun j => decide (j ∈ us)).length ≤ us.length :=
    pick_each (F := fun a b => a = b) us _ (ond.sublist List.filter_sublist) (fun p hp => ⟨p, of_decide_eq_true (List.mem_filter.mp hp).2, rfl⟩) fun _ _ _ _ _ _ h g => h.trans g.symm
  have five : ∀ t, SetIn n t → SetIn 5 t := fun t h => ⟨h.1, fun k hk => by have := h.2 k hk; omega⟩
  have top : ∀ j ∈ o.filter (fun j => !decide (j ∈ us)), ∃ (i : Nat) (t : List Int), j = i ∧ (fullSets n mss)[i]? = some t ∧ (fullSets n mss).getD j.toNat [] = t ∧ sub t s ∧ t ≠ s ∧ j ∈ o ∧ j ∉ us := fun j hj => by
    obtain ⟨h1, h2⟩ := List.mem_filter.mp hj
    obtain ⟨i, t, rfl, ht, h3, h4⟩ := (mem j).mp h1
    refine ⟨i, t, rfl, ht, ?_, h3, h4, h1, by simpa using h2⟩
    rw [Int.toNat_natCast, List.getD_eq_getElem?_getD, ht]
    rfl
  have anti : ∀ (i : Nat) (t : List Int) (i' : Nat) (t' : List Int), (fullSets n mss)[i]? = some t → (fullSets n mss)[i']? = some t' → (i : Int) ∉ us → (i' : Int) ∈ o → sub t t' → t = t' := fun i t i' t' h1 h2 no ho' hsub => by
    refine Classical.byContradiction fun ne => no (hu _ ?_)
    obtain ⟨oo, hoo⟩ := ovs_of h2
    obtain ⟨s', hs', _, mem'⟩ := ovs_at h0 hoo
    rw [h2] at hs'
    cases hs'
    exact ⟨i', oo, ho', hoo, (mem' _).mpr ⟨i, t, rfl, h1, hsub, ne⟩⟩
  have l2 := few_tops (M := (o.filter fun j => !decide (j ∈ us)).map fun j => (fullSets n mss).getD j.toNat []) (U := us.map fun j => (fullSets n mss).getD j.toNat []) ?_ ?_ ?_ ?_
  · rw [List.length_map, List.length_map] at l2
    have := split_len (fun j => decide (j ∈ us)) o
    omega
  · refine List.pairwise_map.mpr ((ond.sublist List.filter_sublist).imp_of_mem fun {a b} ha hb ne e => ne ?_)
    obtain ⟨i, t, rfl, h1, h2, _⟩ := top a ha
    obtain ⟨i', t', rfl, g1, g2, _⟩ := top b hb
    rw [h2, g2] at e
    subst e
    rw [full_one h1 g1]
  · intro t ht
    obtain ⟨j, hj, rfl⟩ := List.mem_map.mp ht
    obtain ⟨i, t, rfl, h1, h2, _⟩ := top j hj
    rw [h2]
    exact five t (full_at h0 h1).1
  · intro t ht t' ht' hsub
    obtain ⟨j, hj, rfl⟩ := List.mem_map.mp ht
    obtain ⟨j', hj', rfl⟩ := List.mem_map.mp ht'
    obtain ⟨i, t, rfl, h1, h2, _, _, _, h3⟩ := top j hj
    obtain ⟨i', t', rfl, g1, g2, _, _, g3, _⟩ := top j' hj'
    rw [h2, g2] at hsub ⊢
    exact anti i t i' t' h1 g1 h3 g3 hsub
  · intro t ht t' ht' ne
    obtain ⟨j, hj, rfl⟩ := List.mem_map.mp ht
    obtain ⟨j', hj', rfl⟩ := List.mem_map.mp ht'
    obtain ⟨i, t, rfl, h1, h2, _, _, h4, h3⟩ := top j hj
    obtain ⟨i', t', rfl, g1, g2, _, _, g3, _⟩ := top j' hj'
    rw [h2, g2] at ne ⊢
    obtain ⟨f1, f2⟩ := full_at h0 h1
    obtain ⟨f3, f4⟩ := full_at h0 g1
    have hz : both t t' ∈ fullSets n mss := (full_mem h0).mpr ⟨both_set f1, closed_both f1 f2 f4⟩
    obtain ⟨z, hz1, hz2⟩ := List.getElem_of_mem hz
    have hz3 : (fullSets n mss)[z]? = some (both t t') := by rw [List.getElem?_eq_getElem hz1, hz2]
    refine List.mem_map.mpr ⟨(z : Int), hu _ ?_, by rw [Int.toNat_natCast, List.getD_eq_getElem?_getD, hz3]; rfl⟩
    obtain ⟨oo, hoo⟩ := ovs_of h1
    obtain ⟨s', hs', _, mem'⟩ := ovs_at h0 hoo
    rw [h1] at hs'
    cases hs'
    refine ⟨i, oo, h4, hoo, (mem' _).mpr ⟨z, _, rfl, hz3, fun k hk => (both_mem.mp hk).1, fun e => ne ?_⟩⟩
    refine anti i t i' t' h1 g1 h3 g3 fun k hk => ?_
    rw [← e] at hk
    exact (both_mem.mp hk).2
end Mb

namespace MbS
open L2 PySem PySem.Spec PyProof.Rows
/-! ### the difference of two sets of whole numbers -/
theorem entry_sub : entryFor table "set.__sub__" = some Builtin.«frozenset.__sub__» :=
  entryFor_alias (id' := "frozenset.__sub__") (by kernel_rfl) (by first | rfl | decide +kernel | (unfold String.splitOn; simp +decide [String.splitOnAux])) (by decide +kernel) (by kernel_rfl)
section
variable {P : Program} {w : World} {A : Around} {E : Value → Shared → Prop} {s : Shared} {a b : Addr} {S T : Int → Bool} {n m : Nat}
theorem any_set {Q : Bool → Shared → Prop} (h : s.TypeIs (.ref a) "set") (q : Q true s) : wpAny (model P w) A (Builtin.Frozenset.isAnySet (.ref a)) Q E s := by
  have hs := sub_set_self
  unfold Builtin.Frozenset.isAnySet
  wp_walk
  exact q
/-- the base's letters of a set's state -/
structure SetSt (w : World) (h : Heap) (a : Addr) (S : Int → Bool) (n : Nat) (o : Obj) (es : Array (Int × Value)) (ep : Nat) (t : SetTable) : Prop where
  ob : h.get? a = some o
  exact : o.ExactSet
  dat : o.data = .set es ep t
  good : ∀ e ∈ es.toList, GoodE e
  nd : (es.toList.map keyOf).Nodup
  mem : ∀ k, S k = true ↔ k ∈ es.toList.map keyOf
  few : es.size < scanBound
  fits : t.fits es.size = true
  size : es.size = n
  ris : Ris t.place.toList
  led : (w.params.followText "set-order") = true ∨ t.led = true
theorem SetSt.of {h : Heap} (R : SetR w h a S n) : ∃ o es ep t, SetSt w h a S n o es ep t := by
  obtain ⟨o, es, ep, t, h1, h2, h3, h4, h5, h6, h7, h8, h9, h10, h11⟩ := R
  exact ⟨o, es, ep, t, h1, h2, h3, h4, h5, h6, h7, h8, h9, h10, h11⟩
theorem SetSt.to {h : Heap} {o : Obj} {es : Array (Int × Value)} {ep : Nat} {t : SetTable} (R : SetSt w h a S n o es ep t) : SetR w h a S n := ⟨o, es, ep, t, R.ob, R.exact, R.dat, R.good, R.nd, R.mem, R.few, R.fits, R.size, R.ris, R.led⟩
/-- its elements, in some order -/
theorem walk_some {o : Obj} {es : Array (Int × Value)} {ep : Nat} {t : SetTable} {Q : Array (Int × Value) → Shared → Prop} (R : SetSt w s.heap a S n o es ep t) (q : ∀ ys d, ys.toList.Perm es.toList → Q ys { s with drawn := d }) : wpAny (model P w) A (setWalk a) Q E s := by
  unfold setWalk
  refine wpAny_bind (wpAny_setState_of R.ob R.dat R.fits ?_)
  refine wpAny_bind ?_
  refine wpAny_byText ?_
  by_cases bt : w.params.followText "set-order" = true
  · refine wp_if_pos bt (wpAny_bind (m := ask) (wpAny_askSetting (wpAny_pure ?_)))
    exact q _ s.drawn (pick_perm _ es)
  · refine wp_if_neg bt ?_
    have led := R.led.resolve_left bt
    split
    · exact wpAny_bind (drawOrder_at es.size es.toList _ _ (Nat.le_of_eq Array.length_toList) fun ys d p => wpAny_pure (q ys.toArray d (by rw [List.toList_toArray]; exact p)))
    · refine wpAny_bind (wpAny_of_eq (a := ()) (show (if (!t.led && decide (es.size > 1)) = true then unsupported "set:maker-not-led" else pure ()) = pure () by rw [led]; rfl) (wpAny_pure ?_))
      exact q es s.drawn (List.Perm.refl _)
theorem quiet_sets {Q : Bool → Shared → Prop} (q : Q true s) : ∀ as : List Addr, (∀ c ∈ as, ∃ S n, SetR w s.heap c S n) → wpAny (model P w) A (setsQuiet as) Q E s := by
  intro as all
  unfold setsQuiet
  refine wpAny_bind (wpAny_forIn_list _ (fun rest b s' => s' = s ∧ b.1 = none ∧ ∀ c ∈ rest, ∃ S n, SetR w s.heap c S n) _ ?_ ?_ as _ ⟨rfl, rfl, all⟩)
  · rintro c rest b s1 ⟨rfl, hb, hc⟩
    obtain ⟨S, n, R⟩ := hc c List.mem_cons_self
    obtain ⟨o, es, ep, t, R⟩ := SetSt.of R
    refine wpAny_bind (wpAny_setEntries_of R.ob R.dat R.fits ?_)
    refine wpAny_bind ?_
    rw [← Array.forIn_toList]
    refine wpAny_forIn_list _ (fun rest b s' => s' = s1 ∧ b.1 = none ∧ ∀ e ∈ rest, GoodE e) _ ?_ ?_ es.toList _ ⟨rfl, rfl, R.good⟩
    · rintro e more b' s2 ⟨rfl, hb', he⟩
      obtain ⟨k, tk, ek, _⟩ := he e List.mem_cons_self
      obtain ⟨hh, v⟩ := e
      obtain rfl : v = .int k tk := ek
      exact wpAny_pure ⟨rfl, rfl, fun e' h' => he e' (List.mem_cons_of_mem _ h')⟩
    · rintro b' s2 ⟨rfl, hb', _⟩
      dsimp only []
      rw [hb']
      exact wpAny_pure ⟨rfl, rfl, fun c' h' => hc c' (List.mem_cons_of_mem _ h')⟩
  · rintro b s1 ⟨rfl, hb, _⟩
    dsimp only []
    rw [hb]
    exact wpAny_pure q
theorem any_both {Q : Bool → Shared → Prop} (ha : s.TypeIs (.ref a) "set") (hb : s.TypeIs (.ref b) "set") (q : Q true s) : wpAny (model P w) A (andM (Builtin.Frozenset.isAnySet (.ref a)) (Builtin.Frozenset.isAnySet (.ref b))) Q E s := by
  unfold andM
  refine wpAny_bind (any_set ha ?_)
  exact any_set hb q
theorem base_set {Q : Value → Shared → Prop} (ha : s.TypeIs (.ref a) "set") (q : Q (.type "set") s) : wpAny (model P w) A (Builtin.Frozenset.baseOf a) Q E s := by
  have hs := sub_set_self
  unfold Builtin.Frozenset.baseOf
  wp_walk
  exact q
/-- of a set whose walk nobody sees: its elements in some order, the set r filled may lose its marks -/
theorem walk_unseen {r : Addr} {o : Obj} {es : Array (Int × Value)} {ep : Nat} {t : SetTable} {U : Int → Bool} {j : Nat} {Q : Array (Int × Value) → Shared → Prop} (R : SetSt w s.heap a S n o es ep t) (RB : SetR w s.heap b T m) (RR : SetR w s.heap r U j) (hra : r ≠ a)
    (q : ∀ ys h' d, ys.toList.Perm es.toList → Heap.SameBut r s.heap h' → SetR w h' r U j → Q ys { s with heap := h', drawn := d }) : wpAny (model P w) A (setWalkUnseen a [b, r] (some r)) Q E s := by
  unfold setWalkUnseen
  refine wpAny_bind (wpAny_setState_of R.ob R.dat R.fits ?_)
  refine wpAny_bind ?_
  refine wpAny_byText ?_
  by_cases c : (w.params.followText "set-order" || (t.led && t.plain) || decide (es.size ≤ 1)) = true
  · refine wp_if_pos c ?_
    refine walk_some R fun ys d p => q ys s.heap d p (Heap.SameBut.refl r s.heap) RR
  · refine wp_if_neg c ?_
    refine wpAny_bind (quiet_sets ?_ [a, b, r] fun z hz => ?_)
    · rw [if_neg (by decide)]
      refine wpAny_bind ?_
      refine wpAny_rule ?_
      obtain ⟨of, ef, pf, tf, RF⟩ := SetSt.of RR
      show wpAny _ _ (setState r >>= _) _ _ _
      refine wpAny_bind (wpAny_setState_of RF.ob RF.dat RF.fits ?_)
      dsimp only
      have led : t.led = true := by
        refine R.led.resolve_left fun z => c ?_
        rw [z]
        rfl
      rw [led]
      by_cases c2 : ((tf.led && !true) || (tf.plain && !t.plain)) = true
      · refine wp_if_pos c2 ?_
        refine wpAny_bind (wpAny_storeSet_of RF.ob RF.dat ?_ (fits_of_scanBound RF.few))
        refine wpAny_pure (q es _ s.drawn (List.Perm.refl _) (Heap.SameBut.update _ r _) ?_)
        have new := store_at (es' := ef) (t' := { tf with led := tf.led && true, plain := tf.plain && t.plain }) RF.ob RF.dat
        exact ⟨_, ef, _, _, new, RF.exact, rfl, RF.good, RF.nd, RF.mem, RF.few, RF.fits, RF.size, RF.ris, RF.led.imp id fun z => by rw [Bool.and_true]; exact z⟩
      · refine wp_if_neg c2 ?_
        exact wpAny_pure (q es s.heap s.drawn (List.Perm.refl _) (Heap.SameBut.refl r s.heap) RR)
    · simp only [List.mem_cons, List.not_mem_nil, or_false] at hz
      rcases hz with rfl | rfl | rfl
      · exact ⟨S, n, R.to⟩
      · exact ⟨T, m, RB⟩
      · exact ⟨U, j, RR⟩
theorem sub_ints {Q : Value → Shared → Prop} (RA : SetR w s.heap a S n) (RB : SetR w s.heap b T m) (hq : n / 4 ≤ m)
    (hQ : ∀ h' d k, SetR w h' s.heap.objs.size (fun i => S i && !T i) k → k ≤ n → (∀ c u, s.heap.get? c = some u → h'.get? c = some u) → Q (.ref s.heap.objs.size) { s with heap := h', drawn := d }) :
    wpAny (model P w) A (call (.builtin "set.__sub__") [.ref a, .ref b]) (fun v s' => v ≠ .notImplemented ∧ Q v s') E s := by
  have tA : s.TypeIs (.ref a) "set" := (RA.setOf (P := P)).typeIs
  have tB : s.TypeIs (.ref b) "set" := (RB.setOf (P := P)).typeIs
  refine wpAny_call_entry F.slot_set_sub tA entry_sub ?_ (F.args_set_sub_2 _ _)
  wp_delta
  wp_delta
  refine wpAny_bind ?_
  refine wpAny_pure ?_
  show wpAny _ _ (andM (Builtin.Frozenset.isAnySet (.ref a)) (Builtin.Frozenset.isAnySet (.ref b)) >>= _) _ _ _
  refine wpAny_bind (any_both tA tB ?_)
  rw [if_neg (by decide)]
  refine wpAny_bind ?_
  refine wpAny_pure ?_
  refine wpAny_bind ?_
  unfold Builtin.Frozenset.difference
  refine wpAny_bind (any_set tB ?_)
  show wpAny _ _ (Builtin.Frozenset.addrOf (.ref b) >>= _) _ _ _
  refine wpAny_bind ?_
  refine wpAny_pure ?_
  show wpAny _ _ (Builtin.Frozenset.sizeOf b >>= _) _ _ _
  obtain ⟨oa, ea, pa, ta, SA⟩ := SetSt.of RA
  obtain ⟨ob, eb, pb, tb, SB⟩ := SetSt.of RB
  rw [Builtin.Frozenset.sizeOf, Builtin.Frozenset.sizeOf]
  refine wpAny_bind (wpAny_bind (wpAny_setEntries_of SB.ob SB.dat SB.fits (wpAny_pure ?_)))
  refine wpAny_bind (wpAny_bind (wpAny_setEntries_of SA.ob SA.dat SA.fits (wpAny_pure ?_)))
  rw [if_neg (by rw [SA.size, SB.size]; omega)]
  refine wpAny_bind (base_set tA ?_)
  refine wpAny_bind (PpSet.newSet_ok ?_)
  refine wpAny_bind ?_
  refine wpAny_pure ?_
  generalize hD : s.heap.objs.size = D
  have keep : ∀ c u, s.heap.get? c = some u → (s.heap.push (noSet w)).get? c = some u := fun c u e => Heap.get?_push_of_some _ e
  have SA1 : SetSt w (s.heap.push (noSet w)) a S n oa ea pa ta := { SA with ob := keep _ _ SA.ob }
  have RB1 : SetR w (s.heap.push (noSet w)) b T m := RB.at fun u => keep _ u
  have RD1 : SetR w (s.heap.push (noSet w)) D (fun _ => false) 0 := by rw [← hD]; exact setR_fresh w
  have Da : D ≠ a := fun e => Nat.lt_irrefl _ (show a < a from Nat.lt_of_lt_of_eq RA.lt (hD.trans e))
  have Db : D ≠ b := fun e => Nat.lt_irrefl _ (show b < b from Nat.lt_of_lt_of_eq RB.lt (hD.trans e))
  refine wpAny_bind (wpAny_setEpoch_of SA1.ob SA1.dat SA1.fits ?_)
  refine wpAny_bind ?_
  refine wpAny_holding ?_
  refine wpAny_bind (walk_unseen SA1 RB1 RD1 Da fun ys h' d p sb RD => ?_)
  refine wpAny_bind ?_
  rw [← Array.forIn_toList]
  have nS : n < scanBound := by rw [← SA.size]; exact SA.few
  refine wpAny_forIn_list _ (fun rest _ s' => ∃ h1 U j, s' = { s with heap := h1, drawn := d } ∧ Heap.SameBut D (s.heap.push (noSet w)) h1 ∧ SetR w h1 D U j ∧
    (∀ k, (S k = true ∧ T k = false) ↔ (U k = true ∨ (k ∈ rest.map keyOf ∧ T k = false))) ∧ j + rest.length ≤ n ∧ ∀ e ∈ rest, GoodE e) _ ?turn ?stop ys.toList _ ⟨h', fun _ => false, 0, rfl, sb, RD, fun k => ?_, ?_, fun e he => SA.good e (p.mem_iff.mp he)⟩
  case turn =>
    rintro e rest _ s1 ⟨h1, U, j, rfl, sb1, R1, all, room, good⟩
    obtain ⟨k, tk, ek, eh⟩ := good e List.mem_cons_self
    obtain ⟨hh, v⟩ := e
    obtain rfl : v = .int k tk := ek
    obtain rfl : hh = hashInt k := eh
    rw [List.length_cons] at room
    dsimp only
    have RB2 : SetR w h1 b T m := RB1.at fun u hu => (sb1.2 b (Ne.symm Db)).trans hu
    have after : ∀ (h2 : Heap) (V : Int → Bool) (i : Nat) (Kp : ForInStep PUnit → Shared → Prop), Heap.SameBut D h1 h2 → SetR w h2 D V i → i ≤ j + 1 → (∀ x, V x = true ↔ (U x = true ∨ (x = k ∧ T k = false))) →
        ((∃ h1 U j, ({ s with heap := h2, drawn := d } : Shared) = { s with heap := h1, drawn := d } ∧ Heap.SameBut D (s.heap.push (noSet w)) h1 ∧ SetR w h1 D U j ∧
              (∀ k, (S k = true ∧ T k = false) ↔ (U k = true ∨ (k ∈ rest.map keyOf ∧ T k = false))) ∧ j + rest.length ≤ n ∧ ∀ e ∈ rest, GoodE e) → Kp (.yield ⟨⟩) { s with heap := h2, drawn := d }) →
        wpAny (model P w) A.in1 (Builtin.Frozenset.unchanged (toString "frozenset." ++ toString "__sub__") a pa >>= fun _ => pure (ForInStep.yield PUnit.unit)) Kp E { s with heap := h2, drawn := d } := fun h2 V i Kp sb2 R2 le val kp => by
      have sb3 := sb1.trans sb2
      have oa2 : h2.get? a = some oa := (sb3.2 a (Ne.symm Da)).trans SA1.ob
      unfold Builtin.Frozenset.unchanged
      refine wpAny_bind (wpAny_bind (wpAny_setEpoch_of (s := { s with heap := h2, drawn := d }) oa2 SA.dat SA.fits ?_))
      rw [if_neg (by simp)]
      refine wpAny_pure (wpAny_pure (kp ⟨h2, V, i, rfl, sb3, R2, fun x => ?_, by omega, fun e he => good e (List.mem_cons_of_mem _ he)⟩))
      rw [all x, val x, List.map_cons, List.mem_cons]
      show (U x = true ∨ ((x = k ∨ _) ∧ _)) ↔ _
      constructor
      · rintro (h | ⟨rfl | h, g⟩)
        · exact .inl (.inl h)
        · exact .inl (.inr ⟨rfl, g⟩)
        · exact .inr ⟨h, g⟩
      · rintro ((h | ⟨rfl, g⟩) | ⟨h, g⟩)
        · exact .inl h
        · exact .inr ⟨.inl rfl, g⟩
        · exact .inr ⟨.inr h, g⟩
    refine wpAny_bind ?_
    refine wpAny_holding ?_
    show wpAny _ _ (setFind b (.int k tk) (hashInt k) >>= _) _ _ _
    refine wpAny_bind (wpAny_setFind_of (knd := intKind P w) (s := { s with heap := h1, drawn := d }) (k := k) (intKind_is P w k tk) rfl RB2.setOf fun r hr => ?_)
    refine wpAny_bind ?_
    refine wpAny_pure ?_
    by_cases ct : T k = true
    · rw [hr, ct, if_neg (by decide)]
      refine wpAny_pure (after h1 U j _ (Heap.SameBut.refl D h1) R1 (Nat.le_succ j) (fun x => ⟨.inl, fun z => z.elim id fun ⟨e, f⟩ => ?_⟩) id)
      rw [ct] at f
      cases f
    · have cf : T k = false := Bool.eq_false_iff.mpr ct
      rw [hr, cf, if_pos (by decide)]
      refine wpAny_bind (setR_add_hashed (s := { s with heap := h1, drawn := d }) R1 (by omega) fun h2 sb2 R2 => ?_)
      refine wpAny_pure (after h2 _ _ _ sb2 R2 (by split <;> omega) (fun x => ?_) id)
      rw [Bool.or_eq_true, decide_eq_true_eq]
      exact ⟨fun z => z.imp id fun e => ⟨e, cf⟩, fun z => z.imp id fun ⟨e, _⟩ => e⟩
  case stop =>
    rintro _ s1 ⟨h1, U, j, rfl, sb1, R1, all, room, _⟩
    refine wpAny_pure (wpAny_pure (wpAny_pure ⟨_, rfl, nofun, ?_⟩))
    rw [← hD] at sb1 R1 ⊢
    refine hQ h1 d j (R1.congr fun i => ?_) (by rw [List.length_nil] at room; omega) fun c u e => ?_
    · have q := all i
      simp only [List.map_nil, List.not_mem_nil, false_and, or_false] at q
      cases hU : U i <;> cases hS : S i <;> cases hT : T i <;> simp_all
    · exact (sb1.2 c (Nat.ne_of_lt (Heap.lt_size e))).trans (keep _ _ e)
  · rw [(p.map keyOf).mem_iff, ← SA.mem k]
    simp
  · rw [p.length_eq, Array.length_toList, SA.size, Nat.zero_add]
    exact Nat.le_refl _
end
/-- a - b of two sets of whole numbers, the first not much larger -/
def rSSub (w : World) : V → V → Hp → VK → Prop := fun x y H Q => ∃ (a b : Addr) (S T : Int → Bool) (n m : Nat), x = .ref a ∧ y = .ref b ∧ H a = some (SetO w a S n) ∧ H b = some (SetO w b T m) ∧ n / 4 ≤ m ∧
  ∀ (q : Addr) (k : Nat), k ≤ n → H q = none → Q (.ref q) (upd H q (SetO w q (fun i => S i && !T i) k))
theorem op_ssub {X : Cx} : OpR X (binaryOp .Sub) (rSSub X.w) := by
  intro pins s σ H x y vx vy Q I rx ry h
  obtain ⟨a, b, S, T, n, m, rfl, rfl, ha, hb, hq, q⟩ := h
  cases rx
  cases ry
  have RA := setO_get I ha
  have RB := setO_get I hb
  have tA : s.TypeIs (.ref a) "set" := (RA.setOf (P := X.prog)).typeIs
  have tB : s.TypeIs (.ref b) "set" := (RB.setOf (P := X.prog)).typeIs
  refine wpAny_binaryOp_same tA tB F.fills_set_sub F.slot_set_sub (sub_ints RA RB hq fun h' d k R le kept => ?_)
  have free : H s.heap.objs.size = none := I.hok.fresh (Nat.le_refl _)
  exact ⟨.ref _, _, I.call (ch := []) (g' := s.gens) (t' := s.toks) (d' := d) (Un.laid kept (Nat.le_refl _) free) (I.hok.laid kept (Nat.le_refl _) (setO_new R)) I.bare (fun _ z => nomatch z), rfl, q _ k le free⟩
end MbS

namespace MbS
open L2 PySem PySem.Spec PyProof.Rows
/-! ### {elt for a in .. for b in ..} of whole numbers -/
abbrev sc2 (elt t0 i0 t1 i1 : Expr) (scope : Scope) (pos : Pos) : Expr := .SetComp elt [⟨t0, i0, [], 0⟩, ⟨t1, i1, [], 0⟩] scope pos
theorem turn_far (elt t0 i0 t1 i1 : Expr) (scope : Scope) (pos : Pos) (it acc : Value) (env : Env) : compTurn (sc2 elt t0 i0 t1 i1 scope pos) 0 it acc env = (standAt i0.pos >>= fun _ => pyNext it >>= fun r => match r with
    | none => pure (.done .next)
    | some v => letOwnedTupleGo t0 it v >>= fun _ => assign t0 env v >>= fun _ => eval i1 env >>= fun x => standAt i1.pos >>= fun _ => foldedSetIterable i1 env x >>= fun y => holding [y] (pyIter y) >>= fun it1 =>
      runOwn (.compStart (sc2 elt t0 i0 t1 i1 scope pos) 1 it1 acc env) env >>= fun _ => again (.compLoop (sc2 elt t0 i0 t1 i1 scope pos) 0 it acc env)) := by rfl
theorem turn_near (elt t0 i0 t1 i1 : Expr) (scope : Scope) (pos : Pos) (it acc : Value) (env : Env) : compTurn (sc2 elt t0 i0 t1 i1 scope pos) 1 it acc env = (standAt i1.pos >>= fun _ => pyNext it >>= fun r => match r with
    | none => pure (.done .next)
    | some v => letOwnedTupleGo t1 it v >>= fun _ => assign t1 env v >>= fun _ => (eval elt env >>= fun x => standAt elt.pos >>= fun _ => call (.builtin "set.add") [acc, x] >>= fun _ => pure ()) >>= fun _ => again (.compLoop (sc2 elt t0 i0 t1 i1 scope pos) 1 it acc env)) := by rfl
section
variable {Y : Cx} {pins : List (Addr × Obj)} {σ : L2.St} {H : Hp} {s : Shared}
/-- one item is drawn and stored; what the iterator is made of stands pinned -/
theorem item_put {tg : Expr} {g : TG} {J : It} {fp : List Addr} {it : Addr} {tn : Nat → Heap → Prop} {i : Nat} {Z : L2.St → Hp → Prop} {F : Shared → Prop} {E1 E2 E3 : Value → Shared → Prop} (T : Turn Y.prog Y.w Y.K tg J fp it tn) (hc : Y.calm = true) (hx : ∀ v s', ¬ Y.xe v s') (pg : PG Y tg g) (I : Inv Y pins σ H s)
    (hf : ∀ b ∈ fp, FpOk Y pins H b) (ht : tn i s.heap) (go : J.go i H) (step : ∀ x H1, J.yld i H x H1 → g x σ H1 Z)
    (k : ∀ pl σ' H' s', Inv Y (pins ++ pl) σ' H' s' → Z σ' H' → (∀ σ2 H2 s2, Inv Y (pins ++ pl) σ2 H2 s2 → tn (i + 1) s2.heap ∧ ∀ b ∈ fp, H2 b = none) → F s') :
    wpAny (model Y.prog Y.w) Y.A (pyNext (.ref it)) (fun r s1 => ∃ v, r = some v ∧ wpAny (model Y.prog Y.w) Y.A (letOwnedTupleGo tg (.ref it) v) (fun _ s2 => wpAny (model Y.prog Y.w) Y.A (assign tg Y.env v) (fun _ s3 => F s3) E1 s2) E2 s1) E3 s := by
  refine thnF (T.item Y rfl rfl rfl hc i pins s σ H (fun _ _ => False) I hf ht go) fun r s1 q => ?_
  obtain ⟨u, rfl, q⟩ := q
  refine ⟨u, rfl, thnF q fun _ s2 q => ?_⟩
  obtain ⟨x, H1, I1, rx, y, t1, f1⟩ := q
  have there := T.obj (i + 1) _ t1
  have I2 := I1.pinned (fun b hb => ⟨f1 b hb, (hf b hb).2⟩) there
  refine wpAny_mono (pg.run _ s2 σ H1 x u Z I2 rx (step x H1 y)) (fun _ s3 q => ?_) fun v s' z => absurd z (hx v s')
  obtain ⟨σ', H', I3, z⟩ := q
  refine k _ σ' H' s3 I3 z fun σ2 H2 s4 I4 => ?_
  have got : ∀ b ∈ fp, ∀ o, s2.heap.get? b = some o → s4.heap.get? b = some o ∧ H2 b = none := fun b hb o e =>
    let q := I4.pin (b, o) (List.mem_append_right _ (List.mem_append_right _ (mem_pinsAt hb e)))
    ⟨q.1, q.2.1⟩
  exact ⟨T.keep _ _ _ t1 fun b hb o e => (got b hb o e).1, fun b hb => let ⟨o, e, _⟩ := there b hb; (got b hb o e).2⟩
theorem add_int {E : Value → Shared → Prop} {D : Addr} {S : Int → Bool} {n : Nat} {c : Int} {tk : Tok} {Q : Value → Shared → Prop} (I : Inv Y pins σ H s) (hD : H D = some (SetO Y.w D S n)) (room : n + 1 < scanBound)
    (h : ∀ s', Inv Y pins σ (upd H D (SetO Y.w D (fun k => S k || decide (k = c)) (if S c = true then n else n + 1))) s' → Q .none s') : wpAny (model Y.prog Y.w) Y.A (call (.builtin "set.add") [.ref D, .int c tk]) Q E s := by
  refine setR_add (setO_get I hD) room fun h' sb new => h _ ?_
  obtain ⟨o, _, _, _, ho, _⟩ := id new
  exact I.write (e := D) (t' := s.toks + 1) (by rw [hD]; trivial) (.inl rfl) (fun b u hb hu => (sb.2 b hb).trans hu) ⟨o, ho⟩ (setO_new new)
end
/-- the second clause begins -/
theorem start_near {prog : Program} {w : World} {A : Around} {R : Result → Shared → Prop} {s : Shared} {elt t0 i0 t1 i1 : Expr} {scope : Scope} {pos : Pos} {it : Addr} {acc : Value} {env : Env}
    (h0 : codeAny (model prog w) A (.compLoop (sc2 elt t0 i0 t1 i1 scope pos) 1 (.ref it) acc env) R s) (self : ∀ (Q : Value → Shared → Prop) (E : Value → Shared → Prop), Q (.ref it) s → wpAny (model prog w) (A.under (.compStart (sc2 elt t0 i0 t1 i1 scope pos) 1 (.ref it) acc env)) (pyIter (.ref it)) Q E s) :
    codeAny (model prog w) A (.compStart (sc2 elt t0 i0 t1 i1 scope pos) 1 (.ref it) acc env) R s := by
  refine codeAny_of_tree (show wpAny _ _ ((compStart (sc2 elt t0 i0 t1 i1 scope pos) 1 (.ref it) acc env).onRaise fun x => do noteFrame x env; standAt theWindowsPlace) _ _ s from wpAny_notedAt ?_)
  unfold compStart
  refine wpAny_bind (m := ask) (wpAny_askSetting (wpAny_ite ?_))
  have go := And.intro (rfl : (Code.compLoop (sc2 elt t0 i0 t1 i1 scope pos) 1 (.ref it) acc env).quiet = true) h0
  split
  · first | exact wpAny_pure go | exact wpAny_bind (wpAny_pure (wpAny_pure go))
  · exact wpAny_bind (wpAny_rule (wpAny_bind (m := standAt _) (wpAny_standAt (wpAny_bind (self _ _ (wpAny_pure go))))))
/-- {elt for t0 in .. for t1 in ..}: D the new set -/
def tSc2 (w : World) (wi : TI) (g : TG) (wi1 : TI) (g1 : TG) (te : TE) (vs vs1 : List Nat) : TE := fun σ H Q => wi σ H fun J H1 => ∀ D, H1 D = none → MbC.Turns J (upd H1 D (SetO w D (fun _ => false) 0)) (fun H' => Q (.ref D) H') fun N x H2 => g x (wipe σ vs) H2 fun σ2 H3 =>
  wipe σ2 vs = wipe σ vs ∧ wi1 σ2 H3 fun J1 H4 => MbC.Turns J1 H4 N fun N1 x1 H5 => g1 x1 (wipe σ2 vs1) H5 fun σ3 H6 => wipe σ3 vs1 = wipe σ2 vs1 ∧
    te σ3 H6 fun y H7 => ∃ (c : Int) (S : Int → Bool) (n : Nat), y = .int c ∧ H7 D = some (SetO w D S n) ∧ n + 1 < scanBound ∧ N1 (upd H7 D (SetO w D (fun k => S k || decide (k = c)) (if S c = true then n else n + 1)))
section
variable {X : Cx}
theorem pe_sc2 {elt t0 i0 t1 i1 : Expr} {scope : Scope} {own : List (PySem.Str × Nat)} {vs1 : List Nat} {pos : Pos} {wi wi1 : TI} {g g1 : TG} {te : TE} (hc : X.calm = true) (hN : X.N.Nodup) (hi : PI X t0 i0 wi) (ok : BlkOk X.N X.env.scope scope own) (hv : ∀ i ∈ vs1, i ∈ own.map (·.2))
    (hg : ∀ (s : Shared) (H : Hp) (C : Addr) (cl : List (PySem.Str × Addr)) (fp : List Addr), PG (X.blk s H scope (compEnvC scope cl C X.env) fp) t0 g)
    (hi1 : ∀ (s : Shared) (H : Hp) (C : Addr) (cl : List (PySem.Str × Addr)) (fp : List Addr), PI (X.blk s H scope (compEnvC scope cl C X.env) fp) t1 i1 wi1)
    (hg1 : ∀ (s : Shared) (H : Hp) (C : Addr) (cl : List (PySem.Str × Addr)) (fp : List Addr), PG (X.blk s H scope (compEnvC scope cl C X.env) fp) t1 g1)
    (he : ∀ (s : Shared) (H : Hp) (C : Addr) (cl : List (PySem.Str × Addr)) (fp : List Addr), PE (X.blk s H scope (compEnvC scope cl C X.env) fp) elt te)
    (hs : ∀ x, foldedSetIterable i0 X.env x = pure x := by intro _; rfl) (hs1 : ∀ env x, foldedSetIterable i1 env x = pure x := by intro _ _; rfl) :
    PE X (sc2 elt t0 i0 t1 i1 scope pos) (tSc2 X.w wi g wi1 g1 te (own.map (·.2)) vs1) := by
  constructor
  intro pins s σ H Q I h
  rw [PpSet.eval_SetComp]
  have frees : ∀ y ∈ scope.names, y.2 = .free → ∃ c, X.env.cells.lookup y.1 = some c := fun y hy e => (ok.free y hy e).elim (fun k => I.ok.has _ (.inl k)) fun k => I.ok.has _ (.inr k)
  refine wpAny_comprehension_free (use := none) rfl hs (closure_ok frees) ok.kind (fun y hy e => by rw [ok.uniq y hy, e]) (thn (hi.run pins s σ H _ I h) fun xv s1 q1 => thn q1 fun itv s2 q2 => ?_)
  obtain ⟨it, fp, tn, J, H2, rfl, I2, T, st2, f2, turns⟩ := q2
  refine PpSet.newSet_ok (newEnv_comp ?_)
  have hDn := I2.hok.fresh (Nat.le_refl _)
  generalize hD : (s2.heap.objs.size : Addr) = D at hDn ⊢
  obtain ⟨W, ⟨m0, w0⟩, turn⟩ := turns D hDn
  generalize hs3 : ({ s2 with heap := s2.heap.push { data := .set #[] 0 (.fresh 0 0 (!X.w.params.followText "set-order")), cls := .type "set" } } : Shared) = s3
  have kept3 : ∀ b o, s2.heap.get? b = some o → s3.heap.get? b = some o := fun b o e => by rw [← hs3]; exact Heap.get?_push_of_some _ e
  have I3 : Inv X pins σ (upd H2 D (SetO X.w D (fun _ => false) 0)) s3 := by
    rw [← hs3, ← hD]
    exact I2.laid (t' := s2.toks) (fun b o e => Heap.get?_push_of_some _ e) (Nat.le_refl _) (setO_new (setR_fresh X.w))
  have st3 : tn 0 s3.heap := T.keep 0 _ _ st2 fun b _ o e => kept3 b o e
  have f3 : ∀ b ∈ fp, FpOk X pins (upd H2 D (SetO X.w D (fun _ => false) 0)) b ∧ b < s3.heap.objs.size := fun b hb => by
    obtain ⟨o, e, _⟩ := T.obj 0 _ st2 b hb
    have ne : b ≠ D := by rw [← hD]; exact Nat.ne_of_lt (Heap.lt_size e)
    exact ⟨⟨by rw [upd_ne ne]; exact (f2 b hb).1, (f2 b hb).2⟩, Heap.lt_size (kept3 b o e)⟩
  generalize hH3 : upd H2 D (SetO X.w D (fun _ => false) 0) = H3 at I3 f3 w0
  have I4 := block_start (own := own) I3 ok hN f3
  have pg := hg s3 H3 s3.heap.objs.size (cellsFrom (s3.heap.objs.size + 1) scope.names (cloFrom X.env.cells scope.names [])) fp
  have pe := he s3 H3 s3.heap.objs.size (cellsFrom (s3.heap.objs.size + 1) scope.names (cloFrom X.env.cells scope.names [])) fp
  have pi1 := hi1 s3 H3 s3.heap.objs.size (cellsFrom (s3.heap.objs.size + 1) scope.names (cloFrom X.env.cells scope.names [])) fp
  have pg1 := hg1 s3 H3 s3.heap.objs.size (cellsFrom (s3.heap.objs.size + 1) scope.names (cloFrom X.env.cells scope.names [])) fp
  show codeAny _ _ (.compStart (sc2 elt t0 i0 t1 i1 scope pos) 0 (.ref it) (.ref D) (compEnvC scope (cellsFrom (s3.heap.objs.size + 1) scope.names (cloFrom X.env.cells scope.names [])) s3.heap.objs.size X.env)) (compPost (model X.prog X.w) X.A X.xe none (EP X pins σ Q) (.ref D) s3.heap.objs.size) { s3 with heap := pushCells (s3.heap.push { cls := .type "dict", data := .dict #[] }) scope.names }
  generalize hce : compEnvC scope (cellsFrom (s3.heap.objs.size + 1) scope.names (cloFrom X.env.cells scope.names [])) s3.heap.objs.size X.env = ce at I4 pg pe pi1 pg1 ⊢
  have cL : ce.locals = s3.heap.objs.size := by rw [← hce]; rfl
  generalize hs4 : ({ s3 with heap := pushCells (s3.heap.push { data := .dict #[], cls := .type "dict" }) scope.names } : Shared) = s4 at I4 ⊢
  have st4 : tn 0 s4.heap := T.keep 0 _ _ st3 fun b _ o e => by rw [← hs4]; exact pushCells_keeps _ _ _ _ (Heap.get?_push_of_some _ e)
  generalize hB : X.blk s3 H3 scope ce fp = B at I4 pg pe pi1 pg1
  have bP : B.prog = X.prog := by rw [← hB]
  have bw : B.w = X.w := by rw [← hB]
  have bK : B.K = X.K := by rw [← hB]
  have bc : B.calm = true := by rw [← hB]; exact hc
  have bA : B.A = X.A := by rw [← hB]
  have bE : B.env = ce := by rw [← hB]
  have bx : ∀ v s', ¬ B.xe v s' := by rw [← hB]; exact fun _ _ z => z
  have home : ∀ {σ' : L2.St} {H' : Hp} {s' : Shared}, Inv B [] σ' H' s' → Inv X pins σ H' s' ∧ H' s3.heap.objs.size = none ∧ ∃ m, s'.heap.Ns s3.heap.objs.size m := fun {σ' H' s'} J' => by
    rw [← hB] at J'
    have fr : H' ce.locals = none := J'.free
    obtain ⟨m, hn, _⟩ := J'.loc
    have hn : s'.heap.Ns ce.locals m := hn
    rw [cL] at fr hn
    exact ⟨I3.call' (ch := fp) J'.os J'.base J'.hok J'.bare fun b hb => ⟨(f3 b hb).1.2.2.2.1, (f3 b hb).1.2.1, (f3 b hb).1.2.2.2.2.1, (f3 b hb).1.2.2.2.2.2⟩, fr, m, hn⟩
  have stat : ∀ {σ' : L2.St} {H' : Hp} {s' : Shared}, Inv B [] σ' H' s' → (∀ b ∈ fp, H' b = none) → ∀ b ∈ fp, FpOk B [] H' b := fun {σ' H' s'} J' fr b hb => by
    have ex : b ∈ B.ex := by rw [← hB]; exact hb
    have pn : B.pn = [] := by rw [← hB]
    exact ⟨fr b hb, (J'.ok.exf b ex).1, J'.ok.exfs b ex, .inl ex, (J'.ok.exf b ex).2, fun p hp => by rw [pn] at hp; cases hp⟩
  have loop : codeAny (model X.prog X.w) X.A (.compLoop (sc2 elt t0 i0 t1 i1 scope pos) 0 (.ref it) (.ref D) ce) (compPost (model X.prog X.w) X.A X.xe none (EP X pins σ Q) (.ref D) s3.heap.objs.size) s4 := by
    refine codeAny_loop rfl (fun n s' => ∃ i H', Inv B [] (wipe σ (own.map (·.2))) H' s' ∧ tn i s'.heap ∧ (∀ b ∈ fp, H' b = none) ∧ W i n H') ?_ m0 ⟨0, H3, I4, st4, fun b hb => (f3 b hb).1.1, w0⟩
    intro n s5 here
    rcases here with ⟨i, H5, I5, st5, n5, w5⟩
    show wpAny _ X.A ((compTurn (sc2 elt t0 i0 t1 i1 scope pos) 0 (.ref it) (.ref D) ce).onRaise fun x => do noteFrame x ce; theTreesLotGoes x) _ _ s5
    refine wpAny_noted ?_
    rw [turn_far]
    apply wpAny_bind
    apply wpAny_standAt
    refine wpAny_bind ?_
    rcases turn i n H5 w5 with ⟨stop, qq⟩ | ⟨go, N, hN', step⟩
    · have q := T.done B bP bw bK bc i [] s5 _ H5 (fun _ _ => False) I5 (stat I5 n5) st5 stop
      rw [bA] at q
      refine thnF q fun r s6 q => ?_
      obtain ⟨rfl, I6⟩ := q
      obtain ⟨I7, nC, m, hn⟩ := home I6
      refine wpAny_pure ⟨m, hn, fun h'' sb => ?_⟩
      obtain ⟨g0, g1', g2, g3, g4, g5⟩ := I3.fpOk (Nat.le_refl _) nC
      exact ⟨.ref D, H5, I7.turned (t' := s6.toks) (fun b o hb e => (sb.2 b hb).trans e) g0 g1' g3 g4 g5, rfl, qq⟩
    · have put := item_put (Y := B) (F := fun s' => wpAny (model X.prog X.w) X.A (eval i1 ce >>= fun x => standAt i1.pos >>= fun _ => foldedSetIterable i1 ce x >>= fun y => holding [y] (pyIter y) >>= fun it1 =>
          runOwn (.compStart (sc2 elt t0 i0 t1 i1 scope pos) 1 it1 (.ref D) ce) ce >>= fun _ => again (.compLoop (sc2 elt t0 i0 t1 i1 scope pos) 0 (.ref it) (.ref D) ce)) (fun fin s' => match fin with
            | .done f => compPost (model X.prog X.w) X.A X.xe none (EP X pins σ Q) (.ref D) s3.heap.objs.size (.ok f) s'
            | .again c' => c' = .compLoop (sc2 elt t0 i0 t1 i1 scope pos) 0 (.ref it) (.ref D) ce ∧ ∃ m, m < n ∧ ∃ i H', Inv B [] (wipe σ (own.map (·.2))) H' s' ∧ tn i s'.heap ∧ (∀ b ∈ fp, H' b = none) ∧ W i m H')
          (notedBy (model X.prog X.w) X.A ce fun e s' => compPost (model X.prog X.w) X.A X.xe none (EP X pins σ Q) (.ref D) s3.heap.objs.size (.error e) s') s')
        (E1 := notedBy (model X.prog X.w) X.A ce fun e s' => compPost (model X.prog X.w) X.A X.xe none (EP X pins σ Q) (.ref D) s3.heap.objs.size (.error e) s')
        (E2 := notedBy (model X.prog X.w) X.A ce fun e s' => compPost (model X.prog X.w) X.A X.xe none (EP X pins σ Q) (.ref D) s3.heap.objs.size (.error e) s')
        (E3 := notedBy (model X.prog X.w) X.A ce fun e s' => compPost (model X.prog X.w) X.A X.xe none (EP X pins σ Q) (.ref D) s3.heap.objs.size (.error e) s') (by rw [bP, bw, bK]; exact T) bc bx pg I5 (stat I5 n5) st5 go step ?far
      · rw [bP, bw, bA, bE] at put
        refine wpAny_mono put (fun r s6 q => ?_) fun _ _ z => z
        obtain ⟨v, rfl, q⟩ := q
        exact wpAny_bind (wpAny_mono q (fun _ s7 q => wpAny_bind q) fun _ _ z => z)
      case far =>
        rintro pl σ7 H7 s7 I7 ⟨w7, q7⟩ back
        have keepσ : ∀ {τ : L2.St}, (∀ (j : Nat) v, σ7[j]? = some (some v) → j ∉ own.map (·.2) → τ[j]? = some (some v)) → ∀ (j : Nat) v, (wipe σ (own.map (·.2)))[j]? = some (some v) → τ[j]? = some (some v) := fun {τ} k j v e => by
          rw [← w7] at e
          exact k j v (wipe_some e).1 (wipe_some e).2
        have len7 : (wipe σ (own.map (·.2))).length = σ7.length := by rw [← w7, wipe_length]
        -- the outer turn's end
        have fin : ∀ {τ : L2.St} {H' : Hp} {s' : Shared}, Inv B ([] ++ pl) τ H' s' → τ.length = σ7.length → (∀ (j : Nat) v, σ7[j]? = some (some v) → j ∉ own.map (·.2) → τ[j]? = some (some v)) → N H' → ∃ m, m < n ∧ ∃ i H', Inv B [] (wipe σ (own.map (·.2))) H' s' ∧ tn i s'.heap ∧ (∀ b ∈ fp, H' b = none) ∧ W i m H' := fun {τ H' s'} J' hl k nx => by
          obtain ⟨m, lt, w'⟩ := hN' H' nx
          obtain ⟨t1, f1⟩ := back _ _ _ J'
          exact ⟨m, lt, i + 1, H', (J'.unpinned).weak (by rw [len7, hl]) (keepσ k), t1, f1, w'⟩
        refine wpAny_bind ?_
        have src := pi1.run ([] ++ pl) s7 σ7 H7 _ I7 q7
        rw [bP, bw, bA, bE] at src
        refine wpAny_mono src (fun xv s8 q8 => ?_) fun v s' z => absurd z (bx v s')
        refine wpAny_bind (wpAny_standAt (wpAny_bind (wpAny_of_eq (hs1 ce xv) (wpAny_bind (wpAny_holding (wpAny_mono q8 (fun itv s9 q9 => ?_) fun v s' z => absurd z (bx v s')))))))
        obtain ⟨it1, fp1, tn1, J1, H9, rfl, I9, T1, st9, f9, W1, ⟨m1, w1⟩, turn1⟩ := q9
        rw [bP, bw, bK] at T1
        refine wpAny_bind ?_
        refine wpAny_runOwn ?_
        rw [Around.mark_none]
        refine codeAny_mono (R := fun r s' => match r with
            | .ok _ => ∃ m, m < n ∧ ∃ i H', Inv B [] (wipe σ (own.map (·.2))) H' s' ∧ tn i s'.heap ∧ (∀ b ∈ fp, H' b = none) ∧ W i m H'
            | .error _ => False) (start_near ?_ fun Q' E' z => T1.self _ 0 _ _ _ st9 z) fun r s' q => ?_
        · refine codeAny_loop rfl (fun k s' => ∃ j H', Inv B ([] ++ pl) (wipe σ7 vs1) H' s' ∧ tn1 j s'.heap ∧ (∀ b ∈ fp1, H' b = none) ∧ W1 j k H') ?_ m1 ⟨0, H9, I9.weak (wipe_length _ _) (fun j v e => (wipe_some e).1), st9, fun b hb => (f9 b hb).1, w1⟩
          rintro k s10 ⟨j, H10, I10, st10, n10, w10⟩
          show wpAny _ X.A ((compTurn (sc2 elt t0 i0 t1 i1 scope pos) 1 (.ref it1) (.ref D) ce).onRaise fun x => do noteFrame x ce; theTreesLotGoes x) _ _ s10
          refine wpAny_noted ?_
          rw [turn_near]
          apply wpAny_bind
          apply wpAny_standAt
          refine wpAny_bind ?_
          have stat1 : ∀ b ∈ fp1, FpOk B ([] ++ pl) H10 b := fun b hb => ⟨n10 b hb, (f9 b hb).2⟩
          rcases turn1 j k H10 w10 with ⟨stop, nx⟩ | ⟨go1, N1, hN1, step1⟩
          · have q := T1.done B bP bw bK bc j _ s10 _ H10 (fun _ _ => False) I10 stat1 st10 stop
            rw [bA] at q
            refine thnF q fun r s11 q => ?_
            obtain ⟨rfl, I11⟩ := q
            exact wpAny_pure (fin I11 (wipe_length _ _) (fun j v e nj => by rw [wipe_out fun z => nj (hv j z)]; exact e) nx)
          · have put := item_put (Y := B) (F := fun s' => wpAny (model X.prog X.w) X.A ((eval elt ce >>= fun x => standAt elt.pos >>= fun _ => call (.builtin "set.add") [.ref D, x] >>= fun _ => pure ()) >>= fun _ => again (.compLoop (sc2 elt t0 i0 t1 i1 scope pos) 1 (.ref it1) (.ref D) ce)) (fun fin s' => match fin with
                | .done f => (∃ m, m < n ∧ ∃ i H', Inv B [] (wipe σ (own.map (·.2))) H' s' ∧ tn i s'.heap ∧ (∀ b ∈ fp, H' b = none) ∧ W i m H')
                | .again c' => c' = .compLoop (sc2 elt t0 i0 t1 i1 scope pos) 1 (.ref it1) (.ref D) ce ∧ ∃ m, m < k ∧ ∃ j H', Inv B ([] ++ pl) (wipe σ7 vs1) H' s' ∧ tn1 j s'.heap ∧ (∀ b ∈ fp1, H' b = none) ∧ W1 j m H')
              (notedBy (model X.prog X.w) X.A ce fun _ _ => False) s')
              (E1 := notedBy (model X.prog X.w) X.A ce fun _ _ => False) (E2 := notedBy (model X.prog X.w) X.A ce fun _ _ => False) (E3 := notedBy (model X.prog X.w) X.A ce fun _ _ => False) (by rw [bP, bw, bK]; exact T1) bc bx pg1 I10 stat1 st10 go1 step1 ?near
            · rw [bP, bw, bA, bE] at put
              refine wpAny_mono put (fun r s11 q => ?_) fun _ _ z => z
              obtain ⟨v, rfl, q⟩ := q
              exact wpAny_bind (wpAny_mono q (fun _ s12 q => wpAny_bind q) fun _ _ z => z)
            case near =>
              rintro pl1 σ12 H12 s12 I12 ⟨w12, q12⟩ back1
              have val := pe.run (([] ++ pl) ++ pl1) s12 σ12 H12 _ I12 q12
              rw [bP, bw, bA, bE] at val
              refine wpAny_bind (wpAny_bind (wpAny_mono val (fun y s13 q => ?_) fun v s' z => absurd z (bx v s')))
              obtain ⟨_, H13, I13, ry, c, S, sz, rfl, hS, room, nx⟩ := q
              obtain ⟨tk, rfl⟩ := ry
              have hS' : H13 D = some (SetO B.w D S sz) := by rw [bw]; exact hS
              have add := add_int (Y := B) (tk := tk) (E := notedBy (model X.prog X.w) X.A ce fun _ _ => False) (Q := fun _ s' => ∃ m, m < k ∧ ∃ j H', Inv B ([] ++ pl) (wipe σ7 vs1) H' s' ∧ tn1 j s'.heap ∧ (∀ b ∈ fp1, H' b = none) ∧ W1 j m H') I13 hS' room fun s14 I14 => by
                rw [bw] at I14
                obtain ⟨m, lt, w'⟩ := hN1 _ nx
                obtain ⟨t1, f1⟩ := back1 _ _ _ I14
                exact ⟨m, lt, j + 1, _, (I14.unpinned).weak (by rw [← w12, wipe_length]) (fun j v e => by rw [← w12] at e; exact (wipe_some e).1), t1, f1, w'⟩
              rw [bP, bw, bA] at add
              exact wpAny_bind (wpAny_standAt (wpAny_bind (wpAny_mono add (fun _ s14 q => wpAny_pure (wpAny_pure ⟨rfl, q⟩)) fun _ _ z => z)))
        · cases r with
          | error e => exact q.elim
          | ok f => first | exact wpAny_pure ⟨rfl, q⟩ | exact wpAny_bind (wpAny_pure (wpAny_pure ⟨rfl, q⟩))
  exact PpSet.codeAny_compStart_set loop (T.self X.A 0 _ _ _ st4 loop)
end
end MbS

namespace Mb
open L2 PySem PySem.Spec PyProof.Rows
section
variable {P : Program} {w : World} {K : PySem.W.Frag} {mg : Str → Option Value} {base : Heap} {C CS CM CT : Addr}
/-! ### right_over(place, overs) -/
/-- whether k is over one of o -/
def further (ovs : List (List Int)) (o : List Int) (k : Int) : Bool := o.any fun j => decide (k ∈ ovs.getD j.toNat [])
/-- the places right over the one with o over it -/
def rightOf (ovs : List (List Int)) (o : List Int) : List Int := o.filter fun k => !further ovs o k
def spRightOver (K : PySem.W.Frag) : Sp := fun vs H Q _ => ∃ (l : Addr) (k : Nat) (ovs : List (List Int)) (o : List Int), vs = [.int k, .ref l] ∧ GridR K H l ovs ∧ ovs.length ≤ 60 ∧ ovs[k]? = some o ∧ o.Pairwise (· < ·) ∧ (∀ oo ∈ ovs, oo.length ≤ 60 ∧ ∀ j ∈ oo, 0 ≤ j ∧ j < ovs.length) ∧
  (∀ us : List Int, (∀ j, further ovs o j = true → j ∈ us) → o.length ≤ 4 * us.length + 3) ∧
  ∀ (H' : Hp) (q : Addr), Same H H' → H q = none → H' q = some (.lst ((rightOf ovs o).map V.int)) → Q (.ref q) H'
abbrev nRightOver : List Str := ["place", "overs", "far", "near"]
theorem scRightOver : FnScope nRightOver ["place", "overs"] (defScope s_right_over) := ⟨rfl, rfl, rfl, by decide +kernel, rfl, by decide +kernel, by decide +kernel⟩
theorem ok_rightOver {f : Addr} {fd : FuncData} (F : Fun K "right_over" "right_over" s_right_over f fd) (T : Txt K mg CS CM) : FnOk P w K mg base CX0 1 f fd ["place", "overs"] (spRightOver K) := by
  refine F.ok scRightOver (fun vs H Q E h => ?_) (fun cdv A outer s H vs Q E hr h => ?_)
  · obtain ⟨l, k, ovs, o, rfl, _⟩ := h
    rfl
  · obtain ⟨l, k, ovs, o, rfl, grid, len, ho, rise, okk, quart, kk⟩ := h
    refine ⟨_, pss_one (ps_ret (pe_callB (cr_sortedSet rfl) (by rfl) T.sorted (by decide +kernel) (pa_cons (pe_op MbS.op_ssub
        (pe_callTy (MbS.cr_setL rfl) (by rfl) T.set (by decide +kernel) (pa_cons (pe_ix ix_list (pv 1) (pv 0) (fun _ _ => rfl)) pa_nil))
        (MbS.pe_sc2 (own := [("far", 2), ("near", 3)]) (vs1 := [2]) (g := gName 3) (g1 := gName 2) (wi1 := iList K (tOp (rIxL K) (tVar 1) (tVar 3))) (te := tVar 2) rfl scRightOver.nd (pi_list (pe_ix ix_list (pv 1) (pv 0) (fun _ _ => rfl))) (blkOk_by (N := nRightOver) (sc := defScope s_right_over) (by decide +kernel)) (by decide)
          (fun _ _ _ _ _ => pg_name (i := 3) scRightOver.nd rfl (Or.inl rfl)) (fun _ _ _ _ _ => pi_list (pe_ix ix_list (pv 1) (pv 3) (fun _ _ => rfl))) (fun _ _ _ _ _ => pg_name (i := 2) scRightOver.nd rfl (Or.inl rfl)) (fun _ _ _ _ _ => pv 2))) pa_nil))), ?_⟩
    obtain ⟨as, hl, hla, hrows⟩ := grid
    have row : ∀ {i : Nat} {oo : List Int}, ovs[i]? = some oo → ∃ b, atI (as.map V.ref) (i : Int) = some (.ref b) ∧ SqL K H b (oo.map V.int) := fun {i oo} e => by
      have hi : i < as.length := by rw [hla]; exact (List.getElem?_eq_some_iff.mp e).1
      have ha : as[i]? = some as[i] := List.getElem?_eq_getElem hi
      obtain ⟨os, h1, h2⟩ := hrows i _ ha
      rw [e] at h1
      cases h1
      exact ⟨as[i], atI_nat (by rw [List.getElem?_map, ha]; rfl), h2⟩
    obtain ⟨b, hb, hB⟩ := row ho
    have ok := okk o (List.mem_of_getElem? ho)
    refine ⟨_, rfl, _, rfl, l, _, _, _, rfl, rfl, hl, hb, b, o, rfl, hB, by omega, fun S1 n1 hn1 hS1 => ?_⟩
    have s1 : Same H (upd H S1 (SetO w S1 (fun j => decide (j ∈ o)) n1)) := Same.up (Same.refl H) hS1
    have S1at : (upd H S1 (SetO w S1 (fun j => decide (j ∈ o)) n1)) S1 = some (SetO w S1 (fun j => decide (j ∈ o)) n1) := upd_same
    show MbS.tSc2 w _ _ _ _ _ _ _ _ (upd H S1 (SetO w S1 (fun j => decide (j ∈ o)) n1)) _
    generalize upd H S1 (SetO w S1 (fun j => decide (j ∈ o)) n1) = H1 at s1 S1at
    refine ⟨_, rfl, _, rfl, l, _, _, _, rfl, rfl, s1.seq hl, hb, b, rfl, ⟨_, s1.seq hB⟩, fun D hD => ?_⟩
    have keepD : ∀ {H2 : Hp} {o : HO}, Same H1 H2 → Same H1 (upd H2 D o) := fun {H2 o} s u v e => by
      rw [upd_ne (ne_of_none e hD)]
      exact s u v e
    refine MbC.turns_by (walk_list (K := K) (a := b) (xs := o.map V.int)) (fun i H2 => ∃ (S : Int → Bool) (us : List Int), H2 D = some (SetO w D S us.length) ∧ Same H1 H2 ∧ us.length ≤ 60 * i ∧ (∀ j, S j = true ↔ j ∈ us) ∧ ∀ j, j ∈ us ↔ further ovs (o.take i) j = true)
      ⟨fun _ => false, [], upd_same, keepD (Same.refl H1), Nat.le_refl _, fun j => by simp, fun j => by simp [further]⟩ (fun i H2 _ ⟨_, _, _, s2, _⟩ => s2.seq (s1.seq hB)) ?_ ?_
    · rintro i x H2 H2' hi ⟨S, us, hD2, s2, few, mem, iff⟩ ⟨rfl, hx⟩
      obtain ⟨near, hn, rfl⟩ := int_at hx
      have okn := ok.2 near (List.mem_of_getElem? hn)
      obtain ⟨z, rfl⟩ := Int.eq_ofNat_of_zero_le okn.1
      have hz : z < ovs.length := by omega
      have ez : ovs[z]? = some ovs[z] := List.getElem?_eq_getElem hz
      obtain ⟨b2, hb2, hB2⟩ := row ez
      have ok2 := okk ovs[z] (List.mem_of_getElem? ez)
      have s12 := s1.trans s2
      have i60 : i < 60 := by
        have := (List.getElem?_eq_some_iff.mp hn).1
        omega
      refine ⟨rfl, _, rfl, _, rfl, l, _, _, _, rfl, rfl, s12.seq hl, hb2, b2, rfl, ⟨_, s12.seq hB2⟩, ?_⟩
      refine MbC.turns_by (walk_list (K := K) (a := b2) (xs := ovs[z].map V.int)) (fun i2 H3 => ∃ (S : Int → Bool) (us : List Int), H3 D = some (SetO w D S us.length) ∧ Same H1 H3 ∧ us.length ≤ 60 * i + i2 ∧ (∀ j, S j = true ↔ j ∈ us) ∧ ∀ j, j ∈ us ↔ (further ovs (o.take i) j = true ∨ j ∈ ovs[z].take i2))
        ⟨S, us, hD2, s2, few, mem, fun j => by rw [iff j]; simp⟩ (fun i2 H3 _ ⟨_, _, _, s3, _⟩ => (s1.trans s3).seq hB2) ?_ ?_
      · rintro i2 x H3 H3' hi2 ⟨S, us, hD3, s3, few, mem, iff⟩ ⟨rfl, hx⟩
        obtain ⟨c, hc, rfl⟩ := int_at hx
        have l2 : i2 < 60 := by
          have := (List.getElem?_eq_some_iff.mp hc).1
          omega
        refine ⟨rfl, _, rfl, c, S, us.length, rfl, hD3, by show us.length + 1 < 4096; omega, ?_⟩
        by_cases cs : S c = true
        · have cu := (mem c).mp cs
          refine ⟨_, us, by rw [if_pos cs]; exact upd_same, keepD s3, by omega, fun j => ?_, fun j => ?_⟩
          · rw [Bool.or_eq_true, decide_eq_true_eq, mem j]
            exact ⟨fun h => h.elim id fun e => by rw [e]; exact cu, .inl⟩
          · rw [List.take_add_one, hc, List.mem_append]
            constructor
            · intro h
              exact ((iff j).mp h).imp id .inl
            · rintro (h | h | h)
              · exact (iff j).mpr (.inl h)
              · exact (iff j).mpr (.inr h)
              · rw [show j = c from List.mem_singleton.mp h]; exact cu
        · refine ⟨_, us ++ [c], by rw [if_neg cs, List.length_append]; exact upd_same, keepD s3, by rw [List.length_append, List.length_singleton]; omega, fun j => ?_, fun j => ?_⟩
          · rw [Bool.or_eq_true, decide_eq_true_eq, mem j, List.mem_append, List.mem_singleton]
          · rw [List.take_add_one, hc, List.mem_append, List.mem_append, iff j, or_assoc]
            rfl
      · rintro H3 ⟨S, us, hD3, s3, few, mem, iff⟩
        rw [List.length_map] at few iff
        refine ⟨S, us, hD3, s3, by omega, mem, fun j => ?_⟩
        rw [iff j, List.take_length, List.take_add_one, hn]
        unfold further
        rw [List.any_append, Bool.or_eq_true]
        have e : ([((z : Nat) : Int)].any fun k => decide (j ∈ ovs.getD k.toNat [])) = decide (j ∈ ovs[z]) := by
          rw [List.any_cons, List.any_nil, Bool.or_false, Int.toNat_natCast, List.getD_eq_getElem?_getD, ez]
          rfl
        show _ ↔ _ ∨ ([((z : Nat) : Int)].any fun k => decide (j ∈ ovs.getD k.toNat [])) = true
        rw [e, decide_eq_true_eq]
    · rintro H2 ⟨S, us, hD2, s2, few, mem, iff⟩
      rw [List.length_map, List.take_length] at iff
      have q4 := quart us fun j hj => (iff j).mpr hj
      refine ⟨S1, D, _, S, n1, us.length, rfl, rfl, s2 _ _ S1at, hD2, by omega, fun R k hk hR => ?_⟩
      refine ⟨R, _, k, rfl, upd_same, by omega, fun ns p rise2 memb _ hp => ?_⟩
      have s3 := Same.up (o := SetO w R (fun i => decide (i ∈ o) && !S i) k) s2 hR
      have s4 := Same.up (o := .lst (ns.map V.int)) (s1.trans s3) hp
      have np : H p = none := (s1.trans s3).free hp
      have e : rightOf ovs o = ns := by
        refine rise_eq rise2 (rise.sublist List.filter_sublist) fun j => ?_
        unfold rightOf
        rw [List.mem_filter, memb j, Bool.and_eq_true, decide_eq_true_eq]
        have m1 := mem j
        have m2 := iff j
        refine and_congr Iff.rfl ?_
        cases c1 : S j <;> cases c2 : further ovs o j <;> simp_all
      exact kk _ p s4 np (by rw [upd_same, e])
end
end Mb

namespace Mb
open L2 PySem PySem.Spec PyProof.Rows
/-! ### pairs of numbers, laid one by one -/
structure TupsIn (H H' : Hp) (r : Addr) (ts : List Addr) (ps : List (Int × Int)) : Prop where
  len : ts.length = ps.length
  each : ∀ (i : Nat) (t : Addr), ts[i]? = some t → ∃ a b : Int, ps[i]? = some (a, b) ∧ H t = none ∧ t ≠ r ∧ H' t = some (.tup [.int a, .int b])
section
variable {H H1 H2 : Hp} {r : Addr} {ts : List Addr} {ps : List (Int × Int)}
theorem TupsIn.nil : TupsIn H H1 r [] [] := ⟨rfl, fun i t e => by simp at e⟩
theorem TupsIn.kp {Ts : List Addr} (p : TupsIn H H1 r ts ps) (k : Kp Ts H1 H2) : TupsIn H H2 r ts ps := ⟨p.len, fun i t e => by
  obtain ⟨a, b, h1, h2, h3, h4⟩ := p.each i t e
  exact ⟨a, b, h1, h2, h3, k.obj h4 (fun _ z => by cases z)⟩⟩
theorem TupsIn.put {o : HO} (p : TupsIn H H1 r ts ps) : TupsIn H (upd H1 r o) r ts ps := ⟨p.len, fun i t e => by
  obtain ⟨a, b, h1, h2, h3, h4⟩ := p.each i t e
  exact ⟨a, b, h1, h2, h3, by rw [upd_ne h3]; exact h4⟩⟩
theorem TupsIn.snoc {t : Addr} {a b : Int} (p : TupsIn H H1 r ts ps) (h2 : H t = none) (h3 : t ≠ r) (h4 : H1 t = some (.tup [.int a, .int b])) : TupsIn H H1 r (ts ++ [t]) (ps ++ [(a, b)]) := by
  refine ⟨by rw [List.length_append, List.length_append, p.len]; rfl, fun i u e => ?_⟩
  by_cases hi : i < ts.length
  · rw [List.getElem?_append_left hi] at e
    obtain ⟨c, d, g1, g⟩ := p.each i u e
    exact ⟨c, d, by rw [List.getElem?_append_left (by rw [← p.len]; exact hi)]; exact g1, g⟩
  · have hi2 : i = ts.length := by
      have := (List.getElem?_eq_some_iff.mp e).1
      rw [List.length_append, List.length_singleton] at this
      omega
    subst hi2
    rw [List.getElem?_append_right (Nat.le_refl _), Nat.sub_self] at e
    obtain rfl : t = u := by simpa using e
    refine ⟨a, b, ?_, h2, h3, h4⟩
    rw [p.len, List.getElem?_append_right (Nat.le_refl _), Nat.sub_self]
    rfl
end
/-! ### rows that stand off a list -/
structure RowsOff (H : Hp) (D : Addr) (os : List Addr) (nss : List (List Int)) : Prop where
  rows : RowsAt H os nss
  off : ∀ a ∈ os, a ≠ D
section
variable {H H1 : Hp} {D : Addr} {os : List Addr} {nss : List (List Int)}
theorem RowsOff.kp {Ts : List Addr} (r : RowsOff H D os nss) (k : Kp Ts H H1) : RowsOff H1 D os nss := ⟨r.rows.kp k, r.off⟩
theorem RowsOff.put {o : HO} (r : RowsOff H D os nss) : RowsOff (upd H D o) D os nss := ⟨⟨r.rows.1, fun i a e => by
  obtain ⟨ns, h1, h2⟩ := r.rows.2 i a e
  exact ⟨ns, h1, by rw [upd_ne (r.off a (List.mem_of_getElem? e))]; exact h2⟩⟩, r.off⟩
theorem RowsOff.snoc {a : Addr} {ns : List Int} (r : RowsOff H D os nss) (h : H a = some (.lst (ns.map V.int))) (n : a ≠ D) : RowsOff H D (os ++ [a]) (nss ++ [ns]) := ⟨r.rows.snoc h, fun b hb => by
  rcases (List.mem_append).1 hb with z | z
  · exact r.off b z
  · rw [List.mem_singleton.mp z]; exact n⟩
end
/-! ### steps(table) -/
def stepsTo (ovs : List (List Int)) : Nat → List (Int × Int)
  | 0 => []
  | i + 1 => stepsTo ovs i ++ (rightOf ovs (ovs.getD i [])).map fun h => ((i : Int), h)
/-- all steps, in their order -/
def stepsOf (n : Int) (mss : List (List Int)) : List (Int × Int) := stepsTo (ovsOf n mss) (ovsOf n mss).length
def spSteps (C : Addr) (Ts : List Addr) : Sp := fun vs H Q _ => ∃ (x : Addr) (n : Int) (mss : List (List Int)), vs = [.ref x] ∧ TabAv C H x n mss [] ∧ n ≤ 5 ∧ Tabs Ts H ∧
  ∀ (H' : Hp) (r : Addr) (ts : List Addr), Kp Ts H H' → H r = none → H' r = some (.lst (ts.map V.ref)) → TupsIn H H' r ts (stepsOf n mss) → Q (.ref r) H'
theorem few5 {m : Nat} (h : m < 6) : (setsOf m).length ≤ 32 := by
  have g : ((List.range 6).all fun m => decide ((setsOf m).length ≤ 32)) = true := by decide +kernel
  exact of_decide_eq_true (at_range g h)
theorem ovs_len (n : Int) (mss : List (List Int)) : (ovsOf n mss).length = (fullSets n mss).length := by
  unfold ovsOf boxesOf
  rw [List.length_map, List.length_map]
theorem ovs_few {n : Int} (h0 : 0 ≤ n) (h5 : n ≤ 5) (mss : List (List Int)) : (ovsOf n mss).length ≤ 32 := by
  rcases Int.eq_ofNat_of_zero_le h0 with ⟨m, rfl⟩
  rw [ovs_len]
  exact Nat.le_trans (List.length_filter_le _ _) (few5 (by omega))
theorem ovs_ok {n : Int} (h0 : 0 ≤ n) (h5 : n ≤ 5) (mss : List (List Int)) : ∀ oo ∈ ovsOf n mss, oo.length ≤ 60 ∧ ∀ j ∈ oo, 0 ≤ j ∧ j < (ovsOf n mss).length := fun oo hoo => by
  obtain ⟨k, hk, e⟩ := List.getElem_of_mem hoo
  obtain ⟨s, _, rise, mem⟩ := ovs_at (k := k) h0 (by rw [List.getElem?_eq_getElem hk, e])
  have val : ∀ j ∈ oo, 0 ≤ j ∧ j < (ovsOf n mss).length := fun j hj => by
    obtain ⟨i, t, rfl, ht, _⟩ := (mem j).mp hj
    have := (List.getElem?_eq_some_iff.mp ht).1
    rw [ovs_len]
    omega
  refine ⟨?_, val⟩
  have l := rise_short (n := (ovsOf n mss).length) (ms := oo) ⟨rise, val⟩
  have := ovs_few h0 h5 mss
  omega
theorem further_iff {n : Int} {mss : List (List Int)} {o : List Int} {j : Int} (h0 : 0 ≤ n) (ok : ∀ k ∈ o, 0 ≤ k) : further (ovsOf n mss) o j = true ↔ ∃ (i : Nat) (oo : List Int), (i : Int) ∈ o ∧ (ovsOf n mss)[i]? = some oo ∧ j ∈ oo := by
  unfold further
  rw [List.any_eq_true]
  constructor
  · rintro ⟨k, hk, e⟩
    obtain ⟨i, rfl⟩ := Int.eq_ofNat_of_zero_le (ok k hk)
    have e := of_decide_eq_true e
    rw [Int.toNat_natCast, List.getD_eq_getElem?_getD] at e
    cases q : (ovsOf n mss)[i]? with
    | none => simp [q] at e
    | some oo => rw [q] at e; exact ⟨i, oo, hk, q, e⟩
  · rintro ⟨i, oo, h1, h2, h3⟩
    exact ⟨i, h1, decide_eq_true (by rw [Int.toNat_natCast, List.getD_eq_getElem?_getD, h2]; exact h3)⟩
section
variable {P : Program} {w : World} {K : PySem.W.Frag} {mg : Str → Option Value} {base : Heap} {C CS CM CT : Addr}
abbrev nSteps : List Str := ["table", "listed", "overs", "box", "low", "high"]
theorem scSteps : FnScope nSteps ["table"] (defScope s_steps) := ⟨rfl, rfl, rfl, by decide +kernel, rfl, by decide +kernel, by decide +kernel⟩
theorem ok_steps {f fB fP fR : Addr} {fd fdB fdP fdR : FuncData} {Ts : List Addr} {kP : Nat} (h5 : 5 ≤ kP) (F : Fun K "steps" "steps" s_steps f fd) (T : Txt K mg CS CM) (T2 : Txt2 K mg CT)
    (GB : FnOk P w K mg base CX0 5 fB fdB ["table"] (spPairs C Ts boxesOf)) (gB : mg "boxes" = some (.ref fB)) (kB : PySem.W.keepIn K (.ref fB) = true) (bB : Binds K fdB ["table"] [])
    (GP : FnOk P w K mg base CX0 3 fP fdP ["box", "listed"] (spPlaces K Ts)) (gP : mg "places_over" = some (.ref fP)) (kP' : PySem.W.keepIn K (.ref fP) = true) (bP : Binds K fdP ["box", "listed"] [])
    (GR : FnOk P w K mg base CX0 1 fR fdR ["place", "overs"] (spRightOver K)) (gR : mg "right_over" = some (.ref fR)) (kR : PySem.W.keepIn K (.ref fR) = true) (bR : Binds K fdR ["place", "overs"] []) :
    FnOk P w K mg base CX0 (kP + 1) f fd ["table"] (spSteps C Ts) := by
  refine F.ok scSteps (fun vs H Q E h => ?_) (fun cdv A outer s H vs Q E hr h => ?_)
  · obtain ⟨x, n, mss, rfl, _⟩ := h
    rfl
  · obtain ⟨x, n, mss, rfl, tab, n5, tb, k⟩ := h
    have hr5 : Room 5 _ := hr.mono h5
    have hr3 : Room 3 _ := hr.mono (by omega)
    have hr1 : Room 1 _ := hr.mono (by omega)
    refine ⟨_, pss_cons (ps_set (i := 1) scSteps.nd rfl (by first | exact Or.inl rfl | exact Or.inr rfl) (pe_call GB hr5 (by rfl) gB kB bB .nil pass0 (pa_cons (pv 0) pa_nil)))
      (pss_cons (ps_set (i := 2) scSteps.nd rfl (Or.inr rfl) (pe_lc (own := [("box", 3)]) (g := gName 3) (tt := tYes) (te := tCall (spPlaces K Ts) [] E0 (tCons (tVar 3) (tCons (tVar 1) tNil))) rfl scSteps.nd (pi_list (pv 1)) (blkOk_by (N := nSteps) (sc := defScope s_steps) (by decide +kernel))
        (fun _ _ _ _ _ => pg_name (i := 3) scSteps.nd rfl (Or.inl rfl)) (fun _ _ _ _ _ => pts_nil) (fun _ _ _ _ _ => pe_call GP hr3 (by rfl) gP kP' bP .nil pass0 (pa_cons (pv 3) (pa_cons (pv 1) pa_nil)))))
      (pss_one (ps_ret (pe_lc2 (own := [("low", 4), ("high", 5)]) (vs1 := [5]) (g := gName 4) (g1 := gName 5) (tt := tYes) (tt1 := tYes) (wi1 := iList K (tCall (spRightOver K) [] E0 (tCons (tVar 4) (tCons (tVar 2) tNil)))) (te := tTup (tCons (tVar 4) (tCons (tVar 5) tNil))) rfl scSteps.nd
        (pi_range1 (by rfl) T2.range (pa_cons (pe_callB call_len_seq (by rfl) T.len PySem.boot_len (pa_cons (pv 1) pa_nil)) pa_nil)) (blkOk_by (N := nSteps) (sc := defScope s_steps) (by decide +kernel)) (by decide)
        (fun _ _ _ _ _ => pg_name (i := 4) scSteps.nd rfl (Or.inl rfl)) (fun _ _ _ _ _ => pts_nil)
        (fun _ _ _ _ _ => pi_list (pe_call GR hr1 (by rfl) gR kR bR .nil pass0 (pa_cons (pv 4) (pa_cons (pv 2) pa_nil)))) (fun _ _ _ _ _ => pg_name (i := 5) scSteps.nd rfl (Or.inl rfl)) (fun _ _ _ _ _ => pts_nil)
        (fun _ _ _ _ _ => pe_tup (pa_cons (pv 4) (pa_cons (pv 5) pa_nil))))))), ?_⟩
    have n0 := tab.lo
    refine ⟨_, rfl, x, n, mss, rfl, tab, tb, fun H1 l kp1 N => ?_⟩
    have PR : PairsR K H1 l (boxesOf n mss) := N.r
    obtain ⟨ts0, hl, hlen, hts⟩ := N.ob
    have small : (boxesOf n mss).length ≤ 32 := by
      have := ovs_few n0 n5 mss
      rw [show (ovsOf n mss).length = (boxesOf n mss).length from List.length_map _] at this
      exact this
    have ovl : (ovsOf n mss).length = (boxesOf n mss).length := List.length_map _
    refine ⟨_, rfl, l, rfl, ⟨_, SqL.of hl⟩, fun D hD => ?_⟩
    refine lc_list (K := K) (a := l) (xs := ts0.map V.ref) (fun i H2 => ∃ os : List Addr, H2 D = some (.lst (os.map V.ref)) ∧ Kp Ts H1 H2 ∧ RowsOff H2 D os ((ovsOf n mss).take i))
      ⟨[], upd_same, (Kp.refl kp1.t1).new hD, ⟨RowsAt.nil, fun a ha => by cases ha⟩⟩ (fun i H2 _ ⟨_, _, z, _⟩ => SqL.of (z.lst hl)) ?_ ?_
    · rintro i y H2 hy ⟨os, hD2, kp2, rows⟩
      obtain ⟨t, ht, rfl⟩ := ref_at hy
      obtain ⟨p, q, as, bs, e, _, hT, _, _, hp, _⟩ := hts i t ht
      have il := (List.getElem?_eq_some_iff.mp e).1
      refine ⟨rfl, _, rfl, _, rfl, t, p, q, l, as, _, rfl, SqT.of (kp2.obj hT fun _ z => by cases z), SqL.of (kp2.lst hp), PR.kp kp2, by omega, kp2.t1, fun H3 r kp3 nr hr3 => ?_⟩
      have D3 := kp3.lst hD2
      have ol : os.length ≤ 1000 := by
        rw [rows.rows.1, List.length_take]
        omega
      refine ⟨_, D3, by rw [List.length_map, sizeLine_eq]; omega, os ++ [r], by rw [upd_same, List.map_append]; rfl, (kp2.trans kp3).own hD (kp1.t1.outN hD), ?_⟩
      have eo : (ovsOf n mss)[i]? = some (placesOf as ((boxesOf n mss).map (·.1))) := by
        unfold ovsOf
        rw [List.getElem?_map, e]
        rfl
      rw [List.take_add_one, eo]
      exact ((rows.kp kp3).snoc hr3 fun z => by rw [z, hD2] at nr; cases nr).put
    · rintro H2 ⟨os, hD2, kp2, rows⟩
      have el : (ts0.map V.ref).length = (ovsOf n mss).length := by rw [List.length_map, hlen, ovl]
      rw [el, List.take_length] at rows
      have kp12 := kp1.trans kp2
      have grid : GridR K H2 D (ovsOf n mss) := GridR.of hD2 rows.rows
      refine ⟨_, rfl, l, _, rfl, .inl (SqL.of (kp2.lst hl)), _, rfl, by omega, by omega, fun R hR => ?_⟩
      rw [el]
      refine MbC.turns_by (walk_range (lo := 0) (n := _)) (fun i H4 => ∃ ts : List Addr, H4 R = some (.lst (ts.map V.ref)) ∧ Kp Ts H2 H4 ∧ TupsIn H H4 R ts (stepsTo (ovsOf n mss) i) ∧ ts.length ≤ 60 * i)
        ⟨[], upd_same, (Kp.refl kp2.t1).new hR, TupsIn.nil, Nat.le_refl _⟩ (fun _ _ _ _ => trivial) ?_ ?_
      · rintro i x H4 H4' hi ⟨ts, hR4, kp4, P4, l4⟩ ⟨rfl, rfl⟩
        have hi2 : i < (ovsOf n mss).length := by omega
        have eo : (ovsOf n mss)[i]? = some (ovsOf n mss)[i] := List.getElem?_eq_getElem hi2
        obtain ⟨s, hs, rise, mem⟩ := ovs_at n0 eo
        have ok := ovs_ok n0 n5 mss
        have okr := ok _ (List.mem_of_getElem? eo)
        have kp24 := kp12.trans kp4
        refine ⟨rfl, _, rfl, _, rfl, D, i, ovsOf n mss, (ovsOf n mss)[i], (by show [V.int (0 + (i : Int)), V.ref D] = _; rw [Int.zero_add]), grid.kp kp4, by omega, eo, rise, ok, fun us hu => ?_, fun H5 q s5 nq hq => ⟨q, rfl, ⟨_, SqL.of hq⟩, ?_⟩⟩
        · exact quarter n0 n5 eo fun j hj => hu j ((further_iff n0 fun k hk => (okr.2 k hk).1).mpr hj)
        have kp5 : Kp Ts H4' H5 := Kp.of_same kp4.t1 s5
        have lr : (rightOf (ovsOf n mss) (ovsOf n mss)[i]).length ≤ 60 := Nat.le_trans (List.length_filter_le _ _) okr.1
        refine MbC.turns_by (walk_list (K := K) (a := q) (xs := (rightOf (ovsOf n mss) (ovsOf n mss)[i]).map V.int)) (fun j H6 => ∃ ts : List Addr, H6 R = some (.lst (ts.map V.ref)) ∧ Kp Ts H2 H6 ∧ H6 q = some (.lst ((rightOf (ovsOf n mss) (ovsOf n mss)[i]).map V.int)) ∧ TupsIn H H6 R ts (stepsTo (ovsOf n mss) i ++ ((rightOf (ovsOf n mss) (ovsOf n mss)[i]).take j).map fun h => ((i : Int), h)) ∧ ts.length ≤ 60 * i + j)
          ⟨ts, kp5.lst hR4, kp4.trans kp5, hq, by rw [List.take_zero, List.map_nil, List.append_nil]; exact P4.kp kp5, l4⟩ (fun j H6 _ ⟨_, _, _, z, _⟩ => SqL.of z) ?_ ?_
        · rintro j x H6 H6' hj ⟨ts, hR6, kp6, hq6, P6, l6⟩ ⟨rfl, hx⟩
          obtain ⟨c, hc, rfl⟩ := int_at hx
          have j60 : j < 60 := by
            have := (List.getElem?_eq_some_iff.mp hc).1
            omega
          refine ⟨rfl, _, rfl, _, rfl, (by show 2 ≤ sizeLine; decide), fun t ht => ?_⟩
          have tR : t ≠ R := fun z => by rw [z, hR6] at ht; cases ht
          have qR : q ≠ R := fun z => by rw [z, hR4] at nq; cases nq
          have kp7 : Kp Ts H6' (upd H6' t (.tup [.int (0 + (i : Int)), .int c])) := (Kp.refl kp6.t1).new ht
          have R7 := kp7.lst hR6
          refine ⟨_, R7, by rw [List.length_map, sizeLine_eq]; omega, ts ++ [t], by rw [upd_same, List.map_append]; rfl, (kp6.trans kp7).own hR (kp2.t1.outN hR), ?_, ?_, ?_⟩
          · rw [upd_ne qR]; exact kp7.lst hq6
          · rw [List.take_add_one, hc, List.map_append, ← List.append_assoc]
            exact ((P6.kp kp7).snoc ((kp12.trans kp6).free ht) tR (by rw [upd_same, Int.zero_add])).put
          · simp only [List.length_append, List.length_singleton]; omega
        · rintro H6 ⟨ts, hR6, kp6, hq6, P6, l6⟩
          rw [List.length_map] at P6 l6
          rw [List.take_length] at P6
          refine ⟨ts, hR6, kp6, ?_, by omega⟩
          have es : stepsTo (ovsOf n mss) (i + 1) = stepsTo (ovsOf n mss) i ++ (rightOf (ovsOf n mss) (ovsOf n mss)[i]).map fun h => ((i : Int), h) := by
            rw [stepsTo, List.getD_eq_getElem?_getD, eo]
            rfl
          rw [es]
          exact P6
      · rintro H4 ⟨ts, hR4, kp4, P4, _⟩
        have e : ((((ovsOf n mss).length : Nat) : Int)).toNat = (ovsOf n mss).length := Int.toNat_natCast _
        rw [e] at P4
        exact k H4 R ts (kp12.trans kp4) (kp12.free hR) hR4 P4
theorem steps_list {f : Addr} {fd : FuncData} {Ts : List Addr} {k : Nat} (F : FnOk P w K mg base CX0 k f fd ["table"] (spSteps C Ts)) : FnOk P w K mg base CX0 k f fd ["table"] (spList C Ts) :=
  F.imp fun _ _ _ _ ⟨x, n, mss, e, tab, n5, tb, kk⟩ => ⟨x, n, mss, e, tab, n5, tb, fun H' r ts kp nr h _ => kk H' r _ kp nr h⟩
end
end Mb

namespace Mb
open L2 PySem PySem.Spec PyProof.Rows
theorem tri_nil : TriplesOk (#[] : Array Value).toList := by
  trivial
theorem kit_val {K : PySem.W.Frag} {D : Addr} (h : PySem.W.subIn K (.ref D) (.type "ValueError") = some true) : PySem.W.kitOne K (.ref D) (.type "ValueError") = some true := by
  have n : (Value.ref D == Value.type "ValueError") = false := by simp
  have m : PySem.W.kitMeta "ValueError" = true := by decide +kernel
  unfold PySem.W.kitOne
  rw [n, if_neg Bool.false_ne_true]
  show (if PySem.W.kitMeta "ValueError" = true then PySem.W.subIn K (.ref D) (.type "ValueError") else none) = some true
  rw [if_pos m, h]
theorem kit_other {K : PySem.W.Frag} {D E : Addr} (h1 : PySem.W.subIn K (.ref D) (.ref D) = some true) (h2 : PySem.W.subIn K (.ref D) (.ref E) = some false) (hd : PySem.W.hasDictIn K E = true) (ht : PySem.W.typeIn K (.ref E) = some (.type "type")) : PySem.W.kitOne K (.ref D) (.ref E) = some false := by
  have ne : D ≠ E := fun e => by
    rw [← e, h1] at h2
    cases h2
  have n : (Value.ref D == Value.ref E) = false := by simpa using ne
  obtain ⟨cd, hc, _⟩ := PySem.W.any_some hd
  have q : ((PySem.W.clsIn K E).isSome && PySem.W.typeIn K (.ref E) == some (.type "type")) = true := by rw [hc, ht] <;> rfl
  unfold PySem.W.kitOne
  rw [n, if_neg Bool.false_ne_true]
  show (if ((PySem.W.clsIn K E).isSome && PySem.W.typeIn K (.ref E) == some (.type "type")) = true then PySem.W.subIn K (.ref D) (.ref E) else none) = some false
  rw [if_pos q, h2]
theorem tab_at {K : PySem.W.Frag} {x : Str} {f t P : Addr} {oc : Value} {od oz : Option Addr} {fd : FuncData} {sl sz : Array (Option Value)} {ou : Value} {vs : Array Value} (a : PySem.W.nsIn K mainGlobals x = some (some (.ref f))) (l : K.lookup f = some ⟨oc, od, .func fd, sl⟩) (u : K.lookup t = some ⟨ou, oz, .fields vs, sz⟩) (v : vs[11]? = some (.ref P)) (e : fd.code = .ref t := by rfl) : PySem.W.tabIn K x = some (t, P) := by
  unfold PySem.W.tabIn
  rw [a]
  dsimp only
  rw [l]
  dsimp only
  rw [e]
  dsimp only
  rw [u]
  dsimp only
  rw [v]
theorem all_mk {l : PySem.W.OpenLaw} {w : World} {K : PySem.W.Frag} {h : Heap} {q : Program} {mg : Str → Option Value} {fa C CS CM CT f1 f2 f3 f4 f5 f6 f7 f8 f9 f10 f11 f12 f13 f14 f15 f16 f17 f18 f19 f42 f43 f21 f20 f22 f23 f24 f25 f26 f28 f29 f30 f40 f41 t2 t7 t8 t43 P2 P7 P8 P43 : Addr} {t8_ t12_ : Tok}
    {od1 od2 od3 od4 od5 od6 od7 od8 od9 od10 od11 od12 od13 od14 od15 od16 od17 od18 od19 od42 od43 od21 od20 od22 od23 od24 od25 od26 od28 od29 od30 od40 od41 an1 an2 an3 an4 an5 an6 an7 an8 an9 an10 an11 an12 an13 an14 an15 an16 an17 an18 an19 an42 an43 an21 an20 an22 an23 an24 an25 an26 an28 an29 an30 an40 an41 oz2 oz7 oz8 oz43 : Option Addr} {sl1 sl2 sl3 sl4 sl5 sl6 sl7 sl8 sl9 sl10 sl11 sl12 sl13 sl14 sl15 sl16 sl17 sl18 sl19 sl42 sl43 sl21 sl20 sl22 sl23 sl24 sl25 sl26 sl28 sl29 sl30 sl40 sl41 sz2 sz7 sz8 sz43 : Array (Option Value)} {vs2 vs7 vs8 vs43 : Array Value}
    {oc1 oc2 oc3 oc4 oc5 oc6 oc7 oc8 oc9 oc10 oc11 oc12 oc13 oc14 oc15 oc16 oc17 oc18 oc19 oc42 oc43 oc21 oc20 oc22 oc23 oc24 oc25 oc26 oc28 oc29 oc30 oc40 oc41 kV1 kV2 kV3 kV4 kV5 kV6 kV7 kV8 kV9 kV10 kV11 kV12 kV13 kV14 kV15 kV16 kV17 kV18 kV19 kV42 kV43 kV21 kV20 kV22 kV23 kV24 kV25 kV26 kV28 kV29 kV30 kV40 kV41 dc1 dc2 dc3 dc4 dc5 dc6 dc7 dc8 dc9 dc10 dc11 dc12 dc13 dc14 dc15 dc16 dc17 dc18 dc19 dc42 dc43 dc21 dc20 dc22 dc23 dc24 dc25 dc26 dc28 dc29 dc30 dc40 dc41 pm1 pm2 pm3 pm4 pm5 pm6 pm7 pm8 pm9 pm10 pm11 pm12 pm13 pm14 pm15 pm16 pm17 pm18 pm19 pm42 pm43 pm21 pm20 pm22 pm23 pm24 pm25 pm26 pm28 pm29 pm30 pm40 pm41 ct1 ct2 ct3 ct4 ct5 ct6 ct7 ct8 ct9 ct10 ct11 ct12 ct13 ct14 ct15 ct16 ct17 ct18 ct19 ct42 ct43 ct21 ct20 ct22 ct23 ct24 ct25 ct26 ct28 ct29 ct30 ct40 ct41 ou2 ou7 ou8 ou43 cd1 cd3 cd4 cd5 cd6 cd9 cd10 cd11 cd12 cd13 cd14 cd15 cd16 cd17 cd18 cd19 cd42 cd21 cd20 cd22 cd23 cd24 cd25 cd26 cd28 cd29 cd30 cd40 cd41 : Value}
    (X : K.In h) (G : h.Ns mainGlobals mg) (hfa : mg "law" = some (.ref fa)) (tabs : TabsOf K q h) (hq2 : ((recsOf q).find? fun e => e.name == ("all_below" : Str)).isSome = true) (hq7 : ((recsOf q).find? fun e => e.name == ("has_all" : Str)).isSome = true) (hq8 : ((recsOf q).find? fun e => e.name == ("on_all" : Str)).isSome = true) (hq43 : ((recsOf q).find? fun e => e.name == ("fewest" : Str)).isSome = true)
    (aC : PySem.W.nsIn K mainGlobals "Table" = some (some (.ref C)))
    (aCS : PySem.W.nsIn K mainGlobals "BadSize" = some (some (.ref CS)))
    (aCM : PySem.W.nsIn K mainGlobals "BadMark" = some (some (.ref CM)))
    (aCT : PySem.W.nsIn K mainGlobals "BadThing" = some (some (.ref CT)))
    (mCO : PySem.W.nsIn K mainGlobals "combinations" = some (some (.type "itertools.combinations")))
    (m8 : PySem.W.nsIn K mainGlobals "MOST_MARKS" = some (some (.int 8 t8_)))
    (m12 : PySem.W.nsIn K mainGlobals "MOST_THINGS" = some (some (.int 12 t12_)))
    (z_sorted : PySem.W.nsIn K mainGlobals "sorted" = some none)
    (z_set : PySem.W.nsIn K mainGlobals "set" = some none)
    (z_all : PySem.W.nsIn K mainGlobals "all" = some none)
    (z_len : PySem.W.nsIn K mainGlobals "len" = some none)
    (z_isinstance : PySem.W.nsIn K mainGlobals "isinstance" = some none)
    (z_int : PySem.W.nsIn K mainGlobals "int" = some none)
    (z_bool : PySem.W.nsIn K mainGlobals "bool" = some none)
    (z_list : PySem.W.nsIn K mainGlobals "list" = some none)
    (z_range : PySem.W.nsIn K mainGlobals "range" = some none)
    (z_max : PySem.W.nsIn K mainGlobals "max" = some none)
    (z_sum : PySem.W.nsIn K mainGlobals "sum" = some none)
    (z_enumerate : PySem.W.nsIn K mainGlobals "enumerate" = some none)
    (z_tuple : PySem.W.nsIn K mainGlobals "tuple" = some none)
    (a1 : PySem.W.nsIn K mainGlobals "told" = some (some (.ref f1)))
    (l1 : K.lookup f1 = some ⟨oc1, od1, .func (PySem.W.fnOf "told" "told" (defArgs sTold) (defBody sTold) (defScope sTold) .none kV1 dc1 pm1 an1 cd1 ct1), sl1⟩)
    (c1 : PySem.W.codeIn K cd1 "told" = true)
    (k1 : PySem.W.keepIn K (.ref f1) = true)
    (a2 : PySem.W.nsIn K mainGlobals "all_below" = some (some (.ref f2)))
    (l2 : K.lookup f2 = some ⟨oc2, od2, .func (PySem.W.fnOf "all_below" "all_below" (defArgs sBelow) (defBody sBelow) (defScope sBelow) .none kV2 dc2 pm2 an2 (.ref t2) ct2), sl2⟩)
    (c2 : PySem.W.codeIn K (.ref t2) "all_below" = true)
    (k2 : PySem.W.keepIn K (.ref f2) = true)
    (u2 : K.lookup t2 = some ⟨ou2, oz2, .fields vs2, sz2⟩)
    (v2 : vs2[11]? = some (.ref P2))
    (n2 : K.lookup P2 = none)
    (a3 : PySem.W.nsIn K mainGlobals "check_sizes" = some (some (.ref f3)))
    (l3 : K.lookup f3 = some ⟨oc3, od3, .func (PySem.W.fnOf "check_sizes" "check_sizes" (defArgs sSizes) (defBody sSizes) (defScope sSizes) .none kV3 dc3 pm3 an3 cd3 ct3), sl3⟩)
    (c3 : PySem.W.codeIn K cd3 "check_sizes" = true)
    (k3 : PySem.W.keepIn K (.ref f3) = true)
    (a4 : PySem.W.nsIn K mainGlobals "check_marks" = some (some (.ref f4)))
    (l4 : K.lookup f4 = some ⟨oc4, od4, .func (PySem.W.fnOf "check_marks" "check_marks" (defArgs sMarks) (defBody sMarks) (defScope sMarks) .none kV4 dc4 pm4 an4 cd4 ct4), sl4⟩)
    (c4 : PySem.W.codeIn K cd4 "check_marks" = true)
    (k4 : PySem.W.keepIn K (.ref f4) = true)
    (a5 : PySem.W.findIn K (.ref C) "__init__" = some (some (.ref f5)))
    (i5 : PySem.W.isFn K (.ref f5) = true)
    (l5 : K.lookup f5 = some ⟨oc5, od5, .func (PySem.W.fnOf "__init__" "Table.__init__" (defArgs sInit) (defBody sInit) (defScope sInit) .none kV5 dc5 pm5 an5 cd5 ct5), sl5⟩)
    (c5 : PySem.W.codeIn K cd5 "Table.__init__" = true)
    (k5 : PySem.W.keepIn K (.ref f5) = true)
    (a6 : PySem.W.nsIn K mainGlobals "check_things" = some (some (.ref f6)))
    (l6 : K.lookup f6 = some ⟨oc6, od6, .func (PySem.W.fnOf "check_things" "check_things" (defArgs sThings) (defBody sThings) (defScope sThings) .none kV6 dc6 pm6 an6 cd6 ct6), sl6⟩)
    (c6 : PySem.W.codeIn K cd6 "check_things" = true)
    (k6 : PySem.W.keepIn K (.ref f6) = true)
    (a7 : PySem.W.nsIn K mainGlobals "has_all" = some (some (.ref f7)))
    (l7 : K.lookup f7 = some ⟨oc7, od7, .func (PySem.W.fnOf "has_all" "has_all" (defArgs sHasAll) (defBody sHasAll) (defScope sHasAll) .none kV7 dc7 pm7 an7 (.ref t7) ct7), sl7⟩)
    (c7 : PySem.W.codeIn K (.ref t7) "has_all" = true)
    (k7 : PySem.W.keepIn K (.ref f7) = true)
    (u7 : K.lookup t7 = some ⟨ou7, oz7, .fields vs7, sz7⟩)
    (v7 : vs7[11]? = some (.ref P7))
    (n7 : K.lookup P7 = none)
    (a8 : PySem.W.nsIn K mainGlobals "on_all" = some (some (.ref f8)))
    (l8 : K.lookup f8 = some ⟨oc8, od8, .func (PySem.W.fnOf "on_all" "on_all" (defArgs sOnAll) (defBody sOnAll) (defScope sOnAll) .none kV8 dc8 pm8 an8 (.ref t8) ct8), sl8⟩)
    (c8 : PySem.W.codeIn K (.ref t8) "on_all" = true)
    (k8 : PySem.W.keepIn K (.ref f8) = true)
    (u8 : K.lookup t8 = some ⟨ou8, oz8, .fields vs8, sz8⟩)
    (v8 : vs8[11]? = some (.ref P8))
    (n8 : K.lookup P8 = none)
    (a9 : PySem.W.findIn K (.ref C) "things_with" = some (some (.ref f9)))
    (i9 : PySem.W.isFn K (.ref f9) = true)
    (l9 : K.lookup f9 = some ⟨oc9, od9, .func (PySem.W.fnOf "things_with" "Table.things_with" (defArgs sWith) (defBody sWith) (defScope sWith) .none kV9 dc9 pm9 an9 cd9 ct9), sl9⟩)
    (c9 : PySem.W.codeIn K cd9 "Table.things_with" = true)
    (k9 : PySem.W.keepIn K (.ref f9) = true)
    (a10 : PySem.W.findIn K (.ref C) "marks_of" = some (some (.ref f10)))
    (i10 : PySem.W.isFn K (.ref f10) = true)
    (l10 : K.lookup f10 = some ⟨oc10, od10, .func (PySem.W.fnOf "marks_of" "Table.marks_of" (defArgs sOf) (defBody sOf) (defScope sOf) .none kV10 dc10 pm10 an10 cd10 ct10), sl10⟩)
    (c10 : PySem.W.codeIn K cd10 "Table.marks_of" = true)
    (k10 : PySem.W.keepIn K (.ref f10) = true)
    (a11 : PySem.W.findIn K (.ref C) "closed" = some (some (.ref f11)))
    (i11 : PySem.W.isFn K (.ref f11) = true)
    (l11 : K.lookup f11 = some ⟨oc11, od11, .func (PySem.W.fnOf "closed" "Table.closed" (defArgs sClosed) (defBody sClosed) (defScope sClosed) .none kV11 dc11 pm11 an11 cd11 ct11), sl11⟩)
    (c11 : PySem.W.codeIn K cd11 "Table.closed" = true)
    (k11 : PySem.W.keepIn K (.ref f11) = true)
    (a12 : PySem.W.nsIn K mainGlobals "without" = some (some (.ref f12)))
    (l12 : K.lookup f12 = some ⟨oc12, od12, .func (PySem.W.fnOf "without" "without" (defArgs s_without) (defBody s_without) (defScope s_without) .none kV12 dc12 pm12 an12 cd12 ct12), sl12⟩)
    (c12 : PySem.W.codeIn K cd12 "without" = true)
    (k12 : PySem.W.keepIn K (.ref f12) = true)
    (a13 : PySem.W.nsIn K mainGlobals "all_sets" = some (some (.ref f13)))
    (l13 : K.lookup f13 = some ⟨oc13, od13, .func (PySem.W.fnOf "all_sets" "all_sets" (defArgs s_all_sets) (defBody s_all_sets) (defScope s_all_sets) .none kV13 dc13 pm13 an13 cd13 ct13), sl13⟩)
    (c13 : PySem.W.codeIn K cd13 "all_sets" = true)
    (k13 : PySem.W.keepIn K (.ref f13) = true)
    (a14 : PySem.W.nsIn K mainGlobals "box_with" = some (some (.ref f14)))
    (l14 : K.lookup f14 = some ⟨oc14, od14, .func (PySem.W.fnOf "box_with" "box_with" (defArgs s_box_with) (defBody s_box_with) (defScope s_box_with) .none kV14 dc14 pm14 an14 cd14 ct14), sl14⟩)
    (c14 : PySem.W.codeIn K cd14 "box_with" = true)
    (k14 : PySem.W.keepIn K (.ref f14) = true)
    (a15 : PySem.W.nsIn K mainGlobals "boxes" = some (some (.ref f15)))
    (l15 : K.lookup f15 = some ⟨oc15, od15, .func (PySem.W.fnOf "boxes" "boxes" (defArgs s_boxes) (defBody s_boxes) (defScope s_boxes) .none kV15 dc15 pm15 an15 cd15 ct15), sl15⟩)
    (c15 : PySem.W.codeIn K cd15 "boxes" = true)
    (k15 : PySem.W.keepIn K (.ref f15) = true)
    (a16 : PySem.W.nsIn K mainGlobals "lies_under" = some (some (.ref f16)))
    (l16 : K.lookup f16 = some ⟨oc16, od16, .func (PySem.W.fnOf "lies_under" "lies_under" (defArgs s_lies_under) (defBody s_lies_under) (defScope s_lies_under) .none kV16 dc16 pm16 an16 cd16 ct16), sl16⟩)
    (c16 : PySem.W.codeIn K cd16 "lies_under" = true)
    (k16 : PySem.W.keepIn K (.ref f16) = true)
    (a17 : PySem.W.nsIn K mainGlobals "places_over" = some (some (.ref f17)))
    (l17 : K.lookup f17 = some ⟨oc17, od17, .func (PySem.W.fnOf "places_over" "places_over" (defArgs s_places_over) (defBody s_places_over) (defScope s_places_over) .none kV17 dc17 pm17 an17 cd17 ct17), sl17⟩)
    (c17 : PySem.W.codeIn K cd17 "places_over" = true)
    (k17 : PySem.W.keepIn K (.ref f17) = true)
    (a18 : PySem.W.nsIn K mainGlobals "right_over" = some (some (.ref f18)))
    (l18 : K.lookup f18 = some ⟨oc18, od18, .func (PySem.W.fnOf "right_over" "right_over" (defArgs s_right_over) (defBody s_right_over) (defScope s_right_over) .none kV18 dc18 pm18 an18 cd18 ct18), sl18⟩)
    (c18 : PySem.W.codeIn K cd18 "right_over" = true)
    (k18 : PySem.W.keepIn K (.ref f18) = true)
    (a19 : PySem.W.nsIn K mainGlobals "steps" = some (some (.ref f19)))
    (l19 : K.lookup f19 = some ⟨oc19, od19, .func (PySem.W.fnOf "steps" "steps" (defArgs s_steps) (defBody s_steps) (defScope s_steps) .none kV19 dc19 pm19 an19 cd19 ct19), sl19⟩)
    (c19 : PySem.W.codeIn K cd19 "steps" = true)
    (k19 : PySem.W.keepIn K (.ref f19) = true)
    (a42 : PySem.W.nsIn K mainGlobals "met" = some (some (.ref f42)))
    (l42 : K.lookup f42 = some ⟨oc42, od42, .func (PySem.W.fnOf "met" "met" (defArgs s_met) (defBody s_met) (defScope s_met) .none kV42 dc42 pm42 an42 cd42 ct42), sl42⟩)
    (c42 : PySem.W.codeIn K cd42 "met" = true)
    (k42 : PySem.W.keepIn K (.ref f42) = true)
    (a43 : PySem.W.nsIn K mainGlobals "fewest" = some (some (.ref f43)))
    (l43 : K.lookup f43 = some ⟨oc43, od43, .func (PySem.W.fnOf "fewest" "fewest" (defArgs s_fewest) (defBody s_fewest) (defScope s_fewest) .none kV43 dc43 pm43 an43 (.ref t43) ct43), sl43⟩)
    (c43 : PySem.W.codeIn K (.ref t43) "fewest" = true)
    (k43 : PySem.W.keepIn K (.ref f43) = true)
    (u43 : K.lookup t43 = some ⟨ou43, oz43, .fields vs43, sz43⟩)
    (v43 : vs43[11]? = some (.ref P43))
    (n43 : K.lookup P43 = none)
    (a21 : PySem.W.nsIn K mainGlobals "_law_cell_at" = some (some (.ref f21)))
    (l21 : K.lookup f21 = some ⟨oc21, od21, .func (PySem.W.fnOf "_law_cell_at" "_law_cell_at" (defArgs sCell) (defBody sCell) (defScope sCell) .none kV21 dc21 pm21 an21 cd21 ct21), sl21⟩)
    (c21 : PySem.W.codeIn K cd21 "_law_cell_at" = true)
    (k21 : PySem.W.keepIn K (.ref f21) = true)
    (a20 : PySem.W.nsIn K mainGlobals "_law_whole" = some (some (.ref f20)))
    (l20 : K.lookup f20 = some ⟨oc20, od20, .func (PySem.W.fnOf "_law_whole" "_law_whole" (defArgs sWhole) (defBody sWhole) (defScope sWhole) .none kV20 dc20 pm20 an20 cd20 ct20), sl20⟩)
    (c20 : PySem.W.codeIn K cd20 "_law_whole" = true)
    (k20 : PySem.W.keepIn K (.ref f20) = true)
    (a22 : PySem.W.nsIn K mainGlobals "_law_mix" = some (some (.ref f22)))
    (l22 : K.lookup f22 = some ⟨oc22, od22, .func (PySem.W.fnOf "_law_mix" "_law_mix" (defArgs s_law_mix) (defBody s_law_mix) (defScope s_law_mix) .none kV22 dc22 pm22 an22 cd22 ct22), sl22⟩)
    (c22 : PySem.W.codeIn K cd22 "_law_mix" = true)
    (k22 : PySem.W.keepIn K (.ref f22) = true)
    (a23 : PySem.W.nsIn K mainGlobals "_law_on" = some (some (.ref f23)))
    (l23 : K.lookup f23 = some ⟨oc23, od23, .func (PySem.W.fnOf "_law_on" "_law_on" (defArgs s_law_on) (defBody s_law_on) (defScope s_law_on) .none kV23 dc23 pm23 an23 cd23 ct23), sl23⟩)
    (c23 : PySem.W.codeIn K cd23 "_law_on" = true)
    (k23 : PySem.W.keepIn K (.ref f23) = true)
    (a24 : PySem.W.nsIn K mainGlobals "_law_table_by" = some (some (.ref f24)))
    (l24 : K.lookup f24 = some ⟨oc24, od24, .func (PySem.W.fnOf "_law_table_by" "_law_table_by" (defArgs s_law_table_by) (defBody s_law_table_by) (defScope s_law_table_by) .none kV24 dc24 pm24 an24 cd24 ct24), sl24⟩)
    (c24 : PySem.W.codeIn K cd24 "_law_table_by" = true)
    (k24 : PySem.W.keepIn K (.ref f24) = true)
    (a25 : PySem.W.nsIn K mainGlobals "_law_sets" = some (some (.ref f25)))
    (l25 : K.lookup f25 = some ⟨oc25, od25, .func (PySem.W.fnOf "_law_sets" "_law_sets" (defArgs s_law_sets) (defBody s_law_sets) (defScope s_law_sets) .none kV25 dc25 pm25 an25 cd25 ct25), sl25⟩)
    (c25 : PySem.W.codeIn K cd25 "_law_sets" = true)
    (k25 : PySem.W.keepIn K (.ref f25) = true)
    (a26 : PySem.W.nsIn K mainGlobals "_law_closure" = some (some (.ref f26)))
    (l26 : K.lookup f26 = some ⟨oc26, od26, .func (PySem.W.fnOf "_law_closure" "_law_closure" (defArgs s_law_closure) (defBody s_law_closure) (defScope s_law_closure) .none kV26 dc26 pm26 an26 cd26 ct26), sl26⟩)
    (c26 : PySem.W.codeIn K cd26 "_law_closure" = true)
    (k26 : PySem.W.keepIn K (.ref f26) = true)
    (a28 : PySem.W.nsIn K mainGlobals "_law_lacks" = some (some (.ref f28)))
    (l28 : K.lookup f28 = some ⟨oc28, od28, .func (PySem.W.fnOf "_law_lacks" "_law_lacks" (defArgs s_law_lacks) (defBody s_law_lacks) (defScope s_law_lacks) .none kV28 dc28 pm28 an28 cd28 ct28), sl28⟩)
    (c28 : PySem.W.codeIn K cd28 "_law_lacks" = true)
    (k28 : PySem.W.keepIn K (.ref f28) = true)
    (a29 : PySem.W.nsIn K mainGlobals "_law_rules" = some (some (.ref f29)))
    (l29 : K.lookup f29 = some ⟨oc29, od29, .func (PySem.W.fnOf "_law_rules" "_law_rules" (defArgs s_law_rules) (defBody s_law_rules) (defScope s_law_rules) .none kV29 dc29 pm29 an29 cd29 ct29), sl29⟩)
    (c29 : PySem.W.codeIn K cd29 "_law_rules" = true)
    (k29 : PySem.W.keepIn K (.ref f29) = true)
    (a30 : PySem.W.nsIn K mainGlobals "_law_same" = some (some (.ref f30)))
    (l30 : K.lookup f30 = some ⟨oc30, od30, .func (PySem.W.fnOf "_law_same" "_law_same" (defArgs s_law_same) (defBody s_law_same) (defScope s_law_same) .none kV30 dc30 pm30 an30 cd30 ct30), sl30⟩)
    (c30 : PySem.W.codeIn K cd30 "_law_same" = true)
    (k30 : PySem.W.keepIn K (.ref f30) = true)
    (a40 : PySem.W.nsIn K mainGlobals "_law_ahead" = some (some (.ref f40)))
    (l40 : K.lookup f40 = some ⟨oc40, od40, .func (PySem.W.fnOf "_law_ahead" "_law_ahead" (defArgs s_law_ahead) (defBody s_law_ahead) (defScope s_law_ahead) .none kV40 dc40 pm40 an40 cd40 ct40), sl40⟩)
    (c40 : PySem.W.codeIn K cd40 "_law_ahead" = true)
    (k40 : PySem.W.keepIn K (.ref f40) = true)
    (a41 : PySem.W.nsIn K mainGlobals "law" = some (some (.ref f41)))
    (l41 : K.lookup f41 = some ⟨oc41, od41, .func (PySem.W.fnOf "law" "law" (defArgs sLaw) (defBody sLaw) (defScope sLaw) .none kV41 dc41 pm41 an41 cd41 ct41), sl41⟩)
    (c41 : PySem.W.codeIn K cd41 "law" = true)
    (k41 : PySem.W.keepIn K (.ref f41) = true)
    (xCS : PySem.W.excIn K CS [.type "ValueError", .type "Exception", .type "BaseException", .type "object"] "ValueError.__new__" = true)
    (xCM : PySem.W.excIn K CM [.type "ValueError", .type "Exception", .type "BaseException", .type "object"] "ValueError.__new__" = true)
    (xCT : PySem.W.excIn K CT [.type "ValueError", .type "Exception", .type "BaseException", .type "object"] "ValueError.__new__" = true)
    (pCS : PySem.W.keepIn K (.ref CS) = true)
    (pCM : PySem.W.keepIn K (.ref CM) = true)
    (pCT : PySem.W.keepIn K (.ref CT) = true)
    (bCS : PySem.W.subIn K (.ref CS) (.type "BaseException") = some true)
    (tCS : PySem.W.typeIn K (.ref CS) = some (.type "type"))
    (dCS : PySem.W.hasDictIn K CS = true)
    (bCM : PySem.W.subIn K (.ref CM) (.type "BaseException") = some true)
    (tCM : PySem.W.typeIn K (.ref CM) = some (.type "type"))
    (dCM : PySem.W.hasDictIn K CM = true)
    (bCT : PySem.W.subIn K (.ref CT) (.type "BaseException") = some true)
    (tCT : PySem.W.typeIn K (.ref CT) = some (.type "type"))
    (dCT : PySem.W.hasDictIn K CT = true)
    (pg : PySem.W.plainGet K C Str.empty = true)
    (hd : PySem.W.hasDictIn K C = true)
    (po : PySem.W.plainOver K C = true)
    (sa : PySem.W.findIn K (.ref C) "__setattr__" = some (some (.builtin "object.__setattr__")))
    (mk : PySem.W.makesIn K C = true)
    (kc : PySem.W.keepIn K (.ref C) = true)
    (nM : PySem.W.findIn K (.ref C) "many" = some none)
    (nR : PySem.W.findIn K (.ref C) "rows" = some none) : LamX.LawAtS l w K CX0 11 63 "_law_script" mg fa h := by
  have e := hfa.symm.trans (PySem.W.mg_of X G a41)
  cases e
  have g : ∀ {x : Str} {v : Value}, PySem.W.nsIn K mainGlobals x = some (some v) → mg x = some v := fun h => PySem.W.mg_of X G h
  have z : ∀ {x : Str}, PySem.W.nsIn K mainGlobals x = some none → mg x = none := fun h => PySem.W.mg_none_of X G h
  have cl : Cls K C := ⟨pg, hd, po, sa⟩
  have F1 := fun_mk (st := sTold) l1 c1 k1
  have b1 := F1.binds (ps := ["numbers"]) fun _ _ _ _ _ _ us hl => match us, hl with | [_], _ => rfl
  have C2 : FunC K "all_below" "all_below" sBelow f2 _ t2 := ⟨⟨_, _, _, _, _, _, _, _, rfl, l2, c2⟩, k2⟩
  have F2 := C2.fn
  obtain ⟨hC2, hP2⟩ := tabs "all_below" t2 P2 hq2 (tab_at a2 l2 u2 v2)
  have b2 := F2.binds (ps := ["numbers", "many"]) fun _ _ _ _ _ _ us hl => match us, hl with | [_, _], _ => rfl
  have F3 := fun_mk (st := sSizes) l3 c3 k3
  have b3 := F3.binds (ps := ["many", "rows"]) fun _ _ _ _ _ _ us hl => match us, hl with | [_, _], _ => rfl
  have F4 := fun_mk (st := sMarks) l4 c4 k4
  have b4 := F4.binds (ps := ["marks", "many"]) fun _ _ _ _ _ _ us hl => match us, hl with | [_, _], _ => rfl
  have F5 := fun_mk (st := sInit) l5 c5 k5
  have b5 := F5.binds (ps := ["self", "many", "rows"]) fun _ _ _ _ _ _ us hl => match us, hl with | [_, _, _], _ => rfl
  have F6 := fun_mk (st := sThings) l6 c6 k6
  have b6 := F6.binds (ps := ["things", "many"]) fun _ _ _ _ _ _ us hl => match us, hl with | [_, _], _ => rfl
  have C7 : FunC K "has_all" "has_all" sHasAll f7 _ t7 := ⟨⟨_, _, _, _, _, _, _, _, rfl, l7, c7⟩, k7⟩
  have F7 := C7.fn
  obtain ⟨hC7, hP7⟩ := tabs "has_all" t7 P7 hq7 (tab_at a7 l7 u7 v7)
  have b7 := F7.binds (ps := ["whole", "part"]) fun _ _ _ _ _ _ us hl => match us, hl with | [_, _], _ => rfl
  have C8 : FunC K "on_all" "on_all" sOnAll f8 _ t8 := ⟨⟨_, _, _, _, _, _, _, _, rfl, l8, c8⟩, k8⟩
  have F8 := C8.fn
  obtain ⟨hC8, hP8⟩ := tabs "on_all" t8 P8 hq8 (tab_at a8 l8 u8 v8)
  have b8 := F8.binds (ps := ["mark", "rows"]) fun _ _ _ _ _ _ us hl => match us, hl with | [_, _], _ => rfl
  have F9 := fun_mk (st := sWith) l9 c9 k9
  have b9 := F9.binds (ps := ["self", "marks"]) fun _ _ _ _ _ _ us hl => match us, hl with | [_, _], _ => rfl
  have F10 := fun_mk (st := sOf) l10 c10 k10
  have b10 := F10.binds (ps := ["self", "things"]) fun _ _ _ _ _ _ us hl => match us, hl with | [_, _], _ => rfl
  have F11 := fun_mk (st := sClosed) l11 c11 k11
  have b11 := F11.binds (ps := ["self", "marks"]) fun _ _ _ _ _ _ us hl => match us, hl with | [_, _], _ => rfl
  have F12 := fun_mk (st := s_without) l12 c12 k12
  have b12 := F12.binds (ps := ["one", "other"]) fun _ _ _ _ _ _ us hl => match us, hl with | [_, _], _ => rfl
  have F13 := fun_mk (st := s_all_sets) l13 c13 k13
  have b13 := F13.binds (ps := ["many"]) fun _ _ _ _ _ _ us hl => match us, hl with | [_], _ => rfl
  have F14 := fun_mk (st := s_box_with) l14 c14 k14
  have b14 := F14.binds (ps := ["table", "marks"]) fun _ _ _ _ _ _ us hl => match us, hl with | [_, _], _ => rfl
  have F15 := fun_mk (st := s_boxes) l15 c15 k15
  have b15 := F15.binds (ps := ["table"]) fun _ _ _ _ _ _ us hl => match us, hl with | [_], _ => rfl
  have F16 := fun_mk (st := s_lies_under) l16 c16 k16
  have b16 := F16.binds (ps := ["one", "other"]) fun _ _ _ _ _ _ us hl => match us, hl with | [_, _], _ => rfl
  have F17 := fun_mk (st := s_places_over) l17 c17 k17
  have b17 := F17.binds (ps := ["box", "listed"]) fun _ _ _ _ _ _ us hl => match us, hl with | [_, _], _ => rfl
  have F18 := fun_mk (st := s_right_over) l18 c18 k18
  have b18 := F18.binds (ps := ["place", "overs"]) fun _ _ _ _ _ _ us hl => match us, hl with | [_, _], _ => rfl
  have F19 := fun_mk (st := s_steps) l19 c19 k19
  have b19 := F19.binds (ps := ["table"]) fun _ _ _ _ _ _ us hl => match us, hl with | [_], _ => rfl
  have F42 := fun_mk (st := s_met) l42 c42 k42
  have b42 := F42.binds (ps := ["rule", "marks"]) fun _ _ _ _ _ _ us hl => match us, hl with | [_, _], _ => rfl
  have C43 : FunC K "fewest" "fewest" s_fewest f43 _ t43 := ⟨⟨_, _, _, _, _, _, _, _, rfl, l43, c43⟩, k43⟩
  have F43 := C43.fn
  obtain ⟨hC43, hP43⟩ := tabs "fewest" t43 P43 hq43 (tab_at a43 l43 u43 v43)
  have b43 := F43.binds (ps := ["table"]) fun _ _ _ _ _ _ us hl => match us, hl with | [_], _ => rfl
  have F21 := fun_mk (st := sCell) l21 c21 k21
  have b21 := F21.binds (ps := ["_law_script", "_law_k"]) fun _ _ _ _ _ _ us hl => match us, hl with | [_, _], _ => rfl
  have F20 := fun_mk (st := sWhole) l20 c20 k20
  have b20 := F20.binds (ps := ["_law_found"]) fun _ _ _ _ _ _ us hl => match us, hl with | [_], _ => rfl
  have F22 := fun_mk (st := s_law_mix) l22 c22 k22
  have b22 := F22.binds (ps := ["_law_script", "_law_first", "_law_k"]) fun _ _ _ _ _ _ us hl => match us, hl with | [_, _, _], _ => rfl
  have F23 := fun_mk (st := s_law_on) l23 c23 k23
  have b23 := F23.binds (ps := ["_law_number", "_law_mark", "_law_way", "_law_many"]) fun _ _ _ _ _ _ us hl => match us, hl with | [_, _, _, _], _ => rfl
  have F24 := fun_mk (st := s_law_table_by) l24 c24 k24
  have b24 := F24.binds (ps := ["_law_script", "_law_turn"]) fun _ _ _ _ _ _ us hl => match us, hl with | [_, _], _ => rfl
  have F25 := fun_mk (st := s_law_sets) l25 c25 k25
  have b25 := F25.binds (ps := ["_law_many"]) fun _ _ _ _ _ _ us hl => match us, hl with | [_], _ => rfl
  have F26 := fun_mk (st := s_law_closure) l26 c26 k26
  have b26 := F26.binds (ps := ["_law_many", "_law_rows", "_law_marks"]) fun _ _ _ _ _ _ us hl => match us, hl with | [_, _, _], _ => rfl
  have F28 := fun_mk (st := s_law_lacks) l28 c28 k28
  have b28 := F28.binds (ps := ["_law_one", "_law_other"]) fun _ _ _ _ _ _ us hl => match us, hl with | [_, _], _ => rfl
  have F29 := fun_mk (st := s_law_rules) l29 c29 k29
  have b29 := F29.binds (ps := ["_law_many", "_law_rows"]) fun _ _ _ _ _ _ us hl => match us, hl with | [_, _], _ => rfl
  have F30 := fun_mk (st := s_law_same) l30 c30 k30
  have b30 := F30.binds (ps := ["_law_found", "_law_due"]) fun _ _ _ _ _ _ us hl => match us, hl with | [_, _], _ => rfl
  have F40 := fun_mk (st := s_law_ahead) l40 c40 k40
  have b40 := F40.binds (ps := ["_law_table", "_law_cell"]) fun _ _ _ _ _ _ us hl => match us, hl with | [_, _], _ => rfl
  have F41 := fun_mk (st := sLaw) l41 c41 k41
  have b41 := F41.binds (ps := ["_law_script"]) fun _ _ _ _ _ _ us hl => match us, hl with | [_], _ => rfl
  have T : Txt K mg CS CM := ⟨z z_sorted, z z_set, z z_all, z z_len, ⟨_, g m8⟩, ⟨_, g m12⟩, g aCS, g aCM, ⟨_, xCS, rfl⟩, ⟨_, xCM, rfl⟩, pCS, pCM, bCS, bCM, tCS, tCM⟩
  have T2 : Txt2 K mg CT := ⟨z z_enumerate, z z_range, g aCT, ⟨_, xCT, rfl⟩, pCT, bCT, tCT⟩
  have L : LTxt K mg := ⟨z z_isinstance, z z_int, z z_bool, z z_list, z z_len, z z_range, z z_max, z z_sum⟩
  have T3 : Txt3 mg := ⟨g mCO, z z_list, z z_range⟩
  refine ⟨PySem.W.fnOf "law" "law" (defArgs sLaw) (defBody sLaw) (defScope sLaw) .none kV41 dc41 pm41 an41 cd41 ct41, [(t2, P2), (t7, P7), (t8, P8), (t43, P43)], spLaw K [P2, P7, P8, P43], ?_, ?_, ?_, fun s v => .of_eq rfl, ?_, ?_⟩
  · intro p hp
    simp only [List.mem_cons, List.not_mem_nil, or_false] at hp
    rcases hp with e | e | e | e
    · rw [e]; exact hP2
    · rw [e]; exact hP7
    · rw [e]; exact hP8
    · rw [e]; exact hP43
  · intro p hp
    simp only [List.mem_cons, List.not_mem_nil, or_false] at hp
    rcases hp with e | e | e | e
    · rw [e]; exact n2
    · rw [e]; exact n7
    · rw [e]; exact n8
    · rw [e]; exact n43
  · intro p hp
    simp only [List.mem_cons, List.not_mem_nil, or_false] at hp
    rcases hp with e | e | e | e
    · rw [e]; exact hC2
    · rw [e]; exact hC7
    · rw [e]; exact hC8
    · rw [e]; exact hC43
  · intro H a ns hlen _ hH hS
    refine ⟨a, ns, rfl, hS, by omega, fun R hR => ?_, fun _ => rfl⟩
    simp only [List.mem_cons, List.not_mem_nil, or_false] at hR
    rcases hR with e | e | e | e
    · rw [e]; exact ⟨#[], hH (t2, P2) (by simp), tri_nil⟩
    · rw [e]; exact ⟨#[], hH (t7, P7) (by simp), tri_nil⟩
    · rw [e]; exact ⟨#[], hH (t8, P8) (by simp), tri_nil⟩
    · rw [e]; exact ⟨#[], hH (t43, P43) (by simp), tri_nil⟩
  · intro base _ _ hT
    have tb2 := hT (t2, P2) (by simp)
    have TB2 : GxR.TabB base mg t2 P2 := ⟨tb2.code, tb2.bm, tb2.gP⟩
    have m2 : P2 ∈ [P2, P7, P8, P43] := by simp
    have tb7 := hT (t7, P7) (by simp)
    have TB7 : GxR.TabB base mg t7 P7 := ⟨tb7.code, tb7.bm, tb7.gP⟩
    have m7 : P7 ∈ [P2, P7, P8, P43] := by simp
    have tb8 := hT (t8, P8) (by simp)
    have TB8 : GxR.TabB base mg t8 P8 := ⟨tb8.code, tb8.bm, tb8.gP⟩
    have m8 : P8 ∈ [P2, P7, P8, P43] := by simp
    have tb43 := hT (t43, P43) (by simp)
    have TB43 : GxR.TabB base mg t43 P43 := ⟨tb43.code, tb43.bm, tb43.gP⟩
    have m43 : P43 ∈ [P2, P7, P8, P43] := by simp
    have G1 : FnOk l.prog w K mg base CX0 1 f1 _ ["numbers"] (spTold K) := ok_told F1 T
    have G2 : FnOk l.prog w K mg base CX0 1 f2 _ ["numbers", "many"] (spBelow K [P2, P7, P8, P43]) := ok_below C2 T TB2 m2
    have G3 : FnOk l.prog w K mg base (L2.CX l.prog w) 1 f3 _ ["many", "rows"] (spSizes K CS) := ok_sizes F3 T
    have G4 : FnOk l.prog w K mg base (L2.CX l.prog w) 2 f4 _ ["marks", "many"] (spMarks K CM [P2, P7, P8, P43]) := ok_marks F4 T G2 (g a2) k2 b2
    have G5 : FnOk l.prog w K mg base (L2.CX l.prog w) 3 f5 _ ["self", "many", "rows"] (spInit K C CS CM [P2, P7, P8, P43]) := ok_init F5 T cl nM nR G1 (g a1) k1 b1 G3 (g a3) k3 b3 G4 (g a4) k4 b4
    have G6 : FnOk l.prog w K mg base (L2.CX l.prog w) 2 f6 _ ["things", "many"] (spMarks K CT [P2, P7, P8, P43]) := ok_things F6 T2 G2 (g a2) k2 b2
    have G7 : FnOk l.prog w K mg base CX0 1 f7 _ ["whole", "part"] (spHasAll K [P2, P7, P8, P43]) := ok_hasAll C7 T TB7 m7
    have G8 : FnOk l.prog w K mg base CX0 1 f8 _ ["mark", "rows"] (spOnAll K [P2, P7, P8, P43]) := ok_onAll C8 T TB8 m8
    have G9 : FnOk l.prog w K mg base (L2.CX l.prog w) 3 f9 _ ["self", "marks"] (spWith K C CM [P2, P7, P8, P43]) := ok_with F9 T2 cl nM nR G4 (g a4) k4 b4 G7 (g a7) k7 b7
    have G10 : FnOk l.prog w K mg base (L2.CX l.prog w) 3 f10 _ ["self", "things"] (spOf K C CT [P2, P7, P8, P43]) := ok_of F10 T T2 cl nM nR G6 (g a6) k6 b6 G8 (g a8) k8 b8
    have G11 : FnOk l.prog w K mg base (L2.CX l.prog w) 4 f11 _ ["self", "marks"] (spClosed K C CM [P2, P7, P8, P43]) := ok_closed F11 cl G9 ⟨a9, i9, k9⟩ b9 G10 ⟨a10, i10, k10⟩ b10
    have M : Mk K C f5 := ⟨mk, a5, i5, kc⟩
    have MT : MTxt l.prog w K mg base C CM CT [P2, P7, P8, P43] := ⟨cl, nM, nR, ⟨f9, _, G9, ⟨a9, i9, k9⟩, b9⟩, ⟨f10, _, G10, ⟨a10, i10, k10⟩, b10⟩, ⟨f11, _, G11, ⟨a11, i11, k11⟩, b11⟩⟩
    have G21 : FnOk l.prog w K mg base CX0 1 f21 _ ["_law_script", "_law_k"] (spCell K) := ok_cell F21 L
    have G20 : FnOk l.prog w K mg base CX0 1 f20 _ ["_law_found"] spWhole := ok_whole F20 L
    have G22 : FnOk l.prog w K mg base CX0 2 f22 _ ["_law_script", "_law_first", "_law_k"] (spMix K) := ok_mix F22 L G21 (g a21) k21 b21
    have G23 : FnOk l.prog w K mg base CX0 1 f23 _ ["_law_number", "_law_mark", "_law_way", "_law_many"] spOn := ok_on F23
    have G24 : FnOk l.prog w K mg base CX0 3 f24 _ ["_law_script", "_law_turn"] (spTableBy10 K) := ok_tableBy F24 L G21 (g a21) k21 b21 G22 (g a22) k22 b22 G23 (g a23) k23 b23
    have G25 : FnOk l.prog w K mg base CX0 1 f25 _ ["_law_many"] spSets10 := ok_sets10 F25 L (z z_sorted)
    have G26 : FnOk l.prog w K mg base CX0 1 f26 _ ["_law_many", "_law_rows", "_law_marks"] (spClosure K) := ok_closure F26 L
    have G28 : FnOk l.prog w K mg base CX0 1 f28 _ ["_law_one", "_law_other"] (spWithout K) := ok_lacks F28
    have G29 : FnOk l.prog w K mg base CX0 2 f29 _ ["_law_many", "_law_rows"] (spRules10 K) := ok_rules10 F29 L G25 (g a25) k25 b25 G26 (g a26) k26 b26 G28 (g a28) k28 b28
    have G30 : FnOk l.prog w K mg base CX0 2 f30 _ ["_law_found", "_law_due"] (spSame10 K) := ok_same10 F30 L (z z_tuple) G20 (g a20) k20 b20
    have G12 : FnOk l.prog w K mg base CX0 1 f12 _ ["one", "other"] (spWithout K) := ok_without F12
    have G13 : FnOk l.prog w K mg base CX0 1 f13 _ ["many"] spSets := ok_sets F13 T3
    have G14 : FnOk l.prog w K mg base CX0 4 f14 _ ["table", "marks"] (spBoxWith K C [P2, P7, P8, P43]) := ok_boxWith F14 cl G9 ⟨a9, i9, k9⟩ b9 G10 ⟨a10, i10, k10⟩ b10
    have G15 : FnOk l.prog w K mg base CX0 5 f15 _ ["table"] (spPairs C [P2, P7, P8, P43] boxesOf) := ok_boxes (by decide) F15 cl nM G13 (g a13) k13 b13 G11 ⟨a11, i11, k11⟩ b11 G14 (g a14) k14 b14
    have G16 : FnOk l.prog w K mg base CX0 2 f16 _ ["one", "other"] (spLies K [P2, P7, P8, P43]) := ok_lies F16 G7 (g a7) k7 b7
    have G17 : FnOk l.prog w K mg base CX0 3 f17 _ ["box", "listed"] (spPlaces K [P2, P7, P8, P43]) := ok_places F17 T2 G16 (g a16) k16 b16
    have G18 : FnOk l.prog w K mg base CX0 1 f18 _ ["place", "overs"] (spRightOver K) := ok_rightOver F18 T
    have G19 : FnOk l.prog w K mg base CX0 6 f19 _ ["table"] (spSteps C [P2, P7, P8, P43]) := ok_steps (by decide) F19 T T2 G15 (g a15) k15 b15 G17 (g a17) k17 b17 G18 (g a18) k18 b18
    have G42 : FnOk l.prog w K mg base CX0 2 f42 _ ["rule", "marks"] (spMet K [P2, P7, P8, P43]) := ok_met F42 G7 (g a7) k7 b7
    have G43 : FnOk l.prog w K mg base CX0 6 f43 _ ["table"] (spPairs C [P2, P7, P8, P43] rulesOf) := ok_fewest (by decide) C43 TB43 m43 (z z_all) cl nM G13 (g a13) k13 b13 G11 ⟨a11, i11, k11⟩ b11 G42 (g a42) k42 b42 G12 (g a12) k12 b12
    have G40 : FnOk l.prog w K mg base CX0 10 f40 _ ["_law_table", "_law_cell"] (spAhead C [P2, P7, P8, P43]) := (ok_ahead F40 ⟨z z_list, z z_len, z z_range⟩ MT boxes_small rules_small (by decide) (G15.mono (by decide)) (g a15) k15 b15 (steps_list G19) (g a19) k19 b19 G43 (g a43) k43 b43).mono (by decide)
    exact ok_law (fun_mk (st := sLaw) l41 c41 k41) L M cl nR G5 (g aC) b5 G21 (g a21) k21 b21 G24 (g a24) k24 b24 G43 (g a43) k43 b43 G30 (g a30) k30 b30 G29 (g a29) k29 b29 G40 (g a40) k40 b40 (by decide)

end Mb

open PySem PySem.W PyProof.Rows in
set_option maxRecDepth 100000 in
set_option maxHeartbeats 0 in
theorem PySem.Challenge.cw_markbox_k10_the_rules_told_holds : PySem.Challenge.rw_markbox_k10_the_rules_told.Holds := by
  w_on; o_law; k_head; (case hw => w_witness2)
  k_fill
  refine Mb.walk_tabs (l := PySem.Challenge.rw_markbox_k10_the_rules_told) (n := 63) (k := 11) (x := "_law_script") (CX := fun _ => L2.CX0) rfl (by decide) rfl ⟨rfl, by decide, by decide⟩ (fun w h Y => PySem.W.kIn_of Y) ?F (fun _ _ _ _ _ z => z)
  case F =>
    intro w mg fa h KX G hmg tabs
    refine' Mb.all_mk KX G hmg tabs ?hq2 ?hq7 ?hq8 ?hq43 ?aC ?aCS ?aCM ?aCT ?mCO ?m8 ?m12 ?z_sorted ?z_set ?z_all ?z_len ?z_isinstance ?z_int ?z_bool ?z_list ?z_range ?z_max ?z_sum ?z_enumerate ?z_tuple ?a1 ?l1 ?c1 ?k1 ?a2 ?l2 ?c2 ?k2 ?u2 ?v2 ?n2 ?a3 ?l3 ?c3 ?k3 ?a4 ?l4 ?c4 ?k4 ?a5 ?i5 ?l5 ?c5 ?k5 ?a6 ?l6 ?c6 ?k6 ?a7 ?l7 ?c7 ?k7 ?u7 ?v7 ?n7 ?a8 ?l8 ?c8 ?k8 ?u8 ?v8 ?n8 ?a9 ?i9 ?l9 ?c9 ?k9 ?a10 ?i10 ?l10 ?c10 ?k10 ?a11 ?i11 ?l11 ?c11 ?k11 ?a12 ?l12 ?c12 ?k12 ?a13 ?l13 ?c13 ?k13 ?a14 ?l14 ?c14 ?k14 ?a15 ?l15 ?c15 ?k15 ?a16 ?l16 ?c16 ?k16 ?a17 ?l17 ?c17 ?k17 ?a18 ?l18 ?c18 ?k18 ?a19 ?l19 ?c19 ?k19 ?a42 ?l42 ?c42 ?k42 ?a43 ?l43 ?c43 ?k43 ?u43 ?v43 ?n43 ?a21 ?l21 ?c21 ?k21 ?a20 ?l20 ?c20 ?k20 ?a22 ?l22 ?c22 ?k22 ?a23 ?l23 ?c23 ?k23 ?a24 ?l24 ?c24 ?k24 ?a25 ?l25 ?c25 ?k25 ?a26 ?l26 ?c26 ?k26 ?a28 ?l28 ?c28 ?k28 ?a29 ?l29 ?c29 ?k29 ?a30 ?l30 ?c30 ?k30 ?a40 ?l40 ?c40 ?k40 ?a41 ?l41 ?c41 ?k41 ?xCS ?xCM ?xCT ?pCS ?pCM ?pCT ?bCS ?tCS ?dCS ?bCM ?tCM ?dCM ?bCT ?tCT ?dCT ?pg ?hd ?po ?sa ?mk ?kc ?nM ?nR
    (case hq2 => first | rfl | decide +kernel)
    (case hq7 => first | rfl | decide +kernel)
    (case hq8 => first | rfl | decide +kernel)
    (case hq43 => first | rfl | decide +kernel)
    (case aC => k_is)
    (case aCS => k_is)
    (case aCM => k_is)
    (case aCT => k_is)
    (case mCO => k_is)
    (case m8 => k_is)
    (case m12 => k_is)
    (case z_sorted => k_is)
    (case z_set => k_is)
    (case z_all => k_is)
    (case z_len => k_is)
    (case z_isinstance => k_is)
    (case z_int => k_is)
    (case z_bool => k_is)
    (case z_list => k_is)
    (case z_range => k_is)
    (case z_max => k_is)
    (case z_sum => k_is)
    (case z_enumerate => k_is)
    (case z_tuple => k_is)
    (case a1 => k_is)
    (case l1 => k_is)
    (case c1 => k_is)
    (case k1 => k_is)
    (case a2 => k_is)
    (case l2 => k_is)
    (case c2 => k_is)
    (case k2 => k_is)
    (case u2 => k_is)
    (case v2 => rfl)
    (case n2 => first | rfl | (with_unfolding_all rfl) | decide)
    (case a3 => k_is)
    (case l3 => k_is)
    (case c3 => k_is)
    (case k3 => k_is)
    (case a4 => k_is)
    (case l4 => k_is)
    (case c4 => k_is)
    (case k4 => k_is)
    (case a5 => k_is)
    (case i5 => k_is)
    (case l5 => k_is)
    (case c5 => k_is)
    (case k5 => k_is)
    (case a6 => k_is)
    (case l6 => k_is)
    (case c6 => k_is)
    (case k6 => k_is)
    (case a7 => k_is)
    (case l7 => k_is)
    (case c7 => k_is)
    (case k7 => k_is)
    (case u7 => k_is)
    (case v7 => rfl)
    (case n7 => first | rfl | (with_unfolding_all rfl) | decide)
    (case a8 => k_is)
    (case l8 => k_is)
    (case c8 => k_is)
    (case k8 => k_is)
    (case u8 => k_is)
    (case v8 => rfl)
    (case n8 => first | rfl | (with_unfolding_all rfl) | decide)
    (case a9 => k_is)
    (case i9 => k_is)
    (case l9 => k_is)
    (case c9 => k_is)
    (case k9 => k_is)
    (case a10 => k_is)
    (case i10 => k_is)
    (case l10 => k_is)
    (case c10 => k_is)
    (case k10 => k_is)
    (case a11 => k_is)
    (case i11 => k_is)
    (case l11 => k_is)
    (case c11 => k_is)
    (case k11 => k_is)
    (case a12 => k_is)
    (case l12 => k_is)
    (case c12 => k_is)
    (case k12 => k_is)
    (case a13 => k_is)
    (case l13 => k_is)
    (case c13 => k_is)
    (case k13 => k_is)
    (case a14 => k_is)
    (case l14 => k_is)
    (case c14 => k_is)
    (case k14 => k_is)
    (case a15 => k_is)
    (case l15 => k_is)
    (case c15 => k_is)
    (case k15 => k_is)
    (case a16 => k_is)
    (case l16 => k_is)
    (case c16 => k_is)
    (case k16 => k_is)
    (case a17 => k_is)
    (case l17 => k_is)
    (case c17 => k_is)
    (case k17 => k_is)
    (case a18 => k_is)
    (case l18 => k_is)
    (case c18 => k_is)
    (case k18 => k_is)
    (case a19 => k_is)
    (case l19 => k_is)
    (case c19 => k_is)
    (case k19 => k_is)
    (case a42 => k_is)
    (case l42 => k_is)
    (case c42 => k_is)
    (case k42 => k_is)
    (case a43 => k_is)
    (case l43 => k_is)
    (case c43 => k_is)
    (case k43 => k_is)
    (case u43 => k_is)
    (case v43 => rfl)
    (case n43 => first | rfl | (with_unfolding_all rfl) | decide)
    (case a21 => k_is)
    (case l21 => k_is)
    (case c21 => k_is)
    (case k21 => k_is)
    (case a20 => k_is)
    (case l20 => k_is)
    (case c20 => k_is)
    (case k20 => k_is)
    (case a22 => k_is)
    (case l22 => k_is)
    (case c22 => k_is)
    (case k22 => k_is)
    (case a23 => k_is)
    (case l23 => k_is)
    (case c23 => k_is)
    (case k23 => k_is)
    (case a24 => k_is)
    (case l24 => k_is)
    (case c24 => k_is)
    (case k24 => k_is)
    (case a25 => k_is)
    (case l25 => k_is)
    (case c25 => k_is)
    (case k25 => k_is)
    (case a26 => k_is)
    (case l26 => k_is)
    (case c26 => k_is)
    (case k26 => k_is)
    (case a28 => k_is)
    (case l28 => k_is)
    (case c28 => k_is)
    (case k28 => k_is)
    (case a29 => k_is)
    (case l29 => k_is)
    (case c29 => k_is)
    (case k29 => k_is)
    (case a30 => k_is)
    (case l30 => k_is)
    (case c30 => k_is)
    (case k30 => k_is)
    (case a40 => k_is)
    (case l40 => k_is)
    (case c40 => k_is)
    (case k40 => k_is)
    (case a41 => k_is)
    (case l41 => k_is)
    (case c41 => k_is)
    (case k41 => k_is)
    (case xCS => k_exc)
    (case xCM => k_exc)
    (case xCT => k_exc)
    (case pCS => k_is)
    (case pCM => k_is)
    (case pCT => k_is)
    (case bCS => k_is)
    (case tCS => k_is)
    (case dCS => k_is)
    (case bCM => k_is)
    (case tCM => k_is)
    (case dCM => k_is)
    (case bCT => k_is)
    (case tCT => k_is)
    (case dCT => k_is)
    (case pg => k_is)
    (case hd => k_is)
    (case po => k_is)
    (case sa => k_is)
    (case mk => k_is)
    (case kc => k_is)
    (case nM => k_is)
    (case nR => k_is)

