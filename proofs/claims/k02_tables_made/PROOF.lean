import PyProof.Rows.All
import Wide.All
import OpenK.AllK
import Wide.FinOn
import PyProof.EqAt
import PyProof.EqKinds
import PyProof.TupleCall
import PyProof.JoinWalk
import KE.KNest
import HandS.Base
import HandS.Call
import HandS.List
import HandS.Comp
import HandS.AnyAll
import HandS.Set
import HandS.SetFor
import HandS.Strs
import HandS.ForMost
import HandS.ForExc
import HandS.TryMany
import HandS.EndTab
import KE.KNestM
import HandS.FStr
import HandS.RaiseMore
import HandS.Flow
import HandS.IsInst
import HandS.ExcIs
import HandS.Codes
import PySem.Challenge.RW_markbox_k02_tables_made
set_option Elab.async false
set_option linter.all false
set_option maxRecDepth 100000
set_option maxHeartbeats 8000001
namespace MbX
open L2 PySem PySem.Spec PyProof.Rows
/-- a generator expression's own scope, by what can be computed -/
structure GenN (env : Env) (scope : Scope) (x : Str) : Prop where
  sort : scope.kind = .function ∧ scope.isCoroutine = false ∧ ∀ y ∈ scope.names, y.2 ≠ .cell
  names : scope.names.lookup (".0" : Str) = some NameKind.local ∧ scope.names.lookup x = some NameKind.local
  fre : ∀ y ∈ scope.names, y.2 = .free → (env.kindOf y.1 = some .cell ∨ env.kindOf y.1 = some .free)
def genC (sc scope : Scope) (x : Str) : Bool := (match scope.kind with | .function => true | _ => false) && !scope.isCoroutine && (scope.names.all fun y => match y.2 with | .cell => false | _ => true) &&
  decide (scope.names.lookup (".0" : Str) = some NameKind.local) && decide (scope.names.lookup x = some NameKind.local) &&
  (scope.names.all fun y => match y.2 with | .free => (match sc.names.lookup y.1 with | some .cell => true | some .free => true | _ => false) | _ => true)
theorem genN_by {env : Env} {sc scope : Scope} {x : Str} (hs : env.scope = sc) (h : genC sc scope x = true) : GenN env scope x := by
  subst hs
  unfold genC at h
  simp only [Bool.and_eq_true, List.all_eq_true, decide_eq_true_eq, Bool.not_eq_true'] at h
  obtain ⟨⟨⟨⟨⟨h1, h2⟩, h3⟩, h4⟩, h5⟩, h6⟩ := h
  refine ⟨⟨?_, h2, fun y hy e => ?_⟩, ⟨h4, h5⟩, fun y hy e => ?_⟩
  · split at h1
    · assumption
    · cases h1
  · have q := h3 y hy
    simp only [e] at q
    cases q
  · have q := h6 y hy
    simp only [e] at q
    show env.scope.names.lookup y.1 = _ ∨ env.scope.names.lookup y.1 = _
    split at q
    · exact Or.inl ‹_›
    · exact Or.inr ‹_›
    · cases q
theorem GenN.to {env : Env} {scope : Scope} {x : Str} (S : GenN env scope x) (h : ∀ y, (env.kindOf y = some .cell ∨ env.kindOf y = some .free) → ∃ c, env.cells.lookup y = some c) : GxR.GenS env scope x :=
  ⟨S.sort.1, S.sort.2.1, S.sort.2.2, S.names.1, S.names.2, fun y hy e => h y.1 (S.fre y hy e)⟩
/-- the element at the walked list's place i, in a heap that has all of h0 but what stands at P: the truth value tr i -/
def EltG (prog : Program) (w : World) (scope : Scope) (x : Str) (elt : Expr) (cells : List (Str × Addr)) (P : Addr) (h0 : Heap) (us : List Value) (tr : Nat → Bool) : Prop :=
  ∀ (cenv : Env) (A' : Around) (E' : Value → Shared → Prop) (i : Nat) (v : Value) (s₂ : Shared) (m₂ : Str → Option Value), cenv.scope = scope → cenv.cells = cloFrom cells scope.names [] → us[i]? = some v → s₂.heap.Ns cenv.locals m₂ → m₂ x = some v →
    (∀ b o, b ≠ P → h0.get? b = some o → s₂.heap.get? b = some o) →
    wpAny (model prog w) A' (eval elt cenv) (fun y s₃ => y = .bool (tr i) ∧ Keeps s₂ s₃) E' s₂
section
variable {X : Cx} {s : Shared} {H : Hp} {σ : L2.St} {pins : List (Addr × Obj)}
def ReadyL (X : Cx) (pins : List (Addr × Obj)) (σ : L2.St) (H1 : Hp) (P : Addr) (n : Nat) (tr : Nat → Bool) (g : Addr) (s5 : Shared) : Prop :=
  ∃ (fp wr : List Addr) (Gs : Array GenState → Array GenState → Prop) (Item : Nat → Value → Prop) (At : Nat → Shared → Prop), WalksS X.prog X.w X.A.in1 g fp wr Gs n Item At ∧ At 0 s5 ∧ TruthOf X.prog X.w X.A.in1 Item tr ∧
    ∀ t, Moved wr Gs s5 t → ∃ H2, GxR.Tabbed P H1 H2 ∧ Inv X pins σ H2 t
/-- what the element wants to know of the walked list and of the slots -/
abbrev EC := L2.St → Hp → List V → (Nat → Bool) → Prop
def EltOk (X : Cx) (scope : Scope) (x : Str) (elt : Expr) (P : Addr) (C : EC) : Prop :=
  ∀ (pins : List (Addr × Obj)) (s : Shared) (σ : L2.St) (H : Hp) (ws : List V) (us : List Value) (tr : Nat → Bool), Inv X pins σ H s → (H P ≠ none ∧ ∃ ps, s.heap.get? P = some { cls := .none, data := .fields ps }) → Vals ws us → C σ H ws tr → EltG X.prog X.w scope x elt X.env.cells P s.heap us tr

/-- the code object of the expression, found in the def's table or laid there: either way the table has at most grown -/
theorem code_ways {c P : Addr} {o : Obj} {ps : Array Value} {gpos : Pos} {qn : Str} {scope : Scope} {Z : Value → Shared → Prop} (TB : GxR.TabB X.base X.mg c P) (hcode : X.env.code = .ref c) (I : Inv X pins σ H s) (hP : H P = some (.tbl ps)) (ht : TriplesOk ps.toList)
    (goOn : ∀ (cv : Value) (h3 : Heap) (tk : Nat) (more : Array Value), Heap.ExtBut P (s.heap.push o) h3 → s.heap.objs.size < h3.objs.size → h3.get? P = some { cls := .none, data := .fields (ps ++ more) } → TriplesOk (ps ++ more).toList → Z cv { s with heap := h3, toks := tk }) :
    wpAny (model X.prog X.w) X.A (genexprCode X.env gpos qn scope) Z X.xe { s with heap := s.heap.push o } := by
  have tab1 : (s.heap.push o).get? P = some { cls := .none, data := .fields ps } := Heap.get?_push_of_some _ (I.hok P _ hP)
  have codeAt : PySem.W.CodeHd (s.heap.push o) c P := TB.code.keeps fun b u e => Heap.get?_push_of_some _ (I.bk b u e)
  have one : (s.heap.push o).objs.size = s.heap.objs.size + 1 := Heap.size_push ..
  cases look : codeAmong gpos ps.toList with
  | some cv =>
    refine wpAny_genexprCode_hit hcode (codeAt.code tab1 ht) look (goOn cv _ s.toks #[] (Heap.ExtBut.refl _ _) ?_ (by rw [tab1, Array.append_empty]) (by rw [Array.append_empty]; exact ht))
    rw [one]
    exact Nat.lt_succ_self _
  | none =>
    refine wpAny_genexprCodeX hcode (codeAt.code tab1 ht) (codeAt.tab tab1) look fun cnew h3 tk ext ge lt isC _ isT _ => ?_
    obtain ⟨_, _, _, _, _, _, _, _, _, _, _, _, _, _, _, _, _, _, _, tri, _⟩ := isC
    refine goOn _ h3 tk _ ext ?_ isT.2 tri
    have := Nat.le_trans ge (Nat.le_of_lt lt)
    exact Nat.lt_of_lt_of_le (by rw [one]; exact Nat.lt_succ_self _) this
/-- what stands at two places that hold unlike objects -/
theorem apart {h : Heap} {p q : Addr} {o u : Obj} (hp : h.get? p = some o) (hq : h.get? q = some u) (d : o.cls ≠ u.cls) : p ≠ q := fun e => by
  rw [e, hq] at hp
  exact d (congrArg Obj.cls (Option.some.inj hp)).symm
theorem gen_list {c P : Addr} {elt iter : Expr} {x : Str} {px gpos : Pos} {scope : Scope} {C : EC} {te : TE} {k : Nat} {Q₁ : Value → Shared → Prop} {R : List V → Hp → (Nat → Bool) → Prop}
    (hr : Room k X.A) (TB : GxR.TabB X.base X.mg c P) (hcode : X.env.code = .ref c) (S₀ : GenN X.env scope x) (hi : PE X iter te) (hel : EltOk X scope x elt P C) (fold : ∀ v, genFold iter X.env v = pure v) (I₀ : Inv X pins σ H s)
    (h : te σ H fun v H1 => ∃ (yl : Addr) (ws : List V) (tr : Nat → Bool), v = .ref yl ∧ SqL X.K H1 yl ws ∧ C σ H1 ws tr ∧ GxR.TabG H1 P ∧ R ws H1 tr) (hQ : ∀ ws H1 tr g s5, R ws H1 tr → ReadyL X pins σ H1 P ws.length tr g s5 → Q₁ (.ref g) s5) :
    wpAny (model X.prog X.w) X.A (eval (.GeneratorExp elt [⟨.Name x px, iter, [], 0⟩] scope gpos) X.env) Q₁ X.xe s := by
  have S := S₀.to I₀.ok.has
  have depth : X.A.depth < recursionLimit := by have := hr.dp; omega
  refine wpAny_GeneratorExp_walksQ hr.hd S.co (closure_ok S.free) S.cell S.dot S.loc S.kind depth ?_ fold
  refine thn (hi.run pins s σ H _ I₀ h) fun u t got => ?_
  obtain ⟨_, H1, I, rel, yl, ws, tr, rfl, seq, hC, ⟨ps, hP, tri⟩, hR⟩ := got
  cases (show u = Value.ref yl from rel)
  obtain ⟨us, vals, plain, _⟩ := I.list seq
  have elts := hel pins t σ H1 ws us tr I ⟨by rw [hP]; simp, ps, I.hok P _ hP⟩ vals hC
  have isL := plain.isList
  obtain ⟨lo, atL, lcls, ln, ldat⟩ := id isL
  have tabT : t.heap.get? P = some { cls := .none, data := .fields ps } := I.hok P _ hP
  have ltP := Heap.lt_size tabT
  have ltL : yl < t.heap.objs.size := Heap.lt_size atL
  obtain ⟨_, statics, _⟩ := I.nolimit
  have ltC := statics.lt
  obtain ⟨so, ses, sep, atC, sdat, _⟩ := id statics
  have neCP : cStatics ≠ P := fun e => by
    rw [e, tabT] at atC
    cases atC
    cases sdat
  have neLP : yl ≠ P := apart atL tabT (by rw [lcls]; exact fun z => by cases z)
  refine wpAny_pyIter_list isL ?_
  generalize hit : ({ cls := .type "list_iterator", data := .fields #[.ref yl, .int 0 0] } : Obj) = it
  refine ⟨I.nolimit.push it, code_ways TB hcode I hP tri fun cv h3 tk more ext gt tab3 tri3 => ?_⟩
  have old3 : ∀ b u, b ≠ P → t.heap.get? b = some u → h3.get? b = some u := fun b u n e => ext b u n (Heap.get?_push_of_some _ e)
  have glob3 : h3.Ns X.env.globals X.mg := by
    rw [I.ok.glob]
    exact ((I.mod.glob.keeps I.bk).push it).extBut ext TB.gP
  obtain ⟨bm, ob, g1, g2, g3, g4, g5, g6, g7, g8⟩ := TB.bm
  refine wpAny_builtinsFor (m := X.mg) glob3 g1 g2 (old3 _ _ g4 (I.bk _ _ g5)) g6 g7 g8 ?_
  have it3 : h3.IsListIter t.heap.objs.size yl 0 := by
    have it2 : (t.heap.push it).IsListIter t.heap.objs.size yl 0 := by
      rw [← hit]
      exact ⟨_, Heap.get?_push_size _ (by rfl), by rfl, by rfl⟩
    exact it2.at fun u e => ext _ u (Nat.ne_of_gt ltP) e
  have lst3 : h3.IsList yl us.toArray := ⟨lo, old3 _ _ neLP atL, lcls, ln, ldat⟩
  refine ⟨t.heap.objs.size, [t.heap.objs.size, yl], [t.heap.objs.size], us.toArray.size, fun i v => us.toArray[i]? = some v, fun i hh => hh.IsListIter t.heap.objs.size yl i ∧ hh.IsList yl us.toArray, fun _ => true, fun i y => y = .bool (tr i), rfl,
    fun A' hA => Walks.list hA _ _ (Nat.ne_of_lt ltL) _, ⟨it3, lst3⟩, ?below, (I.nolimit.push it).extBut ext neCP, ?notC, ?quiet, ?made⟩
  case below =>
    intro b hb
    have both : b = t.heap.objs.size ∨ b = yl := by simpa using hb
    rcases both with e | e
    · rw [e]; exact gt
    · rw [e]; exact Nat.lt_trans ltL gt
  case notC =>
    intro hb
    have e : cStatics = t.heap.objs.size := by simpa using hb
    exact Nat.ne_of_lt ltC e
  case quiet =>
    intro href kept
    constructor
    · intro A' E' i v s₂ m₂ _ _ _ _ _
      simp only [List.forIn_nil]
      exact wpAny_pure ⟨rfl, GxR.keeps_refl s₂⟩
    · intro A' E' i v s₂ m₂ _ here _ ns nm stays
      refine elts _ A' E' i v s₂ m₂ rfl rfl (by simpa using here) ns nm fun b u n e => ?_
      have lt := Heap.lt_size e
      refine stays b (List.mem_range.mpr (Nat.lt_trans lt gt)) (fun hb => ?_) u (kept b u (old3 b u n e))
      have e2 : b = t.heap.objs.size := by simpa using hb
      exact Nat.ne_of_lt lt e2
  case made =>
    intro g h5 tk5 gs bare gtG size5 kept5 W5 at5
    rw [GxR.passing_true, List.length_range] at W5
    have len : us.toArray.size = ws.length := by rw [List.size_toArray, vals.length]
    rw [len] at W5 at5
    refine hQ ws H1 tr g _ hR ⟨_, _, _, _, _, W5.in4_1, at5, fun j y sj Qj Ej truth hq => ?_, fun s' mv => ?_⟩
    · obtain ⟨i, place, e⟩ := truth
      have e2 : i = j := by
        obtain ⟨_, z⟩ := List.getElem?_eq_some_iff.mp place
        rw [List.getElem_range] at z
        exact z.symm
      rw [e, e2]
      exact wpAny_truthy_bool hq
    · have out : ∀ b u, t.heap.get? b = some u → b ∉ h3.objs.size :: [t.heap.objs.size] := fun b u e hb => by
        have lt := Heap.lt_size e
        have both : b = h3.objs.size ∨ b = t.heap.objs.size := by simpa using hb
        rcases both with z | z
        · exact Nat.lt_irrefl _ (Nat.lt_trans (z ▸ lt) gt)
        · exact Nat.ne_of_lt lt z
      have here : s'.heap.get? P = some { cls := .none, data := .fields (ps ++ more) } := mv.heap P _ (out P _ tabT) (kept5 P _ tab3)
      have all : AllBare s'.gens := AllBare.movedS (I.bare.push bare) mv
      have grown := GxR.inv_tab (h' := s'.heap) (g' := s'.gens) (d' := s'.drawn) (t' := s'.toks) I hP (fun b u n e => mv.heap b u (out b u e) (kept5 b u (old3 b u n e))) here all
      rw [GxR.sh_eta t s' mv.os] at grown
      exact ⟨_, ⟨⟨_, upd_same, tri3⟩, fun b n => upd_ne n⟩, grown⟩

/-- all(elt for x in te), te a list; behind it the def's table may have grown -/
def tAllL (K : PySem.W.Frag) (P : Addr) (C : EC) (te : TE) : TE := fun σ H Q => te σ H fun v H1 => ∃ (yl : Addr) (ws : List V) (tr : Nat → Bool), v = .ref yl ∧ SqL K H1 yl ws ∧ C σ H1 ws tr ∧ GxR.TabG H1 P ∧ ∀ H2, GxR.Tabbed P H1 H2 → Q (.bl ((List.range ws.length).all tr)) H2
theorem boot_all : bootBuiltins "all" = some (Value.builtin "all") := by decide +kernel
theorem pe_allL {c P : Addr} {elt iter : Expr} {x : Str} {px p pos gpos : Pos} {scope : Scope} {C : EC} {te : TE} {k : Nat}
    (hr : Room k X.A) (hg : Gl X "all") (hm : X.mg "all" = none) (TB : GxR.TabB X.base X.mg c P) (hcode : X.env.code = .ref c) (S₀ : GenN X.env scope x) (hi : PE X iter te) (hel : EltOk X scope x elt P C) (fold : ∀ v, genFold iter X.env v = pure v)
    (alone : starEach [.GeneratorExp elt [⟨.Name x px, iter, [], 0⟩] scope gpos] X.env = (false, eval (.GeneratorExp elt [⟨.Name x px, iter, [], 0⟩] scope gpos) X.env) :: starEach [] X.env := by rfl) :
    PE X (.Call (.Name "all" p) [.GeneratorExp elt [⟨.Name x px, iter, [], 0⟩] scope gpos] [] pos) (tAllL X.K P C te) := by
  constructor
  intro pins s σ H Q inv want
  apply wpAny_Call_Name_kw
  apply ld_blt inv hg hm boot_all
  refine PyProof.Rows.callWith_builtin1 ?_ alone (by rfl)
  rw [alone]
  apply Calls.spliced_cons
  refine gen_list (R := fun ws H1 tr => ∀ H2, GxR.Tabbed P H1 H2 → Q (.bl ((List.range ws.length).all tr)) H2) hr TB hcode S₀ hi hel fold inv want ?_
  rintro ws H1 tr g s5 told ⟨fp, wr, Gs, Item, At, walk, start, truth, after⟩
  apply Calls.spliced_nil
  apply call_all_walkS
  refine walk.self 0 _ _ _ start ⟨g, fp, wr, Gs, _, Item, At, _, rfl, walk, start, truth, fun t moved => ?_⟩
  obtain ⟨H2, tabs, inv2⟩ := after t moved
  exact ⟨.bl _, H2, inv2, rfl, told H2 tabs⟩

/-! ### elements -/
theorem clo_keep {cells : List (Str × Addr)} {n : Str} : ∀ (l : List (Str × NameKind)) (acc : List (Str × Addr)), n ∉ l.map (·.1) → (cloFrom cells l acc).lookup n = acc.lookup n
  | [], _, _ => rfl
  | (m, k) :: r, acc, hn => by
    have hm : n ≠ m := fun e => hn (by simp [e])
    have hr : n ∉ r.map (·.1) := fun e => hn (by simp only [List.map_cons, List.mem_cons]; exact .inr e)
    unfold cloFrom
    split
    · rw [clo_keep r _ hr]
      have : (n == m) = false := by simpa using hm
      simp [List.lookup, this]
    · exact clo_keep r _ hr
theorem clo_lookup {cells : List (Str × Addr)} {n : Str} {c : Addr} (hc : cells.lookup n = some c) : ∀ (l : List (Str × NameKind)) (acc : List (Str × Addr)), l.lookup n = some .free → (l.map (·.1)).Nodup → (cloFrom cells l acc).lookup n = some c
  | [], _, h, _ => by simp at h
  | (m, k) :: r, acc, h1, h2 => by
    have h2' : m ∉ r.map (·.1) ∧ (r.map (·.1)).Nodup := by simpa only [List.map_cons, List.nodup_cons] using h2
    by_cases hm : n = m
    · subst hm
      have hk : k = .free := by simpa [List.lookup] using h1
      subst hk
      unfold cloFrom
      rw [if_pos (by decide), clo_keep r _ h2'.1]
      simp [List.lookup, hc]
    · have hb : (n == m) = false := by simpa using hm
      have h1' : r.lookup n = some .free := by simpa only [List.lookup, hb] using h1
      unfold cloFrom
      split
      · exact clo_lookup hc r _ h1' h2'.2
      · exact clo_lookup hc r _ h1' h2'.2
/-- a captured slot, read in the element's frame -/
theorem cap_read {X : Cx} {pins : List (Addr × Obj)} {σ : L2.St} {H : Hp} {s : Shared} {P : Addr} {scope : Scope} {j : Nat} {y : Str} {v : V} (I : Inv X pins σ H s) (hP : H P ≠ none) (hN : X.N[j]? = some y) (hs : σ[j]? = some (some v))
    (hk : X.env.scope.names.lookup y = some .cell ∨ X.env.scope.names.lookup y = some .free) (hfr : scope.names.lookup y = some .free) (hnd : (scope.names.map (·.1)).Nodup) :
    ∃ (c : Addr) (u : Value), RelV v u ∧ (∀ cenv : Env, cenv.scope = scope → cenv.cells = cloFrom X.env.cells scope.names [] → cenv.cells.lookup y = some c) ∧ (∀ h2 : Heap, (∀ b o, b ≠ P → s.heap.get? b = some o → h2.get? b = some o) → h2.IsCell c (some u)) := by
  obtain ⟨m, hn, hl⟩ := I.loc
  obtain ⟨u, r, l⟩ := hl j y v hN hs (.inr hk)
  rcases l with ⟨hk', _⟩ | ⟨_, c, hc, hcell⟩
  · have hk2 : X.env.scope.names.lookup y = some .local := hk'
    rcases hk with z | z
    · rw [z] at hk2; cases hk2
    · rw [z] at hk2; cases hk2
  · refine ⟨c, u, r, fun cenv e1 e2 => by rw [e2]; exact clo_lookup hc _ _ hfr hnd, fun h2 hk2 => ?_⟩
    obtain ⟨o, ho, hd⟩ := hcell
    refine ⟨o, hk2 c o (fun z => ?_) ho, hd⟩
    have := I.freeC y c hc
    rw [z] at this
    exact hP this
/-- the truth at place i -/
def trOf {α : Type} (l : List α) (p : α → Bool) (i : Nat) : Bool := match l[i]? with
  | some k => p k
  | none => false
theorem trOf_some {α : Type} {l : List α} {p : α → Bool} {i : Nat} {k : α} (h : l[i]? = some k) : trOf l p i = p k := by
  unfold trOf
  rw [h]
theorem all_trOf {α : Type} (p : α → Bool) : ∀ l : List α, (List.range l.length).all (trOf l p) = l.all p
  | [] => rfl
  | a :: l => by
    rw [List.length_cons, List.range_succ_eq_map, List.all_cons, List.all_cons, List.all_map, ← all_trOf p l]
    rfl
/-- 0 <= x < cap, the list of ints, cap the captured int in slot j -/
def cBelow (j : Nat) : EC := fun σ _ ws tr => ∃ (ns : List Int) (n : Int), σ[j]? = some (some (.int n)) ∧ ws = ns.map V.int ∧ tr = trOf ns fun k => decide (0 ≤ k) && decide (k < n)
theorem vals_int_at {ns : List Int} {us : List Value} {i : Nat} {v : Value} (rv : Vals (ns.map V.int) us) (hv : us[i]? = some v) : ∃ k t, ns[i]? = some k ∧ v = .int k t := by
  have hl := rv.length
  have hi : i < us.length := (List.getElem?_eq_some_iff.mp hv).1
  rw [List.length_map] at hl
  obtain ⟨k, hk⟩ : ∃ k, ns[i]? = some k := ⟨ns[i]'(by omega), List.getElem?_eq_getElem _⟩
  have hb : (ns.map V.int)[i]? = some (V.int k) := by rw [List.getElem?_map, hk] <;> rfl
  rcases rv.get hb with ⟨_, same, ru⟩
  cases hv.symm.trans same
  obtain ⟨t, e⟩ := (show ∃ t, v = Value.int k t from ru)
  exact ⟨k, t, hk, e⟩
theorem elt_below {X : Cx} {scope : Scope} {x cap : Str} {P : Addr} {j j0 : Nat} {p1 p2 p3 p4 : Pos} (hN : X.N[j]? = some cap) (hk : X.env.scope.names.lookup cap = some .cell ∨ X.env.scope.names.lookup cap = some .free) (hfr : scope.names.lookup cap = some .free)
    (hnd : (scope.names.map (·.1)).Nodup) (hkind : scope.kind = .function) (hloc : scope.names.lookup x = some .local) (hd1 : (x == ("__debug__" : Str)) = false := by decide) (hd2 : (cap == ("__debug__" : Str)) = false := by decide) (hd3 : (cap == ("__classdict__" : Str)) = false := by decide) :
    EltOk X scope x (.Compare (.Constant (.int 0) j0 p1) [.LtE, .Lt] [.Name x p2, .Name cap p3] p4) P (cBelow j) := by
  intro pins s σ H ws us tr I hP rv ⟨ns, n, hs, ew, et⟩ cenv A' E' i v s₂ m₂ e1 e2 hv hn hm hkp
  subst ew et
  obtain ⟨k, t, hk', rfl⟩ := vals_int_at rv hv
  obtain ⟨c, u, ru, hc, hcell⟩ := cap_read I hP.1 hN hs hk hfr hnd
  obtain ⟨tn, rfl⟩ := (show ∃ t, u = Value.int n t from ru)
  have hkc : cenv.scope.kind = .function := by rw [e1]; exact hkind
  refine Compare_chain (wpAny_Constant_int (chain_link ?_)) (by with_unfolding_all rfl)
  refine wpAny_Name (wpAny_loadName_local hkc (show cenv.scope.names.lookup x = some .local by rw [e1]; exact hloc) hn hm ?_) hd1
  refine PyProof.Rows.le_int (wpAny_truthy_bool ?_)
  rw [trOf_some hk']
  by_cases h0 : 0 ≤ k
  · rw [decide_eq_true h0]
    refine ite_tt ?_
    refine chain_last ?_
    refine wpAny_Name (wpAny_loadName_free hkc (show cenv.scope.names.lookup cap = some .free by rw [e1]; exact hfr) (hc cenv e1 e2) (hcell _ hkp) ?_ hd3) hd2
    exact PyProof.Rows.lt_int ⟨by simp, GxR.keeps_tok _ _⟩
  · rw [decide_eq_false h0]
    exact ite_ff ⟨by simp, GxR.keeps_tok _ _⟩
/-- x in cap, the walked list of ints, cap the captured list of ints in slot j -/
def cInCap (K : PySem.W.Frag) (j : Nat) : EC := fun σ H ws tr => ∃ (ns rs : List Int) (r : Addr), σ[j]? = some (some (.ref r)) ∧ SqL K H r (rs.map V.int) ∧ ws = ns.map V.int ∧ tr = trOf ns fun k => decide (k ∈ rs)
/-- cap in x, the walked list of lists of ints, cap the captured int in slot j -/
def cCapIn (K : PySem.W.Frag) (j : Nat) : EC := fun σ H ws tr => ∃ (m : Int) (as : List Addr) (rss : List (List Int)), σ[j]? = some (some (.int m)) ∧ ws = as.map V.ref ∧ as.length = rss.length ∧ (∀ (i : Nat) (a : Addr), as[i]? = some a → ∃ rs : List Int, rss[i]? = some rs ∧ SqL K H a (rs.map V.int)) ∧
  tr = trOf rss fun rs => decide (m ∈ rs)
theorem any_eqU_int {m : Int} {rs : List Int} {us : List Value} (rv : Vals (rs.map V.int) us) : us.toArray.any (eqU (.int m)) = decide (m ∈ rs) := by
  have fl : (rs.map V.int).all flatV = true := by
    rw [List.all_eq_true]
    intro v hv
    obtain ⟨k, _, rfl⟩ := List.mem_map.mp hv
    rfl
  rw [show us.toArray.any (eqU (.int m)) = us.any (eqU (.int m)) by simp, any_eqU rv fl]
  rw [Bool.eq_iff_iff, decide_eq_true_eq, List.any_eq_true]
  constructor
  · rintro ⟨y, hy, e⟩
    obtain ⟨k, hk, rfl⟩ := List.mem_map.mp hy
    have : k = m := by simpa [eqV] using e
    rw [← this]
    exact hk
  · intro h
    exact ⟨.int m, List.mem_map.mpr ⟨m, h, rfl⟩, by simp [eqV]⟩
/-- a list of ints as it stands in the element's heap -/
theorem list_there {X : Cx} {pins : List (Addr × Obj)} {σ : L2.St} {H : Hp} {s : Shared} {P a : Addr} {rs : List Int} (I : Inv X pins σ H s) (hP : ∃ ps, s.heap.get? P = some { cls := .none, data := .fields ps }) (hS : SqL X.K H a (rs.map V.int)) :
    ∃ us : List Value, Vals (rs.map V.int) us ∧ ∀ h2 : Heap, (∀ b o, b ≠ P → s.heap.get? b = some o → h2.get? b = some o) → h2.IsList a us.toArray := by
  obtain ⟨us, rv, plain, _⟩ := I.list hS
  obtain ⟨o, ho, hc, n, hd⟩ := id plain.isList
  obtain ⟨ps, hPs⟩ := hP
  refine ⟨us, rv, fun h2 k => ⟨o, k a o (apart ho hPs ?_) ho, hc, n, hd⟩⟩
  rw [hc]
  exact fun z => by cases z
theorem in_ints {prog : Program} {w : World} {A : Around} {E : Value → Shared → Prop} {s : Shared} {a : Addr} {m : Int} {t : Tok} {rs : List Int} {us : List Value} {Q : Value → Shared → Prop} (rv : Vals (rs.map V.int) us) (hl : s.heap.IsList a us.toArray) (h : Q (.bool (decide (m ∈ rs))) s) :
    wpAny (model prog w) A (compareOp .In (.int m t) (.ref a)) Q E s := by
  have fl : (rs.map V.int).all flatV = true := by
    rw [List.all_eq_true]
    intro v hv
    obtain ⟨k, _, rfl⟩ := List.mem_map.mp hv
    rfl
  refine SeqAt.in_listAt (eqU (.int m)) hl (fun y hy => mem_eqAt (x := .int m) ⟨t, rfl⟩ rfl rv fl y (by simpa using hy)) ?_
  rw [any_eqU_int rv]
  exact h
theorem elt_inCap {X : Cx} {scope : Scope} {x cap : Str} {P : Addr} {j : Nat} {p2 p3 p4 : Pos} (hN : X.N[j]? = some cap) (hk : X.env.scope.names.lookup cap = some .cell ∨ X.env.scope.names.lookup cap = some .free) (hfr : scope.names.lookup cap = some .free)
    (hnd : (scope.names.map (·.1)).Nodup) (hkind : scope.kind = .function) (hloc : scope.names.lookup x = some .local) (hd1 : (x == ("__debug__" : Str)) = false := by decide) (hd2 : (cap == ("__debug__" : Str)) = false := by decide) (hd3 : (cap == ("__classdict__" : Str)) = false := by decide) :
    EltOk X scope x (.Compare (.Name x p2) [.In] [.Name cap p3] p4) P (cInCap X.K j) := by
  intro pins s σ H ws us tr I hP rv ⟨ns, rs, r, hs, hS, ew, et⟩ cenv A' E' i v s₂ m₂ e1 e2 hv hn hm hkp
  subst ew et
  obtain ⟨k, t, hk', rfl⟩ := vals_int_at rv hv
  obtain ⟨c, u, ru, hc, hcell⟩ := cap_read I hP.1 hN hs hk hfr hnd
  obtain rfl := (show u = Value.ref r from ru)
  obtain ⟨zs, rz, there⟩ := list_there I hP.2 hS
  have hkc : cenv.scope.kind = .function := by rw [e1]; exact hkind
  refine wpAny_Compare1 ?_ rfl
  refine wpAny_Name (wpAny_loadName_local hkc (show cenv.scope.names.lookup x = some .local by rw [e1]; exact hloc) hn hm ?_) hd1
  refine wpAny_Name (wpAny_loadName_free hkc (show cenv.scope.names.lookup cap = some .free by rw [e1]; exact hfr) (hc cenv e1 e2) (hcell _ hkp) ?_ hd3) hd2
  rw [trOf_some hk']
  exact in_ints rz (there _ hkp) ⟨rfl, GxR.keeps_refl _⟩
theorem elt_capIn {X : Cx} {scope : Scope} {x cap : Str} {P : Addr} {j : Nat} {p2 p3 p4 : Pos} (hN : X.N[j]? = some cap) (hk : X.env.scope.names.lookup cap = some .cell ∨ X.env.scope.names.lookup cap = some .free) (hfr : scope.names.lookup cap = some .free)
    (hnd : (scope.names.map (·.1)).Nodup) (hkind : scope.kind = .function) (hloc : scope.names.lookup x = some .local) (hd1 : (x == ("__debug__" : Str)) = false := by decide) (hd2 : (cap == ("__debug__" : Str)) = false := by decide) (hd3 : (cap == ("__classdict__" : Str)) = false := by decide) :
    EltOk X scope x (.Compare (.Name cap p2) [.In] [.Name x p3] p4) P (cCapIn X.K j) := by
  intro pins s σ H ws us tr I hP rv ⟨m, as, rss, hs, ew, el, hall, et⟩ cenv A' E' i v s₂ m₂ e1 e2 hv hn hm hkp
  subst ew et
  have lt : i < as.length := by
    have h1 := (List.getElem?_eq_some_iff.mp hv).1
    have h2 := rv.length
    rw [List.length_map] at h2
    omega
  have ha : as[i]? = some as[i] := List.getElem?_eq_getElem lt
  obtain ⟨rs, hrs, hS⟩ := hall i _ ha
  obtain ⟨u', hu', ru'⟩ := rv.get (show (as.map V.ref)[i]? = some (V.ref as[i]) by rw [List.getElem?_map, ha]; rfl)
  rw [hv] at hu'
  cases hu'
  obtain rfl := (show v = Value.ref as[i] from ru')
  obtain ⟨c, u, ru, hc, hcell⟩ := cap_read I hP.1 hN hs hk hfr hnd
  obtain ⟨t, rfl⟩ := (show ∃ t, u = Value.int m t from ru)
  obtain ⟨zs, rz, there⟩ := list_there I hP.2 hS
  have hkc : cenv.scope.kind = .function := by rw [e1]; exact hkind
  refine wpAny_Compare1 ?_ rfl
  refine wpAny_Name (wpAny_loadName_free hkc (show cenv.scope.names.lookup cap = some .free by rw [e1]; exact hfr) (hc cenv e1 e2) (hcell _ hkp) ?_ hd3) hd2
  refine wpAny_Name (wpAny_loadName_local hkc (show cenv.scope.names.lookup x = some .local by rw [e1]; exact hloc) hn hm ?_) hd1
  rw [trOf_some hrs]
  exact in_ints rz (there _ hkp) ⟨rfl, GxR.keeps_refl _⟩
end
end MbX

namespace MbS
open L2 PySem PySem.Spec PyProof.Rows
/-- a set that is made and still empty -/
abbrev noSet (w : World) : Obj := { cls := .type "set", dict := none, data := .set #[] 0 (.fresh 0 0 (!w.params.followText "set-order")) }
section
variable {w : World} {prog : Program} {E : Value → Shared → Prop} {A : Around} {s : Shared}
/-- what is left behind set(xs): at q the numbers of ns, each once; all else as it was -/
def FullSet (w : World) (s : Shared) (q : Addr) (ns : List Int) (t : Shared) : Prop :=
  ∃ (h' : Heap) (tk n : Nat), t = { s with heap := h', toks := tk } ∧ SetR w h' q (fun j => decide (j ∈ ns)) n ∧ n ≤ ns.length ∧ ∀ b o, b ≠ q → s.heap.get? b = some o → h'.get? b = some o
/-- the filling of an empty set at q from a list of areI at l -/
theorem fill_ints {l q : Addr} {us : List Value} {ns : List Int} (calm : A.handled = none) (isL : s.heap.IsList l us.toArray) (areI : IntsAre us ns) (room : ns.length + 1 < scanBound) (ql : q ≠ l) (atQ : s.heap.get? q = some (noSet w)) :
    codeAny (model prog w) A (.call (.builtin "set.__init__") ⟨[.ref q, .ref l], []⟩) (wants (fun r t => r = .none ∧ FullSet w s q ns t) E) s := by
  have qT : s.TypeIs (.ref q) "set" := ⟨_, atQ, rfl⟩
  refine codeAny_call_builtin F.called_set.init.plain F.entry_set_init (check_set_init_1 qT ?_)
  obtain ⟨⟨kind, own, content, slots⟩, atL, lk, cap, lc⟩ := id isL
  simp only at lk lc
  subst lk
  subst lc
  have notSet := F.sub_list_set
  have notFro := F.sub_list_frozenset
  have notDict : (Value.type "list" == Value.type "dict") = false := by decide
  have lLt : l < s.heap.objs.size := Heap.lt_size atL
  have qLt : q < s.heap.objs.size := Heap.lt_size atQ
  have calm3 : A.in1.in1.handled = none := by simp [calm]
  have size : us.toArray.size = ns.length := by rw [List.size_toArray]; exact IntsAre.length areI
  have each : ∀ (i : Nat) (v : Value), us.toArray[i]? = some v → ∃ k t, ns[i]? = some k ∧ v = .int k t := fun i v e => by
    have e' : us[i]? = some v := by simpa using e
    have lt : i < ns.length := by rw [← IntsAre.length areI]; exact (List.getElem?_eq_some_iff.mp e').1
    obtain ⟨t, rfl⟩ := IntsAre.int_at areI i v e'
    refine ⟨ns[i], t, List.getElem?_eq_getElem lt, ?_⟩
    rw [List.getD_eq_getElem?_getD, List.getElem?_eq_getElem lt]
    rfl
  unfold Builtin.«set.__init__»
  unfold Builtin.Frozenset.updateFrom noKeywords
  generalize it_ : pyIter = walked
  wp_walk
  subst it_
  refine wpAny_pyIter_list isL (wpAny_bind (wpAny_runValue ?_))
  have fresh : l ≠ s.heap.objs.size := Nat.ne_of_lt lLt
  have apartQ : q ∉ [s.heap.objs.size, l] := by
    simp only [List.mem_cons, List.not_mem_nil, or_false, not_or]
    exact ⟨Nat.ne_of_lt qLt, ql⟩
  refine set_update_ints (Walks.list calm3 _ l fresh us.toArray).toS q apartQ ns size room each (us.toArray.size - 0) 0 _ (by omega) (Nat.zero_le _) ?start ?none fun t n mv few full => ?_
  case start => exact ⟨⟨_, Heap.get?_push_size _ rfl, rfl, rfl⟩, isL.push _⟩
  case none => exact ⟨0, Nat.le_refl _, setR_new_at (w := w) (Heap.get?_push_of_some _ atQ)⟩
  obtain ⟨h', gs, dr, tk, os⟩ := t
  obtain rfl : gs = s.gens := mv.gens
  obtain rfl : dr = s.drawn := mv.drawn
  obtain rfl : os = s.os := mv.os
  show wpAny _ _ _ _ _ _
  refine wpAny_pure ?_
  unfold ret
  rw [size] at few
  refine wpAny_pure ⟨rfl, h', tk, n, rfl, full, few, fun b o n e => ?_⟩
  have bLt := Heap.lt_size e
  refine mv.heap b o ?_ (Heap.get?_push_of_some _ e)
  simp only [List.mem_cons, List.not_mem_nil, or_false, not_or]
  exact ⟨n, Nat.ne_of_lt bLt⟩
/-- set(xs), xs a list of areI -/
theorem make_ints {l : Addr} {us : List Value} {ns : List Int} {Q : Value → Shared → Prop} (calm : A.handled = none) (isL : s.heap.IsList l us.toArray) (areI : IntsAre us ns) (room : ns.length + 1 < scanBound)
    (hQ : ∀ (h' : Heap) (tk n : Nat), SetR w h' s.heap.objs.size (fun j => decide (j ∈ ns)) n → n ≤ ns.length → (∀ b o, s.heap.get? b = some o → h'.get? b = some o) → Q (.ref s.heap.objs.size) { s with heap := h', toks := tk }) :
    wpAny (model prog w) A (call (Value.type "set") [Value.ref l]) Q E s := by
  obtain ⟨_, _, order⟩ := F.called_set.mro
  have made := F.called_set.made
  have subs := F.called_set.sub
  have plainT := F.called_set.notType
  have makes := F.called_set.canCreate
  have typed := F.typeCall_set_1 (.ref l)
  refine wpAny_call (codeAny_of_tree (show wpAny _ _ (callAny (.type "set") _) _ _ _ from ?_))
  refine wpAny_pure ⟨Code.quiet_builtin _ (by decide +kernel), codeAny_builtin F.entry_type_call ?walk⟩
  case walk =>
    rw [Around.under_plain (weight_type_call_type "set" [Value.ref l] []) (by rfl)]
    repeat any_goals first | assumption | wp_step
    refine codeAny_mono (code_set_led1 (.ref l) (E := E) (Q₁ := fun u t => u = .ref s.heap.objs.size ∧ t = { s with heap := s.heap.push (noSet w) }) ⟨rfl, rfl⟩) fun r t got => ?_
    cases r with
    | error _ => exact got
    | ok flow =>
      cases flow with
      | next => exact got.elim
      | brk => exact got.elim
      | cont => exact got.elim
      | ret u =>
        obtain ⟨rfl, rfl⟩ := got
        have atQ : (s.heap.push (noSet w)).get? s.heap.objs.size = some (noSet w) := Heap.get?_push_size _ rfl
        have qT : Shared.TypeIs { s with heap := s.heap.push (noSet w) } (.ref s.heap.objs.size) "set" := ⟨_, atQ, rfl⟩
        have found := F.called_set.init.lookup
        have bound := F.called_set.init.bind (.ref s.heap.objs.size)
        have ql : s.heap.objs.size ≠ l := fun e => by
          obtain ⟨_, atL, _⟩ := id isL
          exact Nat.lt_irrefl _ (e ▸ Heap.lt_size atL)
        repeat any_goals first | assumption | wp_step
        refine codeAny_mono (fill_ints (s := { s with heap := s.heap.push (noSet w) }) (E := E) (by simp [calm]) (isL.push _) areI room ql atQ) fun r t got => ?_
        cases r with
        | error _ => exact got
        | ok flow =>
          cases flow with
          | next => exact got.elim
          | brk => exact got.elim
          | cont => exact got.elim
          | ret u =>
            obtain ⟨rfl, h', tk, n, rfl, full, few, kept⟩ := got
            repeat any_goals first | assumption | wp_step
            exact hQ h' tk n full few fun b o e => kept b o (Nat.ne_of_lt (Heap.lt_size e)) (Heap.get?_push_of_some _ e)
end
/-- set(xs) of a list of areI -/
def rSetL (K : PySem.W.Frag) (w : World) : List V → Hp → VK → Prop := fun vs H Q => ∃ (p : Addr) (ns : List Int), vs = [.ref p] ∧ SqL K H p (ns.map V.int) ∧ ns.length ≤ 1000 ∧
  ∀ (q : Addr) (n : Nat), n ≤ ns.length → H q = none → Q (.ref q) (upd H q (SetO w q (fun j => decide (j ∈ ns)) n))
theorem cr_setL {X : Cx} (hc : X.calm = true) : CallR X (.type "set") (rSetL X.K X.w) := by
  intro pins s σ H vs us Q I rel h
  obtain ⟨p0, ns, rfl, hq, hl, q⟩ := h
  rw [Vals.ref1 rel]
  obtain ⟨its, rv, pt, _⟩ := I.list hq
  refine make_ints (I.ok.hd hc) pt.isList (by simpa using ints_of_vals rv) (by unfold scanBound; omega) fun h' tk n full few kept => ?_
  have free : H s.heap.objs.size = none := I.hok.fresh (Nat.le_refl _)
  exact ⟨.ref _, upd H s.heap.objs.size (SetO X.w s.heap.objs.size (fun j => decide (j ∈ ns)) n), I.laid kept (Nat.le_refl _) (setO_new full), rfl, q _ n few free⟩
end MbS

namespace Mb
open L2 PySem PySem.Spec PyProof.Rows
/-! ### heaps: the tables of code objects at Ts may grow, all else that is tracked stays -/
def Tabs (Ts : List Addr) (H : Hp) : Prop := ∀ P ∈ Ts, GxR.TabG H P
structure Kp (Ts : List Addr) (H H' : Hp) : Prop where
  t0 : Tabs Ts H
  keep : ∀ b o, b ∉ Ts → H b = some o → H' b = some o
  t1 : Tabs Ts H'
section
variable {Ts : List Addr} {H H1 H2 : Hp} {a b : Addr} {o : HO}
theorem Tabs.out (t : Tabs Ts H) (h : H a = some o) (n : ∀ ps, o ≠ .tbl ps) : a ∉ Ts := fun hm => by
  obtain ⟨ps, e, _⟩ := t a hm
  rw [h] at e
  exact n ps (Option.some.inj e)
theorem Tabs.outN (t : Tabs Ts H) (h : H a = none) : a ∉ Ts := fun hm => by
  obtain ⟨ps, e, _⟩ := t a hm
  rw [h] at e
  cases e
theorem Kp.refl (t : Tabs Ts H) : Kp Ts H H := ⟨t, fun _ _ _ e => e, t⟩
theorem Kp.trans (x : Kp Ts H H1) (y : Kp Ts H1 H2) : Kp Ts H H2 := ⟨x.t0, fun b o nb e => y.keep b o nb (x.keep b o nb e), y.t1⟩
theorem Kp.obj (x : Kp Ts H H1) (h : H a = some o) (n : ∀ ps, o ≠ .tbl ps) : H1 a = some o := x.keep a o (x.t0.out h n) h
theorem Kp.lst (x : Kp Ts H H1) {xs : List V} (h : H a = some (.lst xs)) : H1 a = some (.lst xs) := x.obj h fun _ q => by cases q
theorem Kp.ins (x : Kp Ts H H1) {C dx : Addr} {fs : List (Str × V)} (h : H a = some (.ins C dx fs)) : H1 a = some (.ins C dx fs) := x.obj h fun _ q => by cases q
theorem Kp.free (x : Kp Ts H H1) (h : H1 a = none) : H a = none := by
  cases q : H a with
  | none => rfl
  | some u =>
    have hn : a ∉ Ts := x.t1.outN h
    rw [x.keep a u hn q] at h
    cases h
theorem Kp.seq {K : PySem.W.Frag} {xs : List V} (x : Kp Ts H H1) (h : SqL K H a xs) : SqL K H1 a xs := by
  obtain (h | ⟨o, h⟩) | h := h
  · exact .inl (.inl (x.lst h))
  · exact .inl (.inr ⟨o, x.obj h fun _ q => by cases q⟩)
  · exact .inr h
theorem Tabs.put (t : Tabs Ts H) (h : a ∉ Ts) : Tabs Ts (upd H a o) := fun P hP => by
  obtain ⟨ps, e, r⟩ := t P hP
  have hn : P ≠ a := fun z => h (by rw [← z]; exact hP)
  exact ⟨ps, by rw [upd_ne hn]; exact e, r⟩
theorem Kp.new (x : Kp Ts H H1) (h : H1 a = none) : Kp Ts H (upd H1 a o) :=
  ⟨x.t0, fun b u nb e => by rw [upd_ne (ne_of_none (x.keep b u nb e) h)]; exact x.keep b u nb e, x.t1.put (x.t1.outN h)⟩
theorem Kp.own (x : Kp Ts H H1) (h : H a = none) (hn : a ∉ Ts) : Kp Ts H (upd H1 a o) :=
  ⟨x.t0, fun b u nb e => by rw [upd_ne (ne_of_none e h)]; exact x.keep b u nb e, x.t1.put hn⟩
theorem Kp.of_same (t : Tabs Ts H) (s : Same H H1) : Kp Ts H H1 := ⟨t, fun b o _ e => s b o e, fun P hP => by
  obtain ⟨ps, e, r⟩ := t P hP
  exact ⟨ps, s P _ e, r⟩⟩
/-- one table of several has grown -/
theorem Kp.grown {P : Addr} (t : Tabs Ts H) (hP : P ∈ Ts) (g : GxR.Tabbed P H H1) : Kp Ts H H1 := ⟨t, fun b o nb e => by rw [g.2 b (fun z => nb (by rw [z]; exact hP))]; exact e, fun R hR => by
  by_cases hb : R = P
  · rw [hb]; exact g.1
  · obtain ⟨ps, e, r⟩ := t R hR
    exact ⟨ps, by rw [g.2 R hb]; exact e, r⟩⟩
theorem Same.up (s : Same H H1) (h : H1 a = none) : Same H (upd H1 a o) := fun b u e => by
  rw [upd_ne (ne_of_none (s b u e) h)]
  exact s b u e
end
/-! ### lists of lists of ints -/
def RowsAt (H : Hp) (as : List Addr) (nss : List (List Int)) : Prop := as.length = nss.length ∧ ∀ (i : Nat) (a : Addr), as[i]? = some a → ∃ ns : List Int, nss[i]? = some ns ∧ H a = some (.lst (ns.map V.int))
theorem RowsAt.of {H : Hp} {as : List Addr} {nss : List (List Int)} (r : RowsAt H as nss) {i : Nat} {ns : List Int} (h : nss[i]? = some ns) : ∃ a, as[i]? = some a ∧ H a = some (.lst (ns.map V.int)) := by
  have hi : i < nss.length := (List.getElem?_eq_some_iff.mp h).1
  obtain ⟨a, ha⟩ : ∃ a, as[i]? = some a := ⟨as[i]'(by rw [r.1]; exact hi), List.getElem?_eq_getElem _⟩
  obtain ⟨ms, e, q⟩ := r.2 i a ha
  rw [h] at e
  cases e
  exact ⟨a, ha, q⟩
theorem RowsAt.kp {Ts : List Addr} {H H1 : Hp} {as : List Addr} {nss : List (List Int)} (r : RowsAt H as nss) (k : Kp Ts H H1) : RowsAt H1 as nss :=
  ⟨r.1, fun i a e => let ⟨ns, h1, h2⟩ := r.2 i a e; ⟨ns, h1, k.lst h2⟩⟩
theorem RowsAt.same {H H1 : Hp} {as : List Addr} {nss : List (List Int)} (r : RowsAt H as nss) (k : Same H H1) : RowsAt H1 as nss :=
  ⟨r.1, fun i a e => let ⟨ns, h1, h2⟩ := r.2 i a e; ⟨ns, h1, k _ _ h2⟩⟩
theorem RowsAt.nil {H : Hp} : RowsAt H [] [] := ⟨rfl, fun i a e => by simp at e⟩
theorem RowsAt.snoc {H : Hp} {as : List Addr} {nss : List (List Int)} {a : Addr} {ns : List Int} (r : RowsAt H as nss) (h : H a = some (.lst (ns.map V.int))) : RowsAt H (as ++ [a]) (nss ++ [ns]) := by
  refine ⟨by rw [List.length_append, List.length_append, r.1]; rfl, fun i b e => ?_⟩
  by_cases hi : i < as.length
  · rw [List.getElem?_append_left hi] at e
    obtain ⟨ms, h1, h2⟩ := r.2 i b e
    exact ⟨ms, by rw [List.getElem?_append_left (by rw [← r.1]; exact hi)]; exact h1, h2⟩
  · have hi2 : i = as.length := by
      have := (List.getElem?_eq_some_iff.mp e).1
      rw [List.length_append, List.length_singleton] at this
      omega
    subst hi2
    rw [List.getElem?_append_right (Nat.le_refl _), Nat.sub_self] at e
    have : a = b := by simpa using e
    subst this
    refine ⟨ns, ?_, h⟩
    rw [r.1, List.getElem?_append_right (Nat.le_refl _), Nat.sub_self]
    rfl
theorem dpInts {K : PySem.W.Frag} {H : Hp} : ∀ ns : List Int, DpAll K H (ns.map V.int) (ns.map PyData.int)
  | [] => .nil
  | n :: r => .cons (.int n) (dpInts r)
theorem layInts : ∀ ns : List Int, PyData.canLayAll0 (ns.map PyData.int) = true ∧ PyData.depthAll (ns.map PyData.int) = 0
  | [] => ⟨rfl, rfl⟩
  | n :: r => by
    obtain ⟨h1, h2⟩ := layInts r
    refine ⟨?_, ?_⟩
    · show (PyData.canLay0 (.int n) && PyData.canLayAll0 (r.map PyData.int)) = true
      rw [h1]; rfl
    · show max (PyData.depth (.int n)) (PyData.depthAll (r.map PyData.int)) = 0
      rw [h2]; rfl
theorem shInts (ns : List Int) : SeqAt.shaped (.list (ns.map PyData.int)) = true := by
  obtain ⟨h1, h2⟩ := layInts ns
  show (PyData.canLayAll0 (ns.map PyData.int) && decide (PyData.depthAll (ns.map PyData.int) + 1 ≤ 64)) = true
  rw [h1, h2]; rfl
theorem layRows : ∀ nss : List (List Int), PyData.canLayAll0 (nss.map fun ns => .list (ns.map PyData.int)) = true ∧ PyData.depthAll (nss.map fun ns => .list (ns.map PyData.int)) ≤ 1
  | [] => ⟨rfl, Nat.zero_le _⟩
  | ns :: r => by
    obtain ⟨h1, h2⟩ := layRows r
    obtain ⟨k1, k2⟩ := layInts ns
    refine ⟨?_, ?_⟩
    · show (PyData.canLayAll0 (ns.map PyData.int) && PyData.canLayAll0 (r.map fun ns => .list (ns.map PyData.int))) = true
      rw [h1, k1]; rfl
    · show max (PyData.depthAll (ns.map PyData.int) + 1) (PyData.depthAll (r.map fun ns => .list (ns.map PyData.int))) ≤ 1
      rw [k2]
      omega
theorem shRows (nss : List (List Int)) : SeqAt.shaped (.list (nss.map fun ns => .list (ns.map PyData.int))) = true := by
  obtain ⟨h1, h2⟩ := layRows nss
  show (PyData.canLayAll0 (nss.map fun ns => .list (ns.map PyData.int)) && decide (PyData.depthAll (nss.map fun ns => .list (ns.map PyData.int)) + 1 ≤ 64)) = true
  rw [h1, decide_eq_true (by omega)]; rfl
theorem eqInts : ∀ ns ms : List Int, PyData.eqvAll (ns.map PyData.int) (ms.map PyData.int) = decide (ns = ms)
  | [], [] => rfl
  | [], _ :: _ => rfl
  | _ :: _, [] => rfl
  | n :: r, m :: q => by
    show ((n == m) && PyData.eqvAll (r.map PyData.int) (q.map PyData.int)) = _
    rw [eqInts r q]
    by_cases h : n = m
    · subst h; simp
    · simp [h]
theorem eqRows : ∀ ns ms : List (List Int), PyData.eqvAll (ns.map fun ns => .list (ns.map PyData.int)) (ms.map fun ns => .list (ns.map PyData.int)) = decide (ns = ms)
  | [], [] => rfl
  | [], _ :: _ => rfl
  | _ :: _, [] => rfl
  | n :: r, m :: q => by
    show (PyData.eqvAll (n.map PyData.int) (m.map PyData.int) && PyData.eqvAll (r.map fun ns => .list (ns.map PyData.int)) (q.map fun ns => .list (ns.map PyData.int))) = _
    rw [eqRows r q, eqInts n m]
    by_cases h : n = m
    · subst h; simp
    · simp [h]
abbrev gridD (nss : List (List Int)) : PyData := .list (nss.map fun ns => .list (ns.map PyData.int))
abbrev rowD (ns : List Int) : PyData := .list (ns.map PyData.int)
theorem dpRows {K : PySem.W.Frag} {H : Hp} : ∀ (as : List Addr) (nss : List (List Int)), RowsAt H as nss → DpAll K H (as.map V.ref) (nss.map fun ns => .list (ns.map PyData.int))
  | [], [], _ => .nil
  | [], _ :: _, r => by have := r.1; simp at this
  | _ :: _, [], r => by have := r.1; simp at this
  | a :: as, ns :: nss, r => by
    obtain ⟨ms, e, h⟩ := r.2 0 a rfl
    have e' : ns = ms := by simpa using e
    subst e'
    exact .cons (.lst (SqL.of h) (dpInts ns)) (dpRows as nss ⟨by have := r.1; simpa using this, fun i b q => by simpa using r.2 (i + 1) b (by simpa using q)⟩)
theorem dpGrid {K : PySem.W.Frag} {H : Hp} {l : Addr} {as : List Addr} {nss : List (List Int)} (h : H l = some (.lst (as.map V.ref))) (r : RowsAt H as nss) : Dp K H (.ref l) (gridD nss) := .lst (SqL.of h) (dpRows as nss r)
/-! ### a def whose code object is known -/
structure FunC (K : PySem.W.Frag) (x qual : Str) (st : Stmt) (f : Addr) (fd : FuncData) (c : Addr) : Prop where
  ex : ∃ (oc : Value) (od : Option Addr) (kV doc pm : Value) (an : Option Addr) (ct : Value) (osl : Array (Option Value)),
    fd = PySem.W.fnOf x qual (defArgs st) (defBody st) (defScope st) .none kV doc pm an (.ref c) ct ∧ K.lookup f = some ⟨oc, od, .func fd, osl⟩ ∧ PySem.W.codeIn K (.ref c) qual = true
  kp : (PySem.W.keepIn K (.ref f)) = true
theorem FunC.fn {K : PySem.W.Frag} {x qual : Str} {st : Stmt} {f : Addr} {fd : FuncData} {c : Addr} (F : FunC K x qual st f fd c) : Fun K x qual st f fd := by
  obtain ⟨oc, od, kV, doc, pm, an, ct, osl, e, l, h⟩ := F.ex
  exact ⟨⟨oc, od, kV, doc, pm, an, .ref c, ct, osl, e, l, h⟩, F.kp⟩
section
variable {K : PySem.W.Frag} {P : Program} {w : World} {mg : Str → Option Value} {base : Heap}
theorem FunC.ok {x qual : Str} {st : Stmt} {f c : Addr} {fd : FuncData} {N ps : List Str} {k : Nat} {sp : Sp} (F : FunC K x qual st f fd c) (S : FnScope N ps (defScope st)) (len : ∀ vs H Q E, sp vs H Q E → vs.length = ps.length)
    (hb : ∀ (A : Around) (outer : List Env) (s : Shared) (H : Hp) (vs : List V) (Q : VK) (E : XK), Room k (A.deeper (envOfC qual (defScope st) s.heap.objs.size f (.ref c))) → sp vs H Q E →
      ∃ t, PSs (cxOf CX0 P w K mg base N qual (defScope st) f (.ref c) A outer s H E).nox (defBody st) t ∧ t { nx := fun _ H' => Q .non H', rt := Q } (start N vs) H) : FnOk P w K mg base CX0 (k + 1) f fd ps sp := by
  obtain ⟨oc, od, kV, doc, pm, an, ct, osl, rfl, l, h⟩ := F.ex
  refine fn_of l h S len fun A outer s H vs Q E hr hsp => ?_
  obtain ⟨t, p, q⟩ := hb A outer s H vs Q E hr hsp
  exact ⟨t, p.nox, q⟩
end
/-! ### an object made within a try: what is raised is wished for at any slots -/
def EM (n : Nat) (W : WX) : XK := fun cls d H => ∀ σ : L2.St, σ.length = n → W cls d σ H
theorem passM {X : Cx} {W : WX} (tk : Takes X W) : Passes (L2.CX X.prog X.w) X (EM X.N.length W) := fun _ σ _ _ e s' I c => tk e s' (XE.of_call I (fun _ _ _ h => h σ I.len) c)
/-! ### the end, with the tables of every def of the top -/
def TabsOf (K : PySem.W.Frag) (q : Program) (h : Heap) : Prop := ∀ (x : Str) (c P : Addr), ((recsOf q).find? fun e => e.name == x).isSome = true → PySem.W.tabIn K x = some (c, P) → PySem.W.CodeHd h c P ∧ h.get? P = some { cls := .none, data := .fields #[] }
theorem walk_tabs {l : PySem.W.OpenLaw} {n k : Nat} {q : Program} {loose : List Str} {XP : (Str → Option Value) → Heap → Prop} {YP : World → Heap → Prop} {d : DefRec} {K : Params → PySem.W.Frag} {CX : World → CXT} {x : Str}
    (few : l.most = some n) (line : n ≤ sizeLine) (bare : d.params.defaults = []) (room : Room k callerA) (written : ∀ (w : World) (h : Heap), YP w h → (K w.params).In h)
    (F : ∀ (w : World) (mg : Str → Option Value) (fa : Addr) (h : Heap), (K w.params).In h → h.Ns mainGlobals mg → mg d.name = some (.ref fa) → TabsOf (K w.params) q h → LamX.LawAtS l w (K w.params) (CX w) k n x mg fa h)
    (shut : ∀ (w : World) (H : Hp) (s : Shared) (e : Value) (t : Shared), CX w [] H s (fun _ _ _ => False) e t → False) : PySem.W.WalkO q loose XP YP l.row.toRowW d [] (fun f vs => PySem.call f vs) := by
  refine Att.attach_callB few bare fun w s₀ s₁ mg mb fa o pm cd doc a vs ns G Y _ _ _ hmg hobj hints hlen hbits hg => ?_
  have hK := written w _ Y
  have tabs : TabsOf (K w.params) q s₁.heap := fun y c P h1 h2 => by
    cases hf : (recsOf q).find? fun e => e.name == y with
    | none => rw [hf] at h1; cases h1
    | some r => exact PySem.W.tab_of G.T hK hf h2
  obtain ⟨fd, cs, sp, a1, a2, a3, a4, a5, a6⟩ := F w mg fa _ hK G.T.g hmg tabs
  exact LamX.law_callTs hK G.T.g G.T.b G.T.builtins G.T.nolimit hg a1 a2 a3 G.T.bmain hobj hints (Nat.le_trans hlen line) room a6 a4 (fun H hH hS => a5 H a ns hlen hbits hH hS) fun H e t => shut w H s₁ e t
end Mb

namespace Mb
open L2 PySem PySem.Spec PyProof.Rows
def top (i : Nat) : Stmt := PySem.Challenge.pw_markbox_k02_tables_made.main.body.getD i (.Pass ⟨0, 0, 0, 0⟩)
abbrev sTold : Stmt := top 8
abbrev sBelow : Stmt := top 9
abbrev sSizes : Stmt := top 13
abbrev sMarks : Stmt := top 14
abbrev sInit : Stmt := inClass (top 15) 0
/-! ### the mathematics -/
def okRow (n : Int) (ns : List Int) : Bool := ns.all fun k => decide (0 ≤ k) && decide (k < n)
def badSize (n : Int) (len : Nat) : Prop := n < 0 ∨ n > 8 ∨ len > 12
/-- ms is the set ns as it is told -/
def Told (ns ms : List Int) : Prop := ms.Pairwise (· < ·) ∧ ∀ k, k ∈ ms ↔ k ∈ ns
/-! ### what the top has written -/
structure Txt (K : PySem.W.Frag) (mg : Str → Option Value) (CS CM : Addr) : Prop where
  sorted : mg "sorted" = none
  set : mg "set" = none
  all : mg "all" = none
  len : mg "len" = none
  mm : ∃ t, mg "MOST_MARKS" = some (.int 8 t)
  mt : ∃ t, mg "MOST_THINGS" = some (.int 12 t)
  gS : mg "BadSize" = some (.ref CS)
  gM : mg "BadMark" = some (.ref CM)
  xS : ∃ b, PySem.W.excIn K CS b "ValueError.__new__" = true ∧ b = [.type "ValueError", .type "Exception", .type "BaseException", .type "object"]
  xM : ∃ b, PySem.W.excIn K CM b "ValueError.__new__" = true ∧ b = [.type "ValueError", .type "Exception", .type "BaseException", .type "object"]
  kS : PySem.W.keepIn K (.ref CS) = true
  kM : PySem.W.keepIn K (.ref CM) = true
  bS : PySem.W.subIn K (.ref CS) (.type "BaseException") = some true
  bM : PySem.W.subIn K (.ref CM) (.type "BaseException") = some true
  tS : PySem.W.typeIn K (.ref CS) = some (.type "type")
  tM : PySem.W.typeIn K (.ref CM) = some (.type "type")
section
variable {P : Program} {w : World} {K : PySem.W.Frag} {mg : Str → Option Value} {base : Heap} {CS CM : Addr}
/-! ### told(numbers) -/
def spTold (K : PySem.W.Frag) : Sp := fun vs H Q _ => ∃ (a : Addr) (ns : List Int), vs = [.ref a] ∧ SqL K H a (ns.map V.int) ∧ ns.length ≤ 60 ∧
  ∀ (H' : Hp) (p : Addr) (ms : List Int), Same H H' → H p = none → H' p = some (.lst (ms.map V.int)) → Told ns ms → Q (.ref p) H'
theorem scTold : FnScope ["numbers"] ["numbers"] (defScope sTold) := ⟨rfl, rfl, rfl, by decide +kernel, rfl, by decide +kernel, by decide +kernel⟩
theorem ok_told {f : Addr} {fd : FuncData} (F : Fun K "told" "told" sTold f fd) (T : Txt K mg CS CM) : FnOk P w K mg base CX0 1 f fd ["numbers"] (spTold K) := by
  refine F.ok scTold (fun vs H Q E h => ?_) (fun cdv A outer s H vs Q E hr h => ?_)
  · obtain ⟨a, ns, rfl, _⟩ := h
    rfl
  · obtain ⟨a, ns, rfl, hS, hl, k⟩ := h
    refine ⟨_, pss_one (ps_ret (pe_callB (cr_sortedSet rfl) (by rfl) T.sorted (by decide +kernel) (pa_cons (pe_callTy (MbS.cr_setL rfl) (by rfl) T.set (by decide +kernel) (pa_cons (pv 0) pa_nil)) pa_nil))), ?_⟩
    refine ⟨_, rfl, a, ns, rfl, hS, by omega, fun q n hn hq => ?_⟩
    refine ⟨q, _, n, rfl, upd_same, by omega, fun ms p h1 h2 h3 hp => ?_⟩
    have hqp : H p = none := by
      by_cases e : p = q
      · rw [e]; exact hq
      · rw [upd_ne e] at hp; exact hp
    refine k _ p ms (Same.up (Same.up (Same.refl H) hq) hp) hqp upd_same ⟨h1, fun z => ?_⟩
    rw [h2 z, decide_eq_true_eq]
/-! ### all_below(numbers, many) -/
def spBelow (K : PySem.W.Frag) (Ts : List Addr) : Sp := fun vs H Q _ => ∃ (a : Addr) (ns : List Int) (n : Int), vs = [.ref a, .int n] ∧ SqL K H a (ns.map V.int) ∧ Tabs Ts H ∧ ∀ H', Kp Ts H H' → Q (.bl (okRow n ns)) H'
theorem scBelow : FnScope ["numbers", "many"] ["numbers", "many"] (defScope sBelow) := ⟨rfl, rfl, rfl, by decide +kernel, rfl, by decide +kernel, by decide +kernel⟩
theorem ok_below {f c Pt : Addr} {fd : FuncData} {Ts : List Addr} (F : FunC K "all_below" "all_below" sBelow f fd c) (T : Txt K mg CS CM) (TB : GxR.TabB base mg c Pt) (hPt : Pt ∈ Ts) : FnOk P w K mg base CX0 1 f fd ["numbers", "many"] (spBelow K Ts) := by
  refine F.ok scBelow (fun vs H Q E h => ?_) (fun A outer s H vs Q E hr h => ?_)
  · obtain ⟨a, ns, n, rfl, _⟩ := h
    rfl
  · obtain ⟨a, ns, n, rfl, hS, tb, k⟩ := h
    refine ⟨_, pss_one (ps_ret (MbX.pe_allL hr (by rfl) T.all TB rfl (MbX.genN_by (sc := defScope sBelow) rfl (by decide +kernel)) (pv 0) (MbX.elt_below (j := 1) (cap := "many") rfl (.inl rfl) rfl (by decide +kernel) rfl rfl) (by intro _; rfl))), ?_⟩
    refine ⟨_, rfl, a, ns.map V.int, _, rfl, hS, ⟨ns, n, rfl, rfl, rfl⟩, tb Pt hPt, fun H2 g => ?_⟩
    have e := k H2 (Kp.grown tb hPt g)
    rw [List.length_map, MbX.all_trOf]
    exact e
/-! ### check_sizes(many, rows) -/
def spSizes (K : PySem.W.Frag) (CS : Addr) : Sp := fun vs H Q E => ∃ (a : Addr) (ws : List V) (n : Int), vs = [.int n, .ref a] ∧ SqL K H a ws ∧ (badSize n ws.length → E (.ref CS) none H) ∧ (¬ badSize n ws.length → Q .non H)
theorem scSizes : FnScope ["many", "rows"] ["many", "rows"] (defScope sSizes) := ⟨rfl, rfl, rfl, by decide +kernel, rfl, by decide +kernel, by decide +kernel⟩
theorem raiseS {X : Cx} (T : Txt X.K X.mg CS CM) : Raises X (.ref CS) := raises_own T.bS T.tS
theorem ok_sizes {f : Addr} {fd : FuncData} (F : Fun K "check_sizes" "check_sizes" sSizes f fd) (T : Txt K mg CS CM) : FnOk P w K mg base (L2.CX P w) 1 f fd ["many", "rows"] (spSizes K CS) := by
  refine F.okX scSizes (fun vs H Q E h => ?_) (fun cdv A outer s H vs Q E hr h => ?_)
  · obtain ⟨a, ws, n, rfl, _⟩ := h
    rfl
  · obtain ⟨a, ws, n, rfl, hS, kE, kQ⟩ := h
    obtain ⟨bS, xS, rfl⟩ := T.xS
    obtain ⟨t8, h8⟩ := T.mm
    obtain ⟨t12, h12⟩ := T.mt
    refine ⟨_, pss_cons (ps_if (PW.pt (pw_or (pt_cmpR op_lt (pv 0) pe_int (nomark _)) (pw_or1 (pt_cmpR op_gt (pv 0) (pe_glob (v := .int 8) (by rfl) h8 ⟨_, rfl⟩) (nomark _)))))
        (pss_one (ps_raise rfl (takes_of rfl rfl rfl rfl) (SkE.pmk_own1 PySem.F.excBase_ValueError xS T.gS T.kS (raises_own T.bS T.tS) (by rfl)
          (pe_joined (.cons pe_str (.cons (pe_fmt (pe_glob (v := .int 8) (by rfl) h8 ⟨_, rfl⟩)) (.cons pe_str .nil))))))) pss_nil)
      (pss_one (ps_if (pt_cmpR op_gt (pe_callB call_len_seq (by rfl) T.len PySem.boot_len (pa_cons (pv 1) pa_nil)) (pe_glob (v := .int 12) (by rfl) h12 ⟨_, rfl⟩) (nomark _))
        (pss_one (ps_raise rfl (takes_of rfl rfl rfl rfl) (SkE.pmk_own1 PySem.F.excBase_ValueError xS T.gS T.kS (raises_own T.bS T.tS) (by rfl)
          (pe_joined (.cons pe_str (.cons (pe_fmt (pe_glob (v := .int 12) (by rfl) h12 ⟨_, rfl⟩)) (.cons pe_str .nil))))))) pss_nil)), ?_⟩
    refine ⟨_, rfl, ⟨_, _, rfl, rfl, ⟨_, rfl, ?_⟩⟩⟩
    apply ite2 <;> intro c
    · refine iteT ⟨_, rfl, by decide +kernel, .inr ⟨8, rfl, by decide, _, rfl, by decide +kernel, _, rfl, by decide +kernel, ?_⟩⟩
      exact kE (.inl (of_decide_eq_true c))
    refine ⟨_, rfl, ⟨_, _, rfl, rfl, ⟨_, rfl, ?_⟩⟩⟩
    refine ite2 (fun d => ?_) (fun d => ?_)
    · refine ⟨_, rfl, by decide +kernel, .inr ⟨8, rfl, by decide, _, rfl, by decide +kernel, _, rfl, by decide +kernel, ?_⟩⟩
      exact kE (.inr (.inl (of_decide_eq_true d)))
    refine ⟨_, rfl, a, _, rfl, .inl hS, _, _, rfl, rfl, _, rfl, ?_⟩
    refine ite2 (fun e => ?_) (fun e => ?_)
    · refine ⟨_, rfl, by decide +kernel, .inr ⟨12, rfl, by decide, _, rfl, by decide +kernel, _, rfl, by decide +kernel, ?_⟩⟩
      have e' := of_decide_eq_true e
      exact kE (.inr (.inr (by omega)))
    · refine kQ fun z => ?_
      rcases z with z | z | z
      · exact c (decide_eq_true z)
      · exact d (decide_eq_true z)
      · exact e (decide_eq_true (by omega))
/-! ### check_marks(marks, many) -/
def spMarks (K : PySem.W.Frag) (CM : Addr) (Ts : List Addr) : Sp := fun vs H Q E => ∃ (a : Addr) (ns : List Int) (n : Int), vs = [.ref a, .int n] ∧ SqL K H a (ns.map V.int) ∧ Tabs Ts H ∧ (okRow n ns = false → ∀ H', Kp Ts H H' → E (.ref CM) none H') ∧ (okRow n ns = true → ∀ H', Kp Ts H H' → Q .non H')
theorem scMarks : FnScope ["marks", "many"] ["marks", "many"] (defScope sMarks) := ⟨rfl, rfl, rfl, by decide +kernel, rfl, by decide +kernel, by decide +kernel⟩
theorem ok_marks {f fB : Addr} {fd fdB : FuncData} {Ts : List Addr} (F : Fun K "check_marks" "check_marks" sMarks f fd) (T : Txt K mg CS CM) (GB : FnOk P w K mg base CX0 1 fB fdB ["numbers", "many"] (spBelow K Ts)) (gB : mg "all_below" = some (.ref fB)) (kB : PySem.W.keepIn K (.ref fB) = true) (bB : Binds K fdB ["numbers", "many"] []) :
    FnOk P w K mg base (L2.CX P w) 2 f fd ["marks", "many"] (spMarks K CM Ts) := by
  refine F.okX scMarks (fun vs H Q E h => ?_) (fun cdv A outer s H vs Q E hr h => ?_)
  · obtain ⟨a, ns, n, rfl, _⟩ := h
    rfl
  · obtain ⟨a, ns, n, rfl, hS, tb, kE, kQ⟩ := h
    obtain ⟨bM, xM, rfl⟩ := T.xM
    refine ⟨_, pss_one (ps_if (pt_not (pt_val (pe_call GB hr (by rfl) gB kB bB .nil pass0 (pa_cons (pv 0) (pa_cons (pv 1) pa_nil)))))
        (pss_one (ps_raise rfl (takes_of rfl rfl rfl rfl) (pmk_own PySem.F.excBase_ValueError xM T.gM T.kM (raises_own T.bM T.tM) (by rfl)))) pss_nil), ?_⟩
    refine ⟨_, rfl, _, rfl, a, ns, n, rfl, hS, tb, fun H' kp => ⟨_, rfl, ?_⟩⟩
    cases e : okRow n ns with
    | false => exact iteT (kE e H' kp)
    | true => exact iteF (kQ e H' kp)
/-! ### Table.__init__(self, many, rows) -/
/-- the fields of a table: its count, the list of its rows -/
def tf (n : Int) (r : Addr) : List (Str × V) := putF "rows" (.ref r) (putF "many" (.int n) [])
theorem mr_ : ¬ (("many" : Str) = "rows") := by decide +kernel
theorem tf_many (n : Int) (r : Addr) : (tf n r).lookup ("many" : Str) = some (.int n) := by
  unfold tf
  rw [lookup_putF, if_neg mr_, lookup_putF, if_pos rfl]
theorem tf_rows (n : Int) (r : Addr) : (tf n r).lookup ("rows" : Str) = some (.ref r) := by
  unfold tf
  rw [lookup_putF, if_pos rfl]
/-- each row as it is told -/
def AllTold (nss mss : List (List Int)) : Prop := nss.length = mss.length ∧ ∀ (i : Nat) (ns ms : List Int), nss[i]? = some ns → mss[i]? = some ms → Told ns ms
/-- behind H a table stands at x, its rows new -/
structure MadeAt (Ts : List Addr) (C : Addr) (H H' : Hp) (x : Addr) (n : Int) (mss : List (List Int)) : Prop where
  kp : Kp Ts H H'
  new : H x = none
  ob : ∃ (dx r : Addr) (ts : List Addr), H' x = some (.ins C dx (tf n r)) ∧ H r = none ∧ H' r = some (.lst (ts.map V.ref)) ∧ (∀ t ∈ ts, H t = none) ∧ RowsAt H' ts mss
def spInit (K : PySem.W.Frag) (C CS CM : Addr) (Ts : List Addr) : Sp := fun vs H Q E => ∃ (H0 : Hp) (x dx l : Addr) (n : Int) (as : List Addr) (nss : List (List Int)), vs = [.ref x, .int n, .ref l] ∧ Kp Ts H0 H ∧ H0 x = none ∧ H x = some (.ins C dx []) ∧
  H l = some (.lst (as.map V.ref)) ∧ RowsAt H as nss ∧ as.length ≤ 60 ∧ (∀ ns ∈ nss, ns.length ≤ 60) ∧
  (badSize n nss.length → ∀ H', Kp Ts H0 H' → E (.ref CS) none H') ∧
  (¬ badSize n nss.length → (∃ ns ∈ nss, okRow n ns = false) → ∀ H', Kp Ts H0 H' → E (.ref CM) none H') ∧
  (¬ badSize n nss.length → (∀ ns ∈ nss, okRow n ns = true) → ∀ H' mss, MadeAt Ts C H0 H' x n mss → AllTold nss mss → Q .non H')
theorem scInit : FnScope ["self", "many", "rows", "row"] ["self", "many", "rows"] (defScope sInit) := ⟨rfl, rfl, rfl, by decide +kernel, rfl, by decide +kernel, by decide +kernel⟩
theorem ok_init {f C fT fS fM : Addr} {fd fdT fdS fdM : FuncData} {Ts : List Addr} (F : Fun K "__init__" "Table.__init__" sInit f fd) (T : Txt K mg CS CM) (cl : Cls K C) (nM : NoAttr K C "many") (nR : NoAttr K C "rows")
    (GT : FnOk P w K mg base CX0 1 fT fdT ["numbers"] (spTold K)) (gT : mg "told" = some (.ref fT)) (kT : PySem.W.keepIn K (.ref fT) = true) (bT : Binds K fdT ["numbers"] [])
    (GS : FnOk P w K mg base (L2.CX P w) 1 fS fdS ["many", "rows"] (spSizes K CS)) (gS : mg "check_sizes" = some (.ref fS)) (kS : PySem.W.keepIn K (.ref fS) = true) (bS : Binds K fdS ["many", "rows"] [])
    (GM : FnOk P w K mg base (L2.CX P w) 2 fM fdM ["marks", "many"] (spMarks K CM Ts)) (gM : mg "check_marks" = some (.ref fM)) (kM : PySem.W.keepIn K (.ref fM) = true) (bM : Binds K fdM ["marks", "many"] []) :
    FnOk P w K mg base (L2.CX P w) 3 f fd ["self", "many", "rows"] (spInit K C CS CM Ts) := by
  refine F.okX scInit (fun vs H Q E h => ?_) (fun cdv A outer s H vs Q E hr h => ?_)
  · obtain ⟨H0, x, dx, l, n, as, nss, rfl, _⟩ := h
    rfl
  · obtain ⟨H0, x, dx, l, n, as, nss, rfl, kp0, nx, hx, hl, hrows, hlen, hlens, k1, k2, k3⟩ := h
    have hr1 := hr.mono (j := 1) (by decide)
    refine ⟨_, pss_cons (ps_expr (pe_call GS hr1 (by rfl) gS kS bS .nil (passes_call (takes_of rfl rfl rfl rfl) fun _ _ _ _ e => e) (pa_cons (pv 1) (pa_cons (pv 2) pa_nil))))
      (pss_cons (ps_for PassesOwn.leaving rfl (pi_list (pv 2)) (pg_name (i := 3) scInit.nd rfl (Or.inl rfl))
        (pss_one (ps_expr (pe_call GM hr (by rfl) gM kM bM .nil (passes_call (takes_of rfl rfl rfl rfl) fun _ _ _ _ e => e) (pa_cons (pv 3) (pa_cons (pv 1) pa_nil))))))
      (pss_cons (ps_fld (pv 0) (pv 1) rfl)
      (pss_one (ps_fld (pv 0) (pe_lc (own := [("row", 3)]) (g := gName 3) (tt := tYes) rfl scInit.nd (pi_list (pv 2)) (blkOk_by (N := ["self", "many", "rows", "row"]) (sc := defScope sInit) (by decide +kernel)) (fun _ _ _ _ _ => pg_name (i := 3) scInit.nd rfl (Or.inl rfl)) (fun _ _ _ _ _ => pts_nil)
        (fun _ _ _ _ _ => pe_call GT hr1 (by rfl) gT kT bT .nil pass0 (pa_cons (pv 3) pa_nil))) rfl)))), ?_⟩
    have hlm : (as.map V.ref).length = nss.length := by rw [List.length_map, hrows.1]
    refine ⟨_, rfl, _, rfl, l, _, n, rfl, SqL.of hl, fun bad => k1 (by rw [← hlm]; exact bad) H kp0, fun ok1 => ?_⟩
    have ok1' : ¬ badSize n nss.length := by rw [← hlm]; exact ok1
    have k2' := k2 ok1'
    have k3' := k3 ok1'
    refine ⟨_, rfl, l, rfl, ⟨_, SqL.of hl⟩, for_list (K := K) (a := l) (xs := as.map V.ref) (fun i σ H' => ∃ v : Option V, σ = [some (.ref x), some (.int n), some (.ref l), v] ∧ Kp Ts H H' ∧ ∀ j ns, j < i → nss[j]? = some ns → okRow n ns = true)
      ⟨none, rfl, Kp.refl kp0.t1, fun j ns hj => absurd hj (Nat.not_lt_zero _)⟩ (fun i σ H' _ ⟨_, _, kp, _⟩ => SqL.of (kp.lst hl)) ?_ ?_⟩
    · rintro i y σ H1 hy ⟨v, rfl, kp, hall⟩
      obtain ⟨a, ha, rfl⟩ : ∃ a, as[i]? = some a ∧ y = V.ref a := by
        rw [List.getElem?_map] at hy
        cases q : as[i]? with
        | none => rw [q] at hy; cases hy
        | some a => rw [q] at hy; exact ⟨a, rfl, (Option.some.inj hy).symm⟩
      obtain ⟨ns, hns, hA⟩ := hrows.2 i a ha
      refine ⟨_, rfl, _, rfl, a, ns, n, rfl, SqL.of (kp.lst hA), kp.t1, fun e H2 kp2 => ?_, fun e H2 kp2 => ?_⟩
      · exact k2' ⟨ns, List.mem_of_getElem? hns, e⟩ H2 ((kp0.trans kp).trans kp2)
      · refine ⟨some (.ref a), rfl, kp.trans kp2, fun j ms hj hm => ?_⟩
        by_cases hji : j = i
        · subst hji
          rw [hns] at hm
          cases hm
          exact e
        · exact hall j ms (by omega) hm
    · rintro σ H1 ⟨v, rfl, kp, hall⟩
      have hok : ∀ ns ∈ nss, okRow n ns = true := fun ns hm => by
        obtain ⟨j, hj, e⟩ := List.getElem_of_mem hm
        exact hall j ns (by rw [hlm]; exact hj) (by rw [List.getElem?_eq_getElem hj, e])
      have hx1 := kp.ins hx
      have hxT : x ∉ Ts := kp.t1.out hx1 fun _ q => by cases q
      refine ⟨_, rfl, _, rfl, x, C, dx, [], rfl, hx1, cl, nM, by decide, ?_⟩
      have kx : ∀ {o : HO}, Kp Ts H0 (upd H1 x o) := fun {o} => (kp0.trans kp).own nx hxT
      have lx : l ≠ x := ne_of hl hx (by intro q; cases q)
      have hl2 : (upd H1 x (.ins C dx (putF "many" (.int n) []))) l = some (.lst (as.map V.ref)) := by
        rw [upd_ne lx]; exact kp.lst hl
      generalize hH2 : upd H1 x (.ins C dx (putF "many" (.int n) [])) = H2 at hl2
      have kp2 : Kp Ts H0 H2 := by rw [← hH2]; exact kx
      have hx2 : H2 x = some (.ins C dx (putF "many" (.int n) [])) := by rw [← hH2]; exact upd_same
      have rows2 : RowsAt H2 as nss := ⟨hrows.1, fun i a e => by
        obtain ⟨ns, h1, h2⟩ := hrows.2 i a e
        refine ⟨ns, h1, ?_⟩
        have ax : a ≠ x := ne_of h2 hx (by intro q; cases q)
        rw [← hH2, upd_ne ax]
        exact kp.lst h2⟩
      refine ⟨_, rfl, l, rfl, ⟨_, SqL.of hl2⟩, fun D hD => lc_list (K := K) (a := l) (xs := as.map V.ref) (fun i H3 => ∃ (ts : List Addr) (mss : List (List Int)), H3 D = some (.lst (ts.map V.ref)) ∧ Kp Ts H2 H3 ∧ ts.length = i ∧ RowsAt H3 ts mss ∧ AllTold (nss.take i) mss ∧ ∀ t ∈ ts, H2 t = none ∧ t ≠ D)
        ⟨[], [], upd_same, (Kp.refl kp2.t1).new hD, rfl, RowsAt.nil, ⟨rfl, fun i ns ms h => by simp at h⟩, fun t ht => by cases ht⟩ (fun i H3 _ ⟨_, _, _, k, _⟩ => SqL.of (k.lst hl2)) ?_ ?_⟩
      · rintro i y H3 hy ⟨ts, mss, hD3, kp3, hti, hR, hT, hnew⟩
        obtain ⟨a, ha, rfl⟩ : ∃ a, as[i]? = some a ∧ y = V.ref a := by
          rw [List.getElem?_map] at hy
          cases q : as[i]? with
          | none => rw [q] at hy; cases hy
          | some a => rw [q] at hy; exact ⟨a, rfl, (Option.some.inj hy).symm⟩
        obtain ⟨ns, hns, hA⟩ := rows2.2 i a ha
        refine ⟨rfl, _, rfl, a, ns, rfl, SqL.of (kp3.lst hA), hlens ns (List.mem_of_getElem? hns), fun H4 p ms same hp hp4 told => ?_⟩
        have hDp : D ≠ p := ne_of_none hD3 hp
        have kp4 : Kp Ts H2 H4 := kp3.trans (Kp.of_same kp3.t1 same)
        have R4 : RowsAt H4 ts mss := hR.same same
        have h2p : H2 p = none := kp3.free hp
        have i60 : i < 60 := by
          have := (List.getElem?_eq_some_iff.mp ha).1
          omega
        refine ⟨ts.map V.ref, same _ _ hD3, by rw [List.length_map, hti, sizeLine_eq]; omega, ts ++ [p], mss ++ [ms], ?_, kp4.own hD (kp3.t1.out hD3 fun _ q => by cases q), by rw [List.length_append, hti]; rfl, ?_, ?_, ?_⟩
        · rw [upd_same, List.map_append]
          rfl
        · have R5 : RowsAt H4 (ts ++ [p]) (mss ++ [ms]) := R4.snoc hp4
          refine ⟨R5.1, fun j b e => ?_⟩
          obtain ⟨qs, h1, h2⟩ := R5.2 j b e
          refine ⟨qs, h1, ?_⟩
          have hb : b ∈ ts ++ [p] := List.mem_of_getElem? e
          have nb : b ≠ D := by
            rcases (List.mem_append).1 hb with z | z
            · exact (hnew b z).2
            · rw [List.mem_singleton.mp z]; exact hDp.symm
          rw [upd_ne nb]
          exact h2
        · have hl3 : mss.length = i := by rw [← hT.1, List.length_take]; have := (List.getElem?_eq_some_iff.mp hns).1; omega
          have hl4 : (nss.take i).length = i := by rw [hT.1, hl3]
          rw [List.take_add_one, hns]
          refine ⟨by simp only [List.length_append, hT.1]; rfl, fun j qs rs e1 e2 => ?_⟩
          by_cases hj : j < i
          · rw [List.getElem?_append_left (by omega)] at e1
            rw [List.getElem?_append_left (by omega)] at e2
            exact hT.2 j qs rs e1 e2
          · rw [List.getElem?_append_right (by omega)] at e1
            rw [List.getElem?_append_right (by omega)] at e2
            have hj0 : j = i := by
              have := (List.getElem?_eq_some_iff.mp e2).1
              simp only [List.length_singleton] at this
              omega
            subst hj0
            rw [hl4, Nat.sub_self] at e1
            rw [hl3, Nat.sub_self] at e2
            have e1' : ns = qs := by simpa using e1
            have e2' : ms = rs := by simpa using e2
            subst e1' e2'
            exact told
        · intro t ht
          rcases (List.mem_append).1 ht with z | z
          · exact hnew t z
          · rw [(List.mem_singleton).1 z]
            exact ⟨h2p, hDp.symm⟩
      · rintro H3 ⟨ts, mss, hD3, kp3, hti, hR, hT, hnew⟩
        have hx3 := kp3.ins hx2
        have hlen2 : (as.map V.ref).length = nss.length := hlm
        rw [hlen2, List.take_length] at hT
        refine ⟨_, rfl, x, C, dx, _, rfl, hx3, cl, nR, by (show 1 < 1000); decide, ?_⟩
        have xT : x ∉ Ts := kp3.t1.out hx3 fun _ q => by cases q
        have Dx : D ≠ x := ne_of hD3 hx3 (by intro q; cases q)
        refine k3' hok _ mss ⟨(kp2.trans kp3).own nx xT, nx, dx, D, ts, upd_same, kp2.free hD, by rw [upd_ne Dx]; exact hD3, fun t ht => kp2.free (hnew t ht).1, ⟨hR.1, fun j b e => ?_⟩⟩ hT
        obtain ⟨qs, h1, h2⟩ := hR.2 j b e
        refine ⟨qs, h1, ?_⟩
        have bx : b ≠ x := ne_of h2 hx3 (by intro q; cases q)
        rw [upd_ne bx]
        exact h2
end
end Mb

namespace Mb
open L2 PySem PySem.Spec PyProof.Rows
abbrev sWhole : Stmt := top 17
abbrev sCell : Stmt := top 18
abbrev sCount : Stmt := top 19
abbrev sRowsBy : Stmt := top 20
abbrev sTried : Stmt := top 21
abbrev sOtherwise : Stmt := top 22
abbrev sByAny : Stmt := top 23
abbrev sFields : Stmt := top 24
abbrev sLaw : Stmt := top 25
theorem atI_in {α : Type} {xs : List α} {i : Int} (h0 : 0 ≤ i) (h1 : i < xs.length) : ∃ v, atI xs i = some v ∧ xs[i.toNat]? = some v := by
  rcases Int.eq_ofNat_of_zero_le h0 with ⟨j, rfl⟩
  have hj : j < xs.length := by omega
  refine ⟨xs[j], atI_nat (List.getElem?_eq_getElem hj), ?_⟩
  rw [Int.toNat_natCast]
  exact List.getElem?_eq_getElem hj
structure LTxt (K : PySem.W.Frag) (mg : Str → Option Value) : Prop where
  isi : mg "isinstance" = none
  int : mg "int" = none
  bool : mg "bool" = none
  list : mg "list" = none
  len : mg "len" = none
  range : mg "range" = none
  max : mg "max" = none
  min : mg "min" = none
section
variable {P : Program} {w : World} {K : PySem.W.Frag} {mg : Str → Option Value} {base : Heap} {CS CM : Addr}
def spWhole : Sp := fun vs H Q _ => ∃ i : Int, vs = [.int i] ∧ Q (.bl true) H
theorem scWhole : FnScope ["_law_found"] ["_law_found"] (defScope sWhole) := ⟨rfl, rfl, rfl, by decide +kernel, rfl, by decide +kernel, by decide +kernel⟩
theorem ok_whole {f : Addr} {fd : FuncData} (F : Fun K "_law_whole" "_law_whole" sWhole f fd) (T : LTxt K mg) : FnOk P w K mg base CX0 1 f fd ["_law_found"] spWhole := by
  refine F.ok scWhole (fun vs H Q E h => ?_) (fun cdv A outer s H vs Q E hr h => ?_)
  · obtain ⟨i, rfl, _⟩ := h
    rfl
  · obtain ⟨i, rfl, k⟩ := h
    refine ⟨_, pss_one (ps_ret (pe_and (pe_callB call_isi (by rfl) T.isi PyProof.Rows.boot_isinstance (pa_cons (pv 0) (pa_cons (pe_bltn (v := .ty "int") (by rfl) T.int PyProof.Rows.boot_int rfl) pa_nil)))
      (pe_one (pe_not (pe_callB call_isi (by rfl) T.isi PyProof.Rows.boot_isinstance (pa_cons (pv 0) (pa_cons (pe_bltn (v := .ty "bool") (by rfl) T.bool (by decide +kernel) rfl) pa_nil))))))), ?_⟩
    refine ⟨_, rfl, _, _, _, _, true, rfl, ClsV.ty "int", TyX.base (TyOf.int i), kit_ty (by decide +kernel), _, rfl, ?_⟩
    refine iteT ?_
    exact ⟨_, rfl, _, _, _, _, false, rfl, ClsV.ty "bool", TyX.base (TyOf.int i), kit_ty (by decide +kernel), _, rfl, k⟩
/-! ### a cell of the script -/
def cellAt (ns : List Int) (k : Int) : Int := ns.getD k.toNat 0
def spCell (K : PySem.W.Frag) : Sp := fun vs H Q _ => ∃ (a : Addr) (ns : List Int) (k : Int), vs = [.ref a, .int k] ∧ SqL K H a (ns.map V.int) ∧ 0 ≤ k ∧ Q (.int (cellAt ns k)) H
theorem scCell : FnScope ["_law_script", "_law_k"] ["_law_script", "_law_k"] (defScope sCell) := ⟨rfl, rfl, rfl, by decide +kernel, rfl, by decide +kernel, by decide +kernel⟩
theorem ok_cell {f : Addr} {fd : FuncData} (F : Fun K "_law_cell_at" "_law_cell_at" sCell f fd) (T : LTxt K mg) : FnOk P w K mg base CX0 1 f fd ["_law_script", "_law_k"] (spCell K) := by
  refine F.ok scCell (fun vs H Q E h => ?_) (fun cdv A outer s H vs Q E hr h => ?_)
  · rcases h with ⟨a, ns, k, rfl, _⟩
    rfl
  · obtain ⟨a, ns, k, rfl, hS, h0, kQ⟩ := h
    refine ⟨_, pss_cons (ps_if (pt_cmpR op_lt (pv 1) (pe_callB call_len_seq (by rfl) T.len PySem.boot_len (pa_cons (pv 0) pa_nil)) (nomark _)) (pss_one (ps_ret (pe_ix ix_list (pv 0) (pv 1) (fun _ _ => rfl)))) pss_nil) (pss_one (ps_ret pe_int)), ?_⟩
    refine ⟨_, rfl, _, rfl, a, _, rfl, .inl hS, ⟨_, _, rfl, rfl, ⟨_, rfl, ?_⟩⟩⟩
    apply ite2 <;> intro c
    · have c' := of_decide_eq_true c
      obtain ⟨v, hv, hv2⟩ := atI_in (xs := ns.map V.int) h0 c'
      have ev : v = .int (cellAt ns k) := by
        rw [List.getElem?_map] at hv2
        unfold cellAt
        simp only [List.getD_eq_getElem?_getD]
        cases q : ns[k.toNat]? with
        | none => rw [q] at hv2; cases hv2
        | some z => rw [q] at hv2; exact (Option.some.inj hv2).symm
      subst ev
      exact ⟨_, rfl, _, rfl, a, _, k, _, rfl, rfl, hS, hv, kQ⟩
    · have hlt : ns.length ≤ k.toNat := by
        have : ¬ k < ((ns.map V.int).length : Int) := fun z => c (decide_eq_true z)
        rw [List.length_map] at this
        omega
      have ev : cellAt ns k = 0 := by
        unfold cellAt
        rw [List.getD_eq_getElem?_getD, List.getElem?_eq_none_iff.mpr hlt]
        rfl
      rw [ev] at kQ
      exact kQ
/-! ### the count -/
def spCount : Sp := fun vs H Q _ => ∃ c : Int, vs = [.int c] ∧ ∀ (n : Int) (H' : Hp), Same H H' → Q (.int n) H'
theorem scCount : FnScope ["_law_cell"] ["_law_cell"] (defScope sCount) := ⟨rfl, rfl, rfl, by decide +kernel, rfl, by decide +kernel, by decide +kernel⟩
theorem ok_count {f : Addr} {fd : FuncData} (F : Fun K "_law_count" "_law_count" sCount f fd) : FnOk P w K mg base CX0 1 f fd ["_law_cell"] spCount := by
  refine F.ok scCount (fun vs H Q E h => ?_) (fun cdv A outer s H vs Q E hr h => ?_)
  · obtain ⟨i, rfl, _⟩ := h
    rfl
  · obtain ⟨c, rfl, k⟩ := h
    refine ⟨_, pss_cons (ps_if (pt_cmpR op_eq (pe_op op_mod (pe_op op_fdivN (pv 0) pe_int) pe_int) pe_int (nomark _))
        (pss_one (ps_ret (pe_ix ix_list (pe_lst (pa_cons (pe_op op_add (pe_op op_pow pe_int pe_int) (pe_op op_mod (pe_op op_fdivN (pv 0) pe_int) pe_int))
            (pa_cons (pe_op op_sub (pe_un un_neg pe_int) (pe_op op_mod (pe_op op_fdivN (pv 0) pe_int) (pe_op op_pow pe_int pe_int))) pa_nil)))
          (pe_op op_mod (pe_op op_fdivN (pv 0) pe_int) pe_int) (fun _ _ => rfl)))) pss_nil)
      (pss_one (ps_ret (pe_op op_sub (pe_op op_mod (pv 0) pe_int) pe_int))), ?_⟩
    refine ⟨_, rfl, _, _, rfl, rfl, ⟨by decide, by decide⟩, _, _, rfl, rfl, (by show (0 : Int) < 7; decide), rfl, _, rfl, ?_⟩
    apply ite2 <;> intro _
    · refine ⟨_, _, rfl, rfl, ⟨by decide, by decide, by decide⟩, _, rfl, _, _, rfl, rfl, ⟨by decide, by decide⟩, _, _, rfl, rfl, (by show (0 : Int) < 100; decide), _, _, rfl, rfl, ?_⟩
      refine ⟨_, rfl, _, rfl, _, _, rfl, rfl, ⟨by decide, by decide⟩, _, _, rfl, rfl, ⟨by decide, by decide, by decide⟩, _, _, rfl, rfl, (by show (0 : Int) < 10 ^ 20; decide), _, _, rfl, rfl, ?_⟩
      refine ⟨(by show 2 ≤ sizeLine; decide), fun p hp => ?_⟩
      refine ⟨_, rfl, _, _, rfl, rfl, ⟨by decide, by decide⟩, _, _, rfl, rfl, (by show (0 : Int) < 2; decide), ?_⟩
      have b0 := Int.emod_nonneg (c.fdiv 91) (show (2 : Int) ≠ 0 by decide)
      have b1 := Int.emod_lt_of_pos (c.fdiv 91) (show (0 : Int) < 2 by decide)
      obtain ⟨v, hv, hv2⟩ := atI_in (xs := [V.int (10 ^ (20 : Int).toNat + c.fdiv 91 % 100), V.int (-1 - c.fdiv 91 % 10 ^ (20 : Int).toNat)]) b0 b1
      obtain ⟨n, rfl⟩ : ∃ n, v = V.int n := by
        have hm := List.mem_of_getElem? hv2
        rcases (List.mem_cons).1 hm with z | z
        · exact ⟨_, z⟩
        · exact ⟨_, List.mem_singleton.mp z⟩
      exact ⟨p, _, _, _, rfl, rfl, SqL.of upd_same, hv, k n _ (Same.up (Same.refl H) hp)⟩
    · exact ⟨_, rfl, _, _, rfl, rfl, (by show (0 : Int) < 13; decide), _, _, rfl, rfl, k _ _ (Same.refl H)⟩
end
end Mb

namespace Mb
open L2 PySem PySem.Spec PyProof.Rows
section
variable {P : Program} {w : World} {K : PySem.W.Frag} {mg : Str → Option Value} {base : Heap} {CS CM : Addr}
/-! ### the rows, as the law draws them -/
/-- new rows at as, listed at l, none of which stood in H -/
structure NewRows (H H' : Hp) (l : Addr) (as : List Addr) (nss : List (List Int)) : Prop where
  same : Same H H'
  nl : H l = none
  lst : H' l = some (.lst (as.map V.ref))
  rows : RowsAt H' as nss
  nd : as.Nodup
  new : ∀ a ∈ as, H a = none ∧ a ≠ l
theorem NewRows.snoc {H H1 H2 : Hp} {l p : Addr} {as : List Addr} {nss : List (List Int)} {ns : List Int} (r : NewRows H H1 l as nss) (s : Same H1 H2) (hp : H1 p = none) (hp2 : H2 p = some (.lst (ns.map V.int))) :
    NewRows H (upd H2 l (.lst (as.map V.ref ++ [.ref p]))) l (as ++ [p]) (nss ++ [ns]) := by
  have pl : p ≠ l := (ne_of_none r.lst hp).symm
  have np : H p = none := r.same.free hp
  have hpas : p ∉ as := fun hm => by
    obtain ⟨j, hj, e⟩ := List.getElem_of_mem hm
    obtain ⟨ms, _, h2⟩ := r.rows.2 j p (by rw [List.getElem?_eq_getElem hj, e])
    rw [hp] at h2
    cases h2
  refine ⟨fun b o e => ?_, r.nl, ?_, ?_, ?_, ?_⟩
  · rw [upd_ne (ne_of_none e r.nl)]
    exact s _ _ (r.same b o e)
  · rw [upd_same, List.map_append]
    rfl
  · have R := (r.rows.same s).snoc hp2
    refine ⟨R.1, fun j b e => ?_⟩
    obtain ⟨qs, h1, h2⟩ := R.2 j b e
    refine ⟨qs, h1, ?_⟩
    have hb : b ∈ as ++ [p] := List.mem_of_getElem? e
    have nb : b ≠ l := by
      rcases (List.mem_append).1 hb with z | z
      · exact (r.new b z).2
      · rw [List.mem_singleton.mp z]; exact pl
    rw [upd_ne nb]
    exact h2
  · rw [List.nodup_append]
    refine ⟨r.nd, by simp, fun a ha b hb e => ?_⟩
    rw [List.mem_singleton.mp hb] at e
    rw [e] at ha
    exact hpas ha
  · intro a ha
    rcases (List.mem_append).1 ha with z | z
    · exact r.new a z
    · rw [(List.mem_singleton).1 z]
      exact ⟨np, pl⟩
def spRows (K : PySem.W.Frag) : Sp := fun vs H Q _ => ∃ (a : Addr) (zs : List Int) (b : Int), vs = [.ref a, .int b] ∧ SqL K H a (zs.map V.int) ∧ 0 < b ∧
  ∀ (H' : Hp) (l : Addr) (as : List Addr) (nss : List (List Int)), NewRows H H' l as nss → nss.length ≤ 14 → (∀ ns ∈ nss, ns.length ≤ 9 ∧ ∀ k ∈ ns, 0 ≤ k ∧ k < b) → Q (.ref l) H'
abbrev nRows : List Str := ["_law_script", "_law_below", "_law_things", "_law_rows", "_law_k", "_law_number", "_law_size", "_law_j"]
theorem scRows : FnScope nRows ["_law_script", "_law_below"] (defScope sRowsBy) := ⟨rfl, rfl, rfl, by decide +kernel, rfl, by decide +kernel, by decide +kernel⟩
theorem ok_rows {f fC : Addr} {fd fdC : FuncData} (F : Fun K "_law_rows_by" "_law_rows_by" sRowsBy f fd) (T : LTxt K mg) (GC : FnOk P w K mg base CX0 1 fC fdC ["_law_script", "_law_k"] (spCell K)) (gC : mg "_law_cell_at" = some (.ref fC)) (kC : PySem.W.keepIn K (.ref fC) = true) (bC : Binds K fdC ["_law_script", "_law_k"] []) :
    FnOk P w K mg base CX0 2 f fd ["_law_script", "_law_below"] (spRows K) := by
  refine F.ok scRows (fun vs H Q E h => ?_) (fun cdv A outer s H vs Q E hr h => ?_)
  · obtain ⟨a, zs, b, rfl, _⟩ := h
    rfl
  · obtain ⟨a, zs, b, rfl, hS, hb, k⟩ := h
    refine ⟨_, C8.pss_cut (ps_set (i := 2) scRows.nd rfl (Or.inl rfl) (pe_op op_mod (pe_call GC hr (by rfl) gC kC bC .nil pass0 (pa_cons (pv 0) (pa_cons pe_int pa_nil))) pe_int))
      (C8.pss_cut (ps_if (pt_cmpR op_eq (pe_op op_mod (pe_op op_fdivN (pe_call GC hr (by rfl) gC kC bC .nil pass0 (pa_cons (pv 0) (pa_cons pe_int pa_nil))) pe_int) pe_int) pe_int (nomark _))
        (pss_one (ps_set (i := 2) scRows.nd rfl (Or.inl rfl) (pe_ix ix_list (pe_lst (pa_cons pe_int (pa_cons pe_int (pa_cons pe_int (pa_cons pe_int (pa_cons pe_int pa_nil))))))
          (pe_op op_mod (pe_op op_fdivN (pe_call GC hr (by rfl) gC kC bC .nil pass0 (pa_cons (pv 0) (pa_cons pe_int pa_nil))) pe_int) pe_int) (fun _ _ => rfl)))) pss_nil)
      (pss_cons (ps_set (i := 3) scRows.nd rfl (Or.inl rfl) (pe_lst pa_nil))
      (pss_cons (ps_for PassesOwn.never rfl (pi_range1 (by rfl) T.range (pa_cons (pv 2) pa_nil)) (pg_name (i := 4) scRows.nd rfl (Or.inl rfl))
        (pss_cons (ps_set (i := 5) scRows.nd rfl (Or.inr rfl) (pe_op op_mod (pe_op op_mul (pe_op op_add (pe_call GC hr (by rfl) gC kC bC .nil pass0 (pa_cons (pv 0) (pa_cons (pe_op op_add pe_int (pe_op op_mod (pv 4) pe_int)) pa_nil)))
            (pe_op op_mul pe_int (pe_op op_fdivN (pv 4) pe_int))) pe_int) pe_int))
        (pss_cons (ps_set (i := 6) scRows.nd rfl (Or.inl rfl) (pe_op op_mod (pv 5) pe_int))
        (pss_one (ps_expr (pe_bm PySem.F.plainAttrs_list PySem.F.slot_list_append PySem.F.type_list_append mt_append (pv 3) (pa_cons
          (pe_lc (own := [("_law_j", 7)]) (g := gName 7) (tt := tYes) rfl scRows.nd (pi_range1 (by rfl) T.range (pa_cons (pv 6) pa_nil)) (blkOk_by (N := nRows) (sc := defScope sRowsBy) (by decide +kernel)) (fun _ _ _ _ _ => pg_name (i := 7) scRows.nd rfl (Or.inl rfl)) (fun _ _ _ _ _ => pts_nil)
            (fun _ _ _ _ _ => pe_op op_mod (pe_op op_fdivN (pv 5) (pe_op op_add pe_int (pe_op op_mul pe_int (pv 7)))) (pv 1))) pa_nil)))))))
      (pss_one (ps_ret (pv 3)))))), ?_⟩
    refine ⟨fun σ H' => ∃ t : Int, σ = [some (.ref a), some (.int b), some (.int t), none, none, none, none, none] ∧ 0 ≤ t ∧ t ≤ 14 ∧ Same H H', ?_, ?_⟩
    · refine ⟨_, rfl, a, zs, _, rfl, hS, by decide, _, _, rfl, rfl, (by show (0 : Int) < 7; decide), _, rfl, ?_, ?_, Same.refl H⟩
      · exact Int.emod_nonneg _ (by decide)
      · have := Int.emod_lt_of_pos (cellAt zs 1) (show (0 : Int) < 7 by decide)
        omega
    rintro σ H0 ⟨t, rfl, t0, t14, s0⟩
    refine ⟨fun σ H' => ∃ t : Int, σ = [some (.ref a), some (.int b), some (.int t), none, none, none, none, none] ∧ 0 ≤ t ∧ t ≤ 14 ∧ Same H H', ?_, ?_⟩
    · refine ⟨_, rfl, a, zs, _, rfl, s0.seq hS, by decide, _, _, rfl, rfl, ⟨by decide, by decide⟩, _, _, rfl, rfl, (by show (0 : Int) < 4; decide), rfl, _, rfl, ?_⟩
      refine ite2 (fun _ => ?_) (fun _ => ⟨t, rfl, t0, t14, s0⟩)
      refine ⟨(by show 5 ≤ sizeLine; decide), fun p hp => ?_⟩
      have s1 := Same.up (o := .lst [.int 12, .int 13, .int 12, .int 10, .int 14]) s0 hp
      refine ⟨_, rfl, a, zs, _, rfl, s1.seq hS, by decide, _, _, rfl, rfl, ⟨by decide, by decide⟩, _, _, rfl, rfl, (by show (0 : Int) < 5; decide), ?_⟩
      have b0 := Int.emod_nonneg ((cellAt zs 1).fdiv 28) (show (5 : Int) ≠ 0 by decide)
      have b1 := Int.emod_lt_of_pos ((cellAt zs 1).fdiv 28) (show (0 : Int) < 5 by decide)
      obtain ⟨v, hv, hv2⟩ := atI_in (xs := [V.int 12, V.int 13, V.int 12, V.int 10, V.int 14]) b0 b1
      obtain ⟨n, rfl, n0, n1⟩ : ∃ n : Int, v = V.int n ∧ 0 ≤ n ∧ n ≤ 14 := by
        have hm := List.mem_of_getElem? hv2
        simp only [or_false, List.mem_cons, List.not_mem_nil] at hm
        rcases hm with z | z | z | z | z
        · exact ⟨_, z, by decide, by decide⟩
        · exact ⟨_, z, by decide, by decide⟩
        · exact ⟨_, z, by decide, by decide⟩
        · exact ⟨_, z, by decide, by decide⟩
        · exact ⟨_, z, by decide, by decide⟩
      exact ⟨p, _, _, _, rfl, rfl, SqL.of upd_same, hv, n, rfl, n0, n1, s1⟩
    rintro σ H1 ⟨t, rfl, t0, t14, s1⟩
    refine ⟨Nat.zero_le _, fun l hl => ?_⟩
    have hlH : H l = none := s1.free hl
    refine ⟨_, rfl, t, rfl, by omega, by omega, for_range (lo := 0) (n := t.toNat) (fun i σ H' => ∃ (kv nv sv : Option V) (as : List Addr) (nss : List (List Int)), σ = [some (.ref a), some (.int b), some (.int t), some (.ref l), kv, nv, sv, none] ∧
        NewRows H H' l as nss ∧ nss.length = i ∧ (∀ ns ∈ nss, ns.length ≤ 9 ∧ ∀ k ∈ ns, 0 ≤ k ∧ k < b))
      ⟨none, none, none, [], [], rfl, ⟨Same.up s1 hl, hlH, upd_same, RowsAt.nil, List.nodup_nil, fun a ha => by cases ha⟩, rfl, fun ns hn => by cases hn⟩ ?_ ?_⟩
    · rintro i σ H2 hi ⟨kv, nv, sv, as, nss, rfl, R, hlen, hall⟩
      have k0 : (0 : Int) ≤ 0 + (i : Int) := by omega
      have m0 := Int.emod_nonneg (0 + (i : Int)) (show (6 : Int) ≠ 0 by decide)
      -- the number
      refine ⟨_, rfl, _, rfl, _, _, rfl, rfl, (by show (0 : Int) < 6; decide), _, _, rfl, rfl, a, zs, _, rfl, R.same.seq hS, by omega, ?_⟩
      refine ⟨_, rfl, _, _, rfl, rfl, ⟨by decide, by decide⟩, _, _, rfl, rfl, .inl ⟨by decide, by decide⟩, _, _, rfl, rfl, _, _, rfl, rfl, .inr ⟨by decide, by decide⟩, _, _, rfl, rfl, (by show (0 : Int) < 1000003; decide), ?_⟩
      refine ⟨_, rfl, _, _, rfl, rfl, (by show (0 : Int) < 10; decide), ?_⟩
      have z0 := Int.emod_nonneg ((cellAt zs (6 + (0 + (i : Int)) % 6) + 31 * (0 + (i : Int)).fdiv 6) * 48271 % 1000003) (show (10 : Int) ≠ 0 by decide)
      have z1 := Int.emod_lt_of_pos ((cellAt zs (6 + (0 + (i : Int)) % 6) + 31 * (0 + (i : Int)).fdiv 6) * 48271 % 1000003) (show (0 : Int) < 10 by decide)
      refine ⟨_, rfl, .inl ⟨rfl, _, SqL.of R.lst⟩, _, rfl, _, rfl, by omega, by omega, fun D hD => ?_⟩
      refine lc_range (lo := 0) (n := _) (fun j H3 => ∃ ms : List Int, H3 D = some (.lst (ms.map V.int)) ∧ Same H2 H3 ∧ ms.length = j ∧ ∀ k ∈ ms, 0 ≤ k ∧ k < b)
        ⟨[], upd_same, Same.up (Same.refl H2) hD, rfl, fun k hk => by cases hk⟩ ?_ ?_
      · rintro j H3 hj ⟨ms, hD3, s3, hml, hms⟩
        have hj10 : j < 10 := by omega
        have grow : ∀ v : Int, (0 ≤ v ∧ v < b) → ∃ qs : List Int, (upd H3 D (.lst (ms.map V.int ++ [.int v]))) D = some (.lst (qs.map V.int)) ∧ Same H2 (upd H3 D (.lst (ms.map V.int ++ [.int v]))) ∧ qs.length = j + 1 ∧ ∀ k ∈ qs, 0 ≤ k ∧ k < b := by
          intro v hv
          refine ⟨ms ++ [v], by rw [upd_same, List.map_append]; rfl, fun c o e => ?_, by rw [List.length_append, hml]; rfl, fun k hk => ?_⟩
          · rw [upd_ne (ne_of_none e hD)]
            exact s3 c o e
          · rcases (List.mem_append).1 hk with z | z
            · exact hms k z
            · rw [(List.mem_singleton).1 z]
              exact hv
        refine ⟨rfl, _, rfl, _, rfl, _, _, rfl, rfl, .inl ⟨by decide, by decide⟩, _, _, rfl, rfl, _, _, rfl, rfl, ⟨by omega, by omega⟩, _, rfl, _, _, rfl, rfl, hb, ?_⟩
        exact ⟨_, hD3, by rw [List.length_map, hml, sizeLine_eq]; omega, grow _ ⟨Int.emod_nonneg _ (by omega), Int.emod_lt_of_pos _ hb⟩⟩
      · rintro H3 ⟨ms, hD3, s3, hml, hms⟩
        have i14 : i < 14 := by omega
        refine ⟨l, _, _, rfl, rfl, s3 _ _ R.lst, by rw [List.length_map, R.rows.1, hlen, sizeLine_eq]; omega, ?_⟩
        refine ⟨_, _, _, as ++ [D], nss ++ [ms], rfl, R.snoc s3 hD hD3, by rw [List.length_append, hlen]; rfl, fun ns hn => ?_⟩
        rcases (List.mem_append).1 hn with z | z
        · exact hall ns z
        · rw [(List.mem_singleton).1 z]
          exact ⟨by omega, hms⟩
    · rintro σ H2 ⟨kv, nv, sv, as, nss, rfl, R, hlen, hall⟩
      exact ⟨_, rfl, k H2 l as nss R (by omega) hall⟩
end
end Mb

namespace Mb
open L2 PySem PySem.Spec PyProof.Rows
/-- what the law's own except clauses ask of the classes -/
structure XTxt (K : PySem.W.Frag) (mg : Str → Option Value) (C CS CM CT CN CE : Addr) : Prop where
  gC : mg "Table" = some (.ref C)
  gS : mg "BadSize" = some (.ref CS)
  gM : mg "BadMark" = some (.ref CM)
  gT : mg "BadThing" = some (.ref CT)
  gN : mg "NoBox" = some (.ref CN)
  gE : mg "MarkError" = some (.ref CE)
  vE : mg "ValueError" = none
  ss : PySem.W.exmOne K (.ref CS) (.ref CS) = some true
  ms : PySem.W.exmOne K (.ref CM) (.ref CS) = some false
  sm : PySem.W.exmOne K (.ref CS) (.ref CM) = some false
  mm : PySem.W.exmOne K (.ref CM) (.ref CM) = some true
  st : PySem.W.exmOne K (.ref CS) (.ref CT) = some false
  mt : PySem.W.exmOne K (.ref CM) (.ref CT) = some false
  sn : PySem.W.exmOne K (.ref CS) (.ref CN) = some false
  mn : PySem.W.exmOne K (.ref CM) (.ref CN) = some false
  se : PySem.W.exmOne K (.ref CS) (.ref CE) = some true
  me : PySem.W.exmOne K (.ref CM) (.ref CE) = some true
  cS : ExcC K CS
  cM : ExcC K CM
  kS : PySem.W.kitOne K (.ref CS) (.type "ValueError") = some true
  kM : PySem.W.kitOne K (.ref CM) (.type "ValueError") = some true
section
variable {P : Program} {w : World} {K : PySem.W.Frag} {mg : Str → Option Value} {base : Heap} {C CS CM CT CN CE : Addr}
/-- a list of rows that stands in H -/
structure Grid (Ts : List Addr) (H : Hp) (l : Addr) (nss : List (List Int)) : Prop where
  tb : Tabs Ts H
  ex : ∃ as : List Addr, H l = some (.lst (as.map V.ref)) ∧ RowsAt H as nss
  few : nss.length ≤ 60
  short : ∀ ns ∈ nss, ns.length ≤ 60
theorem Grid.kp {Ts : List Addr} {H H1 : Hp} {l : Addr} {nss : List (List Int)} (g : Grid Ts H l nss) (k : Kp Ts H H1) : Grid Ts H1 l nss :=
  ⟨k.t1, let ⟨as, h1, h2⟩ := g.ex; ⟨as, k.lst h1, h2.kp k⟩, g.few, g.short⟩
def AllOk (n : Int) (nss : List (List Int)) : Prop := ∀ ns ∈ nss, okRow n ns = true
def SomeBad (n : Int) (nss : List (List Int)) : Prop := ∃ ns ∈ nss, okRow n ns = false
def spTry (Ts : List Addr) (vS vM vG : V) : Sp := fun vs H Q _ => ∃ (l : Addr) (n : Int) (nss : List (List Int)), vs = [.int n, .ref l] ∧ Grid Ts H l nss ∧
  (badSize n nss.length → ∀ H', Kp Ts H H' → Q vS H') ∧ (¬ badSize n nss.length → SomeBad n nss → ∀ H', Kp Ts H H' → Q vM H') ∧ (¬ badSize n nss.length → AllOk n nss → ∀ H', Kp Ts H H' → Q vG H')
/-- Table(many, rows) in a try: what is to be shown at each of its ends -/
theorem make_try {Ts : List Addr} {H : Hp} {l : Addr} {n : Int} {nss : List (List Int)} {Qn : V → Hp → Prop} {W : WX} {N : Nat} {σ : L2.St} (g : Grid Ts H l nss) (h0 : σ[0]? = some (some (.int n))) (h1 : σ[1]? = some (some (.ref l)))
    (hS : badSize n nss.length → ∀ H' σ', σ'.length = N → Kp Ts H H' → W (.ref CS) none σ' H') (hM : ¬ badSize n nss.length → SomeBad n nss → ∀ H' σ', σ'.length = N → Kp Ts H H' → W (.ref CM) none σ' H')
    (hG : ¬ badSize n nss.length → AllOk n nss → ∀ H' x mss, MadeAt Ts C H H' x n mss → AllTold nss mss → Qn (.ref x) H') :
    tMake C (spInit K C CS CM Ts) [] (EM N W) (tCons (tVar 0) (tCons (tVar 1) tNil)) σ H Qn := by
  obtain ⟨as, hl, hR⟩ := g.ex
  refine ⟨_, h0, _, h1, fun x dx nx ndx ne => ?_⟩
  have tb := g.tb
  have kp : Kp Ts H (upd (upd H dx (.own x)) x (.ins C dx [])) := ((Kp.refl tb).own ndx (tb.outN ndx)).own nx (tb.outN nx)
  exact ⟨H, x, dx, l, n, as, nss, rfl, kp, nx, upd_same, kp.lst hl, hR.kp kp, by rw [hR.1]; exact g.few, g.short, fun bad H' k σ' e => hS bad H' σ' e k, fun nb b H' k σ' e => hM nb b H' σ' e k, fun nb ok H' mss made told => ⟨rfl, hG nb ok H' x mss made told⟩⟩
theorem scTried : FnScope ["_law_many", "_law_rows"] ["_law_many", "_law_rows"] (defScope sTried) := ⟨rfl, rfl, rfl, by decide +kernel, rfl, by decide +kernel, by decide +kernel⟩
abbrev tMk (K : PySem.W.Frag) (C CS CM : Addr) (Ts : List Addr) (N : Nat) (W : WX) : TS := tDrop (tMake C (spInit K C CS CM Ts) [] (EM N W) (tCons (tVar 0) (tCons (tVar 1) tNil)))
abbrev tGive (v : V) : Addr → Value → Option Addr → TS := fun _ _ _ => tRet (tC v)
theorem ok_tried {f fI : Addr} {fd fdI : FuncData} {Ts : List Addr} (F : Fun K "_law_tried" "_law_tried" sTried f fd) (T : XTxt K mg C CS CM CT CN CE) (M : Mk K C fI) (GI : FnOk P w K mg base (L2.CX P w) 3 fI fdI ["self", "many", "rows"] (spInit K C CS CM Ts)) (bI : Binds K fdI ["self", "many", "rows"] []) :
    FnOk P w K mg base CX0 5 f fd ["_law_many", "_law_rows"] (spTry Ts (.str "size") (.str "mark") (.str "")) := by
  refine F.ok scTried (fun vs H Q E h => ?_) (fun cdv A outer s H vs Q E hr h => ?_)
  · obtain ⟨l, n, nss, rfl, _⟩ := h
    rfl
  · obtain ⟨l, n, nss, rfl, g, kS, kM, kG⟩ := h
    refine ⟨_, pss_cons (ps_try_many (tb := tMk K C CS CM Ts 2) (l := [(.ref CS, tGive (.str "size")), (.ref CM, tGive (.str "mark"))]) (Wout := fun _ _ _ _ => False) rfl rfl takes_none5
        (fun W pn xe tk _ => pss_one (ps_expr (by exact pe_make M GI hr (by rfl) T.gC bI .nil (passM tk) (pa_cons (pv 0) (pa_cons (pv 1) pa_nil)))))
        (.cons ⟨rfl, by decide, .inl T.gS⟩ (fun a oe cls d pn hz hf => pss_one (ps_ret pe_str)) (.cons ⟨rfl, by decide, .inl T.gM⟩ (fun a oe cls d pn hz hf => pss_one (ps_ret pe_str)) .nil)))
      (pss_one (ps_ret pe_str)), ?_⟩
    show tMk K C CS CM Ts 2 _ _ _ _
    show tDrop (tMake C (spInit K C CS CM Ts) [] (EM 2 _) (tCons (tVar 0) (tCons (tVar 1) tNil))) _ _ _
    show tMake C (spInit K C CS CM Ts) [] (EM 2 _) (tCons (tVar 0) (tCons (tVar 1) tNil)) _ H _
    refine make_try g rfl rfl ?_ ?_ ?_
    rotate_left 2
    · intro nb ok H' x mss made _
      exact kG nb ok H' made.kp
    · intro bad H' σ' hlen kp
      exact ⟨true, T.ss, fun _ a _ => kS bad H' kp, fun q => Bool.noConfusion q⟩
    · intro nb b H' σ' hlen kp
      exact ⟨false, T.ms, (fun q => Bool.noConfusion q), fun _ => ⟨true, T.mm, fun _ a _ => kM nb b H' kp, fun q => Bool.noConfusion q⟩⟩
theorem scOtherwise : FnScope ["_law_many", "_law_rows"] ["_law_many", "_law_rows"] (defScope sOtherwise) := ⟨rfl, rfl, rfl, by decide +kernel, rfl, by decide +kernel, by decide +kernel⟩
theorem ok_otherwise {f fI : Addr} {fd fdI : FuncData} {Ts : List Addr} (F : Fun K "_law_tried_otherwise" "_law_tried_otherwise" sOtherwise f fd) (T : XTxt K mg C CS CM CT CN CE) (M : Mk K C fI) (GI : FnOk P w K mg base (L2.CX P w) 3 fI fdI ["self", "many", "rows"] (spInit K C CS CM Ts)) (bI : Binds K fdI ["self", "many", "rows"] []) :
    FnOk P w K mg base CX0 5 f fd ["_law_many", "_law_rows"] (spTry Ts (.str "size") (.str "mark") (.str "")) := by
  refine F.ok scOtherwise (fun vs H Q E h => ?_) (fun cdv A outer s H vs Q E hr h => ?_)
  · obtain ⟨l, n, nss, rfl, _⟩ := h
    rfl
  · obtain ⟨l, n, nss, rfl, g, kS, kM, kG⟩ := h
    refine ⟨_, pss_cons (ps_try_many (tb := tMk K C CS CM Ts 2) (l := [(.ref CT, tGive (.str "thing")), (.ref CN, tGive (.str "box")), (.ref CM, tGive (.str "mark")), (.ref CS, tGive (.str "size"))]) (Wout := fun _ _ _ _ => False) rfl rfl takes_none5
        (fun W pn xe tk _ => pss_one (ps_expr (by exact pe_make M GI hr (by rfl) T.gC bI .nil (passM tk) (pa_cons (pv 0) (pa_cons (pv 1) pa_nil)))))
        (.cons ⟨rfl, by decide, .inl T.gT⟩ (fun a oe cls d pn hz hf => pss_one (ps_ret pe_str)) (.cons ⟨rfl, by decide, .inl T.gN⟩ (fun a oe cls d pn hz hf => pss_one (ps_ret pe_str))
          (.cons ⟨rfl, by decide, .inl T.gM⟩ (fun a oe cls d pn hz hf => pss_one (ps_ret pe_str)) (.cons ⟨rfl, by decide, .inl T.gS⟩ (fun a oe cls d pn hz hf => pss_one (ps_ret pe_str)) .nil)))))
      (pss_one (ps_ret pe_str)), ?_⟩
    show tMk K C CS CM Ts 2 _ _ _ _
    show tDrop (tMake C (spInit K C CS CM Ts) [] (EM 2 _) (tCons (tVar 0) (tCons (tVar 1) tNil))) _ _ _
    show tMake C (spInit K C CS CM Ts) [] (EM 2 _) (tCons (tVar 0) (tCons (tVar 1) tNil)) _ H _
    refine make_try g rfl rfl ?_ ?_ ?_
    rotate_left 2
    · intro nb ok H' x mss made _
      exact kG nb ok H' made.kp
    · intro bad H' σ' hlen kp
      exact ⟨false, T.st, (fun q => Bool.noConfusion q), fun _ => ⟨false, T.sn, (fun q => Bool.noConfusion q), fun _ => ⟨false, T.sm, (fun q => Bool.noConfusion q), fun _ => ⟨true, T.ss, fun _ a _ => kS bad H' kp, fun q => Bool.noConfusion q⟩⟩⟩⟩
    · intro nb b H' σ' hlen kp
      exact ⟨false, T.mt, (fun q => Bool.noConfusion q), fun _ => ⟨false, T.mn, (fun q => Bool.noConfusion q), fun _ => ⟨true, T.mm, fun _ a _ => kM nb b H' kp, fun q => Bool.noConfusion q⟩⟩⟩
/-- isinstance(e, c), e the caught error, of a class that is told then -/
def rIsAny (K : PySem.W.Frag) (a : Addr) (cls : Value) (d : Option Addr) : List V → Hp → VK → Prop := fun xs H Q => ∃ D : Addr, ExcC K D ∧ cls = .ref D ∧ d = none ∧ rIsE K D a xs H Q
theorem call_isAny {X : Cx} {a : Addr} {oe : Obj} {cls : Value} {d : Option Addr} {pn : List (Addr × Obj)} (hz : Zc cls d oe) (hf : ∃ vs, oe.data = .fields vs) : CallR (X.suite a ((a, oe) :: pn)) (.builtin "isinstance") (rIsAny X.K a cls d) := by
  rintro pins s σ H xs us Q I r ⟨D, hD, rfl, rfl, told⟩
  exact call_isE hD hz hf pins s σ H xs us Q I r told
theorem scByAny : FnScope ["_law_many", "_law_rows", "e"] ["_law_many", "_law_rows"] (defScope sByAny) := ⟨rfl, rfl, rfl, by decide +kernel, rfl, by decide +kernel, by decide +kernel⟩
theorem ok_byAny {f fI : Addr} {fd fdI : FuncData} {Ts : List Addr} (F : Fun K "_law_refused_by_any" "_law_refused_by_any" sByAny f fd) (T : XTxt K mg C CS CM CT CN CE) (L : LTxt K mg) (M : Mk K C fI) (GI : FnOk P w K mg base (L2.CX P w) 3 fI fdI ["self", "many", "rows"] (spInit K C CS CM Ts)) (bI : Binds K fdI ["self", "many", "rows"] []) :
    FnOk P w K mg base CX0 5 f fd ["_law_many", "_law_rows"] (spTry Ts (.bl true) (.bl true) (.bl false)) := by
  refine F.ok scByAny (fun vs H Q E h => ?_) (fun cdv A outer s H vs Q E hr h => ?_)
  · obtain ⟨l, n, nss, rfl, _⟩ := h
    rfl
  · obtain ⟨l, n, nss, rfl, g, kS, kM, kG⟩ := h
    refine ⟨_, pss_cons (ps_try_as (i := 2) (tb := tMk K C CS CM Ts 3) (ts := fun a cls d => tRet (tCB (rIsAny K a cls d) (tCons (tVar 2) (tCons (tC (.ty "ValueError")) tNil)))) (Wout := fun _ _ _ _ => False) rfl rfl scByAny.nd rfl rfl ⟨rfl, by decide, .inl T.gE⟩ takes0
        (fun W pn xe tk _ => pss_one (ps_expr (by exact pe_make M GI hr (by rfl) T.gC bI .nil (passM tk) (pa_cons (pv 0) (pa_cons (pv 1) pa_nil)))))
        (fun a oe cls d pn hz hf => pss_one (ps_ret (by exact pe_callB (call_isAny hz hf) (by rfl) L.isi PyProof.Rows.boot_isinstance (pa_cons (pv 2) (pa_cons (pe_bltn (v := .ty "ValueError") (by rfl) T.vE (by decide +kernel) rfl) pa_nil))))))
      (pss_one (ps_ret pe_bl)), ?_⟩
    show tMk K C CS CM Ts 3 _ _ _ _
    show tDrop (tMake C (spInit K C CS CM Ts) [] (EM 3 _) (tCons (tVar 0) (tCons (tVar 1) tNil))) _ _ _
    show tMake C (spInit K C CS CM Ts) [] (EM 3 _) (tCons (tVar 0) (tCons (tVar 1) tNil)) _ H _
    refine make_try g rfl rfl ?_ ?_ ?_
    rotate_left 2
    · intro nb ok H' x mss made _
      exact kG nb ok H' made.kp
    · intro bad H' σ' hlen kp
      refine ⟨true, T.se, fun _ a _ => ?_, fun q => Bool.noConfusion q⟩
      exact ⟨_, List.getElem?_set_self (by omega), CS, T.cS, rfl, rfl, _, _, true, rfl, (fun u hu => hu), T.kS, kS bad H' kp⟩
    · intro nb b H' σ' hlen kp
      refine ⟨true, T.me, fun _ a _ => ?_, fun q => Bool.noConfusion q⟩
      exact ⟨_, List.getElem?_set_self (by omega), CM, T.cM, rfl, rfl, _, _, true, rfl, (fun u hu => hu), T.kM, kM nb b H' kp⟩
end
end Mb

namespace Mb
open L2 PySem PySem.Spec PyProof.Rows
section
variable {P : Program} {w : World} {K : PySem.W.Frag} {mg : Str → Option Value} {base : Heap} {C CS CM CT CN CE : Addr}
/-- a table at x with the rows mss -/
def TabAt (C : Addr) (H : Hp) (x : Addr) (n : Int) (mss : List (List Int)) : Prop := ∃ (dx r : Addr) (ts : List Addr), H x = some (.ins C dx (tf n r)) ∧ H r = some (.lst (ts.map V.ref)) ∧ RowsAt H ts mss
def spFields (C : Addr) : Sp := fun vs H Q _ => ∃ (x du : Addr) (n : Int) (mss : List (List Int)) (ds : List Addr), vs = [.ref x, .int n, .ref du] ∧ TabAt C H x n mss ∧ H du = some (.lst (ds.map V.ref)) ∧ RowsAt H ds mss ∧ mss.length ≤ 60 ∧
  ∀ H', Same H H' → Q (.bl true) H'
abbrev nFields : List Str := ["_law_table", "_law_many", "_law_due", "_law_k", "_law_row", "_law_one"]
theorem scFields : FnScope nFields ["_law_table", "_law_many", "_law_due"] (defScope sFields) := ⟨rfl, rfl, rfl, by decide +kernel, rfl, by decide +kernel, by decide +kernel⟩
theorem neq_same {n : Int} : (!decide (V.int n = V.int n)) = false := by simp
theorem eqv_same (nss : List Int) : (!PyData.eqv (rowD nss) (rowD nss)) = false := by
  show (!PyData.eqvAll (nss.map PyData.int) (nss.map PyData.int)) = false
  rw [eqInts]
  simp
theorem ok_fields {f fW : Addr} {fd fdW : FuncData} (F : Fun K "_law_fields" "_law_fields" sFields f fd) (L : LTxt K mg) (cl : Cls K C) (nM : NoAttr K C "many") (nR : NoAttr K C "rows")
    (GW : FnOk P w K mg base CX0 1 fW fdW ["_law_found"] spWhole) (gW : mg "_law_whole" = some (.ref fW)) (kW : PySem.W.keepIn K (.ref fW) = true) (bW : Binds K fdW ["_law_found"] []) :
    FnOk P w K mg base CX0 2 f fd ["_law_table", "_law_many", "_law_due"] (spFields C) := by
  refine F.ok scFields (fun vs H Q E h => ?_) (fun cdv A outer s H vs Q E hr h => ?_)
  · obtain ⟨x, du, n, mss, ds, rfl, _⟩ := h
    rfl
  · obtain ⟨x, du, n, mss, ds, rfl, ⟨dx, r, ts, hx, hrr, hT⟩, hdu, hD, hlen, k⟩ := h
    refine ⟨_, pss_cons (ps_if (PW.pt (pw_or (pt_not (pt_val (pe_call GW hr (by rfl) gW kW bW .nil pass0 (pa_cons (pe_fld (pv 0) rfl) pa_nil))))
        (pw_or (pt_cmpR op_ne (pe_fld (pv 0) rfl) (pv 1) (nomark _))
        (pw_or1 (pt_not (pt_val (pe_callB call_isi (by rfl) L.isi PyProof.Rows.boot_isinstance (pa_cons (pe_fld (pv 0) rfl) (pa_cons (pe_bltn (v := .ty "list") (by rfl) L.list PyProof.Rows.boot_list rfl) pa_nil))))))))) (pss_one (ps_ret pe_bl)) pss_nil)
      (pss_cons (ps_if (pt_cmpR op_ne (pe_callB call_len_seq (by rfl) L.len PySem.boot_len (pa_cons (pe_fld (pv 0) rfl) pa_nil)) (pe_callB call_len_seq (by rfl) L.len PySem.boot_len (pa_cons (pv 2) pa_nil)) (nomark _)) (pss_one (ps_ret pe_bl)) pss_nil)
      (pss_cons (ps_for PassesOwn.never rfl (pi_range1 (by rfl) L.range (pa_cons (pe_callB call_len_seq (by rfl) L.len PySem.boot_len (pa_cons (pv 2) pa_nil)) pa_nil)) (pg_name (i := 3) scFields.nd rfl (Or.inl rfl))
        (pss_cons (ps_set (i := 4) scFields.nd rfl (Or.inl rfl) (pe_ix ix_list (pe_fld (pv 0) rfl) (pv 3) (fun _ _ => rfl)))
        (pss_one (ps_if (PW.pt (pw_or (pt_not (pt_val (pe_callB call_isi (by rfl) L.isi PyProof.Rows.boot_isinstance (pa_cons (pv 4) (pa_cons (pe_bltn (v := .ty "list") (by rfl) L.list PyProof.Rows.boot_list rfl) pa_nil)))))
          (pw_or (pt_cmpR (op_neD hr.units) (pv 4) (pe_ix ix_list (pv 2) (pv 3) (fun _ _ => rfl)) (nomark _))
          (pw_or1 (pt_cmpR (op_neD hr.units) (pe_lc (own := [("_law_one", 5)]) (g := gName 5) (tt := tNot (tB (tCall spWhole [] E0 (tCons (tVar 5) tNil)))) rfl scFields.nd (pi_list (pv 4)) (blkOk_by (N := nFields) (sc := defScope sFields) (by decide +kernel)) (fun _ _ _ _ _ => pg_name (i := 5) scFields.nd rfl (Or.inl rfl))
            (fun _ _ _ _ _ => pts_one (pt_not (pt_val (pe_call GW hr (by rfl) gW kW bW .nil pass0 (pa_cons (pv 5) pa_nil))))) (fun _ _ _ _ _ => pv 5)) (pe_lst pa_nil) (nomark _)))))) (pss_one (ps_ret pe_bl)) pss_nil))))
      (pss_one (ps_ret pe_bl)))), ?_⟩
    refine ⟨_, rfl, x, C, dx, _, _, rfl, hx, cl, nM, tf_many _ _, n, rfl, _, rfl, ?_⟩
    refine iteF ?_
    refine ⟨_, rfl, x, C, dx, _, _, rfl, hx, cl, nM, tf_many _ _, _, rfl, rfl, _, rfl, ?_⟩
    rw [neq_same]
    refine iteF ?_
    refine ⟨_, rfl, x, C, dx, _, _, rfl, hx, cl, nR, tf_rows _ _, _, _, _, _, true, rfl, ClsV.ty "list", TyX.base (TyOf.lst hrr), kit_ty (by decide +kernel), _, rfl, ?_⟩
    refine iteF ?_
    have hlr : (ts.map V.ref).length = (ds.map V.ref).length := by rw [List.length_map, List.length_map, hT.1, hD.1]
    have hld : (ds.map V.ref).length = mss.length := by rw [List.length_map, hD.1]
    refine ⟨_, rfl, x, C, dx, _, _, rfl, hx, cl, nR, tf_rows _ _, r, _, rfl, .inl (SqL.of hrr), _, rfl, du, _, rfl, .inl (SqL.of hdu), rfl, _, rfl, ?_⟩
    rw [hlr, neq_same]
    refine iteF ?_
    refine ⟨_, rfl, du, _, rfl, .inl (SqL.of hdu), _, rfl, by omega, by omega, for_range (lo := 0) (n := _) (fun i σ H' => ∃ kv rv : Option V, σ = [some (.ref x), some (.int n), some (.ref du), kv, rv, none] ∧ Same H H')
      ⟨none, none, rfl, Same.refl H⟩ ?_ ?_⟩
    · rintro i σ H1 hi ⟨kv, rv, rfl, s1⟩
      have him : i < mss.length := by rw [← hld]; omega
      obtain ⟨ms, hms⟩ : ∃ ms, mss[i]? = some ms := ⟨mss[i], List.getElem?_eq_getElem him⟩
      obtain ⟨t, ht, hTt⟩ := hT.of hms
      obtain ⟨d, hd, hDd⟩ := hD.of hms
      have at1 : atI (ts.map V.ref) (0 + (i : Int)) = some (.ref t) := by
        rw [Int.zero_add]
        exact atI_nat (by rw [List.getElem?_map, ht]; rfl)
      have at2 : atI (ds.map V.ref) (0 + (i : Int)) = some (.ref d) := by
        rw [Int.zero_add]
        exact atI_nat (by rw [List.getElem?_map, hd]; rfl)
      refine ⟨_, rfl, x, C, dx, _, _, rfl, s1 _ _ hx, cl, nR, tf_rows _ _, _, rfl, r, _, _, _, rfl, rfl, SqL.of (s1 _ _ hrr), at1, ?_⟩
      refine ⟨_, rfl, _, _, _, _, true, rfl, ClsV.ty "list", TyX.base (TyOf.lst (s1 _ _ hTt)), kit_ty (by decide +kernel), _, rfl, ?_⟩
      refine iteF ?_
      refine ⟨_, rfl, _, rfl, _, rfl, du, _, _, _, rfl, rfl, SqL.of (s1 _ _ hdu), at2, rowD ms, rowD ms, .lst (SqL.of (s1 _ _ hTt)) (dpInts ms), .lst (SqL.of (s1 _ _ hDd)) (dpInts ms), shInts ms, shInts ms, _, rfl, ?_⟩
      rw [eqv_same]
      refine iteF ?_
      refine ⟨_, rfl, t, rfl, ⟨_, SqL.of (s1 _ _ hTt)⟩, fun D hD0 => ?_⟩
      refine lc_list (K := K) (a := t) (xs := ms.map V.int) (fun j H3 => H3 D = some (.lst []) ∧ Same H1 H3) ⟨upd_same, Same.up (Same.refl H1) hD0⟩ (fun j H3 _ q => SqL.of (q.2 _ _ (s1 _ _ hTt))) ?_ ?_
      · rintro j y H3 hy ⟨hD3, s3⟩
        obtain ⟨z, rfl⟩ : ∃ z, y = V.int z := by
          rw [List.getElem?_map] at hy
          cases q : ms[j]? with
          | none => rw [q] at hy; cases hy
          | some z => rw [q] at hy; exact ⟨z, (Option.some.inj hy).symm⟩
        exact ⟨rfl, _, rfl, z, rfl, _, rfl, hD3, s3⟩
      · rintro H3 ⟨hD3, s3⟩
        refine ⟨Nat.zero_le _, fun e he => ?_⟩
        have De : D ≠ e := ne_of_none hD3 he
        refine ⟨rowD [], rowD [], .lst (SqL.of (xs := []) (by rw [upd_ne De]; exact hD3)) .nil, .lst (SqL.of (xs := []) upd_same) .nil, shInts [], shInts [], _, rfl, ?_⟩
        rw [eqv_same]
        refine iteF ?_
        exact ⟨_, _, rfl, Same.up (s1.trans s3) he⟩
    · rintro σ H1 ⟨kv, rv, rfl, s1⟩
      exact k H1 s1
end
end Mb

namespace Mb
open L2 PySem PySem.Spec PyProof.Rows
theorem rising_one : ∀ (l m : List Int), l.Pairwise (· < ·) → m.Pairwise (· < ·) → (∀ k, k ∈ l ↔ k ∈ m) → l = m
  | [], [], _, _, _ => rfl
  | [], b :: m, _, _, h => absurd ((h b).mpr List.mem_cons_self) (by simp)
  | a :: l, [], _, _, h => absurd ((h a).mp List.mem_cons_self) (by simp)
  | a :: l, b :: m, hl, hm, h => by
    have hl' := List.pairwise_cons.mp hl
    have hm' := List.pairwise_cons.mp hm
    have e : a = b := by
      have h1 := (h a).mp List.mem_cons_self
      have h2 := (h b).mpr List.mem_cons_self
      rcases (List.mem_cons).1 h1 with z | z
      · exact z
      · rcases (List.mem_cons).1 h2 with y | y
        · exact y.symm
        · have := hm'.1 a z
          have := hl'.1 b y
          omega
    subst e
    congr 1
    refine rising_one l m hl'.2 hm'.2 fun k => ⟨fun hk => ?_, fun hk => ?_⟩
    · rcases List.mem_cons.mp ((h k).mp (List.mem_cons_of_mem _ hk)) with z | z
      · have := hl'.1 k hk
        omega
      · exact z
    · rcases List.mem_cons.mp ((h k).mpr (List.mem_cons_of_mem _ hk)) with z | z
      · have := hm'.1 k hk
        omega
      · exact z
/-- the marks below j that stand in ns, rising -/
def dueTo (ns : List Int) : Nat → List Int
  | 0 => []
  | j + 1 => dueTo ns j ++ (if decide ((j : Int) ∈ ns) = true then [(j : Int)] else [])
theorem dueTo_mem (ns : List Int) : ∀ (j : Nat) (k : Int), k ∈ dueTo ns j ↔ k ∈ ns ∧ 0 ≤ k ∧ k < j
  | 0, k => by
    show k ∈ ([] : List Int) ↔ _
    constructor
    · intro h; cases h
    · intro h; omega
  | j + 1, k => by
    show k ∈ dueTo ns j ++ _ ↔ _
    rw [List.mem_append, dueTo_mem ns j k]
    by_cases h : decide ((j : Int) ∈ ns) = true
    · rw [if_pos h]
      have hj := of_decide_eq_true h
      constructor
      · rintro (z | z)
        · exact ⟨z.1, z.2.1, by omega⟩
        · rw [(List.mem_singleton).1 z]
          exact ⟨hj, by omega, by omega⟩
      · rintro ⟨z1, z2, z3⟩
        by_cases e : k = j
        · exact .inr (by rw [e]; exact List.mem_singleton.mpr rfl)
        · exact .inl ⟨z1, z2, by omega⟩
    · rw [if_neg h]
      have hj : ¬ (j : Int) ∈ ns := fun z => h (decide_eq_true z)
      constructor
      · rintro (z | z)
        · exact ⟨z.1, z.2.1, by omega⟩
        · cases z
      · rintro ⟨z1, z2, z3⟩
        by_cases e : k = j
        · exact absurd (by rw [← e]; exact z1) hj
        · exact .inl ⟨z1, z2, by omega⟩
theorem dueTo_rise (ns : List Int) : ∀ j : Nat, (dueTo ns j).Pairwise (· < ·)
  | 0 => List.Pairwise.nil
  | j + 1 => by
    show (dueTo ns j ++ _).Pairwise _
    rw [List.pairwise_append]
    refine ⟨dueTo_rise ns j, ?_, fun a ha b hb => ?_⟩
    · split
      · exact List.pairwise_singleton _ _
      · exact List.Pairwise.nil
    · have h1 := ((dueTo_mem ns j a).mp ha).2.2
      split at hb
      · rw [List.mem_singleton.mp hb]; exact h1
      · cases hb
theorem dueTo_len (ns : List Int) : ∀ j : Nat, (dueTo ns j).length ≤ j
  | 0 => Nat.le_refl _
  | j + 1 => by
    show (dueTo ns j ++ _).length ≤ _
    rw [List.length_append]
    have := dueTo_len ns j
    split
    · simp only [List.length_singleton]; omega
    · simp only [List.length_nil]; omega
theorem okRow_iff {n : Int} {ns : List Int} : okRow n ns = true ↔ ∀ k ∈ ns, 0 ≤ k ∧ k < n := by
  unfold okRow
  simp only [List.all_eq_true, Bool.and_eq_true, decide_eq_true_eq]
theorem okRow_not {n : Int} {ns : List Int} : okRow n ns = false ↔ ∃ k ∈ ns, ¬ (0 ≤ k ∧ k < n) := by
  constructor
  · intro h
    refine Classical.byContradiction fun c => ?_
    have : okRow n ns = true := okRow_iff.mpr fun k hk => Classical.byContradiction fun d => c ⟨k, hk, d⟩
    rw [h] at this
    cases this
  · rintro ⟨k, hk, h⟩
    cases e : okRow n ns with
    | false => rfl
    | true => exact absurd (okRow_iff.mp e k hk) h
theorem told_due {n : Int} {ns ms : List Int} (t : Told ns ms) (ok : okRow n ns = true) : ms = dueTo ns n.toNat := by
  refine rising_one _ _ t.1 (dueTo_rise ns _) fun k => ?_
  rw [t.2 k, dueTo_mem]
  have := okRow_iff.mp ok
  constructor
  · intro h
    have q := this k h
    exact ⟨h, q.1, by omega⟩
  · exact fun h => h.1
theorem allTold_due {n : Int} {nss mss : List (List Int)} (t : AllTold nss mss) (ok : AllOk n nss) : mss = nss.map fun ns => dueTo ns n.toNat := by
  refine List.ext_getElem? fun i => ?_
  rw [List.getElem?_map]
  cases q : nss[i]? with
  | none =>
    have : mss[i]? = none := by
      rw [List.getElem?_eq_none_iff] at q ⊢
      rw [← t.1]; exact q
    rw [this]; rfl
  | some ns =>
    have hi : i < mss.length := by rw [← t.1]; exact (List.getElem?_eq_some_iff.mp q).1
    have hm : mss[i]? = some mss[i] := List.getElem?_eq_getElem hi
    rw [hm]
    show some mss[i] = some (dueTo ns n.toNat)
    rw [told_due (t.2 i ns mss[i] q hm) (ok ns (List.mem_of_getElem? q))]
/-- below, by the count -/
def belowOf (n : Int) : Int := if (if n < 8 then n else 8) > 1 then (if n < 8 then n else 8) else 1
theorem below_pos (n : Int) : 0 < belowOf n := by
  unfold belowOf
  split <;> omega
theorem below_le {n : Int} (h : 1 ≤ n) : belowOf n ≤ n := by
  unfold belowOf
  split
  · split <;> omega
  · omega
theorem below_one {n : Int} (h : n < 1) : belowOf n = 1 := by
  have h8 : (if n < 8 then n else 8) = n := if_pos (by omega)
  unfold belowOf
  rw [h8, if_neg (by omega)]
/-- what the law says of its drawn rows ahead of the fault -/
theorem bad_drawn {n : Int} {nss : List (List Int)} (h0 : 0 ≤ n) (hk : ∀ ns ∈ nss, ∀ k ∈ ns, 0 ≤ k ∧ k < belowOf n) : (n < 1 ∧ nss.filter (fun ns => !decide (ns = [])) ≠ []) ↔ SomeBad n nss := by
  constructor
  · rintro ⟨h1, h2⟩
    obtain ⟨ns, hns⟩ := List.exists_mem_of_ne_nil _ h2
    have hm := List.mem_filter.mp hns
    have hne : ns ≠ [] := by simpa using hm.2
    obtain ⟨k, hkm⟩ := List.exists_mem_of_ne_nil _ hne
    refine ⟨ns, hm.1, okRow_not.mpr ⟨k, hkm, ?_⟩⟩
    have := (hk ns hm.1 k hkm).1
    omega
  · rintro ⟨ns, hm, hb⟩
    obtain ⟨k, hkm, hn⟩ := okRow_not.mp hb
    have q := hk ns hm k hkm
    have h1 : n < 1 := by
      refine Classical.byContradiction fun c => hn ⟨q.1, ?_⟩
      have := below_le (n := n) (by omega)
      omega
    refine ⟨h1, fun e => ?_⟩
    have : ns ∈ nss.filter (fun ns => !decide (ns = [])) := List.mem_filter.mpr ⟨hm, by
      have : ns ≠ [] := fun z => by rw [z] at hkm; cases hkm
      simp [this]⟩
    rw [e] at this
    cases this
end Mb

namespace Mb
open L2 PySem PySem.Spec PyProof.Rows
section
variable {P : Program} {w : World} {K : PySem.W.Frag} {mg : Str → Option Value} {base : Heap} {C CS CM CT CN CE : Addr}
def spLaw (K : PySem.W.Frag) (Ts : List Addr) : Sp := fun vs H Q _ => ∃ (a : Addr) (zs : List Int), vs = [.ref a] ∧ SqL K H a (zs.map V.int) ∧ Tabs Ts H ∧ ∀ H', Q (.bl true) H'
abbrev nLaw : List Str := ["_law_script", "_law_many", "_law_below", "_law_rows", "_law_cell", "_law_row", "_law_bad", "_law_due", "_law_handed", "_law_table", "_law_mark"]
theorem ref_at {as : List Addr} {i : Nat} {y : V} (h : (as.map V.ref)[i]? = some y) : ∃ a, as[i]? = some a ∧ y = V.ref a := by
  rw [List.getElem?_map] at h
  cases q : as[i]? with
  | none => rw [q] at h; cases h
  | some a => rw [q] at h; exact ⟨a, rfl, (Option.some.inj h).symm⟩
theorem eqv_row (ns ms : List Int) : PyData.eqv (rowD ns) (rowD ms) = decide (ns = ms) := eqInts ns ms
theorem eqv_grid (ns ms : List (List Int)) : PyData.eqv (gridD ns) (gridD ms) = decide (ns = ms) := eqRows ns ms
theorem RowsAt.set {H : Hp} {as : List Addr} {nss : List (List Int)} (r : RowsAt H as nss) (nd : as.Nodup) {j : Nat} {b : Addr} (h : as[j]? = some b) (qs : List Int) : RowsAt (upd H b (.lst (qs.map V.int))) as (nss.set j qs) := by
  have hj : j < nss.length := by rw [← r.1]; exact (List.getElem?_eq_some_iff.mp h).1
  refine ⟨by rw [List.length_set]; exact r.1, fun i a e => ?_⟩
  by_cases hij : i = j
  · subst hij
    rw [h] at e
    cases e
    exact ⟨qs, List.getElem?_set_self hj, upd_same⟩
  · obtain ⟨ns, h1, h2⟩ := r.2 i a e
    refine ⟨ns, by rw [List.getElem?_set_ne (Ne.symm hij)]; exact h1, ?_⟩
    have hab : a ≠ b := fun z => by
      subst z
      obtain ⟨p1, q1⟩ := List.getElem?_eq_some_iff.mp e
      obtain ⟨p2, q2⟩ := List.getElem?_eq_some_iff.mp h
      exact hij ((List.getElem_inj nd).mp (q1.trans q2.symm))
    rw [upd_ne hab]
    exact h2
def wrongs (n x : Int) : List V := [.int (-1), .int (if n > 0 then n else 0), .int ((if n > 0 then n else 0) + x)]
theorem wrong_in {n x : Int} (hx : 0 ≤ x) {v : V} (h : v ∈ wrongs n x) : ∃ z : Int, v = .int z ∧ ¬ (0 ≤ z ∧ z < n) := by
  unfold wrongs at h
  simp only [List.mem_cons, List.not_mem_nil, or_false] at h
  have hm : n ≤ (if n > 0 then n else 0) := by split <;> omega
  rcases h with z | z | z
  · exact ⟨_, z, by omega⟩
  · exact ⟨_, z, by omega⟩
  · exact ⟨_, z, by omega⟩
theorem ne_v (v : V) : (!decide (v = v)) = false := by simp
theorem eq_v (v : V) : decide (v = v) = true := by simp
theorem ne_grid (m : List (List Int)) : (!decide (m = m)) = false := by simp
theorem inV_int (m : Int) (ns : List Int) : inV (.int m) (ns.map V.int) = decide (m ∈ ns) := by
  unfold inV
  rw [Bool.eq_iff_iff, decide_eq_true_eq, List.any_eq_true]
  constructor
  · rintro ⟨y, hy, e⟩
    obtain ⟨k, hk, rfl⟩ := List.mem_map.mp hy
    have : k = m := by simpa [eqV] using e
    rw [← this]; exact hk
  · intro h
    exact ⟨.int m, List.mem_map.mpr ⟨m, h, rfl⟩, by simp [eqV]⟩
theorem flat_ints (ns : List Int) : (ns.map V.int).all flatV = true := by
  rw [List.all_eq_true]
  intro v hv
  obtain ⟨k, _, rfl⟩ := List.mem_map.mp hv
  rfl
theorem out_of {bs : List Addr} {z p : Addr} (h1 : ∀ b ∈ bs, p ≠ b) (h2 : p ≠ z) : p ∉ bs ++ [z] := fun h => by
  rcases (List.mem_append).1 h with q | q
  · exact h1 p q rfl
  · exact h2 (List.mem_singleton.mp q)
def rListOf (K : PySem.W.Frag) : List V → Hp → VK → Prop := fun xs H Q => ∃ p ys, xs = [V.ref p] ∧ (SqL K H p ys ∨ SqT K H p ys) ∧ ∀ l : Addr, H l = none → Q (V.ref l) (upd H l (.lst ys))
abbrev scDue : Scope := { kind := .function, names := [(".0", .local), ("_law_row", .cell), ("range", .globalImplicit), ("_law_many", .cell)], isGenerator := false, isCoroutine := false }
theorem scLaw : FnScope nLaw ["_law_script"] (defScope sLaw) := ⟨rfl, rfl, rfl, by decide +kernel, rfl, by decide +kernel, by decide +kernel⟩
theorem ok_law {f fC fN fR fT fO fA fF fI : Addr} {fd fdC fdN fdR fdT fdO fdA fdF fdI : FuncData} {Ts : List Addr} (F : Fun K "law" "law" sLaw f fd) (L : LTxt K mg) (M : Mk K C fI)
    (GI : FnOk P w K mg base (L2.CX P w) 3 fI fdI ["self", "many", "rows"] (spInit K C CS CM Ts)) (gTab : mg "Table" = some (.ref C)) (bI : Binds K fdI ["self", "many", "rows"] [])
    (GC : FnOk P w K mg base CX0 1 fC fdC ["_law_script", "_law_k"] (spCell K)) (gC : mg "_law_cell_at" = some (.ref fC)) (kC : PySem.W.keepIn K (.ref fC) = true) (bC : Binds K fdC ["_law_script", "_law_k"] [])
    (GN : FnOk P w K mg base CX0 1 fN fdN ["_law_cell"] (spCount)) (gN : mg "_law_count" = some (.ref fN)) (kN : PySem.W.keepIn K (.ref fN) = true) (bN : Binds K fdN ["_law_cell"] [])
    (GR : FnOk P w K mg base CX0 2 fR fdR ["_law_script", "_law_below"] (spRows K)) (gR : mg "_law_rows_by" = some (.ref fR)) (kR : PySem.W.keepIn K (.ref fR) = true) (bR : Binds K fdR ["_law_script", "_law_below"] [])
    (GT : FnOk P w K mg base CX0 5 fT fdT ["_law_many", "_law_rows"] (spTry Ts (.str "size") (.str "mark") (.str ""))) (gT : mg "_law_tried" = some (.ref fT)) (kT : PySem.W.keepIn K (.ref fT) = true) (bT : Binds K fdT ["_law_many", "_law_rows"] [])
    (GO : FnOk P w K mg base CX0 5 fO fdO ["_law_many", "_law_rows"] (spTry Ts (.str "size") (.str "mark") (.str ""))) (gO : mg "_law_tried_otherwise" = some (.ref fO)) (kO : PySem.W.keepIn K (.ref fO) = true) (bO : Binds K fdO ["_law_many", "_law_rows"] [])
    (GA : FnOk P w K mg base CX0 5 fA fdA ["_law_many", "_law_rows"] (spTry Ts (.bl true) (.bl true) (.bl false))) (gA : mg "_law_refused_by_any" = some (.ref fA)) (kA : PySem.W.keepIn K (.ref fA) = true) (bA : Binds K fdA ["_law_many", "_law_rows"] [])
    (GF : FnOk P w K mg base CX0 2 fF fdF ["_law_table", "_law_many", "_law_due"] (spFields C)) (gF : mg "_law_fields" = some (.ref fF)) (kF : PySem.W.keepIn K (.ref fF) = true) (bF : Binds K fdF ["_law_table", "_law_many", "_law_due"] [])
    : FnOk P w K mg base CX0 6 f fd ["_law_script"] (spLaw K Ts) := by
  refine F.ok scLaw (fun vs H Q E h => ?_) (fun cdv A outer s H vs Q E hr h => ?_)
  · obtain ⟨a, zs, rfl, _⟩ := h
    rfl
  · obtain ⟨a, zs, rfl, hS, tb, k⟩ := h
    have hr5 := hr
    have hr4 := hr.mono (j := 4) (by decide)
    have hr2 := hr.mono (j := 2) (by decide)
    have hr1 := hr.mono (j := 1) (by decide)
    refine ⟨_, pss_cons (ps_set (i := 1) scLaw.nd rfl (Or.inr rfl) (pe_call GN hr1 (by rfl) gN kN bN .nil pass0 (pa_cons (pe_call GC hr1 (by rfl) gC kC bC .nil pass0 (pa_cons (pv 0) (pa_cons pe_int pa_nil))) pa_nil)))
      (pss_cons (ps_set (i := 2) scLaw.nd rfl (Or.inl rfl) (pe_callB (call_max2 rfl) (by rfl) L.max PyProof.Rows.boot_max (pa_cons pe_int (pa_cons (pe_callB (call_min2 rfl) (by rfl) L.min PyProof.Rows.boot_min (pa_cons pe_int (pa_cons (pv 1) pa_nil))) pa_nil))))
      (pss_cons (ps_set (i := 3) scLaw.nd rfl (Or.inl rfl) (pe_call GR hr2 (by rfl) gR kR bR .nil pass0 (pa_cons (pv 0) (pa_cons (pv 2) pa_nil))))
      (pss_cons (ps_set (i := 4) scLaw.nd rfl (Or.inl rfl) (pe_call GC hr1 (by rfl) gC kC bC .nil pass0 (pa_cons (pv 0) (pa_cons pe_int pa_nil))))
      (C8.pss_cut (ps_set (i := 6) scLaw.nd rfl (Or.inl rfl) (pe_and (pe_cmpR op_lt (pv 1) pe_int (nomark _)) (pe_one (pe_cmpR (op_neD hr.units) (pe_lc (own := [("_law_row", 5)]) (g := gName 5) (tt := tTest (tOp (rNeD K) (tVar 5) (tLst tNil))) rfl scLaw.nd (pi_list (pv 3)) (blkOk_by (N := nLaw) (sc := defScope sLaw) (by decide +kernel)) (fun _ _ _ _ _ => pg_name (i := 5) scLaw.nd rfl (Or.inl rfl)) (fun _ _ _ _ _ => pts_one (pt_cmpR (op_neD hr.units) (pv 5) (pe_lst pa_nil) (nomark _))) (fun _ _ _ _ _ => pv 5)) (pe_lst pa_nil) (nomark _)))))
      (C8.pss_cut (ps_if (PW.pt (pw_and (pt_cmpR op_eq (pe_op op_mod (pv 4) pe_int) pe_int (nomark _)) (pw_and1 (pt_cmpR (op_neD hr.units) (pv 3) (pe_lst pa_nil) (nomark _)))))
        (pss_cons (ps_set (i := 5) scLaw.nd rfl (Or.inl rfl) (pe_ix ix_list (pv 3) (pe_op op_mod (pe_op op_fdivN (pv 4) pe_int) (pe_callB call_len_seq (by rfl) L.len PySem.boot_len (pa_cons (pv 3) pa_nil))) (fun _ _ => rfl)))
        (pss_cons (ps_expr (pe_bm PySem.F.plainAttrs_list PySem.F.slot_list_insert PySem.F.type_list_insert mt_insert (pv 5) (pa_cons (pe_op op_mod (pe_op op_fdivN (pv 4) pe_int) (pe_op op_add (pe_callB call_len_seq (by rfl) L.len PySem.boot_len (pa_cons (pv 5) pa_nil)) pe_int))
          (pa_cons (pe_ix ix_list (pe_lst (pa_cons (pe_un un_neg pe_int) (pa_cons (pe_callB (call_max2 rfl) (by rfl) L.max PyProof.Rows.boot_max (pa_cons pe_int (pa_cons (pv 1) pa_nil))) (pa_cons (pe_op op_add (pe_callB (call_max2 rfl) (by rfl) L.max PyProof.Rows.boot_max (pa_cons pe_int (pa_cons (pv 1) pa_nil))) (pe_op op_mod (pe_op op_fdivN (pv 4) pe_int) (pe_op op_pow pe_int pe_int))) pa_nil))))
            (pe_op op_mod (pe_op op_fdivN (pv 4) pe_int) pe_int) (fun _ _ => rfl)) pa_nil))))
        (pss_one (ps_set (i := 6) scLaw.nd rfl (Or.inl rfl) pe_bl)))) pss_nil)
      (pss_cons (ps_set (i := 7) scLaw.nd rfl (Or.inl rfl) pe_str)
      (C8.pss_cut (ps_if (PW.pt (pw_or (pt_cmpR op_lt (pv 1) pe_int (nomark _)) (pw_or (pt_cmpR op_gt (pv 1) pe_int (nomark _)) (pw_or1 (pt_cmpR op_gt (pe_callB call_len_seq (by rfl) L.len PySem.boot_len (pa_cons (pv 3) pa_nil)) pe_int (nomark _)))))) (pss_one (ps_set (i := 7) scLaw.nd rfl (Or.inl rfl) pe_str)) (pss_one (ps_if (pt_val (pv 6)) (pss_one (ps_set (i := 7) scLaw.nd rfl (Or.inl rfl) pe_str)) pss_nil)))
      (C8.pss_cut (ps_setLc (i := 8) (own := [("_law_row", 5)]) (g := gName 5) (tt := tYes) (te := tCB (rListOf K) (tCons (tVar 5) tNil)) rfl scLaw.nd rfl rfl (sw_true rfl rfl rfl (by decide +kernel)) (pi_list (pv 3)) (blkOk_by (N := nLaw) (sc := defScope sLaw) (by decide +kernel)) (fun _ _ _ _ _ => pg_name (i := 5) scLaw.nd rfl (Or.inl rfl)) (fun _ _ _ _ _ => pts_nil) (fun _ _ _ _ _ => pe_callTy call_list_of (by rfl) L.list PyProof.Rows.boot_list (pa_cons (pv 5) pa_nil)))
      (pss_cons (ps_if (PW.pt (pw_or (pt_cmpR op_ne (pe_call GT hr5 (by rfl) gT kT bT .nil pass0 (pa_cons (pv 1) (pa_cons (pv 8) pa_nil))) (pv 7) (nomark _)) (pw_or1 (pt_cmpR (op_neD hr.units) (pv 8) (pv 3) (nomark _))))) (pss_one (ps_ret pe_bl)) pss_nil)
      (pss_cons (ps_if (pt_cmpR op_ne (pv 7) pe_str (nomark _)) (pss_one (ps_ret (pe_and (pe_call GA hr5 (by rfl) gA kA bA .nil pass0 (pa_cons (pv 1) (pa_cons (pv 8) pa_nil))) (pe_one (pe_cmpR op_eq (pe_call GO hr5 (by rfl) gO kO bO .nil pass0 (pa_cons (pv 1) (pa_cons (pv 8) pa_nil))) (pv 7) (nomark _)))))) pss_nil)
      (pss_cons (ps_set (i := 9) scLaw.nd rfl (Or.inl rfl) (pe_make M GI hr4 (by rfl) gTab bI .nil passL (pa_cons (pv 1) (pa_cons (pv 8) pa_nil))))
      (pss_cons (ps_setLc (i := 7) (own := [("_law_row", 5)]) (g := gName 5) (tt := tYes) rfl scLaw.nd rfl rfl (sw_true rfl rfl rfl (by decide +kernel)) (pi_list (pv 3)) (blkOk_by (N := nLaw) (sc := defScope sLaw) (by decide +kernel)) (fun _ _ _ _ _ => pg_name (i := 5) scLaw.nd rfl (Or.inr rfl)) (fun _ _ _ _ _ => pts_nil)
        (fun _ _ _ _ _ => (pe_lc (own := [("_law_mark", 10)]) (g := gName 10) (tt := tTest (tOp (rIn K false) (tVar 10) (tVar 5))) rfl scLaw.nd (pi_range1 (by rfl) L.range (pa_cons (pv 1) pa_nil)) (by exact blkOk_by (N := nLaw) (sc := scDue) (by decide +kernel)) (fun _ _ _ _ _ => pg_name (i := 10) scLaw.nd rfl (Or.inl rfl)) (fun _ _ _ _ _ => pts_one (pt_cmpR op_in_seq (pv 10) (pv 5) (by rfl))) (fun _ _ _ _ _ => pv 10))))
      (pss_cons (ps_if (PW.pt (pw_or (pt_cmpR (op_neD hr.units) (pv 8) (pv 3) (nomark _)) (pw_or1 (pt_not (pt_val (pe_call GF hr2 (by rfl) gF kF bF .nil pass0 (pa_cons (pv 9) (pa_cons (pv 1) (pa_cons (pv 7) pa_nil))))))))) (pss_one (ps_ret pe_bl)) pss_nil)
      (pss_cons (ps_expr (pe_bm PySem.F.plainAttrs_list PySem.F.slot_list_append PySem.F.type_list_append mt_append (pv 8) (pa_cons (pe_lst (pa_cons pe_int pa_nil)) pa_nil)))
      (pss_cons (ps_for PassesOwn.never rfl (pi_list (pv 8)) (pg_name (i := 5) scLaw.nd rfl (Or.inl rfl)) (pss_one (ps_expr (pe_bm PySem.F.plainAttrs_list PySem.F.slot_list_append PySem.F.type_list_append mt_append (pv 5) (pa_cons pe_int pa_nil)))))
      (pss_one (ps_ret (pe_call GF hr2 (by rfl) gF kF bF .nil pass0 (pa_cons (pv 9) (pa_cons (pv 1) (pa_cons (pv 7) pa_nil))))))))))))))))))))), ?_⟩
    refine ⟨_, rfl, a, zs, _, rfl, hS, by decide, _, rfl, fun n H1 s1 => ?_⟩
    refine ⟨_, rfl, _, _, rfl, _, _, rfl, ?_⟩
    refine ⟨_, rfl, _, rfl, a, zs, belowOf n, rfl, s1.seq hS, below_pos n, fun H2 l as nss R h14 h9 => ?_⟩
    have s2 : Same H H2 := s1.trans R.same
    refine ⟨_, rfl, a, zs, _, rfl, s2.seq hS, by decide, ?_⟩
    have kp2 : Kp Ts H H2 := Kp.of_same tb s2
    generalize hc : cellAt zs 2 = c
    -- is there a fault already
    refine ⟨fun σ H' => ∃ b : Bool, σ = [some (.ref a), some (.int n), some (.int (belowOf n)), some (.ref l), some (.int c), none, some (.bl b), none, none, none, none] ∧ Kp Ts H H' ∧ H' l = some (.lst (as.map V.ref)) ∧ RowsAt H' as nss ∧ (0 ≤ n → (b = true ↔ SomeBad n nss)), ?_, ?_⟩
    · refine ⟨_, rfl, ⟨_, _, rfl, rfl, ⟨_, rfl, ?_⟩⟩⟩
      refine ite2 (fun c1 => ?_) (fun c1 => ?_)
      · have c1' := of_decide_eq_true c1
        refine ⟨_, rfl, l, rfl, ⟨_, SqL.of R.lst⟩, fun D hD => ?_⟩
        refine lc_list (K := K) (a := l) (xs := as.map V.ref) (fun i H3 => ∃ cs : List Addr, H3 D = some (.lst (cs.map V.ref)) ∧ RowsAt H2 cs ((nss.take i).filter fun ns => !decide (ns = [])) ∧ Same H2 H3 ∧ cs.length ≤ i)
          ⟨[], upd_same, RowsAt.nil, Same.up (Same.refl H2) hD, Nat.le_refl _⟩ (fun i H3 _ ⟨_, _, _, s, _⟩ => SqL.of (s _ _ R.lst)) ?_ ?_
        · rintro i y H3 hy ⟨cs, hD3, hR3, s3, hcl⟩
          obtain ⟨b, hb, rfl⟩ := ref_at hy
          obtain ⟨ns, hns, hB⟩ := R.rows.2 i b hb
          have hi : i < 14 := by
            have := (List.getElem?_eq_some_iff.mp hns).1
            omega
          have tk : (nss.take (i + 1)).filter (fun ns => !decide (ns = [])) = (nss.take i).filter (fun ns => !decide (ns = [])) ++ (if (!decide (ns = [])) = true then [ns] else []) := by
            rw [List.take_add_one, hns, List.filter_append]
            congr 1
            show List.filter _ [ns] = _
            rw [List.filter_cons]
            split <;> rfl
          refine ⟨rfl, _, rfl, Nat.zero_le _, fun e he => ⟨rowD ns, rowD [], .lst (SqL.of ((Same.up s3 he) _ _ hB)) (dpInts ns), .lst (SqL.of (xs := []) upd_same) .nil, shInts ns, shInts [], _, rfl, ?_⟩⟩
          rw [eqv_row, tk]
          have De : D ≠ e := ne_of_none hD3 he
          refine ite2 (fun c2 => ?_) (fun c2 => ?_)
          · rw [if_pos c2]
            refine ⟨_, rfl, cs.map V.ref, by rw [upd_ne De]; exact hD3, by rw [List.length_map, sizeLine_eq]; omega, cs ++ [b], ?_, hR3.snoc hB, fun q o h => ?_, by rw [List.length_append, List.length_singleton]; omega⟩
            · rw [upd_same, List.map_append]
              rfl
            · rw [upd_ne (ne_of_none h hD)]
              exact (Same.up s3 he) q o h
          · rw [if_neg c2, List.append_nil]
            exact ⟨cs, by rw [upd_ne De]; exact hD3, hR3, Same.up s3 he, by omega⟩
        · rintro H3 ⟨cs, hD3, hR3, s3, hcl⟩
          have hl2 : (as.map V.ref).length = nss.length := by rw [List.length_map, R.rows.1]
          rw [hl2, List.take_length] at hR3
          refine ⟨Nat.zero_le _, fun e he => ?_⟩
          have De : D ≠ e := ne_of_none hD3 he
          have s4 := Same.up (o := .lst []) s3 he
          refine ⟨gridD (nss.filter fun ns => !decide (ns = [])), gridD [], .lst (SqL.of (by rw [upd_ne De]; exact hD3)) (dpRows _ _ (hR3.same s4)), .lst (SqL.of (xs := []) upd_same) .nil, shRows _, shRows [], ?_⟩
          rw [eqv_grid]
          refine ⟨_, rfl, kp2.trans (Kp.of_same kp2.t1 s4), s4 _ _ R.lst, R.rows.same s4, fun h0 => ?_⟩
          rw [← bad_drawn h0 (fun ns hn => (h9 ns hn).2)]
          simp [c1']
      · have c1' : ¬ n < 1 := fun z => c1 (decide_eq_true z)
        refine ⟨false, rfl, kp2, R.lst, R.rows, fun h0 => ?_⟩
        rw [← bad_drawn h0 (fun ns hn => (h9 ns hn).2)]
        simp [c1']
    rintro σ H3 ⟨b, rfl, kp3, hl3, hR3, hb⟩
    have hlm : (as.map V.ref).length = nss.length := by rw [List.length_map, R.rows.1]
    -- a fault put in
    refine ⟨fun σ H' => ∃ (rv : Option V) (b : Bool) (nss : List (List Int)), σ = [some (.ref a), some (.int n), some (.int (belowOf n)), some (.ref l), some (.int c), rv, some (.bl b), none, none, none, none] ∧ Kp Ts H H' ∧ H' l = some (.lst (as.map V.ref)) ∧ RowsAt H' as nss ∧
      nss.length ≤ 14 ∧ (∀ ns ∈ nss, ns.length ≤ 10) ∧ (0 ≤ n → (b = true ↔ SomeBad n nss)), ?_, ?_⟩
    · refine ⟨_, rfl, _, _, rfl, rfl, (by show (0 : Int) < 3; decide), rfl, _, rfl, ?_⟩
      have stay : ∀ H4, Kp Ts H3 H4 → ∃ (rv : Option V) (b' : Bool) (nss : List (List Int)), ([some (.ref a), some (.int n), some (.int (belowOf n)), some (.ref l), some (.int c), none, some (.bl b), none, none, none, none] : L2.St) = [some (.ref a), some (.int n), some (.int (belowOf n)), some (.ref l), some (.int c), rv, some (.bl b'), none, none, none, none] ∧ Kp Ts H H4 ∧ H4 l = some (.lst (as.map V.ref)) ∧ RowsAt H4 as nss ∧
          nss.length ≤ 14 ∧ (∀ ns ∈ nss, ns.length ≤ 10) ∧ (0 ≤ n → (b' = true ↔ SomeBad n nss)) := fun H4 kp => ⟨none, b, nss, rfl, kp3.trans kp, kp.lst hl3, hR3.kp kp, h14, fun ns hn => by have := (h9 ns hn).1; omega, hb⟩
      refine ite2 (fun _ => ?_) (fun _ => iteF (stay H3 (Kp.refl kp3.t1)))
      refine ⟨_, rfl, Nat.zero_le _, fun e he => ?_⟩
      have kpe : Kp Ts H3 (upd H3 e (.lst [])) := (Kp.refl kp3.t1).new he
      refine ⟨gridD nss, gridD [], dpGrid (kpe.lst hl3) (hR3.kp kpe), .lst (SqL.of (xs := []) upd_same) .nil, shRows _, shRows [], _, rfl, ?_⟩
      rw [eqv_grid]
      refine ite2 (fun c2 => ?_) (fun _ => stay _ kpe)
      have hne : nss ≠ [] := by simpa using c2
      have hpos : 0 < nss.length := List.length_pos_iff.mpr hne
      have hpos' : (0 : Int) < ((as.map V.ref).length : Int) := by rw [hlm]; omega
      generalize hH4 : upd H3 e (.lst []) = H4 at kpe
      have hl4 := kpe.lst hl3
      have hR4 := hR3.kp kpe
      have b0 := Int.emod_nonneg (c.fdiv 3) (Int.ne_of_gt hpos')
      have b1 := Int.emod_lt_of_pos (c.fdiv 3) hpos'
      obtain ⟨v, hv, hv2⟩ := atI_in b0 b1
      obtain ⟨q, hq, rfl⟩ := ref_at hv2
      obtain ⟨ns, hns, hQ⟩ := hR4.2 _ q hq
      refine ⟨_, rfl, _, rfl, _, _, rfl, rfl, ⟨by decide, by decide⟩, _, rfl, l, _, rfl, .inl (SqL.of hl4), _, _, rfl, rfl, hpos', l, _, _, _, rfl, rfl, SqL.of hl4, hv, ?_⟩
      have hnl := (h9 ns (List.mem_of_getElem? hns)).1
      have lpos : (0 : Int) < ((ns.map V.int).length : Int) + 1 := by omega
      refine ⟨_, rfl, .inl ⟨rfl, _, SqL.of hQ⟩, _, rfl, _, _, rfl, rfl, ⟨by decide, by decide⟩, _, rfl, q, _, rfl, .inl (SqL.of hQ), _, _, rfl, rfl, _, _, rfl, rfl, lpos, ?_⟩
      refine ⟨_, rfl, _, rfl, _, _, rfl, _, rfl, _, _, rfl, _, rfl, _, _, rfl, rfl, ⟨by decide, by decide⟩, _, _, rfl, rfl, ⟨by decide, by decide, by decide⟩, _, _, rfl, rfl, (by show (0 : Int) < 10 ^ 20; decide), _, _, rfl, rfl, (by show 3 ≤ sizeLine; decide), fun p hp => ?_⟩
      have d0 := Int.emod_nonneg (c.fdiv 12) (show (3 : Int) ≠ 0 by decide)
      have d1 := Int.emod_lt_of_pos (c.fdiv 12) (show (0 : Int) < 3 by decide)
      obtain ⟨wv, hw, hw2⟩ := atI_in (xs := wrongs n (c.fdiv 4 % 10 ^ (20 : Int).toNat)) d0 d1
      obtain ⟨z, rfl, hz⟩ := wrong_in (Int.emod_nonneg _ (by decide)) (List.mem_of_getElem? hw2)
      have i0 := Int.emod_nonneg (c.fdiv 36) (Int.ne_of_gt lpos)
      have i1 := Int.emod_lt_of_pos (c.fdiv 36) lpos
      have qp : q ≠ p := ne_of_none hQ hp
      have small : ((ns.map V.int).length : Int) ≤ 9 := by rw [List.length_map]; omega
      have kp5 : Kp Ts H3 (upd H4 p (.lst (wrongs n (c.fdiv 4 % 10 ^ (20 : Int).toNat)))) := kpe.new hp
      have hH : H q = none := s1.free (R.new q (List.mem_of_getElem? hq)).1
      have lq : l ≠ q := (R.new q (List.mem_of_getElem? hq)).2.symm
      refine ⟨_, rfl, _, _, rfl, rfl, ⟨by decide, by decide⟩, _, _, rfl, rfl, (by show (0 : Int) < 3; decide), p, wrongs n (c.fdiv 4 % 10 ^ (20 : Int).toNat), _, _, rfl, rfl, SqL.of upd_same, hw, q, _, _, _, rfl, rfl, Eq.trans (upd_ne qp) hQ, (by rw [sizeLine_eq]; omega), i0, by omega, ?_⟩
      have e1 : (ns.map V.int).take (c.fdiv 36 % (((ns.map V.int).length : Int) + 1)).toNat ++ [V.int z] ++ (ns.map V.int).drop (c.fdiv 36 % (((ns.map V.int).length : Int) + 1)).toNat =
          (ns.take (c.fdiv 36 % (((ns.map V.int).length : Int) + 1)).toNat ++ [z] ++ ns.drop (c.fdiv 36 % (((ns.map V.int).length : Int) + 1)).toNat).map V.int := by
        simp [List.map_append, List.map_take, List.map_drop]
      rw [e1]
      generalize hqs : ns.take (c.fdiv 36 % (((ns.map V.int).length : Int) + 1)).toNat ++ [z] ++ ns.drop (c.fdiv 36 % (((ns.map V.int).length : Int) + 1)).toNat = qs
      have hzq : z ∈ qs := by rw [← hqs]; simp
      have hql : qs.length ≤ 10 := by
        rw [← hqs]
        simp only [List.length_append, List.length_take, List.length_drop, List.length_singleton]
        omega
      have qT : q ∉ Ts := kpe.t1.out hQ fun _ y => by cases y
      have jlt : (c.fdiv 3 % ((as.map V.ref).length : Int)).toNat < nss.length := (List.getElem?_eq_some_iff.mp hns).1
      have hbad : SomeBad n (nss.set (c.fdiv 3 % ((as.map V.ref).length : Int)).toNat qs) :=
        ⟨qs, List.mem_of_getElem? (List.getElem?_set_self jlt), okRow_not.mpr ⟨z, hzq, hz⟩⟩
      refine ⟨some (.ref q), true, _, rfl, (kp3.trans kp5).own hH qT, Eq.trans (upd_ne lq) (kp5.lst hl3), (hR3.kp kp5).set R.nd hq qs, by rw [List.length_set]; exact h14, fun ms hm => ?_, fun _ => ⟨fun _ => hbad, fun _ => rfl⟩⟩
      rcases List.mem_or_eq_of_mem_set hm with y | y
      · have := (h9 ms y).1
        omega
      · rw [y]; exact hql
    rintro σ H4 ⟨rv, bb, mss, rfl, kp4, hl4, hR4, hfew, hshort, hbb⟩
    have hlm4 : ((as.map V.ref).length : Int) = (mss.length : Int) := by rw [List.length_map, hR4.1]
    -- what is due
    refine ⟨fun σ H' => ∃ d : Str, σ = [some (.ref a), some (.int n), some (.int (belowOf n)), some (.ref l), some (.int c), rv, some (.bl bb), some (.str d), none, none, none] ∧ H' = H4 ∧
      (badSize n mss.length → d = "size") ∧ (¬ badSize n mss.length → SomeBad n mss → d = "mark") ∧ (¬ badSize n mss.length → AllOk n mss → d = ""), ?_, ?_⟩
    · refine ⟨_, rfl, ⟨_, _, rfl, rfl, ⟨_, rfl, ?_⟩⟩⟩
      refine ite2 (fun c1 => ?_) (fun c1 => ?_)
      · have c1' := of_decide_eq_true c1
        exact ⟨_, rfl, rfl, fun _ => rfl, fun h => absurd (.inl c1') h, fun h => absurd (.inl c1') h⟩
      have c1' : ¬ n < 0 := fun y => c1 (decide_eq_true y)
      refine ⟨_, rfl, ⟨_, _, rfl, rfl, ⟨_, rfl, ?_⟩⟩⟩
      refine ite2 (fun c2 => ?_) (fun c2 => ?_)
      · have c2' : n > 8 := of_decide_eq_true c2
        exact ⟨_, rfl, rfl, fun _ => rfl, fun h => absurd (.inr (.inl c2')) h, fun h => absurd (.inr (.inl c2')) h⟩
      have c2' : ¬ n > 8 := fun y => c2 (decide_eq_true y)
      refine ⟨_, rfl, l, _, rfl, .inl (SqL.of hl4), _, _, rfl, rfl, _, rfl, ?_⟩
      refine ite2 (fun c3 => ?_) (fun c3 => ?_)
      · have c3' : badSize n mss.length := .inr (.inr (by have := of_decide_eq_true c3; omega))
        exact ⟨_, rfl, rfl, fun _ => rfl, fun h => absurd c3' h, fun h => absurd c3' h⟩
      have ns : ¬ badSize n mss.length := fun y => by
        rcases y with y | y | y
        · exact c1' y
        · exact c2' y
        · exact c3 (decide_eq_true (by omega))
      have hb0 := hbb (by omega)
      refine ⟨_, rfl, bb, rfl, ?_⟩
      refine ite2 (fun c4 => ?_) (fun c4 => ?_)
      · have sb := hb0.mp c4
        refine ⟨_, rfl, rfl, fun h => absurd h ns, fun _ _ => rfl, fun _ ok => ?_⟩
        obtain ⟨ms, hm, e⟩ := sb
        rw [ok ms hm] at e
        cases e
      · exact ⟨_, rfl, rfl, fun h => absurd h ns, fun _ sb => absurd (hb0.mpr sb) c4, fun _ _ => rfl⟩
    rintro σ H' ⟨d, rfl, eH, dS, dM, dG⟩
    subst eH
    -- what is handed in
    refine ⟨fun σ H5 => ∃ (h : Addr) (bs : List Addr), σ = [some (.ref a), some (.int n), some (.int (belowOf n)), some (.ref l), some (.int c), rv, some (.bl bb), some (.str d), some (.ref h), none, none] ∧ NewRows H' H5 h bs mss, ?_, ?_⟩
    · refine ⟨_, rfl, l, rfl, ⟨_, SqL.of hl4⟩, fun D hD => ?_⟩
      refine lc_list (K := K) (a := l) (xs := as.map V.ref) (fun i H5 => ∃ bs : List Addr, NewRows H' H5 D bs (mss.take i)) ⟨[], Same.up (Same.refl _) hD, hD, upd_same, RowsAt.nil, List.nodup_nil, fun b hb => by cases hb⟩ (fun i H5 _ ⟨_, r⟩ => SqL.of (r.same _ _ hl4)) ?_ ?_
      · rintro i y H5 hy ⟨bs, r⟩
        obtain ⟨q, hq, rfl⟩ := ref_at hy
        obtain ⟨ns, hns, hQ⟩ := hR4.2 i q hq
        refine ⟨rfl, _, rfl, q, _, rfl, .inl (SqL.of (r.same _ _ hQ)), fun p hp => ?_⟩
        have Dp : D ≠ p := ne_of_none r.lst hp
        have tk : mss.take (i + 1) = mss.take i ++ [ns] := by rw [List.take_add_one, hns]; rfl
        have il : i < 14 := by have := (List.getElem?_eq_some_iff.mp hns).1; omega
        have bl : bs.length ≤ i := by rw [r.rows.1, List.length_take]; omega
        refine ⟨bs.map V.ref, Eq.trans (upd_ne Dp) r.lst, by rw [List.length_map, sizeLine_eq]; omega, bs ++ [p], ?_⟩
        rw [tk]
        exact r.snoc (Same.up (Same.refl _) hp) hp upd_same
      · rintro H5 ⟨bs, r⟩
        rw [List.length_map, hR4.1, List.take_length] at r
        exact ⟨D, bs, rfl, r⟩
    rintro σ H5 ⟨h, bs, rfl, r5⟩
    have kp5 : Kp Ts H H5 := kp4.trans (Kp.of_same kp4.t1 r5.same)
    have hl5 := r5.same _ _ hl4
    have hR5 := hR4.same r5.same
    have g5 : Grid Ts H5 h mss := ⟨kp5.t1, ⟨bs, r5.lst, r5.rows⟩, by omega, fun ns hn => by have := hshort ns hn; omega⟩
    refine ⟨_, rfl, _, rfl, h, n, mss, rfl, g5, fun bad H6 kp6 => ?_, fun nb sb H6 kp6 => ?_, fun nb ok H6 kp6 => ?_⟩
    · have e := dS bad
      subst e
      refine ⟨_, rfl, rfl, ⟨_, rfl, ?_⟩⟩
      rw [ne_v]
      refine iteF ?_
      have g6 := g5.kp kp6
      obtain ⟨xs6, hx6, hX6⟩ := g6.ex
      refine ⟨_, rfl, _, rfl, gridD mss, gridD mss, dpGrid hx6 hX6, dpGrid (kp6.lst hl5) (hR5.kp kp6), shRows _, shRows _, _, rfl, ?_⟩
      rw [eqv_grid, ne_grid]
      refine iteF ?_
      refine ⟨_, rfl, rfl, ⟨_, rfl, ?_⟩⟩
      rw [show (!decide (V.str "size" = V.str "")) = true from by decide +kernel]
      refine iteT ?_
      refine ⟨_, rfl, _, rfl, h, n, mss, rfl, g6, ?_, ?_, ?_⟩
      rotate_left
      · exact fun nb => absurd bad nb
      · exact fun nb => absurd bad nb
      intro _ H7 kp7
      refine ⟨_, rfl, ?_⟩
      refine iteT ?_
      refine ⟨_, rfl, _, rfl, h, n, mss, rfl, g6.kp kp7, ?_, ?_, ?_⟩
      rotate_left
      · exact fun nb => absurd bad nb
      · exact fun nb => absurd bad nb
      intro _ H8 kp8
      refine ⟨_, rfl, rfl, ?_⟩
      rw [eq_v]
      exact k _
    · have e := dM nb sb
      subst e
      refine ⟨_, rfl, rfl, ⟨_, rfl, ?_⟩⟩
      rw [ne_v]
      refine iteF ?_
      have g6 := g5.kp kp6
      obtain ⟨xs6, hx6, hX6⟩ := g6.ex
      refine ⟨_, rfl, _, rfl, gridD mss, gridD mss, dpGrid hx6 hX6, dpGrid (kp6.lst hl5) (hR5.kp kp6), shRows _, shRows _, _, rfl, ?_⟩
      rw [eqv_grid, ne_grid]
      refine iteF ?_
      refine ⟨_, rfl, rfl, ⟨_, rfl, ?_⟩⟩
      rw [show (!decide (V.str "mark" = V.str "")) = true from by decide +kernel]
      refine iteT ?_
      refine ⟨_, rfl, _, rfl, h, n, mss, rfl, g6, ?_, ?_, ?_⟩
      · exact fun b => absurd b nb
      rotate_left
      · intro _ ok
        obtain ⟨ms, hm, e⟩ := sb
        rw [ok ms hm] at e
        cases e
      intro _ _ H7 kp7
      refine ⟨_, rfl, ?_⟩
      refine iteT ?_
      refine ⟨_, rfl, _, rfl, h, n, mss, rfl, g6.kp kp7, ?_, ?_, ?_⟩
      · exact fun b => absurd b nb
      rotate_left
      · intro _ ok
        obtain ⟨ms, hm, e⟩ := sb
        rw [ok ms hm] at e
        cases e
      intro _ _ H8 kp8
      refine ⟨_, rfl, rfl, ?_⟩
      rw [eq_v]
      exact k _
    · have e := dG nb ok
      subst e
      refine ⟨_, rfl, rfl, ⟨_, rfl, ?_⟩⟩
      rw [ne_v]
      refine iteF ?_
      have g6 := g5.kp kp6
      have hx6 := kp6.lst r5.lst
      have hX6 := r5.rows.kp kp6
      have hl6 := kp6.lst hl5
      have hR6 := hR5.kp kp6
      refine ⟨_, rfl, _, rfl, gridD mss, gridD mss, dpGrid hx6 hX6, dpGrid hl6 hR6, shRows _, shRows _, _, rfl, ?_⟩
      rw [eqv_grid, ne_grid]
      refine iteF ?_
      refine ⟨_, rfl, rfl, ⟨_, rfl, ?_⟩⟩
      rw [ne_v]
      refine iteF ?_
      -- the table
      have n0 : ¬ n < 0 := fun y => nb (.inl y)
      have n8 : ¬ n > 8 := fun y => nb (.inr (.inl y))
      refine ⟨_, rfl, _, rfl, fun x dx nx ndx ne => ?_⟩
      have kp7 : Kp Ts H6 (upd (upd H6 dx (.own x)) x (.ins C dx [])) := ((Kp.refl kp6.t1).own ndx (kp6.t1.outN ndx)).own nx (kp6.t1.outN nx)
      refine ⟨H6, x, dx, h, n, bs, mss, rfl, kp7, nx, upd_same, kp7.lst hx6, hX6.kp kp7, by rw [r5.rows.1]; omega, g5.short, fun bad => absurd bad nb, fun _ sb => ?_, fun _ _ H8 tss made told => ⟨rfl, ?_⟩⟩
      · obtain ⟨ms, hm, e⟩ := sb
        rw [ok ms hm] at e
        cases e
      have etss := allTold_due told ok
      subst etss
      obtain ⟨dx8, rr, ts, hx8, nr8, hr8, nts, hT8⟩ := made.ob
      have kp8 := made.kp
      have hh8 := kp8.lst hx6
      have hB8 := hX6.kp kp8
      have hl8 := kp8.lst hl6
      have hR8 := hR6.kp kp8
      -- what is due
      refine ⟨_, rfl, l, rfl, ⟨_, SqL.of hl8⟩, fun D hD => ?_⟩
      refine lc_list (K := K) (a := l) (xs := as.map V.ref) (fun i H9 => ∃ ds : List Addr, NewRows H8 H9 D ds ((mss.map fun ns => dueTo ns n.toNat).take i)) ⟨[], Same.up (Same.refl _) hD, hD, upd_same, RowsAt.nil, List.nodup_nil, fun b hb => by cases hb⟩ (fun i H9 _ ⟨_, r⟩ => SqL.of (r.same _ _ hl8)) ?_ ?_
      · rintro i y H9 hy ⟨ds, r9⟩
        obtain ⟨q, hq, rfl⟩ := ref_at hy
        obtain ⟨ns, hns, hQ⟩ := hR8.2 i q hq
        have tk : (mss.map fun ns => dueTo ns n.toNat).take (i + 1) = (mss.map fun ns => dueTo ns n.toNat).take i ++ [dueTo ns n.toNat] := by
          rw [List.take_add_one, List.getElem?_map, hns]; rfl
        have il : i < 14 := by have := (List.getElem?_eq_some_iff.mp hns).1; omega
        have dl : ds.length ≤ i := by rw [r9.rows.1, List.length_take]; omega
        refine ⟨rfl, _, rfl, n, rfl, by omega, by omega, fun D2 hD2 => ?_⟩
        refine lc_range (lo := 0) (n := _) (fun j Hj => Hj D2 = some (.lst ((dueTo ns j).map V.int)) ∧ Same H9 Hj) ⟨upd_same, Same.up (Same.refl _) hD2⟩ ?_ ?_
        · rintro j Hj hj ⟨hDj, sj⟩
          refine ⟨rfl, _, rfl, _, rfl, q, _, rfl, .inl (SqL.of (sj _ _ (r9.same _ _ hQ))), rfl, flat_ints ns, _, rfl, ?_⟩
          rw [if_neg Bool.false_ne_true, inV_int, Int.zero_add]
          have es : dueTo ns (j + 1) = dueTo ns j ++ (if decide ((j : Int) ∈ ns) = true then [(j : Int)] else []) := rfl
          have jl := dueTo_len ns j
          rw [es]
          refine ite2 (fun c1 => ?_) (fun c1 => ?_)
          · rw [if_pos c1]
            refine ⟨_, rfl, _, hDj, by rw [List.length_map, sizeLine_eq]; omega, ?_, fun b o e => ?_⟩
            · rw [upd_same, List.map_append]
              rfl
            · rw [upd_ne (ne_of_none e hD2)]
              exact sj b o e
          · rw [if_neg c1, List.append_nil]
            exact ⟨hDj, sj⟩
        · rintro Hj ⟨hDj, sj⟩
          have DD : D ≠ D2 := ne_of_none r9.lst hD2
          refine ⟨ds.map V.ref, sj _ _ r9.lst, by rw [List.length_map, sizeLine_eq]; omega, ds ++ [D2], ?_⟩
          rw [tk]
          exact r9.snoc sj hD2 hDj
      · rintro H9 ⟨ds, r9⟩
        have el : (as.map V.ref).length = (mss.map fun ns => dueTo ns n.toNat).length := by rw [List.length_map, List.length_map, hR4.1]
        rw [el, List.take_length] at r9
        have s9 := r9.same
        have hT9 := hT8.same s9
        have tl : (mss.map fun ns => dueTo ns n.toNat).length ≤ 60 := by rw [List.length_map]; omega
        refine ⟨_, rfl, _, rfl, gridD mss, gridD mss, dpGrid (s9 _ _ hh8) (hB8.same s9), dpGrid (s9 _ _ hl8) (hR8.same s9), shRows _, shRows _, _, rfl, ?_⟩
        rw [eqv_grid, ne_grid]
        refine iteF ?_
        refine ⟨_, rfl, _, rfl, _, rfl, x, D, n, _, ds, rfl, ⟨dx8, rr, ts, s9 _ _ hx8, s9 _ _ hr8, hT9⟩, r9.lst, r9.rows, tl, fun H10 s10 => ⟨_, rfl, ?_⟩⟩
        refine iteF ?_
        -- what was handed in is changed
        have hh10 := s10 _ _ (s9 _ _ hh8)
        have hBs : ∀ b ∈ bs, ∃ ns : List Int, H6 b = some (.lst (ns.map V.int)) ∧ H10 b = some (.lst (ns.map V.int)) ∧ ns.length ≤ 10 := fun b hb => by
          rcases List.getElem_of_mem hb with ⟨j, hj, e⟩
          have e' : bs[j]? = some b := by rw [List.getElem?_eq_getElem hj, e]
          obtain ⟨ns, h1, h2⟩ := hX6.2 j b e'
          exact ⟨ns, h2, s10 _ _ (s9 _ _ (kp8.lst h2)), hshort ns (List.mem_of_getElem? h1)⟩
        have b14 : bs.length ≤ 14 := by rw [r5.rows.1]; exact hfew
        refine ⟨_, rfl, .inl ⟨rfl, _, SqL.of hh10⟩, (by show 1 ≤ sizeLine; decide), fun z hz => ?_⟩
        have hz0 : ∀ (p : Addr) (o : HO), H10 p = some o → p ≠ z := fun p o e => ne_of_none e hz
        have hh11 : (upd H10 z (.lst [V.int 0])) h = some (.lst (bs.map V.ref)) := by rw [upd_ne (hz0 _ _ hh10)]; exact hh10
        refine ⟨h, _, _, rfl, rfl, hh11, by rw [List.length_map, sizeLine_eq]; omega, ?_⟩
        generalize hS : upd (upd H10 z (.lst [V.int 0])) h (.lst (bs.map V.ref ++ [V.ref z])) = HS
        have hzh : z ≠ h := (hz0 _ _ hh10).symm
        have hhS : HS h = some (.lst ((bs ++ [z]).map V.ref)) := by rw [← hS, upd_same, List.map_append]; rfl
        have hzS : HS z = some (.lst [V.int 0]) := by rw [← hS, upd_ne hzh, upd_same]
        have keepS : ∀ (p : Addr) (o : HO), H10 p = some o → p ≠ h → HS p = some o := fun p o e nh => by
          rw [← hS, upd_ne nh, upd_ne (hz0 p o e)]
          exact e
        have hbh : ∀ b ∈ bs, b ≠ h := fun b hb => (r5.new b hb).2
        have hout : h ∉ bs ++ [z] := out_of (fun b hb e => hbh b hb e.symm) hzh.symm
        refine ⟨_, rfl, h, rfl, ⟨_, SqL.of hhS⟩, for_list (K := K) (a := h) (xs := (bs ++ [z]).map V.ref) (fun i σ H' => ∃ v : Option V, σ = [some (.ref a), some (.int n), some (.int (belowOf n)), some (.ref l), some (.int c), v, some (.bl bb), some (.ref D), some (.ref h), some (.ref x), none] ∧
            (∀ (q : Addr) (o : HO), q ∉ bs ++ [z] → HS q = some o → H' q = some o) ∧ (∀ q ∈ bs ++ [z], ∃ xs : List V, H' q = some (.lst xs) ∧ xs.length ≤ 10 + i))
          ⟨_, rfl, fun _ _ _ e => e, fun q hq => ?_⟩ (fun i σ H' _ ⟨_, _, kq, _⟩ => SqL.of (kq _ _ hout hhS)) ?_ ?_⟩
        · rcases (List.mem_append).1 hq with y | y
          · obtain ⟨ns, _, h2, h3⟩ := hBs q y
            exact ⟨_, keepS q _ h2 (hbh q y), by rw [List.length_map]; omega⟩
          · rw [List.mem_singleton.mp y]
            exact ⟨_, hzS, by show 1 ≤ 10 + 0; omega⟩
        · rintro i y σ H11 hy ⟨v, rfl, kq, kl⟩
          obtain ⟨q, hq, rfl⟩ := ref_at hy
          have hm : q ∈ bs ++ [z] := List.mem_of_getElem? hq
          obtain ⟨xs, hx, hxl⟩ := kl q hm
          have i15 : i < 15 := by
            have := (List.getElem?_eq_some_iff.mp hq).1
            rw [List.length_append, List.length_singleton] at this
            omega
          refine ⟨_, rfl, .inl ⟨rfl, _, SqL.of hx⟩, q, _, _, rfl, rfl, hx, by rw [sizeLine_eq]; omega, ?_⟩
          refine ⟨some (.ref q), rfl, fun p o np e => ?_, fun p hp => ?_⟩
          · have pq : p ≠ q := fun e2 => np (by rw [e2]; exact hm)
            rw [upd_ne pq]
            exact kq p o np e
          · by_cases pq : p = q
            · rw [pq, upd_same]
              exact ⟨_, rfl, by rw [List.length_append, List.length_singleton]; omega⟩
            · obtain ⟨ys, h1, h2⟩ := kl p hp
              exact ⟨ys, by rw [upd_ne pq]; exact h1, by omega⟩
        · rintro σ H11 ⟨v, rfl, kq, _⟩
          have keep : ∀ (p : Addr) (o : HO), H10 p = some o → (∀ b ∈ bs, p ≠ b) → p ≠ h → H11 p = some o := fun p o e nb2 nh => kq p o (out_of nb2 (hz0 p o e)) (keepS p o e nh)
          have six : ∀ (p : Addr), H6 p = none → (∀ b ∈ bs, p ≠ b) ∧ p ≠ h := fun p e => by
            refine ⟨fun b hb e2 => ?_, fun e2 => ?_⟩
            · obtain ⟨ns, h1, _⟩ := hBs b hb
              rw [← e2, e] at h1
              cases h1
            · rw [e2, hx6] at e
              cases e
          have eight : ∀ (p : Addr), H8 p = none → H6 p = none := fun p e => kp8.free e
          have hx10 := s10 _ _ (s9 _ _ hx8)
          have sx := six x nx
          have sr := six rr nr8
          have sD := six D (eight D hD)
          refine ⟨_, rfl, _, rfl, _, rfl, x, D, n, _, ds, rfl, ⟨dx8, rr, ts, keep _ _ hx10 sx.1 sx.2, keep _ _ (s10 _ _ (s9 _ _ hr8)) sr.1 sr.2, ⟨hT9.1, fun j b e => ?_⟩⟩, keep _ _ (s10 _ _ r9.lst) sD.1 sD.2, ⟨r9.rows.1, fun j b e => ?_⟩, tl, fun H12 _ => k H12⟩
          · obtain ⟨ms, h1, h2⟩ := hT9.2 j b e
            have sb := six b (nts b (List.mem_of_getElem? e))
            exact ⟨ms, h1, keep _ _ (s10 _ _ h2) sb.1 sb.2⟩
          · obtain ⟨ms, h1, h2⟩ := r9.rows.2 j b e
            have sb := six b (eight b (r9.new b (List.mem_of_getElem? e)).1)
            exact ⟨ms, h1, keep _ _ (s10 _ _ h2) sb.1 sb.2⟩
end
end Mb

namespace Mb
open L2 PySem PySem.Spec PyProof.Rows
theorem tri_nil : TriplesOk (#[] : Array Value).toList := by
  trivial
theorem all_mk {l : PySem.W.OpenLaw} {w : World} {K : PySem.W.Frag} {h : Heap} {q : Program} {mg : Str → Option Value} {fa C CS CM CT CN CE cB PB f1 f2 f3 f4 f6 f7 f8 f9 f10 f11 f12 f13 f14 f5 : Addr} {t8 t12 : Tok}
    {od0 od1 od2 od3 od4 od6 od7 od8 od9 od10 od11 od12 od13 od14 od5 an1 an2 an3 an4 an6 an7 an8 an9 an10 an11 an12 an13 an14 an5 : Option Addr} {sl0 sl1 sl2 sl3 sl4 sl6 sl7 sl8 sl9 sl10 sl11 sl12 sl13 sl14 sl5 : Array (Option Value)} {vs0 : Array Value} {oc0 oc1 oc2 oc3 oc4 oc6 oc7 oc8 oc9 oc10 oc11 oc12 oc13 oc14 oc5 kV1 kV2 kV3 kV4 kV6 kV7 kV8 kV9 kV10 kV11 kV12 kV13 kV14 kV5 dc1 dc2 dc3 dc4 dc6 dc7 dc8 dc9 dc10 dc11 dc12 dc13 dc14 dc5 pm1 pm2 pm3 pm4 pm6 pm7 pm8 pm9 pm10 pm11 pm12 pm13 pm14 pm5 cd1 cd3 cd4 cd6 cd7 cd8 cd9 cd10 cd11 cd12 cd13 cd14 cd5 ct1 ct2 ct3 ct4 ct6 ct7 ct8 ct9 ct10 ct11 ct12 ct13 ct14 ct5 : Value}
    (X : K.In h) (G : h.Ns mainGlobals mg) (hfa : mg "law" = some (.ref fa)) (tabs : TabsOf K q h) (hq : ((recsOf q).find? fun e => e.name == ("all_below" : Str)).isSome = true)
    (aC : PySem.W.nsIn K mainGlobals "Table" = some (some (.ref C)))
    (aCS : PySem.W.nsIn K mainGlobals "BadSize" = some (some (.ref CS)))
    (aCM : PySem.W.nsIn K mainGlobals "BadMark" = some (some (.ref CM)))
    (aCT : PySem.W.nsIn K mainGlobals "BadThing" = some (some (.ref CT)))
    (aCN : PySem.W.nsIn K mainGlobals "NoBox" = some (some (.ref CN)))
    (aCE : PySem.W.nsIn K mainGlobals "MarkError" = some (some (.ref CE)))
    (m8 : PySem.W.nsIn K mainGlobals "MOST_MARKS" = some (some (.int 8 t8)))
    (m12 : PySem.W.nsIn K mainGlobals "MOST_THINGS" = some (some (.int 12 t12)))
    (z_sorted : PySem.W.nsIn K mainGlobals "sorted" = some none)
    (z_set : PySem.W.nsIn K mainGlobals "set" = some none)
    (z_all : PySem.W.nsIn K mainGlobals "all" = some none)
    (z_len : PySem.W.nsIn K mainGlobals "len" = some none)
    (z_isinstance : PySem.W.nsIn K mainGlobals "isinstance" = some none)
    (z_int : PySem.W.nsIn K mainGlobals "int" = some none)
    (z_bool : PySem.W.nsIn K mainGlobals "bool" = some none)
    (z_list : PySem.W.nsIn K mainGlobals "list" = some none)
    (z_range : PySem.W.nsIn K mainGlobals "range" = some none)
    (z_max : PySem.W.nsIn K mainGlobals "max" = some none)
    (z_min : PySem.W.nsIn K mainGlobals "min" = some none)
    (z_ValueError : PySem.W.nsIn K mainGlobals "ValueError" = some none)
    (a1 : PySem.W.nsIn K mainGlobals "told" = some (some (.ref f1)))
    (l1 : K.lookup f1 = some ⟨oc1, od1, .func (PySem.W.fnOf "told" "told" (defArgs sTold) (defBody sTold) (defScope sTold) .none kV1 dc1 pm1 an1 cd1 ct1), sl1⟩)
    (c1 : PySem.W.codeIn K cd1 "told" = true)
    (k1 : PySem.W.keepIn K (.ref f1) = true)
    (a2 : PySem.W.nsIn K mainGlobals "all_below" = some (some (.ref f2)))
    (l2 : K.lookup f2 = some ⟨oc2, od2, .func (PySem.W.fnOf "all_below" "all_below" (defArgs sBelow) (defBody sBelow) (defScope sBelow) .none kV2 dc2 pm2 an2 (.ref cB) ct2), sl2⟩)
    (c2 : PySem.W.codeIn K (.ref cB) "all_below" = true)
    (k2 : PySem.W.keepIn K (.ref f2) = true)
    (a3 : PySem.W.nsIn K mainGlobals "check_sizes" = some (some (.ref f3)))
    (l3 : K.lookup f3 = some ⟨oc3, od3, .func (PySem.W.fnOf "check_sizes" "check_sizes" (defArgs sSizes) (defBody sSizes) (defScope sSizes) .none kV3 dc3 pm3 an3 cd3 ct3), sl3⟩)
    (c3 : PySem.W.codeIn K cd3 "check_sizes" = true)
    (k3 : PySem.W.keepIn K (.ref f3) = true)
    (a4 : PySem.W.nsIn K mainGlobals "check_marks" = some (some (.ref f4)))
    (l4 : K.lookup f4 = some ⟨oc4, od4, .func (PySem.W.fnOf "check_marks" "check_marks" (defArgs sMarks) (defBody sMarks) (defScope sMarks) .none kV4 dc4 pm4 an4 cd4 ct4), sl4⟩)
    (c4 : PySem.W.codeIn K cd4 "check_marks" = true)
    (k4 : PySem.W.keepIn K (.ref f4) = true)
    (a6 : PySem.W.nsIn K mainGlobals "_law_whole" = some (some (.ref f6)))
    (l6 : K.lookup f6 = some ⟨oc6, od6, .func (PySem.W.fnOf "_law_whole" "_law_whole" (defArgs sWhole) (defBody sWhole) (defScope sWhole) .none kV6 dc6 pm6 an6 cd6 ct6), sl6⟩)
    (c6 : PySem.W.codeIn K cd6 "_law_whole" = true)
    (k6 : PySem.W.keepIn K (.ref f6) = true)
    (a7 : PySem.W.nsIn K mainGlobals "_law_cell_at" = some (some (.ref f7)))
    (l7 : K.lookup f7 = some ⟨oc7, od7, .func (PySem.W.fnOf "_law_cell_at" "_law_cell_at" (defArgs sCell) (defBody sCell) (defScope sCell) .none kV7 dc7 pm7 an7 cd7 ct7), sl7⟩)
    (c7 : PySem.W.codeIn K cd7 "_law_cell_at" = true)
    (k7 : PySem.W.keepIn K (.ref f7) = true)
    (a8 : PySem.W.nsIn K mainGlobals "_law_count" = some (some (.ref f8)))
    (l8 : K.lookup f8 = some ⟨oc8, od8, .func (PySem.W.fnOf "_law_count" "_law_count" (defArgs sCount) (defBody sCount) (defScope sCount) .none kV8 dc8 pm8 an8 cd8 ct8), sl8⟩)
    (c8 : PySem.W.codeIn K cd8 "_law_count" = true)
    (k8 : PySem.W.keepIn K (.ref f8) = true)
    (a9 : PySem.W.nsIn K mainGlobals "_law_rows_by" = some (some (.ref f9)))
    (l9 : K.lookup f9 = some ⟨oc9, od9, .func (PySem.W.fnOf "_law_rows_by" "_law_rows_by" (defArgs sRowsBy) (defBody sRowsBy) (defScope sRowsBy) .none kV9 dc9 pm9 an9 cd9 ct9), sl9⟩)
    (c9 : PySem.W.codeIn K cd9 "_law_rows_by" = true)
    (k9 : PySem.W.keepIn K (.ref f9) = true)
    (a10 : PySem.W.nsIn K mainGlobals "_law_tried" = some (some (.ref f10)))
    (l10 : K.lookup f10 = some ⟨oc10, od10, .func (PySem.W.fnOf "_law_tried" "_law_tried" (defArgs sTried) (defBody sTried) (defScope sTried) .none kV10 dc10 pm10 an10 cd10 ct10), sl10⟩)
    (c10 : PySem.W.codeIn K cd10 "_law_tried" = true)
    (k10 : PySem.W.keepIn K (.ref f10) = true)
    (a11 : PySem.W.nsIn K mainGlobals "_law_tried_otherwise" = some (some (.ref f11)))
    (l11 : K.lookup f11 = some ⟨oc11, od11, .func (PySem.W.fnOf "_law_tried_otherwise" "_law_tried_otherwise" (defArgs sOtherwise) (defBody sOtherwise) (defScope sOtherwise) .none kV11 dc11 pm11 an11 cd11 ct11), sl11⟩)
    (c11 : PySem.W.codeIn K cd11 "_law_tried_otherwise" = true)
    (k11 : PySem.W.keepIn K (.ref f11) = true)
    (a12 : PySem.W.nsIn K mainGlobals "_law_refused_by_any" = some (some (.ref f12)))
    (l12 : K.lookup f12 = some ⟨oc12, od12, .func (PySem.W.fnOf "_law_refused_by_any" "_law_refused_by_any" (defArgs sByAny) (defBody sByAny) (defScope sByAny) .none kV12 dc12 pm12 an12 cd12 ct12), sl12⟩)
    (c12 : PySem.W.codeIn K cd12 "_law_refused_by_any" = true)
    (k12 : PySem.W.keepIn K (.ref f12) = true)
    (a13 : PySem.W.nsIn K mainGlobals "_law_fields" = some (some (.ref f13)))
    (l13 : K.lookup f13 = some ⟨oc13, od13, .func (PySem.W.fnOf "_law_fields" "_law_fields" (defArgs sFields) (defBody sFields) (defScope sFields) .none kV13 dc13 pm13 an13 cd13 ct13), sl13⟩)
    (c13 : PySem.W.codeIn K cd13 "_law_fields" = true)
    (k13 : PySem.W.keepIn K (.ref f13) = true)
    (a14 : PySem.W.nsIn K mainGlobals "law" = some (some (.ref f14)))
    (l14 : K.lookup f14 = some ⟨oc14, od14, .func (PySem.W.fnOf "law" "law" (defArgs sLaw) (defBody sLaw) (defScope sLaw) .none kV14 dc14 pm14 an14 cd14 ct14), sl14⟩)
    (c14 : PySem.W.codeIn K cd14 "law" = true)
    (k14 : PySem.W.keepIn K (.ref f14) = true)
    (a5 : PySem.W.findIn K (.ref C) "__init__" = some (some (.ref f5)))
    (i5 : PySem.W.isFn K (.ref f5) = true)
    (l5 : K.lookup f5 = some ⟨oc5, od5, .func (PySem.W.fnOf "__init__" "Table.__init__" (defArgs sInit) (defBody sInit) (defScope sInit) .none kV5 dc5 pm5 an5 cd5 ct5), sl5⟩)
    (c5 : PySem.W.codeIn K cd5 "Table.__init__" = true)
    (k5 : PySem.W.keepIn K (.ref f5) = true)
    (lc : K.lookup cB = some ⟨oc0, od0, .fields vs0, sl0⟩)
    (v11 : vs0[11]? = some (.ref PB))
    (nP : K.lookup PB = none)
    (xCS : PySem.W.excIn K CS [.type "ValueError", .type "Exception", .type "BaseException", .type "object"] "ValueError.__new__" = true)
    (pCS : PySem.W.keepIn K (.ref CS) = true)
    (vCS : PySem.W.subIn K (.ref CS) (.type "ValueError") = some true)
    (hgCS : PySem.W.findIn K (.ref CS) "__getattribute__" = some (some (.builtin "BaseException.__getattribute__")))
    (hkCS : PySem.W.findIn K (.ref CS) "__getattr__" = some none)
    (haCS : PySem.W.findIn K (.ref CS) "__class__" = some (some (.builtin "object.__class__")))
    (hmCS : PySem.W.mroIn K CS (.type "object") = some true)
    (xCM : PySem.W.excIn K CM [.type "ValueError", .type "Exception", .type "BaseException", .type "object"] "ValueError.__new__" = true)
    (pCM : PySem.W.keepIn K (.ref CM) = true)
    (vCM : PySem.W.subIn K (.ref CM) (.type "ValueError") = some true)
    (hgCM : PySem.W.findIn K (.ref CM) "__getattribute__" = some (some (.builtin "BaseException.__getattribute__")))
    (hkCM : PySem.W.findIn K (.ref CM) "__getattr__" = some none)
    (haCM : PySem.W.findIn K (.ref CM) "__class__" = some (some (.builtin "object.__class__")))
    (hmCM : PySem.W.mroIn K CM (.type "object") = some true)
    (hn : PySem.W.specialIn K (.builtin "object.__class__") "__get__" = some (some (.builtin "getset_descriptor.__get__")))
    (ht : PySem.W.takesIn K (.builtin "object.__class__") = some true)
    (bCS : PySem.W.subIn K (.ref CS) (.type "BaseException") = some true)
    (tCS : PySem.W.typeIn K (.ref CS) = some (.type "type"))
    (dCS : PySem.W.hasDictIn K CS = true)
    (sCSCS : PySem.W.subIn K (.ref CS) (.ref CS) = some true)
    (sCMCS : PySem.W.subIn K (.ref CM) (.ref CS) = some false)
    (bCM : PySem.W.subIn K (.ref CM) (.type "BaseException") = some true)
    (tCM : PySem.W.typeIn K (.ref CM) = some (.type "type"))
    (dCM : PySem.W.hasDictIn K CM = true)
    (sCSCM : PySem.W.subIn K (.ref CS) (.ref CM) = some false)
    (sCMCM : PySem.W.subIn K (.ref CM) (.ref CM) = some true)
    (bCT : PySem.W.subIn K (.ref CT) (.type "BaseException") = some true)
    (tCT : PySem.W.typeIn K (.ref CT) = some (.type "type"))
    (dCT : PySem.W.hasDictIn K CT = true)
    (sCSCT : PySem.W.subIn K (.ref CS) (.ref CT) = some false)
    (sCMCT : PySem.W.subIn K (.ref CM) (.ref CT) = some false)
    (bCN : PySem.W.subIn K (.ref CN) (.type "BaseException") = some true)
    (tCN : PySem.W.typeIn K (.ref CN) = some (.type "type"))
    (dCN : PySem.W.hasDictIn K CN = true)
    (sCSCN : PySem.W.subIn K (.ref CS) (.ref CN) = some false)
    (sCMCN : PySem.W.subIn K (.ref CM) (.ref CN) = some false)
    (bCE : PySem.W.subIn K (.ref CE) (.type "BaseException") = some true)
    (tCE : PySem.W.typeIn K (.ref CE) = some (.type "type"))
    (dCE : PySem.W.hasDictIn K CE = true)
    (sCSCE : PySem.W.subIn K (.ref CS) (.ref CE) = some true)
    (sCMCE : PySem.W.subIn K (.ref CM) (.ref CE) = some true)
    (pg : PySem.W.plainGet K C Str.empty = true)
    (hd : PySem.W.hasDictIn K C = true)
    (po : PySem.W.plainOver K C = true)
    (sa : PySem.W.findIn K (.ref C) "__setattr__" = some (some (.builtin "object.__setattr__")))
    (mk : PySem.W.makesIn K C = true)
    (kc : PySem.W.keepIn K (.ref C) = true)
    (nM : PySem.W.findIn K (.ref C) "many" = some none)
    (nR : PySem.W.findIn K (.ref C) "rows" = some none) : LamX.LawAtS l w K CX0 6 63 "_law_script" mg fa h := by
  have e := hfa.symm.trans (PySem.W.mg_of X G a14)
  cases e
  have g : ∀ {x : Str} {v : Value}, PySem.W.nsIn K mainGlobals x = some (some v) → mg x = some v := fun h => PySem.W.mg_of X G h
  have z : ∀ {x : Str}, PySem.W.nsIn K mainGlobals x = some none → mg x = none := fun h => PySem.W.mg_none_of X G h
  have T : Txt K mg CS CM := ⟨z z_sorted, z z_set, z z_all, z z_len, ⟨_, g m8⟩, ⟨_, g m12⟩, g aCS, g aCM, ⟨_, xCS, rfl⟩, ⟨_, xCM, rfl⟩, pCS, pCM, bCS, bCM, tCS, tCM⟩
  have L : LTxt K mg := ⟨z z_isinstance, z z_int, z z_bool, z z_list, z z_len, z z_range, z z_max, z z_min⟩
  have kit : ∀ {D : Addr}, PySem.W.subIn K (.ref D) (.type "ValueError") = some true → PySem.W.kitOne K (.ref D) (.type "ValueError") = some true := fun {D} h => by
    have n : (Value.ref D == Value.type "ValueError") = false := by simp
    have m : PySem.W.kitMeta "ValueError" = true := by decide +kernel
    unfold PySem.W.kitOne
    rw [n, if_neg Bool.false_ne_true]
    show (if PySem.W.kitMeta "ValueError" = true then PySem.W.subIn K (.ref D) (.type "ValueError") else none) = some true
    rw [if_pos m, h]
  have XT : XTxt K mg C CS CM CT CN CE := ⟨g aC, g aCS, g aCM, g aCT, g aCN, g aCE, z z_ValueError,
    PySem.W.exm_ref bCS dCS tCS sCSCS, PySem.W.exm_ref bCS dCS tCS sCMCS, PySem.W.exm_ref bCM dCM tCM sCSCM, PySem.W.exm_ref bCM dCM tCM sCMCM,
    PySem.W.exm_ref bCT dCT tCT sCSCT, PySem.W.exm_ref bCT dCT tCT sCMCT, PySem.W.exm_ref bCN dCN tCN sCSCN, PySem.W.exm_ref bCN dCN tCN sCMCN, PySem.W.exm_ref bCE dCE tCE sCSCE, PySem.W.exm_ref bCE dCE tCE sCMCE,
    ⟨hgCS, hkCS, bCS, dCS, haCS, hn, ht, hmCS⟩, ⟨hgCM, hkCM, bCM, dCM, haCM, hn, ht, hmCM⟩, kit vCS, kit vCM⟩
  have tin : PySem.W.tabIn K "all_below" = some (cB, PB) := by
    unfold PySem.W.tabIn
    rw [a2]
    dsimp only
    rw [l2]
    dsimp only [PySem.W.fnOf]
    rw [lc]
    dsimp only
    rw [v11]
  obtain ⟨hC, hP⟩ := tabs "all_below" cB PB hq tin
  have cl : Cls K C := ⟨pg, hd, po, sa⟩
  have F1 := fun_mk (st := sTold) l1 c1 k1
  have b1 := F1.binds (ps := ["numbers"]) fun _ _ _ _ _ _ us hl => match us, hl with | [_], _ => rfl
  have C2 : FunC K "all_below" "all_below" sBelow f2 _ cB := ⟨⟨_, _, _, _, _, _, _, _, rfl, l2, c2⟩, k2⟩
  have F2 := C2.fn
  have b2 := F2.binds (ps := ["numbers", "many"]) fun _ _ _ _ _ _ us hl => match us, hl with | [_, _], _ => rfl
  have F3 := fun_mk (st := sSizes) l3 c3 k3
  have b3 := F3.binds (ps := ["many", "rows"]) fun _ _ _ _ _ _ us hl => match us, hl with | [_, _], _ => rfl
  have F4 := fun_mk (st := sMarks) l4 c4 k4
  have b4 := F4.binds (ps := ["marks", "many"]) fun _ _ _ _ _ _ us hl => match us, hl with | [_, _], _ => rfl
  have F6 := fun_mk (st := sWhole) l6 c6 k6
  have b6 := F6.binds (ps := ["_law_found"]) fun _ _ _ _ _ _ us hl => match us, hl with | [_], _ => rfl
  have F7 := fun_mk (st := sCell) l7 c7 k7
  have b7 := F7.binds (ps := ["_law_script", "_law_k"]) fun _ _ _ _ _ _ us hl => match us, hl with | [_, _], _ => rfl
  have F8 := fun_mk (st := sCount) l8 c8 k8
  have b8 := F8.binds (ps := ["_law_cell"]) fun _ _ _ _ _ _ us hl => match us, hl with | [_], _ => rfl
  have F9 := fun_mk (st := sRowsBy) l9 c9 k9
  have b9 := F9.binds (ps := ["_law_script", "_law_below"]) fun _ _ _ _ _ _ us hl => match us, hl with | [_, _], _ => rfl
  have F10 := fun_mk (st := sTried) l10 c10 k10
  have b10 := F10.binds (ps := ["_law_many", "_law_rows"]) fun _ _ _ _ _ _ us hl => match us, hl with | [_, _], _ => rfl
  have F11 := fun_mk (st := sOtherwise) l11 c11 k11
  have b11 := F11.binds (ps := ["_law_many", "_law_rows"]) fun _ _ _ _ _ _ us hl => match us, hl with | [_, _], _ => rfl
  have F12 := fun_mk (st := sByAny) l12 c12 k12
  have b12 := F12.binds (ps := ["_law_many", "_law_rows"]) fun _ _ _ _ _ _ us hl => match us, hl with | [_, _], _ => rfl
  have F13 := fun_mk (st := sFields) l13 c13 k13
  have b13 := F13.binds (ps := ["_law_table", "_law_many", "_law_due"]) fun _ _ _ _ _ _ us hl => match us, hl with | [_, _, _], _ => rfl
  have F5 := fun_mk (st := sInit) l5 c5 k5
  have b5 := F5.binds (ps := ["self", "many", "rows"]) fun _ _ _ _ _ _ us hl => match us, hl with | [_, _, _], _ => rfl
  refine ⟨PySem.W.fnOf "law" "law" (defArgs sLaw) (defBody sLaw) (defScope sLaw) .none kV14 dc14 pm14 an14 cd14 ct14, [(cB, PB)], spLaw K [PB], ?_, ?_, ?_, fun s v => .of_eq rfl, ?_, ?_⟩
  · intro p hp
    rw [List.mem_singleton.mp hp]
    exact hP
  · intro p hp
    rw [List.mem_singleton.mp hp]
    exact nP
  · intro p hp
    rw [List.mem_singleton.mp hp]
    exact hC
  · intro H a ns _ _ hH hS
    refine ⟨a, ns, rfl, hS, fun R hR => ?_, fun _ => rfl⟩
    rw [List.mem_singleton.mp hR]
    exact ⟨#[], hH (cB, PB) (List.mem_singleton.mpr rfl), tri_nil⟩
  · intro base _ _ hT
    have tb := hT (cB, PB) (List.mem_singleton.mpr rfl)
    have TB : GxR.TabB base mg cB PB := ⟨tb.code, tb.bm, tb.gP⟩
    have G1 : FnOk l.prog w K mg base CX0 1 f1 _ ["numbers"] (spTold K) := ok_told F1 T
    have G2 : FnOk l.prog w K mg base CX0 1 f2 _ ["numbers", "many"] (spBelow K [PB]) := ok_below C2 T TB (List.mem_singleton.mpr rfl)
    have G3 : FnOk l.prog w K mg base (L2.CX l.prog w) 1 f3 _ ["many", "rows"] (spSizes K CS) := ok_sizes F3 T
    have G4 : FnOk l.prog w K mg base (L2.CX l.prog w) 2 f4 _ ["marks", "many"] (spMarks K CM [PB]) := ok_marks F4 T G2 (g a2) k2 b2
    have G5 : FnOk l.prog w K mg base (L2.CX l.prog w) 3 f5 _ ["self", "many", "rows"] (spInit K C CS CM [PB]) := ok_init F5 T cl nM nR G1 (g a1) k1 b1 G3 (g a3) k3 b3 G4 (g a4) k4 b4
    have G6 : FnOk l.prog w K mg base CX0 1 f6 _ ["_law_found"] spWhole := ok_whole F6 L
    have G7 : FnOk l.prog w K mg base CX0 1 f7 _ ["_law_script", "_law_k"] (spCell K) := ok_cell F7 L
    have G8 : FnOk l.prog w K mg base CX0 1 f8 _ ["_law_cell"] spCount := ok_count F8
    have G9 : FnOk l.prog w K mg base CX0 2 f9 _ ["_law_script", "_law_below"] (spRows K) := ok_rows F9 L G7 (g a7) k7 b7
    have M : Mk K C f5 := ⟨mk, a5, i5, kc⟩
    have G10 := ok_tried (P := l.prog) (w := w) (base := base) (Ts := [PB]) F10 XT M G5 b5
    have G11 := ok_otherwise (P := l.prog) (w := w) (base := base) (Ts := [PB]) F11 XT M G5 b5
    have G12 := ok_byAny (P := l.prog) (w := w) (base := base) (Ts := [PB]) F12 XT L M G5 b5
    have G13 := ok_fields (P := l.prog) (w := w) (base := base) (C := C) F13 L cl nM nR G6 (g a6) k6 b6
    exact ok_law (fun_mk (st := sLaw) l14 c14 k14) L M G5 (g aC) b5 G7 (g a7) k7 b7 G8 (g a8) k8 b8 G9 (g a9) k9 b9 G10 (g a10) k10 b10 G11 (g a11) k11 b11 G12 (g a12) k12 b12 G13 (g a13) k13 b13

end Mb

open PySem PySem.W PyProof.Rows in
set_option maxRecDepth 100000 in
set_option maxHeartbeats 0 in
theorem PySem.Challenge.cw_markbox_k02_tables_made_holds : PySem.Challenge.rw_markbox_k02_tables_made.Holds := by
  w_on; o_law; k_head; (case hw => w_witness2)
  k_fill
  refine Mb.walk_tabs (l := PySem.Challenge.rw_markbox_k02_tables_made) (n := 63) (k := 6) (x := "_law_script") (CX := fun _ => L2.CX0) rfl (by decide) rfl ⟨rfl, by decide, by decide⟩ (fun w h Y => PySem.W.kIn_of Y) ?F (fun _ _ _ _ _ z => z)
  case F =>
    intro w mg fa h KX G hmg tabs
    refine' Mb.all_mk KX G hmg tabs ?hq ?aC ?aCS ?aCM ?aCT ?aCN ?aCE ?m8 ?m12 ?z_sorted ?z_set ?z_all ?z_len ?z_isinstance ?z_int ?z_bool ?z_list ?z_range ?z_max ?z_min ?z_ValueError ?a1 ?l1 ?c1 ?k1 ?a2 ?l2 ?c2 ?k2 ?a3 ?l3 ?c3 ?k3 ?a4 ?l4 ?c4 ?k4 ?a6 ?l6 ?c6 ?k6 ?a7 ?l7 ?c7 ?k7 ?a8 ?l8 ?c8 ?k8 ?a9 ?l9 ?c9 ?k9 ?a10 ?l10 ?c10 ?k10 ?a11 ?l11 ?c11 ?k11 ?a12 ?l12 ?c12 ?k12 ?a13 ?l13 ?c13 ?k13 ?a14 ?l14 ?c14 ?k14 ?a5 ?i5 ?l5 ?c5 ?k5 ?lc ?v11 ?nP ?xCS ?pCS ?vCS ?hgCS ?hkCS ?haCS ?hmCS ?xCM ?pCM ?vCM ?hgCM ?hkCM ?haCM ?hmCM ?hn ?ht ?bCS ?tCS ?dCS ?sCSCS ?sCMCS ?bCM ?tCM ?dCM ?sCSCM ?sCMCM ?bCT ?tCT ?dCT ?sCSCT ?sCMCT ?bCN ?tCN ?dCN ?sCSCN ?sCMCN ?bCE ?tCE ?dCE ?sCSCE ?sCMCE ?pg ?hd ?po ?sa ?mk ?kc ?nM ?nR
    (case hq => first | rfl | decide +kernel)
    (case aC => k_is)
    (case aCS => k_is)
    (case aCM => k_is)
    (case aCT => k_is)
    (case aCN => k_is)
    (case aCE => k_is)
    (case m8 => k_is)
    (case m12 => k_is)
    (case z_sorted => k_is)
    (case z_set => k_is)
    (case z_all => k_is)
    (case z_len => k_is)
    (case z_isinstance => k_is)
    (case z_int => k_is)
    (case z_bool => k_is)
    (case z_list => k_is)
    (case z_range => k_is)
    (case z_max => k_is)
    (case z_min => k_is)
    (case z_ValueError => k_is)
    (case a1 => k_is)
    (case l1 => k_is)
    (case c1 => k_is)
    (case k1 => k_is)
    (case a2 => k_is)
    (case l2 => k_is)
    (case c2 => k_is)
    (case k2 => k_is)
    (case a3 => k_is)
    (case l3 => k_is)
    (case c3 => k_is)
    (case k3 => k_is)
    (case a4 => k_is)
    (case l4 => k_is)
    (case c4 => k_is)
    (case k4 => k_is)
    (case a6 => k_is)
    (case l6 => k_is)
    (case c6 => k_is)
    (case k6 => k_is)
    (case a7 => k_is)
    (case l7 => k_is)
    (case c7 => k_is)
    (case k7 => k_is)
    (case a8 => k_is)
    (case l8 => k_is)
    (case c8 => k_is)
    (case k8 => k_is)
    (case a9 => k_is)
    (case l9 => k_is)
    (case c9 => k_is)
    (case k9 => k_is)
    (case a10 => k_is)
    (case l10 => k_is)
    (case c10 => k_is)
    (case k10 => k_is)
    (case a11 => k_is)
    (case l11 => k_is)
    (case c11 => k_is)
    (case k11 => k_is)
    (case a12 => k_is)
    (case l12 => k_is)
    (case c12 => k_is)
    (case k12 => k_is)
    (case a13 => k_is)
    (case l13 => k_is)
    (case c13 => k_is)
    (case k13 => k_is)
    (case a14 => k_is)
    (case l14 => k_is)
    (case c14 => k_is)
    (case k14 => k_is)
    (case a5 => k_is)
    (case i5 => k_is)
    (case l5 => k_is)
    (case c5 => k_is)
    (case k5 => k_is)
    (case lc => k_is)
    (case v11 => rfl)
    (case nP => first | rfl | (with_unfolding_all rfl) | decide)
    (case xCS => k_exc)
    (case pCS => k_is)
    (case vCS => k_is)
    (case hgCS => k_is)
    (case hkCS => k_is)
    (case haCS => k_is)
    (case hmCS => k_is)
    (case xCM => k_exc)
    (case pCM => k_is)
    (case vCM => k_is)
    (case hgCM => k_is)
    (case hkCM => k_is)
    (case haCM => k_is)
    (case hmCM => k_is)
    (case hn => k_is)
    (case ht => k_is)
    (case bCS => k_is)
    (case tCS => k_is)
    (case dCS => k_is)
    (case sCSCS => k_is)
    (case sCMCS => k_is)
    (case bCM => k_is)
    (case tCM => k_is)
    (case dCM => k_is)
    (case sCSCM => k_is)
    (case sCMCM => k_is)
    (case bCT => k_is)
    (case tCT => k_is)
    (case dCT => k_is)
    (case sCSCT => k_is)
    (case sCMCT => k_is)
    (case bCN => k_is)
    (case tCN => k_is)
    (case dCN => k_is)
    (case sCSCN => k_is)
    (case sCMCN => k_is)
    (case bCE => k_is)
    (case tCE => k_is)
    (case dCE => k_is)
    (case sCSCE => k_is)
    (case sCMCE => k_is)
    (case pg => k_is)
    (case hd => k_is)
    (case po => k_is)
    (case sa => k_is)
    (case mk => k_is)
    (case kc => k_is)
    (case nM => k_is)
    (case nR => k_is)

