import PyProof.Rows.All
import Wide.All
import OpenK.AllK
import Wide.FinOn
import HandS.ForMost
import HandS.ForExc
import HandS.TryMany
import HandS.EndTab
import HandS.AnyAll
import KE.KNestM
import HandS.IsInst
import HandS.Codes
import HandS.Walk
import HandS.Flow
import HandS.SetKeys
import HandS.DictComp
import HandS.SortInts
import HandS.More
import PyProof.EqAt
import PyProof.EqKinds
import PyProof.TupleCall
import PySem.Challenge.RW_markbox_k04_grown
set_option Elab.async false
set_option linter.all false
set_option maxRecDepth 100000
set_option maxHeartbeats 8000001
namespace Mb
open L2 PySem PySem.Spec PyProof.Rows
/-! ### heaps: the tables of code objects at Ts may grow, all else that is tracked stays -/
def Tabs (Ts : List Addr) (H : Hp) : Prop := ∀ P ∈ Ts, GxR.TabG H P
structure Kp (Ts : List Addr) (H H' : Hp) : Prop where
  t0 : Tabs Ts H
  keep : ∀ b o, b ∉ Ts → H b = some o → H' b = some o
  t1 : Tabs Ts H'
section
variable {Ts : List Addr} {H H1 H2 : Hp} {a b : Addr} {o : HO}
theorem Tabs.out (t : Tabs Ts H) (h : H a = some o) (n : ∀ ps, o ≠ .tbl ps) : a ∉ Ts := fun hm => by
  obtain ⟨ps, e, _⟩ := t a hm
  rw [h] at e
  exact n ps (Option.some.inj e)
theorem Tabs.outN (t : Tabs Ts H) (h : H a = none) : a ∉ Ts := fun hm => by
  obtain ⟨ps, e, _⟩ := t a hm
  rw [h] at e
  cases e
theorem Kp.refl (t : Tabs Ts H) : Kp Ts H H := ⟨t, fun _ _ _ e => e, t⟩
theorem Kp.trans (x : Kp Ts H H1) (y : Kp Ts H1 H2) : Kp Ts H H2 := ⟨x.t0, fun b o nb e => y.keep b o nb (x.keep b o nb e), y.t1⟩
theorem Kp.obj (x : Kp Ts H H1) (h : H a = some o) (n : ∀ ps, o ≠ .tbl ps) : H1 a = some o := x.keep a o (x.t0.out h n) h
theorem Kp.lst (x : Kp Ts H H1) {xs : List V} (h : H a = some (.lst xs)) : H1 a = some (.lst xs) := x.obj h fun _ q => by cases q
theorem Kp.ins (x : Kp Ts H H1) {C dx : Addr} {fs : List (Str × V)} (h : H a = some (.ins C dx fs)) : H1 a = some (.ins C dx fs) := x.obj h fun _ q => by cases q
theorem Kp.free (x : Kp Ts H H1) (h : H1 a = none) : H a = none := by
  cases q : H a with
  | none => rfl
  | some u =>
    have hn : a ∉ Ts := x.t1.outN h
    rw [x.keep a u hn q] at h
    cases h
theorem Kp.seq {K : PySem.W.Frag} {xs : List V} (x : Kp Ts H H1) (h : SqL K H a xs) : SqL K H1 a xs := by
  obtain (h | ⟨o, h⟩) | h := h
  · exact .inl (.inl (x.lst h))
  · exact .inl (.inr ⟨o, x.obj h fun _ q => by cases q⟩)
  · exact .inr h
theorem Tabs.put (t : Tabs Ts H) (h : a ∉ Ts) : Tabs Ts (upd H a o) := fun P hP => by
  obtain ⟨ps, e, r⟩ := t P hP
  have hn : P ≠ a := fun z => h (by rw [← z]; exact hP)
  exact ⟨ps, by rw [upd_ne hn]; exact e, r⟩
theorem Kp.new (x : Kp Ts H H1) (h : H1 a = none) : Kp Ts H (upd H1 a o) :=
  ⟨x.t0, fun b u nb e => by rw [upd_ne (ne_of_none (x.keep b u nb e) h)]; exact x.keep b u nb e, x.t1.put (x.t1.outN h)⟩
theorem Kp.own (x : Kp Ts H H1) (h : H a = none) (hn : a ∉ Ts) : Kp Ts H (upd H1 a o) :=
  ⟨x.t0, fun b u nb e => by rw [upd_ne (ne_of_none e h)]; exact x.keep b u nb e, x.t1.put hn⟩
theorem Kp.of_same (t : Tabs Ts H) (s : Same H H1) : Kp Ts H H1 := ⟨t, fun b o _ e => s b o e, fun P hP => by
  obtain ⟨ps, e, r⟩ := t P hP
  exact ⟨ps, s P _ e, r⟩⟩
/-- one table of several has grown -/
theorem Kp.grown {P : Addr} (t : Tabs Ts H) (hP : P ∈ Ts) (g : GxR.Tabbed P H H1) : Kp Ts H H1 := ⟨t, fun b o nb e => by rw [g.2 b (fun z => nb (by rw [z]; exact hP))]; exact e, fun R hR => by
  by_cases hb : R = P
  · rw [hb]; exact g.1
  · obtain ⟨ps, e, r⟩ := t R hR
    exact ⟨ps, by rw [g.2 R hb]; exact e, r⟩⟩
theorem Same.up (s : Same H H1) (h : H1 a = none) : Same H (upd H1 a o) := fun b u e => by
  rw [upd_ne (ne_of_none (s b u e) h)]
  exact s b u e
end
/-! ### lists of lists of ints -/
def RowsAt (H : Hp) (as : List Addr) (nss : List (List Int)) : Prop := as.length = nss.length ∧ ∀ (i : Nat) (a : Addr), as[i]? = some a → ∃ ns : List Int, nss[i]? = some ns ∧ H a = some (.lst (ns.map V.int))
theorem RowsAt.of {H : Hp} {as : List Addr} {nss : List (List Int)} (r : RowsAt H as nss) {i : Nat} {ns : List Int} (h : nss[i]? = some ns) : ∃ a, as[i]? = some a ∧ H a = some (.lst (ns.map V.int)) := by
  have hi : i < nss.length := (List.getElem?_eq_some_iff.mp h).1
  obtain ⟨a, ha⟩ : ∃ a, as[i]? = some a := ⟨as[i]'(by rw [r.1]; exact hi), List.getElem?_eq_getElem _⟩
  obtain ⟨ms, e, q⟩ := r.2 i a ha
  rw [h] at e
  cases e
  exact ⟨a, ha, q⟩
theorem RowsAt.kp {Ts : List Addr} {H H1 : Hp} {as : List Addr} {nss : List (List Int)} (r : RowsAt H as nss) (k : Kp Ts H H1) : RowsAt H1 as nss :=
  ⟨r.1, fun i a e => let ⟨ns, h1, h2⟩ := r.2 i a e; ⟨ns, h1, k.lst h2⟩⟩
theorem RowsAt.same {H H1 : Hp} {as : List Addr} {nss : List (List Int)} (r : RowsAt H as nss) (k : Same H H1) : RowsAt H1 as nss :=
  ⟨r.1, fun i a e => let ⟨ns, h1, h2⟩ := r.2 i a e; ⟨ns, h1, k _ _ h2⟩⟩
theorem RowsAt.nil {H : Hp} : RowsAt H [] [] := ⟨rfl, fun i a e => by simp at e⟩
theorem RowsAt.snoc {H : Hp} {as : List Addr} {nss : List (List Int)} {a : Addr} {ns : List Int} (r : RowsAt H as nss) (h : H a = some (.lst (ns.map V.int))) : RowsAt H (as ++ [a]) (nss ++ [ns]) := by
  refine ⟨by rw [List.length_append, List.length_append, r.1]; rfl, fun i b e => ?_⟩
  by_cases hi : i < as.length
  · rw [List.getElem?_append_left hi] at e
    obtain ⟨ms, h1, h2⟩ := r.2 i b e
    exact ⟨ms, by rw [List.getElem?_append_left (by rw [← r.1]; exact hi)]; exact h1, h2⟩
  · have hi2 : i = as.length := by
      have := (List.getElem?_eq_some_iff.mp e).1
      rw [List.length_append, List.length_singleton] at this
      omega
    subst hi2
    rw [List.getElem?_append_right (Nat.le_refl _), Nat.sub_self] at e
    have : a = b := by simpa using e
    subst this
    refine ⟨ns, ?_, h⟩
    rw [r.1, List.getElem?_append_right (Nat.le_refl _), Nat.sub_self]
    rfl
theorem dpInts {K : PySem.W.Frag} {H : Hp} : ∀ ns : List Int, DpAll K H (ns.map V.int) (ns.map PyData.int)
  | [] => .nil
  | n :: r => .cons (.int n) (dpInts r)
theorem layInts : ∀ ns : List Int, PyData.canLayAll0 (ns.map PyData.int) = true ∧ PyData.depthAll (ns.map PyData.int) = 0
  | [] => ⟨rfl, rfl⟩
  | n :: r => by
    obtain ⟨h1, h2⟩ := layInts r
    refine ⟨?_, ?_⟩
    · show (PyData.canLay0 (.int n) && PyData.canLayAll0 (r.map PyData.int)) = true
      rw [h1]; rfl
    · show max (PyData.depth (.int n)) (PyData.depthAll (r.map PyData.int)) = 0
      rw [h2]; rfl
theorem shInts (ns : List Int) : SeqAt.shaped (.list (ns.map PyData.int)) = true := by
  obtain ⟨h1, h2⟩ := layInts ns
  show (PyData.canLayAll0 (ns.map PyData.int) && decide (PyData.depthAll (ns.map PyData.int) + 1 ≤ 64)) = true
  rw [h1, h2]; rfl
theorem layRows : ∀ nss : List (List Int), PyData.canLayAll0 (nss.map fun ns => .list (ns.map PyData.int)) = true ∧ PyData.depthAll (nss.map fun ns => .list (ns.map PyData.int)) ≤ 1
  | [] => ⟨rfl, Nat.zero_le _⟩
  | ns :: r => by
    obtain ⟨h1, h2⟩ := layRows r
    obtain ⟨k1, k2⟩ := layInts ns
    refine ⟨?_, ?_⟩
    · show (PyData.canLayAll0 (ns.map PyData.int) && PyData.canLayAll0 (r.map fun ns => .list (ns.map PyData.int))) = true
      rw [h1, k1]; rfl
    · show max (PyData.depthAll (ns.map PyData.int) + 1) (PyData.depthAll (r.map fun ns => .list (ns.map PyData.int))) ≤ 1
      rw [k2]
      omega
theorem shRows (nss : List (List Int)) : SeqAt.shaped (.list (nss.map fun ns => .list (ns.map PyData.int))) = true := by
  obtain ⟨h1, h2⟩ := layRows nss
  show (PyData.canLayAll0 (nss.map fun ns => .list (ns.map PyData.int)) && decide (PyData.depthAll (nss.map fun ns => .list (ns.map PyData.int)) + 1 ≤ 64)) = true
  rw [h1, decide_eq_true (by omega)]; rfl
theorem eqInts : ∀ ns ms : List Int, PyData.eqvAll (ns.map PyData.int) (ms.map PyData.int) = decide (ns = ms)
  | [], [] => rfl
  | [], _ :: _ => rfl
  | _ :: _, [] => rfl
  | n :: r, m :: q => by
    show ((n == m) && PyData.eqvAll (r.map PyData.int) (q.map PyData.int)) = _
    rw [eqInts r q]
    by_cases h : n = m
    · subst h; simp
    · simp [h]
theorem eqRows : ∀ ns ms : List (List Int), PyData.eqvAll (ns.map fun ns => .list (ns.map PyData.int)) (ms.map fun ns => .list (ns.map PyData.int)) = decide (ns = ms)
  | [], [] => rfl
  | [], _ :: _ => rfl
  | _ :: _, [] => rfl
  | n :: r, m :: q => by
    show (PyData.eqvAll (n.map PyData.int) (m.map PyData.int) && PyData.eqvAll (r.map fun ns => .list (ns.map PyData.int)) (q.map fun ns => .list (ns.map PyData.int))) = _
    rw [eqRows r q, eqInts n m]
    by_cases h : n = m
    · subst h; simp
    · simp [h]
abbrev gridD (nss : List (List Int)) : PyData := .list (nss.map fun ns => .list (ns.map PyData.int))
abbrev rowD (ns : List Int) : PyData := .list (ns.map PyData.int)
theorem dpRows {K : PySem.W.Frag} {H : Hp} : ∀ (as : List Addr) (nss : List (List Int)), RowsAt H as nss → DpAll K H (as.map V.ref) (nss.map fun ns => .list (ns.map PyData.int))
  | [], [], _ => .nil
  | [], _ :: _, r => by have := r.1; simp at this
  | _ :: _, [], r => by have := r.1; simp at this
  | a :: as, ns :: nss, r => by
    obtain ⟨ms, e, h⟩ := r.2 0 a rfl
    have e' : ns = ms := by simpa using e
    subst e'
    exact .cons (.lst (SqL.of h) (dpInts ns)) (dpRows as nss ⟨by have := r.1; simpa using this, fun i b q => by simpa using r.2 (i + 1) b (by simpa using q)⟩)
theorem dpGrid {K : PySem.W.Frag} {H : Hp} {l : Addr} {as : List Addr} {nss : List (List Int)} (h : H l = some (.lst (as.map V.ref))) (r : RowsAt H as nss) : Dp K H (.ref l) (gridD nss) := .lst (SqL.of h) (dpRows as nss r)
/-! ### a def whose code object is known -/
structure FunC (K : PySem.W.Frag) (x qual : Str) (st : Stmt) (f : Addr) (fd : FuncData) (c : Addr) : Prop where
  ex : ∃ (oc : Value) (od : Option Addr) (kV doc pm : Value) (an : Option Addr) (ct : Value) (osl : Array (Option Value)),
    fd = PySem.W.fnOf x qual (defArgs st) (defBody st) (defScope st) .none kV doc pm an (.ref c) ct ∧ K.lookup f = some ⟨oc, od, .func fd, osl⟩ ∧ PySem.W.codeIn K (.ref c) qual = true
  kp : (PySem.W.keepIn K (.ref f)) = true
theorem FunC.fn {K : PySem.W.Frag} {x qual : Str} {st : Stmt} {f : Addr} {fd : FuncData} {c : Addr} (F : FunC K x qual st f fd c) : Fun K x qual st f fd := by
  obtain ⟨oc, od, kV, doc, pm, an, ct, osl, e, l, h⟩ := F.ex
  exact ⟨⟨oc, od, kV, doc, pm, an, .ref c, ct, osl, e, l, h⟩, F.kp⟩
section
variable {K : PySem.W.Frag} {P : Program} {w : World} {mg : Str → Option Value} {base : Heap}
theorem FunC.ok {x qual : Str} {st : Stmt} {f c : Addr} {fd : FuncData} {N ps : List Str} {k : Nat} {sp : Sp} (F : FunC K x qual st f fd c) (S : FnScope N ps (defScope st)) (len : ∀ vs H Q E, sp vs H Q E → vs.length = ps.length)
    (hb : ∀ (A : Around) (outer : List Env) (s : Shared) (H : Hp) (vs : List V) (Q : VK) (E : XK), Room k (A.deeper (envOfC qual (defScope st) s.heap.objs.size f (.ref c))) → sp vs H Q E →
      ∃ t, PSs (cxOf CX0 P w K mg base N qual (defScope st) f (.ref c) A outer s H E).nox (defBody st) t ∧ t { nx := fun _ H' => Q .non H', rt := Q } (start N vs) H) : FnOk P w K mg base CX0 (k + 1) f fd ps sp := by
  obtain ⟨oc, od, kV, doc, pm, an, ct, osl, rfl, l, h⟩ := F.ex
  refine fn_of l h S len fun A outer s H vs Q E hr hsp => ?_
  obtain ⟨t, p, q⟩ := hb A outer s H vs Q E hr hsp
  exact ⟨t, p.nox, q⟩
end
/-! ### an object made within a try: what is raised is wished for at any slots -/
def EM (n : Nat) (W : WX) : XK := fun cls d H => ∀ σ : L2.St, σ.length = n → W cls d σ H
theorem passM {X : Cx} {W : WX} (tk : Takes X W) : Passes (L2.CX X.prog X.w) X (EM X.N.length W) := fun _ σ _ _ e s' I c => tk e s' (XE.of_call I (fun _ _ _ h => h σ I.len) c)
/-! ### the end, with the tables of every def of the top -/
def TabsOf (K : PySem.W.Frag) (q : Program) (h : Heap) : Prop := ∀ (x : Str) (c P : Addr), ((recsOf q).find? fun e => e.name == x).isSome = true → PySem.W.tabIn K x = some (c, P) → PySem.W.CodeHd h c P ∧ h.get? P = some { cls := .none, data := .fields #[] }
theorem walk_tabs {l : PySem.W.OpenLaw} {n k : Nat} {q : Program} {loose : List Str} {XP : (Str → Option Value) → Heap → Prop} {YP : World → Heap → Prop} {d : DefRec} {K : Params → PySem.W.Frag} {CX : World → CXT} {x : Str}
    (few : l.most = some n) (line : n ≤ sizeLine) (bare : d.params.defaults = []) (room : Room k callerA) (written : ∀ (w : World) (h : Heap), YP w h → (K w.params).In h)
    (F : ∀ (w : World) (mg : Str → Option Value) (fa : Addr) (h : Heap), (K w.params).In h → h.Ns mainGlobals mg → mg d.name = some (.ref fa) → TabsOf (K w.params) q h → LamX.LawAtS l w (K w.params) (CX w) k n x mg fa h)
    (shut : ∀ (w : World) (H : Hp) (s : Shared) (e : Value) (t : Shared), CX w [] H s (fun _ _ _ => False) e t → False) : PySem.W.WalkO q loose XP YP l.row.toRowW d [] (fun f vs => PySem.call f vs) := by
  refine Att.attach_callB few bare fun w s₀ s₁ mg mb fa o pm cd doc a vs ns G Y _ _ _ hmg hobj hints hlen hbits hg => ?_
  have hK := written w _ Y
  have tabs : TabsOf (K w.params) q s₁.heap := fun y c P h1 h2 => by
    cases hf : (recsOf q).find? fun e => e.name == y with
    | none => rw [hf] at h1; cases h1
    | some r => exact PySem.W.tab_of G.T hK hf h2
  obtain ⟨fd, cs, sp, a1, a2, a3, a4, a5, a6⟩ := F w mg fa _ hK G.T.g hmg tabs
  exact LamX.law_callTs hK G.T.g G.T.b G.T.builtins G.T.nolimit hg a1 a2 a3 G.T.bmain hobj hints (Nat.le_trans hlen line) room a6 a4 (fun H hH hS => a5 H a ns hlen hbits hH hS) fun H e t => shut w H s₁ e t
end Mb

namespace Mb
open L2 PySem
/-- the i-th statement of the text -/
def top (i : Nat) : Stmt := (PySem.Challenge.pw_markbox_k04_grown).main.body.getD i (.Pass ⟨0, 0, 0, 0⟩)
abbrev s_without : Stmt := top 1
abbrev s_grown : Stmt := top 3
abbrev sWhole : Stmt := top 5
abbrev sCell : Stmt := top 6
abbrev s_law_some : Stmt := top 7
abbrev s_law_rules_by : Stmt := top 8
abbrev s_law_lacks : Stmt := top 9
abbrev s_law_put_to : Stmt := top 10
abbrev sLaw : Stmt := top 11
end Mb

namespace Mb
open L2 PySem PySem.Spec PyProof.Rows
theorem ref_at {as : List Addr} {i : Nat} {y : V} (h : (as.map V.ref)[i]? = some y) : ∃ a, as[i]? = some a ∧ y = V.ref a := by
  rw [List.getElem?_map] at h
  cases q : as[i]? with
  | none => rw [q] at h; cases h
  | some a => rw [q] at h; exact ⟨a, rfl, (Option.some.inj h).symm⟩
theorem int_at {ns : List Int} {i : Nat} {y : V} (h : (ns.map V.int)[i]? = some y) : ∃ k, ns[i]? = some k ∧ y = V.int k := by
  rw [List.getElem?_map] at h
  cases q : ns[i]? with
  | none => rw [q] at h; cases h
  | some a => rw [q] at h; exact ⟨a, rfl, (Option.some.inj h).symm⟩
theorem atI_in {α : Type} {xs : List α} {i : Int} (h0 : 0 ≤ i) (h1 : i < xs.length) : ∃ v, atI xs i = some v ∧ xs[i.toNat]? = some v := by
  rcases Int.eq_ofNat_of_zero_le h0 with ⟨j, rfl⟩
  have hj : j < xs.length := by omega
  refine ⟨xs[j], atI_nat (List.getElem?_eq_getElem hj), ?_⟩
  rw [Int.toNat_natCast]
  exact List.getElem?_eq_getElem hj
theorem eqv_row (ns ms : List Int) : PyData.eqv (rowD ns) (rowD ms) = decide (ns = ms) := eqInts ns ms
theorem eqv_grid (ns ms : List (List Int)) : PyData.eqv (gridD ns) (gridD ms) = decide (ns = ms) := eqRows ns ms
theorem inV_int (m : Int) (ns : List Int) : inV (.int m) (ns.map V.int) = decide (m ∈ ns) := by
  unfold inV
  rw [Bool.eq_iff_iff, decide_eq_true_eq, List.any_eq_true]
  constructor
  · rintro ⟨y, hy, e⟩
    obtain ⟨k, hk, rfl⟩ := List.mem_map.mp hy
    have : k = m := by simpa [eqV] using e
    rw [← this]; exact hk
  · intro h
    exact ⟨.int m, List.mem_map.mpr ⟨m, h, rfl⟩, by simp [eqV]⟩
theorem flat_ints (ns : List Int) : (ns.map V.int).all flatV = true := by
  rw [List.all_eq_true]
  intro v hv
  obtain ⟨k, _, rfl⟩ := List.mem_map.mp hv
  rfl
/-- those of ns that lack in ms -/
def lacking (ns ms : List Int) : List Int := ns.filter fun k => !decide (k ∈ ms)
theorem filter_take {α : Type} (p : α → Bool) {xs : List α} {i : Nat} {x : α} (h : xs[i]? = some x) : (xs.take (i + 1)).filter p = (xs.take i).filter p ++ (if p x = true then [x] else []) := by
  rw [List.take_add_one, List.filter_append, h]
  congr 1
  show List.filter p [x] = _
  rw [List.filter_cons]
  split <;> rfl
theorem lacking_mem : k ∈ lacking a b ↔ k ∈ a ∧ k ∉ b := by
  unfold lacking
  rw [List.mem_filter]
  simp
section
variable {P : Program} {w : World} {K : PySem.W.Frag} {mg : Str → Option Value} {base : Heap} {C CS CM CT CN CE : Addr} {H : Hp}
theorem sqt_kp {Ts : List Addr} {H H1 : Hp} {a : Addr} {xs : List V} (k : Kp Ts H H1) (h : SqT K H a xs) : SqT K H1 a xs := by
  obtain (h | ⟨o, h⟩) | h := h
  · exact .inl (.inl (k.obj h fun _ q => by cases q))
  · exact .inl (.inr ⟨o, k.obj h fun _ q => by cases q⟩)
  · exact .inr h
abbrev pairD (p : List Int × List Int) : PyData := .tuple [rowD p.1, rowD p.2]
abbrev pairsD (ps : List (List Int × List Int)) : PyData := .list (ps.map pairD)
theorem layPair (p : List Int × List Int) : PyData.canLay0 (pairD p) = true ∧ PyData.depth (pairD p) = 2 := by
  obtain ⟨h1, h2⟩ := layInts p.1
  obtain ⟨g1, g2⟩ := layInts p.2
  refine ⟨?_, ?_⟩
  · show (PyData.canLayAll0 (p.1.map PyData.int) && (PyData.canLayAll0 (p.2.map PyData.int) && PyData.canLayAll0 [])) = true
    rw [h1, g1]; rfl
  · show max (PyData.depthAll (p.1.map PyData.int) + 1) (max (PyData.depthAll (p.2.map PyData.int) + 1) (PyData.depthAll [])) + 1 = 2
    rw [h2, g2]; rfl
theorem shPair (p : List Int × List Int) : SeqAt.shaped (pairD p) = true := by
  obtain ⟨h1, h2⟩ := layPair p
  show (PyData.canLay0 (pairD p) && decide (PyData.depth (pairD p) ≤ 64)) = true
  rw [h1, h2]; rfl
theorem layPairs : ∀ ps : List (List Int × List Int), PyData.canLayAll0 (ps.map pairD) = true ∧ PyData.depthAll (ps.map pairD) ≤ 2
  | [] => ⟨rfl, Nat.zero_le _⟩
  | p :: r => by
    obtain ⟨h1, h2⟩ := layPairs r
    obtain ⟨k1, k2⟩ := layPair p
    refine ⟨?_, ?_⟩
    · show (PyData.canLay0 (pairD p) && PyData.canLayAll0 (r.map pairD)) = true
      rw [h1, k1]; rfl
    · show max (PyData.depth (pairD p)) (PyData.depthAll (r.map pairD)) ≤ 2
      rw [k2]
      omega
theorem shPairs (ps : List (List Int × List Int)) : SeqAt.shaped (pairsD ps) = true := by
  obtain ⟨h1, h2⟩ := layPairs ps
  show (PyData.canLayAll0 (ps.map pairD) && decide (PyData.depthAll (ps.map pairD) + 1 ≤ 64)) = true
  rw [h1, decide_eq_true (by omega)]; rfl
theorem eqv_pair (p q : List Int × List Int) : PyData.eqv (pairD p) (pairD q) = decide (p = q) := by
  show (PyData.eqvAll (p.1.map PyData.int) (q.1.map PyData.int) && (PyData.eqvAll (p.2.map PyData.int) (q.2.map PyData.int) && true)) = _
  rw [eqInts, eqInts, Bool.and_true]
  rw [Bool.eq_iff_iff, Bool.and_eq_true, decide_eq_true_eq, decide_eq_true_eq, decide_eq_true_eq]
  exact ⟨fun h => Prod.ext h.1 h.2, fun h => by rw [h]; exact ⟨rfl, rfl⟩⟩
theorem eqPairs : ∀ ps qs : List (List Int × List Int), PyData.eqvAll (ps.map pairD) (qs.map pairD) = decide (ps = qs)
  | [], [] => rfl
  | [], _ :: _ => rfl
  | _ :: _, [] => rfl
  | p :: r, q :: t => by
    show (PyData.eqv (pairD p) (pairD q) && PyData.eqvAll (r.map pairD) (t.map pairD)) = _
    rw [eqPairs r t, eqv_pair]
    by_cases h : p = q
    · subst h; simp
    · simp [h]
theorem eqv_pairs (ps qs : List (List Int × List Int)) : PyData.eqv (pairsD ps) (pairsD qs) = decide (ps = qs) := eqPairs ps qs
theorem same_tup {H1 : Hp} {a : Addr} {xs : List V} (s : Same H H1) (h : SqT K H a xs) : SqT K H1 a xs := by
  obtain (h | ⟨o, h⟩) | h := h
  · exact .inl (.inl (s _ _ h))
  · exact .inl (.inr ⟨o, s _ _ h⟩)
  · exact .inr h
/-- told pairs, listed at l -/
def PairsR (K : PySem.W.Frag) (H : Hp) (l : Addr) (ps : List (List Int × List Int)) : Prop := ∃ ts : List Addr, SqL K H l (ts.map V.ref) ∧ ts.length = ps.length ∧ ∀ (i : Nat) (t : Addr), ts[i]? = some t → ∃ (p q : Addr) (as bs : List Int), ps[i]? = some (as, bs) ∧ SqT K H t [.ref p, .ref q] ∧ SqL K H p (as.map V.int) ∧ SqL K H q (bs.map V.int)
theorem dpPair {t p q : Addr} {as bs : List Int} (hT : SqT K H t [.ref p, .ref q]) (hA : SqL K H p (as.map V.int)) (hB : SqL K H q (bs.map V.int)) : Dp K H (.ref t) (pairD (as, bs)) :=
  .tup hT (.cons (.lst hA (dpInts as)) (.cons (.lst hB (dpInts bs)) .nil))
theorem dpPairAll : ∀ (ts : List Addr) (ps : List (List Int × List Int)), ts.length = ps.length → (∀ (i : Nat) (t : Addr), ts[i]? = some t → ∃ (p q : Addr) (as bs : List Int), ps[i]? = some (as, bs) ∧ SqT K H t [.ref p, .ref q] ∧ SqL K H p (as.map V.int) ∧ SqL K H q (bs.map V.int)) → DpAll K H (ts.map V.ref) (ps.map pairD)
  | [], [], _, _ => .nil
  | [], _ :: _, e, _ => by simp at e
  | _ :: _, [], e, _ => by simp at e
  | t :: ts, p :: ps, e, h => by
    obtain ⟨a, b, as, bs, e2, h1, h2, h3⟩ := h 0 t rfl
    obtain rfl : p = (as, bs) := by simpa using e2
    exact .cons (dpPair h1 h2 h3) (dpPairAll ts ps (by simpa using e) fun i u q => by simpa using h (i + 1) u (by simpa using q))
theorem dpPairs {l : Addr} {ps : List (List Int × List Int)} (h : PairsR K H l ps) : Dp K H (.ref l) (pairsD ps) := by
  obtain ⟨ts, h1, h2, h3⟩ := h
  exact .lst h1 (dpPairAll ts ps h2 h3)
structure LTxt (K : PySem.W.Frag) (mg : Str → Option Value) : Prop where
  isi : mg "isinstance" = none
  int : mg "int" = none
  bool : mg "bool" = none
  list : mg "list" = none
  len : mg "len" = none
  range : mg "range" = none
  max : mg "max" = none
  sum : mg "sum" = none
def cellAt (ns : List Int) (k : Int) : Int := ns.getD k.toNat 0
def spCell (K : PySem.W.Frag) : Sp := fun vs H Q _ => ∃ (a : Addr) (ns : List Int) (k : Int), vs = [.ref a, .int k] ∧ SqL K H a (ns.map V.int) ∧ 0 ≤ k ∧ Q (.int (cellAt ns k)) H
theorem scCell : FnScope ["_law_script", "_law_k"] ["_law_script", "_law_k"] (defScope sCell) := ⟨rfl, rfl, rfl, by decide +kernel, rfl, by decide +kernel, by decide +kernel⟩
theorem ok_cell {f : Addr} {fd : FuncData} (F : Fun K "_law_cell_at" "_law_cell_at" sCell f fd) (T : LTxt K mg) : FnOk P w K mg base CX0 1 f fd ["_law_script", "_law_k"] (spCell K) := by
  refine F.ok scCell (fun vs H Q E h => ?_) (fun cdv A outer s H vs Q E hr h => ?_)
  · rcases h with ⟨a, ns, k, rfl, _⟩
    rfl
  · obtain ⟨a, ns, k, rfl, hS, h0, kQ⟩ := h
    refine ⟨_, pss_cons (ps_if (pt_cmpR op_lt (pv 1) (pe_callB call_len_seq (by rfl) T.len PySem.boot_len (pa_cons (pv 0) pa_nil)) (nomark _)) (pss_one (ps_ret (pe_ix ix_list (pv 0) (pv 1) (fun _ _ => rfl)))) pss_nil) (pss_one (ps_ret pe_int)), ?_⟩
    refine ⟨_, rfl, _, rfl, a, _, rfl, .inl hS, ⟨_, _, rfl, rfl, ⟨_, rfl, ?_⟩⟩⟩
    apply ite2 <;> intro c
    · have c' := of_decide_eq_true c
      obtain ⟨v, hv, hv2⟩ := atI_in (xs := ns.map V.int) h0 c'
      have ev : v = .int (cellAt ns k) := by
        obtain ⟨z, hz, rfl⟩ := int_at hv2
        unfold cellAt
        rw [List.getD_eq_getElem?_getD, hz]
        rfl
      subst ev
      exact ⟨_, rfl, _, rfl, a, _, k, _, rfl, rfl, hS, hv, kQ⟩
    · have hlt : ns.length ≤ k.toNat := by
        have : ¬ k < ((ns.map V.int).length : Int) := fun z => c (decide_eq_true z)
        rw [List.length_map] at this
        omega
      have ev : cellAt ns k = 0 := by
        unfold cellAt
        rw [List.getD_eq_getElem?_getD, List.getElem?_eq_none_iff.mpr hlt]
        rfl
      rw [ev] at kQ
      exact kQ
def spWhole : Sp := fun vs H Q _ => ∃ i : Int, vs = [.int i] ∧ Q (.bl true) H
theorem scWhole : FnScope ["_law_found"] ["_law_found"] (defScope sWhole) := ⟨rfl, rfl, rfl, by decide +kernel, rfl, by decide +kernel, by decide +kernel⟩
theorem ok_whole {f : Addr} {fd : FuncData} (F : Fun K "_law_whole" "_law_whole" sWhole f fd) (T : LTxt K mg) : FnOk P w K mg base CX0 1 f fd ["_law_found"] spWhole := by
  refine F.ok scWhole (fun vs H Q E h => ?_) (fun cdv A outer s H vs Q E hr h => ?_)
  · obtain ⟨i, rfl, _⟩ := h
    rfl
  · obtain ⟨i, rfl, k⟩ := h
    refine ⟨_, pss_one (ps_ret (pe_and (pe_callB call_isi (by rfl) T.isi PyProof.Rows.boot_isinstance (pa_cons (pv 0) (pa_cons (pe_bltn (v := .ty "int") (by rfl) T.int PyProof.Rows.boot_int rfl) pa_nil)))
      (pe_one (pe_not (pe_callB call_isi (by rfl) T.isi PyProof.Rows.boot_isinstance (pa_cons (pv 0) (pa_cons (pe_bltn (v := .ty "bool") (by rfl) T.bool (by decide +kernel) rfl) pa_nil))))))), ?_⟩
    refine ⟨_, rfl, _, _, _, _, true, rfl, ClsV.ty "int", TyX.base (TyOf.int i), kit_ty (by decide +kernel), _, rfl, ?_⟩
    refine iteT ?_
    exact ⟨_, rfl, _, _, _, _, false, rfl, ClsV.ty "bool", TyX.base (TyOf.int i), kit_ty (by decide +kernel), _, rfl, k⟩
/-- a pair of two lists, at t -/
def PairAt (K : PySem.W.Frag) (H : Hp) (t : Addr) (b : List Int × List Int) : Prop := ∃ p q : Addr, SqT K H t [.ref p, .ref q] ∧ SqL K H p (b.1.map V.int) ∧ SqL K H q (b.2.map V.int)
theorem PairAt.same {K : PySem.W.Frag} {H H1 : Hp} {t : Addr} {b : List Int × List Int} (p : PairAt K H t b) (k : Same H H1) : PairAt K H1 t b := by
  obtain ⟨p, q, h1, h2, h3⟩ := p
  exact ⟨p, q, same_tup k h1, k.seq h2, k.seq h3⟩
def spWithout (K : PySem.W.Frag) : Sp := fun vs H Q _ => ∃ (a b : Addr) (ns ms : List Int), vs = [.ref a, .ref b] ∧ SqL K H a (ns.map V.int) ∧ SqL K H b (ms.map V.int) ∧ ns.length ≤ 1000 ∧
  ∀ (H' : Hp) (q : Addr), Same H H' → H q = none → H' q = some (.lst ((lacking ns ms).map V.int)) → Q (.ref q) H'
abbrev nLacks : List Str := ["_law_one", "_law_other", "_law_mark"]
theorem scLacks : FnScope nLacks ["_law_one", "_law_other"] (defScope s_law_lacks) := ⟨rfl, rfl, rfl, by decide +kernel, rfl, by decide +kernel, by decide +kernel⟩
theorem ok_lacks {f : Addr} {fd : FuncData} (F : Fun K "_law_lacks" "_law_lacks" s_law_lacks f fd) : FnOk P w K mg base CX0 1 f fd ["_law_one", "_law_other"] (spWithout K) := by
  refine F.ok scLacks (fun vs H Q E h => ?_) (fun cdv A outer s H vs Q E hr h => ?_)
  · obtain ⟨a, b, ns, ms, rfl, _⟩ := h
    rfl
  · obtain ⟨a, b, ns, ms, rfl, hA, hB, len, k⟩ := h
    refine ⟨_, pss_one (ps_ret (pe_lc (own := [("_law_mark", 2)]) (g := gName 2) (tt := tTest (tOp (rIn K true) (tVar 2) (tVar 1))) rfl scLacks.nd (pi_list (pv 0)) (blkOk_by (N := nLacks) (sc := defScope s_law_lacks) (by decide +kernel)) (fun _ _ _ _ _ => pg_name (i := 2) scLacks.nd rfl (Or.inl rfl))
      (fun _ _ _ _ _ => pts_one (pt_cmpR op_notIn_seq (pv 2) (pv 1) (by rfl))) (fun _ _ _ _ _ => pv 2))), ?_⟩
    refine ⟨_, rfl, a, rfl, ⟨_, hA⟩, fun D hD => ?_⟩
    refine lc_list (K := K) (a := a) (xs := ns.map V.int) (fun i H2 => H2 D = some (.lst ((lacking (ns.take i) ms).map V.int)) ∧ Same H H2) ⟨upd_same, Same.up (Same.refl H) hD⟩ (fun i H2 _ z => z.2.seq hA) ?_ ?_
    · rintro i v H2 hv ⟨hD2, s2⟩
      obtain ⟨m, hm, rfl⟩ := int_at hv
      refine ⟨rfl, _, rfl, _, rfl, b, _, rfl, .inl (s2.seq hB), rfl, flat_ints _, _, rfl, ?_⟩
      rw [if_pos rfl, inV_int]
      have fl : lacking (ns.take (i + 1)) ms = lacking (ns.take i) ms ++ (if (!decide (m ∈ ms)) = true then [m] else []) := filter_take _ hm
      have ll : (lacking (ns.take i) ms).length ≤ ns.length := Nat.le_trans (List.length_filter_le _ _) (by rw [List.length_take]; omega)
      rw [fl]
      apply ite2 <;> intro c
      · rw [if_pos c]
        refine ⟨_, rfl, _, hD2, by rw [List.length_map, sizeLine_eq]; omega, by rw [upd_same, List.map_append]; rfl, fun u o e => ?_⟩
        rw [upd_ne (ne_of_none e hD)]
        exact s2 u o e
      · rw [if_neg c, List.append_nil]
        exact ⟨hD2, s2⟩
    · rintro H2 ⟨hD2, s2⟩
      rw [List.length_map, List.take_length] at hD2
      exact k H2 D s2 hD hD2
end
end Mb

namespace Mb
open L2 PySem PySem.Spec PyProof.Rows
/-! ### sets of marks that grow by rules -/
abbrev Rule4 := List Int × List Int
def Closed4 (rs : List Rule4) (T : Int → Prop) : Prop := ∀ r ∈ rs, (∀ a ∈ r.1, T a) → ∀ b ∈ r.2, T b
/-- in every closed set over the marks -/
def Least4 (rs : List Rule4) (ms : List Int) (k : Int) : Prop := ∀ T : Int → Prop, (∀ a ∈ ms, T a) → Closed4 rs T → T k
theorem least_mark {rs : List Rule4} {ms : List Int} {k : Int} (h : k ∈ ms) : Least4 rs ms k := fun T h1 _ => h1 k h
theorem least_rule {rs : List Rule4} {ms : List Int} {r : Rule4} (hr : r ∈ rs) (h : ∀ a ∈ r.1, Least4 rs ms a) : ∀ b ∈ r.2, Least4 rs ms b := fun b hb T h1 h2 => h2 r hr (fun a ha => h a ha T h1 h2) b hb
/-- the marks that are there when nothing more grows, in order -/
structure Grown4 (rs : List Rule4) (ms S : List Int) : Prop where
  rise : S.Pairwise (· < ·)
  mem : ∀ k, k ∈ S ↔ Least4 rs ms k
theorem rise_one {S T : List Int} (h1 : S.Pairwise (· < ·)) (h2 : T.Pairwise (· < ·)) (h : ∀ k, k ∈ S ↔ k ∈ T) : S = T := by
  induction S generalizing T with
  | nil =>
    cases T with
    | nil => rfl
    | cons t T => exact absurd ((h t).mpr List.mem_cons_self) (by simp)
  | cons s S ih =>
    cases T with
    | nil => exact absurd ((h s).mp List.mem_cons_self) (by simp)
    | cons t T =>
      rw [List.pairwise_cons] at h1 h2
      have e : s = t := by
        rcases List.mem_cons.mp ((h s).mp List.mem_cons_self) with z | z
        · exact z
        · rcases List.mem_cons.mp ((h t).mpr List.mem_cons_self) with y | y
          · exact y.symm
          · have := h1.1 t y
            have := h2.1 s z
            omega
      subst e
      refine congrArg (s :: ·) (ih h1.2 h2.2 fun k => ?_)
      constructor
      · intro hk
        rcases List.mem_cons.mp ((h k).mp (List.mem_cons_of_mem _ hk)) with z | z
        · have := h1.1 k hk; omega
        · exact z
      · intro hk
        rcases List.mem_cons.mp ((h k).mpr (List.mem_cons_of_mem _ hk)) with z | z
        · have := h2.1 k hk; omega
        · exact z
theorem Grown4.one {rs : List Rule4} {ms S T : List Int} (h1 : Grown4 rs ms S) (h2 : Grown4 rs ms T) : S = T := rise_one h1.rise h2.rise fun k => (h1.mem k).trans (h2.mem k).symm
theorem Grown4.closed {rs : List Rule4} {ms S : List Int} (h : Grown4 rs ms S) : Closed4 rs (· ∈ S) := fun r hr ha b hb => (h.mem b).mpr (least_rule hr (fun a h2 => (h.mem a).mp (ha a h2)) b hb)
theorem Grown4.marks {rs : List Rule4} {ms S : List Int} (h : Grown4 rs ms S) : ∀ a ∈ ms, a ∈ S := fun a ha => (h.mem a).mpr (least_mark ha)
theorem Grown4.sub {rs : List Rule4} {ms S : List Int} {T : Int → Prop} (h : Grown4 rs ms S) (h1 : ∀ a ∈ ms, T a) (h2 : Closed4 rs T) : ∀ k ∈ S, T k := fun k hk => (h.mem k).mp hk T h1 h2
/-- grown again: the same -/
theorem Grown4.again {rs : List Rule4} {ms S : List Int} (h : Grown4 rs ms S) : Grown4 rs S S := ⟨h.rise, fun k => ⟨fun hk => least_mark hk, fun hk => hk (· ∈ S) (fun _ z => z) h.closed⟩⟩
theorem nodup_len {S T : List Int} (nd : S.Nodup) (h : ∀ k ∈ S, k ∈ T) : S.length ≤ T.length := by
  induction S generalizing T with
  | nil => exact Nat.zero_le _
  | cons a S ih =>
    rw [List.nodup_cons] at nd
    have ha := h a List.mem_cons_self
    have q := ih nd.2 (T := T.erase a) fun k hk => (List.mem_erase_of_ne (fun z => nd.1 (by rw [← z]; exact hk))).mpr (h k (List.mem_cons_of_mem _ hk))
    rw [List.length_erase_of_mem ha] at q
    have : 0 < T.length := List.length_pos_of_mem ha
    rw [List.length_cons]
    omega
/-! ### the run: what is there, the rules that wait, those that are ready -/
def addK (S : List Int) (k : Int) : List Int := if k ∈ S then S else S ++ [k]
theorem addK_mem {S : List Int} {k j : Int} : j ∈ addK S k ↔ j ∈ S ∨ j = k := by
  unfold addK
  split
  · rename_i h
    exact ⟨.inl, fun z => z.elim id fun e => by rw [e]; exact h⟩
  · rw [List.mem_append, List.mem_singleton]
theorem addK_nodup {S : List Int} {k : Int} (h : S.Nodup) : (addK S k).Nodup := by
  unfold addK
  split
  · exact h
  · rename_i n
    rw [List.nodup_append]
    exact ⟨h, by simp, fun a ha b hb e => n (by rw [← List.mem_singleton.mp hb, ← e]; exact ha)⟩
def lackN (S : List Int) (r : Rule4) : Nat := (lacking r.1 S).length
theorem lack_le {S T : List Int} {r : Rule4} (h : ∀ k ∈ S, k ∈ T) : lackN T r ≤ lackN S r := by
  unfold lackN lacking
  refine (List.Sublist.length_le (?_ : List.Sublist _ _))
  have e : (r.1.filter fun k => !decide (k ∈ T)) = (r.1.filter fun k => !decide (k ∈ S)).filter fun k => !decide (k ∈ T) := by
    rw [List.filter_filter]
    refine List.filter_congr fun k _ => ?_
    by_cases hT : k ∈ T
    · simp [hT]
    · have hS : k ∉ S := fun z => hT (h k z)
      simp [hT, hS]
  rw [e]
  exact List.filter_sublist
theorem lack_lt {S T : List Int} {r : Rule4} {m : Int} (h : ∀ k ∈ S, k ∈ T) (h1 : m ∈ r.1) (h2 : m ∉ S) (h3 : m ∈ T) : lackN T r < lackN S r := by
  unfold lackN lacking
  have e : (r.1.filter fun k => !decide (k ∈ T)) = (r.1.filter fun k => !decide (k ∈ S)).filter fun k => !decide (k ∈ T) := by
    rw [List.filter_filter]
    refine List.filter_congr fun k _ => ?_
    by_cases hT : k ∈ T
    · simp [hT]
    · have hS : k ∉ S := fun z => hT (h k z)
      simp [hT, hS]
  rw [e]
  refine List.length_filter_lt_length_iff_exists.mpr ⟨m, List.mem_filter.mpr ⟨h1, by simp [h2]⟩, by simp [h3]⟩
/-- a rule, and where it stands -/
structure Ru where
  t : Addr
  r : Rule4
/-- rules that wait for a mark, and where their list stands -/
structure We where
  key : Int
  l : Addr
  rs : List Ru
def cost (S : List Int) (z : Nat) (L : List Ru) : Nat := (L.map fun e => 2 * lackN S e.r + z).sum
def costW (S : List Int) (W : List We) : Nat := (W.map fun e => cost S 0 e.rs).sum
def sizeW (W : List We) : Nat := (W.map fun e => e.rs.length).sum
theorem cost_app {S : List Int} {z : Nat} {L M : List Ru} : cost S z (L ++ M) = cost S z L + cost S z M := by
  unfold cost
  rw [List.map_append, List.sum_append]
theorem cost_le {S T : List Int} {z : Nat} {L : List Ru} (h : ∀ k ∈ S, k ∈ T) : cost T z L ≤ cost S z L := by
  unfold cost
  induction L with
  | nil => exact Nat.le_refl _
  | cons e L ih =>
    have := lack_le (r := e.r) h
    simp only [List.sum_cons, List.map_cons]
    omega
theorem costW_le {S T : List Int} {W : List We} (h : ∀ k ∈ S, k ∈ T) : costW T W ≤ costW S W := by
  unfold costW
  induction W with
  | nil => exact Nat.le_refl _
  | cons e W ih =>
    have := cost_le (z := 0) (L := e.rs) h
    simp only [List.sum_cons, List.map_cons]
    omega
/-- rules that waited for a mark cost less when they are ready -/
theorem cost_woken {S T : List Int} {m : Int} {L : List Ru} (h : ∀ k ∈ S, k ∈ T) (h1 : ∀ e ∈ L, m ∈ e.r.1) (h2 : m ∉ S) (h3 : m ∈ T) : cost T 1 L ≤ cost S 0 L := by
  unfold cost
  induction L with
  | nil => exact Nat.le_refl _
  | cons e L ih =>
    have q := ih fun u hu => h1 u (List.mem_cons_of_mem _ hu)
    have := lack_lt (r := e.r) h (h1 e List.mem_cons_self) h2 h3
    simp only [List.sum_cons, List.map_cons]
    omega
/-- the state of the run -/
structure Run4 (rs : List Rule4) (ms : List Int) (S : List Int) (W : List We) (R : List Ru) (x : Option Rule4) : Prop where
  nd : S.Nodup
  marks : ∀ k ∈ ms, k ∈ S
  least : ∀ k ∈ S, Least4 rs ms k
  inR : ∀ e ∈ R, e.r ∈ rs
  inW : ∀ v ∈ W, ∀ e ∈ v.rs, e.r ∈ rs ∧ v.key ∈ e.r.1
  keyN : ∀ v ∈ W, v.key ∉ S
  keys : (W.map We.key).Nodup
  full : ∀ v ∈ W, v.rs ≠ []
  cover : ∀ r ∈ rs, (∃ e ∈ R, e.r = r) ∨ (∃ v ∈ W, ∃ e ∈ v.rs, e.r = r) ∨ (∀ b ∈ r.2, b ∈ S) ∨ x = some r
theorem Run4.grown {rs : List Rule4} {ms S : List Int} {W : List We} (h : Run4 rs ms S W [] none) : ∀ k, k ∈ S ↔ Least4 rs ms k := fun k => by
  refine ⟨h.least k, fun hk => hk (· ∈ S) h.marks fun r hr ha b hb => ?_⟩
  rcases h.cover r hr with ⟨e, he, _⟩ | ⟨v, hv, e, he, er⟩ | z | z
  · cases he
  · have := (h.inW v hv e he).2
    rw [er] at this
    exact absurd (ha _ this) (h.keyN v hv)
  · exact z b hb
  · cases z
theorem Run4.short {rs : List Rule4} {ms S : List Int} {W : List We} {R : List Ru} {x : Option Rule4} (h : Run4 rs ms S W R x) : S.length ≤ (ms ++ rs.flatMap fun r => r.2).length := by
  refine nodup_len h.nd fun k hk => h.least k hk (· ∈ ms ++ rs.flatMap fun r => r.2) (fun a ha => List.mem_append_left _ ha) fun r hr _ b hb => List.mem_append_right _ (List.mem_flatMap.mpr ⟨r, hr, hb⟩)
/-- the last ready one is taken -/
theorem Run4.take {rs : List Rule4} {ms S : List Int} {W : List We} {R : List Ru} {e : Ru} (h : Run4 rs ms S W (R ++ [e]) none) : Run4 rs ms S W R (some e.r) := ⟨h.nd, h.marks, h.least, fun u hu => h.inR u (List.mem_append_left _ hu), h.inW, h.keyN, h.keys, h.full, fun r hr => by
  rcases h.cover r hr with ⟨u, hu, er⟩ | z | z | z
  · rcases (List.mem_append).1 hu with y | y
    · exact .inl ⟨u, y, er⟩
    · rw [List.mem_singleton.mp y] at er
      exact .inr (.inr (.inr (by rw [er])))
  · exact .inr (.inl z)
  · exact .inr (.inr (.inl z))
  · cases z⟩
/-- all behind it are there -/
theorem Run4.done {rs : List Rule4} {ms S : List Int} {W : List We} {R : List Ru} {r : Rule4} (h : Run4 rs ms S W R (some r)) (hb : ∀ b ∈ r.2, b ∈ S) : Run4 rs ms S W R none := ⟨h.nd, h.marks, h.least, h.inR, h.inW, h.keyN, h.keys, h.full, fun u hu => by
  rcases h.cover u hu with z | z | z | z
  · exact .inl z
  · exact .inr (.inl z)
  · exact .inr (.inr (.inl z))
  · cases z
    exact .inr (.inr (.inl hb))⟩
/-- the ones that wait for other marks -/
def restW (W : List We) (k : Int) : List We := W.filter fun v => decide (v.key ≠ k)
def wokenW (W : List We) (k : Int) : List Ru := match W.find? fun v => decide (v.key = k) with
  | some v => v.rs
  | none => []
theorem Run4.add {rs : List Rule4} {ms S : List Int} {W : List We} {R : List Ru} {x : Option Rule4} {k : Int} (h : Run4 rs ms S W R x) (hk : Least4 rs ms k) : Run4 rs ms (addK S k) (restW W k) (R ++ wokenW W k) x := by
  have woken : ∀ e ∈ wokenW W k, ∃ v ∈ W, v.key = k ∧ e ∈ v.rs := fun e he => by
    unfold wokenW at he
    split at he
    · rename_i v hv
      exact ⟨v, List.mem_of_find?_eq_some hv, by simpa using List.find?_some hv, he⟩
    · cases he
  refine ⟨addK_nodup h.nd, fun j hj => addK_mem.mpr (.inl (h.marks j hj)), fun j hj => ?_, fun e he => ?_, fun v hv => h.inW v (List.mem_filter.mp hv).1, fun v hv => ?_, ?_, fun v hv => h.full v (List.mem_filter.mp hv).1, fun r hr => ?_⟩
  · rcases addK_mem.mp hj with z | z
    · exact h.least j z
    · rw [z]; exact hk
  · rcases (List.mem_append).1 he with z | z
    · exact h.inR e z
    · obtain ⟨v, hv, _, h2⟩ := woken e z
      exact (h.inW v hv e h2).1
  · obtain ⟨h1, h2⟩ := List.mem_filter.mp hv
    intro z
    rcases addK_mem.mp z with y | y
    · exact h.keyN v h1 y
    · exact (of_decide_eq_true h2) y
  · exact h.keys.sublist (List.filter_sublist.map _)
  · rcases h.cover r hr with ⟨e, he, er⟩ | ⟨v, hv, e, he, er⟩ | z | z
    · exact .inl ⟨e, List.mem_append_left _ he, er⟩
    · by_cases hvk : v.key = k
      · have nd := h.keys
        obtain ⟨v', hv'⟩ : ∃ v', W.find? (fun v => decide (v.key = k)) = some v' := by
          cases q : W.find? (fun v => decide (v.key = k)) with
          | some v' => exact ⟨v', rfl⟩
          | none => exact absurd (decide_eq_true hvk) (by simpa using List.find?_eq_none.mp q v hv)
        have same : v' = v := by
          have m' := List.mem_of_find?_eq_some hv'
          have k' : v'.key = k := by simpa using List.find?_some hv'
          obtain ⟨i, hi, ei⟩ := List.getElem_of_mem m'
          obtain ⟨j, hj, ej⟩ := List.getElem_of_mem hv
          have := (List.getElem_inj (xs := W.map We.key) (i := i) (j := j) (h₀ := by rw [List.length_map]; exact hi) (h₁ := by rw [List.length_map]; exact hj) nd).mp (by rw [List.getElem_map, List.getElem_map, ei, ej, k', hvk])
          subst this
          rw [← ei, ← ej]
        refine .inl ⟨e, List.mem_append_right _ ?_, er⟩
        unfold wokenW
        rw [hv', same]
        exact he
      · exact .inr (.inl ⟨v, List.mem_filter.mpr ⟨hv, decide_eq_true hvk⟩, e, he, er⟩)
    · exact .inr (.inr (.inl fun b hb => addK_mem.mpr (.inl (z b hb))))
    · exact .inr (.inr (.inr z))
end Mb

namespace Mb
open L2 PySem PySem.Spec PyProof.Rows
/-- the keys that a walk tells are the whole numbers that stand there -/
theorem keys_whole {pairs : List (Key × Value)} {nums : List Int} {told : Array Value} (alike : pairs.map (fun z => z.1) = nums.map Sum.inl) (size : told.size = pairs.length)
    (each : ∀ (i : Nat) (u : Value), told[i]? = some u → ∃ (key : Key) (y : Value), pairs[i]? = some (key, y) ∧ keyIs key u = true) : IntsAre told.toList nums := by
  have many : pairs.length = nums.length := by simpa using congrArg List.length alike
  refine ints_each (by rw [Array.length_toList, size, many]) (fun i u at_i => ?_)
  obtain ⟨key, y, here, named⟩ := each i u (Array.getElem?_toList ▸ at_i)
  have both : (nums.map (Sum.inl : Int → Key))[i]? = some key := by
    rw [← alike, List.getElem?_map]
    simp [here]
  rw [List.getElem?_map, Option.map_eq_some_iff] at both
  obtain ⟨num, stands, rfl⟩ := both
  rcases keyIs_shape named with ⟨_, tok, same, is⟩ | ⟨_, _, other, _⟩
  · exact ⟨num, tok, stands, (Sum.inl.inj same) ▸ is⟩
  · exact absurd other (by simp)
/-- sorted(d), its keys whole numbers, any number of them -/
def rSortedDK : List V → Hp → VK → Prop := fun xs H Q => ∃ (a : Addr) (kvs : List (Key × V)) (ks : List Int), xs = [.ref a] ∧ H a = some (.dK kvs) ∧ kvs.map (·.1) = ks.map Sum.inl ∧
    ∀ (ys : List Int) (p : Addr), ys.Perm ks → ys.Pairwise (· ≤ ·) → H p = none → Q (.ref p) (upd H p (.lst (ys.map V.int)))
theorem cr_sortedDK {X : Cx} (calm : X.calm = true) : CallR X (.builtin "sorted") rSortedDK := by
  intro pins s σ H args vals Q inv rel want
  obtain ⟨d, kvs, nums, rfl, stands, keys, want⟩ := want
  obtain ⟨_, rfl, isRef⟩ := vals1 rel
  cases isRef
  obtain ⟨room, off, pairs, kept, dict⟩ := dk_of inv.hok stands
  obtain ⟨shape, there⟩ := dict.dictAt
  have alike := kept.keys.symm.trans keys
  have fits : pairs.length ≤ sizeLine := kept.length ▸ room
  apply Calls.call_function_entry kind_sorted plain_sorted entry_sorted (args_sorted1 _)
  unfold Builtin.«sorted»
  apply wpAny_bind (m := checkCount "sorted" 1 1 _)
  apply wpAny_pure
  have walk := PySem.W.kdl_dict (knd := mixKind X.prog X.w) (kvs := pairs) (ep := shape) off
  apply wpAny_bind
  refine PySem.W.kdu_collect (A := X.A.in1) walk (inv.ok.hd calm) there fits fun heap' toks' told grew all => ?_
  have whole : IntsAre told.toList nums := keys_whole alike all.1 all.2
  have size : told.toList.length = pairs.length := by rw [Array.length_toList, all.1]
  have small : told.toList.length ≤ sizeLine := size ▸ fits
  have inv2 : Inv X pins σ H { s with heap := heap', toks := toks' } := inv.kept grew
  have made : (heap'.push (seqObj "list" told.toList.toArray 0)).get? heap'.objs.size = some (seqObj "list" told.toList.toArray 0) := Heap.get?_push_size heap' rfl
  apply wpAny_bind
  refine wpAny_newList (hsz := small) ?_
  apply wpAny_bind
  apply wpAny_holding
  refine wpAny_call_entry slot_list_sort ⟨_, made, rfl⟩ entry_list_sort (SrtO.list_sort_ord (s := { s with heap := heap'.push (seqObj "list" told.toList.toArray 0), toks := toks' }) SrtO.swo_int made small (fun two => SrtO.ints_sortable whole two)
    fun sorted rise stable => ⟨_, rfl, ?_⟩) (args_list_sort _)
  obtain ⟨nice, perm, order⟩ := SrtO.ints_out whole rise stable
  obtain ⟨_, after⟩ := sortedHeap_at (vs := told.toList) (out := sorted.toArray) made
  have short : ((sorted.map SrtO.iv).map V.int).length ≤ sizeLine := by
    rw [List.length_map, perm.length_eq]
    have : pairs.length = nums.length := by simpa using congrArg List.length alike
    omega
  apply wpAny_pure
  refine ⟨_, rfl, .ref heap'.objs.size, upd H heap'.objs.size (.lst ((sorted.map SrtO.iv).map V.int)), inv2.laid (t' := toks') (fun b o stood => ?_) (Nat.le_refl _) ⟨short, sorted, _, vals_of_ints nice, after⟩, rfl, want _ _ perm order (inv2.hok.fresh (Nat.le_refl _))⟩
  have below := Heap.lt_size stood
  exact (sortedHeap_old (Nat.ne_of_lt below) (Nat.lt_of_lt_of_eq (Nat.lt_succ_of_lt below) (size_push' _ _).symm)).trans (Heap.get?_push_of_some _ stood)
/-- what a turn of a dict comprehension lays into the dict at D -/
abbrev DcLay (D : Addr) (tk tv : TE) (σ : L2.St) (H : Hp) (Next : Hp → Prop) : Prop := tk σ H fun y G => tv σ G fun z G' => ∃ (kvs : List (Key × V)) (k : Key), y = kV k ∧ G' D = some (.dK kvs) ∧ kvs.length < sizeLine ∧ Next (upd G' D (.dK (putK kvs k z)))
abbrev DcTurn (g : TG) (tt : TT) (tk tv : TE) (vs : List Nat) (σ : L2.St) (D : Addr) (x : V) (H : Hp) (Next : Hp → Prop) : Prop := g x (wipe σ vs) H fun σ' G => wipe σ' vs = wipe σ vs ∧ tt σ' G fun b G' => if b = true then DcLay D tk tv σ' G' Next else Next G'
/-- a dict comprehension over a list that stays -/
theorem dc_list {K : PySem.W.Frag} {a : Addr} {xs : List V} {g : TG} {tt : TT} {tk tv : TE} {vs : List Nat} {σ : L2.St} {H1 : Hp} {D : Addr} {Qd : Hp → Prop} (Pv : Nat → Hp → Prop) (start : Pv 0 (upd H1 D (.dK []))) (stays : ∀ i H, i ≤ xs.length → Pv i H → SqL K H a xs)
    (turn : ∀ i x H, xs[i]? = some x → Pv i H → DcTurn g tt tk tv vs σ D x H (Pv (i + 1))) (done : ∀ H, Pv xs.length H → Qd H) :
    ∃ Word : Nat → Nat → Hp → Prop, (∃ m, Word 0 m (upd H1 D (.dK []))) ∧ ∀ i m H, Word i m H → ((Itl K a).stop i H ∧ Qd H) ∨
      ((Itl K a).go i H ∧ ∃ Next : Hp → Prop, (∀ G, Next G → ∃ m', m' < m ∧ Word (i + 1) m' G) ∧ ∀ x G, (Itl K a).yld i H x G → DcTurn g tt tk tv vs σ D x G Next) := by
  refine ⟨fun i m H => i + m = xs.length ∧ Pv i H, ⟨xs.length, Nat.zero_add _, start⟩, ?_⟩
  rintro i m H ⟨sum, p⟩
  have here := stays i H (by omega) p
  cases m with
  | zero =>
    have last : i = xs.length := by omega
    subst last
    exact .inl ⟨⟨xs, here, Nat.le_refl _⟩, done H p⟩
  | succ m =>
    have lt : i < xs.length := by omega
    refine .inr ⟨⟨xs, xs[i], here, List.getElem?_eq_getElem lt⟩, Pv (i + 1), fun G q => ⟨m, Nat.lt_succ_self m, by omega, q⟩, fun x G y => ?_⟩
    obtain ⟨rfl, told⟩ := y
    exact turn i x _ (told xs here) p
end Mb

namespace Mb
open L2 PySem PySem.Spec PyProof.Rows
/-! ### what the steps cost -/
theorem rest_none {W : List We} {k : Int} (h : k ∉ W.map We.key) : restW W k = W ∧ wokenW W k = [] := by
  have h2 : ∀ v ∈ W, ¬ v.key = k := fun v hv e => h (List.mem_map.mpr ⟨v, hv, e⟩)
  refine ⟨List.filter_eq_self.mpr fun v hv => decide_eq_true (h2 v hv), ?_⟩
  unfold wokenW
  rw [List.find?_eq_none.mpr fun v hv => by simpa using h2 v hv]
theorem split_rest (F : List Ru → Nat) (h0 : F [] = 0) {k : Int} : ∀ {W : List We}, (W.map We.key).Nodup → (W.map fun v => F v.rs).sum = ((restW W k).map fun v => F v.rs).sum + F (wokenW W k)
  | [], _ => by show 0 = 0 + F []; rw [h0]
  | v :: W, nd => by
    simp only [List.map_cons, List.nodup_cons] at nd
    by_cases e : v.key = k
    · have hn : k ∉ W.map We.key := by rw [← e]; exact nd.1
      have r1 : restW (v :: W) k = W := by
        unfold restW
        rw [List.filter_cons_of_neg (by simp [e])]
        exact (rest_none hn).1
      have r2 : wokenW (v :: W) k = v.rs := by
        unfold wokenW
        rw [List.find?_cons_of_pos (by simp [e])]
      rw [r1, r2, List.map_cons, List.sum_cons]
      omega
    · have r1 : restW (v :: W) k = v :: restW W k := by
        unfold restW
        rw [List.filter_cons_of_pos (by simp [e])]
      have r2 : wokenW (v :: W) k = wokenW W k := by
        unfold wokenW
        rw [List.find?_cons_of_neg (by simp [e])]
      rw [r1, r2, List.map_cons, List.sum_cons, List.map_cons, List.sum_cons, split_rest F h0 (k := k) nd.2]
      omega
/-- a rule that waits for m -/
def parkW (W : List We) (m : Int) (l : Addr) (e : Ru) : List We := if m ∈ W.map We.key then W.map fun v => if v.key = m then ⟨v.key, v.l, v.rs ++ [e]⟩ else v else W ++ [⟨m, l, [e]⟩]
theorem park_same {W : List We} {m : Int} {e : Ru} (h : m ∉ W.map We.key) : (W.map fun v => if v.key = m then (⟨v.key, v.l, v.rs ++ [e]⟩ : We) else v) = W := by
  have e : (W.map fun v => if v.key = m then (⟨v.key, v.l, v.rs ++ [e]⟩ : We) else v) = W.map id := List.map_congr_left fun v hv => if_neg fun z => h (List.mem_map.mpr ⟨v, hv, z⟩)
  rw [e, List.map_id]
theorem park_sum (F : List Ru → Nat) {e : Ru} {c : Nat} (h0 : F [e] = c) (h1 : ∀ L, F (L ++ [e]) = F L + c) {m : Int} {l : Addr} {W : List We} (nd : (W.map We.key).Nodup) : ((parkW W m l e).map fun v => F v.rs).sum = (W.map fun v => F v.rs).sum + c := by
  unfold parkW
  split
  · rename_i h
    induction W with
    | nil => cases h
    | cons v W ih =>
      simp only [List.map_cons, List.nodup_cons] at nd
      rw [List.map_cons, List.map_cons, List.sum_cons, List.map_cons, List.sum_cons]
      by_cases q : v.key = m
      · have hn : m ∉ W.map We.key := by rw [← q]; exact nd.1
        rw [if_pos q, park_same hn]
        dsimp only
        rw [h1]
        omega
      · rw [if_neg q, ih nd.2 (by
          rcases (List.mem_cons).1 h with z | z
          · exact absurd z.symm q
          · exact z)]
        omega
  · rw [List.map_append, List.sum_append]
    show _ + (F [e] + 0) = _
    rw [h0]
    omega
theorem park_mem {W : List We} {m : Int} {l : Addr} {e : Ru} {v : We} (h : v ∈ parkW W m l e) : (∃ u ∈ W, v.key = u.key ∧ v.l = u.l ∧ (v.rs = u.rs ∨ v.key = m ∧ v.rs = u.rs ++ [e])) ∨ (m ∉ W.map We.key ∧ v = ⟨m, l, [e]⟩) := by
  unfold parkW at h
  split at h
  · obtain ⟨u, hu, rfl⟩ := List.mem_map.mp h
    refine .inl ⟨u, hu, ?_⟩
    split
    · rename_i q
      exact ⟨rfl, rfl, .inr ⟨q, rfl⟩⟩
    · exact ⟨rfl, rfl, .inl rfl⟩
  · rename_i n
    rcases (List.mem_append).1 h with z | z
    · exact .inl ⟨v, z, rfl, rfl, .inl rfl⟩
    · exact .inr ⟨n, List.mem_singleton.mp z⟩
theorem park_keep {W : List We} {m : Int} {l : Addr} {e : Ru} {v : We} (h : v ∈ W) : ∃ u ∈ parkW W m l e, u.key = v.key ∧ ∀ x ∈ v.rs, x ∈ u.rs := by
  unfold parkW
  split
  · refine ⟨_, List.mem_map.mpr ⟨v, h, rfl⟩, ?_⟩
    split
    · exact ⟨rfl, fun x hx => List.mem_append_left _ hx⟩
    · exact ⟨rfl, fun x hx => hx⟩
  · exact ⟨v, List.mem_append_left _ h, rfl, fun x hx => hx⟩
theorem park_has {W : List We} {m : Int} {l : Addr} {e : Ru} : ∃ u ∈ parkW W m l e, u.key = m ∧ e ∈ u.rs := by
  unfold parkW
  split
  · rename_i h
    obtain ⟨v, hv, q⟩ := List.mem_map.mp h
    refine ⟨_, List.mem_map.mpr ⟨v, hv, rfl⟩, ?_⟩
    rw [if_pos q]
    exact ⟨q, List.mem_append_right _ List.mem_cons_self⟩
  · exact ⟨_, List.mem_append_right _ List.mem_cons_self, rfl, List.mem_cons_self⟩
theorem park_keys {W : List We} {m : Int} {l : Addr} {e : Ru} : (parkW W m l e).map We.key = if m ∈ W.map We.key then W.map We.key else W.map We.key ++ [m] := by
  unfold parkW
  split
  · rw [List.map_map]
    refine List.map_congr_left fun v hv => ?_
    show (if v.key = m then (⟨v.key, v.l, v.rs ++ [e]⟩ : We) else v).key = v.key
    split <;> rfl
  · rw [List.map_append]
    rfl
theorem Run4.park {rs : List Rule4} {ms S : List Int} {W : List We} {R : List Ru} {e e' : Ru} {m : Int} {l : Addr} (h : Run4 rs ms S W R (some e.r)) (he : e'.r = e.r) (hr : e.r ∈ rs) (h1 : m ∈ e.r.1) (h2 : m ∉ S) : Run4 rs ms S (parkW W m l e') R none := by
  refine ⟨h.nd, h.marks, h.least, h.inR, fun v hv u hu => ?_, fun v hv => ?_, ?_, fun v hv => ?_, fun r hr2 => ?_⟩
  · rcases park_mem hv with ⟨o, ho, q1, q2, q3⟩ | ⟨q1, q2⟩
    · rcases q3 with q3 | ⟨q3, q4⟩
      · rw [q3] at hu
        rw [q1]
        exact h.inW o ho u hu
      · rw [q4] at hu
        rcases (List.mem_append).1 hu with z | z
        · rw [q1]; exact h.inW o ho u z
        · rw [List.mem_singleton.mp z, he, q3]
          exact ⟨hr, h1⟩
    · rw [q2] at hu ⊢
      rw [List.mem_singleton.mp hu, he]
      exact ⟨hr, h1⟩
  · rcases park_mem hv with ⟨o, ho, q1, _⟩ | ⟨q1, q2⟩
    · rw [q1]; exact h.keyN o ho
    · rw [q2]; exact h2
  · rw [park_keys]
    split
    · exact h.keys
    · rename_i n
      rw [List.nodup_append]
      exact ⟨h.keys, by simp, fun a ha b hb e => n (by rw [← List.mem_singleton.mp hb, ← e]; exact ha)⟩
  · rcases park_mem hv with ⟨o, ho, _, _, q3⟩ | ⟨q1, q2⟩
    · rcases q3 with q3 | ⟨_, q4⟩
      · rw [q3]; exact h.full o ho
      · rw [q4]; simp
    · rw [q2]; simp
  · rcases h.cover r hr2 with z | ⟨v, hv, u, hu, er⟩ | z | z
    · exact .inl z
    · obtain ⟨o, ho, _, q⟩ := park_keep (m := m) (l := l) (e := e') hv
      exact .inr (.inl ⟨o, ho, u, q u hu, er⟩)
    · exact .inr (.inr (.inl z))
    · cases z
      obtain ⟨o, ho, _, q⟩ := park_has (W := W) (m := m) (l := l) (e := e')
      exact .inr (.inl ⟨o, ho, e', q, he⟩)
theorem cost_add {rs : List Rule4} {ms S : List Int} {W : List We} {R : List Ru} {x : Option Rule4} {k : Int} (h : Run4 rs ms S W R x) : cost (addK S k) 1 (R ++ wokenW W k) + costW (addK S k) (restW W k) ≤ cost S 1 R + costW S W := by
  have up : ∀ j ∈ S, j ∈ addK S k := fun j hj => addK_mem.mpr (.inl hj)
  have e := split_rest (cost S 0) rfl (k := k) h.keys
  have c1 := cost_le (z := 1) (L := R) up
  have c2 := costW_le (W := restW W k) up
  have c3 : cost (addK S k) 1 (wokenW W k) ≤ cost S 0 (wokenW W k) := by
    by_cases hk : k ∈ W.map We.key
    · obtain ⟨v, hv, q⟩ := List.mem_map.mp hk
      refine cost_woken (m := k) up (fun u hu => ?_) (by rw [← q]; exact h.keyN v hv) (addK_mem.mpr (.inr rfl))
      unfold wokenW at hu
      split at hu
      · rename_i o ho
        have mo := List.mem_of_find?_eq_some ho
        have ko : o.key = k := by simpa using List.find?_some ho
        rw [← ko]
        exact (h.inW o mo u hu).2
      · cases hu
    · rw [(rest_none hk).2]
      exact Nat.zero_le _
  rw [cost_app]
  unfold costW at c2 ⊢
  have e2 : (W.map fun e => cost S 0 e.rs).sum = ((restW W k).map fun e => cost S 0 e.rs).sum + cost S 0 (wokenW W k) := e
  omega
theorem size_add {W : List We} {k : Int} (h : (W.map We.key).Nodup) : sizeW W = sizeW (restW W k) + (wokenW W k).length := split_rest List.length rfl h
theorem size_len {W : List We} (h : ∀ v ∈ W, v.rs ≠ []) : W.length ≤ sizeW W := by
  unfold sizeW
  induction W with
  | nil => exact Nat.le_refl _
  | cons v W ih =>
    have := ih fun u hu => h u (List.mem_cons_of_mem _ hu)
    have : 0 < v.rs.length := List.length_pos_iff.mpr (h v List.mem_cons_self)
    rw [List.map_cons, List.sum_cons, List.length_cons]
    omega
theorem size_one {W : List We} {v : We} (h : v ∈ W) : v.rs.length ≤ sizeW W := by
  unfold sizeW
  induction W with
  | nil => cases h
  | cons u W ih =>
    simp only [List.sum_cons, List.map_cons]
    rcases (List.mem_cons).1 h with z | z
    · rw [z]; omega
    · have := ih z
      omega
/-! ### the dicts -/
abbrev dHas (S : List Int) : List (Key × V) := S.map fun k => (Sum.inl k, V.bl true)
abbrev dWait (W : List We) : List (Key × V) := W.map fun v => (Sum.inl v.key, V.ref v.l)
theorem has_val (S : List Int) (k : Int) : valV (dHas S) (Sum.inl k) = if k ∈ S then some (V.bl true) else none := by
  induction S with
  | nil => rfl
  | cons a S ih =>
    by_cases e : a = k
    · subst e
      rw [if_pos List.mem_cons_self]
      exact valV_pos (p := (Sum.inl a, V.bl true)) (r := dHas S) rfl
    · rw [show dHas (a :: S) = (Sum.inl a, V.bl true) :: dHas S from rfl, valV_neg (by simpa using e), ih]
      have : (k ∈ a :: S) ↔ k ∈ S := by
        rw [List.mem_cons]
        exact ⟨fun z => z.elim (fun y => absurd y.symm e) id, .inr⟩
      by_cases q : k ∈ S
      · rw [if_pos q, if_pos (this.mpr q)]
      · rw [if_neg q, if_neg fun z => q (this.mp z)]
theorem has_put (S : List Int) (k : Int) : putK (dHas S) (Sum.inl k) (V.bl true) = dHas (addK S k) := by
  by_cases h : k ∈ S
  · unfold putK addK
    rw [valV_any, has_val, if_pos h, if_pos h]
    rw [if_pos (by rfl)]
    unfold dHas
    rw [List.map_map]
    refine List.map_congr_left fun j _ => ?_
    show (if (Sum.inl j : Key) = Sum.inl k then _ else _) = _
    split <;> rfl
  · rw [putK_new _ (by rw [has_val, if_neg h])]
    unfold addK
    rw [if_neg h]
    unfold dHas
    rw [List.map_append]
    rfl
theorem wait_val (W : List We) (k : Int) : valV (dWait W) (Sum.inl k) = (W.find? fun v => decide (v.key = k)).map fun v => V.ref v.l := by
  induction W with
  | nil => rfl
  | cons v W ih =>
    by_cases e : v.key = k
    · rw [List.find?_cons_of_pos (by simp [e])]
      exact valV_pos (p := (Sum.inl v.key, V.ref v.l)) (r := dWait W) (by rw [e])
    · rw [List.find?_cons_of_neg (by simp [e]), show dWait (v :: W) = (Sum.inl v.key, V.ref v.l) :: dWait W from rfl, valV_neg (by simpa using e), ih]
theorem wait_drop (W : List We) (k : Int) : dropK (dWait W) (Sum.inl k) = dWait (restW W k) := by
  unfold dropK restW dWait
  rw [List.filter_map]
  congr 1
  refine List.filter_congr fun v _ => ?_
  show decide ((Sum.inl v.key : Key) ≠ Sum.inl k) = decide (v.key ≠ k)
  simp
end Mb

namespace Mb
open L2 PySem PySem.Spec PyProof.Rows
section
variable {K : PySem.W.Frag} {H0 G : Hp} {hs w r : Addr} {S : List Int} {W : List We} {R : List Ru}
theorem Same.own (s : Same H0 G) {b : Addr} {u : HO} (h : H0 b = none) : Same H0 (upd G b u) := fun a o e => by
  rw [upd_ne (ne_of_none e h)]
  exact s a o e
/-- what is neither a tuple nor kept for ever may be changed: tuples stay -/
def Loose (o : HO) : Prop := (∀ ys, o ≠ .tup ys) ∧ ∀ z u, o ≠ .frz z u
theorem loose_lst {xs : List V} : Loose (.lst xs) := ⟨fun _ z => (by cases z), fun _ _ z => (by cases z)⟩
theorem loose_dict {kvs : List (Key × V)} : Loose (.dK kvs) := ⟨fun _ z => (by cases z), fun _ _ z => (by cases z)⟩
theorem tup_upd {t b : Addr} {xs : List V} {o u : HO} (h : SqT K G t xs) (hb : G b = some o) (n : Loose o) : SqT K (upd G b u) t xs := by
  rcases h with (h | ⟨z, h⟩) | h
  · have : t ≠ b := fun e => by
      rw [e, hb] at h
      exact n.1 _ (Option.some.inj h)
    exact .inl (.inl (by rw [upd_ne this]; exact h))
  · have : t ≠ b := fun e => by
      rw [e, hb] at h
      exact n.2 _ _ (Option.some.inj h)
    exact .inl (.inr ⟨z, by rw [upd_ne this]; exact h⟩)
  · exact .inr h
/-- a rule's pair; its lists are old -/
def RuOk (K : PySem.W.Frag) (H0 G : Hp) (e : Ru) : Prop := ∃ p q : Addr, SqT K G e.t [.ref p, .ref q] ∧ SqL K H0 p (e.r.1.map V.int) ∧ SqL K H0 q (e.r.2.map V.int)
theorem RuOk.upd {e : Ru} {b : Addr} {o u : HO} (h : RuOk K H0 G e) (hb : G b = some o) (n : Loose o) : RuOk K H0 (L2.upd G b u) e := by
  obtain ⟨p, q, h1, h2, h3⟩ := h
  exact ⟨p, q, tup_upd h1 hb n, h2, h3⟩
theorem RuOk.same {e : Ru} {G' : Hp} (h : RuOk K H0 G e) (s : Same G G') : RuOk K H0 G' e := by
  obtain ⟨p, q, h1, h2, h3⟩ := h
  exact ⟨p, q, same_tup s h1, h2, h3⟩
/-- what stands in the heap while it runs -/
structure At4 (K : PySem.W.Frag) (H0 G : Hp) (hs w r : Addr) (S : List Int) (W : List We) (R : List Ru) : Prop where
  has : G hs = some (.dK (dHas S))
  wait : G w = some (.dK (dWait W))
  ready : G r = some (.lst (R.map fun e : Ru => V.ref e.t))
  lists : ∀ v ∈ W, G v.l = some (.lst (v.rs.map fun e : Ru => V.ref e.t)) ∧ H0 v.l = none
  ls : (W.map We.l).Nodup
  rl : r ∉ W.map We.l
  hw : hs ≠ w
  ruR : ∀ e ∈ R, RuOk K H0 G e
  ruW : ∀ v ∈ W, ∀ e ∈ v.rs, RuOk K H0 G e
  same : Same H0 G
  new : H0 hs = none ∧ H0 w = none ∧ H0 r = none
theorem At4.keep (h : At4 K H0 G hs w r S W R) {G' : Hp} (s : Same G G') : At4 K H0 G' hs w r S W R := ⟨s _ _ h.has, s _ _ h.wait, s _ _ h.ready, fun v hv => ⟨s _ _ (h.lists v hv).1, (h.lists v hv).2⟩, h.ls, h.rl, h.hw, fun e he => (h.ruR e he).same s, fun v hv e he => (h.ruW v hv e he).same s, h.same.trans s, h.new⟩
/-- the ready ones change -/
theorem At4.turn (h : At4 K H0 G hs w r S W R) {R' : List Ru} (hR : ∀ e ∈ R', RuOk K H0 G e) : At4 K H0 (upd G r (.lst (R'.map fun e : Ru => V.ref e.t))) hs w r S W R' := by
  have n1 : hs ≠ r := ne_of h.has h.ready (by intro z; cases z)
  have n2 : w ≠ r := ne_of h.wait h.ready (by intro z; cases z)
  refine ⟨by rw [upd_ne n1]; exact h.has, by rw [upd_ne n2]; exact h.wait, upd_same, fun v hv => ⟨?_, (h.lists v hv).2⟩, h.ls, h.rl, h.hw, fun e he => (hR e he).upd h.ready loose_lst, fun v hv e he => (h.ruW v hv e he).upd h.ready loose_lst, Same.own h.same h.new.2.2, h.new⟩
  rw [upd_ne fun z => h.rl (List.mem_map.mpr ⟨v, hv, z⟩)]
  exact (h.lists v hv).1
/-- a mark comes in -/
theorem At4.mark (h : At4 K H0 G hs w r S W R) {k : Int} : At4 K H0 (upd G hs (.dK (dHas (addK S k)))) hs w r (addK S k) W R := by
  have n1 : r ≠ hs := ne_of h.ready h.has (by intro z; cases z)
  refine ⟨upd_same, by rw [upd_ne (Ne.symm h.hw)]; exact h.wait, by rw [upd_ne n1]; exact h.ready, fun v hv => ⟨?_, (h.lists v hv).2⟩, h.ls, h.rl, h.hw, fun e he => (h.ruR e he).upd h.has loose_dict, fun v hv e he => (h.ruW v hv e he).upd h.has loose_dict, Same.own h.same h.new.1, h.new⟩
  rw [upd_ne (ne_of (h.lists v hv).1 h.has (by intro z; cases z))]
  exact (h.lists v hv).1
/-- those that wait for a mark go -/
theorem At4.drop (h : At4 K H0 G hs w r S W R) {k : Int} : At4 K H0 (upd G w (.dK (dWait (restW W k)))) hs w r S (restW W k) R := by
  have n1 : r ≠ w := ne_of h.ready h.wait (by intro z; cases z)
  have sub : ∀ v ∈ restW W k, v ∈ W := fun v hv => (List.mem_filter.mp hv).1
  refine ⟨by rw [upd_ne h.hw]; exact h.has, upd_same, by rw [upd_ne n1]; exact h.ready, fun v hv => ⟨?_, (h.lists v (sub v hv)).2⟩, h.ls.sublist (List.filter_sublist.map _), fun z => h.rl ?_, h.hw, fun e he => (h.ruR e he).upd h.wait loose_dict, fun v hv e he => (h.ruW v (sub v hv) e he).upd h.wait loose_dict, Same.own h.same h.new.2.1, h.new⟩
  · rw [upd_ne (ne_of (h.lists v (sub v hv)).1 h.wait (by intro z; cases z))]
    exact (h.lists v (sub v hv)).1
  · obtain ⟨v, hv, e⟩ := List.mem_map.mp z
    exact List.mem_map.mpr ⟨v, sub v hv, e⟩
/-- one more waits for a mark that others wait for -/
theorem At4.park1 (h : At4 K H0 G hs w r S W R) {v : We} {e : Ru} {l0 : Addr} (hv : v ∈ W) (nk : (W.map We.key).Nodup) (he : RuOk K H0 G e) : At4 K H0 (upd G v.l (.lst ((v.rs.map fun e : Ru => V.ref e.t) ++ [V.ref e.t]))) hs w r S (parkW W v.key l0 e) R := by
  obtain ⟨hl, nl⟩ := h.lists v hv
  have n1 : hs ≠ v.l := ne_of h.has hl (by intro z; cases z)
  have n2 : w ≠ v.l := ne_of h.wait hl (by intro z; cases z)
  have n3 : r ≠ v.l := fun z => h.rl (List.mem_map.mpr ⟨v, hv, z.symm⟩)
  have hk : v.key ∈ W.map We.key := List.mem_map.mpr ⟨v, hv, rfl⟩
  have one : ∀ {u : We}, u ∈ W → (u.key = v.key ↔ u = v) ∧ (u.l = v.l ↔ u = v) := fun {u} hu => by
    obtain ⟨i, hi, ei⟩ := List.getElem_of_mem hu
    obtain ⟨j, hj, ej⟩ := List.getElem_of_mem hv
    refine ⟨⟨fun q => ?_, fun q => by rw [q]⟩, fun q => ?_, fun q => by rw [q]⟩
    · have := (List.getElem_inj (xs := W.map We.key) (i := i) (j := j) (h₀ := by rw [List.length_map]; exact hi) (h₁ := by rw [List.length_map]; exact hj) nk).mp (by rw [List.getElem_map, List.getElem_map, ei, ej, q])
      subst this
      rw [← ei, ← ej]
    · have := (List.getElem_inj (xs := W.map We.l) (i := i) (j := j) (h₀ := by rw [List.length_map]; exact hi) (h₁ := by rw [List.length_map]; exact hj) h.ls).mp (by rw [List.getElem_map, List.getElem_map, ei, ej, q])
      subst this
      rw [← ei, ← ej]
  have ep : parkW W v.key l0 e = W.map fun u => if u.key = v.key then (⟨u.key, u.l, u.rs ++ [e]⟩ : We) else u := by
    unfold parkW
    rw [if_pos hk]
  have ew : dWait (parkW W v.key l0 e) = dWait W := by
    rw [ep]
    unfold dWait
    rw [List.map_map]
    refine List.map_congr_left fun u _ => ?_
    show (Sum.inl (if u.key = v.key then (⟨u.key, u.l, u.rs ++ [e]⟩ : We) else u).key, V.ref (if u.key = v.key then (⟨u.key, u.l, u.rs ++ [e]⟩ : We) else u).l) = _
    split <;> rfl
  have el : (parkW W v.key l0 e).map We.l = W.map We.l := by
    rw [ep, List.map_map]
    refine List.map_congr_left fun u _ => ?_
    show (if u.key = v.key then (⟨u.key, u.l, u.rs ++ [e]⟩ : We) else u).l = u.l
    split <;> rfl
  refine ⟨by rw [upd_ne n1]; exact h.has, by rw [ew, upd_ne n2]; exact h.wait, by rw [upd_ne n3]; exact h.ready, fun u hu => ?_, by rw [el]; exact h.ls, by rw [el]; exact h.rl, h.hw, fun x hx => (h.ruR x hx).upd hl loose_lst, fun u hu x hx => ?_, Same.own h.same nl, h.new⟩
  · rw [ep] at hu
    obtain ⟨o, ho, rfl⟩ := List.mem_map.mp hu
    by_cases q : o.key = v.key
    · rw [if_pos q]
      have := (one ho).1.mp q
      subst this
      refine ⟨?_, nl⟩
      dsimp only
      rw [upd_same, List.map_append]
      rfl
    · rw [if_neg q]
      have : o.l ≠ v.l := fun z => q ((one ho).1.mpr ((one ho).2.mp z))
      rw [upd_ne this]
      exact h.lists o ho
  · rw [ep] at hu
    obtain ⟨o, ho, rfl⟩ := List.mem_map.mp hu
    by_cases q : o.key = v.key
    · rw [if_pos q] at hx
      rcases (List.mem_append).1 hx with z | z
      · exact (h.ruW o ho x z).upd hl loose_lst
      · rw [(List.mem_singleton).1 z]
        exact he.upd hl loose_lst
    · rw [if_neg q] at hx
      exact (h.ruW o ho x hx).upd hl loose_lst
/-- the first one that waits for a mark -/
theorem At4.park0 (h : At4 K H0 G hs w r S W R) {m : Int} {l : Addr} (hm : m ∉ W.map We.key) (hl : G l = some (.lst [])) (nl : H0 l = none) (lr : l ≠ r) (lW : l ∉ W.map We.l) : G w = some (.dK (dWait W)) ∧
    ∀ (G' : Hp) (e : Ru), Same (upd G w (.dK (dWait W ++ [(Sum.inl m, V.ref l)]))) G' → RuOk K H0 G' e → At4 K H0 (upd G' l (.lst [V.ref e.t])) hs w r S (parkW W m l e) R := by
  refine ⟨h.wait, fun G' e s he => ?_⟩
  have n1 : hs ≠ l := ne_of h.has hl (by intro z; cases z)
  have n2 : w ≠ l := ne_of h.wait hl (by intro z; cases z)
  have n4 : r ≠ w := ne_of h.ready h.wait (by intro z; cases z)
  have hl' : G' l = some (.lst []) := s _ _ (by rw [upd_ne (Ne.symm n2)]; exact hl)
  have ep : parkW W m l e = W ++ [⟨m, l, [e]⟩] := by
    unfold parkW
    rw [if_neg hm]
  have up : ∀ {u : Ru}, RuOk K H0 G u → RuOk K H0 (upd G' l (.lst [V.ref e.t])) u := fun {u} hu => ((hu.upd h.wait loose_dict).same s).upd hl' loose_lst
  refine ⟨by rw [upd_ne n1]; exact s _ _ (by rw [upd_ne h.hw]; exact h.has), ?_, by rw [upd_ne (Ne.symm lr)]; exact s _ _ (by rw [upd_ne n4]; exact h.ready), fun u hu => ?_, ?_, ?_, h.hw, fun x hx => up (h.ruR x hx), fun u hu x hx => ?_, (Same.own ((Same.own h.same h.new.2.1).trans s) nl), h.new⟩
  · rw [upd_ne n2, ep, s _ _ upd_same]
    unfold dWait
    rw [List.map_append]
    rfl
  · rw [ep] at hu
    rcases (List.mem_append).1 hu with z | z
    · have : u.l ≠ l := fun q => lW (List.mem_map.mpr ⟨u, z, q⟩)
      refine ⟨?_, (h.lists u z).2⟩
      rw [upd_ne this]
      exact s _ _ (by rw [upd_ne (ne_of (h.lists u z).1 h.wait (by intro q; cases q))]; exact (h.lists u z).1)
    · rw [(List.mem_singleton).1 z]
      exact ⟨upd_same, nl⟩
  · rw [ep, List.map_append, List.nodup_append]
    exact ⟨h.ls, by simp, fun a ha b hb q => lW (by rw [← (show b = l from List.mem_singleton.mp hb), ← q]; exact ha)⟩
  · rw [ep, List.map_append]
    intro z
    rcases (List.mem_append).1 z with y | y
    · exact h.rl y
    · exact lr (List.mem_singleton.mp y).symm
  · rw [ep] at hu
    rcases (List.mem_append).1 hu with z | z
    · exact up (h.ruW u z x hx)
    · rw [List.mem_singleton.mp z] at hx
      rw [List.mem_singleton.mp hx]
      exact he.upd hl' loose_lst
end
end Mb

namespace Mb
open L2 PySem PySem.Spec PyProof.Rows
section
variable {X : Cx}
/-- R holds within the block of a comprehension, wherever that comes to stand -/
abbrev Within (X : Cx) (scope : Scope) (R : Cx → Prop) : Prop := ∀ (t : Shared) (G : Hp) (B : Addr) (cells : List (Str × Addr)) (own : List Addr), R (X.blk t G scope (compEnvC scope cells B X.env) own)
/-- a new object is stored to a local name; the block that made it goes -/
theorem stored_then_gone {pins : List (Addr × Obj)} {t : Shared} {σ : L2.St} {G : Hp} {D : Ends} {i : Nat} {y : Str} {py : Pos} {dict blk : Addr} {m : Str → Option Value} (inv : Inv X pins σ G t) (names : X.N.Nodup) (at_ : X.N[i]? = some y) (local_ : X.env.scope.names.lookup y = some .local)
    (next : D.nx (σ.set i (some (.ref dict))) G) (fresh : t.heap.Ns blk m) (off : FpOk X pins G blk) :
    wpAny (model X.prog X.w) X.A (assign (.Name y py) X.env (.ref dict)) (fun _ t' => ∃ m', t'.heap.Ns blk m' ∧ ∀ h', Heap.SameBut blk t'.heap h' → SP X pins D .next { t' with heap := h' }) X.xe t := by
  apply wpAny_assign_Name
  refine store_ok2 inv names at_ (Or.inl local_) (show RelV (V.ref dict) (Value.ref dict) from rfl) (hf := Or.inr local_) ?_
  rintro t' inv2 ⟨place, but, which⟩
  obtain ⟨free, notLoc, _, apart, notCell, notPin⟩ := off
  have differ : blk ≠ place := which.elim (fun q => q ▸ notLoc) (fun q z => notCell y place q z.symm)
  exact ⟨m, fresh.sameBut but differ, fun h' gone => ⟨_, G, inv2.turned (t' := t'.toks) (fun b o nb e => (gone.2 b nb).trans e) free notLoc apart notCell notPin, next⟩⟩
/-- a dict comprehension, stored to a local name at once -/
theorem ps_setDc {i : Nat} {y : Str} {py : Pos} {kx vx tg iter : Expr} {ifs : List Expr} {scope : Scope} {own : List (Str × Nat)} {pos spos : Pos} {wi : TI} {g : TG} {tt : TT} {tk tv : TE} (calm : X.calm = true) (names : X.N.Nodup) (at_ : X.N[i]? = some y) (local_ : X.env.scope.names.lookup y = some .local)
    (swap : swapsWith (.DictComp kx vx [⟨tg, iter, ifs, 0⟩] scope pos) (some (.Name y py)) spos.line X.env = pure true) (over : PI X tg iter wi) (block : BlkOk X.N X.env.scope scope own)
    (target : Within X scope fun Y => PG Y tg g) (tests : Within X scope fun Y => PTs Y ifs tt) (key : Within X scope fun Y => PE Y kx tk) (val : Within X scope fun Y => PE Y vx tv) (plain : ∀ x, foldedSetIterable iter X.env x = pure x := by intro _; rfl) :
    PS X (.Assign [.Name y py] (.DictComp kx vx [⟨tg, iter, ifs, 0⟩] scope pos) spos) (tAsg (tDc wi g tt tk tv (own.map (·.2))) (gName i)) := by
  constructor
  intro pins s σ H D inv want
  rw [exec_Assign_Name_used (hs := swap)]
  apply wpAny_bind
  apply wpAny_standAt
  apply wpAny_bind
  change wpAny _ _ (comprehension (.DictComp kx vx [⟨tg, iter, ifs, 0⟩] scope pos) scope X.env (firstIterPos [⟨tg, iter, ifs, 0⟩] pos) newDict false (eval iter X.env) (some (assign (.Name y py) X.env)) >>= _) _ _ _
  apply wpAny_bind
  exact wpAny_mono (dc_core (Qf := fun _ t => SP X pins D .next t) (Q := fun x G => gName i x σ G D.nx) calm names inv over block target tests key val plain want
    fun dict blk t m G inv' next fresh off => stored_then_gone inv' names at_ local_ next fresh off) (fun _ _ q => wpAny_pure (wpAny_pure q)) (fun _ _ z => z)
theorem sw_trueD {kx vx : Expr} {gs : List Comprehension} {scope : Scope} {pos py : Pos} {y : Str} {l : Nat} {env : Env} (inDef : env.scope.kind = .function) (isLocal : env.scope.names.lookup y = some .local) (sameLine : (py.line == pos.line) = true)
    (own : (scope.names.any fun (n, k) => n == y && (k == .local || k == .cell)) = false) : swapsWith (.DictComp kx vx gs scope pos) (some (.Name y py)) l env = pure true := by
  have kind : env.kindOf y = some NameKind.local := isLocal
  have block : env.blockKind = ScopeKind.function := by simp [Env.blockKind, inDef]
  simp [swapsWith, block, kind, own, Expr.pos, sameLine]
end
end Mb

namespace Mb
open L2 PySem PySem.Spec PyProof.Rows
theorem Room.one {k : Nat} {A : Around} (r : Room k A) : A.units + 1 < cLine := by have := r.un; omega
section
variable {P : Program} {w : World} {K : PySem.W.Frag} {mg : Str → Option Value} {base : Heap} {C CS CM CT CN CE : Addr}
/-! ### without(one, other), other a dict -/
def spWithoutD (K : PySem.W.Frag) : Sp := fun vs H Q _ => ∃ (a b : Addr) (ns S : List Int), vs = [.ref a, .ref b] ∧ SqL K H a (ns.map V.int) ∧ H b = some (.dK (dHas S)) ∧ ns.length ≤ 1000 ∧
  ∀ (H' : Hp) (q : Addr), Same H H' → H q = none → H' q = some (.lst ((lacking ns S).map V.int)) → Q (.ref q) H'
abbrev nWithoutD : List Str := ["one", "other", "number"]
theorem scWithoutD : FnScope nWithoutD ["one", "other"] (defScope s_without) := ⟨rfl, rfl, rfl, by decide +kernel, rfl, by decide +kernel, by decide +kernel⟩
theorem ok_withoutD {f : Addr} {fd : FuncData} (F : Fun K "without" "without" s_without f fd) : FnOk P w K mg base CX0 1 f fd ["one", "other"] (spWithoutD K) := by
  refine F.ok scWithoutD (fun vs H Q E h => ?_) (fun cdv A outer s H vs Q E hr h => ?_)
  · obtain ⟨a, b, ns, ms, rfl, _⟩ := h
    rfl
  · obtain ⟨a, b, ns, S, rfl, hA, hB, len, k⟩ := h
    refine ⟨_, pss_one (ps_ret (pe_lc (own := [("number", 2)]) (g := gName 2) (tt := tB (tDNotIn (tVar 2) (tVar 1))) (te := tVar 2) rfl scWithoutD.nd (pi_list (pv 0)) (blkOk_by (N := nWithoutD) (sc := defScope s_without) (by decide +kernel)) (fun _ _ _ _ _ => pg_name (i := 2) scWithoutD.nd rfl (Or.inl rfl))
      (fun _ _ _ _ _ => pts_one (pt_cmp (pc_dnotin (Room.one hr) (pv 2) (pv 1)) (by rfl))) (fun _ _ _ _ _ => pv 2))), ?_⟩
    refine ⟨_, rfl, a, rfl, ⟨_, hA⟩, fun D hD => ?_⟩
    refine lc_list (K := K) (a := a) (xs := ns.map V.int) (fun i H2 => H2 D = some (.lst ((lacking (ns.take i) S).map V.int)) ∧ Same H H2) ⟨upd_same, Same.up (Same.refl H) hD⟩ (fun i H2 _ z => z.2.seq hA) ?_ ?_
    · rintro i v H2 hv ⟨hD2, s2⟩
      obtain ⟨m, hm, rfl⟩ := int_at hv
      refine ⟨rfl, _, rfl, _, rfl, b, _, rfl, DGet.k (k := Sum.inl m) (s2 _ _ hB), _, rfl, ?_⟩
      have e : (!(valV (dHas S) (Sum.inl m)).isSome) = !decide (m ∈ S) := by
        rw [has_val]
        by_cases q : m ∈ S <;> simp [q]
      rw [e]
      have fl : lacking (ns.take (i + 1)) S = lacking (ns.take i) S ++ (if (!decide (m ∈ S)) = true then [m] else []) := filter_take _ hm
      have ll : (lacking (ns.take i) S).length ≤ ns.length := Nat.le_trans (List.length_filter_le _ _) (by rw [List.length_take]; omega)
      rw [fl]
      apply ite2 <;> intro c
      · rw [if_pos c]
        refine ⟨_, rfl, _, hD2, by rw [List.length_map, sizeLine_eq]; omega, by rw [upd_same, List.map_append]; rfl, fun u o e => ?_⟩
        rw [upd_ne (ne_of_none e hD)]
        exact s2 u o e
      · rw [if_neg c, List.append_nil]
        exact ⟨hD2, s2⟩
    · rintro H2 ⟨hD2, s2⟩
      rw [List.length_map, List.take_length] at hD2
      exact k H2 D s2 hD hD2
/-! ### grown(rules, marks) -/
def spGrown (K : PySem.W.Frag) : Sp := fun vs H Q _ => ∃ (l p : Addr) (L : List Ru) (ms : List Int), vs = [.ref l, .ref p] ∧ SqL K H l (L.map fun e : Ru => V.ref e.t) ∧ (∀ e ∈ L, RuOk K H H e) ∧ SqL K H p (ms.map V.int) ∧ L.length ≤ 1000 ∧ ms.length ≤ 1000 ∧
  (∀ e ∈ L, e.r.1.length ≤ 1000) ∧ (ms ++ (L.map Ru.r).flatMap fun r => r.2).length ≤ 100000 ∧
  ∀ (H' : Hp) (q : Addr) (S : List Int), Same H H' → H q = none → H' q = some (.lst (S.map V.int)) → Grown4 (L.map Ru.r) ms S → Q (.ref q) H'
abbrev nGrown : List Str := ["rules", "marks", "has", "waiting", "ready", "ahead", "behind", "lacked", "mark"]
theorem scGrown : FnScope nGrown ["rules", "marks"] (defScope s_grown) := ⟨rfl, rfl, rfl, by decide +kernel, rfl, by decide +kernel, by decide +kernel⟩
theorem ok_grown {f fW : Addr} {fd fdW : FuncData} (F : Fun K "grown" "grown" s_grown f fd) (tl : mg "list" = none) (so : mg "sorted" = none)
    (GW : FnOk P w K mg base CX0 1 fW fdW ["one", "other"] (spWithoutD K)) (gW : mg "without" = some (.ref fW)) (kW : PySem.W.keepIn K (.ref fW) = true) (bW : Binds K fdW ["one", "other"] []) :
    FnOk P w K mg base CX0 2 f fd ["rules", "marks"] (spGrown K) := by
  refine F.ok scGrown (fun vs H Q E h => ?_) (fun cdv A outer s H vs Q E hr h => ?_)
  · obtain ⟨l, p, L, ms, rfl, _⟩ := h
    rfl
  · obtain ⟨l, p, L, ms, rfl, hl, hL, hp, lenL, lenM, lenA, few, k⟩ := h
    refine ⟨_, C8.pss_cut (ps_setDc (i := 2) (own := [("mark", 8)]) (g := gName 8) (tt := tYes) (tk := tVar 8) (tv := tC (.bl true)) rfl scGrown.nd rfl rfl (sw_trueD rfl rfl rfl (by decide +kernel)) (pi_list (pv 1)) (blkOk_by (N := nGrown) (sc := defScope s_grown) (by decide +kernel)) (fun _ _ _ _ _ => pg_name (i := 8) scGrown.nd rfl (Or.inl rfl)) (fun _ _ _ _ _ => pts_nil) (fun _ _ _ _ _ => pv 8) (fun _ _ _ _ _ => pe_bl))
      (C8.pss_cut (ps_set (i := 3) scGrown.nd rfl (Or.inl rfl) pe_dnewK)
      (C8.pss_cut (ps_set (i := 4) scGrown.nd rfl (Or.inl rfl) (pe_callTy call_list_of (by rfl) tl PyProof.Rows.boot_list (pa_cons (pv 0) pa_nil)))
      (C8.pss_cut (ps_while PassesOwn.never (pt_truth (pv 4) (fun _ => rfl))
        (C8.pss_cut (ps_asg (pe_bm0 PySem.F.plainAttrs_list PySem.F.slot_list_pop PySem.F.type_list_pop mt_pop (pv 4)) (pg_tup rfl (pgs_cons (pg_name (i := 5) scGrown.nd rfl (Or.inl rfl)) (pgs_cons (pg_name (i := 6) scGrown.nd rfl (Or.inl rfl)) pgs_nil))))
        (C8.pss_cut (ps_set (i := 7) scGrown.nd rfl (Or.inl rfl) (pe_call GW hr (by rfl) gW kW bW .nil pass0 (pa_cons (pv 5) (pa_cons (pv 2) pa_nil))))
        (pss_one (ps_if (pt_truth (pv 7) (fun _ => rfl))
          (pss_one (ps_expr (pe_bm PySem.F.plainAttrs_list PySem.F.slot_list_append PySem.F.type_list_append mt_append (pe_dsetd (pv 3) (pe_ix ix_list (pv 7) pe_int (fun _ _ => rfl)) (pe_lst pa_nil) ⟨by rfl, by rfl, by rfl, by rfl⟩) (pa_cons (pe_tup (pa_cons (pv 5) (pa_cons (pv 6) pa_nil))) pa_nil))))
          (pss_one (ps_for PassesOwn.never rfl (pi_list (pv 6)) (pg_name (i := 8) scGrown.nd rfl (Or.inl rfl))
            (pss_cons (ps_dput (Room.one hr) (pv 2) (pv 8) pe_bl (by rfl))
            (pss_one (ps_expr (pe_bm PySem.F.plainAttrs_list PySem.F.slot_list_extend PySem.F.type_list_extend mt_extend (pv 4) (pa_cons (pe_dpop2 (pv 3) (pv 8) (pe_lst pa_nil) ⟨by rfl, by rfl, by rfl, by rfl⟩) pa_nil))))))))))))
      (pss_one (ps_ret (pe_callB (cr_sortedDK rfl) (by rfl) so PyProof.Rows.boot_sorted (pa_cons (pv 2) pa_nil))))))), ?_⟩
    have lenR : (L.map Ru.r).length = L.length := List.length_map ..
    -- the marks
    refine ⟨fun σ H' => ∃ (hs : Addr) (S : List Int), σ = [some (.ref l), some (.ref p), some (.ref hs), none, none, none, none, none, none] ∧ Same H H' ∧ H hs = none ∧ H' hs = some (.dK (dHas S)) ∧ S.Nodup ∧ (∀ k, k ∈ S ↔ k ∈ ms), ?_, ?_⟩
    · refine ⟨_, rfl, p, rfl, ⟨_, hp⟩, fun D hD => ?_⟩
      refine dc_list (K := K) (a := p) (xs := ms.map V.int) (fun i H2 => ∃ S : List Int, S.Nodup ∧ (∀ k, k ∈ S ↔ k ∈ ms.take i) ∧ S.length ≤ i ∧ Same H H2 ∧ H2 D = some (.dK (dHas S))) ⟨[], List.nodup_nil, fun k => by simp, Nat.le_refl _, Same.up (Same.refl H) hD, upd_same⟩ (fun i H2 _ ⟨_, _, _, _, z, _⟩ => z.seq hp) ?_ ?_
      · rintro i v H2 hv ⟨S, nd, hm, hl2, s2, hD2⟩
        obtain ⟨m, hm2, rfl⟩ := int_at hv
        have il := (List.getElem?_eq_some_iff.mp hm2).1
        refine ⟨rfl, _, rfl, dHas S, Sum.inl m, rfl, hD2, by rw [List.length_map, sizeLine_eq]; omega, addK S m, addK_nodup nd, fun k => ?_, ?_, Same.own s2 hD, by rw [upd_same, has_put]⟩
        · rw [addK_mem, hm, List.take_add_one, hm2, List.mem_append]
          simp
        · unfold addK
          split
          · omega
          · simp only [List.length_append, List.length_singleton]; omega
      · rintro H2 ⟨S, nd, hm, _, s2, hD2⟩
        rw [List.length_map, List.take_length] at hm
        exact ⟨D, S, rfl, s2, hD, hD2, nd, hm⟩
    rintro σ H1 ⟨hs, S0, rfl, s1, nhs, hhs, nd0, mem0⟩
    -- none waits
    refine ⟨fun σ H' => ∃ w' : Addr, σ = [some (.ref l), some (.ref p), some (.ref hs), some (.ref w'), none, none, none, none, none] ∧ Same H1 H' ∧ H1 w' = none ∧ H' w' = some (.dK []), ?_, ?_⟩
    · exact fun w' hw' => ⟨w', rfl, Same.up (Same.refl H1) hw', hw', upd_same⟩
    rintro σ H2 ⟨w', rfl, s2, nw, hw2⟩
    -- all are ready
    refine ⟨fun σ H' => ∃ r : Addr, σ = [some (.ref l), some (.ref p), some (.ref hs), some (.ref w'), some (.ref r), none, none, none, none] ∧ At4 K H H' hs w' r S0 [] L, ?_, ?_⟩
    · refine ⟨_, rfl, l, _, rfl, .inl ((s1.trans s2).seq hl), fun r hr2 => ⟨r, rfl, ?_⟩⟩
      have s3 : Same H2 (upd H2 r (.lst (L.map fun e : Ru => V.ref e.t))) := Same.up (Same.refl H2) hr2
      have s13 := (s1.trans s2).trans s3
      exact ⟨s3 _ _ (s2 _ _ hhs), s3 _ _ hw2, upd_same, (fun v hv => by cases hv), List.nodup_nil, (fun z => by cases z), ne_of_none hhs nw, fun e he => (hL e he).same s13, (fun v hv => by cases hv), s13, nhs, s1.free nw, (s1.trans s2).free hr2⟩
    rintro σ H3 ⟨r, rfl, A0⟩
    have R0 : Run4 (L.map Ru.r) ms S0 [] L none := ⟨nd0, fun k hk => (mem0 k).mpr hk, fun k hk => least_mark ((mem0 k).mp hk), fun e he => List.mem_map.mpr ⟨e, he, rfl⟩, (fun v hv => by cases hv), (fun v hv => by cases hv), List.nodup_nil, (fun v hv => by cases hv), fun x hx => by
      obtain ⟨e, he, rfl⟩ := List.mem_map.mp hx
      exact .inl ⟨e, he, rfl⟩⟩
    -- the run
    refine ⟨fun σ G => ∃ (S : List Int) (W : List We) (v5 v6 v7 v8 : Option V), σ = [some (.ref l), some (.ref p), some (.ref hs), some (.ref w'), some (.ref r), v5, v6, v7, v8] ∧ At4 K H G hs w' r S W [] ∧ Run4 (L.map Ru.r) ms S W [] none, ?_, ?_⟩
    · refine ⟨fun m σ G => ∃ (S : List Int) (W : List We) (R : List Ru) (v5 v6 v7 v8 : Option V), m = cost S 1 R + costW S W ∧ σ = [some (.ref l), some (.ref p), some (.ref hs), some (.ref w'), some (.ref r), v5, v6, v7, v8] ∧ At4 K H G hs w' r S W R ∧ Run4 (L.map Ru.r) ms S W R none ∧ R.length + sizeW W ≤ L.length, ⟨_, S0, [], L, none, none, none, none, rfl, rfl, A0, R0, Nat.le_refl _⟩, ?_⟩
      rintro m σ G ⟨S, W, R, v5, v6, v7, v8, rfl, rfl, A, Rn, sz⟩
      refine ⟨_, rfl, _, .inl ⟨_, SqL.of A.ready, rfl⟩, ?_⟩
      rcases List.eq_nil_or_concat R with e0 | ⟨R', e, e0⟩
      · subst e0
        exact iteF ⟨S, W, v5, v6, v7, v8, rfl, A, Rn⟩
      rw [List.concat_eq_append] at e0
      subst e0
      have hb : (!((R' ++ [e]).map fun e : Ru => V.ref e.t).isEmpty) = true := by simp
      rw [if_pos hb]
      have me : e ∈ R' ++ [e] := List.mem_append_right _ List.mem_cons_self
      have cR : cost S 1 (R' ++ [e]) = cost S 1 R' + (2 * lackN S e.r + 1) := by
        rw [cost_app]
        rfl
      have eL : e.r ∈ L.map Ru.r := Rn.inR e me
      have lenE : e.r.1.length ≤ 1000 := by
        obtain ⟨u, hu, q⟩ := List.mem_map.mp eL
        rw [← q]
        exact lenA u hu
      have sz' : R'.length + sizeW W + 1 ≤ L.length := by
        rw [List.length_append, List.length_singleton] at sz
        omega
      refine ⟨fun σ' G' => ∃ (S' : List Int) (W' : List We) (R2 : List Ru) (v5 v6 v7 v8 : Option V), cost S' 1 R2 + costW S' W' < cost S 1 (R' ++ [e]) + costW S W ∧ σ' = [some (.ref l), some (.ref p), some (.ref hs), some (.ref w'), some (.ref r), v5, v6, v7, v8] ∧ At4 K H G' hs w' r S' W' R2 ∧ Run4 (L.map Ru.r) ms S' W' R2 none ∧ R2.length + sizeW W' ≤ L.length, fun σ' G' ⟨S', W', R2, v5, v6, v7, v8, lt, es, A', Rn', sz'⟩ => ⟨_, lt, S', W', R2, v5, v6, v7, v8, rfl, es, A', Rn', sz'⟩, ?_⟩
      -- the last one
      refine ⟨fun σ' G' => ∃ p1 q1 : Addr, σ' = [some (.ref l), some (.ref p), some (.ref hs), some (.ref w'), some (.ref r), some (.ref p1), some (.ref q1), v7, v8] ∧ At4 K H G' hs w' r S W R' ∧ SqL K H p1 (e.r.1.map V.int) ∧ SqL K H q1 (e.r.2.map V.int), ?_, ?_⟩
      · obtain ⟨p1, q1, ht, hp1, hq1⟩ := A.ruR e me
        have ed : ((R' ++ [e]).map fun e : Ru => V.ref e.t).dropLast = R'.map fun e : Ru => V.ref e.t := by simp
        refine ⟨_, rfl, .inl ⟨rfl, _, SqL.of A.ready⟩, r, _, V.ref e.t, rfl, rfl, A.ready, by simp, e.t, _, rfl, tup_upd ht A.ready loose_lst, rfl, _, _, rfl, _, _, rfl, rfl, p1, q1, rfl, ?_, hp1, hq1⟩
        rw [ed]
        exact A.turn fun u hu => A.ruR u (List.mem_append_left _ hu)
      rintro σ' G1 ⟨p1, q1, rfl, A1, hp1, hq1⟩
      have Rt := Rn.take
      -- what it lacks
      refine ⟨fun σ' G' => ∃ q7 : Addr, σ' = [some (.ref l), some (.ref p), some (.ref hs), some (.ref w'), some (.ref r), some (.ref p1), some (.ref q1), some (.ref q7), v8] ∧ At4 K H G' hs w' r S W R' ∧ G' q7 = some (.lst ((lacking e.r.1 S).map V.int)), ?_, ?_⟩
      · exact ⟨_, rfl, _, rfl, p1, hs, e.r.1, S, rfl, L2.Same.seq A1.same hp1, A1.has, lenE, fun G2 q7 s2 nq hq => ⟨q7, rfl, A1.keep s2, hq⟩⟩
      rintro σ' G2 ⟨q7, rfl, A2, hq7⟩
      refine ⟨_, rfl, _, .inl ⟨_, SqL.of hq7, rfl⟩, ?_⟩
      have lk : ∀ k, k ∈ lacking e.r.1 S ↔ k ∈ e.r.1 ∧ k ∉ S := fun k => lacking_mem
      have ln : lackN S e.r = (lacking e.r.1 S).length := rfl
      generalize lacking e.r.1 S = la at hq7 lk ln ⊢
      cases la with
      | cons m rest =>
        have hm := (lk m).mp List.mem_cons_self
        refine iteT ?_
        have lW : (dWait W).length < sizeLine := by
          have := size_len Rn.full
          rw [sizeLine_eq, List.length_map]
          omega
        have coP : ∀ (l0 T : Addr), costW S (parkW W m l0 ⟨T, e.r⟩) = costW S W + 2 * lackN S e.r := fun l0 T => park_sum (cost S 0) (by simp [cost]) (fun M => by rw [cost_app]; rfl) Rn.keys
        have siP : ∀ (l0 T : Addr), sizeW (parkW W m l0 ⟨T, e.r⟩) = sizeW W + 1 := fun l0 T => park_sum List.length rfl (fun M => List.length_append) Rn.keys
        have atm : atI ((m :: rest).map V.int) 0 = some (V.int m) := atI_nat (xs := (m :: rest).map V.int) (j := 0) rfl
        refine ⟨_, rfl, w', rfl, .inl ⟨_, .inl A2.wait⟩, _, rfl, q7, _, _, _, rfl, rfl, SqL.of hq7, atm, Nat.zero_le _, fun l0 hl0 => ?_⟩
        have s3 : Same G2 (upd G2 l0 (.lst [])) := Same.up (Same.refl G2) hl0
        have hl3 : (upd G2 l0 (.lst [])) l0 = some (.lst []) := upd_same
        have A3 := A2.keep s3
        have nl0 : H l0 = none := L2.Same.free A2.same hl0
        have l0r : l0 ≠ r := Ne.symm (ne_of_none A2.ready hl0)
        have l0W : l0 ∉ W.map We.l := fun z => by
          obtain ⟨v, hv, e1⟩ := List.mem_map.mp z
          exact ne_of_none (A2.lists v hv).1 hl0 e1
        generalize upd G2 l0 (.lst []) = G3 at s3 hl3 A3
        refine ⟨dWait W, Sum.inl m, A3.wait, rfl, lW, fun v hv => ?_, fun hn => ?_⟩
        · rw [wait_val] at hv
          obtain ⟨o, ho, rfl⟩ := Option.map_eq_some_iff.mp hv
          have mo := List.mem_of_find?_eq_some ho
          have ko : o.key = m := by simpa using List.find?_some ho
          subst ko
          have ho3 := (A3.lists o mo).1
          refine ⟨.inl ⟨rfl, _, SqL.of ho3⟩, _, rfl, _, rfl, (by show 2 ≤ sizeLine; decide), fun T hT => ?_⟩
          have s4 : Same G3 (upd G3 T (.tup [.ref p1, .ref q1])) := Same.up (Same.refl G3) hT
          have A4 := A3.keep s4
          have ru : RuOk K H (upd G3 T (.tup [V.ref p1, .ref q1])) ⟨T, e.r⟩ := ⟨p1, q1, SqT.of upd_same, hp1, hq1⟩
          generalize upd G3 T (.tup [V.ref p1, .ref q1]) = G4 at s4 A4 ru
          have one := size_one mo
          refine ⟨o.l, _, _, rfl, rfl, (A4.lists o mo).1, by rw [List.length_map, sizeLine_eq]; omega, S, parkW W o.key l0 ⟨T, e.r⟩, R', _, _, _, _, ?_, rfl, A4.park1 mo Rn.keys ru, Rt.park rfl eL hm.1 hm.2, ?_⟩
          · rw [cR, coP]
            omega
          · rw [siP]
            omega
        · have nk : m ∉ W.map We.key := fun z => by
            obtain ⟨v, hv, e1⟩ := List.mem_map.mp z
            have q := hn
            rw [wait_val, Option.map_eq_none_iff] at q
            have := List.find?_eq_none.mp q v hv
            simp [e1] at this
          have P0 := A3.park0 nk hl3 nl0 l0r l0W
          rw [putK_new _ hn]
          have hl4 : (upd G3 w' (.dK (dWait W ++ [(Sum.inl m, V.ref l0)]))) l0 = some (.lst []) := by
            rw [upd_ne (ne_of hl3 A3.wait (by intro z; cases z))]
            exact hl3
          refine ⟨.inl ⟨rfl, _, SqL.of hl4⟩, _, rfl, _, rfl, (by show 2 ≤ sizeLine; decide), fun T hT => ?_⟩
          have s5 := Same.up (o := .tup [V.ref p1, .ref q1]) (Same.refl (upd G3 w' (.dK (dWait W ++ [(Sum.inl m, V.ref l0)])))) hT
          have ru : RuOk K H (upd (upd G3 w' (.dK (dWait W ++ [(Sum.inl m, V.ref l0)]))) T (.tup [V.ref p1, .ref q1])) ⟨T, e.r⟩ := ⟨p1, q1, SqT.of upd_same, hp1, hq1⟩
          refine ⟨l0, _, _, rfl, rfl, s5 _ _ hl4, (by show 0 < sizeLine; decide), S, parkW W m l0 ⟨T, e.r⟩, R', _, _, _, _, ?_, rfl, P0.2 _ ⟨T, e.r⟩ s5 ru, Rt.park rfl eL hm.1 hm.2, ?_⟩
          · rw [cR, coP]
            omega
          · rw [siP]
            omega
      | nil =>
        refine iteF ?_
        have inS : ∀ a ∈ e.r.1, a ∈ S := fun a ha => Decidable.byContradiction fun z => by cases (lk a).mpr ⟨ha, z⟩
        have lst := least_rule eL fun a ha => Rn.least a (inS a ha)
        refine ⟨_, rfl, q1, rfl, ⟨_, L2.Same.seq A2.same hq1⟩, for_list (K := K) (a := q1) (xs := e.r.2.map V.int) (fun i σ' G' => ∃ (S' : List Int) (W2 : List We) (R2 : List Ru) (v8 : Option V), σ' = [some (.ref l), some (.ref p), some (.ref hs), some (.ref w'), some (.ref r), some (.ref p1), some (.ref q1), some (.ref q7), v8] ∧ At4 K H G' hs w' r S' W2 R2 ∧ Run4 (L.map Ru.r) ms S' W2 R2 (some e.r) ∧ R2.length + sizeW W2 + 1 ≤ L.length ∧ cost S' 1 R2 + costW S' W2 ≤ cost S 1 R' + costW S W ∧ ∀ b ∈ e.r.2.take i, b ∈ S')
          ⟨S, W, R', v8, rfl, A2, Rt, sz', Nat.le_refl _, fun b hb => by simp at hb⟩ (fun i σ' G' _ ⟨_, _, _, _, _, z, _⟩ => L2.Same.seq z.same hq1) ?_ ?_⟩
        · rintro i y σ' G4 hy ⟨S', W2, R2, v8, rfl, A4, Rn4, sz4, co4, be4⟩
          obtain ⟨j, hj, rfl⟩ := int_at hy
          have mj : j ∈ e.r.2 := List.mem_of_getElem? hj
          have lS : (dHas S').length < sizeLine := by
            have := Rn4.short
            rw [sizeLine_eq, List.length_map]
            omega
          have Rn5 := Rn4.add (lst j mj)
          have co5 := cost_add (k := j) Rn4
          have si5 := size_add (k := j) Rn4.keys
          have be5 : ∀ b ∈ e.r.2.take (i + 1), b ∈ addK S' j := fun b hb => by
            rw [List.take_add_one, hj] at hb
            rcases (List.mem_append).1 hb with z | z
            · exact addK_mem.mpr (.inl (be4 b z))
            · exact addK_mem.mpr (.inr (by simpa using z))
          refine ⟨_, rfl, _, rfl, hs, _, rfl, DPut.k (k := Sum.inl j) A4.has lS, ?_⟩
          rw [has_put]
          have A5 := A4.mark (k := j)
          generalize upd G4 hs (.dK (dHas (addK S' j))) = G5 at A5
          refine ⟨_, rfl, .inl ⟨rfl, _, SqL.of A5.ready⟩, _, rfl, w', rfl, .inl ⟨_, .inl A5.wait⟩, _, rfl, Nat.zero_le _, fun D hD => ?_⟩
          have s6 : Same G5 (upd G5 D (.lst [])) := Same.up (Same.refl G5) hD
          have gD : (upd G5 D (.lst [])) D = some (.lst []) := upd_same
          have A6 := A5.keep s6
          generalize upd G5 D (.lst []) = G6 at s6 gD A6
          refine ⟨dWait W2, Sum.inl j, A6.wait, rfl, fun v hv => ?_, fun hn => ?_⟩
          · rw [wait_val] at hv
            obtain ⟨o, ho, rfl⟩ := Option.map_eq_some_iff.mp hv
            have mo := List.mem_of_find?_eq_some ho
            have wo : wokenW W2 j = o.rs := by
              unfold wokenW
              rw [ho]
            rw [wait_drop]
            have A7 := A6.drop (k := j)
            have ho7 : (upd G6 w' (.dK (dWait (restW W2 j)))) o.l = some (.lst (o.rs.map fun e : Ru => V.ref e.t)) := by
              rw [upd_ne (ne_of (A6.lists o mo).1 A6.wait (by intro z; cases z))]
              exact (A6.lists o mo).1
            have ok7 : ∀ u ∈ o.rs, RuOk K H (upd G6 w' (.dK (dWait (restW W2 j)))) u := fun u hu => (A6.ruW o mo u hu).upd A6.wait loose_dict
            generalize upd G6 w' (.dK (dWait (restW W2 j))) = G7 at A7 ho7 ok7
            rw [wo] at Rn5 co5 si5
            have one := size_one mo
            refine ⟨r, o.l, _, _, rfl, rfl, A7.ready, ho7, by rw [List.length_map, List.length_map, sizeLine_eq]; omega, addK S' j, restW W2 j, R2 ++ o.rs, _, rfl, ?_, Rn5, by rw [List.length_append]; omega, by omega, be5⟩
            rw [← List.map_append]
            exact A7.turn fun u hu => by
              rcases (List.mem_append).1 hu with z | z
              · exact A7.ruR u z
              · exact ok7 u z
          · have nk : j ∉ W2.map We.key := fun z => by
              obtain ⟨v, hv, e1⟩ := List.mem_map.mp z
              rw [wait_val, Option.map_eq_none_iff] at hn
              have := List.find?_eq_none.mp hn v hv
              simp [e1] at this
            obtain ⟨r1, r2⟩ := rest_none nk
            rw [r1, r2, List.append_nil] at Rn5 co5
            refine ⟨r, D, _, [], rfl, rfl, A6.ready, gD, by rw [List.length_map, sizeLine_eq]; show _ + 0 ≤ _; omega, addK S' j, W2, R2, _, rfl, ?_, Rn5, sz4, by omega, be5⟩
            rw [List.append_nil]
            exact A6.turn A6.ruR
        · rintro σ' G4 ⟨S', W2, R2, v8, rfl, A4, Rn4, sz4, co4, be4⟩
          rw [List.length_map, List.take_length] at be4
          refine ⟨S', W2, R2, _, _, _, _, ?_, rfl, A4, Rn4.done be4, by omega⟩
          rw [cR]
          omega
    rintro σ G ⟨S, W, v5, v6, v7, v8, rfl, A, Rn⟩
    -- in order
    have ek : (dHas S).map (·.1) = S.map Sum.inl := by
      unfold dHas
      rw [List.map_map]
      rfl
    refine ⟨_, rfl, hs, dHas S, S, rfl, A.has, ek, fun ys q perm rise nq => ?_⟩
    have ndY : ys.Nodup := perm.nodup_iff.mpr Rn.nd
    refine k _ q ys (L2.Same.trans A.same (Same.up (Same.refl G) nq)) (A.same.free nq) upd_same ⟨?_, fun j => perm.mem_iff.trans (Rn.grown j)⟩
    have h2 : ys.Pairwise (· ≠ ·) := ndY
    exact (rise.and h2).imp fun {a b} ⟨g1, g2⟩ => by omega
end
end Mb

namespace Mb
open L2 PySem PySem.Spec PyProof.Rows
section
variable {P : Program} {w : World} {K : PySem.W.Frag} {mg : Str → Option Value} {base : Heap} {C CS CM CT CN CE : Addr}
/-! ### some numbers -/
def spSome4 : Sp := fun vs H Q _ => ∃ (c mo n : Int), vs = [.int c, .int mo, .int n] ∧ 0 ≤ mo ∧ mo ≤ 8 ∧ 0 < n ∧
  ∀ (H' : Hp) (q : Addr) (zs : List Int), Same H H' → H q = none → H' q = some (.lst (zs.map V.int)) → zs.length ≤ 8 → Q (.ref q) H'
abbrev nSome4 : List Str := ["_law_cell", "_law_most", "_law_many", "_law_draw", "_law_k"]
abbrev pSome4 : List Str := ["_law_cell", "_law_most", "_law_many"]
theorem scSome4 : FnScope nSome4 pSome4 (defScope s_law_some) := ⟨rfl, rfl, rfl, by decide +kernel, rfl, by decide +kernel, by decide +kernel⟩
abbrev tPrimes4 : TE := tLst (tCons (tC (V.int 1)) (tCons (tC (V.int 2)) (tCons (tC (V.int 3)) (tCons (tC (V.int 5)) (tCons (tC (V.int 7)) (tCons (tC (V.int 11)) (tCons (tC (V.int 13)) (tCons (tC (V.int 17)) tNil))))))))
abbrev teSome4 (K : PySem.W.Frag) : TE := tOp (rI (fun _ j => 0 < j) fun i j => V.int (i % j)) (tOp (rI0 fun i j => V.int (i + j)) (tOp (rI CDivN fun i j => V.int (i.fdiv j)) (tVar 3) (tOp (rIxL K) tPrimes4 (tVar 4))) (tOp (rI CMul fun i j => V.int (i * j)) (tVar 4) (tVar 0))) (tVar 2)
theorem primes_at {i : Nat} (h : i < 8) : ∃ z : Int, atI [V.int 1, .int 2, .int 3, .int 5, .int 7, .int 11, .int 13, .int 17] (i : Int) = some (.int z) ∧ 1 ≤ z ∧ z ≤ 17 := by
  rcases (show i = 0 ∨ i = 1 ∨ i = 2 ∨ i = 3 ∨ i = 4 ∨ i = 5 ∨ i = 6 ∨ i = 7 by omega) with c | c | c | c | c | c | c | c <;> subst c
  · exact ⟨1, rfl, by decide, by decide⟩
  · exact ⟨2, rfl, by decide, by decide⟩
  · exact ⟨3, rfl, by decide, by decide⟩
  · exact ⟨5, rfl, by decide, by decide⟩
  · exact ⟨7, rfl, by decide, by decide⟩
  · exact ⟨11, rfl, by decide, by decide⟩
  · exact ⟨13, rfl, by decide, by decide⟩
  · exact ⟨17, rfl, by decide, by decide⟩
theorem ok_some4 {f : Addr} {fd : FuncData} (F : Fun K "_law_some" "_law_some" s_law_some f fd) (L : LTxt K mg) : FnOk P w K mg base CX0 1 f fd pSome4 spSome4 := by
  refine F.ok scSome4 (fun vs H Q E h => ?_) (fun cdv A outer s H vs Q E hr h => ?_)
  · obtain ⟨c, mo, n, rfl, _⟩ := h
    rfl
  · obtain ⟨c, mo, n, rfl, m0, m8, n0, k⟩ := h
    refine ⟨_, pss_cons (ps_set (i := 3) scSome4.nd rfl (Or.inr rfl) (pe_op op_mod (pe_op op_mul (pv 0) pe_int) pe_int))
      (pss_one (ps_ret (pe_lc (own := [("_law_k", 4)]) (g := gName 4) (tt := tYes) (te := teSome4 K) rfl scSome4.nd (pi_range1 (by rfl) L.range (pa_cons (pe_op op_mod (pv 0) (pe_op op_add (pv 1) pe_int)) pa_nil)) (blkOk_by (N := nSome4) (sc := defScope s_law_some) (by decide +kernel)) (fun _ _ _ _ _ => pg_name (i := 4) scSome4.nd rfl (Or.inl rfl)) (fun _ _ _ _ _ => pts_nil)
        (fun _ _ _ _ _ => pe_op op_mod (pe_op op_add (pe_op op_fdivN (pv 3) (pe_ix ix_list (pe_lst (pa_cons pe_int (pa_cons pe_int (pa_cons pe_int (pa_cons pe_int (pa_cons pe_int (pa_cons pe_int (pa_cons pe_int (pa_cons pe_int pa_nil))))))))) (pv 4) (fun _ _ => rfl))) (pe_op op_mul (pv 4) (pv 0))) (pv 2))))), ?_⟩
    have e0 := Int.emod_nonneg c (show mo + 1 ≠ 0 by omega)
    have e1 := Int.emod_lt_of_pos c (show 0 < mo + 1 by omega)
    refine ⟨_, rfl, _, _, rfl, rfl, .inr ⟨by decide, by decide⟩, _, _, rfl, rfl, (by show (0 : Int) < 1000003; decide), ?_⟩
    refine ⟨_, rfl, _, rfl, _, _, rfl, rfl, _, _, rfl, rfl, (by show 0 < mo + 1; omega), c % (mo + 1), rfl, by omega, by omega, fun D hD => ?_⟩
    refine lc_range (lo := 0) (n := (c % (mo + 1)).toNat) (fun j H' => ∃ zs : List Int, zs.length = j ∧ H' D = some (.lst (zs.map V.int)) ∧ Same H H') ⟨[], rfl, upd_same, Same.up (Same.refl H) hD⟩ ?_ ?_
    · rintro j H2 hj ⟨zs, hl, hD2, s2⟩
      have j8 : j < 8 := by omega
      obtain ⟨z, hz, z1, z17⟩ := primes_at j8
      refine ⟨rfl, _, rfl, (by show 8 ≤ sizeLine; decide), fun q hq => ?_⟩
      have s3 := Same.up (o := .lst [V.int 1, .int 2, .int 3, .int 5, .int 7, .int 11, .int 13, .int 17]) (Same.refl H2) hq
      have hD3 := s3 _ _ hD2
      have hq3 := upd_same (H := H2) (a := q) (o := HO.lst [V.int 1, .int 2, .int 3, .int 5, .int 7, .int 11, .int 13, .int 17])
      generalize upd H2 q (.lst [V.int 1, .int 2, .int 3, .int 5, .int 7, .int 11, .int 13, .int 17]) = H3 at s3 hD3 hq3
      refine ⟨_, rfl, q, _, _, _, rfl, rfl, SqL.of hq3, (by rw [Int.zero_add]; exact hz), _, _, rfl, rfl, ⟨by omega, by omega⟩, _, rfl, _, rfl, _, _, rfl, rfl, .inl ⟨by omega, by omega⟩, _, _, rfl, rfl, _, rfl, _, _, rfl, rfl, n0, _, hD3, by rw [List.length_map, sizeLine_eq]; omega, zs ++ [(Int.fdiv (c * 48271 % 1000003) z + (0 + (j : Int)) * c) % n], by rw [List.length_append, List.length_singleton, hl], by rw [upd_same, List.map_append]; rfl, Same.own (s2.trans s3) hD⟩
    · rintro H2 ⟨zs, hl, hD2, s2⟩
      exact k H2 D zs s2 hD hD2 (by omega)
/-! ### the marks, and what the rules put to them until nothing more comes -/
def spPut4 (K : PySem.W.Frag) : Sp := fun vs H Q _ => ∃ (l p : Addr) (L : List Ru) (ms : List Int), vs = [.ref l, .ref p] ∧ SqL K H l (L.map fun e : Ru => V.ref e.t) ∧ (∀ e ∈ L, RuOk K H H e) ∧ SqL K H p (ms.map V.int) ∧ L.length ≤ 1000 ∧ ms.length ≤ 1000 ∧
  (∀ e ∈ L, e.r.1.length ≤ 8 ∧ e.r.2.length ≤ 8) ∧
  ∀ (H' : Hp) (q : Addr) (T : List Int), Same H H' → H q = none → H' q = some (.lst (T.map V.int)) → (∀ k ∈ ms, k ∈ T) → Closed4 (L.map Ru.r) (· ∈ T) → Q (.ref q) H'
abbrev nPut4 : List Str := ["_law_rules", "_law_marks", "_law_found", "_law_size", "_law_rule"]
abbrev pPut4 : List Str := ["_law_rules", "_law_marks"]
theorem scPut4 : FnScope nPut4 pPut4 (defScope s_law_put_to) := ⟨rfl, rfl, rfl, by decide +kernel, rfl, by decide +kernel, by decide +kernel⟩
theorem ok_put4 {f fX : Addr} {fd fdX : FuncData} (F : Fun K "_law_put_to" "_law_put_to" s_law_put_to f fd) (T : LTxt K mg)
    (GX : FnOk P w K mg base CX0 1 fX fdX ["_law_one", "_law_other"] (spWithout K)) (gX : mg "_law_lacks" = some (.ref fX)) (kX : PySem.W.keepIn K (.ref fX) = true) (bX : Binds K fdX ["_law_one", "_law_other"] []) :
    FnOk P w K mg base CX0 2 f fd pPut4 (spPut4 K) := by
  refine F.ok scPut4 (fun vs H Q E h => ?_) (fun cdv A outer s H vs Q E hr h => ?_)
  · obtain ⟨l, p, L, ms, rfl, _⟩ := h
    rfl
  · obtain ⟨l, p, L, ms, rfl, hl, hL, hp, lenL, lenM, lenA, k⟩ := h
    refine ⟨_, C8.pss_cut (ps_set (i := 2) scPut4.nd rfl (Or.inl rfl) (pe_callTy call_list_of (by rfl) T.list PyProof.Rows.boot_list (pa_cons (pv 1) pa_nil)))
      (pss_cons (ps_set (i := 3) scPut4.nd rfl (Or.inl rfl) (pe_un un_neg pe_int))
      (C8.pss_cut (ps_while PassesOwn.never (pt_cmpR op_lt (pv 3) (pe_callB call_len_seq (by rfl) T.len PySem.boot_len (pa_cons (pv 2) pa_nil)) (nomark _))
        (pss_cons (ps_set (i := 3) scPut4.nd rfl (Or.inl rfl) (pe_callB call_len_seq (by rfl) T.len PySem.boot_len (pa_cons (pv 2) pa_nil)))
        (pss_one (ps_for PassesOwn.never rfl (pi_list (pv 0)) (pg_name (i := 4) scPut4.nd rfl (Or.inl rfl))
          (pss_one (ps_if (pt_cmpR (op_eqD hr.units) (pe_call GX hr (by rfl) gX kX bX .nil pass0 (pa_cons (pe_ix ix_tup (pv 4) pe_int (fun _ _ => rfl)) (pa_cons (pv 2) pa_nil))) (pe_lst pa_nil) (nomark _))
            (pss_one (ps_set (i := 2) scPut4.nd rfl (Or.inl rfl) (pe_op op_cat (pv 2) (pe_call GX hr (by rfl) gX kX bX .nil pass0 (pa_cons (pe_ix ix_tup (pv 4) pe_int (fun _ _ => rfl)) (pa_cons (pv 2) pa_nil)))))) pss_nil))))))
      (pss_one (ps_ret (pv 2))))), ?_⟩
    obtain ⟨U, hU⟩ : ∃ U : List Int, U = (L.map Ru.r).flatMap fun r => r.2 := ⟨_, rfl⟩
    have inU : ∀ e ∈ L, ∀ b ∈ e.r.2, b ∈ U := fun e he b hb => by
      rw [hU]
      exact List.mem_flatMap.mpr ⟨e.r, List.mem_map.mpr ⟨e, he, rfl⟩, hb⟩
    have lenU : U.length ≤ 8000 := by
      have : ∀ M : List Ru, (∀ e ∈ M, e.r.2.length ≤ 8) → ((M.map Ru.r).flatMap fun r => r.2).length ≤ 8 * M.length := fun M => by
        induction M with
        | nil => intro _; exact Nat.le_refl _
        | cons e M ih =>
          intro h
          have h1 := ih fun u hu => h u (List.mem_cons_of_mem _ hu)
          have h2 := h e List.mem_cons_self
          rw [List.map_cons, List.flatMap_cons, List.length_append, List.length_cons]
          omega
      have := this L fun e he => (lenA e he).2
      rw [← hU] at this
      omega
    have at0 : ∀ y z : V, atI [y, z] 0 = some y := fun _ _ => rfl
    have at1 : ∀ y z : V, atI [y, z] 1 = some z := fun _ _ => rfl
    -- a copy
    refine ⟨fun σ H' => ∃ F : Addr, σ = [some (.ref l), some (.ref p), some (.ref F), none, none] ∧ Same H H' ∧ H F = none ∧ H' F = some (.lst (ms.map V.int)), ?_, ?_⟩
    · exact ⟨_, rfl, p, _, rfl, .inl hp, fun F hF => ⟨F, rfl, Same.up (Same.refl H) hF, hF, upd_same⟩⟩
    rintro σ H1 ⟨F0, rfl, s1, nF0, hF0⟩
    refine ⟨_, rfl, ?_⟩
    -- until it grows no more
    refine ⟨fun σ H' => ∃ (F : Addr) (T : List Int) (v3 v4 : Option V), σ = [some (.ref l), some (.ref p), some (.ref F), v3, v4] ∧ Same H H' ∧ H F = none ∧ H' F = some (.lst (T.map V.int)) ∧ (∀ k ∈ ms, k ∈ T) ∧ Closed4 (L.map Ru.r) (· ∈ T), ?_, ?_⟩
    · refine ⟨fun m σ H' => ∃ (F : Addr) (T : List Int) (z : Int) (v4 : Option V), m = 2 * (lacking U T).length + (if z < (T.length : Int) then 1 else 0) ∧ σ = [some (.ref l), some (.ref p), some (.ref F), some (.int z), v4] ∧ Same H H' ∧ H F = none ∧ H' F = some (.lst (T.map V.int)) ∧ (∀ k ∈ ms, k ∈ T) ∧ T.length + 8 * (lacking U T).length ≤ 1000 + 64000 ∧ (z < (T.length : Int) ∨ Closed4 (L.map Ru.r) (· ∈ T)), ⟨_, F0, ms, _, none, rfl, rfl, s1, nF0, hF0, fun _ z => z, ?_, .inl (by show (-1 : Int) < _; omega)⟩, ?_⟩
      · have : (lacking U ms).length ≤ U.length := List.length_filter_le _ _
        omega
      rintro m σ H2 ⟨F, T, z, v4, rfl, rfl, s2, nF, hF, sub, bnd, alt⟩
      refine ⟨_, rfl, _, rfl, F, _, rfl, .inl (SqL.of hF), _, _, rfl, rfl, _, rfl, ?_⟩
      rw [List.length_map]
      apply ite2 <;> intro c
      · have c' : z < (T.length : Int) := of_decide_eq_true c
        rw [if_pos c']
        refine ⟨fun σ' H' => ∃ (F' : Addr) (T' : List Int) (v4 : Option V), 2 * (lacking U T').length + (if (T.length : Int) < (T'.length : Int) then 1 else 0) < 2 * (lacking U T).length + 1 ∧ σ' = [some (.ref l), some (.ref p), some (.ref F'), some (.int (T.length : Int)), v4] ∧ Same H H' ∧ H F' = none ∧ H' F' = some (.lst (T'.map V.int)) ∧ (∀ k ∈ ms, k ∈ T') ∧ T'.length + 8 * (lacking U T').length ≤ 1000 + 64000 ∧ ((T.length : Int) < (T'.length : Int) ∨ Closed4 (L.map Ru.r) (· ∈ T')),
          fun σ' H' ⟨F', T', v4, lt, es, s', n', h', sub', bnd', alt'⟩ => ⟨_, lt, F', T', _, v4, rfl, es, s', n', h', sub', bnd', alt'⟩, ?_⟩
        refine ⟨_, rfl, F, _, rfl, .inl (SqL.of hF), ?_⟩
        rw [List.length_map]
        refine ⟨_, rfl, l, rfl, ⟨_, s2.seq hl⟩, for_list (K := K) (a := l) (xs := L.map fun e : Ru => V.ref e.t) (fun i σ' H' => ∃ (F' : Addr) (T' : List Int) (v4 : Option V), σ' = [some (.ref l), some (.ref p), some (.ref F'), some (.int (T.length : Int)), v4] ∧ Same H H' ∧ H F' = none ∧ H' F' = some (.lst (T'.map V.int)) ∧ (∀ k ∈ ms, k ∈ T') ∧ T'.length + 8 * (lacking U T').length ≤ 1000 + 64000 ∧
            ((T' = T ∧ Closed4 ((L.take i).map Ru.r) (· ∈ T)) ∨ (T.length < T'.length ∧ (lacking U T').length < (lacking U T).length)))
          ⟨F, T, v4, rfl, s2, nF, hF, sub, bnd, .inl ⟨rfl, fun x hx => by simp at hx⟩⟩ (fun i σ' H' _ ⟨_, _, _, _, zz, _⟩ => zz.seq hl) ?_ ?_⟩
        · rintro i y σ' H3 hy ⟨F', T', v4, rfl, s3, nF', hF', sub', bnd', alt'⟩
          rw [List.getElem?_map] at hy
          obtain ⟨e, he, rfl⟩ := Option.map_eq_some_iff.mp hy
          have me := List.mem_of_getElem? he
          obtain ⟨p1, q1, ht, hp1, hq1⟩ := hL e me
          have la := lenA e me
          have bT : T'.length ≤ 65000 := by omega
          have tk : (L.take (i + 1)).map Ru.r = (L.take i).map Ru.r ++ [e.r] := by rw [List.take_add_one, he, List.map_append]; rfl
          refine ⟨_, rfl, e.t, _, _, _, rfl, rfl, same_tup s3 ht, at0 _ _, _, rfl, p1, F', e.r.1, T', rfl, s3.seq hp1, SqL.of hF', by omega, fun H4 q4 s4 nq4 hq4 => ?_⟩
          refine ⟨Nat.zero_le _, fun d hd => ?_⟩
          have s5 : Same H4 (upd H4 d (.lst [])) := Same.up (Same.refl H4) hd
          have dd : q4 ≠ d := ne_of_none hq4 hd
          refine ⟨rowD (lacking e.r.1 T'), rowD [], .lst (SqL.of (by rw [upd_ne dd]; exact hq4)) (dpInts _), .lst (SqL.of (xs := []) upd_same) .nil, shInts _, shInts [], _, rfl, ?_⟩
          rw [eqv_row]
          generalize upd H4 d (.lst []) = H5 at s5
          have s35 := s4.trans s5
          have hF5 := s35 _ _ hF'
          refine ite2 (fun c1 => ?_) (fun c1 => ?_)
          · have none1 : lacking e.r.1 T' = [] := of_decide_eq_true c1
            have s05 := s3.trans s35
            refine ⟨_, rfl, _, rfl, e.t, _, _, _, rfl, rfl, same_tup s05 ht, at1 _ _, _, rfl, q1, F', e.r.2, T', rfl, s05.seq hq1, SqL.of hF5, by omega, fun H6 q6 s6 nq6 hq6 => ?_⟩
            have ll : (lacking e.r.2 T').length ≤ 8 := Nat.le_trans (List.length_filter_le _ _) la.2
            refine ⟨F', q6, _, _, rfl, rfl, s6 _ _ hF5, hq6, by rw [List.length_map, List.length_map, sizeLine_eq]; omega, fun F2 hF2 => ?_⟩
            have s06 := (s05.trans s6).trans (Same.up (o := .lst (T'.map V.int ++ (lacking e.r.2 T').map V.int)) (Same.refl H6) hF2)
            have up : ∀ b ∈ T', b ∈ T' ++ lacking e.r.2 T' := fun b hb => List.mem_append_left _ hb
            have lo : (lacking U (T' ++ lacking e.r.2 T')).length ≤ (lacking U T').length := lack_le (r := (U, [])) up
            have grow : lacking e.r.2 T' ≠ [] → (lacking U (T' ++ lacking e.r.2 T')).length < (lacking U T').length := fun ne => by
              obtain ⟨b, hb⟩ := List.exists_mem_of_ne_nil _ ne
              have hb2 := lacking_mem.mp hb
              exact lack_lt (r := (U, [])) up (inU e me b hb2.1) hb2.2 (List.mem_append_right _ hb)
            refine ⟨F2, T' ++ lacking e.r.2 T', _, rfl, s06, (s05.trans s6).free hF2, by rw [upd_same, List.map_append], fun j hj => List.mem_append_left _ (sub' j hj), ?_, ?_⟩
            · by_cases ne : lacking e.r.2 T' = []
              · rw [ne, List.append_nil]
                exact bnd'
              · have := grow ne
                rw [List.length_append]
                omega
            · by_cases ne : lacking e.r.2 T' = []
              · rw [ne, List.append_nil]
                rcases alt' with ⟨e1, e2⟩ | z
                · refine .inl ⟨e1, fun x hx => ?_⟩
                  rw [tk] at hx
                  rcases (List.mem_append).1 hx with y | y
                  · exact e2 x y
                  · rw [List.mem_singleton.mp y]
                    intro _ b hb
                    exact Decidable.byContradiction fun q => by
                      have := lacking_mem.mpr ⟨hb, (by rw [e1]; exact q : b ∉ T')⟩
                      rw [ne] at this
                      cases this
                · exact .inr z
              · have g := grow ne
                have pos : 0 < (lacking e.r.2 T').length := List.length_pos_iff.mpr ne
                rw [List.length_append]
                rcases alt' with ⟨e1, _⟩ | ⟨z1, z2⟩
                · subst e1
                  exact .inr ⟨by omega, g⟩
                · exact .inr ⟨by omega, by omega⟩
          · have some1 : lacking e.r.1 T' ≠ [] := fun q => c1 (decide_eq_true q)
            refine ⟨F', T', _, rfl, s3.trans s35, nF', hF5, sub', bnd', ?_⟩
            rcases alt' with ⟨e1, e2⟩ | z
            · refine .inl ⟨e1, fun x hx => ?_⟩
              rw [tk] at hx
              rcases (List.mem_append).1 hx with y | y
              · exact e2 x y
              · rw [List.mem_singleton.mp y]
                intro ha
                obtain ⟨b, hb⟩ := List.exists_mem_of_ne_nil _ some1
                have hb2 := lacking_mem.mp hb
                rw [e1] at hb2
                exact absurd (ha b hb2.1) hb2.2
            · exact .inr z
        · rintro σ' H3 ⟨F', T', v4, rfl, s3, nF', hF', sub', bnd', alt'⟩
          rw [List.length_map, List.take_length] at alt'
          refine ⟨F', T', v4, ?_, rfl, s3, nF', hF', sub', bnd', ?_⟩
          · rcases alt' with ⟨e1, _⟩ | ⟨g1, g2⟩
            · subst e1
              rw [if_neg (by omega)]
              omega
            · split <;> omega
          · rcases alt' with ⟨e1, e2⟩ | ⟨g1, g2⟩
            · subst e1
              exact .inr e2
            · exact .inl (by omega)
      · have c' : ¬ z < (T.length : Int) := fun q => c (decide_eq_true q)
        exact ⟨F, T, _, v4, rfl, s2, nF, hF, sub, alt.resolve_left c'⟩
    rintro σ H2 ⟨F, T, v3, v4, rfl, s2, nF, hF, sub, clo⟩
    exact ⟨_, rfl, k H2 F T s2 nF hF sub clo⟩
end
end Mb

namespace Mb
open L2 PySem PySem.Spec PyProof.Rows
/-- a rule's pair with lists of its own, none of them at D -/
def RuMt (H : Hp) (D : Addr) (e : Ru) : Prop := ∃ p q : Addr, H e.t = some (.tup [.ref p, .ref q]) ∧ H p = some (.lst (e.r.1.map V.int)) ∧ H q = some (.lst (e.r.2.map V.int)) ∧ p ≠ D ∧ q ≠ D
theorem RuMt.same {H H1 : Hp} {D : Addr} {e : Ru} (h : RuMt H D e) (s : Same H H1) : RuMt H1 D e := by
  obtain ⟨p, q, h1, h2, h3, h4, h5⟩ := h
  exact ⟨p, q, s _ _ h1, s _ _ h2, s _ _ h3, h4, h5⟩
theorem RuMt.put {H : Hp} {D : Addr} {e : Ru} {xs : List V} {o : HO} (h : RuMt H D e) (hD : H D = some (.lst xs)) : RuMt (upd H D o) D e := by
  obtain ⟨p, q, h1, h2, h3, h4, h5⟩ := h
  exact ⟨p, q, by rw [upd_ne (ne_of h1 hD (by intro z; cases z))]; exact h1, by rw [upd_ne h4]; exact h2, by rw [upd_ne h5]; exact h3, h4, h5⟩
theorem RuMt.ok {K : PySem.W.Frag} {H : Hp} {D : Addr} {e : Ru} (h : RuMt H D e) : RuOk K H H e := by
  obtain ⟨p, q, h1, h2, h3, _⟩ := h
  exact ⟨p, q, SqT.of h1, SqL.of h2, SqL.of h3⟩
theorem ru_pairs {K : PySem.W.Frag} {H : Hp} {l : Addr} {L : List Ru} (hl : SqL K H l (L.map fun e : Ru => V.ref e.t)) (h : ∀ e ∈ L, RuOk K H H e) : PairsR K H l (L.map Ru.r) := by
  refine ⟨L.map Ru.t, by rw [List.map_map]; exact hl, by rw [List.length_map, List.length_map], fun i t e => ?_⟩
  rw [List.getElem?_map] at e
  obtain ⟨u, hu, rfl⟩ := Option.map_eq_some_iff.mp e
  obtain ⟨p, q, h1, h2, h3⟩ := h u (List.mem_of_getElem? hu)
  exact ⟨p, q, u.r.1, u.r.2, by rw [List.getElem?_map, hu]; rfl, h1, h2, h3⟩
section
variable {P : Program} {w : World} {K : PySem.W.Frag} {mg : Str → Option Value} {base : Heap} {C CS CM CT CN CE : Addr}
/-! ### the rules that the script draws -/
def spRulesBy4 (K : PySem.W.Frag) : Sp := fun vs H Q _ => ∃ (a : Addr) (zs : List Int) (n : Int), vs = [.ref a, .int n] ∧ SqL K H a (zs.map V.int) ∧ 0 < n ∧
  ∀ (H' : Hp) (q D : Addr) (L : List Ru), Same H H' → H q = none → H' q = some (.lst (L.map fun e : Ru => V.ref e.t)) → (∀ e ∈ L, RuMt H' D e) → L.length ≤ 28 → (∀ e ∈ L, e.r.1.length ≤ 8 ∧ e.r.2.length ≤ 8) → Q (.ref q) H'
abbrev nRulesBy4 : List Str := ["_law_script", "_law_many", "_law_rules", "_law_k", "_law_cell", "_law_rule"]
theorem scRulesBy4 : FnScope nRulesBy4 ["_law_script", "_law_many"] (defScope s_law_rules_by) := ⟨rfl, rfl, rfl, by decide +kernel, rfl, by decide +kernel, by decide +kernel⟩
abbrev teChain4 : TE := tTup (tCons (tLst (tCons (tOp (rI0 fun i j => V.int (i - j)) (tC (V.int 14)) (tVar 3)) tNil)) (tCons (tLst (tCons (tOp (rI0 fun i j => V.int (i - j)) (tC (V.int 15)) (tVar 3)) tNil)) tNil))
theorem ok_rulesBy4 {f fC fS : Addr} {fd fdC fdS : FuncData} (F : Fun K "_law_rules_by" "_law_rules_by" s_law_rules_by f fd) (T : LTxt K mg)
    (GC : FnOk P w K mg base CX0 1 fC fdC ["_law_script", "_law_k"] (spCell K)) (gC : mg "_law_cell_at" = some (.ref fC)) (kC : PySem.W.keepIn K (.ref fC) = true) (bC : Binds K fdC ["_law_script", "_law_k"] [])
    (GS : FnOk P w K mg base CX0 1 fS fdS pSome4 spSome4) (gS : mg "_law_some" = some (.ref fS)) (kS : PySem.W.keepIn K (.ref fS) = true) (bS : Binds K fdS pSome4 []) :
    FnOk P w K mg base CX0 2 f fd ["_law_script", "_law_many"] (spRulesBy4 K) := by
  refine F.ok scRulesBy4 (fun vs H Q E h => ?_) (fun cdv A outer s H vs Q E hr h => ?_)
  · obtain ⟨a, zs, n, rfl, _⟩ := h
    rfl
  · obtain ⟨a, zs, n, rfl, hS, n0, k⟩ := h
    refine ⟨_, C8.pss_cut (ps_set (i := 2) scRulesBy4.nd rfl (Or.inl rfl) (pe_lst pa_nil))
      (C8.pss_cut (ps_for PassesOwn.never rfl (pi_range1 (by rfl) T.range (pa_cons (pe_op op_mod (pe_call GC hr (by rfl) gC kC bC .nil pass0 (pa_cons (pv 0) (pa_cons pe_int pa_nil))) pe_int) pa_nil)) (pg_name (i := 3) scRulesBy4.nd rfl (Or.inl rfl))
        (pss_cons (ps_set (i := 4) scRulesBy4.nd rfl (Or.inl rfl) (pe_call GC hr (by rfl) gC kC bC .nil pass0 (pa_cons (pv 0) (pa_cons (pe_op op_add pe_int (pe_op op_mul pe_int (pv 3))) pa_nil))))
        (C8.pss_cut (ps_set (i := 5) scRulesBy4.nd rfl (Or.inl rfl) (pe_tup (pa_cons (pe_call GS hr (by rfl) gS kS bS .nil pass0 (pa_cons (pv 4) (pa_cons pe_int (pa_cons (pv 1) pa_nil)))) (pa_cons (pe_call GS hr (by rfl) gS kS bS .nil pass0 (pa_cons (pe_call GC hr (by rfl) gC kC bC .nil pass0 (pa_cons (pv 0) (pa_cons (pe_op op_add pe_int (pe_op op_mul pe_int (pv 3))) pa_nil))) (pa_cons pe_int (pa_cons (pv 1) pa_nil)))) pa_nil))))
        (C8.pss_cut (ps_if (PW.pt (pw_and (pt_cmpR op_eq (pe_op op_mod (pe_call GC hr (by rfl) gC kC bC .nil pass0 (pa_cons (pv 0) (pa_cons pe_int pa_nil))) pe_int) pe_int (nomark _)) (pw_and1 (pt_cmpR (op_neD hr.units) (pv 2) (pe_lst pa_nil) (nomark _)))))
            (pss_one (ps_set (i := 5) scRulesBy4.nd rfl (Or.inl rfl) (pe_tup (pa_cons (pe_ix ix_tup (pv 5) pe_int (fun _ _ => rfl)) (pa_cons (pe_callTy call_list_of (by rfl) T.list PyProof.Rows.boot_list (pa_cons (pe_ix ix_tup (pe_ix ix_list (pv 2) (pe_un un_neg pe_int) (fun _ _ => rfl)) pe_int (fun _ _ => rfl)) pa_nil)) pa_nil))))) pss_nil)
        (pss_one (ps_expr (pe_bm PySem.F.plainAttrs_list PySem.F.slot_list_append PySem.F.type_list_append mt_append (pv 2) (pa_cons (pv 5) pa_nil))))))))
      (C8.pss_cut (ps_if (pt_cmpR op_eq (pe_op op_mod (pe_op op_fdivN (pe_call GC hr (by rfl) gC kC bC .nil pass0 (pa_cons (pv 0) (pa_cons pe_int pa_nil))) pe_int) pe_int) pe_int (nomark _))
          (pss_one (ps_set (i := 2) scRulesBy4.nd rfl (Or.inl rfl) (pe_op op_cat (pv 2) (pe_lc (own := [("_law_k", 3)]) (g := gName 3) (tt := tYes) (te := teChain4) rfl scRulesBy4.nd (pi_range1 (by rfl) T.range (pa_cons pe_int pa_nil)) (blkOk_by (N := nRulesBy4) (sc := defScope s_law_rules_by) (by decide +kernel)) (fun _ _ _ _ _ => pg_name (i := 3) scRulesBy4.nd rfl (Or.inl rfl)) (fun _ _ _ _ _ => pts_nil)
            (fun _ _ _ _ _ => pe_tup (pa_cons (pe_lst (pa_cons (pe_op op_sub pe_int (pv 3)) pa_nil)) (pa_cons (pe_lst (pa_cons (pe_op op_sub pe_int (pv 3)) pa_nil)) pa_nil))))))) pss_nil)
      (pss_one (ps_ret (pv 2))))), ?_⟩
    have at0 : ∀ y z : V, atI [y, z] 0 = some y := fun _ _ => rfl
    have c13 := Int.emod_lt_of_pos (cellAt zs 0) (show (0 : Int) < 13 by decide)
    have c13' := Int.emod_nonneg (cellAt zs 0) (show (13 : Int) ≠ 0 by decide)
    -- none yet
    refine ⟨fun σ H' => ∃ D : Addr, σ = [some (.ref a), some (.int n), some (.ref D), none, none, none] ∧ Same H H' ∧ H D = none ∧ H' D = some (.lst []), ?_, ?_⟩
    · exact ⟨Nat.zero_le _, fun D hD => ⟨D, rfl, Same.up (Same.refl H) hD, hD, upd_same⟩⟩
    rintro σ H1 ⟨D, rfl, s1, nD, hD1⟩
    -- the drawn ones
    refine ⟨fun σ H' => ∃ (L : List Ru) (v3 v4 v5 : Option V), σ = [some (.ref a), some (.int n), some (.ref D), v3, v4, v5] ∧ Same H H' ∧ H' D = some (.lst (L.map fun e : Ru => V.ref e.t)) ∧ (∀ e ∈ L, RuMt H' D e ∧ e.r.1.length ≤ 8 ∧ e.r.2.length ≤ 8) ∧ L.length ≤ 13, ?_, ?_⟩
    · refine ⟨_, rfl, a, zs, _, rfl, s1.seq hS, by decide, _, _, rfl, rfl, (by show (0 : Int) < 13; decide), cellAt zs 0 % 13, rfl, by omega, by omega, for_range (lo := 0) (n := (cellAt zs 0 % 13).toNat) (fun i σ H' => ∃ (L : List Ru) (v3 v4 v5 : Option V), σ = [some (.ref a), some (.int n), some (.ref D), v3, v4, v5] ∧ Same H H' ∧ H' D = some (.lst (L.map fun e : Ru => V.ref e.t)) ∧ (∀ e ∈ L, RuMt H' D e ∧ e.r.1.length ≤ 8 ∧ e.r.2.length ≤ 8) ∧ L.length = i)
        ⟨[], none, none, none, rfl, s1, hD1, (fun e he => by cases he), rfl⟩ ?_ ?_⟩
      · rintro i σ H2 hi ⟨L, v3, v4, v5, rfl, s2, hD2, hL, len⟩
        refine ⟨_, rfl, _, rfl, _, _, rfl, rfl, .inl ⟨by decide, by decide⟩, _, _, rfl, rfl, a, zs, _, rfl, s2.seq hS, by omega, ?_⟩
        -- a rule
        refine ⟨fun σ' H' => ∃ (t p q : Addr) (xs ys : List Int) (v3 v4 : Option V), σ' = [some (.ref a), some (.int n), some (.ref D), v3, v4, some (.ref t)] ∧ Same H2 H' ∧ H' t = some (.tup [.ref p, .ref q]) ∧ H' p = some (.lst (xs.map V.int)) ∧ H' q = some (.lst (ys.map V.int)) ∧ xs.length ≤ 8 ∧ ys.length ≤ 8 ∧ (p ≠ D ∧ q ≠ D), ?_, ?_⟩
        · refine ⟨_, rfl, _, rfl, _, 4, n, rfl, by decide, by decide, n0, fun H3 p xs s3 np hp lx => ?_⟩
          refine ⟨_, rfl, _, rfl, _, _, rfl, rfl, .inl ⟨by decide, by decide⟩, _, _, rfl, rfl, a, zs, _, rfl, (s2.trans s3).seq hS, by omega, _, rfl, _, 4, n, rfl, by decide, by decide, n0, fun H4 q ys s4 nq hq ly => ⟨(by show 2 ≤ sizeLine; decide), fun t ht => ?_⟩⟩
          have s5 : Same H4 (upd H4 t (.tup [.ref p, .ref q])) := Same.up (Same.refl H4) ht
          exact ⟨t, p, q, xs, ys, _, _, rfl, (s3.trans s4).trans s5, upd_same, (s4.trans s5) _ _ hp, s5 _ _ hq, lx, ly, Ne.symm (ne_of_none hD2 np), Ne.symm (ne_of_none (s3 _ _ hD2) nq)⟩
        rintro σ' H3 ⟨t, p, q, xs, ys, v3, v4, rfl, s3, ht, hp, hq, lx, ly, pD, qD⟩
        have s23 := s2.trans s3
        have hD3 := s3 _ _ hD2
        refine ⟨fun σ' H' => ∃ (t p q : Addr) (xs ys : List Int) (v3 v4 : Option V), σ' = [some (.ref a), some (.int n), some (.ref D), v3, v4, some (.ref t)] ∧ Same H2 H' ∧ H' t = some (.tup [.ref p, .ref q]) ∧ H' p = some (.lst (xs.map V.int)) ∧ H' q = some (.lst (ys.map V.int)) ∧ xs.length ≤ 8 ∧ ys.length ≤ 8 ∧ (p ≠ D ∧ q ≠ D), ?_, ?_⟩
        · have keep : ∀ {G : Hp}, Same H3 G → ∃ (t' p' q' : Addr) (xs' ys' : List Int) (v3' v4' : Option V), [some (V.ref a), some (.int n), some (.ref D), v3, v4, some (.ref t)] = [some (V.ref a), some (.int n), some (.ref D), v3', v4', some (.ref t')] ∧ Same H2 G ∧ G t' = some (.tup [.ref p', .ref q']) ∧ G p' = some (.lst (xs'.map V.int)) ∧ G q' = some (.lst (ys'.map V.int)) ∧ xs'.length ≤ 8 ∧ ys'.length ≤ 8 ∧ (p' ≠ D ∧ q' ≠ D) := fun {G} sg => ⟨t, p, q, xs, ys, v3, v4, rfl, s3.trans sg, sg _ _ ht, sg _ _ hp, sg _ _ hq, lx, ly, pD, qD⟩
          refine ⟨_, rfl, a, zs, _, rfl, s23.seq hS, by decide, _, _, rfl, rfl, (by show (0 : Int) < 3; decide), rfl, _, rfl, ?_⟩
          refine ite2 (fun _ => ?_) (fun _ => iteF (keep (Same.refl H3)))
          refine ⟨_, rfl, Nat.zero_le _, fun d hd => ?_⟩
          have s4 : Same H3 (upd H3 d (.lst [])) := Same.up (Same.refl H3) hd
          refine ⟨pairsD (L.map Ru.r), pairsD [], dpPairs (ru_pairs (SqL.of (s4 _ _ hD3)) fun e he => (((hL e he).1.same s3).same s4).ok), .lst (SqL.of (xs := []) upd_same) .nil, shPairs _, shPairs [], _, rfl, ?_⟩
          rw [eqv_pairs]
          refine ite2 (fun c2 => ?_) (fun _ => keep s4)
          generalize upd H3 d (.lst []) = H5 at s4
          rcases List.eq_nil_or_concat L with e0 | ⟨M, e, e0⟩
          · rw [e0] at c2
            simp at c2
          rw [List.concat_eq_append] at e0
          have me : e ∈ L := by rw [e0]; exact List.mem_append_right _ List.mem_cons_self
          obtain ⟨pe', qe, h1, h2, h3, _⟩ := ((hL e me).1.same s3).same s4
          have last : atI (L.map fun e : Ru => V.ref e.t) (-1) = some (.ref e.t) := by
            rw [e0, List.map_append]
            exact atI_last _ _
          refine ⟨_, rfl, t, _, _, _, rfl, rfl, SqT.of (s4 _ _ ht), at0 _ _, _, rfl, _, rfl, D, _, _, _, rfl, rfl, SqL.of (s4 _ _ hD3), last, e.t, _, _, _, rfl, rfl, SqT.of h1, at0 _ _, pe', _, rfl, .inl (SqL.of h2), fun q2 hq2 => ⟨(by show 2 ≤ sizeLine; decide), fun t2 ht2 => ?_⟩⟩
          have s6 : Same H5 (upd H5 q2 (.lst (e.r.1.map V.int))) := Same.up (Same.refl H5) hq2
          have g6 := upd_same (H := H5) (a := q2) (o := HO.lst (e.r.1.map V.int))
          have s7 := Same.up (o := .tup [V.ref p, .ref q2]) (Same.refl (upd H5 q2 (.lst (e.r.1.map V.int)))) ht2
          exact ⟨t2, p, q2, xs, e.r.1, _, _, rfl, ((s3.trans s4).trans s6).trans s7, upd_same, ((s4.trans s6).trans s7) _ _ hp, s7 _ _ g6, lx, (hL e me).2.1, pD, Ne.symm (ne_of_none (s4 _ _ hD3) hq2)⟩
        rintro σ' H4 ⟨t, p, q, xs, ys, v3, v4, rfl, s4, ht, hp, hq, lx, ly, pD, qD⟩
        have hD4 := s4 _ _ hD2
        have ru : RuMt H4 D ⟨t, (xs, ys)⟩ := ⟨p, q, ht, hp, hq, pD, qD⟩
        refine ⟨_, rfl, .inl ⟨rfl, _, SqL.of hD4⟩, _, rfl, D, _, _, rfl, rfl, hD4, by rw [List.length_map, sizeLine_eq]; omega, L ++ [⟨t, (xs, ys)⟩], _, _, _, rfl, Same.own (s2.trans s4) nD, by rw [upd_same, List.map_append]; rfl, fun e he => ?_, by rw [List.length_append, List.length_singleton, len]⟩
        rcases (List.mem_append).1 he with z | z
        · exact ⟨((hL e z).1.same s4).put hD4, (hL e z).2⟩
        · rw [(List.mem_singleton).1 z]
          exact ⟨ru.put hD4, lx, ly⟩
      · rintro σ H2 ⟨L, v3, v4, v5, rfl, s2, hD2, hL, len⟩
        exact ⟨L, v3, v4, v5, rfl, s2, hD2, hL, by omega⟩
    rintro σ H2 ⟨L, v3, v4, v5, rfl, s2, hD2, hL, len⟩
    -- a chain behind them
    refine ⟨fun σ H' => ∃ (q : Addr) (L : List Ru), σ = [some (.ref a), some (.int n), some (.ref q), v3, v4, v5] ∧ Same H H' ∧ H q = none ∧ H' q = some (.lst (L.map fun e : Ru => V.ref e.t)) ∧ (∀ e ∈ L, RuMt H' D e ∧ e.r.1.length ≤ 8 ∧ e.r.2.length ≤ 8) ∧ L.length ≤ 28, ?_, ?_⟩
    · refine ⟨_, rfl, a, zs, _, rfl, s2.seq hS, by decide, _, _, rfl, rfl, ⟨by decide, by decide⟩, _, _, rfl, rfl, (by show (0 : Int) < 8; decide), rfl, _, rfl, ?_⟩
      refine ite2 (fun _ => ?_) (fun _ => ⟨D, L, rfl, s2, nD, hD2, hL, by omega⟩)
      refine ⟨_, rfl, 15, rfl, by decide, by decide, fun B hB => ?_⟩
      have DB : D ≠ B := ne_of_none hD2 hB
      refine lc_range (lo := 0) (n := 15) (fun i H' => ∃ M : List Ru, M.length = i ∧ Same H2 H' ∧ H' B = some (.lst (M.map fun e : Ru => V.ref e.t)) ∧ ∀ e ∈ M, RuMt H' B e ∧ RuMt H' D e ∧ e.r.1.length ≤ 8 ∧ e.r.2.length ≤ 8) ⟨[], rfl, Same.up (Same.refl H2) hB, upd_same, fun e he => by cases he⟩ ?_ ?_
      · rintro i H3 hi ⟨M, lm, s3, hB3, hM⟩
        refine ⟨rfl, _, rfl, _, _, rfl, rfl, (by show 1 ≤ sizeLine; decide), fun p hp => ?_⟩
        have s4 : Same H3 (upd H3 p (.lst [V.int (14 - (0 + (i : Int)))])) := Same.up (Same.refl H3) hp
        have g4 := upd_same (H := H3) (a := p) (o := HO.lst [V.int (14 - (0 + (i : Int)))])
        refine ⟨_, rfl, _, _, rfl, rfl, (by show 1 ≤ sizeLine; decide), fun q hq => ?_⟩
        have s5 := Same.up (o := .lst [V.int (15 - (0 + (i : Int)))]) (Same.refl (upd H3 p (.lst [V.int (14 - (0 + (i : Int)))]))) hq
        have g5 := upd_same (H := upd H3 p (.lst [V.int (14 - (0 + (i : Int)))])) (a := q) (o := HO.lst [V.int (15 - (0 + (i : Int)))])
        refine ⟨(by show 2 ≤ sizeLine; decide), fun t ht => ?_⟩
        have s6 := Same.up (o := .tup [V.ref p, .ref q]) (Same.refl (upd (upd H3 p (.lst [V.int (14 - (0 + (i : Int)))])) q (.lst [V.int (15 - (0 + (i : Int)))]))) ht
        have g6 := upd_same (H := upd (upd H3 p (.lst [V.int (14 - (0 + (i : Int)))])) q (.lst [V.int (15 - (0 + (i : Int)))])) (a := t) (o := HO.tup [V.ref p, .ref q])
        have g4' := s6 _ _ (s5 _ _ g4)
        have g5' := s6 _ _ g5
        have s36 := (s4.trans s5).trans s6
        have nq : H3 q = none := s4.free hq
        refine ⟨_, s36 _ _ hB3, by rw [List.length_map, sizeLine_eq]; omega, M ++ [⟨t, ([14 - (0 + (i : Int))], [15 - (0 + (i : Int))])⟩], by rw [List.length_append, List.length_singleton, lm], Same.own (s3.trans s36) hB, by rw [upd_same, List.map_append]; rfl, fun e he => ?_⟩
        have hB6 := s36 _ _ hB3
        have offD : ∀ {e : Ru} {G : Hp}, RuMt G D e → RuMt G B e → ∀ {xs : List V} {o : HO}, G B = some (.lst xs) → RuMt (upd G B o) D e := fun {e G} hd hb {xs o} hg => by
          obtain ⟨p', q', h1, h2, h3, h4, h5⟩ := hd
          obtain ⟨p'', q'', k1, _, _, k4, k5⟩ := hb
          rw [h1] at k1
          cases k1
          exact ⟨p', q', by rw [upd_ne (ne_of h1 hg (by intro z; cases z))]; exact h1, by rw [upd_ne k4]; exact h2, by rw [upd_ne k5]; exact h3, h4, h5⟩
        rcases (List.mem_append).1 he with z | z
        · obtain ⟨m1, m2, m3⟩ := hM e z
          exact ⟨(m1.same s36).put hB6, offD (m2.same s36) (m1.same s36) hB6, m3⟩
        · rw [(List.mem_singleton).1 z]
          have hD3 := s3 _ _ hD2
          have n1 : RuMt _ B ⟨t, ([14 - (0 + (i : Int))], [15 - (0 + (i : Int))])⟩ := ⟨p, q, g6, g4', g5', Ne.symm (ne_of_none hB3 hp), Ne.symm (ne_of_none hB3 nq)⟩
          have n2 : RuMt _ D ⟨t, ([14 - (0 + (i : Int))], [15 - (0 + (i : Int))])⟩ := ⟨p, q, g6, g4', g5', Ne.symm (ne_of_none hD3 hp), Ne.symm (ne_of_none hD3 nq)⟩
          exact ⟨n1.put hB6, offD n2 n1 hB6, (by show 1 ≤ 8; decide), (by show 1 ≤ 8; decide)⟩
      · rintro H3 ⟨M, lm, s3, hB3, hM⟩
        have hD3 := s3 _ _ hD2
        refine ⟨D, B, _, _, rfl, rfl, hD3, hB3, by rw [List.length_map, List.length_map, sizeLine_eq]; omega, fun q hq => ⟨q, L ++ M, rfl, (s2.trans s3).trans (Same.up (Same.refl H3) hq), (s2.trans s3).free hq, by rw [upd_same, List.map_append], fun e he => ?_, by rw [List.length_append]; omega⟩⟩
        have s4 : Same H3 (upd H3 q (.lst ((L.map fun e : Ru => V.ref e.t) ++ M.map fun e : Ru => V.ref e.t))) := Same.up (Same.refl H3) hq
        rcases (List.mem_append).1 he with z | z
        · exact ⟨((hL e z).1.same s3).same s4, (hL e z).2⟩
        · exact ⟨(hM e z).2.1.same s4, (hM e z).2.2⟩
    rintro σ H3 ⟨q, L', rfl, s3, nq, hq, hL', len'⟩
    exact ⟨_, rfl, k H3 q D L' s3 nq hq (fun e he => (hL' e he).1) len' fun e he => (hL' e he).2⟩
end
end Mb

namespace Mb
open L2 PySem PySem.Spec PyProof.Rows
def rListOf (K : PySem.W.Frag) : List V → Hp → VK → Prop := fun xs H Q => ∃ p ys, xs = [V.ref p] ∧ (SqL K H p ys ∨ SqT K H p ys) ∧ ∀ l : Addr, H l = none → Q (V.ref l) (upd H l (.lst ys))
theorem lacking_none {ns ms : List Int} (h : ∀ k ∈ ns, k ∈ ms) : lacking ns ms = [] := List.filter_eq_nil_iff.mpr fun k hk => by simp [h k hk]
theorem none_lacking {ns ms : List Int} (h : lacking ns ms = []) : ∀ k ∈ ns, k ∈ ms := fun k hk => Decidable.byContradiction fun z => by
  have := lacking_mem.mpr ⟨hk, z⟩
  rw [h] at this
  cases this
theorem flat_len : ∀ M : List Ru, (∀ e ∈ M, e.r.2.length ≤ 8) → ((M.map Ru.r).flatMap fun r => r.2).length ≤ 8 * M.length
  | [], _ => Nat.le_refl _
  | e :: M, h => by
    have h1 := flat_len M fun u hu => h u (List.mem_cons_of_mem _ hu)
    have h2 := h e List.mem_cons_self
    rw [List.map_cons, List.flatMap_cons, List.length_append, List.length_cons]
    omega
theorem Grown4.short {rs : List Rule4} {ms S : List Int} (h : Grown4 rs ms S) : S.length ≤ (ms ++ rs.flatMap fun r => r.2).length := by
  refine nodup_len (h.rise.imp fun {a b} q => by omega) fun k hk => (h.mem k).mp hk (· ∈ ms ++ rs.flatMap fun r => r.2) (fun a ha => List.mem_append_left _ ha) fun r hr _ b hb => List.mem_append_right _ (List.mem_flatMap.mpr ⟨r, hr, hb⟩)
section
variable {P : Program} {w : World} {K : PySem.W.Frag} {mg : Str → Option Value} {base : Heap} {C CS CM CT CN CE : Addr}
def spLaw (K : PySem.W.Frag) (Ts : List Addr) : Sp := fun vs H Q _ => ∃ (a : Addr) (zs : List Int), vs = [.ref a] ∧ SqL K H a (zs.map V.int) ∧ zs.length ≤ 1000 ∧ Tabs Ts H ∧ ∀ H', Q (.bl true) H'
abbrev nLaw : List Str := ["_law_script", "_law_many", "_law_rules", "_law_marks", "_law_rule", "_law_handed", "_law_kept", "_law_found", "_law_k", "_law_other", "_law_due"]
theorem scLaw : FnScope nLaw ["_law_script"] (defScope sLaw) := ⟨rfl, rfl, rfl, by decide +kernel, rfl, by decide +kernel, by decide +kernel⟩
abbrev teCopy4 (K : PySem.W.Frag) : TE := tTup (tCons (tCB (rListOf K) (tCons (tOp (rIxT K) (tVar 4) (tC (V.int 0))) tNil)) (tCons (tCB (rListOf K) (tCons (tOp (rIxT K) (tVar 4) (tC (V.int 1))) tNil)) tNil))
theorem ok_law {f fC fB fS fG fW fX fP : Addr} {fd fdC fdB fdS fdG fdW fdX fdP : FuncData} {Ts : List Addr} (F : Fun K "law" "law" sLaw f fd) (L : LTxt K mg)
    (GC : FnOk P w K mg base CX0 1 fC fdC ["_law_script", "_law_k"] (spCell K)) (gC : mg "_law_cell_at" = some (.ref fC)) (kC : PySem.W.keepIn K (.ref fC) = true) (bC : Binds K fdC ["_law_script", "_law_k"] [])
    (GB : FnOk P w K mg base CX0 2 fB fdB ["_law_script", "_law_many"] (spRulesBy4 K)) (gB : mg "_law_rules_by" = some (.ref fB)) (kB : PySem.W.keepIn K (.ref fB) = true) (bB : Binds K fdB ["_law_script", "_law_many"] [])
    (GS : FnOk P w K mg base CX0 1 fS fdS pSome4 spSome4) (gS : mg "_law_some" = some (.ref fS)) (kS : PySem.W.keepIn K (.ref fS) = true) (bS : Binds K fdS pSome4 [])
    (GG : FnOk P w K mg base CX0 2 fG fdG ["rules", "marks"] (spGrown K)) (gG : mg "grown" = some (.ref fG)) (kG : PySem.W.keepIn K (.ref fG) = true) (bG : Binds K fdG ["rules", "marks"] [])
    (GW : FnOk P w K mg base CX0 1 fW fdW ["_law_found"] spWhole) (gW : mg "_law_whole" = some (.ref fW)) (kW : PySem.W.keepIn K (.ref fW) = true) (bW : Binds K fdW ["_law_found"] [])
    (GX : FnOk P w K mg base CX0 1 fX fdX ["_law_one", "_law_other"] (spWithout K)) (gX : mg "_law_lacks" = some (.ref fX)) (kX : PySem.W.keepIn K (.ref fX) = true) (bX : Binds K fdX ["_law_one", "_law_other"] [])
    (GP : FnOk P w K mg base CX0 2 fP fdP pPut4 (spPut4 K)) (gP : mg "_law_put_to" = some (.ref fP)) (kP : PySem.W.keepIn K (.ref fP) = true) (bP : Binds K fdP pPut4 []) :
    FnOk P w K mg base CX0 3 f fd ["_law_script"] (spLaw K Ts) := by
  refine F.ok scLaw (fun vs H Q E h => ?_) (fun cdv A outer s H vs Q E hr h => ?_)
  · obtain ⟨a, zs, rfl, _⟩ := h
    rfl
  · obtain ⟨a, zs, rfl, hS, hlen, tb, k⟩ := h
    have hr1 := hr.mono (j := 1) (by decide)
    refine ⟨_, pss_cons (ps_set (i := 1) scLaw.nd rfl (Or.inl rfl) pe_int)
      (C8.pss_cut (ps_if (pt_cmpR op_eq (pe_op op_mod (pe_op op_fdivN (pe_call GC hr1 (by rfl) gC kC bC .nil pass0 (pa_cons (pv 0) (pa_cons pe_int pa_nil))) pe_int) pe_int) pe_int (nomark _)) (pss_one (ps_set (i := 1) scLaw.nd rfl (Or.inl rfl) pe_int)) pss_nil)
      (C8.pss_cut (ps_set (i := 2) scLaw.nd rfl (Or.inl rfl) (pe_call GB hr (by rfl) gB kB bB .nil pass0 (pa_cons (pv 0) (pa_cons (pv 1) pa_nil))))
      (C8.pss_cut (ps_set (i := 3) scLaw.nd rfl (Or.inl rfl) (pe_call GS hr1 (by rfl) gS kS bS .nil pass0 (pa_cons (pe_call GC hr1 (by rfl) gC kC bC .nil pass0 (pa_cons (pv 0) (pa_cons pe_int pa_nil))) (pa_cons pe_int (pa_cons (pv 1) pa_nil)))))
      (C8.pss_cut (ps_if (pt_cmpR op_eq (pe_op op_mod (pe_op op_fdivN (pe_call GC hr1 (by rfl) gC kC bC .nil pass0 (pa_cons (pv 0) (pa_cons pe_int pa_nil))) pe_int) pe_int) pe_int (nomark _)) (pss_one (ps_set (i := 3) scLaw.nd rfl (Or.inl rfl) (pe_op op_cat (pv 3) (pe_lst (pa_cons (pe_op op_add (pe_op op_pow pe_int pe_int) (pe_op op_mod (pe_call GC hr1 (by rfl) gC kC bC .nil pass0 (pa_cons (pv 0) (pa_cons pe_int pa_nil))) pe_int)) pa_nil))))) pss_nil)
      (C8.pss_cut (ps_setLc (i := 5) (own := [("_law_rule", 4)]) (g := gName 4) (tt := tYes) (te := teCopy4 K) rfl scLaw.nd rfl rfl (sw_true rfl rfl rfl (by decide +kernel)) (pi_list (pv 2)) (blkOk_by (N := nLaw) (sc := defScope sLaw) (by decide +kernel)) (fun _ _ _ _ _ => pg_name (i := 4) scLaw.nd rfl (Or.inl rfl)) (fun _ _ _ _ _ => pts_nil)
          (fun _ _ _ _ _ => pe_tup (pa_cons (pe_callTy call_list_of (by rfl) L.list PyProof.Rows.boot_list (pa_cons (pe_ix ix_tup (pv 4) pe_int (fun _ _ => rfl)) pa_nil)) (pa_cons (pe_callTy call_list_of (by rfl) L.list PyProof.Rows.boot_list (pa_cons (pe_ix ix_tup (pv 4) pe_int (fun _ _ => rfl)) pa_nil)) pa_nil))))
      (C8.pss_cut (ps_set (i := 6) scLaw.nd rfl (Or.inl rfl) (pe_callTy call_list_of (by rfl) L.list PyProof.Rows.boot_list (pa_cons (pv 3) pa_nil)))
      (C8.pss_cut (ps_set (i := 7) scLaw.nd rfl (Or.inl rfl) (pe_call GG hr (by rfl) gG kG bG .nil pass0 (pa_cons (pv 5) (pa_cons (pv 6) pa_nil))))
      (C8.pss_cut (ps_if (PW.pt (pw_or (pt_not (pt_val (pe_callB call_isi (by rfl) L.isi PyProof.Rows.boot_isinstance (pa_cons (pv 7) (pa_cons (pe_bltn (v := .ty "list") (by rfl) L.list PyProof.Rows.boot_list rfl) pa_nil)))))
          (pw_or (pt_cmpR (op_neD hr.units) (pv 5) (pv 2) (nomark _)) (pw_or1 (pt_cmpR (op_neD hr.units) (pv 6) (pv 3) (nomark _)))))) (pss_one (ps_ret pe_bl)) pss_nil)
      (C8.pss_cut (ps_for PassesOwn.never rfl (pi_range1 (by rfl) L.range (pa_cons (pe_callB call_len_seq (by rfl) L.len PySem.boot_len (pa_cons (pv 7) pa_nil)) pa_nil)) (pg_name (i := 8) scLaw.nd rfl (Or.inl rfl))
          (pss_one (ps_if (PW.pt (pw_or (pt_not (pt_val (pe_call GW hr1 (by rfl) gW kW bW .nil pass0 (pa_cons (pe_ix ix_list (pv 7) (pv 8) (fun _ _ => rfl)) pa_nil))))
            (pw_or1 (PW.pt (pw_and (pt_cmpR op_gt (pv 8) pe_int (nomark _)) (pw_and1 (pt_cmpR op_ge (pe_ix ix_list (pv 7) (pe_op op_sub (pv 8) pe_int) (fun _ _ => rfl)) (pe_ix ix_list (pv 7) (pv 8) (fun _ _ => rfl)) (nomark _)))))))) (pss_one (ps_ret pe_bl)) pss_nil)))
      (C8.pss_cut (ps_if (PW.pt (pw_or (pt_cmpR (op_neD hr.units) (pe_call GX hr1 (by rfl) gX kX bX .nil pass0 (pa_cons (pv 3) (pa_cons (pv 7) pa_nil))) (pe_lst pa_nil) (nomark _))
          (pw_or1 (pt_cmpR (op_neD hr.units) (pe_call GG hr (by rfl) gG kG bG .nil pass0 (pa_cons (pv 2) (pa_cons (pe_callTy call_list_of (by rfl) L.list PyProof.Rows.boot_list (pa_cons (pv 7) pa_nil)) pa_nil))) (pv 7) (nomark _))))) (pss_one (ps_ret pe_bl)) pss_nil)
      (C8.pss_cut (ps_for PassesOwn.never rfl (pi_list (pv 2)) (pg_name (i := 4) scLaw.nd rfl (Or.inl rfl))
          (pss_one (ps_if (PW.pt (pw_and (pt_cmpR (op_eqD hr.units) (pe_call GX hr1 (by rfl) gX kX bX .nil pass0 (pa_cons (pe_ix ix_tup (pv 4) pe_int (fun _ _ => rfl)) (pa_cons (pv 7) pa_nil))) (pe_lst pa_nil) (nomark _))
            (pw_and1 (pt_cmpR (op_neD hr.units) (pe_call GX hr1 (by rfl) gX kX bX .nil pass0 (pa_cons (pe_ix ix_tup (pv 4) pe_int (fun _ _ => rfl)) (pa_cons (pv 7) pa_nil))) (pe_lst pa_nil) (nomark _))))) (pss_one (ps_ret pe_bl)) pss_nil)))
      (C8.pss_cut (ps_set (i := 9) scLaw.nd rfl (Or.inl rfl) (pe_call GP hr (by rfl) gP kP bP .nil pass0 (pa_cons (pv 2) (pa_cons (pe_op op_cat (pv 3) (pe_call GS hr1 (by rfl) gS kS bS .nil pass0 (pa_cons (pe_call GC hr1 (by rfl) gC kC bC .nil pass0 (pa_cons (pv 0) (pa_cons pe_int pa_nil))) (pa_cons pe_int (pa_cons (pv 1) pa_nil))))) pa_nil))))
      (C8.pss_cut (ps_if (PW.pt (pw_or (pt_cmpR (op_neD hr.units) (pe_call GX hr1 (by rfl) gX kX bX .nil pass0 (pa_cons (pv 7) (pa_cons (pv 9) pa_nil))) (pe_lst pa_nil) (nomark _))
          (pw_or1 (pt_cmpR (op_neD hr.units) (pe_call GX hr1 (by rfl) gX kX bX .nil pass0 (pa_cons (pv 7) (pa_cons (pe_call GP hr (by rfl) gP kP bP .nil pass0 (pa_cons (pv 2) (pa_cons (pv 3) pa_nil))) pa_nil))) (pe_lst pa_nil) (nomark _))))) (pss_one (ps_ret pe_bl)) pss_nil)
      (C8.pss_cut (ps_set (i := 10) scLaw.nd rfl (Or.inl rfl) (pe_callTy call_list_of (by rfl) L.list PyProof.Rows.boot_list (pa_cons (pv 7) pa_nil)))
      (C8.pss_cut (ps_expr (pe_bm PySem.F.plainAttrs_list PySem.F.slot_list_append PySem.F.type_list_append mt_append (pv 7) (pa_cons (pe_op op_pow pe_int pe_int) pa_nil)))
      (pss_one (ps_ret (pe_and (pe_cmpR (op_eqD hr.units) (pv 6) (pv 3) (nomark _)) (pe_and (pe_cmpR (op_eqD hr.units) (pv 5) (pv 2) (nomark _)) (pe_one (pe_cmpR (op_eqD hr.units) (pe_call GG hr (by rfl) gG kG bG .nil pass0 (pa_cons (pv 5) (pa_cons (pv 6) pa_nil))) (pv 10) (nomark _)))))))))))))))))))))), ?_⟩
    have at0 : ∀ y z : V, atI [y, z] 0 = some y := fun _ _ => rfl
    have at1 : ∀ y z : V, atI [y, z] 1 = some z := fun _ _ => rfl
    -- how many marks
    refine ⟨fun σ H' => ∃ n : Int, σ = [some (.ref a), some (.int n), none, none, none, none, none, none, none, none, none] ∧ H' = H ∧ 0 < n, ?_, ?_⟩
    · refine ⟨_, rfl, a, zs, _, rfl, hS, by decide, _, _, rfl, rfl, ⟨by decide, by decide⟩, _, _, rfl, rfl, (by show (0 : Int) < 4; decide), rfl, _, rfl, ?_⟩
      exact ite2 (fun _ => ⟨100, rfl, rfl, by decide⟩) (fun _ => ⟨8, rfl, rfl, by decide⟩)
    rintro σ H0 ⟨n, rfl, eH, n0⟩
    subst eH
    -- the rules
    refine ⟨fun σ H' => ∃ (rl D : Addr) (L0 : List Ru), σ = [some (.ref a), some (.int n), some (.ref rl), none, none, none, none, none, none, none, none] ∧ Same H0 H' ∧ H' rl = some (.lst (L0.map fun e : Ru => V.ref e.t)) ∧ (∀ e ∈ L0, RuMt H' D e ∧ e.r.1.length ≤ 8 ∧ e.r.2.length ≤ 8) ∧ L0.length ≤ 28, ?_, ?_⟩
    · exact ⟨_, rfl, _, rfl, a, zs, n, rfl, hS, n0, fun H1 rl D L0 s1 nrl hrl hru len lens => ⟨rl, D, L0, rfl, s1, hrl, fun e he => ⟨hru e he, lens e he⟩, len⟩⟩
    rintro σ H1 ⟨rl, D, L0, rfl, s1, hrl, hL0, len0⟩
    -- the marks
    refine ⟨fun σ H' => ∃ (M : Addr) (ms : List Int), σ = [some (.ref a), some (.int n), some (.ref rl), some (.ref M), none, none, none, none, none, none, none] ∧ Same H1 H' ∧ H' M = some (.lst (ms.map V.int)) ∧ ms.length ≤ 8, ?_, ?_⟩
    · exact ⟨_, rfl, a, zs, _, rfl, s1.seq hS, by decide, _, rfl, _, 8, n, rfl, by decide, by decide, n0, fun H2 M ms s2 nM hM len => ⟨M, ms, rfl, s2, hM, len⟩⟩
    rintro σ H2 ⟨M, ms, rfl, s2, hM2, lenM⟩
    refine ⟨fun σ H' => ∃ (M : Addr) (ms : List Int), σ = [some (.ref a), some (.int n), some (.ref rl), some (.ref M), none, none, none, none, none, none, none] ∧ Same H1 H' ∧ H' M = some (.lst (ms.map V.int)) ∧ ms.length ≤ 9, ?_, ?_⟩
    · have s02 := s1.trans s2
      refine ⟨_, rfl, a, zs, _, rfl, s02.seq hS, by decide, _, _, rfl, rfl, ⟨by decide, by decide⟩, _, _, rfl, rfl, (by show (0 : Int) < 4; decide), rfl, _, rfl, ?_⟩
      refine ite2 (fun _ => ?_) (fun _ => ⟨M, ms, rfl, s2, hM2, by omega⟩)
      refine ⟨_, rfl, _, _, rfl, rfl, ⟨by decide, by decide, by decide⟩, _, rfl, a, zs, _, rfl, s02.seq hS, by decide, _, _, rfl, rfl, (by show (0 : Int) < 7; decide), _, _, rfl, rfl, (by show 1 ≤ sizeLine; decide), fun b hb => ?_⟩
      have Mb' : M ≠ b := ne_of_none hM2 hb
      refine ⟨M, b, _, _, rfl, rfl, by rw [upd_ne Mb']; exact hM2, upd_same, by rw [List.length_map, sizeLine_eq]; show _ + 1 ≤ _; omega, fun q hq => ⟨q, ms ++ [(10 : Int) ^ (20 : Int).toNat + cellAt zs 2 % 7], rfl, s2.trans ((Same.up (Same.refl H2) hb).trans (Same.up (Same.refl _) hq)), by rw [upd_same, List.map_append]; rfl, by rw [List.length_append, List.length_singleton]; omega⟩⟩
    clear lenM hM2 s2
    rintro σ H3 ⟨M, ms, rfl, s3, hM3, lenM⟩
    have s03 := s1.trans s3
    have hrl3 := s3 _ _ hrl
    obtain ⟨rs, hrs⟩ : ∃ rs, rs = L0.map Ru.r := ⟨_, rfl⟩
    have fl0 := flat_len L0 fun e he => (hL0 e he).2.2
    rw [← hrs] at fl0
    have lenR : ∀ e ∈ L0, e.r.1.length ≤ 1000 := fun e he => by have := (hL0 e he).2.1; omega
    have ru0 : ∀ {G : Hp}, Same H1 G → ∀ e ∈ L0, RuOk K G G e := fun {G} sg e he => ((hL0 e he).1.same sg).ok
    -- copies
    refine ⟨fun σ H' => ∃ (Hd : Addr) (L1 : List Ru), σ = [some (.ref a), some (.int n), some (.ref rl), some (.ref M), none, some (.ref Hd), none, none, none, none, none] ∧ Same H3 H' ∧ H' Hd = some (.lst (L1.map fun e : Ru => V.ref e.t)) ∧ (∀ e ∈ L1, RuMt H' Hd e) ∧ L1.map Ru.r = rs, ?_, ?_⟩
    · refine ⟨_, rfl, rl, rfl, ⟨_, SqL.of hrl3⟩, fun B hB => ?_⟩
      refine lc_list (K := K) (a := rl) (xs := L0.map fun e : Ru => V.ref e.t) (fun i H' => ∃ L1 : List Ru, L1.map Ru.r = (L0.take i).map Ru.r ∧ Same H3 H' ∧ H' B = some (.lst (L1.map fun e : Ru => V.ref e.t)) ∧ ∀ e ∈ L1, RuMt H' B e) ⟨[], rfl, Same.up (Same.refl H3) hB, upd_same, fun e he => by cases he⟩ (fun i H' _ ⟨_, _, z, _⟩ => SqL.of (z _ _ hrl3)) ?_ ?_
      · rintro i y H4 hy ⟨L1, e1, s4, hB4, hL1⟩
        rw [List.getElem?_map] at hy
        obtain ⟨e, he, rfl⟩ := Option.map_eq_some_iff.mp hy
        have il := (List.getElem?_eq_some_iff.mp he).1
        obtain ⟨p, q, h1, h2, h3, _⟩ := ((hL0 e (List.mem_of_getElem? he)).1.same s3).same s4
        have l1 : L1.length ≤ 28 := by
          have := congrArg List.length e1
          rw [List.length_map, List.length_map, List.length_take] at this
          omega
        refine ⟨rfl, _, rfl, e.t, _, _, _, rfl, rfl, SqT.of h1, at0 _ _, p, _, rfl, .inl (SqL.of h2), fun u1 hu1 => ?_⟩
        have s5 : Same H4 (upd H4 u1 (.lst (e.r.1.map V.int))) := Same.up (Same.refl H4) hu1
        have g5 := upd_same (H := H4) (a := u1) (o := HO.lst (e.r.1.map V.int))
        refine ⟨_, rfl, e.t, _, _, _, rfl, rfl, SqT.of (s5 _ _ h1), at1 _ _, q, _, rfl, .inl (SqL.of (s5 _ _ h3)), fun u2 hu2 => ⟨(by show 2 ≤ sizeLine; decide), fun u3 hu3 => ?_⟩⟩
        have s6 := Same.up (o := .lst (e.r.2.map V.int)) (Same.refl (upd H4 u1 (.lst (e.r.1.map V.int)))) hu2
        have g6 := upd_same (H := upd H4 u1 (.lst (e.r.1.map V.int))) (a := u2) (o := HO.lst (e.r.2.map V.int))
        have s7 := Same.up (o := .tup [V.ref u1, .ref u2]) (Same.refl (upd (upd H4 u1 (.lst (e.r.1.map V.int))) u2 (.lst (e.r.2.map V.int)))) hu3
        have g7 := upd_same (H := upd (upd H4 u1 (.lst (e.r.1.map V.int))) u2 (.lst (e.r.2.map V.int))) (a := u3) (o := HO.tup [V.ref u1, .ref u2])
        have s47 := (s5.trans s6).trans s7
        have g5' := s7 _ _ (s6 _ _ g5)
        have g6' := s7 _ _ g6
        have nu2 : H4 u2 = none := s5.free hu2
        generalize upd (upd (upd H4 u1 (.lst (e.r.1.map V.int))) u2 (.lst (e.r.2.map V.int))) u3 (.tup [V.ref u1, .ref u2]) = G at s47 g5' g6' g7 ⊢
        have hBG := s47 _ _ hB4
        have nw : RuMt G B ⟨u3, e.r⟩ := ⟨u1, u2, g7, g5', g6', Ne.symm (ne_of_none hB4 hu1), Ne.symm (ne_of_none hB4 nu2)⟩
        refine ⟨_, hBG, by rw [List.length_map, sizeLine_eq]; omega, L1 ++ [⟨u3, e.r⟩], ?_, Same.own (s4.trans s47) hB, by rw [upd_same, List.map_append]; rfl, fun x hx => ?_⟩
        · rw [List.map_append, e1, List.take_add_one, he, List.map_append]
          rfl
        · rcases (List.mem_append).1 hx with z | z
          · exact ((hL1 x z).same s47).put hBG
          · rw [(List.mem_singleton).1 z]
            exact nw.put hBG
      · rintro H4 ⟨L1, e1, s4, hB4, hL1⟩
        rw [List.length_map, List.take_length, ← hrs] at e1
        exact ⟨B, L1, rfl, s4, hB4, hL1, e1⟩
    rintro σ H4 ⟨Hd, L1, rfl, s4, hHd4, hL1, e1⟩
    have s14 := s3.trans s4
    have len1 : L1.length ≤ 28 := by
      have := congrArg List.length e1
      rw [hrs, List.length_map, List.length_map] at this
      omega
    have lenR1 : ∀ e ∈ L1, e.r.1.length ≤ 1000 := fun e he => by
      have : e.r ∈ rs := by rw [← e1]; exact List.mem_map.mpr ⟨e, he, rfl⟩
      rw [hrs] at this
      obtain ⟨u, hu, eu⟩ := List.mem_map.mp this
      rw [← eu]
      exact lenR u hu
    -- the marks, copied
    refine ⟨fun σ H' => ∃ Kp : Addr, σ = [some (.ref a), some (.int n), some (.ref rl), some (.ref M), none, some (.ref Hd), some (.ref Kp), none, none, none, none] ∧ Same H4 H' ∧ H' Kp = some (.lst (ms.map V.int)), ?_, ?_⟩
    · exact ⟨_, rfl, M, _, rfl, .inl (SqL.of (s4 _ _ hM3)), fun Kp hKp => ⟨Kp, rfl, Same.up (Same.refl H4) hKp, upd_same⟩⟩
    rintro σ H5 ⟨Kp, rfl, s5, hKp5⟩
    have s15 := s14.trans s5
    have ru1 : ∀ {G : Hp}, Same H4 G → ∀ e ∈ L1, RuOk K G G e := fun {G} sg e he => ((hL1 e he).same sg).ok
    have fewM : ∀ {ns : List Int}, ns.length ≤ 300 → (ns ++ rs.flatMap fun r => r.2).length ≤ 100000 := fun {ns} h => by
      rw [List.length_append]
      omega
    -- grown
    refine ⟨fun σ H' => ∃ (F : Addr) (S : List Int), σ = [some (.ref a), some (.int n), some (.ref rl), some (.ref M), none, some (.ref Hd), some (.ref Kp), some (.ref F), none, none, none] ∧ Same H5 H' ∧ H5 F = none ∧ H' F = some (.lst (S.map V.int)) ∧ Grown4 rs ms S, ?_, ?_⟩
    · exact ⟨_, rfl, _, rfl, Hd, Kp, L1, ms, rfl, SqL.of (s5 _ _ hHd4), ru1 s5, SqL.of hKp5, by omega, by omega, lenR1, by rw [e1]; exact fewM (by omega), fun H6 F S s6 nF hF g => ⟨F, S, rfl, s6, nF, hF, by rw [e1] at g; exact g⟩⟩
    rintro σ H6 ⟨F, S, rfl, s6, nF, hF6, g⟩
    have lenS : S.length ≤ 300 := by
      have := g.short
      rw [List.length_append] at this
      omega
    -- a list; nothing handed in has changed
    refine ⟨fun σ H' => σ = [some (.ref a), some (.int n), some (.ref rl), some (.ref M), none, some (.ref Hd), some (.ref Kp), some (.ref F), none, none, none] ∧ Same H6 H', ?_, ?_⟩
    · refine ⟨_, rfl, _, _, _, _, true, rfl, ClsV.ty "list", TyX.base (TyOf.lst hF6), kit_ty (by decide +kernel), _, rfl, iteF ?_⟩
      refine ⟨_, rfl, _, rfl, pairsD (L1.map Ru.r), pairsD (L0.map Ru.r), dpPairs (ru_pairs (SqL.of ((s5.trans s6) _ _ hHd4)) (ru1 (s5.trans s6))), dpPairs (ru_pairs (SqL.of ((s15.trans s6) _ _ hrl)) (ru0 (s15.trans s6))), shPairs _, shPairs _, _, rfl, ?_⟩
      rw [eqv_pairs, decide_eq_true (show L1.map Ru.r = L0.map Ru.r by rw [e1, hrs])]
      refine iteF ?_
      refine ⟨_, rfl, _, rfl, rowD ms, rowD ms, .lst (SqL.of (s6 _ _ hKp5)) (dpInts _), .lst (SqL.of ((s4.trans (s5.trans s6)) _ _ hM3)) (dpInts _), shInts _, shInts _, _, rfl, ?_⟩
      rw [eqv_row, decide_eq_true (show ms = ms from rfl)]
      exact iteF ⟨rfl, Same.refl H6⟩
    rintro σ H7 ⟨rfl, s7⟩
    have s57 := s6.trans s7
    have hF7 := s7 _ _ hF6
    -- whole numbers, each more than the one before
    refine ⟨fun σ H' => ∃ v8 : Option V, σ = [some (.ref a), some (.int n), some (.ref rl), some (.ref M), none, some (.ref Hd), some (.ref Kp), some (.ref F), v8, none, none] ∧ Same H7 H', ?_, ?_⟩
    · refine ⟨_, rfl, F, _, rfl, .inl (SqL.of hF7), _, rfl, by rw [List.length_map]; omega, by rw [List.length_map]; omega, for_range (lo := 0) (n := ((S.map V.int).length : Int).toNat) (fun i σ H' => ∃ v8 : Option V, σ = [some (.ref a), some (.int n), some (.ref rl), some (.ref M), none, some (.ref Hd), some (.ref Kp), some (.ref F), v8, none, none] ∧ Same H7 H') ⟨none, rfl, Same.refl H7⟩ ?_ ?_⟩
      · rintro i σ H8 hi ⟨v8, rfl, s8⟩
        have il : i < S.length := by rw [List.length_map] at hi; omega
        have hz : atI (S.map V.int) (0 + (i : Int)) = some (.int S[i]) := by
          rw [Int.zero_add]
          exact atI_nat (by rw [List.getElem?_map, List.getElem?_eq_getElem il]; rfl)
        have hF8 := s8 _ _ hF7
        refine ⟨_, rfl, _, rfl, F, _, _, _, rfl, rfl, SqL.of hF8, hz, _, rfl, _, rfl, iteF ?_⟩
        refine ⟨_, rfl, ⟨_, _, rfl, rfl, ⟨_, rfl, ?_⟩⟩⟩
        refine ite2 (fun c => ?_) (fun _ => iteF ⟨_, rfl, s8⟩)
        have ci : (0 : Int) < 0 + (i : Int) := of_decide_eq_true c
        have i1 : i - 1 < S.length := by omega
        have hy : atI (S.map V.int) (0 + (i : Int) - 1) = some (.int S[i - 1]) := by
          rw [show (0 : Int) + (i : Int) - 1 = ((i - 1 : Nat) : Int) by omega]
          exact atI_nat (by rw [List.getElem?_map, List.getElem?_eq_getElem i1]; rfl)
        have lt : S[i - 1] < S[i] := List.pairwise_iff_getElem.mp g.rise (i - 1) i i1 il (by omega)
        refine ⟨_, rfl, _, rfl, _, _, rfl, rfl, F, _, _, _, rfl, rfl, SqL.of hF8, hy, _, rfl, _, rfl, F, _, _, _, rfl, rfl, SqL.of hF8, hz, _, _, rfl, rfl, _, rfl, ?_⟩
        refine ite2 (fun c2 => ?_) (fun _ => ⟨_, rfl, s8⟩)
        have := of_decide_eq_true c2
        omega
      · rintro σ H8 ⟨v8, rfl, s8⟩
        exact ⟨v8, rfl, s8⟩
    rintro σ H8 ⟨v8, rfl, s8⟩
    have s58 := s57.trans s8
    have s18 := s15.trans s58
    have hF8 := s8 _ _ hF7
    have m38 : ∀ {G : Hp}, Same H5 G → G M = some (.lst (ms.map V.int)) := fun {G} sg => (s4.trans (s5.trans sg)) _ _ hM3
    -- the marks are there; it grows no more
    refine ⟨fun σ H' => σ = [some (.ref a), some (.int n), some (.ref rl), some (.ref M), none, some (.ref Hd), some (.ref Kp), some (.ref F), v8, none, none] ∧ Same H8 H', ?_, ?_⟩
    · refine ⟨_, rfl, _, rfl, M, F, ms, S, rfl, SqL.of (m38 s58), SqL.of hF8, by omega, fun H9 q9 s9 nq9 hq9 => ⟨Nat.zero_le _, fun d hd => ?_⟩⟩
      rw [lacking_none g.marks] at hq9
      have s10 : Same H9 (upd H9 d (.lst [])) := Same.up (Same.refl H9) hd
      refine ⟨rowD [], rowD [], .lst (SqL.of (xs := []) (s10 _ _ hq9)) .nil, .lst (SqL.of (xs := []) upd_same) .nil, shInts [], shInts [], _, rfl, ?_⟩
      rw [eqv_row, decide_eq_true (show ([] : List Int) = [] from rfl)]
      refine iteF ?_
      generalize upd H9 d (.lst []) = H10 at s10
      have s8a := s9.trans s10
      refine ⟨_, rfl, _, rfl, F, _, rfl, .inl (SqL.of (s8a _ _ hF8)), fun c hc => ?_⟩
      have s11 : Same H10 (upd H10 c (.lst (S.map V.int))) := Same.up (Same.refl H10) hc
      have g11 : (upd H10 c (.lst (S.map V.int))) c = some (.lst (S.map V.int)) := upd_same
      generalize upd H10 c (.lst (S.map V.int)) = H11 at s11 g11
      have s8b := s8a.trans s11
      refine ⟨rl, c, L0, S, rfl, SqL.of ((s18.trans s8b) _ _ hrl), ru0 (s18.trans s8b), SqL.of g11, by omega, by omega, lenR, by rw [← hrs]; exact fewM lenS, fun H12 q S2 s12 nq hq g2 => ?_⟩
      have eS : S2 = S := by
        rw [← hrs] at g2
        exact g2.one g.again
      subst eS
      refine ⟨_, rfl, rowD S2, rowD S2, .lst (SqL.of hq) (dpInts _), .lst (SqL.of ((s8b.trans s12) _ _ hF8)) (dpInts _), shInts _, shInts _, _, rfl, ?_⟩
      rw [eqv_row, decide_eq_true (show S2 = S2 from rfl)]
      exact iteF ⟨rfl, s8b.trans s12⟩
    rintro σ H9 ⟨rfl, s9⟩
    have s59 := s58.trans s9
    have s19 := s15.trans s59
    have hF9 := s9 _ _ hF8
    -- no rule asks for more
    refine ⟨fun σ H' => ∃ v4 : Option V, σ = [some (.ref a), some (.int n), some (.ref rl), some (.ref M), v4, some (.ref Hd), some (.ref Kp), some (.ref F), v8, none, none] ∧ Same H9 H', ?_, ?_⟩
    · refine ⟨_, rfl, rl, rfl, ⟨_, SqL.of (s19 _ _ hrl)⟩, for_list (K := K) (a := rl) (xs := L0.map fun e : Ru => V.ref e.t) (fun i σ H' => ∃ v4 : Option V, σ = [some (.ref a), some (.int n), some (.ref rl), some (.ref M), v4, some (.ref Hd), some (.ref Kp), some (.ref F), v8, none, none] ∧ Same H9 H') ⟨none, rfl, Same.refl H9⟩ (fun i σ H' _ ⟨_, _, z⟩ => SqL.of ((s19.trans z) _ _ hrl)) ?_ ?_⟩
      · rintro i y σ H10 hy ⟨v4, rfl, s10⟩
        rw [List.getElem?_map] at hy
        obtain ⟨e, he, rfl⟩ := Option.map_eq_some_iff.mp hy
        have me := List.mem_of_getElem? he
        obtain ⟨p, q, h1, h2, h3, _⟩ := (hL0 e me).1.same (s19.trans s10)
        have la := (hL0 e me).2
        refine ⟨_, rfl, e.t, _, _, _, rfl, rfl, SqT.of h1, at0 _ _, _, rfl, p, F, e.r.1, S, rfl, SqL.of h2, SqL.of (s10 _ _ hF9), by omega, fun H11 q11 s11 nq11 hq11 => ⟨Nat.zero_le _, fun d hd => ?_⟩⟩
        have s12 : Same H11 (upd H11 d (.lst [])) := Same.up (Same.refl H11) hd
        refine ⟨rowD (lacking e.r.1 S), rowD [], .lst (SqL.of (s12 _ _ hq11)) (dpInts _), .lst (SqL.of (xs := []) upd_same) .nil, shInts _, shInts [], _, rfl, ?_⟩
        rw [eqv_row]
        generalize upd H11 d (.lst []) = H12 at s12
        have sA := s10.trans (s11.trans s12)
        refine ite2 (fun c => ?_) (fun _ => iteF ⟨_, rfl, sA⟩)
        have all1 := none_lacking (of_decide_eq_true c)
        have all2 : lacking e.r.2 S = [] := lacking_none (g.closed e.r (by rw [hrs]; exact List.mem_map.mpr ⟨e, me, rfl⟩) all1)
        have sB := s11.trans s12
        refine ⟨_, rfl, e.t, _, _, _, rfl, rfl, SqT.of (sB _ _ h1), at1 _ _, _, rfl, q, F, e.r.2, S, rfl, SqL.of (sB _ _ h3), SqL.of (sA _ _ hF9), by omega, fun H13 q13 s13 nq13 hq13 => ⟨Nat.zero_le _, fun d2 hd2 => ?_⟩⟩
        rw [all2] at hq13
        have s14' : Same H13 (upd H13 d2 (.lst [])) := Same.up (Same.refl H13) hd2
        refine ⟨rowD [], rowD [], .lst (SqL.of (xs := []) (s14' _ _ hq13)) .nil, .lst (SqL.of (xs := []) upd_same) .nil, shInts [], shInts [], _, rfl, ?_⟩
        rw [eqv_row, decide_eq_true (show ([] : List Int) = [] from rfl)]
        exact iteF ⟨_, rfl, sA.trans (s13.trans s14')⟩
      · rintro σ H10 ⟨v4, rfl, s10⟩
        exact ⟨v4, rfl, s10⟩
    rintro σ H10 ⟨v4, rfl, s10⟩
    have s5a := s59.trans s10
    have s1a := s15.trans s5a
    have hFa := s10 _ _ hF9
    have lens8 : ∀ e ∈ L0, e.r.1.length ≤ 8 ∧ e.r.2.length ≤ 8 := fun e he => (hL0 e he).2
    -- more marks put to the rules
    refine ⟨fun σ H' => ∃ (O : Addr) (T : List Int), σ = [some (.ref a), some (.int n), some (.ref rl), some (.ref M), v4, some (.ref Hd), some (.ref Kp), some (.ref F), v8, some (.ref O), none] ∧ Same H10 H' ∧ H' O = some (.lst (T.map V.int)) ∧ (∀ k ∈ S, k ∈ T), ?_, ?_⟩
    · refine ⟨_, rfl, _, rfl, _, rfl, a, zs, _, rfl, (s1.trans s1a).seq hS, by decide, _, rfl, _, 8, n, rfl, by decide, by decide, n0, fun H11 b ys s11 nb hb lb => ?_⟩
      refine ⟨M, b, _, _, rfl, rfl, m38 (s5a.trans s11), hb, by rw [List.length_map, List.length_map, sizeLine_eq]; omega, fun c hc => ?_⟩
      have s12 : Same H11 (upd H11 c (.lst (ms.map V.int ++ ys.map V.int))) := Same.up (Same.refl H11) hc
      have g12 : (upd H11 c (.lst (ms.map V.int ++ ys.map V.int))) c = some (.lst ((ms ++ ys).map V.int)) := by rw [upd_same, List.map_append]
      generalize upd H11 c (.lst (ms.map V.int ++ ys.map V.int)) = H12 at s12 g12
      have sB := s1a.trans (s11.trans s12)
      exact ⟨rl, c, L0, ms ++ ys, rfl, SqL.of (sB _ _ hrl), ru0 sB, SqL.of g12, by omega, by rw [List.length_append]; omega, lens8, fun H13 O T s13 nO hO sub clo => ⟨O, T, rfl, (s11.trans s12).trans s13, hO, g.sub (fun j hj => sub j (List.mem_append_left _ hj)) (by rw [hrs]; exact clo)⟩⟩
    rintro σ H11 ⟨O, T, rfl, s11, hO, inT⟩
    have s5b := s5a.trans s11
    have s1b := s15.trans s5b
    have hFb := s11 _ _ hFa
    -- all that has grown is there
    refine ⟨fun σ H' => σ = [some (.ref a), some (.int n), some (.ref rl), some (.ref M), v4, some (.ref Hd), some (.ref Kp), some (.ref F), v8, some (.ref O), none] ∧ Same H11 H', ?_, ?_⟩
    · refine ⟨_, rfl, _, rfl, F, O, S, T, rfl, SqL.of hFb, SqL.of hO, by omega, fun H12 q12 s12 nq12 hq12 => ⟨Nat.zero_le _, fun d hd => ?_⟩⟩
      rw [lacking_none inT] at hq12
      have s13 : Same H12 (upd H12 d (.lst [])) := Same.up (Same.refl H12) hd
      refine ⟨rowD [], rowD [], .lst (SqL.of (xs := []) (s13 _ _ hq12)) .nil, .lst (SqL.of (xs := []) upd_same) .nil, shInts [], shInts [], _, rfl, ?_⟩
      rw [eqv_row, decide_eq_true (show ([] : List Int) = [] from rfl)]
      refine iteF ?_
      generalize upd H12 d (.lst []) = H13 at s13
      have sC := s12.trans s13
      have sD := s1b.trans sC
      refine ⟨_, rfl, _, rfl, _, rfl, rl, M, L0, ms, rfl, SqL.of (sD _ _ hrl), ru0 sD, SqL.of (m38 (s5b.trans sC)), by omega, by omega, lens8, fun H14 O2 T2 s14' nO2 hO2 sub clo => ?_⟩
      have inT2 : ∀ j ∈ S, j ∈ T2 := g.sub sub (by rw [hrs]; exact clo)
      refine ⟨F, O2, S, T2, rfl, SqL.of ((sC.trans s14') _ _ hFb), SqL.of hO2, by omega, fun H15 q15 s15' nq15 hq15 => ⟨Nat.zero_le _, fun d2 hd2 => ?_⟩⟩
      rw [lacking_none inT2] at hq15
      have s16 : Same H15 (upd H15 d2 (.lst [])) := Same.up (Same.refl H15) hd2
      refine ⟨rowD [], rowD [], .lst (SqL.of (xs := []) (s16 _ _ hq15)) .nil, .lst (SqL.of (xs := []) upd_same) .nil, shInts [], shInts [], _, rfl, ?_⟩
      rw [eqv_row, decide_eq_true (show ([] : List Int) = [] from rfl)]
      exact iteF ⟨rfl, sC.trans (s14'.trans (s15'.trans s16))⟩
    rintro σ H12 ⟨rfl, s12⟩
    have s5c := s5b.trans s12
    have hFc := s12 _ _ hFb
    -- what is due
    refine ⟨fun σ H' => ∃ Du : Addr, σ = [some (.ref a), some (.int n), some (.ref rl), some (.ref M), v4, some (.ref Hd), some (.ref Kp), some (.ref F), v8, some (.ref O), some (.ref Du)] ∧ Same H12 H' ∧ H12 Du = none ∧ H' Du = some (.lst (S.map V.int)), ?_, ?_⟩
    · exact ⟨_, rfl, F, _, rfl, .inl (SqL.of hFc), fun Du hDu => ⟨Du, rfl, Same.up (Same.refl H12) hDu, hDu, upd_same⟩⟩
    rintro σ H13 ⟨Du, rfl, s13, nDu, hDu⟩
    have s5d := s5c.trans s13
    have hFd := s13 _ _ hFc
    have DF : Du ≠ F := Ne.symm (ne_of_none hFc nDu)
    -- what was told is changed
    refine ⟨fun σ H' => σ = [some (.ref a), some (.int n), some (.ref rl), some (.ref M), v4, some (.ref Hd), some (.ref Kp), some (.ref F), v8, some (.ref O), some (.ref Du)] ∧ Same H5 H' ∧ H' Du = some (.lst (S.map V.int)), ?_, ?_⟩
    · exact ⟨_, rfl, .inl ⟨rfl, _, SqL.of hFd⟩, _, _, rfl, rfl, ⟨by decide, by decide, by decide⟩, F, _, _, rfl, rfl, hFd, by rw [List.length_map, sizeLine_eq]; omega, rfl, Same.own s5d nF, by rw [upd_ne DF]; exact hDu⟩
    rintro σ H14 ⟨rfl, s5e, hDu14⟩
    have s1e := s15.trans s5e
    refine ⟨_, rfl, _, rfl, rowD ms, rowD ms, .lst (SqL.of (s5e _ _ hKp5)) (dpInts _), .lst (SqL.of (m38 s5e)) (dpInts _), shInts _, shInts _, _, rfl, ?_⟩
    rw [eqv_row, decide_eq_true (show ms = ms from rfl)]
    refine iteT ?_
    refine ⟨_, rfl, _, rfl, pairsD (L1.map Ru.r), pairsD (L0.map Ru.r), dpPairs (ru_pairs (SqL.of ((s5.trans s5e) _ _ hHd4)) (ru1 (s5.trans s5e))), dpPairs (ru_pairs (SqL.of (s1e _ _ hrl)) (ru0 s1e)), shPairs _, shPairs _, _, rfl, ?_⟩
    rw [eqv_pairs, decide_eq_true (show L1.map Ru.r = L0.map Ru.r by rw [e1, hrs])]
    refine iteT ?_
    refine ⟨_, rfl, _, rfl, Hd, Kp, L1, ms, rfl, SqL.of ((s5.trans s5e) _ _ hHd4), ru1 (s5.trans s5e), SqL.of (s5e _ _ hKp5), by omega, by omega, lenR1, by rw [e1]; exact fewM (by omega), fun H15 q S2 s15' nq hq g2 => ?_⟩
    have eS : S2 = S := by
      rw [e1] at g2
      exact g2.one g
    subst eS
    refine ⟨_, rfl, rowD S2, rowD S2, .lst (SqL.of hq) (dpInts _), .lst (SqL.of (s15' _ _ hDu14)) (dpInts _), shInts _, shInts _, ?_⟩
    rw [eqv_row, decide_eq_true (show S2 = S2 from rfl)]
    exact k _
end
end Mb

namespace Mb
open L2 PySem PySem.Spec PyProof.Rows
theorem tri_nil : TriplesOk (#[] : Array Value).toList := by
  trivial
theorem kit_val {K : PySem.W.Frag} {D : Addr} (h : PySem.W.subIn K (.ref D) (.type "ValueError") = some true) : PySem.W.kitOne K (.ref D) (.type "ValueError") = some true := by
  have n : (Value.ref D == Value.type "ValueError") = false := by simp
  have m : PySem.W.kitMeta "ValueError" = true := by decide +kernel
  unfold PySem.W.kitOne
  rw [n, if_neg Bool.false_ne_true]
  show (if PySem.W.kitMeta "ValueError" = true then PySem.W.subIn K (.ref D) (.type "ValueError") else none) = some true
  rw [if_pos m, h]
theorem kit_other {K : PySem.W.Frag} {D E : Addr} (h1 : PySem.W.subIn K (.ref D) (.ref D) = some true) (h2 : PySem.W.subIn K (.ref D) (.ref E) = some false) (hd : PySem.W.hasDictIn K E = true) (ht : PySem.W.typeIn K (.ref E) = some (.type "type")) : PySem.W.kitOne K (.ref D) (.ref E) = some false := by
  have ne : D ≠ E := fun e => by
    rw [← e, h1] at h2
    cases h2
  have n : (Value.ref D == Value.ref E) = false := by simpa using ne
  obtain ⟨cd, hc, _⟩ := PySem.W.any_some hd
  have q : ((PySem.W.clsIn K E).isSome && PySem.W.typeIn K (.ref E) == some (.type "type")) = true := by rw [hc, ht] <;> rfl
  unfold PySem.W.kitOne
  rw [n, if_neg Bool.false_ne_true]
  show (if ((PySem.W.clsIn K E).isSome && PySem.W.typeIn K (.ref E) == some (.type "type")) = true then PySem.W.subIn K (.ref D) (.ref E) else none) = some false
  rw [if_pos q, h2]
theorem tab_at {K : PySem.W.Frag} {x : Str} {f t P : Addr} {oc : Value} {od oz : Option Addr} {fd : FuncData} {sl sz : Array (Option Value)} {ou : Value} {vs : Array Value} (a : PySem.W.nsIn K mainGlobals x = some (some (.ref f))) (l : K.lookup f = some ⟨oc, od, .func fd, sl⟩) (u : K.lookup t = some ⟨ou, oz, .fields vs, sz⟩) (v : vs[11]? = some (.ref P)) (e : fd.code = .ref t := by rfl) : PySem.W.tabIn K x = some (t, P) := by
  unfold PySem.W.tabIn
  rw [a]
  dsimp only
  rw [l]
  dsimp only
  rw [e]
  dsimp only
  rw [u]
  dsimp only
  rw [v]
theorem all_mk {l : PySem.W.OpenLaw} {w : World} {K : PySem.W.Frag} {h : Heap} {q : Program} {mg : Str → Option Value} {fa  f12 f13 f20 f21 f22 f23 f24 f25 f41   : Addr} 
    {od12 od13 od20 od21 od22 od23 od24 od25 od41 an12 an13 an20 an21 an22 an23 an24 an25 an41  : Option Addr} {sl12 sl13 sl20 sl21 sl22 sl23 sl24 sl25 sl41  : Array (Option Value)} 
    {oc12 oc13 oc20 oc21 oc22 oc23 oc24 oc25 oc41 kV12 kV13 kV20 kV21 kV22 kV23 kV24 kV25 kV41 dc12 dc13 dc20 dc21 dc22 dc23 dc24 dc25 dc41 pm12 pm13 pm20 pm21 pm22 pm23 pm24 pm25 pm41 ct12 ct13 ct20 ct21 ct22 ct23 ct24 ct25 ct41  cd12 cd13 cd20 cd21 cd22 cd23 cd24 cd25 cd41 : Value}
    (X : K.In h) (G : h.Ns mainGlobals mg) (hfa : mg "law" = some (.ref fa)) (tabs : TabsOf K q h) 
    (z_sorted : PySem.W.nsIn K mainGlobals "sorted" = some none)
    (z_len : PySem.W.nsIn K mainGlobals "len" = some none)
    (z_isinstance : PySem.W.nsIn K mainGlobals "isinstance" = some none)
    (z_int : PySem.W.nsIn K mainGlobals "int" = some none)
    (z_bool : PySem.W.nsIn K mainGlobals "bool" = some none)
    (z_list : PySem.W.nsIn K mainGlobals "list" = some none)
    (z_range : PySem.W.nsIn K mainGlobals "range" = some none)
    (z_max : PySem.W.nsIn K mainGlobals "max" = some none)
    (z_sum : PySem.W.nsIn K mainGlobals "sum" = some none)
    (a12 : PySem.W.nsIn K mainGlobals "without" = some (some (.ref f12)))
    (l12 : K.lookup f12 = some ⟨oc12, od12, .func (PySem.W.fnOf "without" "without" (defArgs s_without) (defBody s_without) (defScope s_without) .none kV12 dc12 pm12 an12 cd12 ct12), sl12⟩)
    (c12 : PySem.W.codeIn K cd12 "without" = true)
    (k12 : PySem.W.keepIn K (.ref f12) = true)
    (a13 : PySem.W.nsIn K mainGlobals "grown" = some (some (.ref f13)))
    (l13 : K.lookup f13 = some ⟨oc13, od13, .func (PySem.W.fnOf "grown" "grown" (defArgs s_grown) (defBody s_grown) (defScope s_grown) .none kV13 dc13 pm13 an13 cd13 ct13), sl13⟩)
    (c13 : PySem.W.codeIn K cd13 "grown" = true)
    (k13 : PySem.W.keepIn K (.ref f13) = true)
    (a20 : PySem.W.nsIn K mainGlobals "_law_whole" = some (some (.ref f20)))
    (l20 : K.lookup f20 = some ⟨oc20, od20, .func (PySem.W.fnOf "_law_whole" "_law_whole" (defArgs sWhole) (defBody sWhole) (defScope sWhole) .none kV20 dc20 pm20 an20 cd20 ct20), sl20⟩)
    (c20 : PySem.W.codeIn K cd20 "_law_whole" = true)
    (k20 : PySem.W.keepIn K (.ref f20) = true)
    (a21 : PySem.W.nsIn K mainGlobals "_law_cell_at" = some (some (.ref f21)))
    (l21 : K.lookup f21 = some ⟨oc21, od21, .func (PySem.W.fnOf "_law_cell_at" "_law_cell_at" (defArgs sCell) (defBody sCell) (defScope sCell) .none kV21 dc21 pm21 an21 cd21 ct21), sl21⟩)
    (c21 : PySem.W.codeIn K cd21 "_law_cell_at" = true)
    (k21 : PySem.W.keepIn K (.ref f21) = true)
    (a22 : PySem.W.nsIn K mainGlobals "_law_some" = some (some (.ref f22)))
    (l22 : K.lookup f22 = some ⟨oc22, od22, .func (PySem.W.fnOf "_law_some" "_law_some" (defArgs s_law_some) (defBody s_law_some) (defScope s_law_some) .none kV22 dc22 pm22 an22 cd22 ct22), sl22⟩)
    (c22 : PySem.W.codeIn K cd22 "_law_some" = true)
    (k22 : PySem.W.keepIn K (.ref f22) = true)
    (a23 : PySem.W.nsIn K mainGlobals "_law_rules_by" = some (some (.ref f23)))
    (l23 : K.lookup f23 = some ⟨oc23, od23, .func (PySem.W.fnOf "_law_rules_by" "_law_rules_by" (defArgs s_law_rules_by) (defBody s_law_rules_by) (defScope s_law_rules_by) .none kV23 dc23 pm23 an23 cd23 ct23), sl23⟩)
    (c23 : PySem.W.codeIn K cd23 "_law_rules_by" = true)
    (k23 : PySem.W.keepIn K (.ref f23) = true)
    (a24 : PySem.W.nsIn K mainGlobals "_law_lacks" = some (some (.ref f24)))
    (l24 : K.lookup f24 = some ⟨oc24, od24, .func (PySem.W.fnOf "_law_lacks" "_law_lacks" (defArgs s_law_lacks) (defBody s_law_lacks) (defScope s_law_lacks) .none kV24 dc24 pm24 an24 cd24 ct24), sl24⟩)
    (c24 : PySem.W.codeIn K cd24 "_law_lacks" = true)
    (k24 : PySem.W.keepIn K (.ref f24) = true)
    (a25 : PySem.W.nsIn K mainGlobals "_law_put_to" = some (some (.ref f25)))
    (l25 : K.lookup f25 = some ⟨oc25, od25, .func (PySem.W.fnOf "_law_put_to" "_law_put_to" (defArgs s_law_put_to) (defBody s_law_put_to) (defScope s_law_put_to) .none kV25 dc25 pm25 an25 cd25 ct25), sl25⟩)
    (c25 : PySem.W.codeIn K cd25 "_law_put_to" = true)
    (k25 : PySem.W.keepIn K (.ref f25) = true)
    (a41 : PySem.W.nsIn K mainGlobals "law" = some (some (.ref f41)))
    (l41 : K.lookup f41 = some ⟨oc41, od41, .func (PySem.W.fnOf "law" "law" (defArgs sLaw) (defBody sLaw) (defScope sLaw) .none kV41 dc41 pm41 an41 cd41 ct41), sl41⟩)
    (c41 : PySem.W.codeIn K cd41 "law" = true)
    (k41 : PySem.W.keepIn K (.ref f41) = true) : LamX.LawAtS l w K CX0 3 63 "_law_script" mg fa h := by
  have e := hfa.symm.trans (PySem.W.mg_of X G a41)
  cases e
  have g : ∀ {x : Str} {v : Value}, PySem.W.nsIn K mainGlobals x = some (some v) → mg x = some v := fun h => PySem.W.mg_of X G h
  have z : ∀ {x : Str}, PySem.W.nsIn K mainGlobals x = some none → mg x = none := fun h => PySem.W.mg_none_of X G h
  have F12 := fun_mk (st := s_without) l12 c12 k12
  have b12 := F12.binds (ps := ["one", "other"]) fun _ _ _ _ _ _ us hl => match us, hl with | [_, _], _ => rfl
  have F13 := fun_mk (st := s_grown) l13 c13 k13
  have b13 := F13.binds (ps := ["rules", "marks"]) fun _ _ _ _ _ _ us hl => match us, hl with | [_, _], _ => rfl
  have F20 := fun_mk (st := sWhole) l20 c20 k20
  have b20 := F20.binds (ps := ["_law_found"]) fun _ _ _ _ _ _ us hl => match us, hl with | [_], _ => rfl
  have F21 := fun_mk (st := sCell) l21 c21 k21
  have b21 := F21.binds (ps := ["_law_script", "_law_k"]) fun _ _ _ _ _ _ us hl => match us, hl with | [_, _], _ => rfl
  have F22 := fun_mk (st := s_law_some) l22 c22 k22
  have b22 := F22.binds (ps := ["_law_cell", "_law_most", "_law_many"]) fun _ _ _ _ _ _ us hl => match us, hl with | [_, _, _], _ => rfl
  have F23 := fun_mk (st := s_law_rules_by) l23 c23 k23
  have b23 := F23.binds (ps := ["_law_script", "_law_many"]) fun _ _ _ _ _ _ us hl => match us, hl with | [_, _], _ => rfl
  have F24 := fun_mk (st := s_law_lacks) l24 c24 k24
  have b24 := F24.binds (ps := ["_law_one", "_law_other"]) fun _ _ _ _ _ _ us hl => match us, hl with | [_, _], _ => rfl
  have F25 := fun_mk (st := s_law_put_to) l25 c25 k25
  have b25 := F25.binds (ps := ["_law_rules", "_law_marks"]) fun _ _ _ _ _ _ us hl => match us, hl with | [_, _], _ => rfl
  have F41 := fun_mk (st := sLaw) l41 c41 k41
  have b41 := F41.binds (ps := ["_law_script"]) fun _ _ _ _ _ _ us hl => match us, hl with | [_], _ => rfl
  have L : LTxt K mg := ⟨z z_isinstance, z z_int, z z_bool, z z_list, z z_len, z z_range, z z_max, z z_sum⟩
  refine ⟨PySem.W.fnOf "law" "law" (defArgs sLaw) (defBody sLaw) (defScope sLaw) .none kV41 dc41 pm41 an41 cd41 ct41, [], spLaw K [], ?_, ?_, ?_, fun s v => .of_eq rfl, ?_, ?_⟩
  · intro p hp
    cases hp
  · intro p hp
    cases hp
  · intro p hp
    cases hp
  · intro H a ns hlen _ hH hS
    refine ⟨a, ns, rfl, hS, by omega, fun R hR => ?_, fun _ => rfl⟩
    cases hR
  · intro base _ _ hT
    have G12 : FnOk l.prog w K mg base CX0 1 f12 _ ["one", "other"] (spWithoutD K) := ok_withoutD F12
    have G13 : FnOk l.prog w K mg base CX0 2 f13 _ ["rules", "marks"] (spGrown K) := ok_grown F13 (z z_list) (z z_sorted) G12 (g a12) k12 b12
    have G20 : FnOk l.prog w K mg base CX0 1 f20 _ ["_law_found"] spWhole := ok_whole F20 L
    have G21 : FnOk l.prog w K mg base CX0 1 f21 _ ["_law_script", "_law_k"] (spCell K) := ok_cell F21 L
    have G22 : FnOk l.prog w K mg base CX0 1 f22 _ pSome4 spSome4 := ok_some4 F22 L
    have G23 : FnOk l.prog w K mg base CX0 2 f23 _ ["_law_script", "_law_many"] (spRulesBy4 K) := ok_rulesBy4 F23 L G21 (g a21) k21 b21 G22 (g a22) k22 b22
    have G24 : FnOk l.prog w K mg base CX0 1 f24 _ ["_law_one", "_law_other"] (spWithout K) := ok_lacks F24
    have G25 : FnOk l.prog w K mg base CX0 2 f25 _ pPut4 (spPut4 K) := ok_put4 F25 L G24 (g a24) k24 b24
    exact ok_law (fun_mk (st := sLaw) l41 c41 k41) L G21 (g a21) k21 b21 G23 (g a23) k23 b23 G22 (g a22) k22 b22 G13 (g a13) k13 b13 G20 (g a20) k20 b20 G24 (g a24) k24 b24 G25 (g a25) k25 b25

end Mb

open PySem PySem.W PyProof.Rows in
set_option maxRecDepth 100000 in
set_option maxHeartbeats 0 in
theorem PySem.Challenge.cw_markbox_k04_grown_holds : PySem.Challenge.rw_markbox_k04_grown.Holds := by
  w_on; o_law; k_head; (case hw => w_witness2)
  k_fill
  refine Mb.walk_tabs (l := PySem.Challenge.rw_markbox_k04_grown) (n := 63) (k := 3) (x := "_law_script") (CX := fun _ => L2.CX0) rfl (by decide) rfl ⟨rfl, by decide, by decide⟩ (fun w h Y => PySem.W.kIn_of Y) ?F (fun _ _ _ _ _ z => z)
  case F =>
    intro w mg fa h KX G hmg tabs
    refine' Mb.all_mk KX G hmg tabs  ?z_sorted ?z_len ?z_isinstance ?z_int ?z_bool ?z_list ?z_range ?z_max ?z_sum ?a12 ?l12 ?c12 ?k12 ?a13 ?l13 ?c13 ?k13 ?a20 ?l20 ?c20 ?k20 ?a21 ?l21 ?c21 ?k21 ?a22 ?l22 ?c22 ?k22 ?a23 ?l23 ?c23 ?k23 ?a24 ?l24 ?c24 ?k24 ?a25 ?l25 ?c25 ?k25 ?a41 ?l41 ?c41 ?k41

    (case z_sorted => k_is)
    (case z_len => k_is)
    (case z_isinstance => k_is)
    (case z_int => k_is)
    (case z_bool => k_is)
    (case z_list => k_is)
    (case z_range => k_is)
    (case z_max => k_is)
    (case z_sum => k_is)
    (case a12 => k_is)
    (case l12 => k_is)
    (case c12 => k_is)
    (case k12 => k_is)
    (case a13 => k_is)
    (case l13 => k_is)
    (case c13 => k_is)
    (case k13 => k_is)
    (case a20 => k_is)
    (case l20 => k_is)
    (case c20 => k_is)
    (case k20 => k_is)
    (case a21 => k_is)
    (case l21 => k_is)
    (case c21 => k_is)
    (case k21 => k_is)
    (case a22 => k_is)
    (case l22 => k_is)
    (case c22 => k_is)
    (case k22 => k_is)
    (case a23 => k_is)
    (case l23 => k_is)
    (case c23 => k_is)
    (case k23 => k_is)
    (case a24 => k_is)
    (case l24 => k_is)
    (case c24 => k_is)
    (case k24 => k_is)
    (case a25 => k_is)
    (case l25 => k_is)
    (case c25 => k_is)
    (case k25 => k_is)
    (case a41 => k_is)
    (case l41 => k_is)
    (case c41 => k_is)
    (case k41 => k_is)

