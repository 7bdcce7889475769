import PyProof.Rows.All
import Wide.All
import OpenK.AllK
import Wide.FinOn
import PyProof.EqAt
import PyProof.EqKinds
import PyProof.TupleCall
import Open.SpecLaws
import KE.OsGo
import HandS.ForSpec
import HandS.Comp
import HandS.Dict
import HandS.Iter
import HandS.Conv
import HandS.Deep
import HandS.TupSets
import HandS.SortOrd
import HandS.SortRule
import HandS.SortKw
import HandS.TupLen
import HandS.Strs
import HandS.SetFor
import HandS.TupAny
import KE.KTupSum
import KE.DataMinMax
import HandS.Walk
import PySem.Challenge.RW_countedcolours_s01_answers
set_option Elab.async false
set_option maxRecDepth 100000
set_option maxHeartbeats 2000000
namespace Cc
open PySem PySem.Spec PyProof.Rows L2
def top (i : Nat) : Stmt := PySem.Challenge.pw_countedcolours_s01_answers.main.body.getD i (.Pass ⟨0, 0, 0, 0⟩)
abbrev sStays : Stmt := top 11
/-- what the top leaves of the built-in names -/
structure Bi (mg : Str → Option Value) : Prop where
  range : mg "range" = none
  tuple : mg "tuple" = none
  list : mg "list" = none
  len : mg "len" = none
  sorted : mg "sorted" = none
  sum : mg "sum" = none
  set : mg "set" = none
  all : mg "all" = none
  min : mg "min" = none
def spStays : Sp := fun vs H Q _ => ∃ n : Nat, vs = [.int n] ∧ n ≤ 1000 ∧
  ∀ p, H p = none → Q (.ref p) (upd H p (.tup (rgV 0 n)))
section
variable {P : Program} {w : World} {K : PySem.W.Frag} {mg : Str → Option Value} {base : Heap}
theorem scStays : FnScope ["size"] ["size"] (defScope sStays) := ⟨rfl, rfl, rfl, by decide +kernel, rfl, by decide +kernel, by decide +kernel⟩
theorem ok_stays {f : Addr} {fd : FuncData} (F : Fun K "all_stays" "all_stays" sStays f fd) (B : Bi mg) : FnOk P w K mg base CX0 1 f fd ["size"] spStays := by
  refine F.ok scStays (fun vs H Q E h => ?_) (fun cdv A outer s H vs Q E hr h => ⟨_, pss_one (ps_ret (pe_tupRg rfl (by rfl) B.tuple (prg_1 (by rfl) B.range (pv 0)))), ?_⟩)
  · obtain ⟨n, rfl, _⟩ := h
    rfl
  · obtain ⟨n, rfl, hn, k⟩ := h
    exact ⟨_, rfl, _, rfl, RgOk.of_le (by omega) (by omega) (by omega) (by omega), k⟩
end
end Cc
set_option Elab.async false
set_option maxRecDepth 100000
set_option maxHeartbeats 2000000
/-! sorted of tuples of whole numbers, however many -/
namespace Cc
open PySem PySem.Spec PyProof.Rows L2
theorem swo_rank (r : Value → Int) : SrtO.Swo fun v u => decide (r v < r u) := by
  refine ⟨fun x y h => ?_, fun x y z h1 h2 => ?_⟩
  · have := of_decide_eq_true h
    exact decide_eq_false (by omega)
  · have a := of_decide_eq_false h1
    have b := of_decide_eq_false h2
    exact decide_eq_false (by omega)
section
variable {prog : Program} {w : World} {A : Around} {s : Shared}
theorem tups_sortable {a : Addr} {vs : List Value} {d : Nat} {B : Int} (hd : 1 ≤ d) (h2 : 2 ≤ vs.length) (x : TS.TupsOk s.heap d B vs) (ha : ∀ o, s.heap.get? a = some o → o.cls ≠ .type "tuple")
    (r : Value → Int) (hr : ∀ v ∈ vs, ∀ ns, TS.TupInts s.heap v ns → r v = TS.code B ns) : SrtO.SortableO prog w A s a vs fun v u => decide (r v < r u) := by
  intro h' keep
  have kt : ∀ b o, s.heap.get? b = some o → o.cls = .type "tuple" → h'.get? b = some o := fun b o e c => keep b o (fun z => ha o (z ▸ e) c) e
  have x' : TS.TupsOk h' d B vs := x.keeps kt
  have hr' : ∀ v ∈ vs, ∀ ns, TS.TupInts h' v ns → r v = TS.code B ns := fun v hv ns t => by
    obtain ⟨n0, t0, _⟩ := x v hv
    have : ns = n0 := t.ints.symm.trans (t0.keeps kt).ints
    rw [this]; exact hr v hv n0 t0
  obtain ⟨fs, k, hl, hi⟩ := TS.firsts_of hd vs x'
  refine ⟨_, fun Q E hq => PySem.W.kat_kind (T := Value.type "int") k (by omega) (fun f hf => ?_) rfl hq, ?_⟩
  · obtain ⟨n, t, rfl⟩ := hi f hf
    exact PySem.W.Looks.of_pure rfl
  · intro p q hp hq
    obtain ⟨ns, tp, lp, bp⟩ := x' _ hp
    obtain ⟨ms, tq, lq, bq⟩ := x' _ hq
    have e1 := hr' _ hp _ tp
    have e2 := hr' _ hq _ tq
    obtain ⟨c, xs, f1, ⟨o, ho, hc, n, hdt⟩, i⟩ := tp
    obtain ⟨c', ys, f2, ⟨o', ho', hc', n', hdt'⟩, i'⟩ := tq
    show wpAny (model prog w) A (keyLt' _ p.1 q.1) (fun b s' => s' = _ ∧ b = decide (r p.1 < r q.1)) _ _
    rw [e1, e2, f1, f2]
    refine PySem.W.kat_lt ho hdt ho' hdt' ?_
    have l1 := i.length
    have l2 := i'.length
    rw [Array.length_toList] at l1 l2
    have sz : decide (xs.size < ys.size) = false := decide_eq_false (by omega)
    rw [sz]
    exact TS.lex_ints 0 i i' (by omega) bp bq ⟨rfl, rfl⟩
end
/-! the numbers of a tuple, the tuples of a list -/
def nV (k : Nat) : V := .int k
def tV (p : List Nat) : List V := p.map nV
theorem tV_ints (p : List Nat) : tV p = (p.map Int.ofNat).map V.int := by
  unfold tV nV; rw [List.map_map]; rfl
/-- tuples of numbers, told by where they stand -/
def Tups (K : PySem.W.Frag) (H : Hp) (L : List (Addr × List Nat)) : Prop := ∀ q ∈ L, SqT K H q.1 (tV q.2)
def refs (L : List (Addr × List Nat)) : List V := L.map fun q => V.ref q.1
theorem perm_lift {α β : Type} {g : α → β} {l n : List β} (h : l.Perm n) : ∀ m : List α, n = m.map g → ∃ m' : List α, m'.Perm m ∧ l = m'.map g := by
  induction h with
  | nil => intro m e; exact ⟨m, .refl _, e⟩
  | @cons x l1 l2 _ ih =>
    intro m e
    cases m with
    | nil => cases e
    | cons y m =>
      rw [List.map_cons] at e
      obtain ⟨e1, e2⟩ := List.cons.inj e
      subst e1
      obtain ⟨m', p, e'⟩ := ih m e2
      exact ⟨y :: m', p.cons y, by rw [e', List.map_cons]⟩
  | swap x y l =>
    intro m e
    match m, e with
    | a :: b :: m, e =>
      rw [List.map_cons, List.map_cons] at e
      obtain ⟨e1, e2⟩ := List.cons.inj e
      obtain ⟨e3, e4⟩ := List.cons.inj e2
      subst e1 e3 e4
      exact ⟨b :: a :: m, .swap a b m, rfl⟩
    | [a], e => simp at e
    | [], e => cases e
  | trans _ _ ih1 ih2 =>
    intro m e
    obtain ⟨m1, p1, e1⟩ := ih2 m e
    obtain ⟨m2, p2, e2⟩ := ih1 m1 e1
    exact ⟨m2, p2.trans p1, e2⟩
/-- what stands later is not before in the order -/
def Rising (L : List (Addr × List Nat)) : Prop := L.Pairwise fun x y => WpBase.before y.2 x.2 = false
theorem code_before {B : Nat} : ∀ (a b : List Nat), a.length = b.length → (∀ x ∈ a, x < B) → (∀ x ∈ b, x < B) → (WpBase.before a b = true ↔ TS.code (B : Int) (a.map Int.ofNat) < TS.code (B : Int) (b.map Int.ofNat))
  | [], [], _, _, _ => by simp [WpBase.before]
  | [], _ :: _, h, _, _ => by simp at h
  | _ :: _, [], h, _, _ => by simp at h
  | x :: a, y :: b, hl, ha, hb => by
    have hl' : a.length = b.length := by simpa using hl
    have ba : TS.Bd (B : Int) (a.map Int.ofNat) := fun m hm => by
      obtain ⟨z, hz, rfl⟩ := List.mem_map.mp hm
      have := ha z (List.mem_cons_of_mem _ hz)
      exact ⟨Int.natCast_nonneg _, by show (z : Int) < B; omega⟩
    have bb : TS.Bd (B : Int) (b.map Int.ofNat) := fun m hm => by
      obtain ⟨z, hz, rfl⟩ := List.mem_map.mp hm
      have := hb z (List.mem_cons_of_mem _ hz)
      exact ⟨Int.natCast_nonneg _, by show (z : Int) < B; omega⟩
    have hl2 : (a.map Int.ofNat).length = (b.map Int.ofNat).length := by simpa using hl'
    have ih := code_before a b hl' (fun z hz => ha z (List.mem_cons_of_mem _ hz)) (fun z hz => hb z (List.mem_cons_of_mem _ hz))
    rw [List.map_cons, List.map_cons]
    simp only [WpBase.before, Bool.or_eq_true, decide_eq_true_eq, Bool.and_eq_true, beq_iff_eq]
    by_cases e : x = y
    · subst e
      rw [TS.code_same hl2, ← ih]
      simp
    · by_cases c : x < y
      · exact ⟨fun _ => TS.code_lt hl2 ba bb (show (Int.ofNat x) < Int.ofNat y by show (x : Int) < y; omega), fun _ => .inl c⟩
      · have := TS.code_lt (d := Int.ofNat y) (e := Int.ofNat x) hl2.symm bb ba (show (Int.ofNat y) < Int.ofNat x by show (y : Int) < x; omega)
        constructor
        · rintro (h | ⟨h, _⟩)
          · exact absurd h c
          · exact absurd h e
        · intro h; omega
/-- sorted(xs), xs a list of tuples of d numbers below B: a new list of the same, in order -/
def rSortTs (K : PySem.W.Frag) (d B : Nat) : List V → Hp → VK → Prop := fun vs H Q => ∃ (a : Addr) (L : List (Addr × List Nat)), vs = [V.ref a] ∧ SqL K H a (refs L) ∧ Tups K H L ∧ (∀ q ∈ L, q.2.length = d ∧ ∀ x ∈ q.2, x < B) ∧
  ∀ (L' : List (Addr × List Nat)) (p : Addr), L'.Perm L → Rising L' → H p = none → Q (.ref p) (upd H p (.lst (refs L')))
section
variable {X : Cx} {pins : List (Addr × Obj)} {σ : L2.St} {H : Hp} {s : Shared}
theorem refs_vals {L : List (Addr × List Nat)} {us : List Value} (r : Vals (refs L) us) : us = L.map fun q => Value.ref q.1 := by
  induction L generalizing us with
  | nil => cases r; rfl
  | cons q L ih =>
    cases r with
    | cons h t => cases h; rw [ih t]; rfl
theorem vals_refs' (L : List (Addr × List Nat)) : Vals (refs L) (L.map fun q => Value.ref q.1) := by
  induction L with
  | nil => exact .nil
  | cons q L ih => exact .cons rfl ih
theorem raw_tups (I : Inv X pins σ H s) {d B : Nat} {L : List (Addr × List Nat)} (ht : Tups X.K H L) (hL : ∀ q ∈ L, q.2.length = d ∧ ∀ x ∈ q.2, x < B) : TS.TupsOk s.heap d B (L.map fun q => Value.ref q.1) := by
  intro v hv
  obtain ⟨q, hq, rfl⟩ := List.mem_map.mp hv
  have h1 := ht q hq
  rw [tV_ints] at h1
  refine ⟨_, tupI_raw I h1, by rw [List.length_map]; exact (hL q hq).1, fun m hm => ?_⟩
  obtain ⟨z, hz, rfl⟩ := List.mem_map.mp hm
  have := (hL q hq).2 z hz
  exact ⟨Int.natCast_nonneg _, by show (z : Int) < B; omega⟩
theorem raw_ints (I : Inv X pins σ H s) {L : List (Addr × List Nat)} (ht : Tups X.K H L) {q : Addr × List Nat} (hq : q ∈ L) : TS.intsOf s.heap (Value.ref q.1) = q.2.map Int.ofNat := by
  have h1 := ht q hq
  rw [tV_ints] at h1
  exact (tupI_raw I h1).ints
/-- what the sort leaves, told by pairs -/
theorem lift_sorted (I : Inv X pins σ H s) {d B : Nat} {L : List (Addr × List Nat)} (ht : Tups X.K H L) (hL : ∀ q ∈ L, q.2.length = d ∧ ∀ x ∈ q.2, x < B) {out : List Value}
    (h1 : SrtO.Srtd (fun v u => decide (TS.code B (TS.intsOf s.heap v) < TS.code B (TS.intsOf s.heap u))) out) (h2 : out.Perm (L.map fun q => Value.ref q.1)) :
    ∃ L' : List (Addr × List Nat), L'.Perm L ∧ Rising L' ∧ out = L'.map fun q => Value.ref q.1 := by
  obtain ⟨L', p, rfl⟩ := perm_lift h2 L rfl
  refine ⟨L', p, ?_, rfl⟩
  have h3 := List.pairwise_map.mp h1
  refine List.Pairwise.imp_of_mem (fun {x y} hx hy h => ?_) h3
  have hx' := p.mem_iff.mp hx
  have hy' := p.mem_iff.mp hy
  have h4 : ¬ TS.code (B : Int) (TS.intsOf s.heap (Value.ref y.1)) < TS.code (B : Int) (TS.intsOf s.heap (Value.ref x.1)) := of_decide_eq_false h
  rw [raw_ints I ht hx', raw_ints I ht hy'] at h4
  apply Bool.eq_false_iff.mpr
  intro z
  exact h4 ((code_before y.2 x.2 ((hL y hy').1.trans (hL x hx').1.symm) (hL y hy').2 (hL x hx').2).mp z)
theorem cr_sortTs {d B : Nat} (hd : 1 ≤ d) : CallR X (.builtin "sorted") (rSortTs X.K d B) := by
  intro pins s σ H vs us Q I r h
  obtain ⟨a, L, rfl, hs, ht, hL, q⟩ := h
  obtain ⟨its, rv, hl, hz⟩ := I.list hs
  rw [Vals.ref1 r]
  have ei := refs_vals rv
  subst ei
  have ok := raw_tups I ht hL
  refine SrtO.sorted_ord (swo_rank fun v => TS.code B (TS.intsOf s.heap v)) hl.isList (by rw [← rv.length]; exact hz) (fun h2 h₁ c hc kk => ?_) fun out h1 h2 => ?_
  · refine tups_sortable (s := { s with heap := h₁ }) hd h2 (ok.keeps fun b o e _ => (kk b o e).2) (fun o e => ?_) _ (fun v hv ns t => ?_)
    · have e' : some o = some (seqObj "list" _ 0) := e.symm.trans hc
      cases e'
      intro z
      exact absurd (Value.type.inj z) (by decide)
    · obtain ⟨n0, t0, _⟩ := ok v hv
      have e0 : ns = n0 := t.ints.symm.trans (t0.keeps fun b o e _ => (kk b o e).2).ints
      show TS.code B (TS.intsOf s.heap v) = TS.code B ns
      rw [t0.ints, e0]
  · obtain ⟨L', p, rs, rfl⟩ := lift_sorted I ht hL h1 h2.perm
    obtain ⟨ep, he⟩ := PyProof.Rows.sortedAll_at s.heap (L.map fun q => Value.ref q.1) (L'.map fun q => Value.ref q.1).toArray
    have hlen : (refs L').length ≤ sizeLine := by
      unfold refs
      rw [List.length_map, p.length_eq]
      unfold refs at hz
      rw [List.length_map] at hz
      exact hz
    exact ⟨.ref _, upd H (s.heap.objs.size + 1) (.lst (refs L')), I.laid (t' := s.toks) (fun _ _ => PyProof.Rows.sortedAll_old) (Nat.le_succ _) ⟨hlen, _, ep, vals_refs' L', he⟩, rfl, q _ _ p rs (I.hok.fresh (Nat.le_succ _))⟩
end
end Cc
set_option Elab.async false
set_option maxRecDepth 100000
set_option maxHeartbeats 2000000
/-! sorted(d, reverse=True), d a dict whose keys are tuples of whole numbers -/
namespace Cc
open PySem PySem.Spec PyProof.Rows L2
def tK (p : List Nat) : List Key := p.map fun (k : Nat) => (Sum.inl (Int.ofNat k) : Key)
theorem tK_kV (p : List Nat) : (tK p).map kV = tV p := by
  unfold tK tV; rw [List.map_map]; rfl
theorem tK_inj {p q : List Nat} (h : tK p = tK q) : p = q := by
  unfold tK at h
  induction p generalizing q with
  | nil => cases q with
    | nil => rfl
    | cons y q => cases h
  | cons x p ih => cases q with
    | nil => cases h
    | cons y q =>
      rw [List.map_cons, List.map_cons] at h
      obtain ⟨h1, h2⟩ := List.cons.inj h
      have h3 : Int.ofNat x = Int.ofNat y := Sum.inl.inj h1
      rw [ih h2, Int.ofNat.inj h3]
def dPs (D : List (List Nat × V)) : List (List Key × V) := D.map fun e => (tK e.1, e.2)
theorem keys_list {H : Hp} : ∀ {D : List (List Nat × V)} {ks : List (List Key × Addr × Value)}, KT H (dPs D) ks → ∃ L : List (Addr × List Nat), L.map (·.2) = D.map (·.1) ∧ (ks.map fun x => Value.ref x.2.1) = L.map (fun q => Value.ref q.1) ∧ ∀ q ∈ L, H q.1 = some (.tup (tV q.2))
  | [], ks, h => by
    cases h
    exact ⟨[], rfl, rfl, fun q hq => by cases hq⟩
  | e :: D, ks, h => by
    cases h with
    | @cons p q l m h t =>
      obtain ⟨L, e1, e2, e3⟩ := keys_list t
      refine ⟨(q.2.1, e.1) :: L, by rw [List.map_cons, List.map_cons, e1], by rw [List.map_cons, List.map_cons, e2], fun r hr => ?_⟩
      rcases List.mem_cons.mp hr with rfl | hr
      · have := h.2.1
        rw [tK_kV] at this
        exact this
      · exact e3 r hr
def Falling (L : List (Addr × List Nat)) : Prop := L.Pairwise fun x y => WpBase.before x.2 y.2 = false
def rSortDT (d B : Nat) : List V → List V → Hp → VK → Prop := fun vs zs H Q => ∃ (a : Addr) (D : List (List Nat × V)), vs = [V.ref a] ∧ zs = [.bl true] ∧ Rd H a (.dT (dPs D)) ∧ (∀ e ∈ D, e.1.length = d ∧ ∀ x ∈ e.1, x < B) ∧
  ∀ (L' : List (Addr × List Nat)) (p : Addr), (L'.map (·.2)).Perm (D.map (·.1)) → Falling L' → (∀ q ∈ L', H q.1 = some (.tup (tV q.2))) → H p = none → Q (.ref p) (upd H p (.lst (refs L')))
section
variable {X : Cx}
theorem cr_sortDT {d B : Nat} (hd : 1 ≤ d) (hc : X.calm = true) : CallRK X (.builtin "sorted") [Str.ofString "reverse"] (rSortDT d B) := by
  intro pins s σ H vs zs us ws Q I r rz h
  obtain ⟨a, D, rfl, rfl, hD, hL, q⟩ := h
  obtain rfl := Vals.ref1 r
  obtain ⟨w1, rfl, e1⟩ := vals1 rz
  obtain rfl : w1 = Value.bool true := e1
  obtain ⟨z, hs, ks, pr, o, es, ep, ho, hx, hdt, he, hn⟩ := (show ObjOk X.prog X.w H s.heap a (.dT (dPs D)) from hD.ok I.hok)
  obtain ⟨L, k1, k2, k3⟩ := keys_list pr
  have l1 : es.size = ks.length := size_of_entries he
  have lk : ks.length = L.length := by simpa using congrArg List.length k2
  have hLz : L.length ≤ sizeLine := by
    have := congrArg List.length k1
    simp only [List.length_map] at this
    unfold dPs at z
    rw [List.length_map] at z
    omega
  refine PyProof.Rows.call_function_entry_kw kind_sorted plain_sorted entry_sorted (PyProof.Rows.args_sorted_rev _ _) ?_
  unfold Builtin.«sorted»
  refine wpAny_bind (m := checkCount "sorted" 1 1 _) (wpAny_pure ?_)
  refine wpAny_bind (PySem.W.kdu_collect (A := X.A.in1) (kdl_raw hs hx hdt) (I.ok.hd hc) ho (by omega) fun h' tk acc kp it => ?_)
  have ea : acc.toList = L.map fun q => Value.ref q.1 := by
    rw [← k2]
    refine List.ext_getElem? fun j => ?_
    rw [List.getElem?_map]
    cases hj : acc.toList[j]? with
    | none =>
      have := List.getElem?_eq_none_iff.mp hj
      have la : acc.toList.length = ks.length := by rw [Array.length_toList, it.1, l1]
      rw [List.getElem?_eq_none (by omega)]
      rfl
    | some v =>
      obtain ⟨en, h1, h2⟩ := it.2 j v (by rw [← Array.getElem?_toList]; exact hj)
      have h3 := entry_at he j
      rw [h1] at h3
      cases hb : ks[j]? with
      | none => rw [hb] at h3; cases h3
      | some b =>
        rw [hb] at h3
        have h4 : en = entryOfKey (tupleKind (mixKind X.prog X.w)) b := Option.some.inj h3
        rw [h2, h4]; rfl
  rw [ea]
  have I1 : Inv X pins σ H { s with heap := h', toks := tk } := I.kept kp
  have ht : Tups X.K H L := fun q hq => SqT.of (k3 q hq)
  have hL' : ∀ q ∈ L, q.2.length = d ∧ ∀ x ∈ q.2, x < B := fun q hq => by
    have : q.2 ∈ D.map (·.1) := k1 ▸ List.mem_map.mpr ⟨q, hq, rfl⟩
    obtain ⟨e, h1, h2⟩ := List.mem_map.mp this
    rw [← h2]; exact hL e h1
  have ok := raw_tups I1 ht hL'
  refine wpAny_bind (wpAny_newList ?_ (by rw [List.length_map]; exact hLz))
  have hoL : (h'.push (seqObj "list" (L.map fun q => Value.ref q.1).toArray 0)).get? h'.objs.size = some (seqObj "list" (L.map fun q => Value.ref q.1).toArray 0) := Heap.get?_push_size _ rfl
  show wpAny _ _ _ _ _ { s with heap := h'.push (seqObj "list" (L.map fun q => Value.ref q.1).toArray 0), toks := tk }
  have kk : ∀ b u, h'.get? b = some u → (h'.push (seqObj "list" (L.map fun q => Value.ref q.1).toArray 0)).get? b = some u := fun b u e => Heap.get?_push_of_some _ e
  refine wpAny_bind (wpAny_holding (PyProof.Rows.wpAny_call_entry_kw PyProof.Rows.slot_list_sort ⟨_, hoL, rfl⟩ PyProof.Rows.entry_list_sort
    (SrtR.list_sort_ordR (b := true) (s := { s with heap := h'.push (seqObj "list" (L.map fun q => Value.ref q.1).toArray 0), toks := tk }) (swo_rank fun v => TS.code B (TS.intsOf h' v)) hoL (by rw [List.length_map]; exact hLz)
      (fun h2 => ?_) fun out h1 h2 => ⟨_, rfl, ?_⟩) (PyProof.Rows.args_list_sort_rev _ _)))
  · refine tups_sortable (s := { s with heap := h'.push (seqObj "list" (L.map fun q => Value.ref q.1).toArray 0), toks := tk }) hd h2 (ok.keeps fun b u e _ => kk b u e) (fun u e => ?_) _ (fun v hv ns t => ?_)
    · have e' : some u = some (seqObj "list" _ 0) := e.symm.trans hoL
      cases e'
      intro z
      exact absurd (Value.type.inj z) (by decide)
    · obtain ⟨n0, t0, _⟩ := ok v hv
      have e0 : ns = n0 := t.ints.symm.trans (t0.keeps fun b u e _ => kk b u e).ints
      show TS.code B (TS.intsOf h' v) = TS.code B ns
      rw [show TS.intsOf h' v = n0 from t0.ints, e0]
  · have h2p : out.Perm (L.map fun q => Value.ref q.1) := h2.perm.trans (List.reverse_perm _)
    obtain ⟨L', p, rs, rfl⟩ := lift_sorted I1 ht hL' h1 h2p
    have pr : L'.reverse.Perm L := (List.reverse_perm _).trans p
    have er : (if true = true then (L'.map fun q => Value.ref q.1).toArray.reverse else (L'.map fun q => Value.ref q.1).toArray) = (L'.reverse.map fun q => Value.ref q.1).toArray := by
      rw [if_pos rfl]
      apply Array.ext'
      rw [Array.toList_reverse, List.map_reverse]
    rw [er]
    obtain ⟨e', he'⟩ := PyProof.Rows.sortedHeap_at (vs := L.map fun q => Value.ref q.1) (out := (L'.reverse.map fun q => Value.ref q.1).toArray) hoL
    have hlen : (refs L'.reverse).length ≤ sizeLine := by
      unfold refs
      rw [List.length_map, pr.length_eq]
      exact hLz
    refine wpAny_pure ⟨_, rfl, .ref h'.objs.size, upd H h'.objs.size (.lst (refs L'.reverse)), I1.laid (t' := tk) (fun b u e => ?_) (Nat.le_refl _)
      (show ObjOk X.prog X.w _ _ _ (.lst (refs L'.reverse)) from ⟨hlen, _, e', vals_refs' _, he'⟩), rfl, q _ _ ?_ ?_ (fun x hx => k3 x (pr.mem_iff.mp hx)) (I1.hok.fresh (Nat.le_refl _))⟩
    · have hb : b < h'.objs.size := Heap.lt_size e
      rw [PyProof.Rows.sortedHeap_old (Nat.ne_of_lt hb) (by rw [size_push']; exact Nat.lt_succ_of_lt hb)]
      exact kk b u e
    · rw [← k1]; exact pr.map _
    · exact List.pairwise_reverse.mpr rs
end
end Cc
set_option Elab.async false
set_option maxRecDepth 100000
set_option maxHeartbeats 2000000
/-! {k: v} with a tuple for its key; xs.extend(t), t a tuple -/
namespace Cc
open PySem PySem.Spec PyProof.Rows L2
def tDisp1 (tk tv : TE) : TE := fun σ H Q => ∀ p, H p = none → tk σ (upd H p (.dT [])) fun x H1 => tv σ H1 fun y H2 =>
  ∃ (b : Addr) (k : List Key), x = .ref b ∧ H2 p = some (.dT []) ∧ H2 b = some (.tup (k.map kV)) ∧ Q (.ref p) (upd H2 p (.dT [(k, y)]))
section
variable {X : Cx}
theorem pe_disp1 {k v : Expr} {tk tv : TE} {pos : Pos} (hu : X.A.units + 1 < cLine) (hk : PE X k tk) (hv : PE X v tv) : PE X (.Dict [some k] [v] pos) (tDisp1 tk tv) := by
  refine ⟨fun pins s σ H Q I q => ?_⟩
  have hn := I.hok.fresh (Nat.le_refl s.heap.objs.size)
  have I1 := I.laid (a := s.heap.objs.size) (o := .dT []) (h' := s.heap.push { cls := .type "dict", data := .dict #[] }) (t' := s.toks) (fun _ _ q => Heap.get?_push_of_some _ q) (Nat.le_refl _) (dt_empty s.heap I.big)
  refine wpAny_Dict_any rfl rfl (by simp) (by simp) (thn ((pps_cons hk hv pps_nil).run pins _ σ _ (fun ps H2 => ∃ x y, ps = [(x, y)] ∧ ∃ (b : Addr) (k : List Key), x = .ref b ∧ H2 s.heap.objs.size = some (.dT []) ∧ H2 b = some (.tup (k.map kV)) ∧ Q (.ref s.heap.objs.size) (upd H2 s.heap.objs.size (.dT [(k, y)]))) I1 ?_)
    fun ws s2 ⟨ps, H2, I2, rel, x, y, e, b, kk, ex, hp, hb, qq⟩ => ?_)
  · have := q _ hn
    show tk σ (upd H s.heap.objs.size (.dT [])) fun x H1 => tv σ H1 fun y H2 => ∃ x1 y1, [(x, y)] = [(x1, y1)] ∧ _
    have e : (fun x H1 => tv σ H1 fun y H2 => ∃ (b : Addr) (k : List Key), x = V.ref b ∧ H2 s.heap.objs.size = some (.dT []) ∧ H2 b = some (.tup (k.map kV)) ∧ Q (.ref s.heap.objs.size) (upd H2 s.heap.objs.size (.dT [(k, y)]))) =
        fun x H1 => tv σ H1 fun y H2 => ∃ x1 y1, [(x, y)] = [(x1, y1)] ∧ ∃ (b : Addr) (k : List Key), x1 = V.ref b ∧ H2 s.heap.objs.size = some (.dT []) ∧ H2 b = some (.tup (k.map kV)) ∧ Q (.ref s.heap.objs.size) (upd H2 s.heap.objs.size (.dT [(k, y1)])) := by
      funext x H1
      congr 1
      funext y H2
      apply propext
      constructor
      · rintro h; exact ⟨x, y, rfl, h⟩
      · rintro ⟨x1, y1, e, h⟩
        cases e
        exact h
    rw [← e]; exact this
  · subst e ex
    cases rel with
    | @cons p0 q0 l0 m0 h t =>
      cases t
      obtain ⟨u, r⟩ := q0
      obtain ⟨h1, h2⟩ := h
      cases (show u = Value.ref b from h1)
      obtain ⟨z, hd, xs, rk, dd⟩ := dt_of I2.hok hp
      cases rk
      unfold storeAll
      rw [List.forIn_cons]
      have key : wpAny (model X.prog X.w) X.A (dictSet s.heap.objs.size (.ref b) r) (fun _ s' => EP X pins σ Q (.ref s.heap.objs.size) s') X.xe s2 := by
        refine wpAny_dictSet_heap (hsz := by simp) (knd := tupleKind (mixKind X.prog X.w)) (show X.A.units < cLine by omega) (key_of I2.hok hb) dd fun h' dd' hs => ?_
        obtain ⟨q1, es, ep, hq, g2, g3, g4, _, g5⟩ := dd'
        refine ⟨.ref s.heap.objs.size, upd H2 s.heap.objs.size (.dT [(kk, y)]), d_write I2 (by rw [hp]; exact True.intro) hs ⟨q1, hq⟩ (show ObjOk X.prog X.w _ _ _ (.dT [(kk, y)]) from ⟨?_, hd, _, (KT.put (kvs := []) (xs := []) .nil kk hb h2).keeps fun c ys ec => ?_, q1, es, ep, hq, g2, g3, g4, g5⟩), rfl, qq⟩
        · show 1 ≤ sizeLine
          decide
        · rw [upd_ne (ne_of ec hp (fun z => nomatch z))]
          exact ec
      refine wpAny_bind (wpAny_bind (wpAny_mono key (fun _ s3 h3 => wpAny_pure ?_) fun _ _ e => e))
      show wpAny _ _ (forIn [] _ _) _ _ _
      rw [List.forIn_nil]
      exact wpAny_pure h3
end
theorem extend_tup (l : Addr) (items : Array Value) (n : Nat) (b : Addr) (items2 : Array Value) (n2 : Nat) (dd : Option Addr) (sl : Array (Option Value)) (hs0 : ¬(!items.isEmpty && Builtin.List.listTooLong (items.size + items2.size)) = true) (hs1 : items.size ≤ sizeLine) (hs2 : items.size + items2.size ≤ sizeLine + 1) :
    Meets (Builtin.«list.extend» ⟨[.ref l, .ref b], []⟩) (fun _ R s => s.heap.get? l = some { cls := .type "list", dict := none, data := .seq items n, slots := #[] } ∧ s.heap.get? b = some { cls := .type "tuple", dict := dd, data := .seq items2 n2, slots := sl } ∧ R (.ok (.ret Value.none)) { s with heap := s.heap.update l (Obj.mapSeq fun x => x ++ items2), toks := s.toks }) :=
  .of_wp fun prog w A R s h => by
    obtain ⟨hp, g, d, tk, os⟩ := s
    obtain ⟨hl, hb, h⟩ := h
    have f1 := AutoSeq1.idx_int
    have f2 := AutoSeq1.sub_tuple_tuple
    have f3 := AutoSeq1.sub_list_list
    have f4 := AutoSeq1.sub_tuple_list
    have f5 := AutoSeq1.sub_list_tuple
    have hz' : (items ++ items2).size ≤ sizeLine + 1 := by rw [Array.size_append]; exact hs2
    wp_walk using (wpAny_updateSeq hl rfl (hz := hs1) (_hz' := hz')), wpAny_loadPart' hl, wpAny_loadPart' hb
    exact ⟨_, rfl, h⟩
section
variable {X : Cx}
def rExtT (K : PySem.W.Frag) : V → List V → Hp → VK → Prop := fun x vs H Q => ∃ (l b : Addr) (xs zs : List V), x = .ref l ∧ vs = [.ref b] ∧ H l = some (.lst xs) ∧ SqT K H b zs ∧ xs.length + zs.length ≤ sizeLine ∧ Q .non (upd H l (.lst (xs ++ zs)))
theorem mt_extT : MtM X "list.extend" (rExtT X.K) := by
  intro pins s σ H x vs v us Q I rx rv h
  obtain ⟨l, b, xs, zs, rfl, rfl, hH, hB, hz, q⟩ := h
  cases rx
  obtain ⟨u, rfl, ru⟩ := rv.one
  cases ru
  obtain ⟨z, its, n, r, hl, e⟩ := I.lstM hH
  obtain ⟨its2, r2, ⟨⟨cl, dd, dt, sl⟩, ho, hc, n2, hd⟩, z2⟩ := I.tuple hB
  simp only at hc hd
  subst hc hd
  have hl2 := r2.length
  have hsz : its.toArray.size + its2.toArray.size ≤ sizeLine := by rw [List.size_toArray, List.size_toArray]; omega
  refine call_meets F.slot_list_extend ⟨_, e, rfl⟩ F.entry_list_extend (F.args_list_extend_2 _ _)
    (extend_tup l its.toArray n b its2.toArray n2 dd sl (by rw [notLongL hsz, Bool.and_false]; exact Bool.false_ne_true) (by rw [List.size_toArray]; omega) (by omega)) ⟨e, ho, ?_⟩
  refine ⟨.non, _, I.lset (its' := its ++ its2) hH e (by simp) (r.append r2) ?_, rfl, q⟩
  rw [List.length_append]
  omega
end
end Cc
set_option Elab.async false
set_option maxRecDepth 100000
set_option maxHeartbeats 3200000
/-! sorted(set(xs)), xs a list of whole numbers -/
namespace Cc
open PySem PySem.Spec PyProof.Rows L2
abbrev setO0 (w : World) : Obj := { cls := .type "set", dict := none, data := .set #[] 0 (.fresh 0 0 (!w.params.followText "set-order")) }
section
variable {P : Program} {w : World} {A : Around} {E : Value → Shared → Prop} {s : Shared}
/-- what set.__init__ does with a list of whole numbers, the new set standing at the end -/
theorem init_ints {l : Addr} {items : Array Value} (ns : List Int) (hh : A.handled = none) (hl : s.heap.IsList l items) (hit : IntsAre items.toList ns) (hb : ns.length + 1 < scanBound) {R : PySem.Fin → Shared → Prop}
    (h : ∀ (h' : Heap) (tk c : Nat), SetR w h' s.heap.objs.size (fun j => decide (j ∈ ns)) c → c ≤ ns.length → (∀ b o, s.heap.get? b = some o → h'.get? b = some o) → R (.done (.ret .none)) { s with heap := h', toks := tk }) :
    wpAny (model P w) A (Builtin.«set.__init__» ⟨[.ref s.heap.objs.size, .ref l], []⟩) R E { s with heap := s.heap.push (setO0 w) } := by
  have isz : items.size = ns.length := (Array.length_toList (xs := items)) ▸ IntsAre.length hit
  obtain ⟨⟨oc, od, dt, os⟩, hol, hcl, nl, hdl⟩ := hl
  simp only at hcl hdl
  subst hcl hdl
  have hS : (s.heap.push (setO0 w)).get? s.heap.objs.size = some (setO0 w) := Heap.get?_push_size _ rfl
  have hol' : (s.heap.push (setO0 w)).get? l = some { cls := .type "list", dict := od, data := .seq items nl, slots := os } := Heap.get?_push_of_some _ hol
  have q1 := F.sub_list_set
  have q2 := F.sub_list_frozenset
  have q3 : (Value.type "list" == Value.type "dict") = false := by decide
  have hl1 : (s.heap.push (setO0 w)).IsList l items := ⟨_, hol', rfl, nl, rfl⟩
  have hT : Shared.TypeIs { s with heap := s.heap.push (setO0 w) } (.ref s.heap.objs.size) "set" := ⟨_, hS, rfl⟩
  unfold Builtin.«set.__init__» noKeywords Builtin.Frozenset.updateFrom
  generalize hPI : pyIter = PI
  wp_walk
  subst hPI
  refine wpAny_pyIter_list hl1 (wpAny_bind (wpAny_runValue ?_))
  have lt : l < s.heap.objs.size := Heap.lt_size hol
  have sz : (s.heap.push (setO0 w)).objs.size = s.heap.objs.size + 1 := Heap.size_push ..
  have n1 : l ≠ (s.heap.push (setO0 w)).objs.size := by rw [sz]; exact Nat.ne_of_lt (Nat.lt_succ_of_lt lt)
  have n2 : s.heap.objs.size ∉ [(s.heap.push (setO0 w)).objs.size, l] := by
    rw [sz]
    intro z
    rcases List.mem_cons.mp z with z | z
    · exact Nat.ne_of_lt (Nat.lt_succ_self _) z
    · exact Nat.ne_of_gt lt (List.mem_singleton.mp z)
  have hval : ∀ (i : Nat) (v : Value), items[i]? = some v → ∃ k t, ns[i]? = some k ∧ v = .int k t := fun i v hv => by
    have hi : i < ns.length := isz ▸ (Array.getElem?_eq_some_iff.mp hv).1
    obtain ⟨t, e⟩ := PyProof.Rows.IntsAre.int_at hit i v (by rw [Array.getElem?_toList]; exact hv)
    exact ⟨ns[i], t, List.getElem?_eq_getElem hi, by rw [e]; simp [hi]⟩
  refine set_update_ints ((Walks.list (by simp [hh]) _ l n1 items).toS) s.heap.objs.size n2 ns isz hb hval (items.size - 0) 0 _ (by omega) (Nat.zero_le _) ⟨⟨_, Heap.get?_push_size _ rfl, rfl, rfl⟩, hl1.push _⟩
    ⟨0, Nat.le_refl 0, setR_new_at (Heap.get?_push_of_some _ hS)⟩ ?_
  rintro ⟨h', g2, d', tk', os'⟩ c' hm hc' hS'
  obtain rfl : g2 = s.gens := hm.gens
  obtain rfl : d' = s.drawn := hm.drawn
  obtain rfl : os' = s.os := hm.os
  refine wpAny_pure (wpAny_pure (h h' tk' c' hS' (isz ▸ hc') fun b o e => ?_))
  have lb : b < s.heap.objs.size := Heap.lt_size e
  refine hm.heap b o (fun z => ?_) (Heap.get?_push_of_some _ (Heap.get?_push_of_some _ e))
  rcases List.mem_cons.mp z with z | z
  · exact Nat.ne_of_lt lb z
  · have z := List.mem_singleton.mp z
    rw [sz] at z
    exact Nat.ne_of_lt (Nat.lt_succ_of_lt lb) z
set_option maxHeartbeats 6400000 in
theorem set_ints {l : Addr} {items : Array Value} (ns : List Int) {Q : Value → Shared → Prop} (hh : A.handled = none) (hl : s.heap.IsList l items) (hit : IntsAre items.toList ns) (hb : ns.length + 1 < scanBound)
    (h : ∀ (h' : Heap) (tk c : Nat), SetR w h' s.heap.objs.size (fun j => decide (j ∈ ns)) c → c ≤ ns.length → (∀ b o, s.heap.get? b = some o → h'.get? b = some o) → Q (.ref s.heap.objs.size) { s with heap := h', toks := tk }) :
    wpAny (model P w) A (call (.type "set") [.ref l]) Q E s := by
  obtain ⟨c, tl, hmro⟩ := F.called_set.mro
  have g1 := F.called_set.made
  have g2 := F.called_set.sub
  have g3 := F.called_set.notType
  have g4 := F.called_set.canCreate
  have g5 := F.typeCall_set_1 (.ref l)
  refine wpAny_call (codeAny_of_tree (show wpAny _ _ (callAny (.type "set") _) _ _ _ from wpAny_pure ⟨Code.quiet_builtin _ (by decide +kernel), codeAny_builtin F.entry_type_call ?_⟩))
  rw [Around.under_plain (weight_type_call_type "set" [.ref l] []) rfl]
  repeat (any_goals (first | assumption | wp_step))
  refine codeAny_mono (code_set_led1 (.ref l) (E := E) (Q₁ := fun obj s₁ => obj = .ref s.heap.objs.size ∧ s₁ = { s with heap := s.heap.push (setO0 w) }) ⟨rfl, rfl⟩) fun r s₁ hr => ?_
  rcases r with e | fl
  · exact hr
  cases fl with
  | ret obj =>
    obtain ⟨rfl, rfl⟩ := hr
    have hT : Shared.TypeIs { s with heap := s.heap.push (setO0 w) } (.ref s.heap.objs.size) "set" := ⟨_, Heap.get?_push_size _ rfl, rfl⟩
    have g6 := F.called_set.init.lookup
    have g7 := F.called_set.init.bind (.ref s.heap.objs.size)
    repeat (any_goals (first | assumption | wp_step))
    refine codeAny_mono (codeAny_call_builtin (R := wants (fun r s₂ => r = .none ∧ Q (.ref s.heap.objs.size) s₂) E) F.called_set.init.plain F.entry_set_init (check_set_init_1 hT ?_)) fun r₂ s₂ hr₂ => ?_
    · refine init_ints ns (by simp [hh]) hl hit hb fun h' tk c' a1 a2 a3 => ?_
      exact ⟨rfl, h h' tk c' a1 a2 a3⟩
    · rcases r₂ with e | fl₂
      · exact hr₂
      cases fl₂ with
      | ret r =>
        obtain ⟨rfl, hq⟩ := hr₂
        repeat (any_goals (first | assumption | wp_step))
        try exact hq
      | _ => exact hr₂.elim
  | _ => exact hr.elim
end
section
variable {X : Cx}
/-- set(xs): a new set of the numbers -/
def rSetI (K : PySem.W.Frag) (w : World) : List V → Hp → VK → Prop := fun vs H Q => ∃ (a : Addr) (ns : List Int), vs = [V.ref a] ∧ SqL K H a (ns.map V.int) ∧ ns.length ≤ 4000 ∧
  ∀ (p : Addr) (ks : List Int), ks.Nodup → (∀ k, k ∈ ks ↔ k ∈ ns) → H p = none → Q (.ref p) (upd H p (SetO w p (fun j => decide (j ∈ ns)) ks.length))
theorem setR_keys {w : World} {h : Heap} {a : Addr} {ns : List Int} {c : Nat} (R : SetR w h a (fun j => decide (j ∈ ns)) c) : ∃ ks : List Int, ks.Nodup ∧ (∀ k, k ∈ ks ↔ k ∈ ns) ∧ c = ks.length := by
  obtain ⟨o, es, ep, t, ho, r1, r2, r3, r4, r5, r6, r7, r8, _⟩ := R
  refine ⟨es.toList.map keyOf, r4, fun k => ?_, by simp [← r8]⟩
  rw [← r5 k, decide_eq_true_eq]
theorem cr_setI (hc : X.calm = true) : CallR X (.type "set") (rSetI X.K X.w) := by
  intro pins s σ H vs us Q I r h
  obtain ⟨a, ns, rfl, hs, hn, q⟩ := h
  obtain ⟨its, rv, hl, hz⟩ := I.list hs
  rw [Vals.ref1 r]
  refine set_ints ns (I.ok.hd hc) hl.isList (by simpa using rv.ints) (by unfold scanBound; omega) fun h' tk c a1 a2 a3 => ?_
  obtain ⟨ks, k1, k2, rfl⟩ := setR_keys a1
  exact ⟨.ref _, upd H s.heap.objs.size (SetO X.w s.heap.objs.size (fun j => decide (j ∈ ns)) ks.length), I.laid (t' := tk) a3 (Nat.le_refl _) (setO_new a1), rfl, q _ ks k1 k2 (I.hok.fresh (Nat.le_refl _))⟩
end
end Cc
set_option Elab.async false
set_option maxRecDepth 100000
set_option maxHeartbeats 2000000
/-! a set's table, up to 512 slots -/
namespace Cc
open PySem PySem.Spec PyProof.Rows L2
/-- a table of so many slots: on the way of any hash each slot begins a run -/
structure Goes (m : Nat) : Prop where
  is : m = 7 ∨ m = 31 ∨ m = 127 ∨ m = 511
  meet : ∀ (h : Int) (j : Nat), j ≤ m → ∃ n, n < m + 13 ∧ runI m (SetTable.bits h) n = j
theorem or_bits (f : Nat → Nat) : ∀ (l : List Nat) (s j : Nat), (l.foldl (fun s k => s ||| 2 ^ f k) s).testBit j = true → s.testBit j = true ∨ ∃ k ∈ l, f k = j
  | [], _, _, h => .inl h
  | x :: l, s, j, h => by
    rcases or_bits f l _ j h with q | ⟨k, hk, e⟩
    · rw [Nat.testBit_or, Bool.or_eq_true, Nat.testBit_two_pow, decide_eq_true_eq] at q
      rcases q with q | q
      · exact .inl q
      · exact .inr ⟨x, by simp, q⟩
    · exact .inr ⟨k, List.mem_cons_of_mem _ hk, e⟩
set_option exponentiation.threshold 600 in
theorem sum511 : (List.range 512).foldl (fun s k => s ||| 2 ^ lcgN 511 k) 0 = 2 ^ 512 - 1 := by decide +kernel
theorem at511 {j : Nat} (h : j ≤ 511) : ∃ b, b < 512 ∧ lcgN 511 b = j := by
  have q : ((List.range 512).foldl (fun s k => s ||| 2 ^ lcgN 511 k) 0).testBit j = true := by
    rw [sum511, Nat.testBit_two_pow_sub_one]; exact decide_eq_true (by omega)
  rcases or_bits _ _ _ _ q with z | ⟨k, hk, e⟩
  · simp at z
  · exact ⟨k, List.mem_range.mp hk, e⟩
theorem end511 : lcgN 511 512 = 0 := by decide +kernel
theorem again511 : ∀ k, lcgN 511 (512 + k) = lcgN 511 k
  | 0 => end511
  | k + 1 => by
    show (lcgN 511 (512 + k) * 5 + 1) % 512 = (lcgN 511 k * 5 + 1) % 512
    rw [again511 k]
theorem from511 {i j : Nat} (hi : i ≤ 511) (hj : j ≤ 511) : ∃ k, k < 512 ∧ lcgI 511 i k = j := by
  obtain ⟨a, ha, rfl⟩ := at511 hi
  obtain ⟨b, hb, rfl⟩ := at511 hj
  by_cases c : a ≤ b
  · exact ⟨b - a, by omega, by rw [lcgN_add, Nat.add_sub_cancel' c]⟩
  · exact ⟨512 + b - a, by omega, by rw [lcgN_add, show a + (512 + b - a) = 512 + b by omega, again511]⟩
theorem goes511 : Goes 511 := ⟨.inr (.inr (.inr rfl)), fun h j hj => by
  obtain ⟨k, hk, e⟩ := from511 (runI_le 511 (SetTable.bits h) 12) hj
  exact ⟨12 + k, by omega, (runI_tail (bits_lt h) k).trans e⟩⟩
theorem goes_of {m : Nat} (hm : MaskOk m) : Goes m := ⟨by rcases hm with e | e | e <;> omega, fun h j hj => by
  obtain ⟨n, hn, e⟩ := run_meets hm h hj
  exact ⟨n, by omega, e⟩⟩
abbrev sat (t : SetTable) : List Nat := t.place.toList
abbrev go0 (m : Nat) (h : Int) : SetTable.Probe := runAt m (SetTable.bits h % (m + 1)) (SetTable.bits h)
theorem way_in (m : Nat) (h : Int) (k : Nat) : way m h k ≤ m := by
  have a := runEnd_bd (m := m) (i := SetTable.bits h % (m + 1)) (Nat.le_of_lt_succ (Nat.mod_lt _ (Nat.succ_pos m)))
  have b := nth_in k (go0 m h) (show SetTable.bits h % (m + 1) + (SetTable.runEnd m (SetTable.bits h % (m + 1)) - SetTable.bits h % (m + 1)) ≤ m by omega)
  exact Nat.le_trans (Nat.le_add_right _ _) b
theorem Goes.way {m : Nat} (g : Goes m) (h : Int) {j : Nat} (hj : j ≤ m) : ∃ k, k < 10 * (m + 13) ∧ L2.way m h k = j := by
  obtain ⟨n, hn, e⟩ := g.meet h j hj
  obtain ⟨k, hk, e2⟩ := run_nth m (SetTable.bits h) n
  exact ⟨k, by omega, (congrArg SetTable.Probe.j e2).trans e⟩
/-- each that sits in the table is met again on the way of its hash, behind slots that are taken -/
structure Tb (t : SetTable) (hs : List Int) : Prop where
  up : Ris (sat t)
  none : t.dummies = #[]
  size : (sat t).length = hs.length
  goes : Goes t.mask
  top : ∀ x ∈ sat t, x ≤ t.mask
  met : ∀ (i : Nat) (h : Int) (j : Nat), hs[i]? = some h → (sat t)[i]? = some j → ∃ k, way t.mask h k = j ∧ ∀ q, q < k → way t.mask h q ∈ sat t
/-- K is the first step of the way at which the slot is free -/
def Gap (t : SetTable) (h : Int) (K : Nat) : Prop := way t.mask h K ∉ sat t ∧ ∀ q, q < K → way t.mask h q ∈ sat t
theorem Tb.gap {t : SetTable} {hs : List Int} (T : Tb t hs) (hl : hs.length ≤ t.mask) (h : Int) : ∃ K, K < 10 * (t.mask + 13) ∧ Gap t h K := by
  obtain ⟨j, hj, nj⟩ := st_missing (sat t) (t.mask + 1) (by rw [T.size]; omega)
  obtain ⟨k, hk, e⟩ := T.goes.way h (Nat.le_of_lt_succ hj)
  obtain ⟨K, a, b, c⟩ := st_least (p := fun k => L2.way t.mask h k ∉ sat t) k (fun z => nj (e ▸ z))
  exact ⟨K, by omega, b, fun q hq => Classical.byContradiction (c q hq)⟩
/-- what has the hash is met ahead of the first free slot -/
theorem Tb.ahead {t : SetTable} {hs : List Int} (T : Tb t hs) {h : Int} {K i : Nat} (g : Gap t h K) (hi : hs[i]? = some h) : ∃ q, q < K ∧ (sat t)[i]? = some (way t.mask h q) := by
  have il : i < (sat t).length := by rw [T.size]; exact (List.getElem?_eq_some_iff.mp hi).1
  obtain ⟨k, e, b⟩ := T.met i h _ hi (List.getElem?_eq_getElem il)
  refine ⟨k, ?_, by rw [e]; exact List.getElem?_eq_getElem il⟩
  apply Decidable.byContradiction
  intro c
  by_cases z : k = K
  · subst z; exact g.1 (by rw [e]; exact List.getElem_mem il)
  · exact g.1 (b K (by omega))
theorem Tb.put {t : SetTable} {hs : List Int} (T : Tb t hs) {h : Int} {K : Nat} (g : Gap t h K) : SetTable.below t.place (way t.mask h K) ≤ hs.length ∧
    Tb (t.put (way t.mask h K)).1 (hs.take (SetTable.below t.place (way t.mask h K)) ++ h :: hs.drop (SetTable.below t.place (way t.mask h K))) := by
  have pp : sat (t.put (way t.mask h K)).1 = (sat t).take (SetTable.below t.place (way t.mask h K)) ++ way t.mask h K :: (sat t).drop (SetTable.below t.place (way t.mask h K)) := put_place t (way t.mask h K)
  have wi := way_in t.mask h K
  have pl := (below_cut T.up (way t.mask h K)).1
  have ins := ris_insert (xs := t.place) T.up (j := way t.mask h K) (fun e => g.1 (List.mem_of_getElem? (by rw [Array.getElem?_toList]; exact e)))
  have hb := g.2
  generalize SetTable.below t.place (way t.mask h K) = p at pp pl ⊢
  generalize e : way t.mask h K = j at pp ins wi ⊢
  have pl1 : p ≤ (sat t).length := by rw [Array.length_toList]; exact pl
  have pl2 : p ≤ hs.length := T.size ▸ pl1
  have more : ∀ {x : Nat}, x ∈ sat t → x ∈ sat (t.put j).1 := fun hx => by rw [pp]; exact mem_ins.mpr (.inr hx)
  refine ⟨pl2, ⟨ins, put_dm T.none j, ?_, T.goes, fun x hx => ?_, fun i h' j' h1 h2 => ?_⟩⟩
  · rw [pp, len_ins _ pl1, len_ins _ pl2, T.size]
  · rw [pp] at hx
    rcases mem_ins.mp hx with z | z
    · exact z ▸ wi
    · exact T.top x z
  · rw [tins_get _ pl2] at h1
    rw [pp, tins_get _ pl1] at h2
    by_cases c1 : i < p
    · rw [if_pos c1] at h1 h2
      obtain ⟨k, a, b⟩ := T.met i h' j' h1 h2
      exact ⟨k, a, fun q hq => more (b q hq)⟩
    rw [if_neg c1] at h1 h2
    by_cases c2 : i = p
    · rw [if_pos c2] at h1 h2
      cases h1
      cases h2
      exact ⟨K, e, fun q hq => more (hb q hq)⟩
    · rw [if_neg c2] at h1 h2
      obtain ⟨k, a, b⟩ := T.met (i - 1) h' j' h1 h2
      exact ⟨k, a, fun q hq => more (b q hq)⟩
/-! all laid anew -/
/-- the slots of those laid so far, one behind another -/
structure Seats (m : Nat) (done : List Int) (ow : Array (Option Nat)) (ps : List Nat) : Prop where
  size : ow.size = m + 1
  len : ps.length = done.length
  top : ∀ x ∈ ps, x ≤ m
  nd : ps.Nodup
  sits : ∀ j k, j ≤ m → (oAt ow j = some k ↔ ps[k]? = some j)
  met : ∀ (i : Nat) (h : Int) (j : Nat), done[i]? = some h → ps[i]? = some j → ∃ k, way m h k = j ∧ ∀ q, q < k → way m h q ∈ ps
theorem Seats.free {m : Nat} {done : List Int} {ow : Array (Option Nat)} {ps : List Nat} (S : Seats m done ow ps) {j : Nat} (hj : j ≤ m) : oAt ow j = none ↔ j ∉ ps := by
  constructor
  · intro e c
    obtain ⟨k, hk, z⟩ := List.mem_iff_getElem.mp c
    have := (S.sits j k hj).mpr (by rw [List.getElem?_eq_getElem hk, z])
    rw [e] at this; cases this
  · intro c
    cases e : oAt ow j with
    | none => rfl
    | some k => exact absurd (List.mem_of_getElem? ((S.sits j k hj).mp e)) c
theorem seats_nil (m : Nat) : Seats m [] (Array.replicate (m + 1) none) [] :=
  ⟨by simp, rfl, fun x h => (by cases h), List.nodup_nil, fun j k hj => by rw [oAt_init hj]; simp, fun i h j e => by simp at e⟩
theorem Seats.add {m : Nat} (g : Goes m) {done : List Int} {ow : Array (Option Nat)} {ps : List Nat} (S : Seats m done ow ps) (hl : done.length ≤ m) (h : Int) :
    ∃ j, SetTable.layClean.free m ow (SetTable.turns m) (SetTable.bits h % (m + 1)) (SetTable.bits h) = some j ∧ Seats m (done ++ [h]) (ow.setIfInBounds j (some done.length)) (ps ++ [j]) := by
  obtain ⟨j0, h0, n0⟩ := st_missing ps (m + 1) (by rw [S.len]; omega)
  obtain ⟨n, hn, e⟩ := g.meet h j0 (Nat.le_of_lt_succ h0)
  have ez : way m h (off m (SetTable.bits h % (m + 1)) (SetTable.bits h) n) = j0 := by
    have z := congrArg SetTable.Probe.j (nth_off m n (SetTable.bits h % (m + 1)) (SetTable.bits h))
    rw [itL_run] at z
    exact z.trans e
  obtain ⟨K, a, b, c⟩ := st_least (p := fun k => way m h k ∉ ps) _ (show way m h _ ∉ ps from fun z => n0 (ez ▸ z))
  have taken : ∀ q, q < K → way m h q ∈ ps := fun q hq => Classical.byContradiction (c q hq)
  have fr : oAt ow (way m h K) = none := (S.free (way_in m h K)).mpr b
  refine ⟨way m h K, free_spec m ow _ n _ _ K (by unfold SetTable.turns; omega) a (fun k hk => ?_) ?_, ?_⟩
  · cases z : oAt ow (way m h k) with
    | none => exact absurd (taken k hk) ((S.free (way_in m h k)).mp z)
    | some _ => rfl
  · exact congrArg Option.isNone fr
  have wl : way m h K < ow.size := by rw [S.size]; exact Nat.lt_succ_of_le (way_in m h K)
  refine ⟨by rw [Array.size_setIfInBounds]; exact S.size, by rw [List.length_append, List.length_append, S.len]; rfl, fun x hx => ?_, ?_, fun j k hj => ?_, fun i h' j h1 h2 => ?_⟩
  · rcases List.mem_append.mp hx with z | z
    · exact S.top x z
    · rw [List.mem_singleton.mp z]; exact way_in m h K
  · rw [List.nodup_append]
    exact ⟨S.nd, by simp, fun x hx y hy z => b (by rw [List.mem_singleton] at hy; rw [← hy, ← z]; exact hx)⟩
  · by_cases z : j = way m h K
    · subst z
      rw [oAt_set_self _ wl]
      constructor
      · intro q
        have : done.length = k := Option.some.inj q
        subst this
        rw [← S.len, List.getElem?_append_right (Nat.le_refl _), Nat.sub_self]; rfl
      · intro q
        by_cases y : k < ps.length
        · rw [List.getElem?_append_left y] at q
          exact absurd (List.mem_of_getElem? q) b
        · rw [List.getElem?_append_right (by omega)] at q
          have := (List.getElem?_eq_some_iff.mp q).1
          have hk : k = ps.length := by simp at this; omega
          rw [hk, S.len]
    · rw [oAt_set_ne _ z, S.sits j k hj]
      constructor
      · intro q
        rw [List.getElem?_append_left (List.getElem?_eq_some_iff.mp q).1]; exact q
      · intro q
        by_cases y : k < ps.length
        · rwa [List.getElem?_append_left y] at q
        · rw [List.getElem?_append_right (by omega)] at q
          have := List.mem_singleton.mp (List.mem_of_getElem? q)
          exact absurd this z
  · by_cases y : i < ps.length
    · rw [List.getElem?_append_left y] at h2
      rw [List.getElem?_append_left (by rw [← S.len]; exact y)] at h1
      obtain ⟨k, u, v⟩ := S.met i h' j h1 h2
      exact ⟨k, u, fun q hq => List.mem_append.mpr (.inl (v q hq))⟩
    · rw [List.getElem?_append_right (by omega)] at h2
      rw [List.getElem?_append_right (by rw [← S.len]; omega)] at h1
      have e1 := List.mem_singleton.mp (List.mem_of_getElem? h1)
      have e2 := List.mem_singleton.mp (List.mem_of_getElem? h2)
      subst e1 e2
      exact ⟨K, rfl, fun q hq => List.mem_append.mpr (.inl (taken q hq))⟩
theorem seats_fold {m : Nat} (g : Goes m) : ∀ (rest done : List Int) (ow : Array (Option Nat)) (ps : List Nat), Seats m done ow ps → done.length + rest.length ≤ m →
    ∃ ow' ps', rest.foldl (stepF m) (some (ow, done.length)) = some (ow', done.length + rest.length) ∧ Seats m (done ++ rest) ow' ps'
  | [], done, ow, ps, S, _ => ⟨ow, ps, rfl, by rw [List.append_nil]; exact S⟩
  | h :: rest, done, ow, ps, S, hl => by
    rw [List.length_cons] at hl
    obtain ⟨j, e, S1⟩ := S.add g (by omega) h
    have l1 : (done ++ [h]).length = done.length + 1 := by simp
    obtain ⟨ow', ps', f, S2⟩ := seats_fold g rest (done ++ [h]) _ _ S1 (by rw [l1]; omega)
    rw [List.append_assoc] at S2
    rw [l1] at f
    refine ⟨ow', ps', ?_, S2⟩
    rw [List.foldl_cons, stepF_some e, f, List.length_cons]
    congr 2; omega
theorem seats_all {m : Nat} (g : Goes m) {hs : Array Int} (hn : hs.size ≤ m) : ∃ ow ps, SetTable.layClean m hs = some ow ∧ Seats m hs.toList ow ps := by
  obtain ⟨ow, ps, f, S⟩ := seats_fold g hs.toList [] _ _ (seats_nil m) (by rw [Array.length_toList]; simpa using hn)
  refine ⟨ow, ps, ?_, S⟩
  rw [layClean_eq]
  have f' : hs.toList.foldl (stepF m) (some (Array.replicate (m + 1) none, 0)) = some (ow, [].length + hs.toList.length) := f
  rw [f']; rfl
theorem tb_relaid (t : SetTable) {hs : Array Int} {wanted M : Nat} (hw : SetTable.sizeAbove wanted - 1 = M) (g : Goes M) (hn : hs.size ≤ M) :
    ∃ t' order, t.relaid hs wanted = some (t', order) ∧ order.toList.Perm (List.range hs.size) ∧ Tb t' (order.toList.map fun i => hs.getD i 0) ∧ t'.mask = M ∧ t'.plain = t.plain := by
  obtain ⟨ow, ps, e, S⟩ := seats_all g hn
  obtain ⟨r1, r2⟩ := ris_live (fun j => ow.getD j none) (List.range (M + 1)) List.pairwise_lt_range
  have live : ∀ {j k : Nat}, (j, k) ∈ liveOf M ow ↔ j ≤ M ∧ ps[k]? = some j := fun {j k} => by
    rw [mem_live S.size]
    exact ⟨fun ⟨a, b⟩ => ⟨a, (S.sits j k a).mp b⟩, fun ⟨a, b⟩ => ⟨a, (S.sits j k a).mpr b⟩⟩
  have ndL : ((liveOf M ow).map (·.1)).Nodup := List.Pairwise.imp (fun h => Nat.ne_of_lt h) r1
  have memL : ∀ x, x ∈ (liveOf M ow).map (·.1) ↔ x ∈ ps := fun x => by
    constructor
    · intro h
      obtain ⟨⟨y, k⟩, hq, rfl⟩ := List.mem_map.mp h
      exact List.mem_of_getElem? (live.mp hq).2
    · intro h
      obtain ⟨k, hk, z⟩ := List.mem_iff_getElem.mp h
      exact List.mem_map.mpr ⟨(x, k), live.mpr ⟨S.top x h, by rw [List.getElem?_eq_getElem hk, z]⟩, rfl⟩
  have lenL : (liveOf M ow).length = hs.size := by
    have a : ((liveOf M ow).map (·.1)).length = ps.length := Nat.le_antisymm (nat_nodup_len _ ps ndL fun x hx => (memL x).mp hx) (nat_nodup_len ps _ S.nd fun x hx => (memL x).mpr hx)
    rw [List.length_map] at a
    rw [a, S.len, Array.length_toList]
  refine ⟨tabOf t M ow, ((liveOf M ow).map (·.2)).toArray, by rw [relaid_eq, hw, e]; rfl, ?_, ⟨r1, rfl, ?_, g, fun x hx => ?_, fun i h j h1 h2 => ?_⟩, rfl, rfl⟩
  · refine perm_range hs.size _ (by show ((liveOf M ow).map (·.2)).length = _; rw [List.length_map, lenL]) fun k hk => ?_
    have hk' : k < ps.length := by rw [S.len, Array.length_toList]; exact hk
    exact List.mem_map.mpr ⟨(ps[k], k), live.mpr ⟨S.top _ (List.getElem_mem hk'), List.getElem?_eq_getElem hk'⟩, rfl⟩
  · show ((liveOf M ow).map (·.1)).length = (((liveOf M ow).map (·.2)).map fun i => hs.getD i 0).length
    rw [List.length_map, List.length_map, List.length_map]
  · exact S.top x ((memL x).mp hx)
  · have h1' : (((liveOf M ow).map (·.2)).map fun i => hs.getD i 0)[i]? = some h := h1
    have h2' : ((liveOf M ow).map (·.1))[i]? = some j := h2
    rw [List.getElem?_map, List.getElem?_map] at h1'
    rw [List.getElem?_map] at h2'
    cases q : (liveOf M ow)[i]? with
    | none => rw [q] at h2'; cases h2'
    | some y =>
      rw [q] at h1' h2'
      have ej : y.1 = j := Option.some.inj h2'
      have eh : hs.getD y.2 0 = h := Option.some.inj h1'
      have hy := (live (j := y.1) (k := y.2)).mp (List.mem_of_getElem? q)
      have yl : y.2 < hs.size := by
        have := (List.getElem?_eq_some_iff.mp hy.2).1
        rw [S.len, Array.length_toList] at this
        exact this
      obtain ⟨k, a, b⟩ := S.met y.2 h j (by rw [Array.getElem?_toList, ← eh]; simp [yl]) (by rw [← ej]; exact hy.2)
      exact ⟨k, a, fun q hq => (memL _).mpr (b q hq)⟩
theorem size_308 : SetTable.sizeAbove (SetTable.grown 77) = 512 := by decide +kernel
end Cc
set_option Elab.async false
set_option maxRecDepth 100000
set_option maxHeartbeats 4000000
set_option pp.maxSteps 200
/-! sets of tuples, up to 300 of them -/
namespace Cc
open PySem PySem.Spec PyProof.Rows L2
/-- the set at a: the tuples L, each once -/
structure Bag (P : Program) (w : World) (h : Heap) (a : Addr) (L : List (Addr × List Int)) (es : Array (Int × Value)) (ep : Nat) (t : SetTable) : Prop where
  obj : ∃ o, h.get? a = some o ∧ o.ExactSet ∧ o.data = .set es ep t
  row : es.toList = rowsOf P w L
  tab : Tb t (L.map fun p => thash P w p.2)
  one : (L.map (·.2)).Nodup
  key : ∀ p ∈ L, IsT P w h p.2 p.1
  pl : t.plain = true
  room : L.length * 5 < t.mask * 3
section
variable {P : Program} {w : World} {A : Around} {E : Value → Shared → Prop} {s : Shared} {a x : Addr} {L : List (Addr × List Int)} {es : Array (Int × Value)} {ep : Nat} {t : SetTable} {k : List Int}
theorem rows_size (h : es.toList = rowsOf P w L) : es.size = L.length := by
  rw [← Array.length_toList, h]; exact List.length_map _
theorem fits_of (h : es.toList = rowsOf P w L) (T : Tb t (L.map fun p => thash P w p.2)) (hl : L.length ≤ t.mask) : t.fits es.size = true := by
  have e := T.size
  rw [List.length_map, Array.length_toList] at e
  have f : t.fill = t.place.size := by
    show t.place.size + t.dummies.size = _
    rw [T.none]; rfl
  unfold SetTable.fits
  rw [f, e, rows_size h, Bool.and_eq_true]
  exact ⟨beq_self_eq_true _, decide_eq_true hl⟩
theorem Bag.fits (R : Bag P w s.heap a L es ep t) : t.fits es.size = true := fits_of R.row R.tab (by have := R.room; omega)
theorem Bag.at (R : Bag P w s.heap a L es ep t) {i : Nat} {p : Addr × List Int} (h : L[i]? = some p) : es[i]? = some (thash P w p.2, Value.ref p.1) := by
  rw [← Array.getElem?_toList, R.row, rowsOf, List.getElem?_map, h]; rfl
theorem no_dummy (m : Nat) (h : Int) : ∀ c, (nth m (go0 m h) c).dummy = none
  | 0 => rfl
  | c + 1 => by
    rw [nth_succ]
    unfold adv
    split
    · exact no_dummy m h c
    · exact no_dummy m h c
/-- from the c-th step of the way on, what was passed being another -/
theorem Bag.from (R : Bag P w s.heap a L es ep t) (hx : IsT P w s.heap k x) (hu : A.units < cLine) {H : Int} (hh : thash P w k = H) {K : Nat} (hK : K < 10 * SetTable.turns t.mask) (g : Gap t H K) {Q : SetFound → Shared → Prop}
    (yes : k ∈ L.map (·.2) → Q (.there none) s) (no : k ∉ L.map (·.2) → Q (.free (way t.mask H K) false) s) (f : Nat) :
    ∀ (c : Nat) (stand : Option SetTable.Probe), stand.getD (t.probeStart H) = nth t.mask (go0 t.mask H) c → c ≤ K → K - c < f →
      (∀ (q i : Nat) (p : Addr × List Int), q < c → (sat t)[i]? = some (way t.mask H q) → L[i]? = some p → p.2 ≠ k) →
      wpAny (model P w) A (setSearchFrom a (.ref x) H true f stand) Q E s := by
  induction f with
  | zero => intro c stand _ _ h _; omega
  | succ f ih =>
    intro c stand hst hc hf past
    obtain ⟨o, ho, hex, hd⟩ := R.obj
    have slen : (sat t).length = L.length := by rw [R.tab.size, List.length_map]
    have gw : ¬ t.gaveWay = true := by
      unfold SetTable.gaveWay
      rcases R.tab.goes.is with e | e | e | e <;> rw [e] <;> decide
    have hop : ∀ q, (nth t.mask (nth t.mask (go0 t.mask H) c) q).j = way t.mask H (c + q) := fun q => congrArg SetTable.Probe.j (nth_add t.mask c (go0 t.mask H) q).symm
    have ha : ∀ {i : Nat} {p : Addr × List Int}, L[i]? = some p → (es[i]?.map (·.1)).getD 0 = thash P w p.2 := fun h => by rw [R.at h]; rfl
    have spec := go_spec t R.tab.up R.tab.none (fun i => (es[i]?.map (·.1)).getD 0) H (10 * SetTable.turns t.mask) (K - c) (nth t.mask (go0 t.mask H) c) (no_dummy t.mask H c) (by omega)
      (fun q hq => by rw [hop]; exact g.2 _ (by omega)) (by rw [hop, Nat.add_sub_cancel' hc]; exact g.1)
    rw [setSearchFrom_succ]
    refine wpAny_bind (wpAny_setState_of ho hd R.fits (wp_if_neg gw ?_))
    rcases spec with ⟨q, i, hq, hi, hash, dif, pr⟩ | ⟨dif, pr⟩
    · -- one of the same hash
      rw [hop] at hi
      have il : i < L.length := by rw [← slen]; exact (List.getElem?_eq_some_iff.mp hi).1
      obtain ⟨p, hp⟩ : ∃ p, L[i]? = some p := ⟨_, List.getElem?_eq_getElem il⟩
      have pm := List.mem_of_getElem? hp
      have nx := nth_add t.mask c (go0 t.mask H) (q + 1)
      rw [hop, ← nx, ← hst] at pr
      have pr' : t.probe (fun i => (es[i]?.map (·.1)).getD 0) H (stand.getD (t.probeStart H)) = _ := pr
      rw [pr']
      have fin : wpAny (model P w) A (searchRest a (.ref x) H true f es t (way t.mask H (c + q)) i (nth t.mask (go0 t.mask H) (c + (q + 1)))) Q E s := by
        unfold searchRest
        rw [R.at hp]
        refine wpAny_bind (wpAny_holding (wpAny_eqBool_tuple hu (R.key p pm) hx (wpAny_bind (wpAny_setState_of ho hd R.fits ?_))))
        by_cases e : p.2 = k
        · exact wp_if_pos (by simp [e]) (wpAny_pure (yes (List.mem_map.mpr ⟨p, pm, e⟩)))
        refine wp_if_neg (by simp [e]) ?_
        have sl : t.slot (way t.mask H (c + q)) = .live i := slot_live R.tab.up hi
        rw [sameMem]
        simp only [if_true, sl, R.at hp]
        refine wpAny_bind (wpAny_isSame_ref_self (wpAny_bind (wpAny_pure ?_)))
        simp only [if_true]
        refine wp_if_neg (by simp [e]) (ih (c + (q + 1)) _ rfl (by omega) (by omega) fun q' i' p' hq' hi' hp' e' => ?_)
        by_cases z1 : q' < c
        · exact past q' i' p' z1 hi' hp' e'
        by_cases z2 : q' = c + q
        · subst z2
          have := slot_live R.tab.up hi'
          rw [sl] at this
          injection this with this
          subst this
          rw [hp] at hp'
          exact e ((congrArg Prod.snd (Option.some.inj hp')).trans e')
        · refine dif (q' - c) i' (by omega) (by rw [hop, Nat.add_sub_cancel' (by omega)]; exact hi') ?_
          show (es[i']?.map (·.1)).getD 0 = H
          rw [ha hp', e', hh]
      by_cases ld : t.led = true
      · exact wp_if_neg (by simp [ld]) fin
      · refine wp_if_pos (by simp [ld]) (wpAny_bind (seen_tup hx (fun y hy => ?_) (wp_if_neg (by decide) fin)))
        obtain ⟨e, he, rfl⟩ := List.mem_map.mp hy
        have he : e ∈ es.toList := by
          have := (Array.mem_filter.mp (Array.mem_toList_iff.mp he)).1
          exact Array.mem_toList_iff.mpr this
        rw [R.row] at he
        obtain ⟨p', hp', rfl⟩ := List.mem_map.mp he
        exact ⟨p'.2, p'.1, rfl, R.key p' hp'⟩
    · -- none: the free slot
      rw [hop, Nat.add_sub_cancel' hc, ← hst] at pr
      have pr' : t.probe (fun i => (es[i]?.map (·.1)).getD 0) H (stand.getD (t.probeStart H)) = _ := pr
      rw [pr']
      refine wpAny_pure (no fun hm => ?_)
      obtain ⟨p, pm, e⟩ := List.mem_map.mp hm
      obtain ⟨i, hi, e2⟩ := List.mem_iff_getElem.mp pm
      have hp : L[i]? = some p := by rw [List.getElem?_eq_getElem hi, e2]
      obtain ⟨q, hq, hs⟩ := R.tab.ahead (i := i) g (by rw [List.getElem?_map, hp, ← hh, ← e]; rfl)
      by_cases z : q < c
      · exact past q i p z hs hp e
      · refine dif (q - c) i (by omega) (by rw [hop, Nat.add_sub_cancel' (by omega)]; exact hs) ?_
        show (es[i]?.map (·.1)).getD 0 = H
        rw [ha hp, e, hh]
theorem Bag.search (R : Bag P w s.heap a L es ep t) (hx : IsT P w s.heap k x) (hu : A.units < cLine) {Q : SetFound → Shared → Prop}
    (yes : k ∈ L.map (·.2) → Q (.there none) s) (no : ∀ K, k ∉ L.map (·.2) → Gap t (thash P w k) K → Q (.free (way t.mask (thash P w k) K) false) s) :
    wpAny (model P w) A (setSearch a (.ref x) (thash P w k) true) Q E s := by
  have rm := R.room
  obtain ⟨K, hK, g⟩ := R.tab.gap (by rw [List.length_map]; omega) (thash P w k)
  have top : t.mask ≤ 511 := by rcases R.tab.goes.is with e | e | e | e <;> omega
  unfold setSearch
  exact R.from hx hu rfl (by unfold SetTable.turns; omega) g yes (fun h => no K h g) 100000 0 none rfl (Nat.zero_le _) (by omega) fun q i p h => absurd h (Nat.not_lt_zero _)
/-- the table laid anew -/
theorem bag_relay {o : Obj} (ho : s.heap.get? a = some o) (hex : o.ExactSet) (hd : o.data = .set es ep t) (row : es.toList = rowsOf P w L) (T : Tb t (L.map fun p => thash P w p.2)) (lm : L.length ≤ t.mask)
    (one : (L.map (·.2)).Nodup) (key : ∀ p ∈ L, IsT P w s.heap p.2 p.1) (pl : t.plain = true) {wanted M : Nat} (hw : SetTable.sizeAbove wanted - 1 = M) (g : Goes M) (rm : L.length * 5 < M * 3) {Q : Unit → Shared → Prop}
    (hQ : ∀ h' L' es' ep' t', Heap.SameBut a s.heap h' → Bag P w h' a L' es' ep' t' → L'.Perm L → Q () { s with heap := h' }) : wpAny (model P w) A (setRelay a wanted) Q E s := by
  have sz := rows_size row
  have mt : M ≤ 511 := by rcases g.is with e | e | e | e <;> omega
  obtain ⟨t', order, e, pm, T', em, epl⟩ := tb_relaid t (hs := es.map (·.1)) hw g (by rw [Array.size_map]; omega)
  rw [Array.size_map, sz] at pm
  obtain ⟨L', r1, r2, r3⟩ := order_rows L es order row pm
  rw [← r3] at T'
  have sz' : (order.filterMap (es[·]?)).size = es.size := by rw [rows_size r1, r2.length_eq, sz]
  rw [setRelay_eq]
  refine wpAny_bind (wpAny_setState_of ho hd (fits_of row T lm) (wp_if_neg (by rw [sizeLine_eq]; omega) ?_))
  rw [e]
  refine wpAny_bind (wp_if_neg (by rw [sz']; simp) (wpAny_pure (wpAny_storeSet_of ho hd ?_ (by rw [sz', sz, sizeLine_eq]; omega))))
  have sb : Heap.SameBut a s.heap (s.heap.update a (Obj.putSet (order.filterMap (es[·]?)) t')) := Heap.SameBut.update ..
  exact hQ _ L' _ (ep + 1) t' sb ⟨⟨_, store_at ho hd, hex, rfl⟩, r1, T', (r2.map (·.2)).nodup_iff.mpr one, fun p hp => isT_same (key p (r2.mem_iff.mp hp)) ho hd sb, epl.trans pl, by rw [r2.length_eq, em]; exact rm⟩ r2
theorem Bag.add (R : Bag P w s.heap a L es ep t) (hx : IsT P w s.heap k x) (hu : A.units < cLine) (few : L.length < 300) {Q : Bool → Shared → Prop}
    (hQ : ∀ b h' L' es' ep' t', Heap.SameBut a s.heap h' → Bag P w h' a L' es' ep' t' → (k ∈ L.map (·.2) → L' = L) → (k ∉ L.map (·.2) → L'.Perm ((x, k) :: L)) → Q b { s with heap := h' }) :
    wpAny (model P w) A (setAddHashed a (.ref x) (thash P w k)) Q E s := by
  obtain ⟨o, ho, hex, hd⟩ := R.obj
  have rm := R.room
  unfold setAddHashed
  refine wpAny_holding ?_
  rw [show (100000 : Nat) = 99999 + 1 from rfl, setAddHashedIn_succ]
  refine wpAny_bind (wpAny_setState_of ho hd R.fits (wp_if_neg (by simp [byScan, Value.scannable]) ?_))
  refine wpAny_bind (R.search hx hu (fun hm => wpAny_pure (hQ false s.heap L es ep t (Heap.SameBut.refl a s.heap) R (fun _ => rfl) fun z => absurd hm z)) fun K hm g => ?_)
  refine wpAny_bind (wpAny_setState_of ho hd R.fits ?_)
  obtain ⟨pL, T⟩ := R.tab.put g
  have hp1 : (t.put (way t.mask (thash P w k) K)).1.plain = true := R.pl
  have em : (t.put (way t.mask (thash P w k) K)).1.mask = t.mask := rfl
  have e2 : (t.put (way t.mask (thash P w k) K)).2 = SetTable.below t.place (way t.mask (thash P w k) K) := rfl
  have row1 : (SetTable.insertAt es (SetTable.below t.place (way t.mask (thash P w k) K)) (thash P w k, Value.ref x)).toList = rowsOf P w (L.take (SetTable.below t.place (way t.mask (thash P w k) K)) ++ (x, k) :: L.drop (SetTable.below t.place (way t.mask (thash P w k) K))) := by
    rw [SetTable.toList_insertAt, R.row, rows_put]
  dsimp only
  generalize SetTable.below t.place (way t.mask (thash P w k) K) = p at pL T e2 row1
  generalize t.put (way t.mask (thash P w k) K) = pt at T hp1 em e2 ⊢
  obtain ⟨t1, p'⟩ := pt
  dsimp only at T hp1 em e2 ⊢
  subst e2
  have pm := put_perm L p' (x, k)
  have T1 : Tb t1 ((L.take p' ++ (x, k) :: L.drop p').map fun p => thash P w p.2) := by
    rw [List.map_append, List.map_cons, List.map_take, List.map_drop]; exact T
  have one1 : ((L.take p' ++ (x, k) :: L.drop p').map (·.2)).Nodup := (pm.map (·.2)).nodup_iff.mpr (List.nodup_cons.mpr ⟨hm, R.one⟩)
  generalize SetTable.insertAt es p' (thash P w k, Value.ref x) = es1 at row1 ⊢
  generalize L.take p' ++ (x, k) :: L.drop p' = L1 at pm T1 one1 row1
  have l1 : L1.length = L.length + 1 := pm.length_eq
  have sz1 := rows_size row1
  have sz0 := rows_size R.row
  have fil : t1.fill = L1.length := by
    have e := T1.size
    rw [List.length_map, Array.length_toList] at e
    show t1.place.size + t1.dummies.size = _
    rw [T1.none, e]; rfl
  have m7 : 7 ≤ t.mask := by rcases R.tab.goes.is with e | e | e | e <;> omega
  refine wp_if_pos hp1 (wpAny_bind (hashBy_tup hx ?_))
  simp only [if_true]
  refine wpAny_bind (wpAny_storeSet_of ho hd ?_ (by rw [sz1, sizeLine_eq]; omega))
  have sb : Heap.SameBut a s.heap (s.heap.update a (Obj.putSet es1 t1)) := Heap.SameBut.update ..
  have ho1 := store_at (es' := es1) (t' := t1) ho hd
  generalize s.heap.update a (Obj.putSet es1 t1) = h1 at sb ho1 ⊢
  have key1 : ∀ p ∈ L1, IsT P w h1 p.2 p.1 := fun p hp => by
    rcases List.mem_cons.mp (pm.mem_iff.mp hp) with z | z
    · rw [z]; exact isT_same hx ho hd sb
    · exact isT_same (R.key p z) ho hd sb
  by_cases full : t1.tooFull = true
  · have hf : L1.length * 5 ≥ t1.mask * 3 := by
      unfold SetTable.tooFull at full
      rw [fil] at full
      exact of_decide_eq_true full
    rw [sz0, ← l1]
    have go : ∀ M, SetTable.sizeAbove (SetTable.grown L1.length) - 1 = M → Goes M → L1.length * 5 < M * 3 → wpAny (model P w) A (setRelay a (SetTable.grown L1.length)) (fun _ s' => wpAny (model P w) A (pure true) Q E s') E { s with heap := h1 } := fun M b1 b2 b3 =>
      bag_relay (s := { s with heap := h1 }) ho1 hex rfl row1 T1 (by rw [em]; omega) one1 key1 hp1 b1 b2 b3 fun h2 L2 es2 ep2 t2 sb2 R2 pm2 => wpAny_pure (hQ true h2 L2 es2 ep2 t2 (sb.trans sb2) R2 (fun z => absurd z hm) fun _ => pm2.trans pm)
    refine wp_if_pos (by simp [full]) (wpAny_bind ?_)
    rw [em] at hf
    rcases R.tab.goes.is with e | e | e | e
    · have z : L1.length = 5 := by omega
      exact go 31 (by rw [z, size_20]) (goes_of (.inr (.inl rfl))) (by omega)
    · have z : L1.length = 19 := by omega
      exact go 127 (by rw [z, size_76]) (goes_of (.inr (.inr rfl))) (by omega)
    · have z : L1.length = 77 := by omega
      exact go 511 (by rw [z, size_308]) goes511 (by omega)
    · omega
  · refine wp_if_neg (by simp [full]) (wpAny_pure (hQ true h1 L1 es1 (ep + 1) t1 sb ⟨⟨_, ho1, hex, rfl⟩, row1, T1, one1, key1, hp1, ?_⟩ (fun z => absurd z hm) fun _ => pm))
    unfold SetTable.tooFull at full
    rw [fil] at full
    have := of_decide_eq_false (Bool.eq_false_iff.mpr full)
    omega
end
end Cc
set_option Elab.async false
set_option maxRecDepth 100000
set_option maxHeartbeats 6400000
set_option pp.maxSteps 200
/-! len(set(xs)), xs a list of tuples -/
namespace Cc
open PySem PySem.Spec PyProof.Rows L2
/-- what the set has of the first i -/
structure Have (ks : List (Addr × List Int)) (i : Nat) (L : List (Addr × List Int)) : Prop where
  sub : ∀ p ∈ L, p ∈ ks
  mem : ∀ q, q ∈ L.map (·.2) ↔ q ∈ (ks.take i).map (·.2)
  len : L.length ≤ i
theorem Have.next {ks L L' : List (Addr × List Int)} {i : Nat} {p : Addr × List Int} (h : Have ks i L) (hp : ks[i]? = some p) (c1 : p.2 ∈ L.map (·.2) → L' = L) (c2 : p.2 ∉ L.map (·.2) → L'.Perm (p :: L)) : Have ks (i + 1) L' := by
  have e : (ks.take (i + 1)).map (·.2) = (ks.take i).map (·.2) ++ [p.2] := by rw [List.take_add_one, hp, List.map_append]; rfl
  by_cases c : p.2 ∈ L.map (·.2)
  · rw [c1 c]
    refine ⟨h.sub, fun q => ?_, by have := h.len; omega⟩
    rw [h.mem, e, List.mem_append, List.mem_singleton]
    exact ⟨.inl, fun z => z.elim id fun z => z ▸ (h.mem _).mp c⟩
  · have pm := c2 c
    refine ⟨fun y hy => ?_, fun q => ?_, by rw [pm.length_eq, List.length_cons]; have := h.len; omega⟩
    · rcases List.mem_cons.mp (pm.mem_iff.mp hy) with z | z
      · exact z ▸ List.mem_of_getElem? hp
      · exact h.sub y z
    · rw [(pm.map (·.2)).mem_iff, List.map_cons, List.mem_cons, h.mem, e, List.mem_append, List.mem_singleton]
      exact Or.comm
section
variable {P : Program} {w : World} {A : Around} {E : Value → Shared → Prop} {s : Shared}
theorem Bag.moved {h h' : Heap} {a : Addr} {L : List (Addr × List Int)} {es : Array (Int × Value)} {ep : Nat} {t : SetTable} (B : Bag P w h a L es ep t) (ha : ∀ o, h.get? a = some o → h'.get? a = some o) (hk : ∀ p ∈ L, IsT P w h' p.2 p.1) : Bag P w h' a L es ep t := by
  obtain ⟨o, ho, r⟩ := B.obj
  exact ⟨⟨o, ha o ho, r⟩, B.row, B.tab, B.one, hk, B.pl, B.room⟩
theorem bag_new {h : Heap} {a : Addr} (ho : h.get? a = some (setO0 w)) : Bag P w h a [] #[] 0 (.fresh 0 0 (!w.params.followText "set-order")) :=
  ⟨⟨_, ho, ⟨rfl, rfl, rfl⟩, rfl⟩, rfl, ⟨List.Pairwise.nil, rfl, rfl, goes_of (.inl rfl), fun x hx => (by cases hx), fun i h j hi => (by simp at hi)⟩, List.nodup_nil, fun p hp => (by cases hp), rfl, (by show 0 * 5 < 7 * 3; decide)⟩
theorem bag_loop {I : Addr} {fp wr : List Addr} {G : Array GenState → Array GenState → Prop} {n : Nat} {Pv : Nat → Value → Prop} {St : Nat → Shared → Prop} {R : Result → Shared → Prop} (W : WalksS P w A.in1 I fp wr G n Pv St) {S : Addr} (hS : S ∉ fp)
    {ks : List (Addr × List Int)} (few : ks.length ≤ 300) (hn : n = ks.length) (hval : ∀ i v, Pv i v → ∃ p, ks[i]? = some p ∧ v = .ref p.1) {h0 : Heap} (hk : ∀ p ∈ ks, IsT P w h0 p.2 p.1) (nS : h0.get? S = none) (nw : ∀ b ∈ wr, h0.get? b = none) (hu : A.in1.units < cLine) (m : Nat) :
    ∀ (i : Nat) (s : Shared), i + m = n → St i s → (∀ b o, h0.get? b = some o → s.heap.get? b = some o) → (∃ L es ep t, Bag P w s.heap S L es ep t ∧ Have ks i L) →
      (∀ s' L es ep t, Moved (S :: wr) G s s' → Bag P w s'.heap S L es ep t → Have ks n L → R (.ok (.ret .none)) s') →
      codeAny (model P w) A (.builtin "set.update.loop" ⟨[.ref S, .ref I], []⟩) R s := by
  have nf : S ∉ wr := fun z => hS (W.sub S z)
  have wide : ∀ b ∈ wr, b ∈ S :: wr := fun b z => List.mem_cons_of_mem S z
  have stay : ∀ {s s' : Shared}, Moved wr G s s' → (∀ b o, h0.get? b = some o → s.heap.get? b = some o) → ∀ b o, h0.get? b = some o → s'.heap.get? b = some o :=
    fun mv k b o e => mv.heap b o (fun z => by rw [nw b z] at e; cases e) (k b o e)
  induction m with
  | zero =>
    intro i s hi st kp hB hR
    obtain ⟨L, es, ep, t, B, hv⟩ := hB
    obtain rfl : i = n := by omega
    refine codeAny_builtin F.entry_set_update_loop (by
      rw [Around.under_plainId F.plain_set_update_loop _]
      refine wpAny_bind (W.done s _ _ st fun s' mv => ?_)
      have kp' := stay mv kp
      exact wpAny_pure (hR s' L es ep t (mv.mono wide) (B.moved (fun o e => mv.heap S o nf e) fun p hp => isT_keep (hk p (hv.sub p hp)) kp') hv))
  | succ m ih =>
    intro i s hi st kp hB hR
    obtain ⟨L, es, ep, t, B, hv⟩ := hB
    refine codeAny_builtin F.entry_set_update_loop (by
      rw [Around.under_plainId F.plain_set_update_loop _]
      refine wpAny_bind (W.item i s _ _ (by omega) st fun v s' hP st' mv => ?_)
      obtain ⟨p, hp, rfl⟩ := hval i v hP
      have kp' := stay mv kp
      have B' := B.moved (h' := s'.heap) (fun o e => mv.heap S o nf e) fun p hp => isT_keep (hk p (hv.sub p hp)) kp'
      have hx : IsT P w s'.heap p.2 p.1 := isT_keep (hk p (List.mem_of_getElem? hp)) kp'
      refine wpAny_bind (wpAny_holding (wpAny_holding (wpAny_bind (wpAny_pyHash_tuple hu hx ?_))))
      refine Bag.add (s := { s' with toks := s'.toks + (p.2.length + 1) }) B' hx hu (by have := hv.len; omega) fun b h' L' es' ep' t' sb B2 c1 c2 => ?_
      refine wpAny_pure ⟨plainId_quiet F.plain_set_update_loop _, ih (i + 1) _ (by omega) (W.frame _ s' _ _ st' (Nat.le_add_right _ _) fun b hb o e => (sb.2 b (fun z => hS (z ▸ hb))).trans e) (fun b o e => (sb.2 b (fun z => by rw [z, nS] at e; cases e)).trans (kp' b o e)) ⟨L', es', ep', t', B2, hv.next hp c1 c2⟩ fun s2 L2 es2 ep2 t2 mv2 B3 hv2 => ?_⟩
      exact hR s2 L2 es2 ep2 t2 (Moved.trans W.gtrans ((mv.mono wide).then_heap (Nat.le_add_right _ _) fun b o hb e => (sb.2 b (fun z => hb (z ▸ List.mem_cons_self))).trans e) mv2) B3 hv2)
/-- what set.__init__ does with a list of tuples -/
theorem init_tups {l : Addr} {items : Array Value} (ks : List (Addr × List Int)) (hh : A.handled = none) (hl : s.heap.IsList l items) (hit : items.toList = ks.map fun p => Value.ref p.1) (hk : ∀ p ∈ ks, IsT P w s.heap p.2 p.1) (few : ks.length ≤ 300) (hu : A.units + 1 < cLine) {R : PySem.Fin → Shared → Prop}
    (h : ∀ (h' : Heap) (tk : Nat) (L : List (Addr × List Int)) es ep t, Bag P w h' s.heap.objs.size L es ep t → Have ks ks.length L → (∀ b o, s.heap.get? b = some o → h'.get? b = some o) → R (.done (.ret .none)) { s with heap := h', toks := tk }) :
    wpAny (model P w) A (Builtin.«set.__init__» ⟨[.ref s.heap.objs.size, .ref l], []⟩) R E { s with heap := s.heap.push (setO0 w) } := by
  have isz : items.size = ks.length := by rw [← Array.length_toList, hit, List.length_map]
  obtain ⟨⟨oc, od, dt, os⟩, hol, hcl, nl, hdl⟩ := hl
  simp only at hcl hdl
  subst hcl hdl
  have hS : (s.heap.push (setO0 w)).get? s.heap.objs.size = some (setO0 w) := Heap.get?_push_size _ rfl
  have hol' : (s.heap.push (setO0 w)).get? l = some { cls := .type "list", dict := od, data := .seq items nl, slots := os } := Heap.get?_push_of_some _ hol
  have q1 := F.sub_list_set
  have q2 := F.sub_list_frozenset
  have q3 : (Value.type "list" == Value.type "dict") = false := by decide
  have hl1 : (s.heap.push (setO0 w)).IsList l items := ⟨_, hol', rfl, nl, rfl⟩
  have hT : Shared.TypeIs { s with heap := s.heap.push (setO0 w) } (.ref s.heap.objs.size) "set" := ⟨_, hS, rfl⟩
  unfold Builtin.«set.__init__» noKeywords Builtin.Frozenset.updateFrom
  generalize hPI : pyIter = PI
  wp_walk
  subst hPI
  refine wpAny_pyIter_list hl1 (wpAny_bind (wpAny_runValue ?_))
  have lt : l < s.heap.objs.size := Heap.lt_size hol
  have sz : (s.heap.push (setO0 w)).objs.size = s.heap.objs.size + 1 := Heap.size_push ..
  have n1 : l ≠ (s.heap.push (setO0 w)).objs.size := by rw [sz]; exact Nat.ne_of_lt (Nat.lt_succ_of_lt lt)
  have n2 : s.heap.objs.size ∉ [(s.heap.push (setO0 w)).objs.size, l] := by
    rw [sz]
    intro z
    rcases List.mem_cons.mp z with z | z
    · exact Nat.ne_of_lt (Nat.lt_succ_self _) z
    · exact Nat.ne_of_gt lt (List.mem_singleton.mp z)
  have gone : ∀ b, s.heap.objs.size ≤ b → s.heap.get? b = none := fun b hb => by
    cases e : s.heap.get? b with
    | none => rfl
    | some o => exact absurd (Heap.lt_size e) (Nat.not_lt_of_le hb)
  have hval : ∀ (i : Nat) (v : Value), items[i]? = some v → ∃ p, ks[i]? = some p ∧ v = .ref p.1 := fun i v hv => by
    have e : (ks.map fun p => Value.ref p.1)[i]? = some v := by rw [← hit, Array.getElem?_toList]; exact hv
    rw [List.getElem?_map] at e
    obtain ⟨p, h1, h2⟩ := Option.map_eq_some_iff.mp e
    exact ⟨p, h1, h2.symm⟩
  refine bag_loop ((Walks.list (by simp [hh]) _ l n1 items).toS) n2 few isz hval hk (gone _ (Nat.le_refl _)) (fun b hb => gone b (by rw [List.mem_singleton.mp hb, sz]; exact Nat.le_succ _)) hu items.size 0 _ (Nat.zero_add _) ⟨⟨_, Heap.get?_push_size _ rfl, rfl, rfl⟩, hl1.push _⟩
    (fun b o e => Heap.get?_push_of_some _ (Heap.get?_push_of_some _ e)) ⟨[], #[], 0, _, bag_new (Heap.get?_push_of_some _ hS), ⟨fun p hp => (by cases hp), fun q => by simp, Nat.le_refl _⟩⟩ ?_
  rintro ⟨h', g2, d', tk', os'⟩ L es ep t mv B hv
  obtain rfl : g2 = s.gens := mv.gens
  obtain rfl : d' = s.drawn := mv.drawn
  obtain rfl : os' = s.os := mv.os
  rw [isz] at hv
  refine wpAny_pure (wpAny_pure (h h' tk' L es ep t B hv fun b o e => ?_))
  have lb : b < s.heap.objs.size := Heap.lt_size e
  refine mv.heap b o (fun z => ?_) (Heap.get?_push_of_some _ (Heap.get?_push_of_some _ e))
  rcases List.mem_cons.mp z with z | z
  · exact Nat.ne_of_lt lb z
  · have z := List.mem_singleton.mp z
    rw [sz] at z
    exact Nat.ne_of_lt (Nat.lt_succ_of_lt lb) z
theorem set_tups {l : Addr} {items : Array Value} (ks : List (Addr × List Int)) {Q : Value → Shared → Prop} (hh : A.handled = none) (hl : s.heap.IsList l items) (hit : items.toList = ks.map fun p => Value.ref p.1) (hk : ∀ p ∈ ks, IsT P w s.heap p.2 p.1) (few : ks.length ≤ 300) (hu : A.units + 8 < cLine)
    (h : ∀ (h' : Heap) (tk : Nat) (L : List (Addr × List Int)) es ep t, Bag P w h' s.heap.objs.size L es ep t → Have ks ks.length L → (∀ b o, s.heap.get? b = some o → h'.get? b = some o) → Q (.ref s.heap.objs.size) { s with heap := h', toks := tk }) :
    wpAny (model P w) A (call (.type "set") [.ref l]) Q E s := by
  obtain ⟨c, tl, hmro⟩ := F.called_set.mro
  have g1 := F.called_set.made
  have g2 := F.called_set.sub
  have g3 := F.called_set.notType
  have g4 := F.called_set.canCreate
  have g5 := F.typeCall_set_1 (.ref l)
  refine wpAny_call (codeAny_of_tree (show wpAny _ _ (callAny (.type "set") _) _ _ _ from wpAny_pure ⟨Code.quiet_builtin _ (by decide +kernel), codeAny_builtin F.entry_type_call ?_⟩))
  rw [Around.under_plain (weight_type_call_type "set" [.ref l] []) rfl]
  repeat (any_goals (first | assumption | wp_step))
  refine codeAny_mono (code_set_led1 (.ref l) (E := E) (Q₁ := fun obj s₁ => obj = .ref s.heap.objs.size ∧ s₁ = { s with heap := s.heap.push (setO0 w) }) ⟨rfl, rfl⟩) fun r s₁ hr => ?_
  rcases r with e | fl
  · exact hr
  cases fl with
  | ret obj =>
    obtain ⟨rfl, rfl⟩ := hr
    have hT : Shared.TypeIs { s with heap := s.heap.push (setO0 w) } (.ref s.heap.objs.size) "set" := ⟨_, Heap.get?_push_size _ rfl, rfl⟩
    have g6 := F.called_set.init.lookup
    have g7 := F.called_set.init.bind (.ref s.heap.objs.size)
    repeat (any_goals (first | assumption | wp_step))
    refine codeAny_mono (codeAny_call_builtin (R := wants (fun r s₂ => r = .none ∧ Q (.ref s.heap.objs.size) s₂) E) F.called_set.init.plain F.entry_set_init (check_set_init_1 hT ?_)) fun r₂ s₂ hr₂ => ?_
    · refine init_tups ks (by simp [hh]) hl hit hk few (by show A.units + 1 + 1 + 1 < cLine; omega) fun h' tk L es ep t a1 a2 a3 => ?_
      exact ⟨rfl, h h' tk L es ep t a1 a2 a3⟩
    · rcases r₂ with e | fl₂
      · exact hr₂
      cases fl₂ with
      | ret r =>
        obtain ⟨rfl, hq⟩ := hr₂
        repeat (any_goals (first | assumption | wp_step))
        try exact hq
      | _ => exact hr₂.elim
  | _ => exact hr.elim
end
section
variable {X : Cx}
/-- len(set(xs)): how many different ones there are -/
def tLenSetT (K : PySem.W.Frag) (ta : TE) : TE := fun σ H Q => ta σ H fun x H1 => ∃ (l : Addr) (ks : List (Addr × List Int)), x = V.ref l ∧ SqL K H1 l (ks.map fun p => V.ref p.1) ∧ (∀ p ∈ ks, SqT K H1 p.1 (p.2.map V.int)) ∧ ks.length ≤ 300 ∧
  ∀ D : List (List Int), D.Nodup → (∀ q, q ∈ D ↔ q ∈ ks.map (·.2)) → Q (.int (D.length : Nat)) H1
theorem pe_lenSetT {a : Expr} {ta : TE} {p p2 q pos : Pos} (hc : X.calm = true) (hu : X.A.units + 64 < cLine) (hg : Gl X "len") (hm : X.mg "len" = none) (hg2 : Gl X "set") (hm2 : X.mg "set" = none) (ha : PE X a ta) (na : starEach [a] X.env = (false, eval a X.env) :: starEach [] X.env := by rfl) :
    PE X (.Call (.Name "len" p) [.Call (.Name "set" p2) [a] [] q] [] pos) (tLenSetT X.K ta) := by
  refine ⟨fun pins s σ H Q I h => Call_ (ld_blt I hg hm PySem.boot_len (PyProof.Rows.callWith_builtin1 (PyProof.Rows.args_cons (Call_ (ld_blt I hg2 hm2 PyProof.Rows.boot_set ?_)) rfl) rfl rfl))⟩
  refine PyProof.Rows.callWith_type1 (PyProof.Rows.args_cons (thn (ha.run pins s σ H _ I h) fun v s1 hv => PyProof.Rows.args_nil ?_) na) na rfl
  obtain ⟨x, H1, I1, r1, l, ks, rfl, hl, hk, few, qq⟩ := hv
  cases r1
  obtain ⟨its, rv, pl, hz⟩ := I1.list hl
  refine set_tups (P := X.prog) (w := X.w) ks (I1.ok.hd hc) pl.isList (by simpa using refs_of_vals rv) (fun p hp => I1.isT (hk p hp)) few (by omega) fun h' tk L es ep t B hv kp => PyProof.Rows.args_nil ?_
  obtain ⟨o, ho, hex, hd⟩ := B.obj
  have I2 : Inv X pins σ H1 { s1 with heap := h', toks := tk } := I1.kept kp
  have sz := rows_size B.row
  have ln := hv.len
  refine call_len_set (s := { s1 with heap := h', toks := tk }) ho hex hd (Bag.fits (s := { s1 with heap := h', toks := tk }) B) (by rw [sz]; omega) ⟨.int (L.map (·.2)).length, H1, I2.tok _, ⟨_, by rw [sz, List.length_map]⟩, qq _ B.one fun q => ?_⟩
  rw [hv.mem, List.take_length]
end
end Cc
set_option Elab.async false
namespace Cc
open WpBase
/-! ### lists: pigeon holes -/
theorem perm_of_nodup_sub {α : Type} [DecidableEq α] : ∀ (l m : List α), l.Nodup → (∀ x ∈ l, x ∈ m) → m.length ≤ l.length → l.Perm m
  | [], m, _, _, h => by
    have : m = [] := List.length_eq_zero_iff.mp (by simpa using h)
    subst this; exact List.Perm.refl _
  | x :: l, m, hn, hs, hl => by
    have hx : x ∈ m := hs x (by simp)
    have hp := List.perm_cons_erase hx
    have hn' := List.nodup_cons.mp hn
    have h1 : ∀ y ∈ l, y ∈ m.erase x := fun y hy => (List.mem_erase_of_ne (fun (e : y = x) => hn'.1 (e ▸ hy))).mpr (hs y (List.mem_cons_of_mem _ hy))
    have h2 : (m.erase x).length ≤ l.length := by
      rw [List.length_erase_of_mem hx]; simp at hl; omega
    exact ((perm_of_nodup_sub l (m.erase x) hn'.2 h1 h2).cons x).trans hp.symm
theorem nodup_sub_len {α : Type} [DecidableEq α] : ∀ (l m : List α), l.Nodup → (∀ x ∈ l, x ∈ m) → l.length ≤ m.length
  | [], m, _, _ => by simp
  | x :: l, m, hn, hs => by
    have hx : x ∈ m := hs x (by simp)
    have hn' := List.nodup_cons.mp hn
    have h1 : ∀ y ∈ l, y ∈ m.erase x := fun y hy => (List.mem_erase_of_ne (fun (e : y = x) => hn'.1 (e ▸ hy))).mpr (hs y (List.mem_cons_of_mem _ hy))
    have := nodup_sub_len l (m.erase x) hn'.2 h1
    rw [List.length_erase_of_mem hx] at this
    have := List.length_pos_of_mem hx
    simp; omega
theorem nodup_map_inj {α β : Type} {f : α → β} : ∀ {l : List α}, l.Nodup → (∀ x ∈ l, ∀ y ∈ l, f x = f y → x = y) → (l.map f).Nodup
  | [], _, _ => by simp
  | x :: l, hn, hi => by
    have hn' := List.nodup_cons.mp hn
    rw [List.map_cons, List.nodup_cons]
    refine ⟨fun h => ?_, nodup_map_inj hn'.2 fun a ha b hb => hi a (List.mem_cons_of_mem _ ha) b (List.mem_cons_of_mem _ hb)⟩
    obtain ⟨y, hy, e⟩ := List.mem_map.mp h
    exact hn'.1 ((hi y (List.mem_cons_of_mem _ hy) x (by simp) e) ▸ hy)
/-! ### exchanges -/
def ap (p : Perm) (i : Nat) : Nat := p.getD i 0
theorem ap_get {p : Perm} {i : Nat} (h : i < p.length) : ap p i = p[i] := by simp [ap, h]
def PermN (n : Nat) (p : Perm) : Prop := p.Perm (List.range n)
theorem PermN.len {n : Nat} {p : Perm} (h : PermN n p) : p.length = n := by simpa using h.length_eq
theorem PermN.nd {n : Nat} {p : Perm} (h : PermN n p) : p.Nodup := (List.Perm.nodup_iff h).mpr List.nodup_range
theorem PermN.mem {n : Nat} {p : Perm} (h : PermN n p) {x : Nat} : x ∈ p ↔ x < n := (h.mem_iff).trans List.mem_range
theorem PermN.lt {n : Nat} {p : Perm} (h : PermN n p) {i : Nat} (hi : i < n) : ap p i < n := by
  have hl : i < p.length := by rw [h.len]; exact hi
  rw [ap_get hl]; exact h.mem.mp (List.getElem_mem hl)
theorem nodup_get_inj {α : Type} {l : List α} (h : l.Nodup) {i j : Nat} (hi : i < l.length) (hj : j < l.length) (e : l[i] = l[j]) : i = j := by
  exact (List.getElem_inj (h₀ := hi) (h₁ := hj) h).mp e
theorem PermN.inj {n : Nat} {p : Perm} (h : PermN n p) {i j : Nat} (hi : i < n) (hj : j < n) (e : ap p i = ap p j) : i = j := by
  have hl : i < p.length := by rw [h.len]; exact hi
  have hm : j < p.length := by rw [h.len]; exact hj
  rw [ap_get hl, ap_get hm] at e
  exact nodup_get_inj h.nd hl hm e
theorem PermN.surj {n : Nat} {p : Perm} (h : PermN n p) {j : Nat} (hj : j < n) : ∃ i, i < n ∧ ap p i = j := by
  obtain ⟨i, hi, e⟩ := List.mem_iff_getElem.mp (h.mem.mpr hj)
  exact ⟨i, h.len ▸ hi, (ap_get hi).trans e⟩
theorem permN_of {n : Nat} {p : Perm} (hl : p.length = n) (h1 : ∀ i, i < n → ap p i < n) (h2 : ∀ i j, i < n → j < n → ap p i = ap p j → i = j) : PermN n p := by
  refine perm_of_nodup_sub p (List.range n) ?_ (fun x hx => ?_) (by simp [hl])
  · rw [List.nodup_iff_pairwise_ne, List.pairwise_iff_getElem]
    intro i j hi hj hij e
    have := h2 i j (hl ▸ hi) (hl ▸ hj) (by rw [ap_get hi, ap_get hj]; exact e)
    omega
  · obtain ⟨i, hi, e⟩ := List.mem_iff_getElem.mp hx
    have := h1 i (hl ▸ hi)
    rw [ap_get hi, e] at this
    exact List.mem_range.mpr this
theorem isPerm_iff {n : Nat} {p : Perm} : isPerm n p = true ↔ PermN n p := by
  unfold isPerm
  rw [Bool.and_eq_true, beq_iff_eq, List.all_eq_true]
  constructor
  · rintro ⟨hl, ha⟩
    refine (perm_of_nodup_sub (List.range n) p List.nodup_range (fun x hx => ?_) (by simp [hl])).symm
    exact List.contains_iff_mem.mp (ha x hx)
  · intro h
    exact ⟨h.len, fun x hx => List.contains_iff_mem.mpr (h.mem.mpr (List.mem_range.mp hx))⟩
theorem perm_ext {n : Nat} {p q : Perm} (hp : p.length = n) (hq : q.length = n) (h : ∀ i, i < n → ap p i = ap q i) : p = q := by
  refine List.ext_getElem (hp.trans hq.symm) fun i h1 h2 => ?_
  rw [← ap_get h1, ← ap_get h2]; exact h i (hp ▸ h1)
theorem then_len (p q : Perm) : (then_ p q).length = p.length := by simp [then_]
theorem ap_then {p q : Perm} {i : Nat} (h : i < p.length) : ap (then_ p q) i = ap q (ap p i) := by
  simp [ap, then_, h]
theorem ident_len (n : Nat) : (ident n).length = n := by simp [ident]
theorem ap_ident {n i : Nat} (h : i < n) : ap (ident n) i = i := by simp [ap, ident, h]
theorem ident_perm (n : Nat) : PermN n (ident n) := List.Perm.refl _
theorem then_perm {n : Nat} {p q : Perm} (hp : PermN n p) (hq : PermN n q) : PermN n (then_ p q) := by
  refine permN_of ((then_len p q).trans hp.len) (fun i hi => ?_) (fun i j hi hj e => ?_)
  · rw [ap_then (hp.len ▸ hi)]; exact hq.lt (hp.lt hi)
  · rw [ap_then (hp.len ▸ hi), ap_then (hp.len ▸ hj)] at e
    exact hp.inj hi hj (hq.inj (hp.lt hi) (hp.lt hj) e)
theorem then_assoc {n : Nat} {p q r : Perm} (hp : PermN n p) (hq : PermN n q) : then_ (then_ p q) r = then_ p (then_ q r) := by
  refine perm_ext (n := n) (by rw [then_len, then_len]; exact hp.len) (by rw [then_len]; exact hp.len) fun i hi => ?_
  rw [ap_then (by rw [then_len, hp.len]; exact hi), ap_then (hp.len ▸ hi), ap_then (hp.len ▸ hi), ap_then (hq.len ▸ hp.lt hi)]
theorem ident_then {n : Nat} {p : Perm} (hp : PermN n p) : then_ (ident n) p = p := by
  refine perm_ext (n := n) (by rw [then_len, ident_len]) hp.len fun i hi => ?_
  rw [ap_then (by rw [ident_len]; exact hi), ap_ident hi]
theorem then_ident {n : Nat} {p : Perm} (hp : PermN n p) : then_ p (ident n) = p := by
  refine perm_ext (n := n) (by rw [then_len, hp.len]) hp.len fun i hi => ?_
  rw [ap_then (hp.len ▸ hi), ap_ident (hp.lt hi)]
theorem then_cancel {n : Nat} {p q r : Perm} (hp : PermN n p) (hq : PermN n q) (hr : PermN n r) (e : then_ p r = then_ q r) : p = q := by
  refine perm_ext (n := n) hp.len hq.len fun i hi => ?_
  have : ap (then_ p r) i = ap (then_ q r) i := congrArg (fun z => ap z i) e
  rw [ap_then (hp.len ▸ hi), ap_then (hq.len ▸ hi)] at this
  exact hr.inj (hp.lt hi) (hq.lt hi) this
theorem back_len (p : Perm) : (back p).length = p.length := by simp [back]
theorem ap_back {n : Nat} {p : Perm} (hp : PermN n p) {j : Nat} (hj : j < n) : ap (back p) j < n ∧ ap p (ap (back p) j) = j := by
  have hm := hp.mem.mpr hj
  have e : ap (back p) j = p.idxOf j := by simp [ap, back, hp.len, hj]
  have hl := List.idxOf_lt_length_of_mem hm
  rw [e]
  exact ⟨hp.len ▸ hl, by rw [ap_get hl]; exact List.getElem_idxOf hl⟩
theorem ap_back' {n : Nat} {p : Perm} (hp : PermN n p) {i : Nat} (hi : i < n) : ap (back p) (ap p i) = i := by
  obtain ⟨h1, h2⟩ := ap_back hp (hp.lt hi)
  exact hp.inj h1 hi h2
theorem back_perm {n : Nat} {p : Perm} (hp : PermN n p) : PermN n (back p) := by
  refine permN_of ((back_len p).trans hp.len) (fun i hi => (ap_back hp hi).1) (fun i j hi hj e => ?_)
  rw [← (ap_back hp hi).2, ← (ap_back hp hj).2, e]
theorem back_then {n : Nat} {p : Perm} (hp : PermN n p) : then_ (back p) p = ident n := by
  refine perm_ext (n := n) (by rw [then_len, back_len, hp.len]) (ident_len n) fun i hi => ?_
  rw [ap_then (by rw [back_len, hp.len]; exact hi), ap_ident hi]; exact (ap_back hp hi).2
theorem then_back {n : Nat} {p : Perm} (hp : PermN n p) : then_ p (back p) = ident n := by
  refine perm_ext (n := n) (by rw [then_len, hp.len]) (ident_len n) fun i hi => ?_
  rw [ap_then (hp.len ▸ hi), ap_ident hi]; exact ap_back' hp hi
/-! ### what some exchanges make -/
inductive Reach (n : Nat) (gens : List Perm) : Perm → Prop
  | base : Reach n gens (ident n)
  | step {p g : Perm} : Reach n gens p → g ∈ gens → Reach n gens (then_ p g)
theorem Reach.perm {n : Nat} {gens : List Perm} (hg : ∀ g ∈ gens, PermN n g) {p : Perm} (h : Reach n gens p) : PermN n p := by
  induction h with
  | base => exact ident_perm n
  | step _ m ih => exact then_perm ih (hg _ m)
theorem Reach.gen {n : Nat} {gens : List Perm} (hg : ∀ g ∈ gens, PermN n g) {g : Perm} (h : g ∈ gens) : Reach n gens g := by
  have := Reach.step (n := n) Reach.base h
  rwa [ident_then (hg g h)] at this
theorem Reach.mul {n : Nat} {gens : List Perm} (hg : ∀ g ∈ gens, PermN n g) {p q : Perm} (hp : Reach n gens p) (hq : Reach n gens q) : Reach n gens (then_ p q) := by
  induction hq with
  | base => rw [then_ident (hp.perm hg)]; exact hp
  | step h m ih => rw [← then_assoc (hp.perm hg) (h.perm hg)]; exact ih.step m
theorem Reach.mono {n : Nat} {gens more : List Perm} (hm : ∀ g ∈ more, PermN n g) (hs : ∀ g ∈ gens, Reach n more g) {p : Perm} (h : Reach n gens p) : Reach n more p := by
  induction h with
  | base => exact .base
  | step _ m ih => exact ih.mul hm (hs _ m)
/-! ### grow -/
def fresh (all : List Perm) (l : List Perm) (p : Perm) : List Perm := if all.contains p = true ∨ l.contains p = true then l else l ++ [p]
theorem fresh_mem {all l : List Perm} {p q : Perm} : q ∈ fresh all l p ↔ q ∈ l ∨ (q = p ∧ q ∉ all) := by
  unfold fresh
  by_cases h : all.contains p = true ∨ l.contains p = true
  · rw [if_pos h]
    constructor
    · exact Or.inl
    · rintro (h1 | ⟨rfl, h2⟩)
      · exact h1
      · cases h with
        | inl h => exact absurd (List.contains_iff_mem.mp h) h2
        | inr h => exact List.contains_iff_mem.mp h
  · rw [if_neg h, List.mem_append, List.mem_singleton]
    constructor
    · rintro (h1 | rfl)
      · exact .inl h1
      · exact .inr ⟨rfl, fun m => h (.inl (List.contains_iff_mem.mpr m))⟩
    · rintro (h1 | ⟨rfl, _⟩)
      · exact .inl h1
      · exact .inr rfl
theorem fresh_nodup {all l : List Perm} {p : Perm} (hn : l.Nodup) : (fresh all l p).Nodup := by
  unfold fresh
  by_cases h : all.contains p = true ∨ l.contains p = true
  · rw [if_pos h]; exact hn
  · rw [if_neg h, List.nodup_append]
    refine ⟨hn, by simp, fun a ha b hb e => ?_⟩
    rw [List.mem_singleton] at hb
    subst hb; subst e
    exact h (.inr (List.contains_iff_mem.mpr ha))
theorem freshes_mem {all : List Perm} {q : Perm} : ∀ (xs l : List Perm), q ∈ xs.foldl (fresh all) l ↔ q ∈ l ∨ (q ∈ xs ∧ q ∉ all)
  | [], l => by simp
  | x :: xs, l => by
    rw [List.foldl_cons, freshes_mem xs, fresh_mem, List.mem_cons]
    constructor
    · rintro ((h | ⟨h, k⟩) | ⟨h, k⟩)
      · exact .inl h
      · exact .inr ⟨.inl h, k⟩
      · exact .inr ⟨.inr h, k⟩
    · rintro (h | ⟨h | h, k⟩)
      · exact .inl (.inl h)
      · exact .inl (.inr ⟨h, k⟩)
      · exact .inr ⟨h, k⟩
theorem freshes_nodup {all : List Perm} : ∀ (xs l : List Perm), l.Nodup → (xs.foldl (fresh all) l).Nodup
  | [], _, h => h
  | x :: xs, l, h => by rw [List.foldl_cons]; exact freshes_nodup xs _ (fresh_nodup h)
def nexts (gens all new : List Perm) : List Perm := (new.flatMap fun (p : Perm) => gens.map fun (g : Perm) => then_ p g).foldl (fresh all) []
theorem nexts_mem {gens all new : List Perm} {q : Perm} : q ∈ nexts gens all new ↔ (∃ p ∈ new, ∃ g ∈ gens, then_ p g = q) ∧ q ∉ all := by
  unfold nexts
  rw [freshes_mem]
  simp
theorem grow_stop {gens : List Perm} {most f : Nat} {all new : List Perm} (h : most < all.length) : grow gens most (f + 1) all new = all := by
  simp [grow, h]
theorem grow_nil {gens : List Perm} {most : Nat} {all : List Perm} : ∀ {f : Nat}, grow gens most f all [] = all
  | 0 => rfl
  | f + 1 => by simp [grow]
theorem grow_go {gens : List Perm} {most f : Nat} {all new : List Perm} (h : ¬ most < all.length) (hn : new ≠ []) : grow gens most (f + 1) all new = grow gens most f (all ++ nexts gens all new) (nexts gens all new) := by
  cases new with
  | nil => exact absurd rfl hn
  | cons x l =>
    show (if most < all.length then all else _) = _
    rw [if_neg h]; rfl
structure Grown (n : Nat) (gens : List Perm) (most : Nat) (l : List Perm) : Prop where
  nd : l.Nodup
  reach : ∀ p ∈ l, Reach n gens p
  all : most < l.length ∨ ∀ p, Reach n gens p → p ∈ l
theorem grow_ok {n : Nat} {gens : List Perm} {most : Nat} : ∀ (f : Nat) (all new : List Perm), all.Nodup → (∀ p ∈ all, Reach n gens p) → ident n ∈ all → (∀ p ∈ new, p ∈ all) →
    (∀ p ∈ all, p ∉ new → ∀ g ∈ gens, then_ p g ∈ all) → (most + 1 ≤ f + all.length ∨ new = []) → Grown n gens most (grow gens most f all new) := by
  have fin : ∀ all : List Perm, all.Nodup → (∀ p ∈ all, Reach n gens p) → ident n ∈ all → (∀ p ∈ all, ∀ g ∈ gens, then_ p g ∈ all) → Grown n gens most all := fun all h1 h2 h3 h4 => ⟨h1, h2, .inr fun p hp => by
    induction hp with
    | base => exact h3
    | step _ m ih => exact h4 _ ih _ m⟩
  intro f
  induction f with
  | zero =>
    intro all new h1 h2 h3 h4 h5 h6
    show Grown n gens most all
    cases h6 with
    | inl h => exact ⟨h1, h2, .inl (by omega)⟩
    | inr h => subst h; exact fin all h1 h2 h3 fun p hp => h5 p hp (by simp)
  | succ f ih =>
    intro all new h1 h2 h3 h4 h5 h6
    by_cases hm : most < all.length
    · rw [grow_stop hm]; exact ⟨h1, h2, .inl hm⟩
    · by_cases hn : new = []
      · subst hn; rw [grow_nil]; exact fin all h1 h2 h3 fun p hp => h5 p hp (by simp)
      · rw [grow_go hm hn]
        have hf : most + 1 ≤ f + 1 + all.length := h6.resolve_right hn
        refine ih _ _ ?_ ?_ ?_ ?_ ?_ ?_
        · rw [List.nodup_append]
          exact ⟨h1, freshes_nodup _ _ (by simp), fun a ha b hb e => (nexts_mem.mp hb).2 (e ▸ ha)⟩
        · intro p hp
          rcases List.mem_append.mp hp with hp | hp
          · exact h2 p hp
          · obtain ⟨⟨q, hq, g, hg, rfl⟩, _⟩ := nexts_mem.mp hp
            exact (h2 q (h4 q hq)).step hg
        · exact List.mem_append.mpr (.inl h3)
        · intro p hp; exact List.mem_append.mpr (.inr hp)
        · intro p hp hq g hg
          rw [List.mem_append]
          have hp : p ∈ all := (List.mem_append.mp hp).resolve_right hq
          by_cases c : p ∈ new
          · by_cases d : then_ p g ∈ all
            · exact .inl d
            · exact .inr (nexts_mem.mpr ⟨⟨p, c, g, hg, rfl⟩, d⟩)
          · exact .inl (h5 p hp c g hg)
        · by_cases e : nexts gens all new = []
          · exact .inr e
          · have := List.length_pos_iff.mpr e
            rw [List.length_append]; exact .inl (by omega)
theorem grow_grown (n : Nat) (gens : List Perm) {most : Nat} (h : most ≤ 1000) : Grown n gens most (grow gens most 1000 [ident n] [ident n]) := by
  refine grow_ok 1000 _ _ (by simp) ?_ (by simp) (fun _ h => h) (fun p hp hq => absurd hp hq) (.inl (by simp; omega))
  intro p hp; rw [List.mem_singleton] at hp; subst hp; exact .base
/-! ### order -/
theorem before_irrefl : ∀ (a : List Nat), before a a = false
  | [] => rfl
  | x :: l => by simp [before, before_irrefl l]
theorem before_trans : ∀ {a b c : List Nat}, before a b = true → before b c = true → before a c = true
  | [], _, _, h, _ => by simp [before] at h
  | _ :: _, [], _, h, _ => by simp [before] at h
  | _ :: _, _ :: _, [], _, h => by simp [before] at h
  | x :: a, y :: b, z :: c, h1, h2 => by
    simp only [before, Bool.or_eq_true, decide_eq_true_eq, Bool.and_eq_true, beq_iff_eq] at h1 h2 ⊢
    rcases h1 with h1 | ⟨rfl, h1⟩
    · rcases h2 with h2 | ⟨rfl, h2⟩
      · exact .inl (by omega)
      · exact .inl h1
    · rcases h2 with h2 | ⟨rfl, h2⟩
      · exact .inl h2
      · exact .inr ⟨rfl, before_trans h1 h2⟩
theorem before_total : ∀ {a b : List Nat}, a.length = b.length → a ≠ b → before a b = false → before b a = true
  | [], [], _, h, _ => absurd rfl h
  | [], _ :: _, h, _, _ => by simp at h
  | _ :: _, [], h, _, _ => by simp at h
  | x :: a, y :: b, hl, hn, h => by
    simp only [before, Bool.or_eq_false_iff, decide_eq_false_iff_not, Bool.and_eq_false_iff] at h
    simp only [before, Bool.or_eq_true, decide_eq_true_eq, Bool.and_eq_true, beq_iff_eq]
    by_cases e : x = y
    · subst e
      refine .inr ⟨rfl, before_total (by simpa using hl) (fun k => hn (by rw [k])) ?_⟩
      rcases h.2 with h | h
      · simp at h
      · exact h
    · exact .inl (by omega)
def Up (l : List (List Nat)) : Prop := l.Pairwise fun a b => before a b = true
theorem insert_mem {p q : Perm} : ∀ {l : List Perm}, q ∈ WpBase.insert p l ↔ q = p ∨ q ∈ l
  | [] => by simp [WpBase.insert]
  | x :: l => by
    unfold WpBase.insert
    by_cases e : p = x
    · rw [if_pos e, List.mem_cons, e]; constructor
      · exact .inr
      · rintro (h | h)
        · exact .inl h
        · exact h
    · rw [if_neg e]
      by_cases b : before p x = true
      · rw [if_pos b, List.mem_cons]
      · rw [if_neg b, List.mem_cons, insert_mem, List.mem_cons]
        constructor
        · rintro (h | h | h)
          · exact .inr (.inl h)
          · exact .inl h
          · exact .inr (.inr h)
        · rintro (h | h | h)
          · exact .inr (.inl h)
          · exact .inl h
          · exact .inr (.inr h)
theorem insert_up {n : Nat} {p : Perm} (hp : p.length = n) : ∀ {l : List Perm}, (∀ q ∈ l, q.length = n) → Up l → Up (WpBase.insert p l)
  | [], _, _ => by simp [WpBase.insert, Up]
  | x :: l, hl, hu => by
    have hu' := List.pairwise_cons.mp hu
    unfold WpBase.insert
    by_cases e : p = x
    · rw [if_pos e]; exact hu
    · rw [if_neg e]
      by_cases b : before p x = true
      · rw [if_pos b]
        refine List.pairwise_cons.mpr ⟨fun y hy => ?_, hu⟩
        rcases List.mem_cons.mp hy with rfl | hy
        · exact b
        · exact before_trans b (hu'.1 y hy)
      · rw [if_neg b]
        refine List.pairwise_cons.mpr ⟨fun y hy => ?_, insert_up hp (fun q hq => hl q (List.mem_cons_of_mem _ hq)) hu'.2⟩
        rcases insert_mem.mp hy with rfl | hy
        · exact before_total (hp.trans (hl x (by simp)).symm) e (by simpa using b)
        · exact hu'.1 y hy
theorem sorted_fold {n : Nat} : ∀ (l s : List Perm), (∀ q ∈ l, q.length = n) → (∀ q ∈ s, q.length = n) → Up s →
    Up (l.foldl (fun (s : List Perm) (p : Perm) => WpBase.insert p s) s) ∧ ∀ q, q ∈ l.foldl (fun (s : List Perm) (p : Perm) => WpBase.insert p s) s ↔ q ∈ s ∨ q ∈ l
  | [], s, _, _, hu => ⟨hu, fun q => by simp⟩
  | x :: l, s, hl, hs, hu => by
    rw [List.foldl_cons]
    have hx := hl x (by simp)
    obtain ⟨h1, h2⟩ := sorted_fold l (WpBase.insert x s) (fun q hq => hl q (List.mem_cons_of_mem _ hq)) (fun q hq => (insert_mem.mp hq).elim (fun e => e ▸ hx) (hs q)) (insert_up hx hs hu)
    refine ⟨h1, fun q => ?_⟩
    rw [h2, insert_mem, List.mem_cons]
    constructor
    · rintro ((h | h) | h)
      · exact .inr (.inl h)
      · exact .inl h
      · exact .inr (.inr h)
    · rintro (h | h | h)
      · exact .inl (.inr h)
      · exact .inl (.inl h)
      · exact .inr h
theorem sorted_up {n : Nat} {l : List Perm} (hl : ∀ q ∈ l, q.length = n) : Up (sorted l) := (sorted_fold l [] hl (by simp) List.Pairwise.nil).1
theorem sorted_mem {n : Nat} {l : List Perm} (hl : ∀ q ∈ l, q.length = n) {q : Perm} : q ∈ sorted l ↔ q ∈ l := by
  have := (sorted_fold l [] hl (by simp) List.Pairwise.nil).2 q
  exact this.trans (by simp)
theorem up_nodup {l : List (List Nat)} (h : Up l) : l.Nodup := by
  refine List.Pairwise.imp (fun {a b} hb e => ?_) h
  subst e; rw [before_irrefl] at hb; cases hb
theorem up_same : ∀ {l m : List (List Nat)}, Up l → Up m → (∀ q, q ∈ l ↔ q ∈ m) → l = m
  | [], [], _, _, _ => rfl
  | [], y :: m, _, _, h => absurd ((h y).mpr (by simp)) (by simp)
  | x :: l, [], _, _, h => absurd ((h x).mp (by simp)) (by simp)
  | x :: l, y :: m, h1, h2, h => by
    have a := List.pairwise_cons.mp h1
    have b := List.pairwise_cons.mp h2
    have e : x = y := by
      rcases List.mem_cons.mp ((h x).mp (by simp)) with e | e
      · exact e
      · rcases List.mem_cons.mp ((h y).mpr (by simp)) with f | f
        · exact f.symm
        · have := before_trans (b.1 x e) (a.1 y f)
          rw [before_irrefl] at this; cases this
    subst e
    refine congrArg _ (up_same a.2 b.2 fun q => ?_)
    constructor
    · intro hq
      rcases List.mem_cons.mp ((h q).mp (List.mem_cons_of_mem _ hq)) with f | f
      · subst f; have := a.1 q hq; rw [before_irrefl] at this; cases this
      · exact f
    · intro hq
      rcases List.mem_cons.mp ((h q).mpr (List.mem_cons_of_mem _ hq)) with f | f
      · subst f; have := b.1 q hq; rw [before_irrefl] at this; cases this
      · exact f
/-! ### the group -/
structure IsGroup (n : Nat) (gens g : List Perm) : Prop where
  up : Up g
  mem : ∀ p, p ∈ g ↔ Reach n gens p
  gp : ∀ p ∈ gens, PermN n p
theorem IsGroup.nd {n : Nat} {gens g : List Perm} (h : IsGroup n gens g) : g.Nodup := up_nodup h.up
theorem IsGroup.perm {n : Nat} {gens g : List Perm} (h : IsGroup n gens g) {p : Perm} (hp : p ∈ g) : PermN n p := ((h.mem p).mp hp).perm h.gp
theorem IsGroup.ident {n : Nat} {gens g : List Perm} (h : IsGroup n gens g) : ident n ∈ g := (h.mem _).mpr .base
theorem IsGroup.mul {n : Nat} {gens g : List Perm} (h : IsGroup n gens g) {p q : Perm} (hp : p ∈ g) (hq : q ∈ g) : then_ p q ∈ g := (h.mem _).mpr (((h.mem _).mp hp).mul h.gp ((h.mem _).mp hq))
theorem IsGroup.back {n : Nat} {gens g : List Perm} (h : IsGroup n gens g) {p : Perm} (hp : p ∈ g) : back p ∈ g := by
  have hP := h.perm hp
  have nd : (g.map fun q => then_ q p).Nodup := nodup_map_inj h.nd fun a ha b hb e => then_cancel (h.perm ha) (h.perm hb) hP e
  have pm := perm_of_nodup_sub (g.map fun q => then_ q p) g nd (fun x hx => by
    obtain ⟨q, hq, rfl⟩ := List.mem_map.mp hx
    exact h.mul hq hp) (by simp)
  obtain ⟨q, hq, e⟩ := List.mem_map.mp (pm.mem_iff.mpr h.ident)
  have : q = WpBase.back p := then_cancel (h.perm hq) (back_perm hP) hP (e.trans (back_then hP).symm)
  exact this ▸ hq
theorem IsGroup.uniq {n : Nat} {gens gens' g g' : List Perm} (h : IsGroup n gens g) (h' : IsGroup n gens' g') (e : ∀ p, Reach n gens p ↔ Reach n gens' p) : g = g' :=
  up_same h.up h'.up fun p => ((h.mem p).trans (e p)).trans (h'.mem p).symm
theorem sorted_len {n : Nat} {l : List Perm} (hl : ∀ q ∈ l, q.length = n) (nd : l.Nodup) : (sorted l).length = l.length := by
  have h1 := nodup_sub_len (sorted l) l (up_nodup (sorted_up hl)) fun x hx => (sorted_mem hl).mp hx
  have h2 := nodup_sub_len l (sorted l) nd fun x hx => (sorted_mem hl).mpr hx
  omega
theorem group_is {n : Nat} {gens : List Perm} (hg : ∀ g ∈ gens, PermN n g) (h : ¬ 200 < (group n 200 gens).length) : IsGroup n gens (group n 200 gens) := by
  have G := grow_grown n gens (most := 200) (by omega)
  have hl : ∀ q ∈ grow gens 200 1000 [ident n] [ident n], q.length = n := fun q hq => ((G.reach q hq).perm hg).len
  unfold group at h ⊢
  rw [sorted_len hl G.nd] at h
  have a := G.all.resolve_left h
  exact ⟨sorted_up hl, fun p => (sorted_mem hl).trans ⟨G.reach p, a p⟩, hg⟩
/-- more than 200 by the specification: so many differing ones are made -/
theorem group_many {n : Nat} {gens : List Perm} (hg : ∀ g ∈ gens, PermN n g) (h : 200 < (group n 200 gens).length) : ∃ l : List Perm, l.Nodup ∧ (∀ p ∈ l, Reach n gens p) ∧ 200 < l.length := by
  have G := grow_grown n gens (most := 200) (by omega)
  have hl : ∀ q ∈ grow gens 200 1000 [ident n] [ident n], q.length = n := fun q hq => ((G.reach q hq).perm hg).len
  unfold group at h
  rw [sorted_len hl G.nd] at h
  exact ⟨_, G.nd, G.reach, h⟩
/-- a complete list of at most 200 decides -/
theorem group_few {n : Nat} {gens l : List Perm} (hg : ∀ g ∈ gens, PermN n g) (hl : l.length ≤ 200) (ha : ∀ p, Reach n gens p → p ∈ l) : ¬ 200 < (group n 200 gens).length := fun h => by
  obtain ⟨m, nd, r, k⟩ := group_many hg h
  have := nodup_sub_len m l nd fun p hp => ha p (r p hp)
  omega
/-- more than 200 made: the specification says so, too -/
theorem group_over {n : Nat} {gens l : List Perm} (hg : ∀ g ∈ gens, PermN n g) (nd : l.Nodup) (hr : ∀ p ∈ l, Reach n gens p) (hl : 200 < l.length) : 200 < (group n 200 gens).length := by
  apply Decidable.byContradiction
  intro h
  have G := group_is hg h
  have := nodup_sub_len l _ nd fun p hp => (G.mem p).mpr (hr p hp)
  omega
/-- one that is in the group adds nothing -/
theorem group_same {n : Nat} {gens : List Perm} {p : Perm} (hg : ∀ g ∈ gens, PermN n g) (h : Reach n gens p) (q : Perm) : Reach n (gens ++ [p]) q ↔ Reach n gens q := by
  have hm : ∀ g ∈ gens ++ [p], PermN n g := fun g hq => (List.mem_append.mp hq).elim (hg g) fun e => by rw [List.mem_singleton] at e; subst e; exact h.perm hg
  constructor
  · exact Reach.mono hg fun g hq => (List.mem_append.mp hq).elim (Reach.gen hg) fun e => by rw [List.mem_singleton] at e; subst e; exact h
  · exact Reach.mono hm fun g hq => Reach.gen hm (List.mem_append.mpr (.inl hq))
end Cc
set_option Elab.async false
namespace Cc
open WpBase
/-! ### rings -/
def it (p : Perm) : Nat → Nat → Nat
  | 0, i => i
  | k + 1, i => ap p (it p k i)
theorem it_lt {n : Nat} {p : Perm} (h : PermN n p) {i : Nat} (hi : i < n) : ∀ k, it p k i < n
  | 0 => hi
  | k + 1 => h.lt (it_lt h hi k)
theorem it_add (p : Perm) (i : Nat) : ∀ a b, it p (a + b) i = it p a (it p b i)
  | 0, b => by rw [Nat.zero_add]; rfl
  | a + 1, b => by
    rw [show a + 1 + b = (a + b) + 1 by omega]
    show ap p (it p (a + b) i) = ap p (it p a (it p b i))
    rw [it_add p i a b]
theorem it_succ (p : Perm) (i k : Nat) : it p (k + 1) i = it p k (ap p i) := it_add p i k 1
theorem it_inj {n : Nat} {p : Perm} (h : PermN n p) {i j : Nat} (hi : i < n) (hj : j < n) : ∀ k, it p k i = it p k j → i = j
  | 0, e => e
  | k + 1, e => it_inj h hi hj k (h.inj (it_lt h hi k) (it_lt h hj k) e)
theorem it_return {n : Nat} {p : Perm} (h : PermN n p) {i : Nat} (hi : i < n) : ∃ k, 1 ≤ k ∧ k ≤ n ∧ it p k i = i := by
  apply Classical.byContradiction
  intro hc
  have hne : ∀ k, 1 ≤ k → k ≤ n → it p k i ≠ i := fun k h1 h2 e => hc ⟨k, h1, h2, e⟩
  have nd : ((List.range (n + 1)).map fun k => it p k i).Nodup := by
    refine nodup_map_inj List.nodup_range fun a ha b hb e => ?_
    rw [List.mem_range] at ha hb
    rcases Nat.lt_trichotomy a b with c | c | c
    · exfalso
      refine hne (b - a) (by omega) (by omega) ?_
      have : it p b i = it p a (it p (b - a) i) := by rw [← it_add]; congr 1; omega
      exact it_inj h (it_lt h hi _) hi a (this.symm.trans e.symm)
    · exact c
    · exfalso
      refine hne (a - b) (by omega) (by omega) ?_
      have : it p a i = it p b (it p (a - b) i) := by rw [← it_add]; congr 1; omega
      exact it_inj h (it_lt h hi _) hi b (this.symm.trans e)
  have := nodup_sub_len _ (List.range n) nd fun x hx => by
    obtain ⟨k, _, rfl⟩ := List.mem_map.mp hx
    exact List.mem_range.mpr (it_lt h hi k)
  simp at this
  omega
/-- how long the ring of a place is -/
def rlen (p : Perm) (i : Nat) : Nat := ringFrom p p.length i i
theorem ringFrom_spec (p : Perm) (i : Nat) : ∀ (f j : Nat), (∃ k, 1 ≤ k ∧ k ≤ f ∧ it p k j = i) → 1 ≤ ringFrom p f i j ∧ ringFrom p f i j ≤ f ∧ it p (ringFrom p f i j) j = i ∧ ∀ k, 1 ≤ k → k < ringFrom p f i j → it p k j ≠ i
  | 0, j, ⟨k, h1, h2, _⟩ => by omega
  | f + 1, j, ⟨k, h1, h2, e⟩ => by
    by_cases c : ap p j = i
    · have : ringFrom p (f + 1) i j = 1 := if_pos c
      rw [this]
      exact ⟨by omega, by omega, c, fun k a b => by omega⟩
    · have e1 : ringFrom p (f + 1) i j = 1 + ringFrom p f i (ap p j) := if_neg c
      have hk : k ≠ 1 := fun q => c (by rw [q] at e; exact e)
      obtain ⟨a1, a2, a3, a4⟩ := ringFrom_spec p i f (ap p j) ⟨k - 1, by omega, by omega, by rw [← it_succ]; rw [show k - 1 + 1 = k by omega]; exact e⟩
      rw [e1]
      refine ⟨by omega, by omega, by rw [Nat.add_comm, it_succ]; exact a3, fun m b1 b2 q => ?_⟩
      by_cases hm : m = 1
      · rw [hm] at q; exact c q
      · refine a4 (m - 1) (by omega) (by omega) ?_
        rw [← it_succ, show m - 1 + 1 = m by omega]; exact q
theorem rlen_spec {n : Nat} {p : Perm} (h : PermN n p) {i : Nat} (hi : i < n) : 1 ≤ rlen p i ∧ rlen p i ≤ n ∧ it p (rlen p i) i = i ∧ ∀ k, 1 ≤ k → k < rlen p i → it p k i ≠ i := by
  have := ringFrom_spec p i n i (it_return h hi)
  unfold rlen; rw [h.len]; exact this
theorem it_mul {p : Perm} {i r : Nat} (h : it p r i = i) : ∀ k, it p (r * k) i = i
  | 0 => rfl
  | k + 1 => by rw [Nat.mul_succ, it_add, h]; exact it_mul h k
theorem it_mod {p : Perm} {i r : Nat} (h : it p r i = i) (k : Nat) : it p k i = it p (k % r) i := by
  have := Nat.mod_add_div k r
  rw [← this, it_add, it_mul h, this]
/-- the place's ring, gone through: all its places, each once -/
theorem ring_inj {n : Nat} {p : Perm} (h : PermN n p) {i : Nat} (hi : i < n) {a b : Nat} (ha : a < rlen p i) (hb : b < rlen p i) (e : it p a i = it p b i) : a = b := by
  obtain ⟨r1, r2, r3, r4⟩ := rlen_spec h hi
  rcases Nat.lt_trichotomy a b with c | c | c
  · exfalso
    refine r4 (b - a) (by omega) (by omega) ?_
    have : it p b i = it p a (it p (b - a) i) := by rw [← it_add]; congr 1; omega
    exact it_inj h (it_lt h hi _) hi a (this.symm.trans e.symm)
  · exact c
  · exfalso
    refine r4 (a - b) (by omega) (by omega) ?_
    have : it p a i = it p b (it p (a - b) i) := by rw [← it_add]; congr 1; omega
    exact it_inj h (it_lt h hi _) hi b (this.symm.trans e)
theorem it_within {n : Nat} {p : Perm} (h : PermN n p) {i : Nat} (hi : i < n) (k : Nat) : ∃ m, m < rlen p i ∧ it p k i = it p m i := by
  obtain ⟨r1, r2, r3, r4⟩ := rlen_spec h hi
  exact ⟨k % rlen p i, Nat.mod_lt _ (by omega), it_mod r3 k⟩
/-- from a place of its ring a place is come to again -/
theorem it_back {n : Nat} {p : Perm} (h : PermN n p) {i : Nat} (hi : i < n) (k : Nat) : ∃ m, m < n ∧ it p m (it p k i) = i := by
  obtain ⟨r1, r2, r3, r4⟩ := rlen_spec h hi
  obtain ⟨m, hm, e⟩ := it_within h hi k
  rw [e]
  by_cases c : m = 0
  · subst c; exact ⟨0, by omega, rfl⟩
  · refine ⟨rlen p i - m, by omega, ?_⟩
    rw [← it_add, show rlen p i - m + m = rlen p i by omega]; exact r3
/-- the least place of its ring -/
def Least (p : Perm) (i : Nat) : Prop := ∀ k, i ≤ it p k i
theorem minfold (p : Perm) (i : Nat) : ∀ (m : Nat), ((List.range m).foldl (fun (a : Nat × Nat) (_ : Nat) => (p.getD a.1 0, min a.2 (p.getD a.1 0))) (i, i)).1 = it p m i ∧
    (((List.range m).foldl (fun (a : Nat × Nat) (_ : Nat) => (p.getD a.1 0, min a.2 (p.getD a.1 0))) (i, i)).2 = i ↔ ∀ k, k ≤ m → i ≤ it p k i) ∧
    ((List.range m).foldl (fun (a : Nat × Nat) (_ : Nat) => (p.getD a.1 0, min a.2 (p.getD a.1 0))) (i, i)).2 ≤ i
  | 0 => by
    refine ⟨rfl, ⟨fun _ k hk => ?_, fun _ => rfl⟩, Nat.le_refl _⟩
    have : k = 0 := by omega
    subst this; exact Nat.le_refl _
  | m + 1 => by
    obtain ⟨h1, h2, h3⟩ := minfold p i m
    rw [List.range_succ, List.foldl_append, List.foldl_cons, List.foldl_nil]
    generalize (List.range m).foldl (fun (a : Nat × Nat) (_ : Nat) => (p.getD a.1 0, min a.2 (p.getD a.1 0))) (i, i) = x at h1 h2 h3
    have e : p.getD x.1 0 = it p (m + 1) i := by rw [h1]; rfl
    refine ⟨e, ?_, ?_⟩
    · show min x.2 (p.getD x.1 0) = i ↔ _
      rw [e]
      constructor
      · intro q k hk
        by_cases c : k = m + 1
        · subst c; omega
        · have : x.2 = i := by omega
          exact h2.mp this k (by omega)
      · intro q
        have a := h2.mpr fun k hk => q k (by omega)
        have b := q (m + 1) (Nat.le_refl _)
        omega
    · show min x.2 (p.getD x.1 0) ≤ i
      omega
theorem least_iff {n : Nat} {p : Perm} (h : PermN n p) {i : Nat} (hi : i < n) : (∀ k, k ≤ n → i ≤ it p k i) ↔ Least p i := by
  constructor
  · intro q k
    obtain ⟨m, hm, e⟩ := it_within h hi k
    rw [e]; exact q m (by have := (rlen_spec h hi).2.1; omega)
  · intro q k _; exact q k
instance (p : Perm) (n i : Nat) : Decidable (∀ k, k ≤ n → i ≤ it p k i) := decidable_of_iff (∀ k, k < n + 1 → i ≤ it p k i) ⟨fun h k hk => h k (by omega), fun h k hk => h k (by omega)⟩
def leastB (p : Perm) (i : Nat) : Bool := decide (∀ k, k ≤ p.length → i ≤ it p k i)
theorem leastB_iff {n : Nat} {p : Perm} (h : PermN n p) {i : Nat} (hi : i < n) : leastB p i = true ↔ Least p i := by
  unfold leastB; rw [decide_eq_true_eq, h.len]; exact least_iff h hi
theorem orbit_one {n : Nat} {p : Perm} (h : PermN n p) {i : Nat} (hi : i < n) : (orbit [p] i).isEmpty = false := by
  have : ap p i ∈ orbit [p] i := by
    unfold orbit
    rw [List.mem_filter]
    refine ⟨List.mem_range.mpr ?_, ?_⟩
    · show ap p i < p.length
      rw [h.len]; exact h.lt hi
    · simp [ap]
  cases e : orbit [p] i with
  | nil => rw [e] at this; cases this
  | cons => rfl
theorem filterMap_if {α β : Type} {c : α → Bool} {f : α → β} : ∀ (l : List α), l.filterMap (fun a => if c a = true then some (f a) else none) = (l.filter c).map f
  | [] => rfl
  | a :: l => by
    rw [List.filterMap_cons, List.filter_cons]
    by_cases h : c a = true
    · rw [if_pos h, if_pos h, List.map_cons, filterMap_if l]
    · rw [if_neg h, if_neg h, filterMap_if l]
theorem filterMap_same {α β : Type} {f g : α → Option β} : ∀ (l : List α), (∀ x ∈ l, f x = g x) → l.filterMap f = l.filterMap g
  | [], _ => rfl
  | a :: l, h => by
    rw [List.filterMap_cons, List.filterMap_cons, h a (by simp), filterMap_same l fun x hx => h x (List.mem_cons_of_mem _ hx)]
theorem rings_eq {n : Nat} {p : Perm} (h : PermN n p) : rings p = ((List.range n).filter (leastB p)).map (rlen p) := by
  rw [← filterMap_if]
  unfold rings
  rw [h.len]
  refine filterMap_same _ fun i hi => ?_
  have hi := List.mem_range.mp hi
  rw [orbit_one h hi, if_neg (by simp)]
  by_cases c : leastB p i = true
  · rw [if_pos c]
    rw [if_pos]
    · unfold rlen; rw [h.len]
    · refine (minfold p i n).2.1.mpr ?_
      unfold leastB at c; rw [decide_eq_true_eq, h.len] at c; exact c
  · rw [if_neg c]
    rw [if_neg]
    intro q
    have := (minfold p i n).2.1.mp q
    refine c ?_
    unfold leastB; rw [decide_eq_true_eq, h.len]; exact this
theorem rings_mem {n : Nat} {p : Perm} (h : PermN n p) {r : Nat} (hr : r ∈ rings p) : 1 ≤ r ∧ r ≤ n := by
  rw [rings_eq h] at hr
  obtain ⟨i, hi, rfl⟩ := List.mem_map.mp hr
  have := rlen_spec h (List.mem_range.mp (List.mem_filter.mp hi).1)
  exact ⟨this.1, this.2.1⟩
/-- behind some starts these places have been gone through -/
def Gone (p : Perm) (s j : Nat) : Prop := ∃ i, i < s ∧ ∃ k, it p k i = j
theorem gone_start {n : Nat} {p : Perm} (h : PermN n p) {s : Nat} (hs : s < n) : Gone p s s ↔ ¬ Least p s := by
  constructor
  · rintro ⟨i, hi, k, e⟩ hl
    obtain ⟨m, _, e2⟩ := it_back h (show i < n by omega) k
    rw [e] at e2
    have := hl m
    omega
  · intro hl
    have : ∃ k, ¬ s ≤ it p k s := Classical.byContradiction fun q => hl fun k => Classical.byContradiction fun z => q ⟨k, z⟩
    obtain ⟨k, hk⟩ := this
    obtain ⟨m, _, e⟩ := it_back h hs k
    exact ⟨it p k s, by omega, m, e⟩
theorem gone_ring {n : Nat} {p : Perm} (h : PermN n p) {s k : Nat} (hs : s < n) (g : Gone p s (it p k s)) : Gone p s s := by
  obtain ⟨i, hi, m, e⟩ := g
  obtain ⟨t, _, e2⟩ := it_back h hs k
  exact ⟨i, hi, t + m, by rw [it_add, e, e2]⟩
theorem gone_next {n : Nat} {p : Perm} (h : PermN n p) {s j : Nat} (hs : s < n) : Gone p (s + 1) j ↔ Gone p s j ∨ ∃ k, k < rlen p s ∧ it p k s = j := by
  constructor
  · rintro ⟨i, hi, k, e⟩
    by_cases c : i = s
    · subst c
      obtain ⟨m, hm, e2⟩ := it_within h hs k
      exact .inr ⟨m, hm, e2.symm.trans e⟩
    · exact .inl ⟨i, by omega, k, e⟩
  · rintro (⟨i, hi, k, e⟩ | ⟨k, _, e⟩)
    · exact ⟨i, by omega, k, e⟩
    · exact ⟨s, by omega, k, e⟩
/-- how many rings of a length the first starts have -/
def ringsTo (p : Perm) (s : Nat) : List Nat := ((List.range s).filter (leastB p)).map (rlen p)
theorem ringsTo_succ (p : Perm) (s : Nat) : ringsTo p (s + 1) = ringsTo p s ++ if leastB p s = true then [rlen p s] else [] := by
  unfold ringsTo
  rw [List.range_succ, List.filter_append, List.map_append]
  congr 1
  by_cases c : leastB p s = true
  · rw [if_pos c]; simp [c]
  · rw [if_neg c]; simp [c]
def tally (n : Nat) (r : List Nat) : List Nat := (List.range n).map fun (k : Nat) => (r.filter fun (x : Nat) => x == k + 1).length
theorem tally_len (n : Nat) (r : List Nat) : (tally n r).length = n := by simp [tally]
theorem tally_nil (n : Nat) : tally n [] = List.replicate n 0 := by
  unfold tally
  refine List.ext_getElem (by simp) fun i h1 h2 => by simp
theorem tally_more {n : Nat} {r : List Nat} {x : Nat} (h1 : 1 ≤ x) (_ : x ≤ n) : tally n (r ++ [x]) = (tally n r).set (x - 1) ((tally n r).getD (x - 1) 0 + 1) := by
  refine List.ext_getElem (by simp [tally]) fun i a b => ?_
  have hi : i < n := by simpa [tally] using a
  rw [List.getElem_set]
  by_cases c : x - 1 = i
  · subst c
    rw [if_pos rfl]
    have e : x - 1 + 1 = x := by omega
    simp [tally, hi, e]
  · rw [if_neg c]
    have e : ¬ x = i + 1 := by omega
    simp [tally, e]
theorem lengths_tally (n : Nat) (p : Perm) : Wp03.lengths n p = tally n (rings p) := rfl
theorem sum_replicate_zero : ∀ n : Nat, (List.replicate n 0).sum = 0
  | 0 => rfl
  | n + 1 => by rw [List.replicate_succ, List.sum_cons, sum_replicate_zero n]
theorem sum_set : ∀ (l : List Nat) (i : Nat), i < l.length → (l.set i (l.getD i 0 + 1)).sum = l.sum + 1
  | [], i, h => by simp at h
  | x :: l, 0, _ => by simp; omega
  | x :: l, i + 1, h => by
    have := sum_set l i (by simpa using h)
    rw [List.set_cons_succ, List.sum_cons, List.sum_cons]
    have e : (x :: l).getD (i + 1) 0 = l.getD i 0 := by simp
    rw [e, this]; omega
theorem tally_sum_aux {n : Nat} : ∀ (a r : List Nat), (∀ x ∈ r, 1 ≤ x ∧ x ≤ n) → (tally n (a ++ r)).sum = (tally n a).sum + r.length
  | a, [], _ => by simp
  | a, x :: r, h => by
    have hx := h x (by simp)
    rw [show a ++ x :: r = (a ++ [x]) ++ r by simp, tally_sum_aux (a ++ [x]) r fun y hy => h y (List.mem_cons_of_mem _ hy), tally_more hx.1 hx.2, sum_set _ _ (by rw [tally_len]; omega)]
    simp; omega
theorem tally_sum {n : Nat} {r : List Nat} (h : ∀ x ∈ r, 1 ≤ x ∧ x ≤ n) : (tally n r).sum = r.length := by
  have := tally_sum_aux [] r h
  rw [List.nil_append, tally_nil, sum_replicate_zero] at this
  omega
theorem lengths_sum {n : Nat} {p : Perm} (h : PermN n p) : (Wp03.lengths n p).sum = (rings p).length := by
  rw [lengths_tally]; exact tally_sum fun x hx => rings_mem h hx
end Cc
set_option Elab.async false
namespace Cc
open WpBase
/-! ### orbits -/
theorem head_len {n : Nat} {gens g : List Perm} (h : IsGroup n gens g) : (g.headD []).length = n := by
  cases g with
  | nil => exact absurd h.ident (by simp)
  | cons p l => exact (h.perm (p := p) (by simp)).len
theorem orbit_mem {n : Nat} {gens g : List Perm} (h : IsGroup n gens g) {i j : Nat} (hi : i < n) : j ∈ orbit g i ↔ ∃ p ∈ g, ap p i = j := by
  unfold orbit
  rw [List.mem_filter, head_len h, List.mem_range, List.any_eq_true]
  constructor
  · rintro ⟨_, p, hp, e⟩
    exact ⟨p, hp, by simpa [ap] using e⟩
  · rintro ⟨p, hp, rfl⟩
    exact ⟨(h.perm hp).lt hi, p, hp, by simp [ap]⟩
theorem orbit_lt {n : Nat} {gens g : List Perm} (h : IsGroup n gens g) {i j : Nat} (hj : j ∈ orbit g i) : j < n := by
  unfold orbit at hj
  rw [List.mem_filter, head_len h, List.mem_range] at hj
  exact hj.1
theorem orbit_self {n : Nat} {gens g : List Perm} (h : IsGroup n gens g) {i : Nat} (hi : i < n) : i ∈ orbit g i := (orbit_mem h hi).mpr ⟨_, h.ident, ap_ident hi⟩
theorem orbit_symm {n : Nat} {gens g : List Perm} (h : IsGroup n gens g) {i j : Nat} (hi : i < n) (hj : j ∈ orbit g i) : i ∈ orbit g j := by
  obtain ⟨p, hp, rfl⟩ := (orbit_mem h hi).mp hj
  exact (orbit_mem h ((h.perm hp).lt hi)).mpr ⟨_, h.back hp, ap_back' (h.perm hp) hi⟩
theorem orbit_trans {n : Nat} {gens g : List Perm} (h : IsGroup n gens g) {i j k : Nat} (hi : i < n) (hj : j ∈ orbit g i) (hk : k ∈ orbit g j) : k ∈ orbit g i := by
  obtain ⟨p, hp, rfl⟩ := (orbit_mem h hi).mp hj
  obtain ⟨q, hq, rfl⟩ := (orbit_mem h ((h.perm hp).lt hi)).mp hk
  exact (orbit_mem h hi).mpr ⟨_, h.mul hp hq, ap_then ((h.perm hp).len ▸ hi)⟩
theorem range_pairwise (n : Nat) : (List.range n).Pairwise (· < ·) := List.pairwise_lt_range
theorem orbit_up (g : List Perm) (i : Nat) : (orbit g i).Pairwise (· < ·) := (range_pairwise _).filter _
def orbLeast (g : List Perm) (i : Nat) : Bool := (orbit g i).all fun j => decide (i ≤ j)
theorem orbits_eq {n : Nat} {gens g : List Perm} (h : IsGroup n gens g) : orbits n g = ((List.range n).filter (orbLeast g)).map (orbit g) := by
  unfold orbits
  suffices ∀ m, m ≤ n → (List.range m).foldl (fun (l : List (List Nat)) (i : Nat) => if l.any (fun (o : List Nat) => o.contains i) = true then l else l ++ [orbit g i]) [] = ((List.range m).filter (orbLeast g)).map (orbit g) from this n (Nat.le_refl _)
  intro m
  induction m with
  | zero => intro _; rfl
  | succ m ih =>
    intro hm
    rw [List.range_succ, List.foldl_append, ih (by omega), List.foldl_cons, List.foldl_nil, List.filter_append, List.map_append]
    have key : (((List.range m).filter (orbLeast g)).map (orbit g)).any (fun (o : List Nat) => o.contains m) = true ↔ orbLeast g m = false := by
      rw [List.any_eq_true]
      constructor
      · rintro ⟨o, ho, c⟩
        obtain ⟨i, hi, rfl⟩ := List.mem_map.mp ho
        have hi := List.mem_range.mp (List.mem_filter.mp hi).1
        have hc := orbit_symm h (show i < n by omega) (List.contains_iff_mem.mp c)
        apply Bool.eq_false_iff.mpr
        intro q
        have := of_decide_eq_true (List.all_eq_true.mp q i hc)
        omega
      · intro q
        -- the least place of m's orbit
        have hex : ∃ i, i ∈ orbit g m ∧ ∀ j ∈ orbit g m, i ≤ j := by
          have hs := orbit_self h (show m < n by omega)
          have hu := orbit_up g m
          cases e : orbit g m with
          | nil => rw [e] at hs; cases hs
          | cons x l =>
            rw [e] at hu
            refine ⟨x, by simp, fun j hj => ?_⟩
            rcases List.mem_cons.mp hj with rfl | hj
            · exact Nat.le_refl _
            · exact Nat.le_of_lt ((List.pairwise_cons.mp hu).1 j hj)
        obtain ⟨i, hi, hl⟩ := hex
        have him : i < m := by
          apply Decidable.byContradiction
          intro c
          have : orbLeast g m = true := List.all_eq_true.mpr fun j hj => decide_eq_true (by have := hl j hj; omega)
          rw [this] at q; cases q
        refine ⟨orbit g i, List.mem_map.mpr ⟨i, List.mem_filter.mpr ⟨List.mem_range.mpr him, ?_⟩, rfl⟩, List.contains_iff_mem.mpr (orbit_symm h (by omega) hi)⟩
        exact List.all_eq_true.mpr fun j hj => decide_eq_true (hl j (orbit_trans h (by omega) hi hj))
    by_cases c : orbLeast g m = true
    · rw [if_neg (fun q => by rw [key.mp q] at c; cases c)]
      simp [c]
    · rw [if_pos (key.mpr (by simpa using c))]
      simp [c]
/-! ### kinds -/
theorem kindBefore_eq : ∀ (a b : List Nat), Wp03.kindBefore a b = before b a
  | [], [] => rfl
  | [], _ :: _ => rfl
  | _ :: _, [] => rfl
  | x :: l, y :: k => by
    show (decide (y < x) || (x == y && Wp03.kindBefore l k)) = (decide (y < x) || (y == x && before k l))
    rw [kindBefore_eq l k, Bool.beq_comm]
def Down (l : List (List Nat)) : Prop := l.Pairwise fun a b => before b a = true
theorem addKind_spec {n : Nat} {k : List Nat} (hk : k.length = n) (c : List Nat → Nat) : ∀ (D : List (List Nat)), (∀ q ∈ D, q.length = n) → Down D →
    ∃ D', Down D' ∧ (∀ q, q ∈ D' ↔ q = k ∨ q ∈ D) ∧ Wp03.addKind k (D.map fun q => (q, c q)) = D'.map fun q => (q, if q = k then (if k ∈ D then c k else 0) + 1 else c q)
  | [], _, _ => ⟨[k], by simp [Down], by simp, by simp [Wp03.addKind]⟩
  | x :: D, hl, hd => by
    have hd' := List.pairwise_cons.mp hd
    rw [List.map_cons]
    unfold Wp03.addKind
    by_cases e : x = k
    · subst e
      refine ⟨x :: D, hd, by simp, ?_⟩
      have hx : x ∉ D := fun m => by have := hd'.1 x m; rw [before_irrefl] at this; cases this
      rw [if_pos rfl, List.map_cons]
      simp only [if_pos, List.mem_cons, true_or]
      refine congrArg _ (List.map_congr_left fun q hq => ?_)
      rw [if_neg (fun z : q = x => hx (z ▸ hq))]
    · rw [if_neg (show ¬ (x, c x).1 = k from e)]
      by_cases b : before x k = true
      · have hnot : k ∉ x :: D := fun m => by
          rcases List.mem_cons.mp m with z | z
          · exact e z.symm
          · have := before_trans b (hd'.1 k z); rw [before_irrefl] at this; cases this
        refine ⟨k :: x :: D, List.pairwise_cons.mpr ⟨fun q hq => ?_, hd⟩, by simp, ?_⟩
        · rcases List.mem_cons.mp hq with rfl | hq
          · exact b
          · exact before_trans (hd'.1 q hq) b
        · rw [if_pos (by rw [kindBefore_eq]; exact b), if_neg hnot, List.map_cons, if_pos rfl, Nat.zero_add]
          refine congrArg _ ?_
          rw [← List.map_cons (f := fun q => (q, c q))]
          refine List.map_congr_left fun q hq => ?_
          rw [if_neg (fun z : q = k => hnot (z ▸ hq))]
      · rw [if_neg (by rw [kindBefore_eq]; exact b)]
        obtain ⟨D', h1, h2, h3⟩ := addKind_spec hk c D (fun q hq => hl q (List.mem_cons_of_mem _ hq)) hd'.2
        refine ⟨x :: D', List.pairwise_cons.mpr ⟨fun q hq => ?_, h1⟩, fun q => ?_, ?_⟩
        · rcases (h2 q).mp hq with rfl | hq
          · exact before_total ((hl x (by simp)).trans hk.symm) e (by simpa using b)
          · exact hd'.1 q hq
        · rw [List.mem_cons, h2, List.mem_cons]
          constructor
          · rintro (z | z | z)
            · exact .inr (.inl z)
            · exact .inl z
            · exact .inr (.inr z)
          · rintro (z | z | z)
            · exact .inr (.inl z)
            · exact .inl z
            · exact .inr (.inr z)
        · rw [h3, List.map_cons, if_neg e]
          refine congrArg _ (List.map_congr_left fun q hq => ?_)
          have : (k ∈ x :: D) = (k ∈ D) := by
            rw [List.mem_cons]; exact propext ⟨fun z => z.resolve_left fun z => e z.symm, .inr⟩
          simp only [this]
/-- what is counted: every kind once, the one with more first, with how often it is there -/
structure Kinds (ks : List (List Nat)) (D : List (List Nat)) : Prop where
  down : Down D
  mem : ∀ q, q ∈ D ↔ q ∈ ks
theorem kinds_fold {n : Nat} (ks : List (List Nat)) (hk : ∀ q ∈ ks, q.length = n) : ∃ D, Kinds ks D ∧ ks.foldl (fun l k => Wp03.addKind k l) [] = D.map fun q => (q, ks.count q) := by
  suffices ∀ (m : Nat), ∃ D, Kinds (ks.take m) D ∧ (ks.take m).foldl (fun l k => Wp03.addKind k l) [] = D.map fun q => (q, (ks.take m).count q) by
    have := this ks.length
    rwa [List.take_length] at this
  intro m
  induction m with
  | zero => exact ⟨[], ⟨List.Pairwise.nil, by simp⟩, rfl⟩
  | succ m ih =>
    obtain ⟨D, hD, e⟩ := ih
    by_cases c : m < ks.length
    · rw [List.take_succ_eq_append_getElem c, List.foldl_append, List.foldl_cons, List.foldl_nil, e]
      have hin : ks[m] ∈ ks := List.getElem_mem c
      obtain ⟨D', h1, h2, h3⟩ := addKind_spec (hk _ hin) (fun q => (ks.take m).count q) D (fun q hq => hk q (List.mem_of_mem_take ((hD.mem q).mp hq))) hD.down
      refine ⟨D', ⟨h1, fun q => ?_⟩, ?_⟩
      · rw [h2, hD.mem, List.mem_append, List.mem_singleton]
        exact Or.comm
      · rw [h3]
        refine List.map_congr_left fun q _ => ?_
        by_cases z : q = ks[m]
        · rw [if_pos z, List.count_append, z]
          by_cases y : ks[m] ∈ D
          · rw [if_pos y]; simp
          · rw [if_neg y]
            have : ks[m] ∉ ks.take m := fun w => y ((hD.mem _).mpr w)
            rw [List.count_eq_zero_of_not_mem this]; simp
        · rw [if_neg z, List.count_append]
          have : ¬ ks[m] = q := fun w => z w.symm
          simp [this]
    · rw [List.take_of_length_le (by omega)] at hD e ⊢
      exact ⟨D, hD, e⟩
theorem kinds_eq (n : Nat) (g : List Perm) : ∃ D, Kinds (g.map (Wp03.lengths n)) D ∧ Wp03.kinds n g = D.map fun q => (q, (g.map (Wp03.lengths n)).count q) := by
  obtain ⟨D, h, e⟩ := kinds_fold (n := n) (g.map (Wp03.lengths n)) (fun q hq => by
    obtain ⟨p, _, rfl⟩ := List.mem_map.mp hq
    simp [Wp03.lengths])
  refine ⟨D, h, ?_⟩
  rw [← e, List.foldl_map]; rfl
theorem down_same {l m : List (List Nat)} (h1 : Down l) (h2 : Down m) (h : ∀ q, q ∈ l ↔ q ∈ m) : l = m := by
  have := up_same (l := l.reverse) (m := m.reverse) (List.pairwise_reverse.mpr h1) (List.pairwise_reverse.mpr h2) (by simpa using h)
  simpa using congrArg List.reverse this
end Cc
set_option Elab.async false
namespace Cc
open WpBase
/-! ### colourings -/
theorem moved_len (c : List Nat) (p : Perm) : (Wp03.moved c p).length = c.length := by simp [Wp03.moved]
theorem ap_moved {c : List Nat} {p : Perm} {j : Nat} (hj : j < c.length) : ap (Wp03.moved c p) j = ap c (ap (back p) j) := by
  simp [ap, Wp03.moved, hj]
/-- at the place to which a place goes stands what was at that place -/
theorem moved_at {n : Nat} {c : List Nat} {p : Perm} (hc : c.length = n) (hp : PermN n p) {i : Nat} (hi : i < n) : ap (Wp03.moved c p) (ap p i) = ap c i := by
  rw [ap_moved (hc ▸ hp.lt hi), ap_back' hp hi]
theorem moved_uniq {n : Nat} {c d : List Nat} {p : Perm} (hc : c.length = n) (hd : d.length = n) (hp : PermN n p) (h : ∀ i, i < n → ap d (ap p i) = ap c i) : d = Wp03.moved c p := by
  refine perm_ext (n := n) hd (by rw [moved_len, hc]) fun j hj => ?_
  obtain ⟨i, hi, rfl⟩ := hp.surj hj
  rw [h i hi, moved_at hc hp hi]
theorem moved_ident {n : Nat} {c : List Nat} (hc : c.length = n) : Wp03.moved c (ident n) = c :=
  (moved_uniq hc hc (ident_perm n) fun i hi => by rw [ap_ident hi]).symm
theorem moved_then {n : Nat} {c : List Nat} {p q : Perm} (hc : c.length = n) (hp : PermN n p) (hq : PermN n q) : Wp03.moved c (then_ p q) = Wp03.moved (Wp03.moved c p) q :=
  (moved_uniq hc (by rw [moved_len, moved_len, hc]) (then_perm hp hq) fun i hi => by
    rw [ap_then (hp.len ▸ hi), moved_at (by rw [moved_len, hc]) hq (hp.lt hi), moved_at hc hp hi]).symm
/-- moved back: what the place to which a place goes had -/
theorem moved_back {n : Nat} {c : List Nat} {p : Perm} (hc : c.length = n) (hp : PermN n p) : Wp03.moved c (back p) = p.map fun j => ap c j := by
  refine (moved_uniq hc (by simp [hp.len]) (back_perm hp) fun j hj => ?_).symm
  have h := (ap_back hp hj).1
  have : ap (p.map fun j => ap c j) (ap (back p) j) = ap c (ap p (ap (back p) j)) := by
    have hl : ap (back p) j < p.length := hp.len ▸ h
    rw [ap_get (p := p.map fun j => ap c j) (by simpa using hl), List.getElem_map, ap_get hl]
  rw [this, (ap_back hp hj).2]
/-! ### those that leave one, those that are alike -/
theorem stays_mem {g : List Perm} {c : List Nat} {p : Perm} : p ∈ Wp03.stays g c ↔ p ∈ g ∧ Wp03.moved c p = c := by
  unfold Wp03.stays; rw [List.mem_filter, decide_eq_true_eq]
theorem stays_pos {n : Nat} {gens g : List Perm} (h : IsGroup n gens g) {c : List Nat} (hc : c.length = n) : 0 < (Wp03.stays g c).length :=
  List.length_pos_of_mem (stays_mem.mpr ⟨h.ident, moved_ident hc⟩)
def fibre (g : List Perm) (c d : List Nat) : List Perm := g.filter fun p => decide (Wp03.moved c p = d)
theorem fibre_mem {g : List Perm} {c d : List Nat} {p : Perm} : p ∈ fibre g c d ↔ p ∈ g ∧ Wp03.moved c p = d := by
  unfold fibre; rw [List.mem_filter, decide_eq_true_eq]
theorem fibre_len {n : Nat} {gens g : List Perm} (h : IsGroup n gens g) {c : List Nat} (hc : c.length = n) {q : Perm} (hq : q ∈ g) : (fibre g c (Wp03.moved c q)).length = (Wp03.stays g c).length := by
  have hQ := h.perm hq
  have hB := back_perm hQ
  apply Nat.le_antisymm
  · have nd : ((fibre g c (Wp03.moved c q)).map fun p => then_ p (back q)).Nodup := nodup_map_inj (h.nd.filter _) fun a ha b hb e =>
      then_cancel (h.perm (fibre_mem.mp ha).1) (h.perm (fibre_mem.mp hb).1) hB e
    have := nodup_sub_len _ (Wp03.stays g c) nd fun x hx => by
      obtain ⟨p, hp, rfl⟩ := List.mem_map.mp hx
      have hp := fibre_mem.mp hp
      refine stays_mem.mpr ⟨h.mul hp.1 (h.back hq), ?_⟩
      rw [moved_then hc (h.perm hp.1) hB, hp.2, ← moved_then hc hQ hB, then_back hQ, moved_ident hc]
    simpa using this
  · have nd : ((Wp03.stays g c).map fun p => then_ p q).Nodup := nodup_map_inj (h.nd.filter _) fun a ha b hb e =>
      then_cancel (h.perm (stays_mem.mp ha).1) (h.perm (stays_mem.mp hb).1) hQ e
    have := nodup_sub_len _ (fibre g c (Wp03.moved c q)) nd fun x hx => by
      obtain ⟨p, hp, rfl⟩ := List.mem_map.mp hx
      have hp := stays_mem.mp hp
      refine fibre_mem.mpr ⟨h.mul hp.1 hq, ?_⟩
      rw [moved_then hc (h.perm hp.1) hQ, hp.2]
    simpa using this
theorem filter_or_len {α : Type} {P Q : α → Bool} : ∀ (l : List α), (∀ x ∈ l, P x = true → Q x = true → False) → (l.filter fun x => P x || Q x).length = (l.filter P).length + (l.filter Q).length
  | [], _ => rfl
  | x :: l, h => by
    have ih := filter_or_len l fun y hy => h y (List.mem_cons_of_mem _ hy)
    have hx := h x (by simp)
    cases p : P x <;> cases q : Q x
    · simp [p, q, ih]
    · simp [p, q, ih]; omega
    · simp [p, q, ih]; omega
    · exact (hx p q).elim
theorem fibres_len {n : Nat} {gens g : List Perm} (h : IsGroup n gens g) {c : List Nat} (hc : c.length = n) : ∀ (D : List (List Nat)), D.Nodup → (∀ d ∈ D, ∃ q ∈ g, Wp03.moved c q = d) →
    (g.filter fun p => D.contains (Wp03.moved c p)).length = D.length * (Wp03.stays g c).length
  | [], _, _ => by simp
  | d :: D, nd, hD => by
    have nd' := List.nodup_cons.mp nd
    obtain ⟨q, hq, e⟩ := hD d (by simp)
    have e1 : (fun p => (d :: D).contains (Wp03.moved c p)) = fun p => decide (Wp03.moved c p = d) || D.contains (Wp03.moved c p) := by
      funext p
      rw [List.contains_cons]
      congr 1
      by_cases z : Wp03.moved c p = d
      · simp [z]
      · simp [z]
    have e2 := filter_or_len (P := fun p => decide (Wp03.moved c p = d)) (Q := fun p => D.contains (Wp03.moved c p)) g fun p _ a b => by
      have a' : Wp03.moved c p = d := of_decide_eq_true a
      have b' : Wp03.moved c p ∈ D := List.contains_iff_mem.mp b
      exact nd'.1 (a' ▸ b')
    rw [e1, e2, fibres_len h hc D nd'.2 fun d' hd' => hD d' (List.mem_cons_of_mem _ hd')]
    have := fibre_len h hc hq
    rw [e] at this
    unfold fibre at this
    rw [this, List.length_cons, Nat.succ_mul]; omega
/-- how many are alike, times the exchanges that leave one, are all exchanges -/
theorem alike_stays {n : Nat} {gens g : List Perm} (h : IsGroup n gens g) {c : List Nat} (hc : c.length = n) {D : List (List Nat)} (nd : D.Nodup) (hD : ∀ d, d ∈ D ↔ ∃ q ∈ g, Wp03.moved c q = d) : g.length / (Wp03.stays g c).length = D.length := by
  have := fibres_len h hc D nd fun d hd => (hD d).mp hd
  have e : g.filter (fun p => D.contains (Wp03.moved c p)) = g := List.filter_eq_self.mpr fun p hp => List.contains_iff_mem.mpr ((hD _).mpr ⟨p, hp, rfl⟩)
  rw [e] at this
  rw [this]
  exact Nat.mul_div_cancel _ (stays_pos h hc)
/-! ### the first -/
structure IsFirst (g : List Perm) (c f : List Nat) : Prop where
  mem : ∃ p ∈ g, Wp03.moved c p = f
  le : ∀ p ∈ g, before (Wp03.moved c p) f = false
theorem before_asymm {a b : List Nat} (h : before a b = true) : before b a = false := by
  cases e : before b a with
  | false => rfl
  | true => have := before_trans h e; rw [before_irrefl] at this; cases this
theorem IsFirst.uniq {g : List Perm} {c f f' : List Nat} (h : IsFirst g c f) (h' : IsFirst g c f') : f = f' := by
  obtain ⟨p, hp, e⟩ := h.mem
  obtain ⟨q, hq, e'⟩ := h'.mem
  have a := h'.le p hp
  have b := h.le q hq
  rw [e] at a; rw [e'] at b
  apply Decidable.byContradiction
  intro z
  have := before_total (a := f) (b := f') (by rw [← e, ← e', moved_len, moved_len]) z a
  rw [this] at b; cases b
theorem first_fold {c : List Nat} : ∀ (g : List Perm) (b : List Nat), (b.length = c.length) →
    (g.foldl (fun (b : List Nat) (p : Perm) => if before (Wp03.moved c p) b = true then Wp03.moved c p else b) b = b ∨ ∃ p ∈ g, Wp03.moved c p = g.foldl (fun (b : List Nat) (p : Perm) => if before (Wp03.moved c p) b = true then Wp03.moved c p else b) b) ∧
    before b (g.foldl (fun (b : List Nat) (p : Perm) => if before (Wp03.moved c p) b = true then Wp03.moved c p else b) b) = false ∧
    ∀ p ∈ g, before (Wp03.moved c p) (g.foldl (fun (b : List Nat) (p : Perm) => if before (Wp03.moved c p) b = true then Wp03.moved c p else b) b) = false
  | [], b, _ => ⟨.inl rfl, before_irrefl b, fun _ h => by cases h⟩
  | p :: g, b, hb => by
    rw [List.foldl_cons]
    have hl : (if before (Wp03.moved c p) b = true then Wp03.moved c p else b).length = c.length := by
      by_cases z : before (Wp03.moved c p) b = true
      · rw [if_pos z, moved_len]
      · rw [if_neg z, hb]
    obtain ⟨h1, h2, h3⟩ := first_fold g _ hl
    by_cases z : before (Wp03.moved c p) b = true
    · rw [if_pos z] at h1 h2 h3 ⊢
      refine ⟨.inr ?_, ?_, fun q hq => ?_⟩
      · rcases h1 with h1 | ⟨q, hq, h1⟩
        · exact ⟨p, by simp, h1.symm⟩
        · exact ⟨q, List.mem_cons_of_mem _ hq, h1⟩
      · apply Bool.eq_false_iff.mpr
        intro y
        rw [before_trans z y] at h2; cases h2
      · rcases List.mem_cons.mp hq with rfl | hq
        · exact h2
        · exact h3 q hq
    · rw [if_neg z] at h1 h2 h3 ⊢
      refine ⟨?_, h2, fun q hq => ?_⟩
      · rcases h1 with h1 | ⟨q, hq, h1⟩
        · exact .inl h1
        · exact .inr ⟨q, List.mem_cons_of_mem _ hq, h1⟩
      · rcases List.mem_cons.mp hq with rfl | hq
        · apply Bool.eq_false_iff.mpr
          intro y
          -- moved is before the result, which is not behind b
          by_cases e : Wp03.moved c q = b
          · rw [e, h2] at y; cases y
          · have w := before_total (a := Wp03.moved c q) (b := b) (by rw [moved_len, hb]) e (by simpa using z)
            rw [before_trans w y] at h2; cases h2
        · exact h3 q hq
theorem first_is {n : Nat} {gens g : List Perm} (h : IsGroup n gens g) {c : List Nat} (hc : c.length = n) : IsFirst g c (Wp03.first g c) := by
  obtain ⟨h1, h2, h3⟩ := first_fold (c := c) g c rfl
  refine ⟨?_, h3⟩
  rcases h1 with h1 | h1
  · exact ⟨ident n, h.ident, by rw [moved_ident hc]; exact h1.symm⟩
  · exact h1
/-- one is the first of its own just where no exchange moves it to one before -/
theorem first_self {n : Nat} {gens g : List Perm} (h : IsGroup n gens g) {c : List Nat} (hc : c.length = n) : Wp03.first g c = c ↔ ∀ p ∈ g, before (Wp03.moved c p) c = false := by
  constructor
  · intro e p hp
    have := (first_is h hc).le p hp
    rwa [e] at this
  · intro q
    exact (first_is h hc).uniq ⟨⟨_, h.ident, moved_ident hc⟩, q⟩
/-! ### how often -/
def pw (n : Nat) (p : Perm) : Nat → Perm
  | 0 => ident n
  | k + 1 => then_ (pw n p k) p
theorem pw_perm {n : Nat} {p : Perm} (h : PermN n p) : ∀ k, PermN n (pw n p k)
  | 0 => ident_perm n
  | k + 1 => then_perm (pw_perm h k) h
theorem ap_pw {n : Nat} {p : Perm} (h : PermN n p) {i : Nat} (hi : i < n) : ∀ k, ap (pw n p k) i = it p k i
  | 0 => ap_ident hi
  | k + 1 => by
    show ap (then_ (pw n p k) p) i = ap p (it p k i)
    rw [ap_then (by rw [(pw_perm h k).len]; exact hi), ap_pw h hi k]
theorem pw_ident {n : Nat} {p : Perm} (h : PermN n p) (k : Nat) : pw n p k = ident n ↔ ∀ i, i < n → it p k i = i := by
  constructor
  · intro e i hi
    rw [← ap_pw h hi, e, ap_ident hi]
  · intro e
    refine perm_ext (n := n) (pw_perm h k).len (ident_len n) fun i hi => ?_
    rw [ap_pw h hi, ap_ident hi, e i hi]
theorem it_dvd {n : Nat} {p : Perm} (h : PermN n p) {i : Nat} (hi : i < n) (k : Nat) : it p k i = i ↔ rlen p i ∣ k := by
  obtain ⟨r1, r2, r3, r4⟩ := rlen_spec h hi
  constructor
  · intro e
    rw [it_mod r3] at e
    apply Nat.dvd_of_mod_eq_zero
    apply Decidable.byContradiction
    intro z
    exact r4 _ (by omega) (Nat.mod_lt _ (by omega)) e
  · rintro ⟨m, rfl⟩
    exact it_mul r3 m
theorem it_comm (p : Perm) (i a b : Nat) : it p a (it p b i) = it p b (it p a i) := by rw [← it_add, ← it_add, Nat.add_comm]
theorem rlen_ring {n : Nat} {p : Perm} (h : PermN n p) {i : Nat} (hi : i < n) (k : Nat) : rlen p (it p k i) = rlen p i := by
  have hk := it_lt h hi k
  apply Nat.dvd_antisymm
  · rw [← it_dvd h hk, it_comm, (it_dvd h hi _).mpr (Nat.dvd_refl _)]
  · rw [← it_dvd h hi]
    have := (it_dvd h hk _).mpr (Nat.dvd_refl _)
    rw [it_comm] at this
    exact it_inj h (it_lt h hi _) hi k this
theorem least_of {n : Nat} {p : Perm} (h : PermN n p) : ∀ (i : Nat), i < n → ∃ k, Least p (it p k i) := by
  intro i
  induction i using Nat.strongRecOn with
  | ind i ih =>
    intro hi
    by_cases c : Least p i
    · exact ⟨0, c⟩
    · have : ∃ k, ¬ i ≤ it p k i := Classical.byContradiction fun q => c fun k => Classical.byContradiction fun z => q ⟨k, z⟩
      obtain ⟨k, hk⟩ := this
      obtain ⟨m, hm⟩ := ih (it p k i) (by omega) (it_lt h hi k)
      exact ⟨m + k, by rw [it_add]; exact hm⟩
theorem lcm_fold : ∀ (l : List Nat) (a k : Nat), l.foldl Nat.lcm a ∣ k ↔ a ∣ k ∧ ∀ r ∈ l, r ∣ k
  | [], a, k => by simp
  | x :: l, a, k => by
    rw [List.foldl_cons, lcm_fold l, Nat.lcm_dvd_iff]
    simp only [List.mem_cons, forall_eq_or_imp]
    exact and_assoc
theorem order_dvd {n : Nat} {p : Perm} (h : PermN n p) (k : Nat) : order p ∣ k ↔ pw n p k = ident n := by
  unfold order lcm
  rw [lcm_fold, pw_ident h, rings_eq h]
  constructor
  · rintro ⟨_, q⟩ i hi
    obtain ⟨m, hm⟩ := least_of h i hi
    have hl := it_lt h hi m
    have := q (rlen p (it p m i)) (List.mem_map.mpr ⟨_, List.mem_filter.mpr ⟨List.mem_range.mpr hl, (leastB_iff h hl).mpr hm⟩, rfl⟩)
    rw [rlen_ring h hi] at this
    exact (it_dvd h hi k).mpr this
  · intro q
    refine ⟨Nat.one_dvd _, fun r hr => ?_⟩
    obtain ⟨i, hi, rfl⟩ := List.mem_map.mp hr
    have hi := List.mem_range.mp (List.mem_filter.mp hi).1
    exact (it_dvd h hi k).mp (q i hi)
theorem lcm_pos : ∀ (l : List Nat) (a : Nat), 0 < a → (∀ r ∈ l, 0 < r) → 0 < l.foldl Nat.lcm a
  | [], a, h, _ => h
  | x :: l, a, h, hl => by
    rw [List.foldl_cons]
    exact lcm_pos l _ (Nat.lcm_pos h (hl x (by simp))) fun r hr => hl r (List.mem_cons_of_mem _ hr)
theorem order_pos {n : Nat} {p : Perm} (h : PermN n p) : 0 < order p := lcm_pos _ _ (by decide) fun r hr => (rings_mem h hr).1
/-- how many times it must be done, at the fewest -/
theorem order_least {n : Nat} {p : Perm} (h : PermN n p) {k : Nat} (hk : 0 < k) (e : pw n p k = ident n) (hl : ∀ m, 0 < m → m < k → pw n p m ≠ ident n) : order p = k := by
  have d := (order_dvd h k).mpr e
  have := Nat.le_of_dvd hk d
  have z := (order_dvd h (order p)).mp (Nat.dvd_refl _)
  apply Decidable.byContradiction
  intro c
  exact hl (order p) (order_pos h) (by omega) z
end Cc
set_option Elab.async false
namespace Cc
open WpBase
/-! ### sums -/
theorem foldl_add : ∀ (l : List Nat) (a : Nat), l.foldl (fun a b => a + b) a = a + l.sum
  | [], a => rfl
  | x :: l, a => by rw [List.foldl_cons, foldl_add l, List.sum_cons]; omega
theorem sum_eq (l : List Nat) : Wp03.sum l = l.sum := by
  unfold Wp03.sum; rw [foldl_add]; omega
theorem sum_map_add {α : Type} (f g : α → Nat) : ∀ (l : List α), (l.map fun x => f x + g x).sum = (l.map f).sum + (l.map g).sum
  | [] => rfl
  | x :: l => by rw [List.map_cons, List.map_cons, List.map_cons, List.sum_cons, List.sum_cons, List.sum_cons, sum_map_add f g l]; omega
theorem sum_map_zero {α : Type} {f : α → Nat} : ∀ (l : List α), (∀ x ∈ l, f x = 0) → (l.map f).sum = 0
  | [], _ => rfl
  | x :: l, h => by rw [List.map_cons, List.sum_cons, h x (by simp), sum_map_zero l fun y hy => h y (List.mem_cons_of_mem _ hy)]
theorem sum_comm {α β : Type} (T : α → β → Nat) (B : List β) : ∀ (A : List α), (A.map fun c => (B.map fun d => T c d).sum).sum = (B.map fun d => (A.map fun c => T c d).sum).sum
  | [] => (sum_map_zero B fun _ _ => rfl).symm
  | c :: A => by
    rw [List.map_cons, List.sum_cons, sum_comm T B A, ← sum_map_add]
    rfl
/-! ### rings coloured -/
def way (W : List Nat → Nat) (r : Nat) (l : List Nat) (c : Nat) : Nat := if r ≤ l.getD c 0 then W (l.set c (l.getD c 0 - r)) else 0
theorem ways_cons (r : Nat) (rs l : List Nat) : Wp03.waysBy (r :: rs) l = ((List.range l.length).map (way (Wp03.waysBy rs) r l)).sum := by
  rw [Wp03.waysBy, sum_eq]; rfl
theorem getD_set_self {l : List Nat} {c v : Nat} (h : c < l.length) : (l.set c v).getD c 0 = v := by simp [h]
theorem getD_set_ne {l : List Nat} {c d v : Nat} (h : c ≠ d) : (l.set c v).getD d 0 = l.getD d 0 := by
  simp [h]
theorem way_swap (W : List Nat → Nat) (a b : Nat) {l : List Nat} {c d : Nat} (hc : c < l.length) (hd : d < l.length) : way (fun m => way W b m d) a l c = way (fun m => way W a m c) b l d := by
  unfold way
  by_cases e : c = d
  · subst e
    simp only [getD_set_self hc, List.set_set]
    by_cases h1 : a ≤ l.getD c 0
    · rw [if_pos h1]
      by_cases h2 : b ≤ l.getD c 0 - a
      · rw [if_pos h2, if_pos (by omega), if_pos (by omega)]
        congr 2; omega
      · rw [if_neg h2]
        by_cases h3 : b ≤ l.getD c 0
        · rw [if_pos h3, if_neg (by omega)]
        · rw [if_neg h3]
    · rw [if_neg h1]
      by_cases h3 : b ≤ l.getD c 0
      · rw [if_pos h3, if_neg (by omega)]
      · rw [if_neg h3]
  · have e' : d ≠ c := fun z => e z.symm
    simp only [getD_set_ne e, getD_set_ne e']
    by_cases h1 : a ≤ l.getD c 0
    · by_cases h2 : b ≤ l.getD d 0
      · rw [if_pos h1, if_pos h2, if_pos h2, if_pos h1, List.set_comm _ _ e]
      · rw [if_pos h1, if_neg h2, if_neg h2]
    · by_cases h2 : b ≤ l.getD d 0
      · rw [if_neg h1, if_pos h2, if_neg h1]
      · rw [if_neg h1, if_neg h2]
theorem way_len (r : Nat) (l : List Nat) (c : Nat) (V : Nat → List Nat → Nat) (h : ∀ m, m.length = l.length → ((List.range m.length).map (fun d => V d m)).sum = ((List.range l.length).map fun d => V d m).sum) :
    way (fun m => ((List.range m.length).map (fun d => V d m)).sum) r l c = ((List.range l.length).map fun d => way (V d) r l c).sum := by
  unfold way
  by_cases e : r ≤ l.getD c 0
  · rw [if_pos e]
    refine (h (l.set c (l.getD c 0 - r)) (List.length_set ..)).trans ?_
    refine congrArg _ (List.map_congr_left fun d _ => ?_)
    rw [if_pos e]
  · rw [if_neg e]
    exact (sum_map_zero _ fun d _ => if_neg e).symm
theorem ways_swap (a b : Nat) (rs l : List Nat) : Wp03.waysBy (a :: b :: rs) l = Wp03.waysBy (b :: a :: rs) l := by
  have two : ∀ x y : Nat, Wp03.waysBy (x :: y :: rs) l = ((List.range l.length).map fun c => ((List.range l.length).map fun d => way (fun m => way (Wp03.waysBy rs) y m d) x l c).sum).sum := by
    intro x y
    rw [ways_cons]
    refine congrArg _ (List.map_congr_left fun c _ => ?_)
    have : Wp03.waysBy (y :: rs) = fun m => ((List.range m.length).map (fun d => way (Wp03.waysBy rs) y m d)).sum := by
      funext m; exact ways_cons y rs m
    rw [this]
    exact way_len x l c (fun d m => way (Wp03.waysBy rs) y m d) fun m e => by rw [e]
  rw [two a b, two b a, sum_comm]
  refine congrArg _ (List.map_congr_left fun d hd => congrArg _ (List.map_congr_left fun c hc => ?_))
  exact way_swap _ a b (List.mem_range.mp hc) (List.mem_range.mp hd)
/-- in which order the rings are coloured makes no difference -/
theorem ways_perm {a b : List Nat} (h : a.Perm b) : Wp03.waysBy a = Wp03.waysBy b := by
  induction h with
  | nil => rfl
  | cons x _ ih => funext l; rw [ways_cons, ways_cons, ih]
  | swap x y l => funext m; exact ways_swap y x l m
  | trans _ _ h1 h2 => exact h1.trans h2
/-! ### kinds unrolled -/
theorem zipIdx_range (f : Nat → Nat) (n : Nat) : ((List.range n).map f).zipIdx = (List.range n).map fun i => (f i, i) := by
  refine List.ext_getElem (by simp) fun i h1 h2 => by simp
theorem count_unrolled (f : Nat → Nat) (a : Nat) : ∀ n, ((List.range n).flatMap fun i => List.replicate (f i) (i + 1)).count a = if 1 ≤ a ∧ a ≤ n then f (a - 1) else 0
  | 0 => by rw [if_neg (by omega)]; rfl
  | n + 1 => by
    rw [List.range_succ, List.flatMap_append, List.count_append, count_unrolled f a n]
    have : List.flatMap (fun i => List.replicate (f i) (i + 1)) [n] = List.replicate (f n) (n + 1) := by simp
    rw [this, List.count_replicate]
    by_cases c : a = n + 1
    · subst c
      rw [if_neg (by omega), if_pos (by simp), if_pos (by omega)]; simp
    · have c' : ¬ n + 1 = a := fun z => c z.symm
      rw [if_neg (show ¬ (n + 1 == a) = true by simpa using c')]
      by_cases d : 1 ≤ a ∧ a ≤ n
      · rw [if_pos d, if_pos (by omega)]; rfl
      · rw [if_neg d, if_neg (by omega)]
theorem unrolled_perm {n : Nat} {r : List Nat} (h : ∀ x ∈ r, 1 ≤ x ∧ x ≤ n) : (Wp03.unrolled (tally n r)).Perm r := by
  unfold Wp03.unrolled tally
  refine (List.reverse_perm _).trans ?_
  rw [zipIdx_range, List.flatMap_map, List.perm_iff_count]
  intro a
  rw [count_unrolled]
  by_cases c : 1 ≤ a ∧ a ≤ n
  · rw [if_pos c, show a - 1 + 1 = a by omega, List.count_eq_length_filter]
  · rw [if_neg c, List.count_eq_zero_of_not_mem fun m => c (h a m)]
theorem ways_unrolled {n : Nat} {p : Perm} (h : PermN n p) : Wp03.waysBy (Wp03.unrolled (Wp03.lengths n p)) = Wp03.waysBy (rings p) :=
  ways_perm (unrolled_perm fun _ hx => rings_mem h hx)
theorem sum_pick {f : List Nat → Nat} {k : List Nat} : ∀ (D : List (List Nat)), D.Nodup → k ∈ D → (D.map fun q => if q = k then f q else 0).sum = f k
  | [], _, h => by cases h
  | x :: D, nd, h => by
    have nd' := List.nodup_cons.mp nd
    rw [List.map_cons, List.sum_cons]
    by_cases e : x = k
    · subst e
      rw [if_pos rfl, sum_map_zero D fun q hq => if_neg fun z : q = x => nd'.1 (z ▸ hq)]; rfl
    · rw [if_neg e, sum_pick D nd'.2 ((List.mem_cons.mp h).resolve_left fun z => e z.symm)]; omega
theorem sum_counts {f : List Nat → Nat} {D : List (List Nat)} (nd : D.Nodup) : ∀ (ks : List (List Nat)), (∀ k ∈ ks, k ∈ D) → (D.map fun q => ks.count q * f q).sum = (ks.map f).sum
  | [], _ => sum_map_zero D fun q _ => by simp
  | k :: ks, h => by
    have e : (fun q => (k :: ks).count q * f q) = fun q => ks.count q * f q + (if q = k then f q else 0) := by
      funext q
      rw [List.count_cons]
      by_cases c : q = k
      · subst c; rw [if_pos (by simp), if_pos rfl, Nat.add_mul, Nat.one_mul]
      · have : ¬ k = q := fun z => c z.symm
        rw [if_neg (by simpa using this), if_neg c]; rfl
    rw [e, sum_map_add, sum_counts nd ks fun q hq => h q (List.mem_cons_of_mem _ hq), sum_pick D nd (h k (by simp)), List.map_cons, List.sum_cons]; omega
theorem down_nodup {l : List (List Nat)} (h : Down l) : l.Nodup := by
  refine List.Pairwise.imp (fun {a b} hb e => ?_) h
  subst e; rw [before_irrefl] at hb; cases hb
/-- by kinds, or exchange by exchange -/
theorem countBy_eq {n : Nat} {gens g : List Perm} (h : IsGroup n gens g) {l : List Nat} (hl : Wp03.sum l = n) : Wp03.countBy l g = (g.map fun p => Wp03.waysBy (rings p) l).sum / g.length := by
  unfold Wp03.countBy
  rw [hl]
  obtain ⟨D, hD, e⟩ := kinds_eq n g
  rw [e, sum_eq, List.map_map]
  have e2 := sum_counts (f := fun q => Wp03.waysBy (Wp03.unrolled q) l) (down_nodup hD.down) (g.map (Wp03.lengths n)) fun k hk => (hD.mem k).mpr hk
  have e3 : ((fun (x : List Nat × Nat) => x.2 * Wp03.waysBy (Wp03.unrolled x.1) l) ∘ fun q => (q, (g.map (Wp03.lengths n)).count q)) = fun q => (g.map (Wp03.lengths n)).count q * Wp03.waysBy (Wp03.unrolled q) l := rfl
  rw [e3, e2, List.map_map]
  congr 2
  refine List.map_congr_left fun p hp => ?_
  show Wp03.waysBy (Wp03.unrolled (Wp03.lengths n p)) l = _
  rw [ways_unrolled (h.perm hp)]
theorem count_eq (k : Nat) (g : List Perm) : Wp03.count k g = (g.map fun p => k ^ (rings p).length).sum / g.length := by
  unfold Wp03.count; rw [sum_eq]; rfl
/-! ### all colourings -/
theorem all_mem (k : Nat) : ∀ (n : Nat) (c : List Nat), c ∈ Wp03.all k n ↔ c.length = n ∧ ∀ x ∈ c, x < k
  | 0, c => by
    simp only [Wp03.all, List.mem_singleton]
    constructor
    · rintro rfl; simp
    · rintro ⟨h, _⟩; exact List.length_eq_zero_iff.mp h
  | n + 1, c => by
    simp only [Wp03.all, List.mem_flatMap, List.mem_map, List.mem_range]
    constructor
    · rintro ⟨x, hx, l, hl, rfl⟩
      have := (all_mem k n l).mp hl
      refine ⟨by simp [this.1], fun y hy => ?_⟩
      rcases List.mem_cons.mp hy with rfl | hy
      · exact hx
      · exact this.2 y hy
    · rintro ⟨h1, h2⟩
      cases c with
      | nil => simp at h1
      | cons x l => exact ⟨x, h2 x (by simp), l, (all_mem k n l).mpr ⟨by simpa using h1, fun y hy => h2 y (List.mem_cons_of_mem _ hy)⟩, rfl⟩
theorem before_cons_lt {x y : Nat} {a b : List Nat} (h : x < y) : before (x :: a) (y :: b) = true := by simp [before, h]
theorem before_cons_eq {x : Nat} {a b : List Nat} (h : before a b = true) : before (x :: a) (x :: b) = true := by simp [before, h]
theorem all_up (k : Nat) : ∀ n, Up (Wp03.all k n)
  | 0 => by simp [Wp03.all, Up]
  | n + 1 => by
    have ih := all_up k n
    have : ∀ m, Up ((List.range m).flatMap fun (c : Nat) => (Wp03.all k n).map fun (l : List Nat) => c :: l) := by
      intro m
      induction m with
      | zero => exact List.Pairwise.nil
      | succ m ihm =>
        rw [List.range_succ, List.flatMap_append]
        refine List.pairwise_append.mpr ⟨ihm, ?_, fun a ha b hb => ?_⟩
        · have e : List.flatMap (fun (c : Nat) => (Wp03.all k n).map fun (l : List Nat) => c :: l) [m] = (Wp03.all k n).map fun (l : List Nat) => m :: l := by simp
          rw [e]
          exact List.pairwise_map.mpr (List.Pairwise.imp (fun h => before_cons_eq h) ih)
        · obtain ⟨x, hx, a', _, rfl⟩ : ∃ x, x ∈ List.range m ∧ ∃ l, l ∈ Wp03.all k n ∧ x :: l = a := by simpa using ha
          obtain ⟨b', _, rfl⟩ : ∃ l, l ∈ Wp03.all k n ∧ m :: l = b := by simpa using hb
          exact before_cons_lt (List.mem_range.mp hx)
    exact this k
theorem all_len (k : Nat) : ∀ n, (Wp03.all k n).length = k ^ n
  | 0 => rfl
  | n + 1 => by
    have : ∀ m, ((List.range m).flatMap fun (c : Nat) => (Wp03.all k n).map fun (l : List Nat) => c :: l).length = m * k ^ n := by
      intro m
      induction m with
      | zero => simp
      | succ m ihm =>
        rw [List.range_succ, List.flatMap_append, List.length_append, ihm]
        simp [all_len k n, Nat.succ_mul]
    show ((List.range k).flatMap fun (c : Nat) => (Wp03.all k n).map fun (l : List Nat) => c :: l).length = k ^ (n + 1)
    rw [this, Nat.pow_succ, Nat.mul_comm]
end Cc
set_option Elab.async false
namespace Cc
/-! ### the calls in one list -/
theorem row_some {r x s : List Int} (h : PyFlat.row r = some (x, s)) : ∃ m r', r = m :: r' ∧ 0 ≤ m ∧ m.toNat ≤ r'.length ∧ x = r'.take m.toNat ∧ s = r'.drop m.toNat := by
  cases r with
  | nil => cases h
  | cons m r' =>
    have h : (if 0 ≤ m ∧ m.toNat ≤ r'.length then some (r'.take m.toNat, r'.drop m.toNat) else none) = some (x, s) := h
    by_cases c : 0 ≤ m ∧ m.toNat ≤ r'.length
    · rw [if_pos c] at h
      obtain ⟨rfl, rfl⟩ := Prod.mk.inj (Option.some.inj h)
      exact ⟨m, r', rfl, c.1, c.2, rfl, rfl⟩
    · rw [if_neg c] at h; cases h
theorem rows_zero {t : List Int} {xs : List (List Int)} {u : List Int} (h : PyFlat.rows 0 t = some (xs, u)) : xs = [] ∧ u = t := by
  obtain ⟨h1, h2⟩ := Prod.mk.inj (Option.some.inj h)
  exact ⟨h1.symm, h2.symm⟩
theorem rows_succ {k : Nat} {t : List Int} {xs : List (List Int)} {u : List Int} (h : PyFlat.rows (k + 1) t = some (xs, u)) : ∃ x s ys, PyFlat.row t = some (x, s) ∧ PyFlat.rows k s = some (ys, u) ∧ xs = x :: ys := by
  unfold PyFlat.rows at h
  cases e : PyFlat.row t with
  | none => rw [e] at h; cases h
  | some y =>
    rw [e] at h
    obtain ⟨x, s⟩ := y
    dsimp only at h
    cases e2 : PyFlat.rows k s with
    | none => rw [e2] at h; cases h
    | some z =>
      rw [e2] at h
      obtain ⟨ys, v⟩ := z
      dsimp only at h
      obtain ⟨rfl, rfl⟩ := Prod.mk.inj (Option.some.inj h)
      exact ⟨x, s, ys, rfl, e2, rfl⟩
theorem rows_len : ∀ (k : Nat) {t : List Int} {xs : List (List Int)} {u : List Int}, PyFlat.rows k t = some (xs, u) → xs.length = k
  | 0, t, xs, u, h => by rw [(rows_zero h).1]; rfl
  | k + 1, t, xs, u, h => by
    obtain ⟨x, s, ys, _, h2, rfl⟩ := rows_succ h
    rw [List.length_cons, rows_len k h2]
theorem call_some {p : Int} {r : List Int} {c : List (List Int)} {u : List Int} (h : PyWide.call (p :: r) = some (c, u)) : ∃ m r' k t xs, r = m :: r' ∧ 0 ≤ m ∧ m.toNat ≤ r'.length ∧ r'.drop m.toNat = k :: t ∧ 0 ≤ k ∧ PyFlat.rows k.toNat t = some (xs, u) ∧ c = (p :: r'.take m.toNat) :: xs := by
  unfold PyWide.call at h
  dsimp only at h
  cases e : PyFlat.row r with
  | none => rw [e] at h; cases h
  | some y =>
    obtain ⟨ns, s⟩ := y
    rw [e] at h
    cases s with
    | nil => cases h
    | cons k t =>
      dsimp only at h
      by_cases c0 : 0 ≤ k
      · rw [if_pos c0] at h
        cases e2 : PyFlat.rows k.toNat t with
        | none => rw [e2] at h; cases h
        | some z =>
          obtain ⟨xs, v⟩ := z
          rw [e2] at h
          dsimp only at h
          obtain ⟨rfl, rfl⟩ := Prod.mk.inj (Option.some.inj h)
          obtain ⟨m, r', h1, h2, h3, rfl, h5⟩ := row_some e
          exact ⟨m, r', k, t, xs, h1, h2, h3, h5.symm, c0, e2, rfl⟩
      · rw [if_neg c0] at h; cases h
theorem calls_cons {f : Nat} {p : Int} {r : List Int} {cs : List (List (List Int))} (h : PyWide.calls f (p :: r) = some cs) : ∃ f' c u cs', f = f' + 1 ∧ PyWide.call (p :: r) = some (c, u) ∧ PyWide.calls f' u = some cs' ∧ cs = c :: cs' := by
  cases f with
  | zero => cases h
  | succ f' =>
    unfold PyWide.calls at h
    cases e : PyWide.call (p :: r) with
    | none => rw [e] at h; cases h
    | some y =>
      obtain ⟨c, u⟩ := y
      rw [e] at h
      dsimp only at h
      cases e2 : PyWide.calls f' u with
      | none => rw [e2] at h; cases h
      | some cs' =>
        rw [e2] at h
        exact ⟨f', c, u, cs', rfl, rfl, e2, (Option.some.inj h).symm⟩
theorem calls_nil {f : Nat} {cs : List (List (List Int))} (h : PyWide.calls f [] = some cs) : cs = [] := by
  cases f <;> exact (Option.some.inj h).symm
/-! what fits -/
inductive Fit : Int → List Int → List (List Int) → Prop
  | places (z : Int) : Fit 0 [z] []
  | turn (ns : List Int) : ns.length ≤ 14 → Fit 1 ns []
  | group : Fit 2 [] []
  | orbits : Fit 3 [] []
  | kinds : Fit 4 [] []
  | count (z : Int) : Fit 5 [z] []
  | by_ (ns : List Int) : ns.length ≤ 8 → Fit 6 ns []
  | first (ns : List Int) : ns.length ≤ 14 → Fit 7 ns []
  | list (k i : Int) : Fit 8 [k, i] []
  | alike (r q : List Int) : r.length ≤ 14 → q.length ≤ 14 → Fit 9 [] [r, q]
  | member (ns : List Int) : ns.length ≤ 14 → Fit 10 ns []
theorem len_nil {α : Type} {l : List α} (h : l.length ≤ 0) : l = [] := List.length_eq_zero_iff.mp (by omega)
theorem drop_nil {α : Type} {l : List α} {n : Nat} (h : (l.drop n).length ≤ 0) : l.length ≤ n := by rw [List.length_drop] at h; omega
theorem fits_fit {p : Int} {xs : List Int} {rows : List (List Int)} (h : PyWp03.fits ((p :: xs) :: rows) = true) : Fit p xs rows := by
  unfold PyWp03.fits at h
  dsimp only at h
  unfold PyWp03.form at h
  by_cases c0 : p = 0
  · subst c0
    rw [if_pos rfl] at h
    simp only [List.length_cons, List.length_nil, Nat.zero_add, Bool.and_eq_true, decide_eq_true_eq, List.drop_zero, Nat.sub_zero, List.take_length] at h
    obtain ⟨⟨⟨⟨⟨⟨⟨⟨⟨h1, _⟩, _⟩, h4⟩, _⟩, _⟩, _⟩, h8⟩, _⟩, _⟩ := h
    have e1 := len_nil h8
    subst e1
    have h5 := drop_nil h4
    match xs, h1, h5 with
    | [z], _, _ => exact .places z
    | [], h1, _ => simp at h1
    | _ :: _ :: _, _, h5 => simp at h5
  rw [if_neg c0] at h
  by_cases c1 : p = 1
  · subst c1
    rw [if_pos rfl] at h
    simp only [List.length_nil, Bool.and_eq_true, decide_eq_true_eq, List.drop_zero, Nat.sub_zero, List.take_length] at h
    obtain ⟨⟨⟨⟨⟨⟨⟨⟨⟨h1, _⟩, _⟩, h4⟩, _⟩, _⟩, _⟩, h8⟩, _⟩, _⟩ := h
    have e1 := len_nil h8
    subst e1
    exact .turn xs h4
  rw [if_neg c1] at h
  by_cases c2 : p = 2
  · subst c2
    rw [if_pos rfl] at h
    simp only [List.length_nil, Bool.and_eq_true, decide_eq_true_eq, List.drop_zero, Nat.sub_zero, List.take_length] at h
    obtain ⟨⟨⟨⟨⟨⟨⟨⟨⟨h1, _⟩, _⟩, h4⟩, _⟩, _⟩, _⟩, h8⟩, _⟩, _⟩ := h
    have e1 := len_nil h8
    have e2 := len_nil h4
    subst e1 e2
    exact .group
  rw [if_neg c2] at h
  by_cases c3 : p = 3
  · subst c3
    rw [if_pos rfl] at h
    simp only [List.length_nil, Bool.and_eq_true, decide_eq_true_eq, List.drop_zero, Nat.sub_zero, List.take_length] at h
    obtain ⟨⟨⟨⟨⟨⟨⟨⟨⟨h1, _⟩, _⟩, h4⟩, _⟩, _⟩, _⟩, h8⟩, _⟩, _⟩ := h
    have e1 := len_nil h8
    have e2 := len_nil h4
    subst e1 e2
    exact .orbits
  rw [if_neg c3] at h
  by_cases c4 : p = 4
  · subst c4
    rw [if_pos rfl] at h
    simp only [List.length_nil, Bool.and_eq_true, decide_eq_true_eq, List.drop_zero, Nat.sub_zero, List.take_length] at h
    obtain ⟨⟨⟨⟨⟨⟨⟨⟨⟨h1, _⟩, _⟩, h4⟩, _⟩, _⟩, _⟩, h8⟩, _⟩, _⟩ := h
    have e1 := len_nil h8
    have e2 := len_nil h4
    subst e1 e2
    exact .kinds
  rw [if_neg c4] at h
  by_cases c5 : p = 5
  · subst c5
    rw [if_pos rfl] at h
    simp only [List.length_cons, List.length_nil, Nat.zero_add, Bool.and_eq_true, decide_eq_true_eq, List.drop_zero, Nat.sub_zero, List.take_length] at h
    obtain ⟨⟨⟨⟨⟨⟨⟨⟨⟨h1, _⟩, _⟩, h4⟩, _⟩, _⟩, _⟩, h8⟩, _⟩, _⟩ := h
    have e1 := len_nil h8
    subst e1
    have h5 := drop_nil h4
    match xs, h1, h5 with
    | [z], _, _ => exact .count z
    | [], h1, _ => simp at h1
    | _ :: _ :: _, _, h5 => simp at h5
  rw [if_neg c5] at h
  by_cases c6 : p = 6
  · subst c6
    rw [if_pos rfl] at h
    simp only [List.length_nil, Bool.and_eq_true, decide_eq_true_eq, List.drop_zero, Nat.sub_zero, List.take_length] at h
    obtain ⟨⟨⟨⟨⟨⟨⟨⟨⟨h1, _⟩, _⟩, h4⟩, _⟩, _⟩, _⟩, h8⟩, _⟩, _⟩ := h
    have e1 := len_nil h8
    subst e1
    exact .by_ xs h4
  rw [if_neg c6] at h
  by_cases c7 : p = 7
  · subst c7
    rw [if_pos rfl] at h
    simp only [List.length_nil, Bool.and_eq_true, decide_eq_true_eq, List.drop_zero, Nat.sub_zero, List.take_length] at h
    obtain ⟨⟨⟨⟨⟨⟨⟨⟨⟨h1, _⟩, _⟩, h4⟩, _⟩, _⟩, _⟩, h8⟩, _⟩, _⟩ := h
    have e1 := len_nil h8
    subst e1
    exact .first xs h4
  rw [if_neg c7] at h
  by_cases c8 : p = 8
  · subst c8
    rw [if_pos rfl] at h
    simp only [List.length_cons, List.length_nil, Nat.zero_add, Bool.and_eq_true, decide_eq_true_eq, List.drop_zero, Nat.sub_zero, List.take_length] at h
    obtain ⟨⟨⟨⟨⟨⟨⟨⟨⟨h1, _⟩, _⟩, h4⟩, _⟩, _⟩, _⟩, h8⟩, _⟩, _⟩ := h
    have e1 := len_nil h8
    subst e1
    have h5 := drop_nil h4
    match xs, h1, h5 with
    | [k, i], _, _ => exact .list k i
    | [], h1, _ => simp at h1
    | [_], h1, _ => simp at h1
    | _ :: _ :: _ :: _, _, h5 => simp at h5
  rw [if_neg c8] at h
  by_cases c9 : p = 9
  · subst c9
    rw [if_pos rfl] at h
    simp only [List.length_cons, List.length_nil, Nat.zero_add, Bool.and_eq_true, decide_eq_true_eq, List.drop_zero] at h
    obtain ⟨⟨⟨⟨⟨⟨⟨⟨⟨h1, _⟩, _⟩, h4⟩, _⟩, h6⟩, _⟩, h8⟩, _⟩, h10⟩ := h
    have e2 := len_nil h4
    subst e2
    rw [List.length_take, List.length_drop] at h8
    match rows, h6, h8, h10 with
    | [], h6, _, _ => simp at h6
    | [_], h6, _, _ => simp at h6
    | [r, q], _, _, h10 =>
      have h11 : (decide (0 ≤ r.length) && decide (r.length ≤ 14) && r.all (PyInside.within (-4294967295) 4294967295) && (decide (0 ≤ q.length) && decide (q.length ≤ 14) && q.all (PyInside.within (-4294967295) 4294967295) && true)) = true := h10
      simp only [Bool.and_eq_true, decide_eq_true_eq] at h11
      exact .alike r q h11.1.1.2 h11.2.1.1.2
    | _ :: _ :: _ :: l, _, h8, _ => simp at h8
  rw [if_neg c9] at h
  by_cases c10 : p = 10
  · subst c10
    rw [if_pos rfl] at h
    simp only [List.length_nil, Bool.and_eq_true, decide_eq_true_eq, List.drop_zero, Nat.sub_zero, List.take_length] at h
    obtain ⟨⟨⟨⟨⟨⟨⟨⟨⟨h1, _⟩, _⟩, h4⟩, _⟩, _⟩, _⟩, h8⟩, _⟩, _⟩ := h
    have e1 := len_nil h8
    subst e1
    exact .member xs h4
  rw [if_neg c10] at h
  cases h
def toCall : Int → List Int → List (List Int) → Option Wp03.Call := fun p xs rows => Wp03.callOf ((p :: xs) :: rows)
theorem asked_parts {l : List Int} (h : PyWp03.answers_asked l = true) : ∃ cs, PyWide.calls l.length l = some cs ∧ cs ≠ [] ∧ (∀ c ∈ cs, PyWp03.fits c = true) ∧ cs.length ≤ 40 ∧ (PyWp03.answers l).length ≤ 10000000 ∧ PyWp03.answers l = PyFlat.told (PyFlat.played Wp03Neutral.step Wp03Neutral.start cs) ∧ Wp03.few cs = true := by
  unfold PyWp03.answers_asked at h
  cases e : PyWp03.calls l with
  | none => rw [e] at h; cases h
  | some cs =>
    rw [e] at h
    simp only [Bool.and_eq_true] at h
    obtain ⟨⟨⟨⟨h1, h2⟩, h3⟩, h4⟩, h5⟩ := h
    unfold Wp03Neutral.asked at h4
    simp only [Bool.and_eq_true] at h4
    refine ⟨cs, e, fun z => (by rw [z] at h1; cases h1), fun c hc => List.all_eq_true.mp h2 c hc, of_decide_eq_true h3, of_decide_eq_true h5, ?_, h4.2.1⟩
    unfold PyWp03.answers
    rw [e]
theorem told_cons (a : List Int) (l : List (List Int)) : PyFlat.told (a :: l) = (a.length : Int) :: (a ++ PyFlat.told l) := by
  unfold PyFlat.told; rw [List.flatMap_cons]; rfl
end Cc
set_option Elab.async false
namespace Cc
open WpBase
/-! ### a dict that holds numbers -/
abbrev Tab := List (List Nat × Nat)
/-- all that it holds, each number times what a function says of its key -/
def wt (D : Tab) (f : List Nat → Nat) : Nat := (D.map fun e => e.2 * f e.1).sum
def keysN (D : Tab) : List (List Nat) := D.map (·.1)
def getN (D : Tab) (p : List Nat) : Nat := ((D.find? fun e => decide (e.1 = p)).map (·.2)).getD 0
def putN (D : Tab) (p : List Nat) (v : Nat) : Tab := if p ∈ keysN D then D.map (fun e => if e.1 = p then (e.1, v) else e) else D ++ [(p, v)]
theorem getN_no {D : Tab} {p : List Nat} (h : p ∉ keysN D) : getN D p = 0 := by
  unfold getN
  have : D.find? (fun e => decide (e.1 = p)) = none := List.find?_eq_none.mpr fun e he c => h (List.mem_map.mpr ⟨e, he, of_decide_eq_true c⟩)
  rw [this]; rfl
theorem getN_at : ∀ {D : Tab} {e : List Nat × Nat}, (keysN D).Nodup → e ∈ D → getN D e.1 = e.2
  | [], _, _, h => by cases h
  | x :: D, e, nd, h => by
    have nd' := List.nodup_cons.mp nd
    unfold getN
    rw [List.find?_cons]
    rcases List.mem_cons.mp h with rfl | h
    · rw [decide_eq_true rfl]; rfl
    · have ne : ¬ x.1 = e.1 := fun z => nd'.1 (List.mem_map.mpr ⟨e, h, z.symm⟩)
      rw [decide_eq_false ne]
      exact getN_at nd'.2 h
theorem wt_pick {D : Tab} (nd : (keysN D).Nodup) (p : List Nat) : wt D (fun l => if l = p then 1 else 0) = getN D p := by
  induction D with
  | nil => rfl
  | cons x D ih =>
    have nd' := List.nodup_cons.mp nd
    unfold wt
    rw [List.map_cons, List.sum_cons]
    have ih := ih nd'.2
    unfold wt at ih
    rw [ih]
    unfold getN
    rw [List.find?_cons]
    by_cases c : x.1 = p
    · rw [decide_eq_true c]
      show x.2 * (if x.1 = p then 1 else 0) + _ = x.2
      rw [if_pos c]
      have := getN_no (D := D) (p := p) (fun z => nd'.1 (by show x.1 ∈ _; rw [c]; exact z))
      unfold getN at this
      rw [this]; omega
    · rw [decide_eq_false c]
      show x.2 * (if x.1 = p then 1 else 0) + ((D.find? fun e => decide (e.1 = p)).map (·.2)).getD 0 = ((D.find? fun e => decide (e.1 = p)).map (·.2)).getD 0
      rw [if_neg c]
      omega
theorem keys_put (D : Tab) (p : List Nat) (v : Nat) : keysN (putN D p v) = if p ∈ keysN D then keysN D else keysN D ++ [p] := by
  unfold putN
  by_cases c : p ∈ keysN D
  · rw [if_pos c, if_pos c]
    unfold keysN
    rw [List.map_map]
    refine List.map_congr_left fun e _ => ?_
    show (if e.1 = p then (e.1, v) else e).1 = e.1
    by_cases z : e.1 = p
    · rw [if_pos z]
    · rw [if_neg z]
  · rw [if_neg c, if_neg c]
    unfold keysN
    rw [List.map_append]; rfl
theorem mem_put {D : Tab} {p q : List Nat} {v : Nat} : q ∈ keysN (putN D p v) ↔ q = p ∨ q ∈ keysN D := by
  rw [keys_put]
  by_cases c : p ∈ keysN D
  · rw [if_pos c]; exact ⟨.inr, fun h => h.elim (fun z => z ▸ c) id⟩
  · rw [if_neg c, List.mem_append, List.mem_singleton]; exact Or.comm
theorem nodup_put {D : Tab} {p : List Nat} {v : Nat} (nd : (keysN D).Nodup) : (keysN (putN D p v)).Nodup := by
  rw [keys_put]
  by_cases c : p ∈ keysN D
  · rw [if_pos c]; exact nd
  · rw [if_neg c, List.nodup_append]
    refine ⟨nd, by simp, fun a ha b hb e => c ?_⟩
    rw [List.mem_singleton] at hb
    exact hb ▸ e ▸ ha
theorem wt_app (D E : Tab) (f : List Nat → Nat) : wt (D ++ E) f = wt D f + wt E f := by
  unfold wt; rw [List.map_append, List.sum_append]
theorem wt_put {D : Tab} (nd : (keysN D).Nodup) (p : List Nat) (v : Nat) (f : List Nat → Nat) : wt (putN D p (getN D p + v)) f = wt D f + v * f p := by
  unfold putN
  by_cases c : p ∈ keysN D
  · rw [if_pos c]
    generalize hg : getN D p = g
    have key : ∀ (E : Tab), (keysN E).Nodup → (∀ e ∈ E, e.1 = p → e.2 = g) → p ∈ keysN E → wt (E.map fun e => if e.1 = p then (e.1, g + v) else e) f = wt E f + v * f p := by
      intro E
      induction E with
      | nil => intro _ _ h; cases h
      | cons x E ih =>
        intro nd hv hp
        have nd' := List.nodup_cons.mp nd
        unfold wt
        rw [List.map_cons, List.map_cons, List.map_cons, List.sum_cons, List.sum_cons]
        by_cases z : x.1 = p
        · have e2 : E.map (fun e => if e.1 = p then (e.1, g + v) else e) = E := by
            conv => rhs; rw [← List.map_id E]
            refine List.map_congr_left fun e he => ?_
            have : ¬ e.1 = p := fun y => nd'.1 (List.mem_map.mpr ⟨e, he, y.trans z.symm⟩)
            rw [if_neg this]; rfl
          rw [e2, if_pos z, hv x (by simp) z]
          show (g + v) * f x.1 + _ = _
          rw [z, Nat.add_mul]; omega
        · rw [if_neg z]
          have := ih nd'.2 (fun e he => hv e (List.mem_cons_of_mem _ he)) (by
            rcases List.mem_cons.mp hp with y | y
            · exact absurd y.symm z
            · exact y)
          unfold wt at this
          rw [this]; omega
    exact key D nd (fun e he z => by rw [← hg, ← z]; exact (getN_at nd he).symm) c
  · rw [if_neg c, getN_no c, wt_app, Nat.zero_add]
    congr 1
theorem len_put (D : Tab) (p : List Nat) (v : Nat) : (putN D p v).length ≤ D.length + 1 := by
  unfold putN
  by_cases c : p ∈ keysN D
  · rw [if_pos c, List.length_map]; omega
  · rw [if_neg c, List.length_append]; simp
theorem wt_congr {D : Tab} {f g : List Nat → Nat} (h : ∀ l ∈ keysN D, f l = g l) : wt D f = wt D g := by
  unfold wt
  congr 1
  refine List.map_congr_left fun e he => ?_
  rw [h e.1 (List.mem_map.mpr ⟨e, he, rfl⟩)]
/-! ### kinds counted -/
structure Cnt (ks : List (List Nat)) (D : Tab) : Prop where
  nd : (keysN D).Nodup
  mem : ∀ q, q ∈ keysN D ↔ q ∈ ks
  tot : ∀ f, wt D f = (ks.map f).sum
theorem Cnt.nil : Cnt [] [] := ⟨by simp [keysN], fun q => by simp [keysN], fun f => rfl⟩
theorem Cnt.put {ks : List (List Nat)} {D : Tab} (h : Cnt ks D) (p : List Nat) : Cnt (ks ++ [p]) (putN D p (getN D p + 1)) := by
  refine ⟨nodup_put h.nd, fun q => ?_, fun f => ?_⟩
  · rw [mem_put, h.mem, List.mem_append, List.mem_singleton]; exact Or.comm
  · rw [wt_put h.nd, h.tot, List.map_append, List.sum_append]; simp
theorem count_sum (p : List Nat) : ∀ (ks : List (List Nat)), (ks.map fun l => if l = p then 1 else 0).sum = ks.count p
  | [] => rfl
  | x :: ks => by
    rw [List.map_cons, List.sum_cons, count_sum p ks, List.count_cons]
    by_cases c : x = p
    · rw [if_pos c, if_pos (by simpa using c)]; omega
    · rw [if_neg c, if_neg (by simpa using c)]; omega
theorem Cnt.get {ks : List (List Nat)} {D : Tab} (h : Cnt ks D) (p : List Nat) : getN D p = ks.count p := by
  rw [← wt_pick h.nd, h.tot, count_sum]
theorem Cnt.len {ks : List (List Nat)} {D : Tab} (h : Cnt ks D) : D.length ≤ ks.length := by
  have := nodup_sub_len (keysN D) ks h.nd fun x hx => (h.mem x).mp hx
  unfold keysN at this
  rwa [List.length_map] at this
theorem Cnt.val_le {ks : List (List Nat)} {D : Tab} (h : Cnt ks D) {e : List Nat × Nat} (he : e ∈ D) : e.2 ≤ ks.length := by
  rw [← getN_at h.nd he, h.get]; exact List.count_le_length
/-! ### rings coloured, by a dict -/
structure Lefts (m : Nat) (D : Tab) : Prop where
  nd : (keysN D).Nodup
  len : ∀ l ∈ keysN D, l.length = m ∧ ∀ x ∈ l, x < 11
theorem Lefts.size {m : Nat} {D : Tab} (h : Lefts m D) (hm : m ≤ 5) : D.length ≤ 161051 := by
  have := nodup_sub_len (keysN D) (Wp03.all 11 m) h.nd fun x hx => (all_mem 11 m x).mpr (h.len x hx)
  rw [all_len] at this
  unfold keysN at this
  rw [List.length_map] at this
  have h5 : 11 ^ m ≤ 11 ^ 5 := Nat.pow_le_pow_right (by decide) hm
  have e5 : 11 ^ 5 = 161051 := by decide
  omega
theorem Lefts.put {m : Nat} {D : Tab} (h : Lefts m D) {p : List Nat} {v : Nat} (hp : p.length = m ∧ ∀ x ∈ p, x < 11) : Lefts m (putN D p v) :=
  ⟨nodup_put h.nd, fun l hl => (mem_put.mp hl).elim (fun z => z ▸ hp) (h.len l)⟩
/-- what a ring more makes of what is asked -/
def ringSum (f : List Nat → Nat) (r : Nat) (l : List Nat) : Nat := ((List.range l.length).map (way f r l)).sum
theorem ringSum_ways (r : Nat) (rs : List Nat) : ringSum (Wp03.waysBy rs) r = Wp03.waysBy (r :: rs) := by
  funext l; rw [ways_cons]; rfl
/-- the colours gone through so far, of one key -/
def partSum (f : List Nat → Nat) (r : Nat) (l : List Nat) (c : Nat) : Nat := ((List.range c).map (way f r l)).sum
theorem partSum_succ (f : List Nat → Nat) (r : Nat) (l : List Nat) (c : Nat) : partSum f r l (c + 1) = partSum f r l c + way f r l c := by
  unfold partSum; rw [List.range_succ, List.map_append, List.sum_append]; simp
theorem partSum_all (f : List Nat → Nat) (r : Nat) (l : List Nat) : partSum f r l l.length = ringSum f r l := rfl
theorem wt_take_succ {D : Tab} {i : Nat} {e : List Nat × Nat} (h : D[i]? = some e) (f : List Nat → Nat) : wt (D.take (i + 1)) f = wt (D.take i) f + e.2 * f e.1 := by
  rw [List.take_add_one, h, wt_app]
  congr 1
/-- the rings, shortest first -/
def unroll (k : List Nat) (i : Nat) : List Nat := (List.range i).flatMap fun j => List.replicate (ap k j) (j + 1)
theorem unroll_succ (k : List Nat) (i : Nat) : unroll k (i + 1) = unroll k i ++ List.replicate (ap k i) (i + 1) := by
  unfold unroll; rw [List.range_succ, List.flatMap_append]; simp
theorem range_map_ap (k : List Nat) : (List.range k.length).map (ap k) = k := by
  refine List.ext_getElem (by simp) fun i h1 h2 => ?_
  rw [List.getElem_map, List.getElem_range, ap_get h2]
theorem unrolled_eq (k : List Nat) : Wp03.unrolled k = (unroll k k.length).reverse := by
  unfold Wp03.unrolled
  congr 1
  conv => lhs; rw [← range_map_ap k]
  rw [zipIdx_range, List.flatMap_map]
  rfl
theorem ways_unroll (k : List Nat) : Wp03.waysBy (unroll k k.length) = Wp03.waysBy (Wp03.unrolled k) := by
  rw [unrolled_eq]; exact ways_perm (List.reverse_perm _).symm
theorem ways_nil {m : Nat} {l : List Nat} (h : l.length = m) : Wp03.waysBy [] l = if l = List.replicate m 0 then 1 else 0 := by
  show (if (l.all fun (x : Nat) => x == 0) = true then 1 else 0) = _
  have : (l.all fun (x : Nat) => x == 0) = true ↔ l = List.replicate m 0 := by
    rw [List.all_eq_true]
    constructor
    · intro q
      exact List.eq_replicate_iff.mpr ⟨h, fun x hx => by simpa using q x hx⟩
    · intro e x hx
      rw [e] at hx
      simpa using (List.mem_replicate.mp hx).2
  by_cases c : l = List.replicate m 0
  · rw [if_pos c, if_pos (this.mpr c)]
  · rw [if_neg c, if_neg fun z => c (this.mp z)]
theorem countBy_sum {n : Nat} {gens g : List Perm} (h : IsGroup n gens g) {l : List Nat} (hl : Wp03.sum l = n) : Wp03.countBy l g = (g.map fun p => Wp03.waysBy (Wp03.unrolled (Wp03.lengths n p)) l).sum / g.length := by
  rw [countBy_eq h hl]
  congr 2
  refine List.map_congr_left fun p hp => ?_
  rw [ways_unrolled (h.perm hp)]
/-! ### colourings by their number -/
def dig (k : Nat) : Nat → Nat → List Nat
  | 0, _ => []
  | n + 1, i => i / k ^ n :: dig k n (i % k ^ n)
theorem dig_len (k : Nat) : ∀ n i, (dig k n i).length = n
  | 0, _ => rfl
  | n + 1, i => by show (dig k n _).length + 1 = _; rw [dig_len k n]
theorem blocks_get {α : Type} {L : Nat} {f : Nat → List α} (hf : ∀ c, (f c).length = L) (hL : 0 < L) : ∀ (m i : Nat), i < m * L → ((List.range m).flatMap f)[i]? = (f (i / L))[i % L]?
  | 0, i, h => by simp at h
  | m + 1, i, h => by
    have hlen : ((List.range m).flatMap f).length = m * L := by
      clear h
      induction m with
      | zero => simp
      | succ m ih => rw [List.range_succ, List.flatMap_append, List.length_append, ih, Nat.succ_mul]; simp [hf]
    rw [List.range_succ, List.flatMap_append]
    by_cases c : i < m * L
    · rw [List.getElem?_append_left (by rw [hlen]; exact c)]
      exact blocks_get hf hL m i c
    · rw [List.getElem?_append_right (by rw [hlen]; omega), hlen]
      have e1 : List.flatMap f [m] = f m := by simp
      have hlt : i - m * L < L := by rw [Nat.succ_mul] at h; omega
      have ei : i = i - m * L + L * m := by rw [Nat.mul_comm]; rw [Nat.mul_comm] at c; omega
      have e2 : i / L = m := by
        rw [ei, Nat.add_mul_div_left _ _ hL, Nat.div_eq_of_lt hlt]; omega
      have e3 : i % L = i - m * L := by
        conv => lhs; rw [ei]
        rw [Nat.add_mul_mod_self_left, Nat.mod_eq_of_lt hlt]
      rw [e1, e2, e3]
theorem all_get {k : Nat} (hk : 0 < k) : ∀ (n i : Nat), i < k ^ n → (Wp03.all k n)[i]? = some (dig k n i)
  | 0, i, h => by
    have : i = 0 := by rw [Nat.pow_zero] at h; omega
    subst this; rfl
  | n + 1, i, h => by
    have hp : 0 < k ^ n := Nat.pow_pos hk
    show ((List.range k).flatMap fun (c : Nat) => (Wp03.all k n).map fun (l : List Nat) => c :: l)[i]? = _
    rw [blocks_get (L := k ^ n) (fun c => by rw [List.length_map, all_len]) hp k i (by rw [Nat.pow_succ, Nat.mul_comm] at h; exact h)]
    rw [List.getElem?_map, all_get hk n _ (Nat.mod_lt _ hp)]
    rfl
theorem dig_step {k : Nat} (t i : Nat) : dig k (t + 1) (i % k ^ (t + 1)) = (i / k ^ t % k) :: dig k t (i % k ^ t) := by
  show (i % k ^ (t + 1)) / k ^ t :: dig k t ((i % k ^ (t + 1)) % k ^ t) = _
  have e1 : (i % k ^ (t + 1)) / k ^ t = i / k ^ t % k := by
    rw [Nat.pow_succ, Nat.mod_mul_right_div_self]
  have e2 : (i % k ^ (t + 1)) % k ^ t = i % k ^ t := Nat.mod_mod_of_dvd _ ⟨k, by rw [Nat.pow_succ]⟩
  rw [e1, e2]
theorem filter_at {α : Type} {P : α → Bool} {l : List α} {i : Nat} {x : α} (h : l[i]? = some x) (hx : P x = true) : (l.filter P)[((l.take i).filter P).length]? = some x := by
  have hi := (List.getElem?_eq_some_iff.mp h).1
  have e : l = l.take i ++ x :: l.drop (i + 1) := by
    have : l.drop i = x :: l.drop (i + 1) := by
      rw [List.drop_eq_getElem_cons hi]
      congr 1
      exact (List.getElem?_eq_some_iff.mp h).2
    rw [← this, List.take_append_drop]
  conv => lhs; rw [e]
  rw [List.filter_append, List.filter_cons, if_pos hx]
  have ht : ((l.take i ++ x :: l.drop (i + 1)).take i) = l.take i := by rw [← e]
  rw [ht, List.getElem?_append_right (Nat.le_refl _), Nat.sub_self]
  rfl
theorem filter_take_succ {α : Type} {P : α → Bool} {l : List α} {i : Nat} {x : α} (h : l[i]? = some x) : ((l.take (i + 1)).filter P).length = ((l.take i).filter P).length + (if P x = true then 1 else 0) := by
  rw [List.take_add_one, h, List.filter_append, List.length_append]
  congr 1
  by_cases c : P x = true
  · rw [if_pos c]; simp [c]
  · rw [if_neg c]; simp [c]
theorem find_at {α : Type} {P : α → Bool} {l : List α} {i : Nat} {x : α} (h : l[i]? = some x) (hx : P x = true) (hn : ∀ j y, j < i → l[j]? = some y → P y = false) : l.find? P = some x := by
  induction l generalizing i with
  | nil => simp at h
  | cons a l ih =>
    cases i with
    | zero =>
      have : a = x := by simpa using h
      subst this
      rw [List.find?_cons, hx]
    | succ i =>
      have ha := hn 0 a (by omega) rfl
      rw [List.find?_cons, ha]
      exact ih (by simpa using h) fun j y hj hy => hn (j + 1) y (by omega) (by simpa using hy)
/-! ### colourings handed in -/
def isCol (n : Nat) (ns : List Int) : Bool := decide (ns.length = n) && ns.all fun z => decide (0 ≤ z) && decide (z ≤ 9)
theorem isCol_yes {n : Nat} {ns : List Int} (h : isCol n ns = true) : Wp03.colouringOf n ns = some (ns.map Int.toNat) ∧ (ns.map Int.toNat).length = n ∧ (∀ x ∈ ns.map Int.toNat, x < 10) ∧ (ns.map Int.toNat).map Int.ofNat = ns := by
  unfold isCol at h
  rw [Bool.and_eq_true, decide_eq_true_eq] at h
  have ha := List.all_eq_true.mp h.2
  have hb : ∀ z ∈ ns, 0 ≤ z ∧ z ≤ 9 := fun z hz => by simpa using ha z hz
  unfold Wp03.colouringOf
  rw [if_pos h]
  refine ⟨rfl, by rw [List.length_map]; exact h.1, fun x hx => ?_, ?_⟩
  · obtain ⟨z, hz, rfl⟩ := List.mem_map.mp hx
    have := hb z hz
    omega
  · rw [List.map_map]
    conv => rhs; rw [← List.map_id ns]
    refine List.map_congr_left fun z hz => ?_
    exact Int.toNat_of_nonneg (hb z hz).1
theorem isCol_no {n : Nat} {ns : List Int} (h : isCol n ns = false) : Wp03.colouringOf n ns = none := by
  unfold Wp03.colouringOf
  rw [if_neg]
  rintro ⟨h1, h2⟩
  unfold isCol at h
  rw [decide_eq_true h1, h2] at h
  cases h
end Cc
set_option Elab.async false
set_option maxRecDepth 100000
set_option maxHeartbeats 2000000
namespace Cc
open PySem PySem.Spec PyProof.Rows L2
/-! heaps -/
theorem same_tup {K : PySem.W.Frag} {H H' : Hp} {a : Addr} {xs : List V} (e : Same H H') (h : SqT K H a xs) : SqT K H' a xs := by
  rcases h with (h | ⟨o, h⟩) | h
  · exact .inl (.inl (e _ _ h))
  · exact .inl (.inr ⟨o, e _ _ h⟩)
  · exact .inr h
theorem same_upd {H : Hp} {p : Addr} {o : HO} (h : H p = none) : Same H (upd H p o) := fun b u e => by
  rw [upd_ne (fun z => by rw [z, h] at e; cases e)]; exact e
theorem same_upd2 {H H' : Hp} {p : Addr} {o : HO} (s : Same H H') (h : H p = none) : Same H (upd H' p o) := fun b u e => by
  rw [upd_ne (fun z => by rw [z, h] at e; cases e)]; exact s b u e
theorem tV_len (p : List Nat) : (tV p).length = p.length := by simp [tV]
theorem tV_get {p : List Nat} {i : Nat} {x : V} (h : (tV p)[i]? = some x) : ∃ k, p[i]? = some k ∧ x = nV k := by
  unfold tV at h
  rw [List.getElem?_map] at h
  cases e : p[i]? with
  | none => rw [e] at h; cases h
  | some k => rw [e] at h; exact ⟨k, rfl, (Option.some.inj h).symm⟩
theorem tV_at {p : List Nat} {i : Nat} (h : i < p.length) : atI (tV p) (i : Int) = some (nV (ap p i)) := by
  refine atI_nat ?_
  unfold tV
  rw [List.getElem?_map, List.getElem?_eq_getElem h, ap_get h]; rfl
theorem tV_app (p q : List Nat) : tV (p ++ q) = tV p ++ tV q := by simp [tV]
theorem take_snoc {α : Type} {l : List α} {i : Nat} {x : α} (h : l[i]? = some x) : l.take (i + 1) = l.take i ++ [x] := by
  rw [List.take_add_one, h]; rfl
/-! ### done_behind -/
abbrev sBehind : Stmt := top 13
def spBehind (K : PySem.W.Frag) : Sp := fun vs H Q _ => ∃ (a b : Addr) (p q : List Nat), vs = [.ref a, .ref b] ∧ SqT K H a (tV p) ∧ SqT K H b (tV q) ∧ p.length ≤ 1000 ∧ (∀ x ∈ p, x < q.length) ∧
  ∀ (H' : Hp) (r : Addr), Same H H' → H r = none → H' r = some (.tup (tV (WpBase.then_ p q))) → Q (.ref r) H'
section
variable {P : Program} {w : World} {K : PySem.W.Frag} {mg : Str → Option Value} {base : Heap}
theorem scBehind : FnScope ["before", "after", "place"] ["before", "after"] (defScope sBehind) := ⟨rfl, rfl, rfl, by decide +kernel, rfl, by decide +kernel, by decide +kernel⟩
theorem ok_behind {f : Addr} {fd : FuncData} (F : Fun K "done_behind" "done_behind" sBehind f fd) (B : Bi mg) : FnOk P w K mg base CX0 1 f fd ["before", "after"] (spBehind K) := by
  refine F.ok scBehind (fun vs H Q E h => ?_) (fun cdv A outer s H vs Q E hr h => ⟨_, pss_one (ps_ret (pe_callTy call_tuple_of (by rfl) B.tuple (by decide +kernel) (pa_cons
    (pe_lc (own := [("place", 2)]) (g := gName 2) (by rfl) scBehind.nd (pi_tup (pv 0)) (blkOk_by (own := [("place", 2)]) (N := ["before", "after", "place"]) (sc := defScope sBehind) (by decide +kernel))
      (fun _ _ _ _ _ => pg_name (i := 2) scBehind.nd rfl (Or.inl rfl)) (fun _ _ _ _ _ => pts_nil) (fun _ _ _ _ _ => pe_ix (r := rIxT K) ix_tup (pv 1) (pv 2) (fun _ _ => rfl))) pa_nil))), ?_⟩)
  · obtain ⟨a, b, p, q, rfl, _⟩ := h
    rfl
  · obtain ⟨a, b, p, q, rfl, hp, hq, hl, hx, k⟩ := h
    refine ⟨_, rfl, a, rfl, ⟨_, hp⟩, fun D nD => lc_tup (K := K) (a := a) (xs := tV p) (fun i H' => Same H H' ∧ H' D = some (.lst (tV ((WpBase.then_ p q).take i)))) ⟨same_upd nD, upd_same⟩ (fun i H' _ h => same_tup h.1 hp) ?_ ?_⟩
    · rintro i x H' hi ⟨s1, hD⟩
      obtain ⟨j, hj, rfl⟩ := tV_get hi
      have hjq := hx j (List.mem_of_getElem? hj)
      refine ⟨rfl, ⟨_, rfl, _, rfl, b, tV q, _, _, rfl, rfl, same_tup s1 hq, tV_at hjq, _, hD, ?_, same_upd2 s1 nD, ?_⟩⟩
      · rw [tV_len, List.length_take]
        exact small1000 (by rw [then_len]; omega)
      · rw [upd_same, take_snoc (x := ap q j) (by unfold WpBase.then_; rw [List.getElem?_map, hj]; rfl), tV_app]
        rfl
    · rintro H' ⟨s1, hD⟩
      rw [tV_len, List.take_of_length_le (by rw [then_len]; exact Nat.le_refl _)] at hD
      refine ⟨D, _, rfl, .inl ⟨SqL.of hD, fun r nr => k _ r ?_ ?_ upd_same⟩⟩
      · exact same_upd2 s1 (s1.free nr)
      · exact s1.free nr
end
end Cc
set_option Elab.async false
set_option maxRecDepth 100000
set_option maxHeartbeats 2000000
namespace Cc
open PySem PySem.Spec PyProof.Rows L2
/-! ### is_exchange -/
abbrev sIsEx : Stmt := top 12
def isEx (n : Nat) (ns : List Int) : Bool := (Wp03.permOf n ns).isSome
theorem eqv_ints : ∀ (a b : List Int), PyData.eqvAll (a.map PyData.int) (b.map PyData.int) = decide (a = b)
  | [], [] => rfl
  | [], _ :: _ => rfl
  | _ :: _, [] => rfl
  | x :: a, y :: b => by
    rw [List.map_cons, List.map_cons]
    show (PyData.eqv (.int x) (.int y) && PyData.eqvAll _ _) = _
    rw [eqv_ints a b]
    show ((x == y) && _) = _
    by_cases e : x = y
    · subst e; simp
    · simp [e]
theorem dp_ints {K : PySem.W.Frag} {H : Hp} : ∀ (ns : List Int), DpAll K H (ns.map V.int) (ns.map PyData.int)
  | [] => .nil
  | n :: ns => .cons (.int n) (dp_ints ns)
theorem ints_lay : ∀ (ns : List Int), PyData.canLayAll0 (ns.map PyData.int) = true ∧ PyData.depthAll (ns.map PyData.int) = 0
  | [] => ⟨rfl, rfl⟩
  | n :: ns => by
    obtain ⟨h1, h2⟩ := ints_lay ns
    rw [List.map_cons]
    refine ⟨?_, ?_⟩
    · show (true && PyData.canLayAll0 _) = true
      rw [h1]; rfl
    · show max 0 (PyData.depthAll _) = 0
      rw [h2]; rfl
theorem shaped_ints (ns : List Int) : SeqAt.shaped (.list (ns.map PyData.int)) = true := by
  obtain ⟨h1, h2⟩ := ints_lay ns
  show (PyData.canLayAll0 _ && decide (PyData.depthAll _ + 1 ≤ 64)) = true
  rw [h1, h2]; rfl
theorem rgV_ints (n : Nat) : rgV 0 (n : Int) = ((List.range n).map Int.ofNat).map V.int := by
  unfold rgV
  rw [List.map_map]
  refine List.map_congr_left fun i _ => ?_
  show V.int (0 + (i : Int)) = V.int (i : Int)
  rw [Int.zero_add]
theorem rgV_tV (n : Nat) : rgV 0 (n : Int) = tV (List.range n) := by rw [rgV_ints, tV_ints]
theorem range_le (n : Nat) : ((List.range n).map Int.ofNat).Pairwise (· ≤ ·) := by
  rw [List.pairwise_map]
  exact List.pairwise_lt_range.imp fun h => Int.ofNat_le.mpr (Nat.le_of_lt h)
theorem isEx_iff {n : Nat} {ns : List Int} : isEx n ns = true ↔ ns.Perm ((List.range n).map Int.ofNat) := by
  unfold isEx Wp03.permOf
  constructor
  · intro h
    by_cases c : (ns.all fun (z : Int) => decide (0 ≤ z)) = true ∧ WpBase.isPerm n (ns.map Int.toNat) = true
    · have p := isPerm_iff.mp c.2
      have e : (ns.map Int.toNat).map Int.ofNat = ns := by
        rw [List.map_map]
        conv => rhs; rw [← List.map_id ns]
        refine List.map_congr_left fun z hz => ?_
        have := of_decide_eq_true (List.all_eq_true.mp c.1 z hz)
        show Int.ofNat z.toNat = z
        exact Int.toNat_of_nonneg this
      rw [← e]
      exact p.map Int.ofNat
    · rw [if_neg c] at h; cases h
  · intro h
    have c1 : (ns.all fun (z : Int) => decide (0 ≤ z)) = true := List.all_eq_true.mpr fun z hz => by
      obtain ⟨k, _, rfl⟩ := List.mem_map.mp (h.mem_iff.mp hz)
      exact decide_eq_true (Int.natCast_nonneg k)
    have c2 : WpBase.isPerm n (ns.map Int.toNat) = true := by
      refine isPerm_iff.mpr ?_
      have := h.map Int.toNat
      rw [List.map_map] at this
      have e : (Int.toNat ∘ Int.ofNat) = id := by funext k; rfl
      rw [e, List.map_id] at this
      exact this
    rw [if_pos ⟨c1, c2⟩]; rfl
theorem isEx_perm {n : Nat} {ns : List Int} (h : isEx n ns = true) : Wp03.permOf n ns = some (ns.map Int.toNat) ∧ PermN n (ns.map Int.toNat) ∧ ns.map V.int = tV (ns.map Int.toNat) := by
  have p := isEx_iff.mp h
  unfold isEx Wp03.permOf at h
  by_cases c : (ns.all fun (z : Int) => decide (0 ≤ z)) = true ∧ WpBase.isPerm n (ns.map Int.toNat) = true
  · unfold Wp03.permOf
    rw [if_pos c]
    refine ⟨rfl, isPerm_iff.mp c.2, ?_⟩
    rw [tV_ints, List.map_map, List.map_map]
    refine List.map_congr_left fun z hz => ?_
    have := of_decide_eq_true (List.all_eq_true.mp c.1 z hz)
    show V.int z = V.int (Int.ofNat z.toNat)
    rw [show Int.ofNat z.toNat = z from Int.toNat_of_nonneg this]
  · rw [if_neg c] at h; cases h
theorem isEx_no {n : Nat} {ns : List Int} (h : isEx n ns = false) : Wp03.permOf n ns = none := by
  unfold isEx at h
  cases e : Wp03.permOf n ns with
  | none => rfl
  | some p => rw [e] at h; cases h
def spIsEx (K : PySem.W.Frag) : Sp := fun vs H Q _ => ∃ (a : Addr) (ns : List Int) (n : Nat), vs = [.ref a, .int n] ∧ SqL K H a (ns.map V.int) ∧ ns.length < 64 ∧ n ≤ 1000 ∧ ∀ H' : Hp, Same H H' → Q (.bl (isEx n ns)) H'
section
variable {P : Program} {w : World} {K : PySem.W.Frag} {mg : Str → Option Value} {base : Heap}
theorem scIsEx : FnScope ["numbers", "size"] ["numbers", "size"] (defScope sIsEx) := ⟨rfl, rfl, rfl, by decide +kernel, rfl, by decide +kernel, by decide +kernel⟩
theorem ok_isEx {f : Addr} {fd : FuncData} (F : Fun K "is_exchange" "is_exchange" sIsEx f fd) (B : Bi mg) : FnOk P w K mg base CX0 1 f fd ["numbers", "size"] (spIsEx K) := by
  refine F.ok scIsEx (fun vs H Q E h => ?_) (fun cdv A outer s H vs Q E hr h => ⟨_, pss_one (ps_ret (pe_cmpR (op_eqD hr.units) (pe_callB cr_sorted (by rfl) B.sorted (by decide +kernel) (pa_cons (pv 0) pa_nil)) (pe_listRg rfl (by rfl) B.list (prg_1 (by rfl) B.range (pv 1))) (nomark _))), ?_⟩)
  · obtain ⟨a, ns, n, rfl, _⟩ := h
    rfl
  · obtain ⟨a, ns, n, rfl, hs, hl, hn, k⟩ := h
    refine ⟨_, rfl, a, ns, rfl, hs, hl, fun ns' p pm pw np => ⟨_, rfl, _, rfl, RgOk.of_le (by omega) (by omega) (by omega) (by omega), fun q nq => ?_⟩⟩
    have hpq : p ≠ q := fun z => by rw [z, upd_same] at nq; cases nq
    refine ⟨.list (ns'.map PyData.int), .list (((List.range n).map Int.ofNat).map PyData.int), .lst (xs := ns'.map V.int) (SqL.of (by rw [upd_ne hpq]; exact upd_same)) (dp_ints _), .lst (xs := rgV 0 n) (SqL.of upd_same) (by rw [rgV_ints]; exact dp_ints _), shaped_ints _, shaped_ints _, ?_⟩
    have e : PyData.eqv (.list (ns'.map PyData.int)) (.list (((List.range n).map Int.ofNat).map PyData.int)) = isEx n ns := by
      show PyData.eqvAll _ _ = _
      rw [eqv_ints, Bool.eq_iff_iff, decide_eq_true_eq, isEx_iff]
      constructor
      · intro e; rw [← e]; exact pm.symm
      · intro h; exact (pm.trans h).eq_of_pairwise (fun x y _ _ h1 h2 => Int.le_antisymm h1 h2) pw (range_le n)
    rw [e]
    exact k _ (same_upd2 (same_upd np) ((same_upd np).free nq))
/-! ### power -/
abbrev sPower : Stmt := top 17
def spPower : Sp := fun vs H Q _ => ∃ (b e : Nat), vs = [.int b, .int e] ∧ b ≤ 1000 ∧ e ≤ 1000 ∧ Q (.int ((b ^ e : Nat) : Int)) H
theorem scPower : FnScope ["base", "exponent", "product", "step"] ["base", "exponent"] (defScope sPower) := ⟨rfl, rfl, rfl, by decide +kernel, rfl, by decide +kernel, by decide +kernel⟩
theorem ok_power {f : Addr} {fd : FuncData} (F : Fun K "power" "power" sPower f fd) (B : Bi mg) : FnOk P w K mg base CX0 1 f fd ["base", "exponent"] spPower := by
  refine F.ok scPower (fun vs H Q E h => ?_) (fun cdv A outer s H vs Q E hr h => ⟨_, pss_cons (ps_set (i := 2) scPower.nd rfl (Or.inl rfl) pe_int)
    (pss_cons (ps_for PassesOwn.never rfl (pi_range1 (by rfl) B.range (pa_cons (pv 1) pa_nil)) (pg_name (i := 3) scPower.nd rfl (Or.inl rfl))
      (pss_one (ps_aug (i := 2) scPower.nd rfl (Or.inl rfl) (pv 0) iop_mul)))
    (pss_one (ps_ret (pv 2)))), ?_⟩)
  · obtain ⟨b, e, rfl, _⟩ := h
    rfl
  · obtain ⟨b, e, rfl, hb, he, k⟩ := h
    refine ⟨_, rfl, _, rfl, (by omega), (by omega), for_range (lo := 0) (n := e) (fun i σ H' => H' = H ∧ ∃ v : Option V, σ = [some (.int b), some (.int e), some (.int ((b ^ i : Nat) : Int)), v]) ⟨rfl, none, rfl⟩ ?_ ?_⟩
    · rintro i σ H' hi ⟨rfl, v, rfl⟩
      refine ⟨_, rfl, _, rfl, _, _, rfl, rfl, .inr ⟨by omega, by omega⟩, rfl, some (.int (0 + (i : Int))), ?_⟩
      have : ((b ^ i : Nat) : Int) * (b : Int) = ((b ^ (i + 1) : Nat) : Int) := by rw [Nat.pow_succ, Int.natCast_mul]
      show [some (V.int b), some (V.int e), some (V.int (((b ^ i : Nat) : Int) * (b : Int))), some (V.int (0 + (i : Int)))] = _
      rw [this]
    · rintro σ H' ⟨rfl, v, rfl⟩
      exact ⟨_, rfl, k⟩
end
end Cc
set_option Elab.async false
set_option maxRecDepth 100000
set_option maxHeartbeats 2000000
namespace Cc
open PySem PySem.Spec PyProof.Rows L2
/-! xs[j] of a list, for xs[j] += e -/
section
variable {X : Cx}
theorem get_listN : PGet X (fun o i H Q => ∃ (p : Addr) (xs : List V) (j : Nat) (v : V), o = .ref p ∧ i = .int j ∧ SqL X.K H p xs ∧ xs[j]? = some v ∧ Q v H) := by
  intro pins s σ H o i ov iv Q I ro ri h
  obtain ⟨p, xs, j, v, rfl, rfl, hq, hj, q⟩ := h
  cases ro
  obtain ⟨t, rfl⟩ := ri
  obtain ⟨its, r, pl, hz⟩ := I.list hq
  obtain ⟨w, ew, rw'⟩ := r.get hj
  have hlt : j < xs.length := (List.getElem?_eq_some_iff.mp hj).1
  have hn := line63
  exact wpAny_getItem_list pl.isList (by omega) (by omega) (by simpa using ew) ⟨v, H, I, rw', q⟩
end
/-! ### ring_numbers: what the walk keeps -/
structure Walked (n : Nat) (p : WpBase.Perm) (s t : Nat) (W : List Bool) : Prop where
  len : W.length = n
  is : ∀ j, j < n → (W.getD j false = true ↔ Gone p s j ∨ ∃ k, k < t ∧ it p k s = j)
theorem Walked.start {n : Nat} (p : WpBase.Perm) : Walked n p 0 0 (List.replicate n false) := by
  refine ⟨by simp, fun j hj => ?_⟩
  constructor
  · intro h
    rw [List.getD_eq_getElem?_getD, List.getElem?_replicate, if_pos hj] at h
    cases h
  · rintro (⟨i, hi, _⟩ | ⟨k, hk, _⟩) <;> omega
theorem Walked.step {n : Nat} {p : WpBase.Perm} (hp : PermN n p) {s t : Nat} {W : List Bool} (hs : s < n) (ng : ¬ Gone p s s) (ht : t < rlen p s) (w : Walked n p s t W) :
    W.getD (it p t s) false = false ∧ Walked n p s (t + 1) (W.set (it p t s) true) := by
  have hlt := it_lt hp hs t
  constructor
  · apply Bool.eq_false_iff.mpr
    intro h
    rcases (w.is _ hlt).mp h with g | ⟨k, hk, e⟩
    · exact ng (gone_ring hp hs g)
    · have := ring_inj hp hs (show k < rlen p s by omega) ht e
      omega
  · refine ⟨by rw [List.length_set, w.len], fun j hj => ?_⟩
    by_cases e : it p t s = j
    · subst e
      have : (W.set (it p t s) true).getD (it p t s) false = true := by simp [w.len, hlt]
      rw [this]
      exact ⟨fun _ => .inr ⟨t, by omega, rfl⟩, fun _ => rfl⟩
    · have : (W.set (it p t s) true).getD j false = W.getD j false := by simp [e]
      rw [this, w.is j hj]
      constructor
      · rintro (g | ⟨k, hk, e2⟩)
        · exact .inl g
        · exact .inr ⟨k, by omega, e2⟩
      · rintro (g | ⟨k, hk, e2⟩)
        · exact .inl g
        · refine .inr ⟨k, ?_, e2⟩
          have : k ≠ t := fun z => e (z ▸ e2)
          omega
theorem Walked.round {n : Nat} {p : WpBase.Perm} (hp : PermN n p) {s : Nat} {W : List Bool} (hs : s < n) (w : Walked n p s (rlen p s) W) :
    W.getD (it p (rlen p s) s) false = true ∧ Walked n p (s + 1) 0 W := by
  obtain ⟨r1, r2, r3, r4⟩ := rlen_spec hp hs
  constructor
  · rw [r3, w.is s hs]
    exact .inr ⟨0, by omega, rfl⟩
  · refine ⟨w.len, fun j hj => ?_⟩
    rw [w.is j hj, gone_next hp hs]
    constructor
    · exact .inl
    · rintro (h | ⟨k, hk, _⟩)
      · exact h
      · omega
theorem Walked.skip {n : Nat} {p : WpBase.Perm} (hp : PermN n p) {s : Nat} {W : List Bool} (hs : s < n) (g : Gone p s s) (w : Walked n p s 0 W) :
    W.getD s false = true ∧ Walked n p (s + 1) 0 W := by
  constructor
  · rw [w.is s hs]; exact .inl g
  · refine ⟨w.len, fun j hj => ?_⟩
    rw [w.is j hj, gone_next hp hs]
    obtain ⟨i, hi, m, e⟩ := g
    constructor
    · rintro (h | ⟨k, hk, _⟩)
      · exact .inl (.inl h)
      · omega
    · rintro ((h | ⟨k, hk, e2⟩) | ⟨k, hk, _⟩)
      · exact .inl h
      · exact .inl ⟨i, hi, k + m, by rw [it_add, e, e2]⟩
      · omega
theorem bl_at {W : List Bool} {j : Nat} (h : j < W.length) : atI (W.map V.bl) (j : Int) = some (.bl (W.getD j false)) := by
  refine atI_nat ?_
  rw [List.getElem?_map, List.getElem?_eq_getElem h]
  simp [h]
theorem ixN_nat {n j : Nat} (h : j < n) : ixN n (j : Int) = some j := by
  unfold ixN
  rw [if_pos (by omega), if_pos (by omega)]; rfl
theorem rep_tV (n : Nat) : (List.replicate n [V.int 0]).flatten = tV (List.replicate n 0) := by
  induction n with
  | zero => rfl
  | succ n ih => rw [List.replicate_succ, List.flatten_cons, ih]; rfl
theorem rep_bl (n : Nat) : (List.replicate n [V.bl false]).flatten = (List.replicate n false).map V.bl := by
  induction n with
  | zero => rfl
  | succ n ih => rw [List.replicate_succ, List.flatten_cons, ih]; rfl
theorem if_true_of {c : Bool} {A B : Prop} (hc : c = true) (h : A) : if c = true then A else B := by
  rw [if_pos hc]; exact h
theorem if_false_of {c : Bool} {A B : Prop} (hc : c = false) (h : B) : if c = true then A else B := by
  rw [hc, if_neg Bool.false_ne_true]; exact h
/-! ### ring_numbers -/
abbrev sRings : Stmt := top 15
def spRings (K : PySem.W.Frag) : Sp := fun vs H Q _ => ∃ (a : Addr) (p : List Nat) (n : Nat), vs = [.ref a] ∧ SqT K H a (tV p) ∧ PermN n p ∧ n ≤ 1000 ∧
  ∀ (H' : Hp) (r : Addr), Same H H' → H r = none → H' r = some (.tup (tV (Wp03.lengths n p))) → Q (.ref r) H'
section
variable {P : Program} {w : World} {K : PySem.W.Frag} {mg : Str → Option Value} {base : Heap}
theorem scRings : FnScope ["exchange", "numbers", "walked", "start", "length", "place"] ["exchange"] (defScope sRings) := ⟨rfl, rfl, rfl, by decide +kernel, rfl, by decide +kernel, by decide +kernel⟩
theorem ok_rings {f : Addr} {fd : FuncData} (F : Fun K "ring_numbers" "ring_numbers" sRings f fd) (B : Bi mg) : FnOk P w K mg base CX0 1 f fd ["exchange"] (spRings K) := by
  refine F.ok scRings (fun vs H Q E h => ?_) (fun cdv A outer s H vs Q E hr h => ⟨_,
    pss_cons (ps_set (i := 1) scRings.nd rfl (Or.inl rfl) (pe_op op_rep (pe_lst (pa_cons pe_int pa_nil)) (pe_callB call_len_seq (by rfl) B.len (by decide +kernel) (pa_cons (pv 0) pa_nil))))
    (pss_cons (ps_set (i := 2) scRings.nd rfl (Or.inl rfl) (pe_op op_rep (pe_lst (pa_cons pe_bl pa_nil)) (pe_callB call_len_seq (by rfl) B.len (by decide +kernel) (pa_cons (pv 0) pa_nil))))
    (pss_cons (ps_for PassesOwn.never rfl (pi_range1 (by rfl) B.range (pa_cons (pe_callB call_len_seq (by rfl) B.len (by decide +kernel) (pa_cons (pv 0) pa_nil)) pa_nil)) (pg_name (i := 3) scRings.nd rfl (Or.inl rfl))
      (pss_cons (ps_set (i := 4) scRings.nd rfl (Or.inl rfl) pe_int)
      (pss_cons (ps_set (i := 5) scRings.nd rfl (Or.inl rfl) (pv 3))
      (pss_cons (ps_while PassesOwn.never (pt_not (pt_val (pe_ix ix_list (pv 2) (pv 5) (fun _ _ => rfl)) (fun _ => rfl)))
        (pss_cons (ps_asg pe_bl (pg_sub (pv 2) (pv 5) set_list))
        (pss_cons (ps_aug (i := 4) scRings.nd rfl (Or.inl rfl) pe_int ip_add)
        (pss_one (ps_set (i := 5) scRings.nd rfl (Or.inl rfl) (pe_ix ix_tup (pv 0) (pv 5) (fun _ _ => rfl)))))))
      (pss_one (ps_if (pt_cmpR op_gt (pv 4) pe_int (nomark _)) (pss_one (ps_augS (pv 1) (pe_op op_sub (pv 4) pe_int) get_listN pe_int ip_add set_list)) pss_nil))))))
    (pss_one (ps_ret (pe_callTy call_tuple_of (by rfl) B.tuple (by decide +kernel) (pa_cons (pv 1) pa_nil)))))), ?_⟩)
  · obtain ⟨a, p, n, rfl, _⟩ := h
    rfl
  · obtain ⟨a, p, n, rfl, hT, hp, hn, k⟩ := h
    have hl : (tV p).length = n := by rw [tV_len, hp.len]
    have e1 : (List.replicate (((tV p).length : Nat) : Int).toNat [V.int 0]).flatten = tV (tally n (ringsTo p 0)) := by
      rw [hl, Int.toNat_natCast, rep_tV]
      show _ = tV (tally n [])
      rw [tally_nil]
    have e2 : (List.replicate (((tV p).length : Nat) : Int).toNat [V.bl false]).flatten = (List.replicate n false).map V.bl := by
      rw [hl, Int.toNat_natCast, rep_bl]
    refine ⟨by decide, fun p1 n1 => ⟨_, rfl, a, tV p, rfl, .inr (same_tup (same_upd n1) hT), p1, _, _, rfl, rfl, upd_same, by omega, by omega, ?_, fun N hN => ?_⟩⟩
    · rw [hl, sizeLine_eq]; simp; omega
    rw [e1]
    have s1 : Same H (upd (upd H p1 (.lst [V.int 0])) N (.lst (tV (tally n (ringsTo p 0))))) := same_upd2 (same_upd n1) ((same_upd n1).free hN)
    have nN : H N = none := (same_upd n1).free hN
    refine ⟨by decide, fun p2 n2 => ⟨_, rfl, a, tV p, rfl, .inr (same_tup (same_upd2 s1 (s1.free n2)) hT), p2, _, _, rfl, rfl, upd_same, by omega, by omega, ?_, fun W hW => ?_⟩⟩
    · rw [hl, sizeLine_eq]; simp; omega
    rw [e2]
    have s2 := same_upd2 (o := .lst [V.bl false]) s1 (s1.free n2)
    have nW : H W = none := s2.free hW
    have hNW : N ≠ W := fun z => by
      rw [← z] at hW
      have : p2 ≠ N := fun z2 => by rw [z2, upd_same] at n2; cases n2
      rw [upd_ne (Ne.symm this), upd_same] at hW; cases hW
    have hN2 : p2 ≠ N := fun z2 => by rw [z2, upd_same] at n2; cases n2
    refine ⟨_, rfl, a, tV p, rfl, .inr (same_tup (same_upd2 s2 nW) hT), _, rfl, by omega, by omega, ?_⟩
    rw [hl, Int.toNat_natCast]
    refine for_range (lo := 0) (n := n) (fun i σ H' => ∃ (v3 v4 v5 : Option V) (b : List Bool), σ = [some (.ref a), some (.ref N), some (.ref W), v3, v4, v5] ∧ Same H H' ∧ H' N = some (.lst (tV (tally n (ringsTo p i)))) ∧ H' W = some (.lst (b.map V.bl)) ∧ Walked n p i 0 b)
      ⟨none, none, none, _, rfl, same_upd2 s2 nW, ?_, upd_same, Walked.start p⟩ ?_ ?_
    · rw [upd_ne hNW, upd_ne (Ne.symm hN2), upd_same]
    · rintro st σ H' hst ⟨v3, v4, v5, b, rfl, s3, hN3, hW3, wk⟩
      rw [Int.zero_add]
      refine ⟨_, rfl, ?_⟩
      have hl4 : (tV (tally n (ringsTo p st))).length = n := by rw [tV_len, tally_len]
      refine ⟨fun m σ1 H1 => ∃ (t : Nat) (b1 : List Bool), m = n - t ∧ t ≤ rlen p st ∧ (Gone p st st → t = 0) ∧ σ1 = [some (.ref a), some (.ref N), some (.ref W), some (.int st), some (.int t), some (.int (it p t st))] ∧ Same H H1 ∧ H1 N = some (.lst (tV (tally n (ringsTo p st)))) ∧ H1 W = some (.lst (b1.map V.bl)) ∧ Walked n p st t b1,
        ⟨_, 0, b, rfl, by omega, fun _ => rfl, rfl, s3, hN3, hW3, wk⟩, ?_⟩
      rintro m σ1 H1 ⟨t, b1, rfl, htl, hg0, rfl, s4, hN4, hW4, wk4⟩
      have hlt := it_lt hp hst t
      obtain ⟨r1, r2, r3, r4⟩ := rlen_spec hp hst
      refine ⟨_, rfl, _, rfl, W, b1.map V.bl, _, _, rfl, rfl, SqL.of hW4, bl_at (by rw [wk4.len]; exact hlt), _, rfl, ?_⟩
      by_cases g : Gone p st st
      · -- gone through already: no turn
        have ht0 := hg0 g
        subst ht0
        obtain ⟨c1, wk5⟩ := wk4.skip hp hst g
        have c2 : b1.getD (it p 0 st) false = true := c1
        rw [c2]
        refine if_false_of rfl ?_
        refine ⟨_, rfl, _, _, rfl, rfl, _, rfl, ?_⟩
        refine if_false_of (decide_eq_false (by show ¬ (0 : Int) < ((0 : Nat) : Int); decide)) ?_
        refine ⟨_, _, _, b1, rfl, s4, ?_, hW4, wk5⟩
        have nl : ¬ leastB p st = true := fun z => (gone_start hp hst).mp g ((leastB_iff hp hst).mp z)
        rw [ringsTo_succ, if_neg nl, List.append_nil]
        exact hN4
      · by_cases e : t = rlen p st
        · -- once round
          subst e
          obtain ⟨c1, wk5⟩ := wk4.round hp hst
          rw [c1]
          refine if_false_of rfl ?_
          refine ⟨_, rfl, _, _, rfl, rfl, _, rfl, ?_⟩
          refine if_true_of (decide_eq_true (by show (0 : Int) < ((rlen p st : Nat) : Int); omega)) ?_
          have hget : (tV (tally n (ringsTo p st)))[rlen p st - 1]? = some (nV ((tally n (ringsTo p st)).getD (rlen p st - 1) 0)) := by
            unfold tV
            have hi : rlen p st - 1 < (tally n (ringsTo p st)).length := by rw [tally_len]; omega
            rw [List.getElem?_map, List.getElem?_eq_getElem hi]
            simp [hi]
          refine ⟨_, rfl, _, rfl, _, _, rfl, rfl, N, _, rlen p st - 1, _, rfl, congrArg V.int (by omega), SqL.of hN4, hget, _, _, rfl, rfl, N, _, _, rlen p st - 1, rfl, rfl, hN4, ?_, ?_⟩
          · rw [hl4]
            have : ((rlen p st : Nat) : Int) - 1 = ((rlen p st - 1 : Nat) : Int) := by omega
            rw [this]
            exact ixN_nat (by omega)
          · have nl : leastB p st = true := (leastB_iff hp hst).mpr (Classical.byContradiction fun z => g ((gone_start hp hst).mpr z))
            refine ⟨_, _, _, b1, rfl, same_upd2 s4 nN, ?_, ?_, wk5⟩
            · rw [upd_same, ringsTo_succ, if_pos nl, tally_more r1 r2]
              unfold tV
              rw [List.map_set]
              rfl
            · rw [upd_ne (Ne.symm hNW)]; exact hW4
        · -- one place more
          obtain ⟨c1, wk5⟩ := wk4.step hp hst g (show t < rlen p st by omega)
          rw [c1]
          refine if_true_of rfl ?_
          refine ⟨fun σ2 H2 => ∃ b2 : List Bool, σ2 = [some (.ref a), some (.ref N), some (.ref W), some (.int st), some (.int ((t + 1 : Nat) : Int)), some (.int (it p (t + 1) st))] ∧ Same H H2 ∧ H2 N = some (.lst (tV (tally n (ringsTo p st)))) ∧ H2 W = some (.lst (b2.map V.bl)) ∧ Walked n p st (t + 1) b2, ?_, ?_⟩
          · rintro σ2 H2 ⟨b2, rfl, h1, h2, h3, h4⟩
            exact ⟨n - (t + 1), by omega, t + 1, b2, rfl, by omega, fun z => absurd z g, rfl, h1, h2, h3, h4⟩
          · refine ⟨_, rfl, _, rfl, W, _, _, it p t st, rfl, rfl, hW4, ?_, ?_⟩
            · rw [List.length_map, wk4.len]; exact ixN_nat hlt
            · refine ⟨_, rfl, _, _, rfl, rfl, _, rfl, _, rfl, a, tV p, _, _, rfl, rfl, same_tup (same_upd2 s4 nW) hT, tV_at (by rw [hp.len]; exact hlt), b1.set (it p t st) true, rfl, same_upd2 s4 nW, ?_, ?_, wk5⟩
              · rw [upd_ne hNW]; exact hN4
              · rw [upd_same, List.map_set]
    · rintro σ H' ⟨v3, v4, v5, b, rfl, s3, hN3, hW3, wk⟩
      refine ⟨_, rfl, N, _, rfl, .inl ⟨SqL.of hN3, fun r nr => k _ r (same_upd2 s3 (s3.free nr)) (s3.free nr) ?_⟩⟩
      rw [upd_same, lengths_tally, rings_eq hp]
      rfl
end
end Cc
set_option Elab.async false
set_option maxRecDepth 100000
set_option maxHeartbeats 2000000
namespace Cc
open PySem PySem.Spec PyProof.Rows L2
/-! a def that is called by its name -/
def Df (P : Program) (w : World) (K : PySem.W.Frag) (mg : Str → Option Value) (base : Heap) (x : Str) (k : Nat) (ps : List Str) (sp : Sp) : Prop :=
  ∃ (f : Addr) (fd : FuncData), FnOk P w K mg base CX0 k f fd ps sp ∧ mg x = some (.ref f) ∧ PySem.W.keepIn K (.ref f) = true ∧ Binds K fd ps []
/-- the numbers of the top -/
structure Cs (mg : Str → Option Value) : Prop where
  places : ∃ t, mg "MOST_PLACES" = some (.int 10 t)
  exchanges : ∃ t, mg "MOST_EXCHANGES" = some (.int 200 t)
  shown : ∃ t, mg "MOST_SHOWN" = some (.int 24 t)
  colours : ∃ t, mg "MOST_COLOURS" = some (.int 1000 t)
  numbers : ∃ t, mg "MOST_NUMBERS" = some (.int 5 t)
  highest : ∃ t, mg "HIGHEST_COLOUR" = some (.int 9 t)
  listed : ∃ t, mg "MOST_LISTED_COLOURS" = some (.int 3 t)
  steps : ∃ t, mg "MOST_STEPS" = some (.int 100000 t)
/-! dicts whose keys are tuples -/
theorem val_none {D : List (List Nat × V)} {p : List Nat} (h : ∀ e ∈ D, e.1 ≠ p) : valV (dPs D) (tK p) = none := by
  unfold valV
  rw [Option.map_eq_none_iff, List.find?_eq_none]
  intro kv hk c
  obtain ⟨e, he, rfl⟩ := List.mem_map.mp hk
  exact h e he (tK_inj (of_decide_eq_true c))
theorem val_some {D : List (List Nat × V)} {p : List Nat} (h : ∃ e ∈ D, e.1 = p) : (valV (dPs D) (tK p)).isSome = true := by
  unfold valV
  rw [Option.isSome_map, List.find?_isSome]
  obtain ⟨e, he, rfl⟩ := h
  exact ⟨_, List.mem_map.mpr ⟨e, he, rfl⟩, by simp⟩
theorem put_new {D : List (List Nat × V)} {p : List Nat} {v : V} (h : ∀ e ∈ D, e.1 ≠ p) : putK (dPs D) (tK p) v = dPs (D ++ [(p, v)]) := by
  unfold putK
  rw [if_neg]
  · unfold dPs; rw [List.map_append]; rfl
  · intro c
    obtain ⟨kv, hk, c⟩ := List.any_eq_true.mp c
    obtain ⟨e, he, rfl⟩ := List.mem_map.mp hk
    exact h e he (tK_inj (of_decide_eq_true c))
/-! ### the search -/
structure Bfs (n : Nat) (T R : List WpBase.Perm) (i : Nat) : Prop where
  nd : R.Nodup
  reach : ∀ p ∈ R, Reach n T p
  id : WpBase.ident n ∈ R
  closed : ∀ j p, j < i → R[j]? = some p → ∀ g ∈ T, WpBase.then_ p g ∈ R
theorem Bfs.start (n : Nat) (T : List WpBase.Perm) : Bfs n T [WpBase.ident n] 0 :=
  ⟨by simp, fun p hp => by rw [List.mem_singleton] at hp; subst hp; exact .base, by simp, fun j p h => by omega⟩
theorem Bfs.add {n : Nat} {T R : List WpBase.Perm} {i : Nat} (b : Bfs n T R i) (hi : i ≤ R.length) {q : WpBase.Perm} (hq : q ∉ R) (hr : Reach n T q) : Bfs n T (R ++ [q]) i := by
  refine ⟨?_, fun p hp => ?_, List.mem_append.mpr (.inl b.id), fun j p hj hp g hg => ?_⟩
  · rw [List.nodup_append]
    exact ⟨b.nd, by simp, fun x hx y hy e => hq (by rw [List.mem_singleton] at hy; subst hy; exact e ▸ hx)⟩
  · rcases List.mem_append.mp hp with hp | hp
    · exact b.reach p hp
    · rw [List.mem_singleton] at hp; subst hp; exact hr
  · rw [List.getElem?_append_left (by omega)] at hp
    exact List.mem_append.mpr (.inl (b.closed j p hj hp g hg))
theorem Bfs.next {n : Nat} {T R : List WpBase.Perm} {i : Nat} (b : Bfs n T R i) (h : ∀ p, R[i]? = some p → ∀ g ∈ T, WpBase.then_ p g ∈ R) : Bfs n T R (i + 1) := by
  refine ⟨b.nd, b.reach, b.id, fun j p hj hp g hg => ?_⟩
  by_cases c : j = i
  · subst c; exact h p hp g hg
  · exact b.closed j p (by omega) hp g hg
theorem Bfs.all {n : Nat} {T R : List WpBase.Perm} {i : Nat} (b : Bfs n T R i) (hi : R.length ≤ i) : ∀ p, Reach n T p → p ∈ R := by
  intro p h
  induction h with
  | base => exact b.id
  | step _ m ih =>
    obtain ⟨j, hj, e⟩ := List.mem_iff_getElem.mp ih
    exact b.closed j _ (by omega) (by rw [List.getElem?_eq_getElem hj, e]) _ m
theorem rising_up {n : Nat} {L : List (Addr × List Nat)} (h : Rising L) (nd : (L.map (·.2)).Nodup) (hl : ∀ q ∈ L, q.2.length = n) : Up (L.map (·.2)) := by
  unfold Up
  rw [List.pairwise_map]
  have nd' := List.pairwise_map.mp (List.nodup_iff_pairwise_ne.mp nd)
  refine List.Pairwise.imp_of_mem (fun {x y} hx hy ⟨h1, h2⟩ => ?_) (List.Pairwise.and h nd')
  exact before_total ((hl y hy).trans (hl x hx).symm) (fun z => h2 z.symm) h1
/-! ### group_of -/
abbrev sGroup : Stmt := top 14
def pairTrue (L : List (Addr × List Nat)) : List (List Nat × V) := L.map fun q => (q.2, V.bl true)
def spGroup (K : PySem.W.Frag) : Sp := fun vs H Q _ => ∃ (a : Addr) (L : List (Addr × List Nat)) (n : Nat), vs = [.ref a, .int n] ∧ SqL K H a (refs L) ∧ Tups K H L ∧ (∀ q ∈ L, PermN n q.2) ∧ 1 ≤ n ∧ n ≤ 10 ∧ L.length ≤ 2000 ∧
  (200 < (WpBase.group n 200 (L.map (·.2))).length → ∀ H' : Hp, Same H H' → Q .non H') ∧
  (¬ 200 < (WpBase.group n 200 (L.map (·.2))).length → ∀ (H' : Hp) (r : Addr) (G : List (Addr × List Nat)), Same H H' → H r = none → H' r = some (.lst (refs G)) → (∀ q ∈ G, H' q.1 = some (.tup (tV q.2))) → G.map (·.2) = WpBase.group n 200 (L.map (·.2)) → Q (.ref r) H')
section
variable {P : Program} {w : World} {K : PySem.W.Frag} {mg : Str → Option Value} {base : Heap}
theorem scGroup : FnScope ["told", "size", "found", "reached", "position", "exchange", "made"] ["told", "size"] (defScope sGroup) := ⟨rfl, rfl, rfl, by decide +kernel, rfl, by decide +kernel, by decide +kernel⟩
set_option maxHeartbeats 8000000 in
theorem ok_group {f : Addr} {fd : FuncData} (F : Fun K "group_of" "group_of" sGroup f fd) (B : Bi mg) (C : Cs mg) (DS : Df P w K mg base "all_stays" 1 ["size"] spStays) (DB : Df P w K mg base "done_behind" 1 ["before", "after"] (spBehind K)) :
    FnOk P w K mg base CX0 2 f fd ["told", "size"] (spGroup K) := by
  obtain ⟨fS, fdS, okS, mS, kS, bS⟩ := DS
  obtain ⟨fB, fdB, okB, mB, kB, bB⟩ := DB
  obtain ⟨tE, mE⟩ := C.exchanges
  refine F.ok scGroup (fun vs H Q E h => ?_) (fun cdv A outer s H vs Q E hr h => ?_)
  · obtain ⟨a, L, n, rfl, _⟩ := h
    rfl
  obtain ⟨a, L, n, rfl, hS, hT, hP, hn1, hn2, hL, kNo, kYes⟩ := h
  refine ⟨_, (pss_cons (ps_set (i := 2) scGroup.nd rfl (Or.inl rfl) (pe_disp1 (hu_of hr) (pe_call okS hr (by rfl) mS kS bS .nil pass0 (pa_cons (pv 1) pa_nil)) pe_bl))
    (pss_cons (ps_set (i := 3) scGroup.nd rfl (Or.inl rfl) (pe_callTy (call_list_dT rfl) (by rfl) B.list (by decide +kernel) (pa_cons (pv 2) pa_nil)))
    (pss_cons (ps_set (i := 4) scGroup.nd rfl (Or.inl rfl) pe_int)
    (pss_cons (ps_while PassesOwn.never (pt_cmpR op_lt (pv 4) (pe_callB call_len_seq (by rfl) B.len (by decide +kernel) (pa_cons (pv 3) pa_nil)) (nomark _)) (pss_cons (ps_for PassesOwn.never rfl (pi_list (pv 0)) (pg_name (i := 5) scGroup.nd rfl (Or.inl rfl)) (pss_cons (ps_set (i := 6) scGroup.nd rfl (Or.inl rfl) (pe_call okB hr (by rfl) mB kB bB .nil pass0 (pa_cons (pe_ix ix_list (pv 3) (pv 4) (fun _ _ => rfl)) (pa_cons (pv 5) pa_nil))))
    (pss_one (ps_if (pt_cmp (pc_dnotin (hu_of hr) (pv 6) (pv 2))) (pss_cons (ps_dput (hu_of hr) (pv 2) (pv 6) pe_bl rfl)
    (pss_one (ps_expr (pe_bm PySem.F.plainAttrs_list PySem.F.slot_list_append PySem.F.type_list_append mt_append (pv 3) (pa_cons (pv 6) pa_nil))))) pss_nil))))
    (pss_cons (ps_if (pt_cmpR op_gt (pe_callB call_len_seq (by rfl) B.len (by decide +kernel) (pa_cons (pv 3) pa_nil)) (pe_glob (v := .int 200) (by rfl) mE ⟨_, rfl⟩) (nomark _)) (pss_one (ps_ret pe_non)) pss_nil)
    (pss_one (ps_aug (i := 4) scGroup.nd rfl (Or.inl rfl) pe_int ip_add)))))
    (pss_one (ps_ret (pe_callB (cr_sortTs (d := n) (B := 10) hn1) (by rfl) B.sorted (by decide +kernel) (pa_cons (pv 3) pa_nil)))))))), ?_⟩
  intro d nd
  refine ⟨_, rfl, n, rfl, by omega, fun q nq => ?_⟩
  have hdq : d ≠ q := fun z => by rw [z, upd_same] at nq; cases nq
  have q0 : H q = none := (same_upd nd).free nq
  have eI : (tK (WpBase.ident n)).map kV = rgV 0 (n : Int) := by rw [tK_kV, rgV_tV]; rfl
  refine ⟨q, tK (WpBase.ident n), rfl, by rw [upd_ne hdq, upd_same], by rw [upd_same, eI], ?_⟩
  have s1 : Same H (upd (upd (upd H d (.dT [])) q (.tup (rgV 0 n))) d (.dT [(tK (WpBase.ident n), V.bl true)])) := same_upd2 (same_upd2 (same_upd nd) q0) nd
  generalize hH1 : upd (upd (upd H d (.dT [])) q (.tup (rgV 0 n))) d (.dT [(tK (WpBase.ident n), V.bl true)]) = H1 at s1 ⊢
  have hd1 : H1 d = some (.dT [(tK (WpBase.ident n), V.bl true)]) := by rw [← hH1, upd_same]
  refine ⟨_, rfl, d, _, rfl, .inl hd1, fun R bs nR ik => ?_⟩
  cases ik with
  | @cons p0 b0 l0 m0 h0 t0 =>
    cases t0
    have hb0 : H1 b0 = some (.tup (tV (WpBase.ident n))) := by rw [← tK_kV]; exact h0
    have nR0 : H R = none := s1.free nR
    have hRd : R ≠ d := fun z => by rw [z, hd1] at nR; cases nR
    have hTs : ∀ {H' : Hp}, Same H H' → Tups K H' L := fun s q hq => same_tup s (hT q hq)
    -- the invariant
    refine ⟨fun m σ H' => ∃ (i : Nat) (G : List (Addr × List Nat)) (v5 v6 : Option V), m = 201 - i ∧ σ = [some (.ref a), some (.int n), some (.ref d), some (.ref R), some (.int i), v5, v6] ∧ Same H H' ∧ i ≤ G.length ∧ G.length ≤ 200 ∧
      H' d = some (.dT (dPs (pairTrue G))) ∧ H' R = some (.lst (refs G)) ∧ (∀ q ∈ G, H' q.1 = some (.tup (tV q.2))) ∧ Bfs n (L.map (·.2)) (G.map (·.2)) i,
      ⟨201, 0, [(b0, WpBase.ident n)], none, none, rfl, rfl, same_upd2 s1 nR0, by simp, by simp, ?_, upd_same, ?_, Bfs.start _ _⟩, ?_⟩
    · rw [upd_ne (Ne.symm hRd)]; exact hd1
    · intro q hq
      rw [List.mem_singleton] at hq
      subst hq
      have hbR : b0 ≠ R := fun z => by rw [z] at hb0; rw [hb0] at nR; cases nR
      show upd H1 R _ b0 = _
      rw [upd_ne hbR]
      exact hb0
    rintro m σ H' ⟨i, G, v5, v6, rfl, rfl, s2, hiG, hG, hd2, hR2, hq2, bf⟩
    have hrl : (refs G).length = G.length := by simp [refs]
    refine ⟨_, rfl, _, rfl, R, _, rfl, .inl (SqL.of hR2), _, _, rfl, rfl, _, rfl, ?_⟩
    rw [hrl]
    by_cases c : i < G.length
    · refine if_true_of (decide_eq_true (by omega)) ?_
      have hPs : ∀ g ∈ L.map (·.2), PermN n g := fun g hg => by
        obtain ⟨q, hq, rfl⟩ := List.mem_map.mp hg
        exact hP q hq
      refine ⟨fun σ' H' => ∃ (G' : List (Addr × List Nat)) (v5 v6 : Option V), σ' = [some (.ref a), some (.int n), some (.ref d), some (.ref R), some (.int ((i + 1 : Nat) : Int)), v5, v6] ∧ Same H H' ∧ i + 1 ≤ G'.length ∧ G'.length ≤ 200 ∧
        H' d = some (.dT (dPs (pairTrue G'))) ∧ H' R = some (.lst (refs G')) ∧ (∀ q ∈ G', H' q.1 = some (.tup (tV q.2))) ∧ Bfs n (L.map (·.2)) (G'.map (·.2)) (i + 1), ?_, ?_⟩
      · rintro σ' H3 ⟨G', w5, w6, rfl, h1, h2, h3, h4⟩
        exact ⟨201 - (i + 1), by omega, i + 1, G', w5, w6, rfl, rfl, h1, h2, h3, h4⟩
      refine ⟨_, rfl, a, rfl, ⟨_, s2.seq hS⟩, for_list (K := K) (a := a) (xs := refs L) (fun e σ' H' => ∃ (G' : List (Addr × List Nat)) (v5 v6 : Option V), σ' = [some (.ref a), some (.int n), some (.ref d), some (.ref R), some (.int i), v5, v6] ∧ Same H H' ∧ i < G'.length ∧ G'.length ≤ 200 + e ∧
        H' d = some (.dT (dPs (pairTrue G'))) ∧ H' R = some (.lst (refs G')) ∧ (∀ q ∈ G', H' q.1 = some (.tup (tV q.2))) ∧ Bfs n (L.map (·.2)) (G'.map (·.2)) i ∧
        ∀ e' q p, e' < e → L[e']? = some q → G'[i]? = some p → WpBase.then_ p.2 q.2 ∈ G'.map (·.2))
        ⟨G, v5, v6, rfl, s2, c, by omega, hd2, hR2, hq2, bf, fun e' q p h => by omega⟩ (fun e σ' H3 _ ⟨_, _, _, _, h, _⟩ => h.seq hS) ?_ ?_⟩
      · -- one exchange
        rintro e x σ' H3 hx ⟨G', w5, w6, rfl, s3, hi3, hl3, hd3, hR3, hq3, bf3, cl3⟩
        obtain ⟨q, hq, rfl⟩ : ∃ q, L[e]? = some q ∧ x = V.ref q.1 := by
          unfold refs at hx
          rw [List.getElem?_map] at hx
          cases z : L[e]? with
          | none => rw [z] at hx; cases hx
          | some q => rw [z] at hx; exact ⟨q, rfl, (Option.some.inj hx).symm⟩
        have heL : e < L.length := (List.getElem?_eq_some_iff.mp hq).1
        have hgi : G'[i]? = some G'[i] := List.getElem?_eq_getElem hi3
        generalize G'[i] = g at hgi
        have hgm := List.mem_of_getElem? hgi
        have hqm := List.mem_of_getElem? hq
        have pg := (bf3.reach g.2 (List.mem_map.mpr ⟨g, hgm, rfl⟩)).perm hPs
        have pq := hP q hqm
        have hat : atI (refs G') (i : Int) = some (.ref g.1) := atI_nat (by unfold refs; rw [List.getElem?_map, hgi]; rfl)
        refine ⟨_, rfl, _, rfl, R, refs G', _, _, rfl, rfl, SqL.of hR3, hat, _, rfl, g.1, q.1, g.2, q.2, rfl, SqT.of (hq3 g hgm), hTs s3 q hqm, by rw [pg.len]; omega, fun x hx => by rw [pq.len]; exact pg.mem.mp hx, fun H4 r s4 nr hr4 => ?_⟩
        have hd4 := s4 _ _ hd3
        have hR4 := s4 _ _ hR3
        have hq4 : ∀ q ∈ G', H4 q.1 = some (.tup (tV q.2)) := fun z hz => s4 _ _ (hq3 z hz)
        refine ⟨_, rfl, _, rfl, d, _, rfl, DGet.t hd4 (k := tK (WpBase.then_ g.2 q.2)) (by rw [hr4, tK_kV]), _, rfl, ?_⟩
        by_cases c2 : WpBase.then_ g.2 q.2 ∈ G'.map (·.2)
        · have v1 : (valV (dPs (pairTrue G')) (tK (WpBase.then_ g.2 q.2))).isSome = true := val_some (by
            obtain ⟨z, hz, ez⟩ := List.mem_map.mp c2
            exact ⟨_, List.mem_map.mpr ⟨z, hz, rfl⟩, ez⟩)
          rw [v1]
          refine if_false_of rfl ?_
          refine ⟨G', _, _, rfl, s3.trans s4, hi3, by omega, hd4, hR4, hq4, bf3, fun e' q' p' h1 h2 h3 => ?_⟩
          by_cases z : e' = e
          · subst z
            have e3 := Option.some.inj (hgi.symm.trans h3)
            have e4 := Option.some.inj (hq.symm.trans h2)
            rw [← e3, ← e4]; exact c2
          · exact cl3 e' q' p' (by omega) h2 h3
        · have nk : ∀ z ∈ pairTrue G', z.1 ≠ WpBase.then_ g.2 q.2 := fun z hz e0 => by
            obtain ⟨y, hy, rfl⟩ := List.mem_map.mp hz
            exact c2 (e0 ▸ List.mem_map.mpr ⟨y, hy, rfl⟩)
          rw [val_none nk]
          refine if_true_of rfl ?_
          have hlen : (dPs (pairTrue G')).length = G'.length := by simp [dPs, pairTrue]
          have hrl3 : (refs G').length = G'.length := by simp [refs]
          refine ⟨_, rfl, _, rfl, d, _, rfl, DPut.t hd4 (k := tK (WpBase.then_ g.2 q.2)) (by rw [hr4, tK_kV]) (by rw [hlen, sizeLine_eq]; omega), ?_⟩
          rw [put_new nk]
          have hdR : d ≠ R := Ne.symm hRd
          have hR5 : upd H4 d (.dT (dPs (pairTrue G' ++ [(WpBase.then_ g.2 q.2, V.bl true)]))) R = some (.lst (refs G')) := by rw [upd_ne hRd]; exact hR4
          refine ⟨_, rfl, Or.inl ⟨rfl, _, SqL.of hR5⟩, _, rfl, R, _, _, rfl, rfl, hR5, by rw [hrl3, sizeLine_eq]; omega, ?_⟩
          have hdr : d ≠ r := fun z => by rw [z] at hd4; rw [hd4] at hr4; cases hr4
          have hRr : R ≠ r := fun z => by rw [z] at hR4; rw [hR4] at hr4; cases hr4
          refine ⟨G' ++ [(r, WpBase.then_ g.2 q.2)], _, _, rfl, same_upd2 (same_upd2 (s3.trans s4) nd) nR0, by rw [List.length_append]; simp; omega, by rw [List.length_append]; simp; omega, ?_, ?_, ?_, ?_, ?_⟩
          · rw [upd_ne hdR, upd_same]
            unfold pairTrue
            rw [List.map_append]; rfl
          · rw [upd_same]
            unfold refs
            rw [List.map_append]; rfl
          · intro z hz
            rcases List.mem_append.mp hz with hz | hz
            · have := hq4 z hz
              rw [upd_ne (fun y => by rw [y] at this; rw [hR4] at this; cases this), upd_ne (fun y => by rw [y] at this; rw [hd4] at this; cases this)]
              exact this
            · rw [List.mem_singleton] at hz
              subst hz
              show upd (upd H4 d _) R _ r = _
              rw [upd_ne (Ne.symm hRr), upd_ne (Ne.symm hdr)]
              exact hr4
          · rw [List.map_append]
            exact bf3.add (by rw [List.length_map]; omega) c2 ((bf3.reach g.2 (List.mem_map.mpr ⟨g, hgm, rfl⟩)).step (List.mem_map.mpr ⟨q, hqm, rfl⟩))
          · intro e' q' p' h1 h2 h3
            rw [List.getElem?_append_left hi3] at h3
            rw [List.map_append, List.mem_append]
            by_cases z : e' = e
            · subst z
              have e3 := Option.some.inj (hgi.symm.trans h3)
              have e4 := Option.some.inj (hq.symm.trans h2)
              rw [← e3, ← e4]; exact .inr (by simp)
            · exact .inl (cl3 e' q' p' (by omega) h2 h3)
      · -- all exchanges
        rintro σ' H3 ⟨G', w5, w6, rfl, s3, hi3, hl3, hd3, hR3, hq3, bf3, cl3⟩
        have hrl3 : (refs G').length = G'.length := by simp [refs]
        have hrlL : (refs L).length = L.length := by simp [refs]
        rw [hrlL] at cl3
        have bf4 : Bfs n (L.map (·.2)) (G'.map (·.2)) (i + 1) := bf3.next fun p hp g hg => by
          rw [List.getElem?_map] at hp
          cases z : G'[i]? with
          | none => rw [z] at hp; cases hp
          | some y =>
            rw [z] at hp
            have e0 : y.2 = p := Option.some.inj hp
            obtain ⟨q, hq, rfl⟩ := List.mem_map.mp hg
            obtain ⟨e', he', eq'⟩ := List.mem_iff_getElem.mp hq
            rw [← e0]
            exact cl3 e' q y he' (by rw [List.getElem?_eq_getElem he', eq']) z
        refine ⟨_, rfl, R, _, rfl, .inl (SqL.of hR3), _, _, rfl, rfl, _, rfl, ?_⟩
        rw [hrl3]
        by_cases c3 : 200 < G'.length
        · refine if_true_of (decide_eq_true (by omega)) ?_
          have ov := group_over hPs bf3.nd bf3.reach (by rw [List.length_map]; exact c3)
          exact kNo ov _ s3
        · refine if_false_of (decide_eq_false (by omega)) ?_
          exact ⟨_, rfl, _, _, rfl, rfl, G', _, _, rfl, s3, by omega, by omega, hd3, hR3, hq3, bf4⟩
    · refine if_false_of (decide_eq_false (by omega)) ?_
      -- all have been gone through
      have al := bf.all (show (G.map (·.2)).length ≤ i by rw [List.length_map]; omega)
      have hPs : ∀ g ∈ L.map (·.2), PermN n g := fun g hg => by
        obtain ⟨q, hq, rfl⟩ := List.mem_map.mp hg
        exact hP q hq
      have nf := group_few hPs (show (G.map (·.2)).length ≤ 200 by rw [List.length_map]; exact hG) al
      have GI := group_is hPs nf
      refine ⟨_, rfl, R, G, rfl, SqL.of hR2, fun q hq => SqT.of (hq2 q hq), fun q hq => ?_, fun G' r pm rs nr => ?_⟩
      · have pq := (bf.reach q.2 (List.mem_map.mpr ⟨q, hq, rfl⟩)).perm hPs
        exact ⟨pq.len, fun x hx => by have := pq.mem.mp hx; omega⟩
      · refine kYes nf _ r G' (same_upd2 s2 (s2.free nr)) (s2.free nr) upd_same (fun q hq => ?_) ?_
        · have := hq2 q (pm.mem_iff.mp hq)
          rw [upd_ne (fun z => by rw [z, nr] at this; cases this)]
          exact this
        · refine up_same (rising_up (n := n) rs ?_ ?_) GI.up fun q => ?_
          · exact ((pm.map (·.2)).nodup_iff).mpr bf.nd
          · intro q hq
            exact ((bf.reach q.2 (List.mem_map.mpr ⟨q, pm.mem_iff.mp hq, rfl⟩)).perm hPs).len
          · rw [(pm.map (·.2)).mem_iff, GI.mem]
            exact ⟨bf.reach q, al q⟩
end
end Cc
set_option Elab.async false
set_option maxRecDepth 100000
set_option maxHeartbeats 2000000
namespace Cc
open PySem PySem.Spec PyProof.Rows L2
/-! ### the lot of places -/
def lF (n : Nat) (t g : Addr) : List (Str × V) := [("size", .int n), ("told", .ref t), ("group", .ref g)]
def TupsH (H : Hp) (L : List (Addr × List Nat)) : Prop := ∀ q ∈ L, H q.1 = some (.tup (tV q.2))
structure LotIs (H : Hp) (s : Wp03.State) (k : Nat) (t g : Addr) (LT LG : List (Addr × List Nat)) : Prop where
  told : H t = some (.lst (refs LT))
  group : H g = some (.lst (refs LG))
  tT : TupsH H LT
  tG : TupsH H LG
  n1 : 1 ≤ s.n
  n2 : s.n ≤ 10
  gp : ∀ p ∈ s.gens, PermN s.n p
  few : ¬ 200 < (Wp03.theGroup s).length
  isG : LG.map (·.2) = Wp03.theGroup s
  same : ∀ p, Reach s.n (LT.map (·.2)) p ↔ Reach s.n s.gens p
  tP : ∀ q ∈ LT, PermN s.n q.2
  len : LT.length ≤ k
def LotAt (C : Addr) (H : Hp) (a : Addr) (s : Wp03.State) (k : Nat) : Prop := ∃ (dx t g : Addr) (LT LG : List (Addr × List Nat)), H a = some (.ins C dx (lF s.n t g)) ∧ LotIs H s k t g LT LG
theorem LotIs.grp {H : Hp} {s : Wp03.State} {k : Nat} {t g : Addr} {LT LG : List (Addr × List Nat)} (h : LotIs H s k t g LT LG) : IsGroup s.n s.gens (Wp03.theGroup s) := group_is h.gp h.few
/-- what stands elsewhere stands -/
def Off (a : Addr) (H H' : Hp) : Prop := ∀ b o, H b = some o → b ≠ a → H' b = some o
theorem same_off {a : Addr} {H H' : Hp} (s : Same H H') : Off a H H' := fun b o h _ => s b o h
theorem off_upd {a : Addr} {H H' : Hp} {o : HO} (s : Off a H H') : Off a H (upd H' a o) := fun b u e hb => by
  rw [upd_ne hb]; exact s b u e hb
theorem off_upd2 {a p : Addr} {H H' : Hp} {o : HO} (s : Off a H H') (h : H p = none) : Off a H (upd H' p o) := fun b u e hb => by
  rw [upd_ne (fun z => by rw [z, h] at e; cases e)]; exact s b u e hb
theorem LotIs.keep {H H' : Hp} {s : Wp03.State} {k k' : Nat} {t g : Addr} {LT LG : List (Addr × List Nat)} (h : LotIs H s k t g LT LG) (hs : ∀ b o, H b = some o → (∀ C dx fs, o ≠ .ins C dx fs) → H' b = some o) (hk : k ≤ k') : LotIs H' s k' t g LT LG :=
  ⟨hs _ _ h.told (fun _ _ _ z => nomatch z), hs _ _ h.group (fun _ _ _ z => nomatch z), fun q hq => hs _ _ (h.tT q hq) (fun _ _ _ z => nomatch z), fun q hq => hs _ _ (h.tG q hq) (fun _ _ _ z => nomatch z), h.n1, h.n2, h.gp, h.few, h.isG, h.same, h.tP, Nat.le_trans h.len hk⟩
theorem LotAt.same {C : Addr} {H H' : Hp} {a : Addr} {s : Wp03.State} {k k' : Nat} (h : LotAt C H a s k) (hs : Same H H') (hk : k ≤ k') : LotAt C H' a s k' := by
  obtain ⟨dx, t, g, LT, LG, h1, h2⟩ := h
  exact ⟨dx, t, g, LT, LG, hs _ _ h1, h2.keep (fun b o e _ => hs b o e) hk⟩
theorem reach_nil {n : Nat} {p : WpBase.Perm} : Reach n [] p ↔ p = WpBase.ident n := by
  constructor
  · intro h
    cases h with
    | base => rfl
    | step _ m => cases m
  · rintro rfl; exact .base
theorem group_nil (n : Nat) : WpBase.group n 200 [] = [WpBase.ident n] ∧ ¬ 200 < (WpBase.group n 200 []).length := by
  have hP : ∀ g ∈ ([] : List WpBase.Perm), PermN n g := fun g h => by cases h
  have nf := group_few (l := [WpBase.ident n]) hP (by simp) fun p h => by rw [reach_nil.mp h]; simp
  refine ⟨up_same (group_is hP nf).up (by simp [Up]) fun q => ?_, nf⟩
  rw [(group_is hP nf).mem, reach_nil, List.mem_singleton]
/-- a fresh one -/
theorem lot_new {H : Hp} {n k : Nat} {t g b : Addr} (h1 : H t = some (.lst [])) (h2 : H g = some (.lst [.ref b])) (h3 : H b = some (.tup (rgV 0 (n : Int)))) (n1 : 1 ≤ n) (n2 : n ≤ 10) : LotIs H ⟨n, []⟩ k t g [] [(b, WpBase.ident n)] := by
  obtain ⟨g1, g2⟩ := group_nil n
  refine ⟨h1, h2, fun q hq => (by cases hq), fun q hq => ?_, n1, n2, fun p hp => (by cases hp), g2, g1.symm, fun p => Iff.rfl, fun q hq => (by cases hq), Nat.zero_le _⟩
  rw [List.mem_singleton] at hq
  subst hq
  show H b = _
  rw [h3, rgV_tV]; rfl
structure Tx (K : PySem.W.Frag) (mg : Str → Option Value) (C : Addr) : Prop where
  cl : Cls K C
  nS : NoAttr K C "size"
  nT : NoAttr K C "told"
  nG : NoAttr K C "group"
  gC : mg "Lot" = some (.ref C)
theorem lk_here {k : Str} {v : V} {r : List (Str × V)} : List.lookup k ((k, v) :: r) = some v := by
  have e : (k == k) = true := beq_self_eq_true k
  simp only [List.lookup, e]
theorem lk_past {k g : Str} {v : V} {r : List (Str × V)} (h : (k == g) = false) : List.lookup k ((g, v) :: r) = List.lookup k r := by
  simp only [List.lookup, h]
theorem put_here {f : Str} {v x : V} {r : List (Str × V)} : putF f v ((f, x) :: r) = (f, v) :: r := if_pos rfl
theorem put_past {f g : Str} {v x : V} {r : List (Str × V)} (h : ¬ g = f) : putF f v ((g, x) :: r) = (g, x) :: putF f v r := if_neg h
theorem lF_size (n : Nat) (t g : Addr) : (lF n t g).lookup ("size" : Str) = some (.int n) := lk_here
theorem lF_told (n : Nat) (t g : Addr) : (lF n t g).lookup ("told" : Str) = some (.ref t) := (lk_past (by decide +kernel)).trans lk_here
theorem lF_group (n : Nat) (t g : Addr) : (lF n t g).lookup ("group" : Str) = some (.ref g) := (lk_past (by decide +kernel)).trans ((lk_past (by decide +kernel)).trans lk_here)
theorem lF_new (n : Nat) (t g : Addr) : putF "group" (.ref g) (putF "told" (.ref t) (putF "size" (.int n) [])) = lF n t g :=
  (congrArg _ (put_past (by decide +kernel))).trans ((put_past (by decide +kernel)).trans (congrArg _ ((put_past (by decide +kernel)).trans rfl)))
theorem lF_putS (n m : Nat) (t g : Addr) : putF "size" (.int m) (lF n t g) = lF m t g := put_here
theorem lF_putT (n : Nat) (t g u : Addr) : putF "told" (.ref u) (lF n t g) = lF n u g := (put_past (by decide +kernel)).trans (congrArg _ put_here)
theorem lF_putG (n : Nat) (t g u : Addr) : putF "group" (.ref u) (lF n t g) = lF n t u := (put_past (by decide +kernel)).trans (congrArg _ ((put_past (by decide +kernel)).trans (congrArg _ put_here)))
/-! ### Lot.__init__ -/
abbrev sInit : Stmt := inClass (top 10) 0
def spInit (C : Addr) : Sp := fun vs H Q _ => ∃ (p dx : Addr), vs = [.ref p] ∧ H p = some (.ins C dx []) ∧ ∀ H' : Hp, LotAt C H' p Wp03.init 0 → Off p H H' → Q .non H'
section
variable {P : Program} {w : World} {K : PySem.W.Frag} {mg : Str → Option Value} {base : Heap} {C : Addr}
theorem scInit : FnScope ["self"] ["self"] (defScope sInit) := ⟨rfl, rfl, rfl, by decide +kernel, rfl, by decide +kernel, by decide +kernel⟩
theorem ok_init {f : Addr} {fd : FuncData} (F : Fun K "__init__" "Lot.__init__" sInit f fd) (T : Tx K mg C) (DS : Df P w K mg base "all_stays" 1 ["size"] spStays) : FnOk P w K mg base CX0 2 f fd ["self"] (spInit C) := by
  obtain ⟨fS, fdS, okS, mS, kS, bS⟩ := DS
  refine F.ok scInit (fun vs H Q E h => ?_) (fun cdv A outer s H vs Q E hr h => ⟨_,
    pss_cons (ps_fld (pv 0) pe_int rfl) (pss_cons (ps_fld (pv 0) (pe_lst pa_nil) rfl) (pss_one (ps_fld (pv 0) (pe_lst (pa_cons (pe_call okS hr (by rfl) mS kS bS .nil pass0 (pa_cons pe_int pa_nil)) pa_nil)) rfl))), ?_⟩)
  · obtain ⟨p, dx, rfl, _⟩ := h
    rfl
  · obtain ⟨p, dx, rfl, hp, k⟩ := h
    refine ⟨_, rfl, p, C, dx, [], rfl, hp, T.cl, T.nS, (by show 0 < 1000; decide), ?_⟩
    have o1 : Off p H (upd H p (.ins C dx (putF "size" (.int 1) []))) := off_upd (same_off (Same.refl H))
    generalize hH1 : upd H p (.ins C dx (putF "size" (.int 1) [])) = H1 at o1 ⊢
    have hp1 : H1 p = some (.ins C dx (putF "size" (.int 1) [])) := by rw [← hH1, upd_same]
    have hz : ∀ (H' : Hp) (z : Addr) (o : HO), H' p = some o → H' z = none → p ≠ z := fun H' z o h1 h2 e => by rw [← e, h1] at h2; cases h2
    refine ⟨Nat.zero_le _, fun t nt => ⟨_, rfl, p, C, dx, putF "size" (.int 1) [], rfl, ?_, T.cl, T.nT, (by show 1 < 1000; decide), ?_⟩⟩
    · rw [upd_ne (hz _ _ _ hp1 nt)]; exact hp1
    have pt := hz _ _ _ hp1 nt
    have nt0 : H t = none := by rw [← hH1, upd_ne (Ne.symm pt)] at nt; exact nt
    have o2 : Off p H (upd (upd H1 t (.lst [])) p (.ins C dx (putF "told" (.ref t) (putF "size" (.int 1) [])))) := off_upd (off_upd2 o1 nt0)
    have ht2 : upd (upd H1 t (.lst [])) p (.ins C dx (putF "told" (.ref t) (putF "size" (.int 1) []))) t = some (.lst []) := by rw [upd_ne (Ne.symm pt), upd_same]
    generalize hH2 : upd (upd H1 t (.lst [])) p (.ins C dx (putF "told" (.ref t) (putF "size" (.int 1) []))) = H2 at o2 ht2 ⊢
    have hp2 : H2 p = some (.ins C dx (putF "told" (.ref t) (putF "size" (.int 1) []))) := by rw [← hH2, upd_same]
    refine ⟨1, rfl, by omega, fun b nb => ⟨(by show 1 ≤ sizeLine; decide), fun g ng => ⟨_, rfl, p, C, dx, putF "told" (.ref t) (putF "size" (.int 1) []), rfl, ?_, T.cl, T.nG, (by show 2 < 1000; decide), ?_⟩⟩⟩
    · rw [upd_ne (hz (upd H2 b (.tup (rgV 0 (1 : Nat)))) _ _ (by rw [upd_ne (hz _ _ _ hp2 nb)]; exact hp2) ng), upd_ne (hz _ _ _ hp2 nb)]; exact hp2
    have pb := hz _ _ _ hp2 nb
    have bg : b ≠ g := fun z => by rw [← z, upd_same] at ng; cases ng
    have ng2 : H2 g = none := by rw [upd_ne (Ne.symm bg)] at ng; exact ng
    have pg := hz _ _ _ hp2 ng2
    have tb : t ≠ b := fun z => by rw [← z, ht2] at nb; cases nb
    have tg : t ≠ g := fun z => by rw [← z, ht2] at ng2; cases ng2
    have n0 : ∀ {z : Addr}, H2 z = none → H z = none := fun {z} h => by
      cases e : H z with
      | none => rfl
      | some o => rw [o2 z o e (Ne.symm (hz _ _ _ hp2 h))] at h; cases h
    rw [show putF "group" (.ref g) (putF "told" (.ref t) (putF "size" (.int 1) [])) = lF 1 t g from lF_new 1 t g]
    refine k _ ⟨dx, t, g, [], [(b, WpBase.ident 1)], upd_same, lot_new (n := 1) ?_ ?_ ?_ (by omega) (by omega)⟩ (off_upd (off_upd2 (off_upd2 o2 (n0 nb)) (n0 ng2)))
    · rw [upd_ne (Ne.symm pt), upd_ne tg, upd_ne tb]; exact ht2
    · rw [upd_ne (Ne.symm pg), upd_same]
    · rw [upd_ne (Ne.symm pb), upd_ne bg, upd_same]
end
end Cc
set_option Elab.async false
set_option maxRecDepth 100000
set_option maxHeartbeats 2000000
namespace Cc
open PySem PySem.Spec PyProof.Rows L2
/-- what a call's def promises: the step's answer, in a new list; the lot is the step's; all else stands -/
def Told (C : Addr) (H : Hp) (Q : VK) (a : Addr) (s : Wp03.State) (k : Nat) (c : Wp03.Call) : Prop :=
  ∀ (H' : Hp) (r : Addr), LotAt C H' a (Wp03.step s c).1 (k + 1) → Off a H H' → H r = none → H' r = some (.lst ((Wp03.step s c).2.map V.int)) → Q (.ref r) H'
theorem Told.stays {C : Addr} {H H' : Hp} {Q : VK} {a r : Addr} {s : Wp03.State} {k : Nat} {c : Wp03.Call} {ns : List Int} (t : Told C H Q a s k c) (l : LotAt C H a s k) (e : Wp03.step s c = (s, ns)) (hs : Same H H') (nr : H r = none) (hr : H' r = some (.lst (ns.map V.int))) : Q (.ref r) H' := by
  refine t H' r ?_ (same_off hs) nr ?_
  · rw [e]; exact l.same hs (Nat.le_succ k)
  · rw [e]; exact hr
theorem off_free {a r : Addr} {H H' : Hp} {o : HO} (s : Off a H H') (ha : H' a = some o) (nr : H' r = none) : H r = none := by
  cases e : H r with
  | none => rfl
  | some u =>
    by_cases ra : r = a
    · rw [ra, ha] at nr; cases nr
    · rw [s r u e ra] at nr; cases nr
/-! ### answer_places -/
abbrev sPlaces : Stmt := top 26
def spPlaces (C : Addr) : Sp := fun vs H Q _ => ∃ (a : Addr) (z : Int) (s : Wp03.State) (k : Nat), vs = [.ref a, .int z] ∧ LotAt C H a s k ∧ Told C H Q a s k (.places z)
section
variable {P : Program} {w : World} {K : PySem.W.Frag} {mg : Str → Option Value} {base : Heap} {C : Addr}
theorem scPlaces : FnScope ["lot", "size"] ["lot", "size"] (defScope sPlaces) := ⟨rfl, rfl, rfl, by decide +kernel, rfl, by decide +kernel, by decide +kernel⟩
theorem ok_places {f : Addr} {fd : FuncData} (F : Fun K "answer_places" "answer_places" sPlaces f fd) (T : Tx K mg C) (Co : Cs mg) (DS : Df P w K mg base "all_stays" 1 ["size"] spStays) : FnOk P w K mg base CX0 2 f fd ["lot", "size"] (spPlaces C) := by
  obtain ⟨fS, fdS, okS, mS, kS, bS⟩ := DS
  obtain ⟨tP, mP⟩ := Co.places
  refine F.ok scPlaces (fun vs H Q E h => ?_) (fun cdv A outer sh H vs Q E hr h => ⟨_, (pss_cons (ps_if (PW.pt (pw_or (pt_cmpR op_lt (pv 1) pe_int (nomark _)) (pw_or1 (pt_cmpR op_gt (pv 1) (pe_glob (v := .int 10) (by rfl) mP ⟨_, rfl⟩) (nomark _))))) (pss_one (ps_ret (pe_lst (pa_cons (pe_un un_neg pe_int) pa_nil)))) pss_nil)
    (pss_cons (ps_fld (pv 0) (pv 1) rfl)
    (pss_cons (ps_fld (pv 0) (pe_lst pa_nil) rfl)
    (pss_cons (ps_fld (pv 0) (pe_lst (pa_cons (pe_call okS hr (by rfl) mS kS bS .nil pass0 (pa_cons (pv 1) pa_nil)) pa_nil)) rfl)
    (pss_one (ps_ret (pe_lst (pa_cons (pv 1) pa_nil)))))))), ?_⟩)
  · obtain ⟨a, z, s, k, rfl, _⟩ := h
    rfl
  · obtain ⟨a, z, s, k, rfl, lt, t⟩ := h
    have no : z < 1 ∨ 10 < z → Wp03.step s (.places z) = (s, [-1]) := fun c => if_pos c
    refine ⟨_, rfl, _, _, rfl, rfl, _, rfl, ?_⟩
    by_cases c1 : z < 1
    · refine if_true_of (decide_eq_true c1) (if_true_of rfl ?_)
      exact ⟨_, rfl, by decide, fun r nr => t.stays lt (no (.inl c1)) (same_upd nr) nr upd_same⟩
    refine if_false_of (decide_eq_false c1) ?_
    refine ⟨_, rfl, _, _, rfl, rfl, _, rfl, ?_⟩
    by_cases c2 : 10 < z
    · refine if_true_of (decide_eq_true c2) ?_
      exact ⟨_, rfl, by decide, fun r nr => t.stays lt (no (.inr c2)) (same_upd nr) nr upd_same⟩
    refine if_false_of (decide_eq_false c2) ?_
    obtain ⟨n, rfl⟩ : ∃ n : Nat, z = n := ⟨z.toNat, by omega⟩
    have st : Wp03.step s (.places n) = (⟨n, []⟩, [(n : Int)]) := if_neg (by omega)
    obtain ⟨dx, t0, g0, LT, LG, h1, _⟩ := lt
    have hz : ∀ (H' : Hp) (z : Addr) (o : HO), H' a = some o → H' z = none → a ≠ z := fun H' z o h1 h2 e => by rw [← e, h1] at h2; cases h2
    refine ⟨_, rfl, _, rfl, a, C, dx, _, rfl, h1, T.cl, T.nS, (by show 3 < 1000; decide), ?_⟩
    rw [lF_putS]
    have o1 : Off a H (upd H a (.ins C dx (lF n t0 g0))) := off_upd (same_off (Same.refl H))
    generalize hH1 : upd H a (.ins C dx (lF n t0 g0)) = H1 at o1 ⊢
    have ha1 : H1 a = some (.ins C dx (lF n t0 g0)) := by rw [← hH1, upd_same]
    refine ⟨Nat.zero_le _, fun t1 nt => ⟨_, rfl, a, C, dx, lF n t0 g0, rfl, ?_, T.cl, T.nT, (by show 3 < 1000; decide), ?_⟩⟩
    · rw [upd_ne (hz _ _ _ ha1 nt)]; exact ha1
    rw [lF_putT]
    have pt := hz _ _ _ ha1 nt
    have nt0 : H t1 = none := by rw [← hH1, upd_ne (Ne.symm pt)] at nt; exact nt
    have o2 : Off a H (upd (upd H1 t1 (.lst [])) a (.ins C dx (lF n t1 g0))) := off_upd (off_upd2 o1 nt0)
    have ht2 : upd (upd H1 t1 (.lst [])) a (.ins C dx (lF n t1 g0)) t1 = some (.lst []) := by rw [upd_ne (Ne.symm pt), upd_same]
    generalize hH2 : upd (upd H1 t1 (.lst [])) a (.ins C dx (lF n t1 g0)) = H2 at o2 ht2 ⊢
    have ha2 : H2 a = some (.ins C dx (lF n t1 g0)) := by rw [← hH2, upd_same]
    refine ⟨_, rfl, n, rfl, by omega, fun b nb => ⟨(by show 1 ≤ sizeLine; decide), fun g ng => ⟨_, rfl, a, C, dx, lF n t1 g0, rfl, ?_, T.cl, T.nG, (by show 3 < 1000; decide), ?_⟩⟩⟩
    · rw [upd_ne (hz (upd H2 b (.tup (rgV 0 n))) _ _ (by rw [upd_ne (hz _ _ _ ha2 nb)]; exact ha2) ng), upd_ne (hz _ _ _ ha2 nb)]; exact ha2
    rw [lF_putG]
    have pb := hz _ _ _ ha2 nb
    have bg : b ≠ g := fun z => by rw [← z, upd_same] at ng; cases ng
    have ng2 : H2 g = none := by rw [upd_ne (Ne.symm bg)] at ng; exact ng
    have pg := hz _ _ _ ha2 ng2
    have tb : t1 ≠ b := fun z => by rw [← z, ht2] at nb; cases nb
    have tg : t1 ≠ g := fun z => by rw [← z, ht2] at ng2; cases ng2
    have n0 : ∀ {z : Addr}, H2 z = none → H z = none := fun {z} h => by
      cases e : H z with
      | none => rfl
      | some o => rw [o2 z o e (Ne.symm (hz _ _ _ ha2 h))] at h; cases h
    have o3 : Off a H (upd (upd (upd H2 b (.tup (rgV 0 n))) g (.lst [.ref b])) a (.ins C dx (lF n t1 g))) := off_upd (off_upd2 (off_upd2 o2 (n0 nb)) (n0 ng2))
    have l3 : LotIs (upd (upd (upd H2 b (.tup (rgV 0 n))) g (.lst [.ref b])) a (.ins C dx (lF n t1 g))) ⟨n, []⟩ (k + 1) t1 g [] [(b, WpBase.ident n)] := by
      refine lot_new (n := n) ?_ ?_ ?_ (by omega) (by omega)
      · rw [upd_ne (Ne.symm pt), upd_ne tg, upd_ne tb]; exact ht2
      · rw [upd_ne (Ne.symm pg), upd_same]
      · rw [upd_ne (Ne.symm pb), upd_ne bg, upd_same]
    have l4 : LotAt C (upd (upd (upd H2 b (.tup (rgV 0 n))) g (.lst [.ref b])) a (.ins C dx (lF n t1 g))) a ⟨n, []⟩ (k + 1) := ⟨dx, t1, g, [], [(b, WpBase.ident n)], upd_same, l3⟩
    have nH : ∀ {r : Addr}, upd (upd (upd H2 b (.tup (rgV 0 n))) g (.lst [.ref b])) a (.ins C dx (lF n t1 g)) r = none → H r = none := fun {r} nr => off_free o3 upd_same nr
    refine ⟨_, rfl, (by show 1 ≤ sizeLine; decide), fun r nr => t _ r ?_ (off_upd2 o3 (nH nr)) (nH nr) ?_⟩
    · rw [st]; exact l4.same (same_upd nr) (Nat.le_refl _)
    · rw [st]; exact upd_same
end
end Cc
set_option Elab.async false
set_option maxRecDepth 100000
set_option maxHeartbeats 2000000
set_option pp.maxSteps 200
namespace Cc
open PySem PySem.Spec PyProof.Rows L2
theorem group_congr {n : Nat} {A B : List WpBase.Perm} (hA : ∀ g ∈ A, PermN n g) (hB : ∀ g ∈ B, PermN n g) (e : ∀ p, Reach n A p ↔ Reach n B p) :
    (200 < (WpBase.group n 200 A).length ↔ 200 < (WpBase.group n 200 B).length) ∧ (¬ 200 < (WpBase.group n 200 A).length → WpBase.group n 200 A = WpBase.group n 200 B) := by
  have key : ∀ {A B : List WpBase.Perm}, (∀ g ∈ A, PermN n g) → (∀ g ∈ B, PermN n g) → (∀ p, Reach n A p ↔ Reach n B p) → 200 < (WpBase.group n 200 A).length → 200 < (WpBase.group n 200 B).length := fun hA hB e h => by
    obtain ⟨l, nd, r, k⟩ := group_many hA h
    exact group_over hB nd (fun p hp => (e p).mp (r p hp)) k
  have i : 200 < (WpBase.group n 200 A).length ↔ 200 < (WpBase.group n 200 B).length := ⟨key hA hB e, key hB hA fun p => (e p).symm⟩
  exact ⟨i, fun h => (group_is hA h).uniq (group_is hB fun z => h (i.mpr z)) e⟩
theorem room65 {k : Nat} {A : Around} (r : Room k A) : A.units + 65 < cLine := by have := r.un; omega
/-! a tuple among tuples -/
def tD (p : List Nat) : PyData := .tuple ((p.map Int.ofNat).map PyData.int)
theorem dp_tup {K : PySem.W.Frag} {H : Hp} {a : Addr} {p : List Nat} (h : SqT K H a (tV p)) : Dp K H (.ref a) (tD p) := .tup h (by rw [tV_ints]; exact dp_ints _)
theorem dp_tups {K : PySem.W.Frag} {H : Hp} : ∀ {L : List (Addr × List Nat)}, (∀ q ∈ L, SqT K H q.1 (tV q.2)) → DpAll K H (refs L) (L.map fun q => tD q.2)
  | [], _ => .nil
  | q :: L, h => .cons (dp_tup (h q (by simp))) (dp_tups fun z hz => h z (List.mem_cons_of_mem _ hz))
theorem tD_lay (p : List Nat) : PyData.canLay0 (tD p) = true ∧ PyData.depth (tD p) = 1 := by
  obtain ⟨h1, h2⟩ := ints_lay (p.map Int.ofNat)
  refine ⟨h1, ?_⟩
  show PyData.depthAll _ + 1 = 1
  rw [h2]
theorem tD_shaped (p : List Nat) : SeqAt.shaped (tD p) = true := by
  obtain ⟨h1, h2⟩ := tD_lay p
  show (PyData.canLay0 _ && decide (PyData.depth _ ≤ 64)) = true
  rw [h1, h2]; rfl
theorem tDs_lay {α : Type} (f : α → List Nat) : ∀ (L : List α), PyData.canLayAll0 (L.map fun q => tD (f q)) = true ∧ PyData.depthAll (L.map fun q => tD (f q)) ≤ 1
  | [] => ⟨rfl, Nat.zero_le _⟩
  | q :: L => by
    obtain ⟨h1, h2⟩ := tDs_lay f L
    obtain ⟨h3, h4⟩ := tD_lay (f q)
    rw [List.map_cons]
    refine ⟨?_, ?_⟩
    · show (PyData.canLay0 _ && PyData.canLayAll0 _) = true
      rw [h1, h3]; rfl
    · show max (PyData.depth _) (PyData.depthAll _) ≤ 1
      rw [h4]; omega
theorem tDs_shaped {α : Type} (f : α → List Nat) (L : List α) : SeqAt.shaped (.list (L.map fun q => tD (f q))) = true := by
  obtain ⟨h1, h2⟩ := tDs_lay f L
  show (PyData.canLayAll0 _ && decide (PyData.depthAll _ + 1 ≤ 64)) = true
  rw [h1, decide_eq_true (by omega)]; rfl
theorem ofNat_inj {a b : List Nat} (h : a.map Int.ofNat = b.map Int.ofNat) : a = b := by
  have := congrArg (List.map Int.toNat) h
  rw [List.map_map, List.map_map] at this
  have e : (Int.toNat ∘ Int.ofNat) = id := by funext k; rfl
  rwa [e, List.map_id, List.map_id] at this
theorem tD_eqv (p q : List Nat) : PyData.eqv (tD p) (tD q) = decide (p = q) := by
  show PyData.eqvAll _ _ = _
  rw [eqv_ints, Bool.eq_iff_iff, decide_eq_true_eq, decide_eq_true_eq]
  exact ⟨ofNat_inj, fun h => by rw [h]⟩
theorem tD_any (L : List (Addr × List Nat)) (p : List Nat) : ((L.map fun q => tD q.2).any fun z => PyData.eqv z (tD p)) = decide (p ∈ L.map (·.2)) := by
  rw [Bool.eq_iff_iff, List.any_eq_true, decide_eq_true_eq]
  constructor
  · rintro ⟨z, hz, e⟩
    obtain ⟨q, hq, rfl⟩ := List.mem_map.mp hz
    rw [tD_eqv, decide_eq_true_eq] at e
    exact List.mem_map.mpr ⟨q, hq, e⟩
  · intro h
    obtain ⟨q, hq, e⟩ := List.mem_map.mp h
    exact ⟨_, List.mem_map.mpr ⟨q, hq, rfl⟩, by rw [tD_eqv]; exact decide_eq_true e⟩
theorem step_turn (s : Wp03.State) (ns : List Int) : Wp03.step s (.turn ns) = match Wp03.permOf s.n ns with
    | none => (s, [-1])
    | some p => if 200 < (WpBase.group s.n 200 (s.gens ++ [p])).length then (s, [-2]) else (⟨s.n, s.gens ++ [p]⟩, [Wp03.nat (WpBase.group s.n 200 (s.gens ++ [p])).length]) := rfl
/-! ### answer_turn -/
abbrev sTurn : Stmt := top 27
def spTurn (K : PySem.W.Frag) (C : Addr) : Sp := fun vs H Q _ => ∃ (a b : Addr) (ns : List Int) (s : Wp03.State) (k : Nat), vs = [.ref a, .ref b] ∧ LotAt C H a s k ∧ SqL K H b (ns.map V.int) ∧ ns.length < 64 ∧ k < 2000 ∧ Told C H Q a s k (.turn ns)
section
variable {P : Program} {w : World} {K : PySem.W.Frag} {mg : Str → Option Value} {base : Heap} {C : Addr}
theorem scTurn : FnScope ["lot", "numbers", "exchange", "told", "group"] ["lot", "numbers"] (defScope sTurn) := ⟨rfl, rfl, rfl, by decide +kernel, rfl, by decide +kernel, by decide +kernel⟩
theorem ok_turn {f : Addr} {fd : FuncData} (F : Fun K "answer_turn" "answer_turn" sTurn f fd) (T : Tx K mg C) (B : Bi mg) (DE : Df P w K mg base "is_exchange" 1 ["numbers", "size"] (spIsEx K)) (DG : Df P w K mg base "group_of" 2 ["told", "size"] (spGroup K)) : FnOk P w K mg base CX0 3 f fd ["lot", "numbers"] (spTurn K C) := by
  obtain ⟨fE, fdE, okE, mE, kE, bE⟩ := DE
  obtain ⟨fG, fdG, okG, mG, kG, bG⟩ := DG
  refine F.ok scTurn (fun vs H Q E h => ?_) (fun cdv A outer sh H vs Q E hr h => ?_)
  · obtain ⟨a, b, ns, s, k, rfl, _⟩ := h
    rfl
  have hr1 := hr.mono (j := 1) (by decide)
  refine ⟨_, (pss_cons (ps_if (pt_not (pt_val (pe_call okE hr1 (by rfl) mE kE bE .nil pass0 (pa_cons (pv 1) (pa_cons (pe_fld (pv 0) rfl) pa_nil))))) (pss_one (ps_ret (pe_lst (pa_cons (pe_un un_neg pe_int) pa_nil)))) pss_nil)
    (pss_cons (ps_set (i := 2) scTurn.nd rfl (Or.inl rfl) (pe_callTy call_tuple_of (by rfl) B.tuple (by decide +kernel) (pa_cons (pv 1) pa_nil)))
    (pss_cons (ps_if (pt_cmpR (op_notInD (room65 hr)) (pv 2) (pe_fld (pv 0) rfl) rfl) (pss_cons (ps_set (i := 3) scTurn.nd rfl (Or.inl rfl) (pe_op op_cat (pe_fld (pv 0) rfl) (pe_lst (pa_cons (pv 2) pa_nil))))
    (pss_cons (ps_set (i := 4) scTurn.nd rfl (Or.inl rfl) (pe_call okG hr (by rfl) mG kG bG .nil pass0 (pa_cons (pv 3) (pa_cons (pe_fld (pv 0) rfl) pa_nil))))
    (pss_cons (ps_if (pt_cmp (pc_isN (pv 4))) (pss_one (ps_ret (pe_lst (pa_cons (pe_un un_neg pe_int) pa_nil)))) pss_nil)
    (pss_cons (ps_fld (pv 0) (pv 3) rfl)
    (pss_one (ps_fld (pv 0) (pv 4) rfl)))))) pss_nil)
    (pss_one (ps_ret (pe_lst (pa_cons (pe_callB call_len_seq (by rfl) B.len (by decide +kernel) (pa_cons (pe_fld (pv 0) rfl) pa_nil)) pa_nil))))))), ?_⟩
  obtain ⟨a, b, ns, s, k, rfl, lt, hS, hn, hk, t⟩ := h
  obtain ⟨dx, tA, gA, LT, LG, ha, li⟩ := id lt
  have n1 := li.n1
  have n2 := li.n2
  refine ⟨_, rfl, _, rfl, a, C, dx, _, _, rfl, ha, T.cl, T.nS, lF_size _ _ _, b, ns, s.n, rfl, hS, hn, by omega, fun H1 s1 => ⟨_, rfl, ?_⟩⟩
  cases c : isEx s.n ns with
  | false =>
    refine if_true_of rfl ?_
    have e : Wp03.step s (.turn ns) = (s, [-1]) := by
      rw [step_turn, isEx_no c]
    exact ⟨_, rfl, by decide, fun r nr => t.stays lt e (same_upd2 s1 (s1.free nr)) (s1.free nr) upd_same⟩
  | true =>
    refine if_false_of rfl ?_
    obtain ⟨e1, hp, e3⟩ := isEx_perm c
    generalize hpd : ns.map Int.toNat = p at e1 hp e3
    have st : Wp03.step s (.turn ns) = if 200 < (WpBase.group s.n 200 (s.gens ++ [p])).length then (s, [-2]) else (⟨s.n, s.gens ++ [p]⟩, [Wp03.nat (WpBase.group s.n 200 (s.gens ++ [p])).length]) := by
      rw [step_turn, e1]
    have gp2 : ∀ g ∈ s.gens ++ [p], PermN s.n g := fun g hg => (List.mem_append.mp hg).elim (li.gp g) fun e => by rw [List.mem_singleton] at e; subst e; exact hp
    refine ⟨_, rfl, b, _, rfl, .inl ⟨s1.seq hS, fun x nx => ?_⟩⟩
    rw [e3]
    have s2 : Same H (upd H1 x (.tup (tV p))) := same_upd2 s1 (s1.free nx)
    have hx2 : upd H1 x (.tup (tV p)) x = some (.tup (tV p)) := upd_same
    generalize upd H1 x (.tup (tV p)) = H2 at s2 hx2 ⊢
    have li2 := li.keep (k' := k) (fun b o e _ => s2 b o e) (Nat.le_refl k)
    have ha2 := s2 _ _ ha
    refine ⟨_, rfl, _, rfl, a, C, dx, _, _, rfl, ha2, T.cl, T.nG, lF_group _ _ _, tD p, LG.map (fun q => tD q.2), dp_tup (SqT.of hx2), .lst (SqL.of li2.group) (dp_tups fun q hq => SqT.of (li2.tG q hq)), tD_shaped p, tDs_shaped (fun q => q.2) LG, _, rfl, ?_⟩
    rw [tD_any, li.isG]
    by_cases c2 : p ∈ Wp03.theGroup s
    · rw [decide_eq_true c2]
      refine if_false_of rfl ?_
      have rp : Reach s.n s.gens p := (li.grp.mem p).mp c2
      have same := group_same li.gp rp
      obtain ⟨q1, q2⟩ := group_congr gp2 li.gp same
      have nf : ¬ 200 < (WpBase.group s.n 200 (s.gens ++ [p])).length := fun z => li.few (q1.mp z)
      have eg : WpBase.group s.n 200 (s.gens ++ [p]) = Wp03.theGroup s := q2 nf
      rw [if_neg nf] at st
      refine ⟨_, rfl, a, C, dx, _, _, rfl, ha2, T.cl, T.nG, lF_group _ _ _, gA, _, rfl, .inl (SqL.of li2.group), (by show 1 ≤ sizeLine; decide), fun r nr => t _ r ?_ (same_off (same_upd2 s2 (s2.free nr))) (s2.free nr) ?_⟩
      · rw [st]
        refine ⟨dx, tA, gA, LT, LG, same_upd nr _ _ ha2, ?_⟩
        have l3 := li2.keep (k' := k + 1) (fun b o e _ => same_upd (o := .lst [V.int (refs LG).length]) nr b o e) (Nat.le_succ k)
        exact ⟨l3.told, l3.group, l3.tT, l3.tG, n1, n2, gp2, nf, li.isG.trans eg.symm, fun z => (li.same z).trans (same z).symm, li.tP, l3.len⟩
      · rw [upd_same, st, eg]
        have : (refs LG).length = (Wp03.theGroup s).length := by rw [← li.isG]; simp [refs]
        rw [this]; rfl
    · rw [decide_eq_false c2]
      refine if_true_of rfl ?_
      have rl : (refs LT).length = LT.length := by simp [refs]
      have kl := li.len
      refine ⟨_, rfl, a, C, dx, _, _, rfl, ha2, T.cl, T.nT, lF_told _ _ _, _, rfl, (by show 1 ≤ sizeLine; decide), fun y ny => ⟨tA, y, refs LT, _, rfl, rfl, same_upd ny _ _ li2.told, upd_same, (by rw [rl, sizeLine_eq]; simp; omega), fun u nu => ?_⟩⟩
      have eR : refs LT ++ [V.ref x] = refs (LT ++ [(x, p)]) := by unfold refs; rw [List.map_append]; rfl
      rw [eR]
      have s3 : Same H2 (upd (upd H2 y (.lst [V.ref x])) u (.lst (refs (LT ++ [(x, p)])))) := same_upd2 (same_upd ny) ((same_upd ny).free nu)
      have hu3 : upd (upd H2 y (.lst [V.ref x])) u (.lst (refs (LT ++ [(x, p)]))) u = some (.lst (refs (LT ++ [(x, p)]))) := upd_same
      have nu2 : H2 u = none := (same_upd ny).free nu
      generalize upd (upd H2 y (.lst [V.ref x])) u (.lst (refs (LT ++ [(x, p)]))) = H3 at s3 hu3 ⊢
      have ha3 := s3 _ _ ha2
      have hLT : TupsH H3 (LT ++ [(x, p)]) := fun q hq => by
        rcases List.mem_append.mp hq with hq | hq
        · exact s3 _ _ (li2.tT q hq)
        · rw [List.mem_singleton] at hq; subst hq; exact s3 _ _ hx2
      have hLP : ∀ q ∈ LT ++ [(x, p)], PermN s.n q.2 := fun q hq => by
        rcases List.mem_append.mp hq with hq | hq
        · exact li.tP q hq
        · rw [List.mem_singleton] at hq; subst hq; exact hp
      have hA : ∀ g ∈ (LT ++ [(x, p)]).map (·.2), PermN s.n g := fun g hg => by
        obtain ⟨q, hq, rfl⟩ := List.mem_map.mp hg
        exact hLP q hq
      have hA0 : ∀ g ∈ LT.map (·.2), PermN s.n g := fun g hg => by
        obtain ⟨q, hq, rfl⟩ := List.mem_map.mp hg
        exact li.tP q hq
      have same : ∀ z, Reach s.n ((LT ++ [(x, p)]).map (·.2)) z ↔ Reach s.n (s.gens ++ [p]) z := fun z => by
        rw [List.map_append]
        constructor
        · refine Reach.mono gp2 fun g hg => ?_
          rcases List.mem_append.mp hg with hg | hg
          · exact Reach.mono gp2 (fun y hy => Reach.gen gp2 (List.mem_append.mpr (.inl hy))) ((li.same g).mp (Reach.gen hA0 hg))
          · exact Reach.gen gp2 (List.mem_append.mpr (.inr hg))
        · rw [List.map_append] at hA
          refine Reach.mono hA fun g hg => ?_
          rcases List.mem_append.mp hg with hg | hg
          · exact Reach.mono hA (fun y hy => Reach.gen hA (List.mem_append.mpr (.inl hy))) ((li.same g).mpr (Reach.gen li.gp hg))
          · exact Reach.gen hA (List.mem_append.mpr (.inr hg))
      obtain ⟨q1, q2⟩ := group_congr hA gp2 same
      refine ⟨_, rfl, _, rfl, a, C, dx, _, _, rfl, ha3, T.cl, T.nS, lF_size _ _ _, u, LT ++ [(x, p)], s.n, rfl, SqL.of hu3, fun q hq => SqT.of (hLT q hq), hLP, n1, n2, (by rw [List.length_append]; simp; omega), fun ov H4 s4 => ?_, fun nf H4 r G s4 nr hr4 hG4 eG => ?_⟩
      · -- too many
        rw [if_pos (q1.mp ov)] at st
        refine ⟨_, rfl, _, rfl, if_true_of rfl ?_⟩
        have s5 := (s2.trans s3).trans s4
        exact ⟨_, rfl, by decide, fun r nr => t.stays lt st (same_upd2 s5 (s5.free nr)) (s5.free nr) upd_same⟩
      · have nf2 : ¬ 200 < (WpBase.group s.n 200 (s.gens ++ [p])).length := fun z => nf (q1.mpr z)
        have eg := q2 nf
        rw [if_neg nf2] at st
        refine ⟨_, rfl, _, rfl, if_false_of (decide_eq_false (fun z => nomatch z)) ?_⟩
        have s5 := (s2.trans s3).trans s4
        have ha4 := s4 _ _ ha3
        refine ⟨_, rfl, _, rfl, a, C, dx, _, rfl, ha4, T.cl, T.nT, (by show 3 < 1000; decide), ?_⟩
        rw [lF_putT]
        refine ⟨_, rfl, _, rfl, a, C, dx, _, rfl, upd_same, T.cl, T.nG, (by show 3 < 1000; decide), ?_⟩
        rw [lF_putG, upd_upd]
        have o6 : Off a H (upd H4 a (.ins C dx (lF s.n u r))) := off_upd (same_off s5)
        have ar : ∀ {z : Addr} {o : HO}, H4 z = some o → (∀ C dx fs, o ≠ .ins C dx fs) → upd H4 a (.ins C dx (lF s.n u r)) z = some o := fun {z o} h1 h2 => by
          rw [upd_ne (fun e => by rw [e, ha4] at h1; exact h2 _ _ _ (Option.some.inj h1).symm)]; exact h1
        have hg6 := ar hr4 (fun _ _ _ z => nomatch z)
        have lot6 : LotIs (upd H4 a (.ins C dx (lF s.n u r))) ⟨s.n, s.gens ++ [p]⟩ (k + 1) u r (LT ++ [(x, p)]) G := by
          refine ⟨ar (s4 _ _ hu3) (fun _ _ _ z => nomatch z), hg6, fun q hq => ar (s4 _ _ (hLT q hq)) (fun _ _ _ z => nomatch z), fun q hq => ar (hG4 q hq) (fun _ _ _ z => nomatch z), n1, n2, gp2, nf2, eG.trans eg, same, hLP, ?_⟩
          rw [List.length_append]; simp; omega
        refine ⟨_, rfl, a, C, dx, _, _, rfl, upd_same, T.cl, T.nG, lF_group _ _ _, r, _, rfl, .inl (SqL.of hg6), (by show 1 ≤ sizeLine; decide), fun v nv => t _ v ?_ (off_upd2 o6 (off_free o6 upd_same nv)) (off_free o6 upd_same nv) ?_⟩
        · rw [st]
          exact LotAt.same (k := k + 1) ⟨dx, u, r, _, G, upd_same, lot6⟩ (same_upd nv) (Nat.le_refl _)
        · rw [upd_same, st]
          have : (refs G).length = (WpBase.group s.n 200 (s.gens ++ [p])).length := by rw [← eG.trans eg]; simp [refs]
          rw [this]; rfl
end
end Cc
set_option Elab.async false
set_option maxRecDepth 100000
set_option maxHeartbeats 2000000
set_option pp.maxSteps 200
namespace Cc
open PySem PySem.Spec PyProof.Rows L2
/-! ### answer_group -/
theorem refs_get {L : List (Addr × List Nat)} {i : Nat} {x : V} (h : (refs L)[i]? = some x) : ∃ q, L[i]? = some q ∧ x = V.ref q.1 := by
  unfold refs at h
  rw [List.getElem?_map] at h
  cases e : L[i]? with
  | none => rw [e] at h; cases h
  | some q => rw [e] at h; exact ⟨q, rfl, (Option.some.inj h).symm⟩
theorem refs_len (L : List (Addr × List Nat)) : (refs L).length = L.length := by simp [refs]
def flatT (L : List (Addr × List Nat)) : List V := L.flatMap fun q => tV q.2
theorem flatT_take {L : List (Addr × List Nat)} {i : Nat} {q : Addr × List Nat} (h : L[i]? = some q) : flatT (L.take (i + 1)) = flatT (L.take i) ++ tV q.2 := by
  unfold flatT; rw [take_snoc h, List.flatMap_append]; simp
theorem flatT_len {L : List (Addr × List Nat)} {n : Nat} (h : ∀ q ∈ L, q.2.length ≤ n) : (flatT L).length ≤ L.length * n := by
  unfold flatT
  induction L with
  | nil => simp
  | cons q L ih =>
    have h1 := ih fun z hz => h z (List.mem_cons_of_mem _ hz)
    have h2 := h q (by simp)
    rw [List.flatMap_cons, List.length_append, tV_len, List.length_cons, Nat.succ_mul]
    omega
abbrev sGrp : Stmt := top 28
def spGrp (C : Addr) : Sp := fun vs H Q _ => ∃ (a : Addr) (s : Wp03.State) (k : Nat), vs = [.ref a] ∧ LotAt C H a s k ∧ Told C H Q a s k .group
section
variable {P : Program} {w : World} {K : PySem.W.Frag} {mg : Str → Option Value} {base : Heap} {C : Addr}
theorem scGrp : FnScope ["lot", "answer", "exchange"] ["lot"] (defScope sGrp) := ⟨rfl, rfl, rfl, by decide +kernel, rfl, by decide +kernel, by decide +kernel⟩
theorem ok_grp {f : Addr} {fd : FuncData} (F : Fun K "answer_group" "answer_group" sGrp f fd) (T : Tx K mg C) (B : Bi mg) (Co : Cs mg) : FnOk P w K mg base CX0 1 f fd ["lot"] (spGrp C) := by
  obtain ⟨tS, mS⟩ := Co.shown
  refine F.ok scGrp (fun vs H Q E h => ?_) (fun cdv A outer sh H vs Q E hr h => ⟨_, (pss_cons (ps_set (i := 1) scGrp.nd rfl (Or.inl rfl) (pe_lst (pa_cons (pe_callB call_len_seq (by rfl) B.len (by decide +kernel) (pa_cons (pe_fld (pv 0) rfl) pa_nil)) pa_nil)))
    (pss_cons (ps_if (pt_cmpR op_le (pe_callB call_len_seq (by rfl) B.len (by decide +kernel) (pa_cons (pe_fld (pv 0) rfl) pa_nil)) (pe_glob (v := .int 24) (by rfl) mS ⟨_, rfl⟩) (nomark _)) (pss_one (ps_for PassesOwn.never rfl (pi_list (pe_fld (pv 0) rfl)) (pg_name (i := 2) scGrp.nd rfl (Or.inl rfl)) (pss_one (ps_expr (pe_bm PySem.F.plainAttrs_list PySem.F.slot_list_extend PySem.F.type_list_extend mt_extT (pv 1) (pa_cons (pv 2) pa_nil)))))) pss_nil)
    (pss_one (ps_ret (pv 1))))), ?_⟩)
  · obtain ⟨a, s, k, rfl, _⟩ := h
    rfl
  obtain ⟨a, s, k, rfl, lt, t⟩ := h
  obtain ⟨dx, tA, gA, LT, LG, ha, li⟩ := id lt
  have eg : (Wp03.theGroup s).length = LG.length := by rw [← li.isG]; simp
  have hl := refs_len LG
  have few := li.few
  have n2 := li.n2
  have hP : ∀ q ∈ LG, PermN s.n q.2 := fun q hq => li.grp.perm (li.isG ▸ List.mem_map.mpr ⟨q, hq, rfl⟩)
  refine ⟨_, rfl, a, C, dx, _, _, rfl, ha, T.cl, T.nG, lF_group _ _ _, gA, _, rfl, .inl (SqL.of li.group), (by show 1 ≤ sizeLine; decide), fun r nr => ?_⟩
  have s1 : Same H (upd H r (.lst [V.int (refs LG).length])) := same_upd nr
  refine ⟨_, rfl, a, C, dx, _, _, rfl, s1 _ _ ha, T.cl, T.nG, lF_group _ _ _, gA, _, rfl, .inl (SqL.of (s1 _ _ li.group)), _, _, rfl, rfl, _, rfl, ?_⟩
  rw [hl]
  have st : Wp03.step s .group = (s, Wp03.nat (Wp03.theGroup s).length :: (if (Wp03.theGroup s).length ≤ 24 then (Wp03.theGroup s).flatMap fun p => p.map Wp03.nat else [])) := rfl
  by_cases c : LG.length ≤ 24
  · refine if_true_of (decide_eq_true (by omega)) ?_
    refine ⟨_, rfl, a, C, dx, _, _, rfl, same_upd nr _ _ ha, T.cl, T.nG, lF_group _ _ _, gA, rfl, ⟨_, SqL.of (same_upd nr _ _ li.group)⟩, for_list (K := K) (a := gA) (xs := refs LG) (fun i σ H' => ∃ v2 : Option V, σ = [some (.ref a), some (.ref r), v2] ∧ Same H H' ∧ H' r = some (.lst (V.int LG.length :: flatT (LG.take i))))
      ⟨none, rfl, same_upd nr, by rw [upd_same]; rfl⟩ (fun i σ H' _ ⟨_, _, h, _⟩ => SqL.of (h _ _ li.group)) ?_ ?_⟩
    · rintro i x σ H' hi ⟨v2, rfl, s2, hr2⟩
      obtain ⟨q, hq, rfl⟩ := refs_get hi
      have hqm := List.mem_of_getElem? hq
      have b1 : (flatT (LG.take i)).length ≤ (LG.take i).length * 10 := flatT_len fun z hz => by rw [(hP z (List.mem_of_mem_take hz)).len]; omega
      have b2 : (LG.take i).length ≤ 24 := by rw [List.length_take]; omega
      refine ⟨_, rfl, Or.inl ⟨rfl, _, SqL.of hr2⟩, _, rfl, r, q.1, _, _, rfl, rfl, hr2, SqT.of (s2 _ _ (li.tG q hqm)), ?_, _, rfl, same_upd2 s2 nr, ?_⟩
      · rw [List.length_cons, tV_len, (hP q hqm).len, sizeLine_eq]; omega
      · rw [upd_same, flatT_take hq]; rfl
    · rintro σ H' ⟨v2, rfl, s2, hr2⟩
      rw [hl, List.take_length] at hr2
      refine ⟨_, rfl, t.stays lt st s2 nr ?_⟩
      rw [hr2, if_pos (by omega), eg, ← li.isG]
      congr 2
      rw [List.map_cons]
      congr 1
      unfold flatT
      rw [List.flatMap_map, List.map_flatMap]
      congr 1
      funext q
      rw [List.map_map]; rfl
  · refine if_false_of (decide_eq_false (by omega)) ?_
    refine ⟨_, rfl, t.stays lt st (same_upd nr) nr ?_⟩
    rw [upd_same, if_neg (by omega), eg, ← hl]; rfl
end
end Cc
set_option Elab.async false
set_option maxRecDepth 100000
set_option maxHeartbeats 2000000
set_option pp.maxSteps 200
namespace Cc
open PySem PySem.Spec PyProof.Rows L2
/-! ### orbit_of -/
abbrev sOrb : Stmt := top 29
theorem ints_same {a b : List Int} (ha : a.Pairwise (· < ·)) (hb : b.Pairwise (· < ·)) (h : ∀ k, k ∈ a ↔ k ∈ b) : a = b := by
  have nd : ∀ {l : List Int}, l.Pairwise (· < ·) → l.Nodup := fun h => h.imp fun {x y} h e => by omega
  have p := perm_of_nodup_sub a b (nd ha) (fun x hx => (h x).mp hx) (nodup_sub_len b a (nd hb) fun x hx => (h x).mpr hx)
  exact p.eq_of_pairwise (fun x y _ _ h1 h2 => by omega) (ha.imp fun {x y} h => Int.le_of_lt h) (hb.imp fun {x y} h => Int.le_of_lt h)
def spOrb (C : Addr) : Sp := fun vs H Q _ => ∃ (a : Addr) (i : Nat) (s : Wp03.State) (k : Nat), vs = [.ref a, .int i] ∧ LotAt C H a s k ∧ i < s.n ∧
  ∀ (H' : Hp) (r : Addr), Same H H' → H r = none → H' r = some (.lst (tV (WpBase.orbit (Wp03.theGroup s) i))) → Q (.ref r) H'
section
variable {P : Program} {w : World} {K : PySem.W.Frag} {mg : Str → Option Value} {base : Heap} {C : Addr}
theorem scOrb : FnScope ["lot", "place", "exchange"] ["lot", "place"] (defScope sOrb) := ⟨rfl, rfl, rfl, by decide +kernel, rfl, by decide +kernel, by decide +kernel⟩
theorem ok_orb {f : Addr} {fd : FuncData} (F : Fun K "orbit_of" "orbit_of" sOrb f fd) (T : Tx K mg C) (B : Bi mg) : FnOk P w K mg base CX0 1 f fd ["lot", "place"] (spOrb C) := by
  refine F.ok scOrb (fun vs H Q E h => ?_) (fun cdv A outer sh H vs Q E hr h => ⟨_, (pss_one (ps_ret (pe_callB (cr_sortedSet rfl) (by rfl) B.sorted (by decide +kernel) (pa_cons (pe_callTy (cr_setI rfl) (by rfl) B.set (by decide +kernel) (pa_cons
    (pe_lc (own := [("exchange", 2)]) (g := gName 2) (by rfl) scOrb.nd (pi_list (pe_fld (pv 0) rfl)) (blkOk_by (own := [("exchange", 2)]) (N := ["lot", "place", "exchange"]) (sc := defScope sOrb) (by decide +kernel))
      (fun _ _ _ _ _ => pg_name (i := 2) scOrb.nd rfl (Or.inl rfl)) (fun _ _ _ _ _ => pts_nil) (fun _ _ _ _ _ => pe_ix (r := rIxT K) ix_tup (pv 2) (pv 1) (fun _ _ => rfl))) pa_nil)) pa_nil)))), ?_⟩)
  · obtain ⟨a, i, s, k, rfl, _⟩ := h
    rfl
  obtain ⟨a, i, s, k, rfl, lt, hi, q⟩ := h
  obtain ⟨dx, tA, gA, LT, LG, ha, li⟩ := id lt
  have eg : (Wp03.theGroup s).length = LG.length := by rw [← li.isG]; simp
  have few := li.few
  have n2 := li.n2
  have hP : ∀ q ∈ LG, PermN s.n q.2 := fun q hq => li.grp.perm (li.isG ▸ List.mem_map.mpr ⟨q, hq, rfl⟩)
  refine ⟨_, rfl, a, C, dx, _, _, rfl, ha, T.cl, T.nG, lF_group _ _ _, gA, rfl, ⟨_, SqL.of li.group⟩, fun D nD => lc_list (K := K) (a := gA) (xs := refs LG) (fun j H' => Same H H' ∧ H' D = some (.lst (tV ((LG.take j).map fun q => ap q.2 i))))
    ⟨same_upd nD, upd_same⟩ (fun j H' _ h => SqL.of (h.1 _ _ li.group)) ?_ ?_⟩
  · rintro j x H' hj ⟨s1, hD⟩
    obtain ⟨q, hq, rfl⟩ := refs_get hj
    have hqm := List.mem_of_getElem? hq
    refine ⟨rfl, ⟨_, rfl, _, rfl, q.1, tV q.2, _, _, rfl, rfl, SqT.of (s1 _ _ (li.tG q hqm)), tV_at (by rw [(hP q hqm).len]; exact hi), _, hD, ?_, same_upd2 s1 nD, ?_⟩⟩
    · rw [tV_len, List.length_map, List.length_take, sizeLine_eq]; omega
    · rw [upd_same, take_snoc hq, List.map_append, tV_app]; rfl
  · rintro H' ⟨s1, hD⟩
    rw [refs_len, List.take_length, tV_ints] at hD
    refine ⟨D, _, rfl, SqL.of hD, by rw [List.length_map, List.length_map]; omega, fun p ks nd hk np => ?_⟩
    have mem : ∀ k : Int, k ∈ (LG.map fun q => ap q.2 i).map Int.ofNat ↔ k ∈ (WpBase.orbit (Wp03.theGroup s) i).map Int.ofNat := fun k => by
      rw [List.mem_map, List.mem_map]
      constructor
      · rintro ⟨x, hx, rfl⟩
        obtain ⟨q, hq, rfl⟩ := List.mem_map.mp hx
        exact ⟨_, (orbit_mem li.grp hi).mpr ⟨q.2, li.isG ▸ List.mem_map.mpr ⟨q, hq, rfl⟩, rfl⟩, rfl⟩
      · rintro ⟨x, hx, rfl⟩
        obtain ⟨p, hp, rfl⟩ := (orbit_mem li.grp hi).mp hx
        rw [← li.isG] at hp
        obtain ⟨q, hq, rfl⟩ := List.mem_map.mp hp
        exact ⟨_, List.mem_map.mpr ⟨q, hq, rfl⟩, rfl⟩
    have kl : ks.length ≤ 10 := by
      have := nodup_sub_len ks ((List.range s.n).map Int.ofNat) nd fun x hx => by
        obtain ⟨y, hy, rfl⟩ := List.mem_map.mp ((mem x).mp ((hk x).mp hx))
        exact List.mem_map.mpr ⟨y, List.mem_range.mpr (orbit_lt li.grp hy), rfl⟩
      rw [List.length_map, List.length_range] at this
      omega
    refine ⟨p, _, _, rfl, upd_same, by omega, fun ns r up hm _ nr => ?_⟩
    have s2 := same_upd2 (o := SetO w p (fun j => decide (j ∈ (LG.map fun q => ap q.2 i).map Int.ofNat)) ks.length) s1 (s1.free np)
    refine q _ r (same_upd2 s2 (s2.free nr)) (s2.free nr) ?_
    rw [upd_same, tV_ints]
    congr 2
    congr 1
    refine ints_same up ?_ fun k => ?_
    · rw [List.pairwise_map]
      exact (orbit_up _ _).imp fun {x y} h => Int.ofNat_lt.mpr h
    · rw [hm, decide_eq_true_eq, mem]
/-! ### answer_orbits -/
abbrev sOrbs : Stmt := top 30
def spOrbs (C : Addr) : Sp := fun vs H Q _ => ∃ (a : Addr) (s : Wp03.State) (k : Nat), vs = [.ref a] ∧ LotAt C H a s k ∧ Told C H Q a s k .orbits
def flatO (L : List (Addr × List Nat)) : List V := L.flatMap fun q => V.int q.2.length :: tV q.2
theorem flatO_take {L : List (Addr × List Nat)} {i : Nat} {q : Addr × List Nat} (h : L[i]? = some q) : flatO (L.take (i + 1)) = flatO (L.take i) ++ [V.int q.2.length] ++ tV q.2 := by
  unfold flatO; rw [take_snoc h, List.flatMap_append]; simp
theorem flatO_len {L : List (Addr × List Nat)} {n : Nat} (h : ∀ q ∈ L, q.2.length ≤ n) : (flatO L).length ≤ L.length * (n + 1) := by
  unfold flatO
  induction L with
  | nil => simp
  | cons q L ih =>
    have h1 := ih fun z hz => h z (List.mem_cons_of_mem _ hz)
    have h2 := h q (by simp)
    rw [List.flatMap_cons, List.length_append, List.length_cons, tV_len, List.length_cons, Nat.succ_mul]
    omega
theorem orb_head {s : Wp03.State} {g : List WpBase.Perm} (h : IsGroup s.n s.gens g) {i : Nat} (hi : i < s.n) : ∃ x l, WpBase.orbit g i = x :: l ∧ (x = i ↔ orbLeast g i = true) := by
  have hs := orbit_self h hi
  have hu := orbit_up g i
  unfold orbLeast
  cases e : WpBase.orbit g i with
  | nil => rw [e] at hs; cases hs
  | cons x l =>
    rw [e] at hu hs
    have hu' := List.pairwise_cons.mp hu
    refine ⟨x, l, rfl, ?_⟩
    rw [List.all_eq_true]
    constructor
    · rintro rfl j hj
      rcases List.mem_cons.mp hj with rfl | hj
      · exact decide_eq_true (Nat.le_refl _)
      · exact decide_eq_true (Nat.le_of_lt (hu'.1 j hj))
    · intro q
      have a := of_decide_eq_true (q x (by simp))
      rcases List.mem_cons.mp hs with e | hs
      · exact e.symm
      · have := hu'.1 i hs; omega
theorem scOrbs : FnScope ["lot", "orbits", "place", "orbit", "answer"] ["lot"] (defScope sOrbs) := ⟨rfl, rfl, rfl, by decide +kernel, rfl, by decide +kernel, by decide +kernel⟩
theorem ok_orbs {f : Addr} {fd : FuncData} (F : Fun K "answer_orbits" "answer_orbits" sOrbs f fd) (T : Tx K mg C) (B : Bi mg) (DO : Df P w K mg base "orbit_of" 1 ["lot", "place"] (spOrb C)) : FnOk P w K mg base CX0 2 f fd ["lot"] (spOrbs C) := by
  obtain ⟨fO, fdO, okO, mO, kO, bO⟩ := DO
  refine F.ok scOrbs (fun vs H Q E h => ?_) (fun cdv A outer sh H vs Q E hr h => ⟨_, (pss_cons (ps_set (i := 1) scOrbs.nd rfl (Or.inl rfl) (pe_lst pa_nil))
    (pss_cons (ps_for PassesOwn.never rfl (pi_range1 (by rfl) B.range (pa_cons (pe_fld (pv 0) rfl) pa_nil)) (pg_name (i := 2) scOrbs.nd rfl (Or.inl rfl)) (pss_cons (ps_set (i := 3) scOrbs.nd rfl (Or.inl rfl) (pe_call okO hr (by rfl) mO kO bO .nil pass0 (pa_cons (pv 0) (pa_cons (pv 2) pa_nil))))
    (pss_one (ps_if (pt_cmpR op_eq (pe_ix ix_list (pv 3) pe_int (fun _ _ => rfl)) (pv 2) (nomark _)) (pss_one (ps_expr (pe_bm PySem.F.plainAttrs_list PySem.F.slot_list_append PySem.F.type_list_append mt_append (pv 1) (pa_cons (pv 3) pa_nil)))) pss_nil))))
    (pss_cons (ps_set (i := 4) scOrbs.nd rfl (Or.inl rfl) (pe_lst (pa_cons (pe_callB call_len_seq (by rfl) B.len (by decide +kernel) (pa_cons (pv 1) pa_nil)) pa_nil)))
    (pss_cons (ps_for PassesOwn.never rfl (pi_list (pv 1)) (pg_name (i := 3) scOrbs.nd rfl (Or.inl rfl)) (pss_cons (ps_expr (pe_bm PySem.F.plainAttrs_list PySem.F.slot_list_append PySem.F.type_list_append mt_append (pv 4) (pa_cons (pe_callB call_len_seq (by rfl) B.len (by decide +kernel) (pa_cons (pv 3) pa_nil)) pa_nil)))
    (pss_one (ps_expr (pe_bm PySem.F.plainAttrs_list PySem.F.slot_list_extend PySem.F.type_list_extend mt_extend (pv 4) (pa_cons (pv 3) pa_nil))))))
    (pss_one (ps_ret (pv 4))))))), ?_⟩)
  · obtain ⟨a, s, k, rfl, _⟩ := h
    rfl
  obtain ⟨a, s, k, rfl, lt, t⟩ := h
  obtain ⟨dx, tA, gA, LT, LG, ha, li⟩ := id lt
  have n2 := li.n2
  refine ⟨Nat.zero_le _, fun O nO => ⟨_, rfl, a, C, dx, _, _, rfl, same_upd nO _ _ ha, T.cl, T.nS, lF_size _ _ _, _, rfl, by omega, by omega, ?_⟩⟩
  rw [Int.toNat_natCast]
  refine for_range (lo := 0) (n := s.n) (fun i σ H' => ∃ (v2 v3 v4 : Option V) (L : List (Addr × List Nat)), σ = [some (.ref a), some (.ref O), v2, v3, v4] ∧ Same H H' ∧ H' O = some (.lst (refs L)) ∧ (∀ q ∈ L, H' q.1 = some (.lst (tV q.2)) ∧ H q.1 = none ∧ q.1 ≠ O) ∧ L.map (·.2) = ((List.range i).filter (orbLeast (Wp03.theGroup s))).map (WpBase.orbit (Wp03.theGroup s)) ∧ L.length ≤ i)
    ⟨none, none, none, [], rfl, same_upd nO, upd_same, fun q hq => (by cases hq), rfl, Nat.le_refl _⟩ ?_ ?_
  · rintro i σ H' hi ⟨v2, v3, v4, L, rfl, s1, hO1, hL1, eL, ll⟩
    rw [Int.zero_add]
    refine ⟨_, rfl, _, rfl, a, i, s, k, rfl, lt.same s1 (Nat.le_refl _), hi, fun H2 r s2 nr hr2 => ?_⟩
    obtain ⟨x, l, ex, hx⟩ := orb_head li.grp hi
    refine ⟨_, rfl, r, _, _, nV x, rfl, rfl, SqL.of hr2, ?_, _, rfl, rfl, _, rfl, ?_⟩
    · rw [ex]; exact atI_nat (j := 0) rfl
    have rr : H r = none := s1.free nr
    have hO2 := s2 _ _ hO1
    have rO : r ≠ O := fun z => by rw [z, hO1] at nr; cases nr
    have d : decide (nV x = V.int (i : Int)) = orbLeast (Wp03.theGroup s) i := by
      rw [Bool.eq_iff_iff, decide_eq_true_eq, ← hx]
      constructor
      · intro z
        have : (x : Int) = i := V.int.inj z
        omega
      · rintro rfl; rfl
    rw [d]
    have es : ((List.range (i + 1)).filter (orbLeast (Wp03.theGroup s))).map (WpBase.orbit (Wp03.theGroup s)) = ((List.range i).filter (orbLeast (Wp03.theGroup s))).map (WpBase.orbit (Wp03.theGroup s)) ++ (if orbLeast (Wp03.theGroup s) i = true then [WpBase.orbit (Wp03.theGroup s) i] else []) := by
      rw [List.range_succ, List.filter_append, List.map_append]
      congr 1
      cases z : orbLeast (Wp03.theGroup s) i <;> simp [z]
    cases c : orbLeast (Wp03.theGroup s) i with
    | true =>
      refine if_true_of rfl ?_
      refine ⟨_, rfl, Or.inl ⟨rfl, _, SqL.of hO2⟩, _, rfl, O, _, _, rfl, rfl, hO2, by rw [refs_len, sizeLine_eq]; omega, ?_⟩
      refine ⟨_, _, _, L ++ [(r, WpBase.orbit (Wp03.theGroup s) i)], rfl, same_upd2 (s1.trans s2) nO, ?_, ?_, ?_, ?_⟩
      · rw [upd_same]; unfold refs; rw [List.map_append]; rfl
      · intro q hq
        rcases List.mem_append.mp hq with hq | hq
        · obtain ⟨h1, h2, h3⟩ := hL1 q hq
          exact ⟨by rw [upd_ne h3]; exact s2 _ _ h1, h2, h3⟩
        · rw [List.mem_singleton] at hq
          subst hq
          exact ⟨by rw [upd_ne rO]; exact hr2, rr, rO⟩
      · rw [es, if_pos c, List.map_append, eL]; rfl
      · rw [List.length_append]; simp; omega
    | false =>
      refine if_false_of rfl ?_
      refine ⟨_, _, _, L, rfl, s1.trans s2, hO2, fun q hq => ?_, ?_, by omega⟩
      · obtain ⟨h1, h2, h3⟩ := hL1 q hq
        exact ⟨s2 _ _ h1, h2, h3⟩
      · rw [es, if_neg (by rw [c]; exact Bool.false_ne_true), List.append_nil]; exact eL
  · rintro σ H' ⟨v2, v3, v4, L, rfl, s1, hO1, hL1, eL, ll⟩
    rw [← orbits_eq li.grp] at eL
    have hq2 : ∀ q ∈ L, q.2.length ≤ 10 := fun q hq => by
      have : q.2 ∈ WpBase.orbits s.n (Wp03.theGroup s) := eL ▸ List.mem_map.mpr ⟨q, hq, rfl⟩
      rw [orbits_eq li.grp] at this
      obtain ⟨i, hi, e⟩ := List.mem_map.mp this
      rw [← e]
      have nd : (WpBase.orbit (Wp03.theGroup s) i).Nodup := (orbit_up _ _).imp fun {x y} h e => by omega
      have := nodup_sub_len _ (List.range s.n) nd fun x hx => List.mem_range.mpr (orbit_lt li.grp hx)
      rw [List.length_range] at this
      omega
    refine ⟨_, rfl, O, _, rfl, .inl (SqL.of hO1), (by show 1 ≤ sizeLine; decide), fun r nr => ?_⟩
    rw [refs_len]
    have rO : O ≠ r := fun z => by rw [← z, hO1] at nr; cases nr
    have nr0 := s1.free nr
    refine ⟨_, rfl, O, rfl, ⟨_, SqL.of (by rw [upd_ne rO]; exact hO1)⟩, for_list (K := K) (a := O) (xs := refs L) (fun i σ H2 => ∃ (v2 v3 : Option V), σ = [some (.ref a), some (.ref O), v2, v3, some (.ref r)] ∧ Same H H2 ∧ H2 O = some (.lst (refs L)) ∧ (∀ q ∈ L, H2 q.1 = some (.lst (tV q.2)) ∧ q.1 ≠ r) ∧ H2 r = some (.lst (V.int L.length :: flatO (L.take i))))
      ⟨_, _, rfl, same_upd2 s1 nr0, by rw [upd_ne rO]; exact hO1, fun q hq => ?_, by rw [upd_same]; rfl⟩ (fun i σ H2 _ ⟨_, _, _, _, h, _⟩ => SqL.of h) ?_ ?_⟩
    · have h1 := (hL1 q hq).1
      have : q.1 ≠ r := fun z => by rw [z, nr] at h1; cases h1
      exact ⟨by rw [upd_ne this]; exact h1, this⟩
    · rintro i x σ H2 hi ⟨v2, v3, rfl, s2, hO2, hL2, hr2⟩
      obtain ⟨q, hq, rfl⟩ := refs_get hi
      have hqm := List.mem_of_getElem? hq
      obtain ⟨h1, h2⟩ := hL2 q hqm
      have b1 : (flatO (L.take i)).length ≤ (L.take i).length * 11 := flatO_len fun z hz => hq2 z (List.mem_of_mem_take hz)
      have b2 : (L.take i).length ≤ 10 := by rw [List.length_take]; omega
      have b3 := hq2 q hqm
      refine ⟨_, rfl, Or.inl ⟨rfl, _, SqL.of hr2⟩, _, rfl, q.1, _, rfl, .inl (SqL.of h1), r, _, _, rfl, rfl, hr2, by rw [List.length_cons, sizeLine_eq]; omega, ?_⟩
      refine ⟨_, rfl, Or.inl ⟨rfl, _, SqL.of upd_same⟩, _, rfl, r, q.1, _, _, rfl, rfl, upd_same, by rw [upd_ne h2]; exact h1, ?_, ?_⟩
      · rw [List.length_append, List.length_cons, tV_len, List.length_singleton, sizeLine_eq]; omega
      rw [upd_upd]
      refine ⟨_, _, rfl, same_upd2 s2 nr0, by rw [upd_ne rO]; exact hO2, fun z hz => ?_, ?_⟩
      · obtain ⟨h3, h4⟩ := hL2 z hz
        exact ⟨by rw [upd_ne h4]; exact h3, h4⟩
      · rw [upd_same, flatO_take hq, tV_len]; simp
    · rintro σ H2 ⟨v2, v3, rfl, s2, hO2, hL2, hr2⟩
      rw [refs_len, List.take_length] at hr2
      have st : Wp03.step s .orbits = (s, Wp03.nat (WpBase.orbits s.n (Wp03.theGroup s)).length :: (WpBase.orbits s.n (Wp03.theGroup s)).flatMap fun l => Wp03.nat l.length :: l.map Wp03.nat) := rfl
      refine ⟨_, rfl, t.stays lt st s2 nr0 ?_⟩
      rw [hr2, ← eL, List.map_cons, List.length_map]
      congr 2
      congr 1
      unfold flatO
      rw [List.flatMap_map, List.map_flatMap]
      congr 1
      funext q
      rw [List.map_cons, List.map_map]; rfl
end
end Cc
set_option Elab.async false
set_option maxRecDepth 100000
set_option maxHeartbeats 2000000
set_option pp.maxSteps 200
/-! xs.count(t), min(xs), xs a list of tuples; t < u -/
namespace Cc
open PySem PySem.Spec PyProof.Rows L2
theorem lex_before : ∀ (a b : List Nat), a.length = b.length → HT.lexLt (a.map Int.ofNat) (b.map Int.ofNat) = WpBase.before a b
  | [], [], _ => rfl
  | [], _ :: _, h => by simp at h
  | _ :: _, [], h => by simp at h
  | x :: a, y :: b, h => by
    rw [List.map_cons, List.map_cons, HT.lexLt_cons, lex_before a b (by simpa using h)]
    show _ = (decide (x < y) || (x == y && WpBase.before a b))
    by_cases e : x = y
    · subst e; simp
    · have e' : ¬ Int.ofNat x = Int.ofNat y := fun z => e (Int.ofNat.inj z)
      rw [if_neg e', beq_false_of_ne e, Bool.false_and, Bool.or_false]
      exact decide_eq_decide.mpr Int.ofNat_lt
theorem argBest_no {bt : Nat → Nat → Bool} (ir : ∀ i, bt i i = false) (tr : ∀ i j k, bt i j = true → bt j k = true → bt i k = true) : ∀ k, argBest bt k ≤ k ∧ ∀ j, j ≤ k → bt j (argBest bt k) = false
  | 0 => ⟨Nat.le_refl _, fun j hj => by
    have z : j = 0 := by omega
    rw [z]; exact ir 0⟩
  | k + 1 => by
    obtain ⟨h1, h2⟩ := argBest_no ir tr k
    show (if bt (k + 1) (argBest bt k) = true then k + 1 else argBest bt k) ≤ k + 1 ∧ ∀ j, j ≤ k + 1 → bt j (if bt (k + 1) (argBest bt k) = true then k + 1 else argBest bt k) = false
    by_cases c : bt (k + 1) (argBest bt k) = true
    · rw [if_pos c]
      refine ⟨Nat.le_refl _, fun j hj => ?_⟩
      by_cases z : j = k + 1
      · rw [z]; exact ir _
      · apply Bool.eq_false_iff.mpr
        intro y
        have := tr _ _ _ y c
        rw [h2 j (by omega)] at this; cases this
    · rw [if_neg c]
      refine ⟨by omega, fun j hj => ?_⟩
      by_cases z : j = k + 1
      · rw [z]; exact Bool.eq_false_iff.mpr c
      · exact h2 j (by omega)
section
variable {X : Cx}
def rCntT (K : PySem.W.Frag) : V → List V → Hp → VK → Prop := fun x xs H Q => ∃ (p b : Addr) (L : List (Addr × List Nat)) (c : List Nat), x = .ref p ∧ xs = [.ref b] ∧ SqL K H p (refs L) ∧ Tups K H L ∧ SqT K H b (tV c) ∧ Q (.int ((L.map (·.2)).count c : Nat)) H
theorem mt_cntT (hu : X.A.units + 65 < cLine) : MtR X "list.count" (rCntT X.K) := by
  intro pins s σ H x xs v us Q I rx rxs h
  obtain ⟨p, b, L, c, rfl, rfl, hs, ht, hb, q⟩ := h
  cases rx
  obtain ⟨u, rfl, ru⟩ := rxs.one
  cases ru
  obtain ⟨its, rv, ⟨⟨cls, dd, data, sl⟩, n, ho, hc, hdn, hd⟩, hlen⟩ := I.list hs
  simp only at hc hd
  subst hc hd
  have lay := tDs_lay (fun q : Addr × List Nat => q.2) L
  obtain ⟨as, h4⟩ := Dp.readsAll I (L.map fun q => tD q.2) _ its (dp_tups ht) rv
  obtain ⟨bs, r1⟩ := Dp.reads I (tD c) (V.ref b) (Value.ref b) (dp_tup hb) rfl
  have em : its.map (SeqAt.readOf s.heap) = L.map fun q => tD q.2 := SeqAt.readsAll_map _ its as lay.1 h4
  refine call_meets PySem.F.slot_list_count ⟨_, ho, rfl⟩ PySem.F.entry_list_count (PySem.F.args_list_count_2 _ _) (SeqAt.list_countAt p its.toArray n dd sl (.ref b) fun y => PyData.eqv (SeqAt.readOf s.heap y) (tD c))
    ⟨ho, SeqAt.items_eqAt (vs := its.toArray) (show ReadsAll s.heap its.toArray.toList _ as from h4) r1 lay.1 (tD_lay c).1 (room_in_shaped (tD_shaped c) hu), ?_⟩
  have ec : its.toArray.toList.countP (fun y => PyData.eqv (SeqAt.readOf s.heap y) (tD c)) = (L.map (·.2)).count c := by
    have e1 : its.countP (fun y => PyData.eqv (SeqAt.readOf s.heap y) (tD c)) = (its.map (SeqAt.readOf s.heap)).countP fun z => PyData.eqv z (tD c) := by
      rw [List.countP_map]; rfl
    show its.countP _ = _
    rw [e1, em, List.countP_map]
    unfold List.count
    rw [List.countP_map]
    congr 1
    funext q
    show PyData.eqv (tD q.2) (tD c) = (q.2 == c)
    rw [tD_eqv]
    by_cases z : q.2 = c
    · rw [decide_eq_true z]; simp [z]
    · rw [decide_eq_false z]; simp [z]
  refine ⟨.int ((L.map (·.2)).count c : Nat), H, I.tok _, ⟨s.toks, ?_⟩, q⟩
  show Value.int _ s.toks = Value.int _ s.toks
  rw [ec]
def rMinT (K : PySem.W.Frag) : List V → Hp → VK → Prop := fun vs H Q => ∃ (a : Addr) (L : List (Addr × List Nat)) (n : Nat), vs = [V.ref a] ∧ SqL K H a (refs L) ∧ Tups K H L ∧ (∀ q ∈ L, q.2.length = n) ∧ L ≠ [] ∧
  ∀ q ∈ L, (∀ y ∈ L, WpBase.before y.2 q.2 = false) → Q (.ref q.1) H
theorem cr_minT (hc : X.calm = true) (hu : X.A.units + 65 < cLine) : CallR X (.builtin "min") (rMinT X.K) := by
  intro pins s σ H vs us Q I r h
  obtain ⟨a, L, n, rfl, hs, ht, hl, hne, q⟩ := h
  obtain ⟨its, rv, pl, hz⟩ := I.list hs
  rw [Vals.ref1 r]
  have ei := refs_vals rv
  subst ei
  have lp : 0 < L.length := List.length_pos_iff.mpr hne
  have at_ : ∀ {i : Nat} {v : Value}, (L.map fun q => Value.ref q.1).toArray[i]? = some v → ∃ q, L[i]? = some q ∧ v = Value.ref q.1 := fun {i v} e => by
    rw [← Array.getElem?_toList] at e
    have e : (L.map fun q => Value.ref q.1)[i]? = some v := e
    rw [List.getElem?_map] at e
    obtain ⟨q, h1, h2⟩ := Option.map_eq_some_iff.mp e
    exact ⟨q, h1, h2.symm⟩
  have gd : ∀ {i : Nat} {q : Addr × List Nat}, L[i]? = some q → L.getD i (0, []) = q := fun {i q} e => by rw [List.getD_eq_getElem?_getD, e]; rfl
  refine call_min_walkH (PySem.W.iter_listW (A := X.A.in1) (by simpa using I.ok.hd hc) pl.isList fun s₂ e W st hfp hw hk => ?_)
  refine ⟨_, _, _, _, _, _, _, s.heap, fun i j => WpBase.before (L.getD i (0, [])).2 (L.getD j (0, [])).2, rfl, W, st, hfp, by simpa using lp, hw, hk, ?_, fun v s' hP m => ?_⟩
  · intro i j vi vj s3 Q3 E3 k3 hi hj hq
    obtain ⟨qi, ei, rfl⟩ := at_ hi
    obtain ⟨qj, ej, rfl⟩ := at_ hj
    have mi := List.mem_of_getElem? ei
    have mj := List.mem_of_getElem? ej
    have ti := ht qi mi
    have tj := ht qj mj
    rw [tV_ints] at ti tj
    obtain ⟨_, xs, e1, ⟨o1, g1, g2⟩, i1⟩ := tupI_raw I ti
    obtain ⟨_, ys, e2, ⟨o2, g3, g4⟩, i2⟩ := tupI_raw I tj
    cases e1
    cases e2
    have hq' : Q3 (.bool (HT.lexLt (qi.2.map Int.ofNat) (qj.2.map Int.ofNat))) s3 := by
      rw [lex_before _ _ ((hl qi mi).trans (hl qj mj).symm)]
      have hq : Q3 (.bool (WpBase.before (L.getD i (0, [])).2 (L.getD j (0, [])).2)) s3 := hq
      rw [gd ei, gd ej] at hq
      exact hq
    exact HT.lt_tupInts ⟨o1, k3 _ _ g1, g2⟩ ⟨o2, k3 _ _ g3, g4⟩ i1 i2 (by show X.A.units + 1 < cLine; omega) hq'
  · obtain ⟨h', tk, rfl, hk'⟩ := PySem.W.moved_old e rfl m
    obtain ⟨y, ey, rfl⟩ := at_ hP
    obtain ⟨b1, b2⟩ := argBest_no (bt := fun i j => WpBase.before (L.getD i (0, [])).2 (L.getD j (0, [])).2) (fun i => before_irrefl _) (fun i j k h1 h2 => before_trans h1 h2) ((L.map fun q => Value.ref q.1).toArray.size - 1)
    refine ⟨.ref y.1, H, I.kept (t' := tk) hk', rfl, q y (List.mem_of_getElem? ey) fun z hz => ?_⟩
    obtain ⟨j, hj, ez⟩ := List.mem_iff_getElem.mp hz
    have := b2 j (by simp; omega)
    have e3 : L.getD j (0, []) = z := gd (by rw [List.getElem?_eq_getElem hj, ez])
    rw [e3, gd ey] at this
    exact this
end
end Cc
set_option Elab.async false
set_option maxRecDepth 100000
set_option maxHeartbeats 2000000
set_option pp.maxSteps 200
namespace Cc
open PySem PySem.Spec PyProof.Rows L2
/-! sum of a tuple of whole numbers -/
def rSumT (K : PySem.W.Frag) : List V → Hp → VK → Prop := fun vs H Q => ∃ (a : Addr) (ns : List Int), vs = [V.ref a] ∧ SqT K H a (ns.map V.int) ∧ Q (.int ns.sum) H
theorem cr_sumT {X : Cx} (hc : X.calm = true) : CallR X (.builtin "sum") (rSumT X.K) := by
  intro pins s σ H vs us Q I r h
  obtain ⟨a, ns, rfl, hs, q⟩ := h
  obtain ⟨its, rv, hl, _⟩ := I.tuple hs
  rw [Vals.ref1 r]
  have hi := rv.ints
  obtain ⟨xs, hx⟩ := hi.allInts.items
  have hn : numsOf (intItems xs).toList = ns := by rw [← hx]; exact hi.numsOf
  rw [nums_intItems] at hn
  rw [hx] at hl
  refine PySem.W.ktm_sumG (I.ok.hd hc) hl fun h' tk t' hk => ?_
  refine ⟨.int ns.sum, H, I.kept hk, ⟨t', ?_⟩, q⟩
  rw [preSum_eq, List.take_of_length_le (by simp), hn]
/-! ### answer_count -/
theorem rings_len {n : Nat} {p : WpBase.Perm} (h : PermN n p) : (WpBase.rings p).length ≤ n := by
  rw [rings_eq h, List.length_map]
  have := List.length_filter_le (leastB p) (List.range n)
  rwa [List.length_range] at this
theorem sum_ofNat : ∀ (l : List Nat), (l.map Int.ofNat).sum = (l.sum : Int)
  | [] => rfl
  | x :: l => by rw [List.map_cons, List.sum_cons, List.sum_cons, sum_ofNat l]; show (x : Int) + _ = _; omega
/-! a dict that holds numbers -/
theorem val_find (D : List (List Nat × V)) (p : List Nat) : valV (dPs D) (tK p) = (D.find? fun e => decide (e.1 = p)).map (·.2) := by
  unfold valV dPs
  rw [List.find?_map, Option.map_map]
  have : ((fun kv : List Key × V => decide (kv.1 = tK p)) ∘ fun e : List Nat × V => (tK e.1, e.2)) = fun e => decide (e.1 = p) := by
    funext e
    show decide (tK e.1 = tK p) = decide (e.1 = p)
    rw [Bool.eq_iff_iff, decide_eq_true_eq, decide_eq_true_eq]
    exact ⟨tK_inj, fun h => by rw [h]⟩
  rw [this]; rfl
theorem put_old {D : List (List Nat × V)} {p : List Nat} {v : V} (h : ∃ e ∈ D, e.1 = p) : putK (dPs D) (tK p) v = dPs (D.map fun e => if e.1 = p then (e.1, v) else e) := by
  unfold putK
  rw [if_pos]
  · unfold dPs
    rw [List.map_map, List.map_map]
    refine List.map_congr_left fun e _ => ?_
    show (if tK e.1 = tK p then (tK e.1, v) else (tK e.1, e.2)) = (tK (if e.1 = p then (e.1, v) else e).1, (if e.1 = p then (e.1, v) else e).2)
    by_cases c : e.1 = p
    · rw [if_pos c, if_pos (by rw [c])]
    · rw [if_neg c, if_neg (fun z => c (tK_inj z))]
  · obtain ⟨e, he, rfl⟩ := h
    exact List.any_eq_true.mpr ⟨_, List.mem_map.mpr ⟨e, he, rfl⟩, by simp⟩
def natD (D : Tab) : List (List Nat × V) := D.map fun e => (e.1, V.int e.2)
theorem natD_len (D : Tab) : (dPs (natD D)).length = D.length := by unfold dPs natD; rw [List.length_map, List.length_map]
theorem natD_find (D : Tab) (p : List Nat) : valV (dPs (natD D)) (tK p) = (D.find? fun e => decide (e.1 = p)).map fun e => V.int e.2 := by
  rw [val_find]
  unfold natD
  rw [List.find?_map, Option.map_map]; rfl
theorem natD_get (D : Tab) (p : List Nat) : (valV (dPs (natD D)) (tK p)).getD (V.int 0) = V.int (getN D p) := by
  rw [natD_find]
  unfold getN
  cases D.find? fun e => decide (e.1 = p) with
  | none => rfl
  | some e => rfl
theorem natD_there {D : Tab} {p : List Nat} (h : p ∈ keysN D) : valV (dPs (natD D)) (tK p) = some (V.int (getN D p)) := by
  rw [natD_find]
  unfold getN
  cases e : D.find? fun e => decide (e.1 = p) with
  | none =>
    obtain ⟨x, hx, ex⟩ := List.mem_map.mp h
    exact absurd (decide_eq_true ex) (List.find?_eq_none.mp e x hx)
  | some e => rfl
theorem natD_at {D : Tab} (nd : (keysN D).Nodup) {e : List Nat × Nat} (he : e ∈ D) : valV (dPs (natD D)) (tK e.1) = some (V.int e.2) := by
  rw [natD_there (List.mem_map.mpr ⟨e, he, rfl⟩), getN_at nd he]
theorem natD_put (D : Tab) (p : List Nat) (v : Nat) : putK (dPs (natD D)) (tK p) (V.int v) = dPs (natD (putN D p v)) := by
  unfold putN
  by_cases c : p ∈ keysN D
  · rw [if_pos c, put_old (by
      obtain ⟨x, hx, ex⟩ := List.mem_map.mp c
      exact ⟨(x.1, V.int x.2), List.mem_map.mpr ⟨x, hx, rfl⟩, ex⟩)]
    congr 1
    unfold natD
    rw [List.map_map, List.map_map]
    refine List.map_congr_left fun e _ => ?_
    show (if e.1 = p then (e.1, V.int v) else (e.1, V.int e.2)) = ((if e.1 = p then (e.1, v) else e).1, V.int ((if e.1 = p then (e.1, v) else e).2 : Nat))
    by_cases z : e.1 = p
    · rw [if_pos z, if_pos z]
    · rw [if_neg z, if_neg z]
  · rw [if_neg c, put_new (fun e he z => by
      obtain ⟨x, hx, rfl⟩ := List.mem_map.mp he
      exact c (List.mem_map.mpr ⟨x, hx, z⟩))]
    congr 1
    unfold natD
    rw [List.map_append]; rfl
theorem natD_row {D : Tab} {i : Nat} {k : List Key} {v : V} (h : (dPs (natD D))[i]? = some (k, v)) : ∃ e, D[i]? = some e ∧ k = tK e.1 ∧ v = V.int e.2 := by
  unfold dPs natD at h
  rw [List.getElem?_map, List.getElem?_map] at h
  cases z : D[i]? with
  | none => rw [z] at h; cases h
  | some e =>
    rw [z] at h
    obtain ⟨h1, h2⟩ := Prod.mk.inj (Option.some.inj h)
    exact ⟨e, rfl, h1.symm, h2.symm⟩
/-! ### kinds_of -/
abbrev sKof : Stmt := top 16
def kk (n : Nat) (L : List (Addr × List Nat)) : List (List Nat) := L.map fun q => Wp03.lengths n q.2
def spKof (K : PySem.W.Frag) : Sp := fun vs H Q _ => ∃ (a : Addr) (L : List (Addr × List Nat)) (n : Nat), vs = [.ref a] ∧ SqL K H a (refs L) ∧ Tups K H L ∧ (∀ q ∈ L, PermN n q.2) ∧ n ≤ 1000 ∧ L.length ≤ 4000 ∧
  ∀ (H' : Hp) (d : Addr) (D : Tab), Same H H' → H d = none → H' d = some (.dT (dPs (natD D))) → Cnt (kk n L) D → Q (.ref d) H'
section
variable {P : Program} {w : World} {K : PySem.W.Frag} {mg : Str → Option Value} {base : Heap} {C : Addr}
theorem scKof : FnScope ["group", "exchanges", "exchange", "kind"] ["group"] (defScope sKof) := ⟨rfl, rfl, rfl, by decide +kernel, rfl, by decide +kernel, by decide +kernel⟩
theorem ok_kof {f : Addr} {fd : FuncData} (F : Fun K "kinds_of" "kinds_of" sKof f fd) (DR : Df P w K mg base "ring_numbers" 1 ["exchange"] (spRings K)) : FnOk P w K mg base CX0 2 f fd ["group"] (spKof K) := by
  obtain ⟨fR, fdR, okR, mR, kR, bR⟩ := DR
  refine F.ok scKof (fun vs H Q E h => ?_) (fun cdv A outer sh H vs Q E hr h => ⟨_, (pss_cons (ps_set (i := 1) scKof.nd rfl (Or.inl rfl) pe_dnewT)
    (pss_cons (ps_for PassesOwn.never rfl (pi_list (pv 0)) (pg_name (i := 2) scKof.nd rfl (Or.inl rfl)) (pss_cons (ps_set (i := 3) scKof.nd rfl (Or.inl rfl) (pe_call okR hr (by rfl) mR kR bR .nil pass0 (pa_cons (pv 2) pa_nil)))
    (pss_one (ps_dput (hu_of hr) (pv 1) (pv 3) (pe_op op_add (pe_dget2 (hu_of hr) (pv 1) (pv 3) pe_int ⟨rfl, rfl, rfl, rfl⟩) pe_int) rfl))))
    (pss_one (ps_ret (pv 1))))), ?_⟩)
  · obtain ⟨a, L, n, rfl, _⟩ := h
    rfl
  obtain ⟨a, L, n, rfl, hS, hT, hP, hn, hL, q⟩ := h
  intro d nd
  refine ⟨_, rfl, a, rfl, ⟨_, (same_upd nd).seq hS⟩, for_list (K := K) (a := a) (xs := refs L) (fun i σ H' => ∃ (v2 v3 : Option V) (D : Tab), σ = [some (.ref a), some (.ref d), v2, v3] ∧ Same H H' ∧ H' d = some (.dT (dPs (natD D))) ∧ Cnt (kk n (L.take i)) D)
    ⟨none, none, [], rfl, same_upd nd, upd_same, Cnt.nil⟩ (fun i σ H' _ ⟨_, _, _, _, h, _⟩ => h.seq hS) ?_ ?_⟩
  · rintro i x σ H' hi ⟨v2, v3, D, rfl, s1, hd1, di⟩
    obtain ⟨y, hy, rfl⟩ := refs_get hi
    have hym := List.mem_of_getElem? hy
    have dl := di.len
    unfold kk at dl
    rw [List.length_map, List.length_take] at dl
    refine ⟨_, rfl, y.1, y.2, n, rfl, same_tup s1 (hT y hym), hP y hym, hn, fun H2 r s2 nr hr2 => ?_⟩
    have hd2 := s2 _ _ hd1
    have hr3 : H2 r = some (.tup ((tK (Wp03.lengths n y.2)).map kV)) := by rw [tK_kV]; exact hr2
    refine ⟨_, rfl, d, rfl, .inr ⟨_, .inl hd2⟩, _, rfl, _, DGet.t hd2 hr3, _, _, natD_get _ _, rfl, _, rfl, _, rfl, d, _, rfl, DPut.t hd2 hr3 (by rw [natD_len, sizeLine_eq]; omega), ?_⟩
    refine ⟨_, _, putN D (Wp03.lengths n y.2) (getN D (Wp03.lengths n y.2) + 1), rfl, same_upd2 (s1.trans s2) nd, ?_, ?_⟩
    · rw [upd_same, ← natD_put]; rfl
    · have e : kk n (L.take (i + 1)) = kk n (L.take i) ++ [Wp03.lengths n y.2] := by
        unfold kk; rw [take_snoc hy, List.map_append]; rfl
      rw [e]; exact di.put _
  · rintro σ H' ⟨v2, v3, D, rfl, s1, hd1, di⟩
    rw [refs_len, List.take_length] at di
    exact ⟨_, rfl, q _ d D s1 nd hd1 di⟩
/-! ### answer_kinds -/
theorem falling_down {n : Nat} {L : List (Addr × List Nat)} (h : Falling L) (nd : (L.map (·.2)).Nodup) (hl : ∀ q ∈ L, q.2.length = n) : Down (L.map (·.2)) := by
  unfold Down
  rw [List.pairwise_map]
  have nd' := List.pairwise_map.mp (List.nodup_iff_pairwise_ne.mp nd)
  refine List.Pairwise.imp_of_mem (fun {x y} hx hy ⟨h1, h2⟩ => ?_) (List.Pairwise.and h nd')
  exact before_total ((hl x hx).trans (hl y hy).symm) h2 h1
theorem tally_le (n : Nat) (r : List Nat) : ∀ x ∈ tally n r, x ≤ r.length := fun x hx => by
  obtain ⟨k, _, rfl⟩ := List.mem_map.mp hx
  exact List.length_filter_le _ _
theorem lengths_lt {n : Nat} {p : WpBase.Perm} (h : PermN n p) (hn : n ≤ 10) : ∀ x ∈ Wp03.lengths n p, x < 11 := fun x hx => by
  have h1 := tally_le n (WpBase.rings p) x hx
  have h2 := rings_len h
  omega
/-! ### answer_kinds -/
def flatK (ks : List (List Nat)) (L : List (Addr × List Nat)) : List V := L.flatMap fun q => V.int (ks.count q.2) :: tV q.2
theorem flatK_take {ks : List (List Nat)} {L : List (Addr × List Nat)} {i : Nat} {q : Addr × List Nat} (h : L[i]? = some q) : flatK ks (L.take (i + 1)) = flatK ks (L.take i) ++ [V.int (ks.count q.2)] ++ tV q.2 := by
  unfold flatK; rw [take_snoc h, List.flatMap_append]; simp
theorem flatK_len {ks : List (List Nat)} {L : List (Addr × List Nat)} {n : Nat} (h : ∀ q ∈ L, q.2.length ≤ n) : (flatK ks L).length ≤ L.length * (n + 1) := by
  unfold flatK
  induction L with
  | nil => simp
  | cons q L ih =>
    have h1 := ih fun z hz => h z (List.mem_cons_of_mem _ hz)
    have h2 := h q (by simp)
    rw [List.flatMap_cons, List.length_append, List.length_cons, tV_len, List.length_cons, Nat.succ_mul]
    omega
abbrev sKin : Stmt := top 31
def spKin (C : Addr) : Sp := fun vs H Q _ => ∃ (a : Addr) (s : Wp03.State) (k : Nat), vs = [.ref a] ∧ LotAt C H a s k ∧ Told C H Q a s k .kinds
theorem scKin : FnScope ["lot", "exchanges", "answer", "kind"] ["lot"] (defScope sKin) := ⟨rfl, rfl, rfl, by decide +kernel, rfl, by decide +kernel, by decide +kernel⟩
theorem ok_kin {f : Addr} {fd : FuncData} (F : Fun K "answer_kinds" "answer_kinds" sKin f fd) (T : Tx K mg C) (B : Bi mg) (DQ : Df P w K mg base "kinds_of" 2 ["group"] (spKof K)) : FnOk P w K mg base CX0 3 f fd ["lot"] (spKin C) := by
  obtain ⟨fQ, fdQ, okQ, mQ, kQ, bQ⟩ := DQ
  refine F.ok scKin (fun vs H Q E h => ?_) (fun cdv A outer sh H vs Q E hr h => ?_)
  · obtain ⟨a, s, k, rfl, _⟩ := h
    rfl
  obtain ⟨a, s, k, rfl, lt, t⟩ := h
  obtain ⟨dx, tA, gA, LT, LG, ha, li⟩ := id lt
  have eg : (Wp03.theGroup s).length = LG.length := by rw [← li.isG]; simp
  have few := li.few
  have n2 := li.n2
  have hP : ∀ q ∈ LG, PermN s.n q.2 := fun q hq => li.grp.perm (li.isG ▸ List.mem_map.mpr ⟨q, hq, rfl⟩)
  refine ⟨_, (pss_cons (ps_set (i := 1) scKin.nd rfl (Or.inl rfl) (pe_call okQ hr (by rfl) mQ kQ bQ .nil pass0 (pa_cons (pe_fld (pv 0) rfl) pa_nil)))
    (pss_cons (ps_set (i := 2) scKin.nd rfl (Or.inl rfl) (pe_lst (pa_cons (pe_callB call_len_dT (by rfl) B.len (by decide +kernel) (pa_cons (pv 1) pa_nil)) pa_nil)))
    (pss_cons (ps_for PassesOwn.never rfl (pi_list (pe_callBK (cr_sortDT (d := s.n) (B := 11) li.n1 rfl) (by rfl) B.sorted (by decide +kernel) (pa_cons (pv 1) pa_nil) (pk_cons pe_bl pk_nil))) (pg_name (i := 3) scKin.nd rfl (Or.inl rfl)) (pss_cons (ps_expr (pe_bm PySem.F.plainAttrs_list PySem.F.slot_list_append PySem.F.type_list_append mt_append (pv 2) (pa_cons (pe_dget (hu_of hr) (pv 1) (pv 3) (fun _ _ => rfl)) pa_nil)))
    (pss_one (ps_expr (pe_bm PySem.F.plainAttrs_list PySem.F.slot_list_extend PySem.F.type_list_extend mt_extT (pv 2) (pa_cons (pv 3) pa_nil))))))
    (pss_one (ps_ret (pv 2)))))), ?_⟩
  refine ⟨_, rfl, a, C, dx, _, _, rfl, ha, T.cl, T.nG, lF_group _ _ _, gA, LG, s.n, rfl, SqL.of li.group, fun q hq => SqT.of (li.tG q hq), hP, by omega, by omega, fun H' d D s1 nd hd1 di => ?_⟩
  have eks : kk s.n LG = (Wp03.theGroup s).map (Wp03.lengths s.n) := by unfold kk; rw [← li.isG, List.map_map]; rfl
  rw [eks] at di
  have dl := di.len
  rw [List.length_map] at dl
  have kl : ∀ q ∈ (Wp03.theGroup s).map (Wp03.lengths s.n), q.length = s.n ∧ ∀ x ∈ q, x < 11 := fun q hq => by
    obtain ⟨p, hp, rfl⟩ := List.mem_map.mp hq
    exact ⟨by simp [Wp03.lengths], lengths_lt (li.grp.perm hp) n2⟩
  refine ⟨_, rfl, d, _, rfl, hd1, (by show 1 ≤ sizeLine; decide), fun r nr => ?_⟩
  have dr : d ≠ r := fun z => by rw [← z, hd1] at nr; cases nr
  have nr0 := s1.free nr
  rw [natD_len]
  refine ⟨_, rfl, d, natD D, rfl, rfl, .inl (by rw [upd_ne dr]; exact hd1), fun e he => ?_, fun L b pm fl tp nb => ?_⟩
  · obtain ⟨x, hx, rfl⟩ := List.mem_map.mp he
    exact kl x.1 ((di.mem _).mp (List.mem_map.mpr ⟨x, hx, rfl⟩))
  have ek : (natD D).map (·.1) = keysN D := by unfold natD keysN; rw [List.map_map]; rfl
  rw [ek] at pm
  have br : r ≠ b := fun z => by rw [← z, upd_same] at nb; cases nb
  have db : d ≠ b := fun z => by rw [← z, upd_ne dr, hd1] at nb; cases nb
  have Lm : ∀ q ∈ L, q.2 ∈ (Wp03.theGroup s).map (Wp03.lengths s.n) := fun q hq => (di.mem _).mp (pm.mem_iff.mp (List.mem_map.mpr ⟨q, hq, rfl⟩))
  have Ll : L.length = D.length := by
    have := pm.length_eq
    unfold keysN at this
    rwa [List.length_map, List.length_map] at this
  have tr : ∀ q ∈ L, q.1 ≠ r ∧ q.1 ≠ b := fun q hq => by
    have h1 := tp q hq
    exact ⟨fun z => (by rw [z, upd_same] at h1; cases h1), fun z => (by rw [z, nb] at h1; cases h1)⟩
  have nb0 : H b = none := by
    have : H' b = none := by rw [upd_ne (Ne.symm br)] at nb; exact nb
    exact s1.free this
  refine ⟨b, rfl, ⟨_, SqL.of upd_same⟩, for_list (K := K) (a := b) (xs := refs L) (fun i σ H2 => ∃ (v3 : Option V), σ = [some (.ref a), some (.ref d), some (.ref r), v3] ∧ Same H H2 ∧ H2 d = some (.dT (dPs (natD D))) ∧ H2 b = some (.lst (refs L)) ∧ (∀ q ∈ L, H2 q.1 = some (.tup (tV q.2))) ∧ H2 r = some (.lst (V.int L.length :: flatK ((Wp03.theGroup s).map (Wp03.lengths s.n)) (L.take i))))
    ⟨_, rfl, same_upd2 (same_upd2 s1 nr0) nb0, by rw [upd_ne db, upd_ne dr]; exact hd1, upd_same, fun q hq => by rw [upd_ne (tr q hq).2]; exact tp q hq, by rw [upd_ne br, upd_same, Ll]; rfl⟩ (fun i σ H2 _ ⟨_, _, _, _, h, _⟩ => SqL.of h) ?_ ?_⟩
  · rintro i x σ H2 hi ⟨v3, rfl, s2, hd2, hb2, hq2, hr2⟩
    obtain ⟨q, hq, rfl⟩ := refs_get hi
    have hqm := List.mem_of_getElem? hq
    have h1 := hq2 q hqm
    have b1 : (flatK ((Wp03.theGroup s).map (Wp03.lengths s.n)) (L.take i)).length ≤ (L.take i).length * 11 := flatK_len fun z hz => by rw [(kl _ (Lm z (List.mem_of_mem_take hz))).1]; omega
    have b2 : (L.take i).length ≤ 200 := by rw [List.length_take]; omega
    have b3 := (kl _ (Lm q hqm)).1
    have v1 : valV (dPs (natD D)) (tK q.2) = some (V.int (((Wp03.theGroup s).map (Wp03.lengths s.n)).count q.2 : Nat)) := by rw [natD_there ((di.mem _).mpr (Lm q hqm)), di.get]
    refine ⟨_, rfl, Or.inl ⟨rfl, _, SqL.of hr2⟩, _, rfl, _, rfl, d, _, rfl, by rw [← v1]; exact DGet.t hd2 (by rw [tK_kV]; exact h1), r, _, _, rfl, rfl, hr2, by rw [List.length_cons, sizeLine_eq]; omega, ?_⟩
    refine ⟨_, rfl, Or.inl ⟨rfl, _, SqL.of upd_same⟩, _, rfl, r, q.1, _, _, rfl, rfl, upd_same, SqT.of (by rw [upd_ne (tr q hqm).1]; exact h1), ?_, ?_⟩
    · rw [List.length_append, List.length_cons, tV_len, List.length_singleton, sizeLine_eq]; omega
    rw [upd_upd]
    refine ⟨_, rfl, same_upd2 s2 nr0, by rw [upd_ne dr]; exact hd2, by rw [upd_ne (Ne.symm br)]; exact hb2, fun z hz => by rw [upd_ne (tr z hz).1]; exact hq2 z hz, ?_⟩
    rw [upd_same, flatK_take hq]; simp
  · rintro σ H2 ⟨v3, rfl, s2, hd2, hb2, hq2, hr2⟩
    rw [refs_len, List.take_length] at hr2
    obtain ⟨DD, hDD, eK⟩ := kinds_eq s.n (Wp03.theGroup s)
    have eL : L.map (·.2) = DD := down_same (falling_down (n := s.n) fl (pm.nodup_iff.mpr di.nd) fun q hq => (kl _ (Lm q hq)).1) hDD.down fun q => by rw [pm.mem_iff, di.mem, hDD.mem]
    have st : Wp03.step s .kinds = (s, Wp03.nat (Wp03.kinds s.n (Wp03.theGroup s)).length :: (Wp03.kinds s.n (Wp03.theGroup s)).flatMap fun x => Wp03.nat x.2 :: x.1.map Wp03.nat) := rfl
    refine ⟨_, rfl, t.stays lt st s2 nr0 ?_⟩
    rw [hr2, eK, List.map_cons, List.length_map, ← eL, List.length_map]
    congr 2
    congr 1
    unfold flatK
    rw [List.map_map, List.flatMap_map, List.map_flatMap]
    congr 1
    funext q
    rw [List.map_cons, List.map_map]; rfl
/-! ### answer_count -/
abbrev sCnt : Stmt := top 32
def spCnt (C : Addr) : Sp := fun vs H Q _ => ∃ (a : Addr) (z : Int) (s : Wp03.State) (k : Nat), vs = [.ref a, .int z] ∧ LotAt C H a s k ∧ Told C H Q a s k (.count z)
theorem scCnt : FnScope ["lot", "colours", "exchanges", "left", "kind"] ["lot", "colours"] (defScope sCnt) := ⟨rfl, rfl, rfl, by decide +kernel, rfl, by decide +kernel, by decide +kernel⟩
theorem ok_cnt {f : Addr} {fd : FuncData} (F : Fun K "answer_count" "answer_count" sCnt f fd) (T : Tx K mg C) (B : Bi mg) (Co : Cs mg) (DW : Df P w K mg base "power" 1 ["base", "exponent"] spPower) (DQ : Df P w K mg base "kinds_of" 2 ["group"] (spKof K)) : FnOk P w K mg base CX0 3 f fd ["lot", "colours"] (spCnt C) := by
  obtain ⟨fW, fdW, okW, mW, kW, bW⟩ := DW
  obtain ⟨fQ, fdQ, okQ, mQ, kQ, bQ⟩ := DQ
  obtain ⟨tC, mC⟩ := Co.colours
  refine F.ok scCnt (fun vs H Q E h => ?_) (fun cdv A outer sh H vs Q E hr h => ?_)
  · obtain ⟨a, z, s, k, rfl, _⟩ := h
    rfl
  have hr1 := hr.mono (j := 1) (by decide)
  refine ⟨_, (pss_cons (ps_if (PW.pt (pw_or (pt_cmpR op_lt (pv 1) pe_int (nomark _)) (pw_or1 (pt_cmpR op_gt (pv 1) (pe_glob (v := .int 1000) (by rfl) mC ⟨_, rfl⟩) (nomark _))))) (pss_one (ps_ret (pe_lst (pa_cons (pe_un un_neg pe_int) pa_nil)))) pss_nil)
    (pss_cons (ps_set (i := 2) scCnt.nd rfl (Or.inr rfl) (pe_call okQ hr (by rfl) mQ kQ bQ .nil pass0 (pa_cons (pe_fld (pv 0) rfl) pa_nil)))
    (pss_cons (ps_set (i := 3) scCnt.nd rfl (Or.inl rfl) (pe_callB (cr_sum rfl) (by rfl) B.sum (by decide +kernel) (pa_cons
    (pe_lock (pe_lc (own := [("kind", 4)]) (g := gName 4) (by rfl) scCnt.nd (pi_keys (pv 2)) (blkOk_by (own := [("kind", 4)]) (N := ["lot", "colours", "exchanges", "left", "kind"]) (sc := defScope sCnt) (by decide +kernel))
      (fun _ _ _ _ _ => pg_name (i := 4) scCnt.nd rfl (Or.inl rfl)) (fun _ _ _ _ _ => pts_nil)
      (fun _ _ _ _ _ => pe_op op_mul (pe_dget (hu_of hr) (pv 2) (pv 4) (fun _ _ => rfl)) (pe_call okW hr1 (by rfl) mW kW bW .nil pass0 (pa_cons (pv 1) (pa_cons (pe_callB (r := rSumT K) (cr_sumT rfl) (by rfl) B.sum (by decide +kernel) (pa_cons (pv 4) pa_nil)) pa_nil)))))) pa_nil)))
    (pss_one (ps_ret (pe_lst (pa_cons (pe_op op_fdiv (pv 3) (pe_callB call_len_seq (by rfl) B.len (by decide +kernel) (pa_cons (pe_fld (pv 0) rfl) pa_nil))) pa_nil))))))), ?_⟩
  obtain ⟨a, z, s, k, rfl, lt, t⟩ := h
  obtain ⟨dx, tA, gA, LT, LG, ha, li⟩ := id lt
  have eg : (Wp03.theGroup s).length = LG.length := by rw [← li.isG]; simp
  have few := li.few
  have n2 := li.n2
  have hP : ∀ q ∈ LG, PermN s.n q.2 := fun q hq => li.grp.perm (li.isG ▸ List.mem_map.mpr ⟨q, hq, rfl⟩)
  have no : z < 0 ∨ 1000 < z → Wp03.step s (.count z) = (s, [-1]) := fun c => by
    show (s, if z < 0 ∨ 1000 < z then [-1] else _) = _
    rw [if_pos c]
  refine ⟨_, rfl, _, _, rfl, rfl, _, rfl, ?_⟩
  by_cases c1 : z < 0
  · refine if_true_of (decide_eq_true c1) (if_true_of rfl ?_)
    exact ⟨_, rfl, by decide, fun r nr => t.stays lt (no (.inl c1)) (same_upd nr) nr upd_same⟩
  refine if_false_of (decide_eq_false c1) ?_
  refine ⟨_, rfl, _, _, rfl, rfl, _, rfl, ?_⟩
  by_cases c2 : 1000 < z
  · refine if_true_of (decide_eq_true c2) ?_
    exact ⟨_, rfl, by decide, fun r nr => t.stays lt (no (.inr c2)) (same_upd nr) nr upd_same⟩
  refine if_false_of (decide_eq_false c2) ?_
  obtain ⟨c, rfl⟩ : ∃ c : Nat, z = c := ⟨z.toNat, by omega⟩
  have st : Wp03.step s (.count c) = (s, [Wp03.nat (Wp03.count c (Wp03.theGroup s))]) := by
    show (s, if (c : Int) < 0 ∨ 1000 < (c : Int) then [-1] else [Wp03.nat (Wp03.count (c : Int).toNat (Wp03.theGroup s))]) = _
    rw [if_neg (by omega), Int.toNat_natCast]
  refine ⟨_, rfl, a, C, dx, _, _, rfl, ha, T.cl, T.nG, lF_group _ _ _, gA, LG, s.n, rfl, SqL.of li.group, fun q hq => SqT.of (li.tG q hq), hP, by omega, by omega, fun H1 d D s1 nd hd1 di => ?_⟩
  have dl := di.len
  unfold kk at dl
  rw [List.length_map] at dl
  have kp : ∀ l ∈ keysN D, ∃ p, PermN s.n p ∧ l = Wp03.lengths s.n p := fun l hl => by
    obtain ⟨q, hq, e⟩ := List.mem_map.mp ((di.mem l).mp hl)
    exact ⟨q.2, hP q hq, e.symm⟩
  refine ⟨d, _, hd1, trivial, fun od => ⟨_, rfl, d, od, rfl, .inr ⟨_, upd_same, fun M nM => ?_⟩⟩⟩
  have nM1 : H1 M = none := by
    have : d ≠ M := fun z => by rw [← z, upd_same] at nM; cases nM
    rw [upd_ne (Ne.symm this)] at nM; exact nM
  have dM : d ≠ M := fun z => by rw [← z, upd_same] at nM; cases nM
  refine lc_it (walk_keysT (d := d) (o := od) (kvs := dPs (natD D))) (fun j H' => Same H H' ∧ H' d = some (.frz od (.dT (dPs (natD D)))) ∧ H' M = some (.lst ((((D.take j).map fun e => e.2 * c ^ e.1.sum).map Int.ofNat).map V.int)))
    ⟨same_upd2 (same_upd2 s1 nd) (s1.free nM1), by rw [upd_ne dM, upd_same], upd_same⟩ (fun j H' _ h => h.2.1) ?_ ?_
  · rintro j x H2 H2' hj ⟨s2, hd2, hM2⟩ ⟨rfl, kx, vx, q, hx, rfl, hq⟩
    obtain ⟨e, he, rfl, rfl⟩ := natD_row hx
    have hem := List.mem_of_getElem? he
    obtain ⟨p, pp, ep⟩ := kp e.1 (List.mem_map.mpr ⟨e, hem, rfl⟩)
    have es : e.1.sum ≤ s.n := by rw [ep, lengths_sum pp]; exact rings_len pp
    have ev := di.val_le hem
    unfold kk at ev
    rw [List.length_map] at ev
    have hq' : H2' q = some (.tup (tV e.1)) := by rw [← tK_kV]; exact hq
    refine ⟨rfl, ⟨_, rfl, _, rfl, d, _, rfl, .inr ⟨_, _, q, .inr ⟨od, hd2⟩, rfl, hq, (natD_at di.nd hem).symm⟩, _, rfl, _, rfl, q, e.1.map Int.ofNat, rfl, SqT.of (by rw [← tV_ints]; exact hq'), ?_⟩⟩
    rw [sum_ofNat]
    refine ⟨c, e.1.sum, rfl, by omega, by omega, _, _, rfl, rfl, .inl ⟨by omega, by omega⟩, _, hM2, ?_, same_upd2 s2 (s1.free nM1), by rw [upd_ne dM]; exact hd2, ?_⟩
    · rw [List.length_map, List.length_map, List.length_map, List.length_take, sizeLine_eq]; omega
    · rw [upd_same, take_snoc he, List.map_append, List.map_append, List.map_append]
      rfl
  · rintro H2 ⟨s2, hd2, hM2⟩
    rw [natD_len, List.take_length] at hM2
    refine ⟨hd2, M, _, rfl, SqL.of (by rw [upd_ne (Ne.symm dM)]; exact hM2), ?_⟩
    rw [sum_ofNat]
    have hl := refs_len LG
    have lp : 0 < LG.length := by rw [← eg]; exact List.length_pos_of_mem li.grp.ident
    have s3 : Same H (upd H2 d (.dT (dPs (natD D)))) := same_upd2 s2 nd
    refine ⟨_, rfl, _, rfl, a, C, dx, _, _, rfl, s3 _ _ ha, T.cl, T.nG, lF_group _ _ _, gA, _, rfl, .inl (SqL.of (s3 _ _ li.group)), _, _, rfl, rfl, ⟨by omega, by omega⟩, (by show 1 ≤ sizeLine; decide), fun r nr => t.stays lt st (same_upd2 s3 (s3.free nr)) (s3.free nr) ?_⟩
    have e1 : (D.map fun e => e.2 * c ^ e.1.sum).sum = ((Wp03.theGroup s).map fun p => c ^ (WpBase.rings p).length).sum := by
      have := di.tot fun l => c ^ l.sum
      unfold wt at this
      rw [this, ← li.isG]
      unfold kk
      rw [List.map_map, List.map_map]
      congr 1
      refine List.map_congr_left fun q hq => ?_
      show c ^ (Wp03.lengths s.n q.2).sum = _
      rw [lengths_sum (hP q hq)]; rfl
    rw [upd_same, hl, count_eq, eg, e1]
    rfl
end
end Cc
set_option Elab.async false
set_option maxRecDepth 100000
set_option maxHeartbeats 2000000
set_option pp.maxSteps 200
namespace Cc
open PySem PySem.Spec PyProof.Rows L2
/-! ### all_up_to -/
abbrev sUp : Stmt := top 19
def spUp (K : PySem.W.Frag) : Sp := fun vs H Q _ => ∃ (a : Addr) (ns : List Int) (m : Int), vs = [.ref a, .int m] ∧ SqL K H a (ns.map V.int) ∧ ns.length ≤ 1000 ∧ ∀ H' : Hp, Same H H' → Q (.bl (ns.all fun z => decide (0 ≤ z) && decide (z ≤ m))) H'
theorem int_get {ns : List Int} {i : Nat} {x : V} (h : (ns.map V.int)[i]? = some x) : ∃ k, ns[i]? = some k ∧ x = V.int k := by
  rw [List.getElem?_map] at h
  obtain ⟨k, h1, h2⟩ := Option.map_eq_some_iff.mp h
  exact ⟨k, h1, h2.symm⟩
section
variable {P : Program} {w : World} {K : PySem.W.Frag} {mg : Str → Option Value} {base : Heap} {C : Addr}
theorem scUp : FnScope ["numbers", "most", "number"] ["numbers", "most"] (defScope sUp) := ⟨rfl, rfl, rfl, by decide +kernel, rfl, by decide +kernel, by decide +kernel⟩
theorem ok_up {f : Addr} {fd : FuncData} (F : Fun K "all_up_to" "all_up_to" sUp f fd) (B : Bi mg) : FnOk P w K mg base CX0 1 f fd ["numbers", "most"] (spUp K) := by
  refine F.ok scUp (fun vs H Q E h => ?_) (fun cdv A outer sh H vs Q E hr h => ⟨_, (pss_one (ps_ret (pe_callB (cr_all rfl) (by rfl) B.all (by decide +kernel) (pa_cons
    (pe_lc (own := [("number", 2)]) (g := gName 2) (by rfl) scUp.nd (pi_list (pv 0)) (blkOk_by (own := [("number", 2)]) (N := ["numbers", "most", "number"]) (sc := defScope sUp) (by decide +kernel))
      (fun _ _ _ _ _ => pg_name (i := 2) scUp.nd rfl (Or.inl rfl)) (fun _ _ _ _ _ => pts_nil) (fun _ _ _ _ _ => pe_and (pe_cmpR op_ge (pv 2) pe_int (nomark _)) (pe_one (pe_cmpR op_le (pv 2) (pv 1) (nomark _))))) pa_nil)))), ?_⟩)
  · obtain ⟨a, ns, m, rfl, _⟩ := h
    rfl
  obtain ⟨a, ns, m, rfl, hS, hl, k⟩ := h
  refine ⟨_, rfl, a, rfl, ⟨_, hS⟩, fun D nD => lc_list (K := K) (a := a) (xs := ns.map V.int) (fun j H' => Same H H' ∧ H' D = some (.lst (((ns.take j).map fun z => decide (0 ≤ z) && decide (z ≤ m)).map V.bl)))
    ⟨same_upd nD, upd_same⟩ (fun j H' _ h => h.1.seq hS) ?_ ?_⟩
  · rintro j x H' hj ⟨s1, hD⟩
    obtain ⟨z, hz, rfl⟩ := int_get hj
    have fin : ∀ b : Bool, b = (decide (0 ≤ z) && decide (z ≤ m)) → ∃ acc, H' D = some (.lst acc) ∧ acc.length < sizeLine ∧ (Same H (upd H' D (.lst (acc ++ [V.bl b]))) ∧ upd H' D (.lst (acc ++ [V.bl b])) D = some (.lst (((ns.take (j + 1)).map fun z => decide (0 ≤ z) && decide (z ≤ m)).map V.bl))) := fun b hb => by
      refine ⟨_, hD, ?_, same_upd2 s1 nD, ?_⟩
      · rw [List.length_map, List.length_map, List.length_take, sizeLine_eq]; omega
      · rw [upd_same, take_snoc hz, List.map_append, List.map_append, hb]; rfl
    refine ⟨rfl, ⟨_, rfl, _, _, rfl, rfl, _, rfl, ?_⟩⟩
    by_cases c : 0 ≤ z
    · refine if_true_of (decide_eq_true c) ⟨_, rfl, _, rfl, _, _, rfl, rfl, fin _ ?_⟩
      rw [decide_eq_true c, Bool.true_and]
    · refine if_false_of (decide_eq_false c) (fin false ?_)
      rw [decide_eq_false c, Bool.false_and]
  · rintro H' ⟨s1, hD⟩
    rw [List.length_map, List.take_length] at hD
    refine ⟨D, _, rfl, SqL.of hD, ?_⟩
    have e : ((ns.map fun z => decide (0 ≤ z) && decide (z ≤ m)).all id) = ns.all fun z => decide (0 ≤ z) && decide (z ≤ m) := by rw [List.all_map]; rfl
    rw [e]; exact k _ s1
/-! ### is_colouring -/
abbrev sIsc : Stmt := top 20
def spIsc (K : PySem.W.Frag) : Sp := fun vs H Q _ => ∃ (a : Addr) (ns : List Int) (n : Nat), vs = [.ref a, .int n] ∧ SqL K H a (ns.map V.int) ∧ ns.length ≤ 1000 ∧ ∀ H' : Hp, Same H H' → Q (.bl (isCol n ns)) H'
theorem scIsc : FnScope ["numbers", "size"] ["numbers", "size"] (defScope sIsc) := ⟨rfl, rfl, rfl, by decide +kernel, rfl, by decide +kernel, by decide +kernel⟩
theorem ok_isc {f : Addr} {fd : FuncData} (F : Fun K "is_colouring" "is_colouring" sIsc f fd) (B : Bi mg) (Co : Cs mg) (DU : Df P w K mg base "all_up_to" 1 ["numbers", "most"] (spUp K)) : FnOk P w K mg base CX0 2 f fd ["numbers", "size"] (spIsc K) := by
  obtain ⟨fU, fdU, okU, mU, kU, bU⟩ := DU
  obtain ⟨tH, mH⟩ := Co.highest
  refine F.ok scIsc (fun vs H Q E h => ?_) (fun cdv A outer sh H vs Q E hr h => ⟨_, (pss_one (ps_ret (pe_and (pe_cmpR op_eq (pe_callB call_len_seq (by rfl) B.len (by decide +kernel) (pa_cons (pv 0) pa_nil)) (pv 1) (nomark _)) (pe_one (pe_call okU hr (by rfl) mU kU bU .nil pass0 (pa_cons (pv 0) (pa_cons (pe_glob (v := .int 9) (by rfl) mH ⟨_, rfl⟩) pa_nil))))))), ?_⟩)
  · obtain ⟨a, ns, n, rfl, _⟩ := h
    rfl
  obtain ⟨a, ns, n, rfl, hS, hl, k⟩ := h
  refine ⟨_, rfl, a, _, rfl, .inl hS, _, rfl, rfl, _, rfl, ?_⟩
  rw [List.length_map]
  by_cases c : ns.length = n
  · refine if_true_of (decide_eq_true (by rw [c])) ⟨_, rfl, a, ns, 9, rfl, hS, hl, fun H' s1 => ?_⟩
    have e : isCol n ns = ns.all fun z => decide (0 ≤ z) && decide (z ≤ 9) := by unfold isCol; rw [decide_eq_true c, Bool.true_and]
    rw [← e]; exact k _ s1
  · refine if_false_of (decide_eq_false (fun z => c (by have : (ns.length : Int) = n := V.int.inj z; omega))) ?_
    have e : isCol n ns = false := by unfold isCol; rw [decide_eq_false c, Bool.false_and]
    rw [← e]; exact k _ (Same.refl H)
/-! ### moved -/
abbrev sMov : Stmt := top 21
/-- a list or a tuple -/
abbrev SqA (K : PySem.W.Frag) (H : Hp) (a : Addr) (xs : List V) : Prop := SqL K H a xs ∨ SqT K H a xs
theorem same_any {H H' : Hp} {a : Addr} {xs : List V} (e : Same H H') (h : SqA K H a xs) : SqA K H' a xs := h.elim (fun h => .inl (e.seq h)) fun h => .inr (same_tup e h)
theorem ix_any {H : Hp} {a : Addr} {xs : List V} {i : Int} {v : V} {Q : VK} (h : SqA K H a xs) (e : atI xs i = some v) (q : Q v H) : rIx K (.ref a) (.int i) H Q :=
  h.elim (fun h => .inl ⟨a, xs, i, v, rfl, rfl, h, e, q⟩) fun h => .inr (.inl ⟨a, xs, i, v, rfl, rfl, h, e, q⟩)
def spMov (K : PySem.W.Frag) : Sp := fun vs H Q _ => ∃ (a b : Addr) (c p : List Nat) (n : Nat), vs = [.ref a, .ref b] ∧ SqA K H a (tV c) ∧ SqT K H b (tV p) ∧ PermN n p ∧ c.length = n ∧ n ≤ 1000 ∧
  ∀ (H' : Hp) (r : Addr), Same H H' → H r = none → H' r = some (.tup (tV (Wp03.moved c p))) → Q (.ref r) H'
theorem scMov : FnScope ["colouring", "exchange", "there", "place"] ["colouring", "exchange"] (defScope sMov) := ⟨rfl, rfl, rfl, by decide +kernel, rfl, by decide +kernel, by decide +kernel⟩
theorem ok_mov {f : Addr} {fd : FuncData} (F : Fun K "moved" "moved" sMov f fd) (B : Bi mg) : FnOk P w K mg base CX0 1 f fd ["colouring", "exchange"] (spMov K) := by
  refine F.ok scMov (fun vs H Q E h => ?_) (fun cdv A outer sh H vs Q E hr h => ⟨_, (pss_cons (ps_set (i := 2) scMov.nd rfl (Or.inl rfl) (pe_op op_rep (pe_lst (pa_cons pe_int pa_nil)) (pe_callB call_len_seq (by rfl) B.len (by decide +kernel) (pa_cons (pv 0) pa_nil))))
    (pss_cons (ps_for PassesOwn.never rfl (pi_range1 (by rfl) B.range (pa_cons (pe_callB call_len_seq (by rfl) B.len (by decide +kernel) (pa_cons (pv 0) pa_nil)) pa_nil)) (pg_name (i := 3) scMov.nd rfl (Or.inl rfl)) (pss_one (ps_asg (pe_ix ix_seq (pv 0) (pv 3) (fun _ _ => rfl)) (pg_sub (pv 2) (pe_ix ix_tup (pv 1) (pv 3) (fun _ _ => rfl)) set_list))))
    (pss_one (ps_ret (pe_callTy call_tuple_of (by rfl) B.tuple (by decide +kernel) (pa_cons (pv 2) pa_nil)))))), ?_⟩)
  · obtain ⟨a, b, c, p, n, rfl, _⟩ := h
    rfl
  obtain ⟨a, b, c, p, n, rfl, hC, hT, hp, hc, hn, k⟩ := h
  have hl : (tV c).length = n := by rw [tV_len, hc]
  refine ⟨by decide, fun p1 n1 => ⟨_, rfl, a, tV c, rfl, same_any (same_upd n1) hC, p1, _, _, rfl, rfl, upd_same, by omega, by omega, ?_, fun N hN => ?_⟩⟩
  · rw [hl, sizeLine_eq]; simp; omega
  rw [hl, Int.toNat_natCast, rep_tV]
  have s1 : Same H (upd (upd H p1 (.lst [V.int 0])) N (.lst (tV (List.replicate n 0)))) := same_upd2 (same_upd n1) ((same_upd n1).free hN)
  have nN : H N = none := (same_upd n1).free hN
  refine ⟨_, rfl, a, tV c, rfl, same_any s1 hC, _, rfl, by omega, by omega, ?_⟩
  rw [hl, Int.toNat_natCast]
  refine for_range (lo := 0) (n := n) (fun i σ H' => ∃ (v3 : Option V) (T : List Nat), σ = [some (.ref a), some (.ref b), some (.ref N), v3] ∧ Same H H' ∧ H' N = some (.lst (tV T)) ∧ T.length = n ∧ ∀ j, j < i → ap T (ap p j) = ap c j)
    ⟨none, _, rfl, s1, upd_same, by simp, fun j hj => by omega⟩ ?_ ?_
  · rintro i σ H' hi ⟨v3, T, rfl, s2, hN2, hT2, hj⟩
    rw [Int.zero_add]
    have hlt := hp.lt hi
    refine ⟨_, rfl, _, rfl, ix_any (same_any s2 hC) (tV_at (by rw [hc]; exact hi)) ⟨_, rfl, _, rfl, _, rfl, b, tV p, _, _, rfl, rfl, same_tup s2 hT, tV_at (by rw [hp.len]; exact hi), N, _, _, ap p i, rfl, rfl, hN2, ?_, ?_⟩⟩
    · rw [tV_len, hT2]; exact ixN_nat hlt
    · refine ⟨_, T.set (ap p i) (ap c i), rfl, same_upd2 s2 nN, ?_, by rw [List.length_set]; exact hT2, fun j hj' => ?_⟩
      · rw [upd_same]
        unfold tV
        rw [List.map_set]
      · have hjn : j < n := by omega
        by_cases z : j = i
        · subst z
          show (T.set (ap p j) (ap c j)).getD (ap p j) 0 = _
          simp [hT2, hlt]
        · have ne : ¬ ap p i = ap p j := fun y => z (hp.inj hi hjn y).symm
          show (T.set (ap p i) (ap c i)).getD (ap p j) 0 = _
          rw [getD_set_ne ne]
          exact hj j (by omega)
  · rintro σ H' ⟨v3, T, rfl, s2, hN2, hT2, hj⟩
    refine ⟨_, rfl, N, _, rfl, .inl ⟨SqL.of hN2, fun r nr => k _ r (same_upd2 s2 (s2.free nr)) (s2.free nr) ?_⟩⟩
    rw [upd_same, moved_uniq hc hT2 hp hj]
/-! ### is_first -/
abbrev sIsf : Stmt := top 22
def isF (c : List Nat) (L : List (Addr × List Nat)) : Bool := L.all fun q => !WpBase.before (Wp03.moved c q.2) c
def spIsf (K : PySem.W.Frag) : Sp := fun vs H Q _ => ∃ (a b : Addr) (c : List Nat) (L : List (Addr × List Nat)) (n : Nat), vs = [.ref a, .ref b] ∧ SqT K H a (tV c) ∧ SqL K H b (refs L) ∧ Tups K H L ∧ (∀ q ∈ L, PermN n q.2) ∧ c.length = n ∧ n ≤ 1000 ∧
  ∀ (H' : Hp), Same H H' → Q (.bl (isF c L)) H'
theorem scIsf : FnScope ["colouring", "group", "exchange"] ["colouring", "group"] (defScope sIsf) := ⟨rfl, rfl, rfl, by decide +kernel, rfl, by decide +kernel, by decide +kernel⟩
theorem ok_isf {f : Addr} {fd : FuncData} (F : Fun K "is_first" "is_first" sIsf f fd) (DM : Df P w K mg base "moved" 1 ["colouring", "exchange"] (spMov K)) : FnOk P w K mg base CX0 2 f fd ["colouring", "group"] (spIsf K) := by
  obtain ⟨fM, fdM, okM, mM, kM, bM⟩ := DM
  refine F.ok scIsf (fun vs H Q E h => ?_) (fun cdv A outer sh H vs Q E hr h => ⟨_, (pss_cons (ps_for PassesOwn.never rfl (pi_list (pv 1)) (pg_name (i := 2) scIsf.nd rfl (Or.inl rfl)) (pss_one (ps_if (pt_cmpR (op_ltT hr.units0) (pe_call okM hr (by rfl) mM kM bM .nil pass0 (pa_cons (pv 0) (pa_cons (pv 2) pa_nil))) (pv 0) (nomark _)) (pss_one (ps_ret pe_bl)) pss_nil)))
    (pss_one (ps_ret pe_bl))), ?_⟩)
  · obtain ⟨a, b, c, L, n, rfl, _⟩ := h
    rfl
  obtain ⟨a, b, c, L, n, rfl, hC, hS, hT, hP, hc, hn, k⟩ := h
  refine ⟨_, rfl, b, rfl, ⟨_, hS⟩, for_list (K := K) (a := b) (xs := refs L) (fun i σ H' => ∃ v2 : Option V, σ = [some (.ref a), some (.ref b), v2] ∧ Same H H' ∧ isF c (L.take i) = true)
    ⟨none, rfl, Same.refl H, rfl⟩ (fun i σ H' _ ⟨_, _, h, _⟩ => h.seq hS) ?_ ?_⟩
  · rintro i x σ H' hi ⟨v2, rfl, s1, hf⟩
    obtain ⟨y, hy, rfl⟩ := refs_get hi
    have hym := List.mem_of_getElem? hy
    refine ⟨_, rfl, _, rfl, a, y.1, c, y.2, n, rfl, .inr (same_tup s1 hC), same_tup s1 (hT y hym), hP y hym, hc, hn, fun H2 r s2 nr hr2 => ⟨_, rfl, r, a, (Wp03.moved c y.2).map Int.ofNat, c.map Int.ofNat, rfl, rfl, SqT.of (by rw [← tV_ints]; exact hr2), by rw [← tV_ints]; exact same_tup (s1.trans s2) hC, _, rfl, ?_⟩⟩
    rw [lex_before _ _ (moved_len c y.2)]
    cases e : WpBase.before (Wp03.moved c y.2) c with
    | true =>
      refine if_true_of rfl ?_
      have ef : isF c L = false := by
        apply Bool.eq_false_iff.mpr
        intro z
        have := List.all_eq_true.mp z y hym
        rw [e] at this; cases this
      rw [← ef]; exact k _ (s1.trans s2)
    | false =>
      refine if_false_of rfl ⟨_, rfl, s1.trans s2, ?_⟩
      unfold isF at hf ⊢
      rw [take_snoc hy, List.all_append, hf]
      simp [e]
  · rintro σ H' ⟨v2, rfl, s1, hf⟩
    rw [refs_len, List.take_length] at hf
    rw [← hf]; exact k _ s1
/-! ### colouring_numbered -/
abbrev sNum : Stmt := top 23
def spNum : Sp := fun vs H Q _ => ∃ (i c n : Nat), vs = [.int i, .int c, .int n] ∧ 0 < c ∧ c ≤ 1000 ∧ n ≤ 1000 ∧
  ∀ (H' : Hp) (r : Addr), Same H H' → H r = none → H' r = some (.tup (tV (dig c n (i % c ^ n)))) → Q (.ref r) H'
theorem scNum : FnScope ["number", "colours", "size", "colouring", "left", "place"] ["number", "colours", "size"] (defScope sNum) := ⟨rfl, rfl, rfl, by decide +kernel, rfl, by decide +kernel, by decide +kernel⟩
theorem ok_num {f : Addr} {fd : FuncData} (F : Fun K "colouring_numbered" "colouring_numbered" sNum f fd) (B : Bi mg) : FnOk P w K mg base CX0 1 f fd ["number", "colours", "size"] spNum := by
  refine F.ok scNum (fun vs H Q E h => ?_) (fun cdv A outer sh H vs Q E hr h => ⟨_, (pss_cons (ps_set (i := 3) scNum.nd rfl (Or.inl rfl) (pe_op op_rep (pe_lst (pa_cons pe_int pa_nil)) (pv 2)))
    (pss_cons (ps_set (i := 4) scNum.nd rfl (Or.inl rfl) (pv 0))
    (pss_cons (ps_for PassesOwn.never rfl (pi_range3 (by rfl) B.range (pa_cons (pe_op op_sub (pv 2) pe_int) (pa_cons (pe_un un_neg pe_int) (pa_cons (pe_un un_neg pe_int) pa_nil)))) (pg_name (i := 5) scNum.nd rfl (Or.inl rfl)) (pss_cons (ps_asg (pe_op op_mod (pv 4) (pv 1)) (pg_sub (pv 3) (pv 5) set_list))
    (pss_one (ps_set (i := 4) scNum.nd rfl (Or.inl rfl) (pe_op op_fdiv (pv 4) (pv 1))))))
    (pss_one (ps_ret (pe_callTy call_tuple_of (by rfl) B.tuple (by decide +kernel) (pa_cons (pv 3) pa_nil))))))), ?_⟩)
  · obtain ⟨i, c, n, rfl, _⟩ := h
    rfl
  obtain ⟨i, c, n, rfl, hc0, hc, hn, k⟩ := h
  refine ⟨by decide, fun p1 n1 => ⟨_, rfl, p1, _, _, rfl, rfl, upd_same, by omega, by omega, ?_, fun N hN => ?_⟩⟩
  · rw [sizeLine_eq]; simp; omega
  rw [Int.toNat_natCast, rep_tV]
  have s1 : Same H (upd (upd H p1 (.lst [V.int 0])) N (.lst (tV (List.replicate n 0)))) := same_upd2 (same_upd n1) ((same_upd n1).free hN)
  have nN : H N = none := (same_upd n1).free hN
  refine ⟨_, rfl, _, rfl, _, _, rfl, rfl, _, rfl, _, rfl, _, _, _, _, rfl, RgC.neg (by omega) (by omega) (by omega) (by omega), ?_⟩
  rw [show ((n : Int) - 1 - -1).toNat = n by omega]
  refine for_rangeC (lo := (n : Int) - 1) (c := -1) (n := n) (fun t σ H' => ∃ (v5 : Option V), σ = [some (.int i), some (.int c), some (.int n), some (.ref N), some (.int ((i / c ^ t : Nat) : Int)), v5] ∧ Same H H' ∧ H' N = some (.lst (tV (List.replicate (n - t) 0 ++ dig c t (i % c ^ t)))))
    ⟨none, by rw [Nat.pow_zero, Nat.div_one]; rfl, s1, by rw [upd_same]; simp [dig]⟩ ?_ ?_
  · rintro t σ H' ht ⟨v5, rfl, s2, hN2⟩
    have len : (List.replicate (n - t) 0 ++ dig c t (i % c ^ t)).length = n := by rw [List.length_append, List.length_replicate, dig_len]; omega
    refine ⟨_, rfl, _, rfl, _, _, rfl, rfl, by omega, _, rfl, _, rfl, N, _, _, n - 1 - t, rfl, rfl, hN2, ?_, ?_⟩
    · rw [tV_len, len, show (n : Int) - 1 + (t : Int) * -1 = ((n - 1 - t : Nat) : Int) by omega]
      exact ixN_nat (by omega)
    refine ⟨_, rfl, _, rfl, _, _, rfl, rfl, ⟨by omega, by omega⟩, some (.int ((n : Int) - 1 + (t : Int) * -1)), ?_, same_upd2 s2 nN, ?_⟩
    · have : ((i / c ^ t : Nat) : Int) / (c : Int) = ((i / c ^ (t + 1) : Nat) : Int) := by rw [← Int.natCast_ediv, Nat.div_div_eq_div_mul, ← Nat.pow_succ]
      show [some (V.int i), some (V.int c), some (V.int n), some (V.ref N), some (V.int (((i / c ^ t : Nat) : Int) / (c : Int))), some (V.int ((n : Int) - 1 + (t : Int) * -1))] = _
      rw [this]
    · rw [upd_same, dig_step]
      have e1 : ((i / c ^ t : Nat) : Int) % (c : Int) = ((i / c ^ t % c : Nat) : Int) := (Int.natCast_emod _ _).symm
      have e2 : List.replicate (n - t) 0 = List.replicate (n - (t + 1)) 0 ++ [0] := by
        rw [show n - t = (n - (t + 1)) + 1 by omega, List.replicate_succ']
      have e3 : (List.replicate (n - t) 0 ++ dig c t (i % c ^ t)).set (n - 1 - t) (i / c ^ t % c) = List.replicate (n - (t + 1)) 0 ++ (i / c ^ t % c) :: dig c t (i % c ^ t) := by
        rw [e2, List.append_assoc, List.set_append_right _ _ (by rw [List.length_replicate]; omega), List.length_replicate, show n - 1 - t - (n - (t + 1)) = 0 by omega]
        rfl
      rw [← e3]
      show some (HO.lst ((tV (List.replicate (n - t) 0 ++ dig c t (i % c ^ t))).set (n - 1 - t) (V.int (((i / c ^ t : Nat) : Int) % (c : Int))))) = _
      rw [e1]
      unfold tV
      rw [List.map_set]; rfl
  · rintro σ H' ⟨v5, rfl, s2, hN2⟩
    rw [Nat.sub_self] at hN2
    exact ⟨_, rfl, N, _, rfl, .inl ⟨SqL.of hN2, fun r nr => k _ r (same_upd2 s2 (s2.free nr)) (s2.free nr) upd_same⟩⟩
/-! ### times_till_all_stays -/
abbrev sTim : Stmt := top 18
def spTim (K : PySem.W.Frag) : Sp := fun vs H Q _ => ∃ (a : Addr) (p : List Nat) (n : Nat), vs = [.ref a] ∧ SqT K H a (tV p) ∧ PermN n p ∧ n ≤ 1000 ∧ ∀ H' : Hp, Same H H' → Q (.int (WpBase.order p : Nat)) H'
theorem scTim : FnScope ["exchange", "stays", "made", "times"] ["exchange"] (defScope sTim) := ⟨rfl, rfl, rfl, by decide +kernel, rfl, by decide +kernel, by decide +kernel⟩
theorem ok_tim {f : Addr} {fd : FuncData} (F : Fun K "times_till_all_stays" "times_till_all_stays" sTim f fd) (B : Bi mg) (DS : Df P w K mg base "all_stays" 1 ["size"] spStays) (DB : Df P w K mg base "done_behind" 1 ["before", "after"] (spBehind K)) : FnOk P w K mg base CX0 2 f fd ["exchange"] (spTim K) := by
  obtain ⟨fS, fdS, okS, mS, kS, bS⟩ := DS
  obtain ⟨fB, fdB, okB, mB, kB, bB⟩ := DB
  refine F.ok scTim (fun vs H Q E h => ?_) (fun cdv A outer sh H vs Q E hr h => ⟨_, (pss_cons (ps_set (i := 1) scTim.nd rfl (Or.inl rfl) (pe_call okS hr (by rfl) mS kS bS .nil pass0 (pa_cons (pe_callB call_len_seq (by rfl) B.len (by decide +kernel) (pa_cons (pv 0) pa_nil)) pa_nil)))
    (pss_cons (ps_set (i := 2) scTim.nd rfl (Or.inl rfl) (pv 0))
    (pss_cons (ps_set (i := 3) scTim.nd rfl (Or.inl rfl) pe_int)
    (pss_cons (ps_while PassesOwn.never (pt_cmpR (op_neD hr.units) (pv 2) (pv 1) (nomark _)) (pss_cons (ps_set (i := 2) scTim.nd rfl (Or.inl rfl) (pe_call okB hr (by rfl) mB kB bB .nil pass0 (pa_cons (pv 2) (pa_cons (pv 0) pa_nil))))
    (pss_one (ps_aug (i := 3) scTim.nd rfl (Or.inl rfl) pe_int ip_add))))
    (pss_one (ps_ret (pv 3))))))), ?_⟩)
  · obtain ⟨a, p, n, rfl, _⟩ := h
    rfl
  obtain ⟨a, p, n, rfl, hT, hp, hn, k⟩ := h
  refine ⟨_, rfl, a, _, rfl, .inr hT, n, ?_, hn, fun b nb => ?_⟩
  · rw [tV_len, hp.len]; rfl
  rw [rgV_tV]
  have pos := order_pos hp
  have s0 : Same H (upd H b (.tup (tV (List.range n)))) := same_upd nb
  refine ⟨_, rfl, fun m σ H' => ∃ (t : Nat) (r : Addr), m = WpBase.order p - t ∧ 1 ≤ t ∧ t ≤ WpBase.order p ∧ (∀ u, 0 < u → u < t → pw n p u ≠ WpBase.ident n) ∧ σ = [some (.ref a), some (.ref b), some (.ref r), some (.int t)] ∧ Same H H' ∧ H' b = some (.tup (tV (List.range n))) ∧ SqT K H' r (tV (pw n p t)),
    ⟨_, 1, a, rfl, Nat.le_refl _, pos, fun u h1 h2 => by omega, rfl, s0, upd_same, ?_⟩, ?_⟩
  · have : pw n p 1 = p := ident_then hp
    rw [this]; exact same_tup s0 hT
  rintro m σ H' ⟨t, r, rfl, h1, h2, h3, rfl, s1, hb, hr1⟩
  refine ⟨_, rfl, _, rfl, tD (pw n p t), tD (List.range n), dp_tup hr1, dp_tup (SqT.of hb), tD_shaped _, tD_shaped _, _, rfl, ?_⟩
  rw [tD_eqv]
  by_cases c : pw n p t = List.range n
  · rw [decide_eq_true c]
    refine if_false_of rfl ⟨_, rfl, ?_⟩
    have := order_least hp h1 c h3
    rw [← this]; exact k _ s1
  · rw [decide_eq_false c]
    refine if_true_of rfl ?_
    have ne : t ≠ WpBase.order p := fun z => c (by rw [z]; exact (order_dvd hp _).mp (Nat.dvd_refl _))
    refine ⟨fun σ' H' => ∃ (r : Addr), σ' = [some (.ref a), some (.ref b), some (.ref r), some (.int ((t + 1 : Nat) : Int))] ∧ Same H H' ∧ H' b = some (.tup (tV (List.range n))) ∧ SqT K H' r (tV (pw n p (t + 1))), ?_, ?_⟩
    · rintro σ' H3 ⟨r', rfl, q1, q2, q3⟩
      refine ⟨WpBase.order p - (t + 1), by omega, t + 1, r', rfl, by omega, by omega, fun u u1 u2 => ?_, rfl, q1, q2, q3⟩
      by_cases z : u = t
      · rw [z]; exact c
      · exact h3 u u1 (by omega)
    · have pp := pw_perm hp t
      refine ⟨_, rfl, _, rfl, r, a, pw n p t, p, rfl, hr1, same_tup s1 hT, by rw [pp.len]; exact hn, fun x hx => by rw [hp.len]; exact pp.mem.mp hx, fun H2 r2 s2 nr hr2 => ?_⟩
      exact ⟨_, rfl, _, _, rfl, rfl, r2, rfl, s1.trans s2, s2 _ _ hb, SqT.of hr2⟩
end
end Cc
set_option Elab.async false
set_option maxRecDepth 100000
set_option maxHeartbeats 2000000
set_option pp.maxSteps 200
namespace Cc
open PySem PySem.Spec PyProof.Rows L2
theorem pe_weak {X : Cx} {e : Expr} {t t' : TE} (h : PE X e t) (hw : ∀ σ H Q, t' σ H Q → t σ H Q) : PE X e t' := ⟨fun pins s σ H Q I q => h.run pins s σ H Q I (hw σ H Q q)⟩
/-! t[:c] + (t[c] - r,) + t[c + 1:] -/
def tRepl : TE := fun σ H Q => ∃ (q : Addr) (l : List Nat) (c r : Nat), σ[3]? = some (some (.ref q)) ∧ σ[4]? = some (some (.int c)) ∧ σ[1]? = some (some (.int r)) ∧ H q = some (.tup (tV l)) ∧ c < l.length ∧ r ≤ ap l c ∧ l.length ≤ 1000 ∧
  ∀ (p : Addr) (H' : Hp), Same H H' → H' p = some (.tup (tV (l.set c (ap l c - r)))) → Q (.ref p) H'
theorem cut_left (l : List Nat) {c : Nat} (h : c ≤ l.length) : cutV (tV l) none (some (c : Int)) = tV (l.take c) := by
  unfold cutV
  rw [HT.sIx_none, HT.sIx_nat, tV_len, Nat.min_eq_left h]
  unfold tV
  rw [List.drop_zero, Nat.sub_zero, List.map_take]
theorem cut_right (l : List Nat) {c : Nat} (h : c ≤ l.length) : cutV (tV l) (some (c : Int)) none = tV (l.drop c) := by
  unfold cutV
  rw [HT.sIx_none, HT.sIx_nat, tV_len, Nat.min_eq_left h]
  unfold tV
  rw [List.map_drop, List.take_of_length_le (by rw [List.length_drop, List.length_map]; exact Nat.le_refl _)]
theorem set_cut (l : List Nat) {c : Nat} (h : c < l.length) (x : Nat) : l.take c ++ [x] ++ l.drop (c + 1) = l.set c x := by
  rw [List.set_eq_take_append_cons_drop, if_pos h, List.append_assoc]; rfl
section
variable {P : Program} {w : World} {K : PySem.W.Frag} {mg : Str → Option Value} {base : Heap} {C : Addr}
theorem repl_read (σ : L2.St) (H : Hp) (Q : VK) (h : tRepl σ H Q) : tOp (rCatA K) (tOp (rCatA K) (tSl (rSlA K) (tVar 3) tNoPart (tPart (tVar 4))) (tTup (tCons (tOp (rI0 fun i j => .int (i - j)) (tOp (rIxT K) (tVar 3) (tVar 4)) (tVar 1)) tNil))) (tSl (rSlA K) (tVar 3) (tPart (tOp (rI0 fun i j => .int (i + j)) (tVar 4) (tC (.int 1)))) tNoPart) σ H Q := by
  obtain ⟨q, l, c, r, e3, e4, e1, hq, hc, hr, hl, k⟩ := h
  have lq : (tV l).length = l.length := tV_len l
  refine ⟨_, e3, _, e4, _, rfl, q, _, rfl, SqT.of hq, fun z => ?_, fun _ p1 n1 => ?_⟩
  · exfalso
    have := z.2
    rw [HT.sIx_nat, lq] at this
    omega
  rw [cut_left l (Nat.le_of_lt hc)]
  have s1 : Same H (upd H p1 (.tup (tV (l.take c)))) := same_upd n1
  have hp1 : upd H p1 (.tup (tV (l.take c))) p1 = some (.tup (tV (l.take c))) := upd_same
  generalize upd H p1 (.tup (tV (l.take c))) = H1 at s1 hp1 ⊢
  refine ⟨_, e3, _, e4, q, tV l, _, _, rfl, rfl, SqT.of (s1 _ _ hq), tV_at hc, _, e1, _, _, rfl, rfl, (by show 1 ≤ sizeLine; decide), fun p2 n2 => ?_⟩
  have ex : V.int ((ap l c : Int) - (r : Int)) = nV (ap l c - r) := congrArg V.int (by omega)
  show rCatA K (.ref p1) (.ref p2) (upd H1 p2 (.tup [V.int ((ap l c : Int) - (r : Int))])) _
  rw [ex]
  have s2 : Same H1 (upd H1 p2 (.tup [nV (ap l c - r)])) := same_upd n2
  have hp2 : upd H1 p2 (.tup [nV (ap l c - r)]) p2 = some (.tup [nV (ap l c - r)]) := upd_same
  generalize upd H1 p2 (.tup [nV (ap l c - r)]) = H2 at s2 hp2 ⊢
  have fin : ∀ (t : Addr) (H3 : Hp), Same H2 H3 → H3 t = some (.tup (tV (l.take c ++ [ap l c - r]))) → tSl (rSlA K) (tVar 3) (tPart (tOp (rI0 fun i j => .int (i + j)) (tVar 4) (tC (.int 1)))) tNoPart σ H3 fun y H4 => rCatA K (.ref t) y H4 Q := fun t H3 s3 ht => by
    have sq := s1.trans (s2.trans s3)
    refine ⟨_, e3, _, e4, _, _, rfl, rfl, _, rfl, q, _, rfl, SqT.of (sq _ _ hq), fun z => ?_, fun _ p3 n3 => ?_⟩
    · exfalso
      have := z.1
      rw [show ((c : Int) + 1) = ((c + 1 : Nat) : Int) by omega, HT.sIx_nat, lq] at this
      omega
    show rCatA K (.ref t) (.ref p3) (upd H3 p3 (.tup (cutV (tV l) (some ((c : Int) + 1)) none))) Q
    rw [show ((c : Int) + 1) = ((c + 1 : Nat) : Int) by omega, cut_right l hc]
    have tp : t ≠ p3 := fun z => by rw [← z, ht] at n3; cases n3
    refine ⟨t, p3, _, _, rfl, rfl, SqT.of (by rw [upd_ne tp]; exact ht), SqT.of upd_same, ?_, fun z => ?_, fun _ z => ?_, fun _ _ p4 n4 => ?_⟩
    · rw [tV_len, tV_len, List.length_append, List.length_take, List.length_drop, sizeLine_eq]; simp; omega
    · rw [tV_app] at z; simp [tV] at z
    · have e0 : l.drop (c + 1) = [] := by
        have := congrArg List.length z
        rw [tV_len] at this
        exact List.length_eq_zero_iff.mp this
      refine k t _ (sq.trans (same_upd n3)) ?_
      rw [upd_ne tp, ht, ← set_cut l hc, e0, List.append_nil]
    · refine k p4 _ (sq.trans ((same_upd n3).trans (same_upd n4))) ?_
      rw [upd_same, ← tV_app, set_cut l hc]
  have p12 : p1 ≠ p2 := fun z => by rw [← z, hp1] at n2; cases n2
  refine ⟨p1, p2, _, _, rfl, rfl, SqT.of (s2 _ _ hp1), SqT.of hp2, ?_, fun z => ?_, fun _ z => (by cases z), fun _ _ p3 n3 => ?_⟩
  · rw [tV_len, List.length_take, sizeLine_eq]; simp; omega
  · refine fin p2 H2 (Same.refl _) ?_
    rw [hp2, tV_app, z]; rfl
  · refine fin p3 _ (same_upd n3) ?_
    rw [upd_same, tV_app]; rfl
/-! ### ring_coloured -/
abbrev sRc : Stmt := top 24
def spRc : Sp := fun vs H Q _ => ∃ (d : Addr) (r m : Nat) (D : Tab), vs = [.ref d, .int r] ∧ H d = some (.dT (dPs (natD D))) ∧ Lefts m D ∧ m ≤ 5 ∧
  ∀ (H' : Hp) (f : Addr) (F : Tab), Same H H' → H f = none → H' f = some (.dT (dPs (natD F))) → Lefts m F → (∀ g, wt F g = wt D (ringSum g r)) → Q (.ref f) H'
theorem off_same {a : Addr} {H H' : Hp} {o : HO} (s : Off a H H') (h : H a = some o) : Same H (upd H' a o) := fun b u e => by
  by_cases z : b = a
  · rw [z] at e ⊢
    rw [upd_same, ← h, e]
  · rw [upd_ne z]; exact s b u e z
theorem scRc : FnScope ["ways", "length", "further", "left", "colour", "fewer"] ["ways", "length"] (defScope sRc) := ⟨rfl, rfl, rfl, by decide +kernel, rfl, by decide +kernel, by decide +kernel⟩
theorem ok_rc {f : Addr} {fd : FuncData} (F : Fun K "ring_coloured" "ring_coloured" sRc f fd) (B : Bi mg) : FnOk P w K mg base CX0 1 f fd ["ways", "length"] spRc := by
  refine F.ok scRc (fun vs H Q E h => ?_) (fun cdv A outer sh H vs Q E hr h => ⟨_, (pss_cons (ps_set (i := 2) scRc.nd rfl (Or.inl rfl) pe_dnewT)
    (pss_cons (ps_lock (ps_for PassesOwn.never rfl (pi_keys (pv 0)) (pg_name (i := 3) scRc.nd rfl (Or.inl rfl)) (pss_one (ps_for PassesOwn.never rfl (pi_range1 (by rfl) B.range (pa_cons (pe_callB call_len_seq (by rfl) B.len (by decide +kernel) (pa_cons (pv 3) pa_nil)) pa_nil)) (pg_name (i := 4) scRc.nd rfl (Or.inl rfl)) (pss_one (ps_if (pt_cmpR op_ge (pe_ix ix_tup (pv 3) (pv 4) (fun _ _ => rfl)) (pv 1) (nomark _)) (pss_cons (ps_set (i := 5) scRc.nd rfl (Or.inl rfl) (pe_weak (t' := tRepl) (pe_op op_catA (pe_op op_catA (pe_slice sl_tupA (pv 3) po_none (po_some (pv 4))) (pe_tup (pa_cons (pe_op op_sub (pe_ix ix_tup (pv 3) (pv 4) (fun _ _ => rfl)) (pv 1)) pa_nil))) (pe_slice sl_tupA (pv 3) (po_some (pe_op op_add (pv 4) pe_int)) po_none)) repl_read))
    (pss_one (ps_dput (hu_of hr) (pv 2) (pv 5) (pe_op op_add (pe_dget2 (hu_of hr) (pv 2) (pv 5) pe_int ⟨rfl, rfl, rfl, rfl⟩) (pe_dget (hu_of hr) (pv 0) (pv 3) (fun _ _ => rfl))) rfl))) pss_nil))))))
    (pss_one (ps_ret (pv 2))))), ?_⟩)
  · obtain ⟨d, r, m, D, rfl, _⟩ := h
    rfl
  obtain ⟨d, r, m, D, rfl, hd, hD, hm, k⟩ := h
  intro fa nf
  have dfa : d ≠ fa := fun z => by rw [← z, hd] at nf; cases nf
  refine ⟨d, HO.dT (dPs (natD D)), by rw [upd_ne dfa]; exact hd, trivial, fun od => ⟨_, rfl, d, od, rfl, .inr ⟨_, upd_same, ?_⟩⟩⟩
  refine for_it (walk_keysT (d := d) (o := od) (kvs := dPs (natD D))) (fun i σ H' => ∃ (v3 v4 v5 : Option V) (G : Tab), σ = [some (.ref d), some (.int r), some (.ref fa), v3, v4, v5] ∧ Off d H H' ∧ H' d = some (.frz od (.dT (dPs (natD D)))) ∧ H' fa = some (.dT (dPs (natD G))) ∧ Lefts m G ∧ ∀ g, wt G g = wt (D.take i) (ringSum g r))
    ⟨none, none, none, [], rfl, off_upd (same_off (same_upd nf)), upd_same, by rw [upd_ne (Ne.symm dfa), upd_same]; rfl, ⟨by simp [keysN], fun l hl => (by cases hl)⟩, fun g => rfl⟩ (fun i σ H' _ ⟨_, _, _, _, _, _, h, _⟩ => h) ?_ ?_
  · rintro i x σ H2 H2' hi ⟨v3, v4, v5, G, rfl, s2, hd2, hf2, lG, wG⟩ ⟨rfl, kx, vx, q, hx, rfl, hq⟩
    obtain ⟨e, he, rfl, rfl⟩ := natD_row hx
    have hem := List.mem_of_getElem? he
    rw [tK_kV] at hq
    have le := hD.len e.1 (List.mem_map.mpr ⟨e, hem, rfl⟩)
    have qd : q ≠ d := fun z => by rw [z, hd2] at hq; cases hq
    refine ⟨_, rfl, q, tV e.1, rfl, .inr (SqT.of hq), _, rfl, by rw [tV_len]; omega, by rw [tV_len]; omega, ?_⟩
    rw [tV_len, Int.toNat_natCast]
    refine for_range (lo := 0) (n := e.1.length) (fun c σ H3 => ∃ (v4 v5 : Option V) (G : Tab), σ = [some (.ref d), some (.int r), some (.ref fa), some (.ref q), v4, v5] ∧ Off d H H3 ∧ H3 d = some (.frz od (.dT (dPs (natD D)))) ∧ H3 fa = some (.dT (dPs (natD G))) ∧ H3 q = some (.tup (tV e.1)) ∧ Lefts m G ∧ ∀ g, wt G g = wt (D.take i) (ringSum g r) + e.2 * partSum g r e.1 c)
      ⟨v4, v5, G, rfl, s2, hd2, hf2, hq, lG, fun g => by rw [wG]; rfl⟩ ?_ ?_
    · rintro c σ H3 hc ⟨v4, v5, G, rfl, s3, hd3, hf3, hq3, lG, wG⟩
      rw [Int.zero_add]
      refine ⟨_, rfl, _, rfl, q, tV e.1, _, _, rfl, rfl, SqT.of hq3, tV_at hc, _, rfl, _, _, rfl, rfl, _, rfl, ?_⟩
      by_cases z : r ≤ ap e.1 c
      · refine if_true_of (decide_eq_true (by omega)) ⟨q, e.1, c, r, rfl, rfl, rfl, hq3, hc, z, by omega, fun p H4 s4 hp4 => ?_⟩
        have hd4 := s4 _ _ hd3
        have hf4 := s4 _ _ hf3
        have hq4 := s4 _ _ hq3
        have hk : H4 p = some (.tup ((tK (e.1.set c (ap e.1 c - r))).map kV)) := by rw [tK_kV]; exact hp4
        have gl := lG.size hm
        have o4 : Off d H H4 := fun b o h1 h2 => s4 _ _ (s3 b o h1 h2)
        refine ⟨_, rfl, fa, rfl, .inr ⟨_, .inl hf4⟩, _, rfl, _, DGet.t hf4 hk, _, rfl, _, rfl, d, _, rfl, .inr ⟨_, _, q, .inr ⟨od, hd4⟩, rfl, by rw [tK_kV]; exact hq4, (natD_at hD.nd hem).symm⟩, _, _, natD_get _ _, rfl, _, rfl, _, rfl, fa, _, rfl, DPut.t hf4 hk (by rw [natD_len, sizeLine_eq]; omega), ?_⟩
        refine ⟨_, _, putN G (e.1.set c (ap e.1 c - r)) (getN G (e.1.set c (ap e.1 c - r)) + e.2), rfl, off_upd2 o4 nf, by rw [upd_ne dfa]; exact hd4, ?_, ?_, ?_, fun g => ?_⟩
        · rw [upd_same, ← natD_put]; rfl
        · rw [upd_ne (fun y => by rw [y, hf4] at hq4; cases hq4)]; exact hq4
        · refine lG.put ⟨by rw [List.length_set]; exact le.1, fun x hx => ?_⟩
          rcases List.mem_or_eq_of_mem_set hx with y | y
          · exact le.2 x y
          · have : ap e.1 c < 11 := by rw [ap_get hc]; exact le.2 _ (List.getElem_mem hc)
            omega
        · rw [wt_put lG.nd, wG, partSum_succ, Nat.mul_add, Nat.add_assoc]
          congr 3
          exact (if_pos (show r ≤ e.1.getD c 0 from z)).symm
      · refine if_false_of (decide_eq_false (by omega)) ⟨_, v5, G, rfl, s3, hd3, hf3, hq3, lG, fun g => ?_⟩
        rw [wG, partSum_succ]
        have : way g r e.1 c = 0 := if_neg z
        rw [this, Nat.add_zero]
    · rintro σ H3 ⟨v4, v5, G, rfl, s3, hd3, hf3, hq3, lG, wG⟩
      refine ⟨_, _, _, G, rfl, s3, hd3, hf3, lG, fun g => ?_⟩
      rw [wG, wt_take_succ he]; rfl
  · rintro σ H2 ⟨v3, v4, v5, G, rfl, s2, hd2, hf2, lG, wG⟩
    rw [natD_len, List.take_length] at wG
    exact ⟨hd2, _, rfl, k _ fa G (off_same s2 hd) nf (by rw [upd_ne (Ne.symm dfa)]; exact hf2) lG wG⟩
/-! ### ways_on_rings -/
abbrev sWr : Stmt := top 25
def spWr (K : PySem.W.Frag) : Sp := fun vs H Q _ => ∃ (a b : Addr) (l ns : List Nat), vs = [.ref a, .ref b] ∧ SqT K H a (tV l) ∧ (∀ x ∈ l, x ≤ 1000) ∧ l.length ≤ 1000 ∧ SqL K H b (tV ns) ∧ ns.length ≤ 5 ∧ (∀ x ∈ ns, x < 11) ∧
  ∀ H' : Hp, Same H H' → Q (.int (Wp03.waysBy (Wp03.unrolled l) ns : Nat)) H'
theorem scWr : FnScope ["kind", "numbers", "ways", "position", "ring"] ["kind", "numbers"] (defScope sWr) := ⟨rfl, rfl, rfl, by decide +kernel, rfl, by decide +kernel, by decide +kernel⟩
theorem ok_wr {f : Addr} {fd : FuncData} (F : Fun K "ways_on_rings" "ways_on_rings" sWr f fd) (B : Bi mg) (DR : Df P w K mg base "ring_coloured" 1 ["ways", "length"] spRc) : FnOk P w K mg base CX0 2 f fd ["kind", "numbers"] (spWr K) := by
  obtain ⟨fR, fdR, okR, mR, kR, bR⟩ := DR
  refine F.ok scWr (fun vs H Q E h => ?_) (fun cdv A outer sh H vs Q E hr h => ⟨_, (pss_cons (ps_set (i := 2) scWr.nd rfl (Or.inl rfl) (pe_disp1 (hu_of hr) (pe_callTy call_tuple_of (by rfl) B.tuple (by decide +kernel) (pa_cons (pv 1) pa_nil)) pe_int))
    (pss_cons (ps_for PassesOwn.never rfl (pi_range1 (by rfl) B.range (pa_cons (pe_callB call_len_seq (by rfl) B.len (by decide +kernel) (pa_cons (pv 0) pa_nil)) pa_nil)) (pg_name (i := 3) scWr.nd rfl (Or.inl rfl)) (pss_one (ps_for PassesOwn.never rfl (pi_range1 (by rfl) B.range (pa_cons (pe_ix ix_tup (pv 0) (pv 3) (fun _ _ => rfl)) pa_nil)) (pg_name (i := 4) scWr.nd rfl (Or.inl rfl)) (pss_one (ps_set (i := 2) scWr.nd rfl (Or.inl rfl) (pe_call okR hr (by rfl) mR kR bR .nil pass0 (pa_cons (pv 2) (pa_cons (pe_op op_add (pv 3) pe_int) pa_nil))))))))
    (pss_one (ps_ret (pe_dget2 (hu_of hr) (pv 2) (pe_callTy call_tuple_of (by rfl) B.tuple (by decide +kernel) (pa_cons (pe_op op_rep (pe_lst (pa_cons pe_int pa_nil)) (pe_callB call_len_seq (by rfl) B.len (by decide +kernel) (pa_cons (pv 1) pa_nil))) pa_nil)) pe_int ⟨rfl, rfl, rfl, rfl⟩))))), ?_⟩)
  · obtain ⟨a, b, l, ns, rfl, _⟩ := h
    rfl
  obtain ⟨a, b, l, ns, rfl, hT, hx, hl, hS, hn, hs, k⟩ := h
  intro d nd
  refine ⟨_, rfl, b, _, rfl, .inl ⟨(same_upd nd).seq hS, fun p np => ?_⟩⟩
  have dp : d ≠ p := fun z => by rw [← z, upd_same] at np; cases np
  refine ⟨p, tK ns, rfl, by rw [upd_ne dp, upd_same], by rw [upd_same, tK_kV], ?_⟩
  have np0 := (same_upd nd).free np
  have s1 : Same H (upd (upd (upd H d (.dT [])) p (.tup (tV ns))) d (.dT [(tK ns, V.int 1)])) := same_upd2 (same_upd2 (same_upd nd) np0) nd
  have hd1 : upd (upd (upd H d (.dT [])) p (.tup (tV ns))) d (.dT [(tK ns, V.int 1)]) d = some (.dT (dPs (natD [(ns, 1)]))) := upd_same
  generalize upd (upd (upd H d (.dT [])) p (.tup (tV ns))) d (.dT [(tK ns, V.int 1)]) = H1 at s1 hd1 ⊢
  refine ⟨_, rfl, a, _, rfl, .inr (same_tup s1 hT), _, rfl, by rw [tV_len]; omega, by rw [tV_len]; omega, ?_⟩
  rw [tV_len, Int.toNat_natCast]
  refine for_range (lo := 0) (n := l.length) (fun i σ H' => ∃ (d : Addr) (v3 v4 : Option V) (D : Tab), σ = [some (.ref a), some (.ref b), some (.ref d), v3, v4] ∧ Same H H' ∧ H' d = some (.dT (dPs (natD D))) ∧ Lefts ns.length D ∧ ∀ rest, wt D (Wp03.waysBy rest) = Wp03.waysBy (unroll l i ++ rest) ns)
    ⟨d, none, none, [(ns, 1)], rfl, s1, hd1, ⟨by simp [keysN], fun y hy => ?_⟩, fun rest => ?_⟩ ?_ ?_
  · have : y = ns := by simpa [keysN] using hy
    rw [this]; exact ⟨rfl, hs⟩
  · show (([(ns, 1)] : Tab).map fun e => e.2 * Wp03.waysBy rest e.1).sum = _
    simp [unroll]
  · rintro i σ H2 hi ⟨d2, v3, v4, D, rfl, s2, hd2, lD, wD⟩
    rw [Int.zero_add]
    have lx : ap l i ≤ 1000 := by rw [ap_get hi]; exact hx _ (List.getElem_mem hi)
    refine ⟨_, rfl, _, rfl, a, tV l, _, _, rfl, rfl, same_tup s2 hT, tV_at hi, _, rfl, by omega, by omega, ?_⟩
    rw [Int.toNat_natCast]
    refine for_range (lo := 0) (n := ap l i) (fun j σ H' => ∃ (d : Addr) (v4 : Option V) (D : Tab), σ = [some (.ref a), some (.ref b), some (.ref d), some (.int i), v4] ∧ Same H H' ∧ H' d = some (.dT (dPs (natD D))) ∧ Lefts ns.length D ∧ ∀ rest, wt D (Wp03.waysBy rest) = Wp03.waysBy (unroll l i ++ List.replicate j (i + 1) ++ rest) ns)
      ⟨d2, v4, D, rfl, s2, hd2, lD, fun rest => by rw [wD, List.replicate_zero, List.append_nil]⟩ ?_ ?_
    · rintro j σ H3 hj ⟨d3, v4, D, rfl, s3, hd3, lD, wD⟩
      refine ⟨_, rfl, _, rfl, _, _, rfl, rfl, d3, i + 1, ns.length, D, rfl, hd3, lD, hn, fun H4 f4 F4 s4 nf4 hf4 lF wF => ?_⟩
      refine ⟨f4, _, F4, rfl, s3.trans s4, hf4, lF, fun rest => ?_⟩
      rw [wF, ringSum_ways, wD, List.replicate_succ']
      congr 1
      simp
    · rintro σ H3 ⟨d3, v4, D, rfl, s3, hd3, lD, wD⟩
      exact ⟨d3, _, _, D, rfl, s3, hd3, lD, fun rest => by rw [wD, unroll_succ]⟩
  · rintro σ H2 ⟨d2, v3, v4, D, rfl, s2, hd2, lD, wD⟩
    refine ⟨_, rfl, d2, rfl, .inr ⟨_, .inl hd2⟩, by decide, fun p1 n1 => ⟨_, rfl, b, _, rfl, .inl ((s2.trans (same_upd n1)).seq hS), p1, _, _, rfl, rfl, upd_same, by rw [tV_len]; omega, by rw [tV_len]; omega, ?_, fun p2 n2 => ?_⟩⟩
    · rw [tV_len, sizeLine_eq]; simp; omega
    rw [tV_len, Int.toNat_natCast, rep_tV]
    have s3 : Same H2 (upd (upd H2 p1 (.lst [V.int 0])) p2 (.lst (tV (List.replicate ns.length 0)))) := same_upd2 (same_upd n1) ((same_upd n1).free n2)
    refine ⟨p2, _, rfl, .inl ⟨SqL.of upd_same, fun p3 n3 => ?_⟩⟩
    have s4 := same_upd2 (o := .tup (tV (List.replicate ns.length 0))) s3 (s3.free n3)
    refine ⟨_, DGet.t (k := tK (List.replicate ns.length 0)) (s4 _ _ hd2) (by rw [upd_same, tK_kV]), ?_⟩
    have e : getN D (List.replicate ns.length 0) = Wp03.waysBy (Wp03.unrolled l) ns := by
      have h1 := wD []
      rw [List.append_nil, ways_unroll] at h1
      rw [← h1, ← wt_pick lD.nd]
      exact wt_congr fun y hy => (ways_nil (lD.len y hy).1).symm
    show Q ((valV (dPs (natD D)) (tK (List.replicate ns.length 0))).getD (V.int 0)) _
    rw [natD_get, e]
    exact k _ (s2.trans s4)
end
end Cc
set_option Elab.async false
set_option maxRecDepth 100000
set_option maxHeartbeats 2000000
set_option pp.maxSteps 200
namespace Cc
open PySem PySem.Spec PyProof.Rows L2
theorem ints_tV {ns : List Int} (h : (ns.map Int.toNat).map Int.ofNat = ns) : ns.map V.int = tV (ns.map Int.toNat) := by rw [tV_ints, h]
theorem nonneg_back {ns : List Int} (h : ∀ z ∈ ns, 0 ≤ z) : (ns.map Int.toNat).map Int.ofNat = ns := by
  rw [List.map_map]
  conv => rhs; rw [← List.map_id ns]
  exact List.map_congr_left fun z hz => Int.toNat_of_nonneg (h z hz)
/-! ### answer_by -/
abbrev sBy : Stmt := top 33
def spBy (K : PySem.W.Frag) (C : Addr) : Sp := fun vs H Q _ => ∃ (a b : Addr) (ns : List Int) (s : Wp03.State) (k : Nat), vs = [.ref a, .ref b] ∧ LotAt C H a s k ∧ SqL K H b (ns.map V.int) ∧ ns.length ≤ 63 ∧ Told C H Q a s k (.by_ ns)
section
variable {P : Program} {w : World} {K : PySem.W.Frag} {mg : Str → Option Value} {base : Heap} {C : Addr}
theorem scBy : FnScope ["lot", "numbers", "exchanges", "left", "kind"] ["lot", "numbers"] (defScope sBy) := ⟨rfl, rfl, rfl, by decide +kernel, rfl, by decide +kernel, by decide +kernel⟩
theorem ok_by {f : Addr} {fd : FuncData} (F : Fun K "answer_by" "answer_by" sBy f fd) (T : Tx K mg C) (B : Bi mg) (Co : Cs mg) (DU : Df P w K mg base "all_up_to" 1 ["numbers", "most"] (spUp K)) (DQ : Df P w K mg base "kinds_of" 2 ["group"] (spKof K)) (DW : Df P w K mg base "ways_on_rings" 2 ["kind", "numbers"] (spWr K)) :
    FnOk P w K mg base CX0 3 f fd ["lot", "numbers"] (spBy K C) := by
  obtain ⟨fU, fdU, okU, mU, kU, bU⟩ := DU
  obtain ⟨fQ, fdQ, okQ, mQ, kQ, bQ⟩ := DQ
  obtain ⟨fW, fdW, okW, mW, kW, bW⟩ := DW
  obtain ⟨tN, mN⟩ := Co.numbers
  obtain ⟨tP, mP⟩ := Co.places
  refine F.ok scBy (fun vs H Q E h => ?_) (fun cdv A outer sh H vs Q E hr h => ?_)
  · obtain ⟨a, b, ns, s, k, rfl, _⟩ := h
    rfl
  have hr1 := hr.mono (j := 1) (by decide)
  refine ⟨_, (pss_cons (ps_if (PW.pt (pw_or (pt_cmpR op_lt (pe_callB call_len_seq (by rfl) B.len (by decide +kernel) (pa_cons (pv 1) pa_nil)) pe_int (nomark _)) (pw_or (pt_cmpR op_gt (pe_callB call_len_seq (by rfl) B.len (by decide +kernel) (pa_cons (pv 1) pa_nil)) (pe_glob (v := .int 5) (by rfl) mN ⟨_, rfl⟩) (nomark _)) (pw_or1 (pt_not (pt_val (pe_call okU hr1 (by rfl) mU kU bU .nil pass0 (pa_cons (pv 1) (pa_cons (pe_glob (v := .int 10) (by rfl) mP ⟨_, rfl⟩) pa_nil))))))))) (pss_one (ps_ret (pe_lst (pa_cons (pe_un un_neg pe_int) pa_nil)))) pss_nil)
    (pss_cons (ps_if (pt_cmpR op_ne (pe_callB (cr_sum rfl) (by rfl) B.sum (by decide +kernel) (pa_cons (pv 1) pa_nil)) (pe_fld (pv 0) rfl) (nomark _)) (pss_one (ps_ret (pe_lst (pa_cons pe_int pa_nil)))) pss_nil)
    (pss_cons (ps_set (i := 2) scBy.nd rfl (Or.inr rfl) (pe_call okQ hr (by rfl) mQ kQ bQ .nil pass0 (pa_cons (pe_fld (pv 0) rfl) pa_nil)))
    (pss_cons (ps_set (i := 3) scBy.nd rfl (Or.inl rfl) (pe_callB (cr_sum rfl) (by rfl) B.sum (by decide +kernel) (pa_cons
    (pe_lock (pe_lc (own := [("kind", 4)]) (g := gName 4) (by rfl) scBy.nd (pi_keys (pv 2)) (blkOk_by (own := [("kind", 4)]) (N := ["lot", "numbers", "exchanges", "left", "kind"]) (sc := defScope sBy) (by decide +kernel))
      (fun _ _ _ _ _ => pg_name (i := 4) scBy.nd rfl (Or.inl rfl)) (fun _ _ _ _ _ => pts_nil)
      (fun _ _ _ _ _ => pe_op op_mul (pe_dget (hu_of hr) (pv 2) (pv 4) (fun _ _ => rfl)) (pe_call okW hr (by rfl) mW kW bW .nil pass0 (pa_cons (pv 4) (pa_cons (pv 1) pa_nil)))))) pa_nil)))
    (pss_one (ps_ret (pe_lst (pa_cons (pe_op op_fdiv (pv 3) (pe_callB call_len_seq (by rfl) B.len (by decide +kernel) (pa_cons (pe_fld (pv 0) rfl) pa_nil))) pa_nil)))))))), ?_⟩
  obtain ⟨a, b, ns, s, k, rfl, lt, hS, hn, t⟩ := h
  obtain ⟨dx, tA, gA, LT, LG, ha, li⟩ := id lt
  have eg : (Wp03.theGroup s).length = LG.length := by rw [← li.isG]; simp
  have few := li.few
  have n2 := li.n2
  have hP : ∀ q ∈ LG, PermN s.n q.2 := fun q hq => li.grp.perm (li.isG ▸ List.mem_map.mpr ⟨q, hq, rfl⟩)
  have st : Wp03.step s (.by_ ns) = (s, if ns = [] ∨ 5 < ns.length ∨ (ns.all fun (z : Int) => decide (0 ≤ z) && decide (z ≤ 10)) = false then [-1] else if Wp03.sum (ns.map Int.toNat) ≠ s.n then [0] else [Wp03.nat (Wp03.countBy (ns.map Int.toNat) (Wp03.theGroup s))]) := rfl
  have no : ns = [] ∨ 5 < ns.length ∨ (ns.all fun (z : Int) => decide (0 ≤ z) && decide (z ≤ 10)) = false → Wp03.step s (.by_ ns) = (s, [-1]) := fun c => by rw [st, if_pos c]
  refine ⟨_, rfl, b, _, rfl, .inl hS, _, _, rfl, rfl, _, rfl, ?_⟩
  rw [List.length_map]
  by_cases c1 : ns = []
  · refine if_true_of (decide_eq_true (by rw [c1]; decide)) (if_true_of rfl ?_)
    exact ⟨_, rfl, by decide, fun r nr => t.stays lt (no (.inl c1)) (same_upd nr) nr upd_same⟩
  have lp : 0 < ns.length := List.length_pos_iff.mpr c1
  refine if_false_of (decide_eq_false (by omega)) ⟨_, rfl, b, _, rfl, .inl hS, _, _, rfl, rfl, _, rfl, ?_⟩
  rw [List.length_map]
  by_cases c2 : 5 < ns.length
  · refine if_true_of (decide_eq_true (by omega)) (if_true_of rfl ?_)
    exact ⟨_, rfl, by decide, fun r nr => t.stays lt (no (.inr (.inl c2))) (same_upd nr) nr upd_same⟩
  refine if_false_of (decide_eq_false (by omega)) ⟨_, rfl, b, ns, 10, rfl, hS, by omega, fun H1 s1 => ⟨_, rfl, ?_⟩⟩
  cases c3 : ns.all fun (z : Int) => decide (0 ≤ z) && decide (z ≤ 10) with
  | false =>
    refine if_true_of rfl ?_
    exact ⟨_, rfl, by decide, fun r nr => t.stays lt (no (.inr (.inr c3))) (same_upd2 s1 (s1.free nr)) (s1.free nr) upd_same⟩
  | true =>
  refine if_false_of rfl ?_
  have hz : ∀ z ∈ ns, 0 ≤ z ∧ z ≤ 10 := fun z hz => by simpa using List.all_eq_true.mp c3 z hz
  have back := nonneg_back fun z h => (hz z h).1
  have es : ns.sum = ((ns.map Int.toNat).sum : Nat) := by rw [← sum_ofNat, back]
  rw [if_neg (by rw [c3]; simp [c1, c2])] at st
  refine ⟨_, rfl, b, ns, rfl, s1.seq hS, _, rfl, a, C, dx, _, _, rfl, s1 _ _ ha, T.cl, T.nS, lF_size _ _ _, rfl, _, rfl, ?_⟩
  by_cases c4 : (ns.map Int.toNat).sum = s.n
  · refine if_false_of (by rw [es, c4]; simp) ?_
    rw [if_neg (by rw [sum_eq]; simpa using c4)] at st
    refine ⟨_, rfl, a, C, dx, _, _, rfl, s1 _ _ ha, T.cl, T.nG, lF_group _ _ _, gA, LG, s.n, rfl, SqL.of (s1 _ _ li.group), fun q hq => SqT.of (s1 _ _ (li.tG q hq)), hP, by omega, by omega, fun H2 d D s2 nd hd2 di => ?_⟩
    have nd0 := s1.free nd
    have s12 := s1.trans s2
    have dl := di.len
    unfold kk at dl
    rw [List.length_map] at dl
    have kp : ∀ l ∈ keysN D, ∃ p, PermN s.n p ∧ l = Wp03.lengths s.n p := fun l hl => by
      obtain ⟨q, hq, e⟩ := List.mem_map.mp ((di.mem l).mp hl)
      exact ⟨q.2, hP q hq, e.symm⟩
    refine ⟨d, HO.dT (dPs (natD D)), hd2, trivial, fun od => ⟨_, rfl, d, od, rfl, .inr ⟨_, upd_same, fun M nM => ?_⟩⟩⟩
    have dM : d ≠ M := fun z => by rw [← z, upd_same] at nM; cases nM
    have nM0 : H M = none := by
      rw [upd_ne (Ne.symm dM)] at nM
      exact s12.free nM
    refine lc_it (walk_keysT (d := d) (o := od) (kvs := dPs (natD D))) (fun j H' => Same H H' ∧ H' d = some (.frz od (.dT (dPs (natD D)))) ∧ H' M = some (.lst ((((D.take j).map fun e => e.2 * Wp03.waysBy (Wp03.unrolled e.1) (ns.map Int.toNat)).map Int.ofNat).map V.int)))
      ⟨same_upd2 (same_upd2 s12 nd0) nM0, by rw [upd_ne dM, upd_same], upd_same⟩ (fun j H' _ h => h.2.1) ?_ ?_
    · rintro j x H3 H3' hj ⟨s3, hd3, hM3⟩ ⟨rfl, kx, vx, q, hx, rfl, hq⟩
      obtain ⟨e, he, rfl, rfl⟩ := natD_row hx
      have hem := List.mem_of_getElem? he
      obtain ⟨p, pp, ep⟩ := kp e.1 (List.mem_map.mpr ⟨e, hem, rfl⟩)
      have ev := di.val_le hem
      unfold kk at ev
      rw [List.length_map] at ev
      have hq' : H3' q = some (.tup (tV e.1)) := by rw [← tK_kV]; exact hq
      refine ⟨rfl, ⟨_, rfl, _, rfl, d, _, rfl, .inr ⟨_, _, q, .inr ⟨od, hd3⟩, rfl, hq, (natD_at di.nd hem).symm⟩, _, rfl, _, rfl, q, b, e.1, ns.map Int.toNat, rfl, SqT.of hq', fun x hx => ?_, ?_, by rw [← ints_tV back]; exact s3.seq hS, by rw [List.length_map]; omega, fun x hx => ?_, fun H4 s4 => ⟨_, _, rfl, rfl, .inl ⟨by omega, by omega⟩, _, s4 _ _ hM3, ?_, same_upd2 (s3.trans s4) nM0, by rw [upd_ne dM]; exact s4 _ _ hd3, ?_⟩⟩⟩
      · rw [ep] at hx
        have := lengths_lt pp n2 x hx
        omega
      · rw [ep]; simp [Wp03.lengths]; omega
      · obtain ⟨z, hz', rfl⟩ := List.mem_map.mp hx
        have := hz z hz'
        omega
      · rw [List.length_map, List.length_map, List.length_map, List.length_take, sizeLine_eq]; omega
      · rw [upd_same, take_snoc he, List.map_append, List.map_append, List.map_append]
        rfl
    · rintro H3 ⟨s3, hd3, hM3⟩
      rw [natD_len, List.take_length] at hM3
      refine ⟨hd3, M, _, rfl, SqL.of (by rw [upd_ne (Ne.symm dM)]; exact hM3), ?_⟩
      rw [sum_ofNat]
      have hl := refs_len LG
      have lp : 0 < LG.length := by rw [← eg]; exact List.length_pos_of_mem li.grp.ident
      have s4 : Same H (upd H3 d (.dT (dPs (natD D)))) := same_upd2 s3 nd0
      refine ⟨_, rfl, _, rfl, a, C, dx, _, _, rfl, s4 _ _ ha, T.cl, T.nG, lF_group _ _ _, gA, _, rfl, .inl (SqL.of (s4 _ _ li.group)), _, _, rfl, rfl, ⟨by omega, by omega⟩, (by show 1 ≤ sizeLine; decide), fun r nr => t.stays lt st (same_upd2 s4 (s4.free nr)) (s4.free nr) ?_⟩
      have e1 : (D.map fun e => e.2 * Wp03.waysBy (Wp03.unrolled e.1) (ns.map Int.toNat)).sum = ((Wp03.theGroup s).map fun p => Wp03.waysBy (Wp03.unrolled (Wp03.lengths s.n p)) (ns.map Int.toNat)).sum := by
        have := di.tot fun l => Wp03.waysBy (Wp03.unrolled l) (ns.map Int.toNat)
        unfold wt at this
        rw [this, ← li.isG]
        unfold kk
        rw [List.map_map, List.map_map]
        rfl
      rw [upd_same, hl, countBy_sum li.grp (by rw [sum_eq]; exact c4), eg, e1]
      rfl
  · refine if_true_of (by rw [es]; simp; omega) ?_
    rw [if_pos (by rw [sum_eq]; exact c4)] at st
    exact ⟨(by show 1 ≤ sizeLine; decide), fun r nr => t.stays lt st (same_upd2 s1 (s1.free nr)) (s1.free nr) upd_same⟩
/-! ### answer_first -/
abbrev sFi : Stmt := top 34
def spFi (K : PySem.W.Frag) (C : Addr) : Sp := fun vs H Q _ => ∃ (a b : Addr) (ns : List Int) (s : Wp03.State) (k : Nat), vs = [.ref a, .ref b] ∧ LotAt C H a s k ∧ SqL K H b (ns.map V.int) ∧ ns.length ≤ 63 ∧ Told C H Q a s k (.first ns)
theorem scFi : FnScope ["lot", "numbers", "everywhere", "exchange"] ["lot", "numbers"] (defScope sFi) := ⟨rfl, rfl, rfl, by decide +kernel, rfl, by decide +kernel, by decide +kernel⟩
theorem ok_fi {f : Addr} {fd : FuncData} (F : Fun K "answer_first" "answer_first" sFi f fd) (T : Tx K mg C) (B : Bi mg) (DC : Df P w K mg base "is_colouring" 2 ["numbers", "size"] (spIsc K)) (DM : Df P w K mg base "moved" 1 ["colouring", "exchange"] (spMov K)) :
    FnOk P w K mg base CX0 3 f fd ["lot", "numbers"] (spFi K C) := by
  obtain ⟨fC, fdC, okC, mC, kC, bC⟩ := DC
  obtain ⟨fM, fdM, okM, mM, kM, bM⟩ := DM
  refine F.ok scFi (fun vs H Q E h => ?_) (fun cdv A outer sh H vs Q E hr h => ?_)
  · obtain ⟨a, b, ns, s, k, rfl, _⟩ := h
    rfl
  have hr1 := hr.mono (j := 1) (by decide)
  refine ⟨_, (pss_cons (ps_if (pt_not (pt_val (pe_call okC hr (by rfl) mC kC bC .nil pass0 (pa_cons (pv 1) (pa_cons (pe_fld (pv 0) rfl) pa_nil))))) (pss_one (ps_ret (pe_lst (pa_cons (pe_un un_neg pe_int) pa_nil)))) pss_nil)
    (pss_cons (ps_setLc (i := 2) (own := [("exchange", 3)]) (g := gName 3) (by rfl) scFi.nd rfl rfl (sw_true rfl rfl rfl (by decide +kernel)) (pi_list (pe_fld (pv 0) rfl)) (blkOk_by (own := [("exchange", 3)]) (N := ["lot", "numbers", "everywhere", "exchange"]) (sc := defScope sFi) (by decide +kernel))
      (fun _ _ _ _ _ => pg_name (i := 3) scFi.nd rfl (Or.inl rfl)) (fun _ _ _ _ _ => pts_nil) (fun _ _ _ _ _ => (pe_call okM hr1 (by rfl) mM kM bM .nil pass0 (pa_cons (pv 1) (pa_cons (pv 3) pa_nil)))))
    (pss_one (ps_ret (pe_op op_cat (pe_lst (pa_cons (pe_bm PySem.F.plainAttrs_list PySem.F.slot_list_count PySem.F.type_list_count (mt_cntT (room65 hr)) (pv 2) (pa_cons (pe_callTy call_tuple_of (by rfl) B.tuple (by decide +kernel) (pa_cons (pv 1) pa_nil)) pa_nil)) (pa_cons (pe_lenSetT rfl hr.units (by rfl) B.len (by rfl) B.set (pv 2)) pa_nil))) (pe_callTy call_list_of (by rfl) B.list (by decide +kernel) (pa_cons (pe_callB (cr_minT rfl (room65 hr)) (by rfl) B.min (by decide +kernel) (pa_cons (pv 2) pa_nil)) pa_nil))))))), ?_⟩
  obtain ⟨a, b, ns, s, k, rfl, lt, hS, hn, t⟩ := h
  obtain ⟨dx, tA, gA, LT, LG, ha, li⟩ := id lt
  have eg : (Wp03.theGroup s).length = LG.length := by rw [← li.isG]; simp
  have few := li.few
  have n1 := li.n1
  have n2 := li.n2
  have hP : ∀ q ∈ LG, PermN s.n q.2 := fun q hq => li.grp.perm (li.isG ▸ List.mem_map.mpr ⟨q, hq, rfl⟩)
  refine ⟨_, rfl, _, rfl, a, C, dx, _, _, rfl, ha, T.cl, T.nS, lF_size _ _ _, b, ns, s.n, rfl, hS, by omega, fun H1 s1 => ⟨_, rfl, ?_⟩⟩
  cases c0 : isCol s.n ns with
  | false =>
    refine if_true_of rfl ?_
    have st : Wp03.step s (.first ns) = (s, [-1]) := by
      show (s, match Wp03.colouringOf s.n ns with | none => [-1] | some c => _) = _
      rw [isCol_no c0]
    exact ⟨_, rfl, by decide, fun r nr => t.stays lt st (same_upd2 s1 (s1.free nr)) (s1.free nr) upd_same⟩
  | true =>
  refine if_false_of rfl ?_
  obtain ⟨ec, cl, cb, back⟩ := isCol_yes c0
  have eV := ints_tV back
  generalize hcd : ns.map Int.toNat = c at ec cl cb eV
  rw [eV] at hS
  have st : Wp03.step s (.first ns) = (s, Wp03.nat (Wp03.stays (Wp03.theGroup s) c).length :: Wp03.nat ((Wp03.theGroup s).length / (Wp03.stays (Wp03.theGroup s) c).length) :: (Wp03.first (Wp03.theGroup s) c).map Wp03.nat) := by
    show (s, match Wp03.colouringOf s.n ns with | none => [-1] | some c => _) = _
    rw [ec]
  refine ⟨_, rfl, a, C, dx, _, _, rfl, s1 _ _ ha, T.cl, T.nG, lF_group _ _ _, gA, rfl, ⟨_, SqL.of (s1 _ _ li.group)⟩, fun D nD => lc_list (K := K) (a := gA) (xs := refs LG) (fun j H' => Same H H' ∧ ∃ Ev : List (Addr × List Nat), H' D = some (.lst (refs Ev)) ∧ (∀ q ∈ Ev, H' q.1 = some (.tup (tV q.2))) ∧ Ev.map (·.2) = (LG.take j).map fun q => Wp03.moved c q.2)
    ⟨same_upd2 s1 (s1.free nD), [], upd_same, fun q hq => (by cases hq), rfl⟩ (fun j H' _ h => SqL.of (h.1 _ _ li.group)) ?_ ?_⟩
  · rintro j x H' hj ⟨s2, Ev, hD, hE, eE⟩
    obtain ⟨q, hq, rfl⟩ := refs_get hj
    have hqm := List.mem_of_getElem? hq
    have hjl : j < LG.length := (List.getElem?_eq_some_iff.mp hq).1
    have el : Ev.length = (LG.take j).length := by simpa using congrArg List.length eE
    rw [List.length_take] at el
    refine ⟨rfl, ⟨_, rfl, _, rfl, b, q.1, c, q.2, s.n, rfl, .inl (s2.seq hS), SqT.of (s2 _ _ (li.tG q hqm)), hP q hqm, cl, by omega, fun H2 r s3 nr hr2 => ⟨_, s3 _ _ hD, by rw [refs_len, sizeLine_eq]; omega, same_upd2 (s2.trans s3) (s1.free nD), Ev ++ [(r, Wp03.moved c q.2)], ?_, fun z hz => ?_, ?_⟩⟩⟩
    · rw [upd_same]; unfold refs; rw [List.map_append]; rfl
    · have hD2 := s3 _ _ hD
      rcases List.mem_append.mp hz with hz | hz
      · have h1 := s3 _ _ (hE z hz)
        rw [upd_ne (fun y => by rw [y, hD2] at h1; cases h1)]; exact h1
      · rw [List.mem_singleton] at hz
        subst hz
        show upd H2 D _ r = _
        rw [upd_ne (fun y => by rw [y, hD2] at hr2; cases hr2)]; exact hr2
    · rw [List.map_append, take_snoc hq, List.map_append, eE]; rfl
  · rintro H' ⟨s2, Ev, hD, hE, eE⟩
    rw [refs_len, List.take_length] at eE
    have eM : Ev.map (·.2) = (Wp03.theGroup s).map (Wp03.moved c) := by rw [eE, ← li.isG, List.map_map]; rfl
    have el : Ev.length = LG.length := by simpa using congrArg List.length eE
    have lp : 0 < LG.length := by rw [← eg]; exact List.length_pos_of_mem li.grp.ident
    have mm : ∀ q ∈ Ev, ∃ p ∈ Wp03.theGroup s, Wp03.moved c p = q.2 := fun q hq => List.mem_map.mp (eM ▸ List.mem_map.mpr ⟨q, hq, rfl⟩)
    have ql : ∀ q ∈ Ev, q.2.length = s.n := fun q hq => by
      obtain ⟨p, _, e⟩ := mm q hq
      rw [← e, moved_len, cl]
    refine ⟨_, rfl, Or.inl ⟨rfl, _, SqL.of hD⟩, _, rfl, b, _, rfl, .inl ⟨s2.seq hS, fun tp nt => ?_⟩⟩
    have s3 : Same H' (upd H' tp (.tup (tV c))) := same_upd nt
    have hD3 := s3 _ _ hD
    have hE3 : ∀ q ∈ Ev, upd H' tp (.tup (tV c)) q.1 = some (.tup (tV q.2)) := fun q hq => s3 _ _ (hE q hq)
    have ht3 : upd H' tp (.tup (tV c)) tp = some (.tup (tV c)) := upd_same
    generalize upd H' tp (.tup (tV c)) = H3 at s3 hD3 hE3 ht3 ⊢
    refine ⟨D, tp, Ev, c, rfl, rfl, SqL.of hD3, fun q hq => SqT.of (hE3 q hq), SqT.of ht3, ?_⟩
    refine ⟨_, rfl, D, Ev.map fun q => (q.1, q.2.map Int.ofNat), rfl, ?_, fun p hp => ?_, by rw [List.length_map]; omega, fun DD nd hm => ⟨(by show 2 ≤ sizeLine; decide), fun l1 nl1 => ?_⟩⟩
    · rw [List.map_map]; exact SqL.of hD3
    · obtain ⟨q, hq, rfl⟩ := List.mem_map.mp hp
      show SqT K H3 q.1 ((q.2.map Int.ofNat).map V.int)
      rw [← tV_ints]; exact SqT.of (hE3 q hq)
    have s4 := same_upd (o := .lst [V.int (((Ev.map (·.2)).count c : Nat) : Int), V.int ((DD.length : Nat) : Int)]) nl1
    have hl1 : upd H3 l1 (.lst [V.int (((Ev.map (·.2)).count c : Nat) : Int), V.int ((DD.length : Nat) : Int)]) l1 = some (.lst [V.int (((Ev.map (·.2)).count c : Nat) : Int), V.int ((DD.length : Nat) : Int)]) := upd_same
    generalize upd H3 l1 (.lst [V.int (((Ev.map (·.2)).count c : Nat) : Int), V.int ((DD.length : Nat) : Int)]) = H4 at s4 hl1 ⊢
    refine ⟨_, rfl, D, Ev, s.n, rfl, SqL.of (s4 _ _ hD3), fun q hq => SqT.of (s4 _ _ (hE3 q hq)), ql, fun z => ?_, fun q hq hmin => ⟨q.1, _, rfl, .inr (SqT.of (s4 _ _ (hE3 q hq))), fun l2 nl2 => ?_⟩⟩
    · rw [z] at el; simp at el; omega
    have l12 : l1 ≠ l2 := fun z => by rw [← z, hl1] at nl2; cases nl2
    have hq10 := ql q hq
    refine ⟨l1, l2, _, _, rfl, rfl, by rw [upd_ne l12]; exact hl1, upd_same, ?_, fun r nr => ?_⟩
    · rw [tV_len, hq10, sizeLine_eq]; simp; omega
    have s5 : Same H (upd H4 l2 (.lst (tV q.2))) := s2.trans (s3.trans (s4.trans (same_upd nl2)))
    refine t.stays lt st (same_upd2 s5 (s5.free nr)) (s5.free nr) ?_
    rw [upd_same]
    -- the numbers
    have e1 : (Ev.map (·.2)).count c = (Wp03.stays (Wp03.theGroup s) c).length := by
      rw [eM]
      unfold Wp03.stays List.count
      rw [List.countP_map, List.countP_eq_length_filter]
      congr 1
      refine List.filter_congr fun p _ => ?_
      show (Wp03.moved c p == c) = decide (Wp03.moved c p = c)
      by_cases z : Wp03.moved c p = c
      · rw [decide_eq_true z]; simp [z]
      · rw [decide_eq_false z]; simp [z]
    have dm : ∀ x ∈ DD, ∃ y : List Nat, y ∈ Ev.map (·.2) ∧ x = y.map Int.ofNat := fun x hx => by
      obtain ⟨z, hz, e⟩ := List.mem_map.mp ((hm x).mp hx)
      obtain ⟨y, hy, rfl⟩ := List.mem_map.mp hz
      exact ⟨y.2, List.mem_map.mpr ⟨y, hy, rfl⟩, e.symm⟩
    have tn : ∀ y : List Nat, (y.map Int.ofNat).map Int.toNat = y := fun y => by
      rw [List.map_map]
      conv => rhs; rw [← List.map_id y]
      exact List.map_congr_left fun z _ => rfl
    have e2 : (Wp03.theGroup s).length / (Wp03.stays (Wp03.theGroup s) c).length = DD.length := by
      have := alike_stays li.grp cl (D := DD.map (List.map Int.toNat)) (nodup_map_inj nd fun x hx y hy e => by
        obtain ⟨u, _, rfl⟩ := dm x hx
        obtain ⟨v, _, rfl⟩ := dm y hy
        rw [tn, tn] at e
        rw [e]) (fun d => by
        constructor
        · intro h
          obtain ⟨x, hx, rfl⟩ := List.mem_map.mp h
          obtain ⟨u, hu, rfl⟩ := dm x hx
          rw [tn]
          rw [eM] at hu
          exact List.mem_map.mp hu
        · rintro ⟨p, hp, rfl⟩
          have : Wp03.moved c p ∈ Ev.map (·.2) := by rw [eM]; exact List.mem_map.mpr ⟨p, hp, rfl⟩
          obtain ⟨y, hy, e⟩ := List.mem_map.mp this
          refine List.mem_map.mpr ⟨(Wp03.moved c p).map Int.ofNat, (hm _).mpr (List.mem_map.mpr ⟨(y.1, y.2.map Int.ofNat), List.mem_map.mpr ⟨y, hy, rfl⟩, ?_⟩), tn _⟩
          show y.2.map Int.ofNat = _
          rw [e])
      rw [this, List.length_map]
    have e3 : q.2 = Wp03.first (Wp03.theGroup s) c := by
      refine IsFirst.uniq (g := Wp03.theGroup s) (c := c) ⟨mm q hq, fun p hp => ?_⟩ (first_is li.grp cl)
      have : Wp03.moved c p ∈ Ev.map (·.2) := by rw [eM]; exact List.mem_map.mpr ⟨p, hp, rfl⟩
      obtain ⟨y, hy, e⟩ := List.mem_map.mp this
      rw [← e]; exact hmin y hy
    rw [e1, ← e2, e3, List.map_cons, List.map_cons, List.map_map]
    rfl
/-! ### answer_listed -/
abbrev sLi : Stmt := top 35
def spLi (C : Addr) : Sp := fun vs H Q _ => ∃ (a : Addr) (z y : Int) (s : Wp03.State) (k : Nat), vs = [.ref a, .int z, .int y] ∧ LotAt C H a s k ∧ Told C H Q a s k (.list z y)
theorem isF_first {s : Wp03.State} {H : Hp} {k : Nat} {t g : Addr} {LT LG : List (Addr × List Nat)} (li : LotIs H s k t g LT LG) {c : List Nat} (hc : c.length = s.n) : isF c LG = decide (Wp03.first (Wp03.theGroup s) c = c) := by
  rw [Bool.eq_iff_iff, decide_eq_true_eq, first_self li.grp hc]
  unfold isF
  rw [List.all_eq_true]
  constructor
  · intro h p hp
    rw [← li.isG] at hp
    obtain ⟨q, hq, rfl⟩ := List.mem_map.mp hp
    simpa using h q hq
  · intro h q hq
    rw [h q.2 (li.isG ▸ List.mem_map.mpr ⟨q, hq, rfl⟩)]; rfl
theorem scLi : FnScope ["lot", "colours", "number", "colourings", "ahead", "position", "colouring"] ["lot", "colours", "number"] (defScope sLi) := ⟨rfl, rfl, rfl, by decide +kernel, rfl, by decide +kernel, by decide +kernel⟩
theorem ok_li {f : Addr} {fd : FuncData} (F : Fun K "answer_listed" "answer_listed" sLi f fd) (T : Tx K mg C) (B : Bi mg) (Co : Cs mg) (DW : Df P w K mg base "power" 1 ["base", "exponent"] spPower) (DN : Df P w K mg base "colouring_numbered" 1 ["number", "colours", "size"] spNum) (DF : Df P w K mg base "is_first" 2 ["colouring", "group"] (spIsf K)) :
    FnOk P w K mg base CX0 3 f fd ["lot", "colours", "number"] (spLi C) := by
  obtain ⟨fW, fdW, okW, mW, kW, bW⟩ := DW
  obtain ⟨fN, fdN, okN, mN, kN, bN⟩ := DN
  obtain ⟨fF, fdF, okF, mF, kF, bF⟩ := DF
  obtain ⟨tL, mL⟩ := Co.listed
  obtain ⟨tS, mS⟩ := Co.steps
  refine F.ok scLi (fun vs H Q E h => ?_) (fun cdv A outer sh H vs Q E hr h => ?_)
  · obtain ⟨a, z, y, s, k, rfl, _⟩ := h
    rfl
  have hr1 := hr.mono (j := 1) (by decide)
  refine ⟨_, (pss_cons (ps_if (PW.pt (pw_or (pt_cmpR op_lt (pv 1) pe_int (nomark _)) (pw_or (pt_cmpR op_gt (pv 1) (pe_glob (v := .int 3) (by rfl) mL ⟨_, rfl⟩) (nomark _)) (pw_or1 (pt_cmpR op_lt (pv 2) pe_int (nomark _)))))) (pss_one (ps_ret (pe_lst (pa_cons (pe_un un_neg pe_int) pa_nil)))) pss_nil)
    (pss_cons (ps_set (i := 3) scLi.nd rfl (Or.inl rfl) (pe_call okW hr1 (by rfl) mW kW bW .nil pass0 (pa_cons (pv 1) (pa_cons (pe_fld (pv 0) rfl) pa_nil))))
    (pss_cons (ps_if (pt_cmpR op_gt (pe_op op_mul (pe_callB call_len_seq (by rfl) B.len (by decide +kernel) (pa_cons (pe_fld (pv 0) rfl) pa_nil)) (pv 3)) (pe_glob (v := .int 100000) (by rfl) mS ⟨_, rfl⟩) (nomark _)) (pss_one (ps_ret (pe_lst (pa_cons (pe_un un_neg pe_int) pa_nil)))) pss_nil)
    (pss_cons (ps_set (i := 4) scLi.nd rfl (Or.inl rfl) pe_int)
    (pss_cons (ps_for PassesOwn.never rfl (pi_range1 (by rfl) B.range (pa_cons (pv 3) pa_nil)) (pg_name (i := 5) scLi.nd rfl (Or.inl rfl)) (pss_cons (ps_set (i := 6) scLi.nd rfl (Or.inl rfl) (pe_call okN hr1 (by rfl) mN kN bN .nil pass0 (pa_cons (pv 5) (pa_cons (pv 1) (pa_cons (pe_fld (pv 0) rfl) pa_nil)))))
    (pss_one (ps_if (pt_val (pe_call okF hr (by rfl) mF kF bF .nil pass0 (pa_cons (pv 6) (pa_cons (pe_fld (pv 0) rfl) pa_nil)))) (pss_cons (ps_if (pt_cmpR op_eq (pv 4) (pv 2) (nomark _)) (pss_one (ps_ret (pe_callTy call_list_of (by rfl) B.list (by decide +kernel) (pa_cons (pv 6) pa_nil)))) pss_nil)
    (pss_one (ps_aug (i := 4) scLi.nd rfl (Or.inl rfl) pe_int ip_add))) pss_nil))))
    (pss_one (ps_ret (pe_lst (pa_cons (pe_un un_neg pe_int) pa_nil))))))))), ?_⟩
  obtain ⟨a, z, y, s, k, rfl, lt, t⟩ := h
  obtain ⟨dx, tA, gA, LT, LG, ha, li⟩ := id lt
  have eg : (Wp03.theGroup s).length = LG.length := by rw [← li.isG]; simp
  have few := li.few
  have n2 := li.n2
  have lp : 0 < LG.length := by rw [← eg]; exact List.length_pos_of_mem li.grp.ident
  have hP : ∀ q ∈ LG, PermN s.n q.2 := fun q hq => li.grp.perm (li.isG ▸ List.mem_map.mpr ⟨q, hq, rfl⟩)
  have st : Wp03.step s (.list z y) = (s, if z < 1 ∨ 3 < z ∨ y < 0 then [-1] else if 100000 < (Wp03.theGroup s).length * z.toNat ^ s.n then [-5] else match ((Wp03.all z.toNat s.n).filter fun (c : List Nat) => decide (Wp03.first (Wp03.theGroup s) c = c))[y.toNat]? with
      | none => [-3]
      | some c => c.map Wp03.nat) := rfl
  have no : z < 1 ∨ 3 < z ∨ y < 0 → Wp03.step s (.list z y) = (s, [-1]) := fun c => by rw [st, if_pos c]
  refine ⟨_, rfl, _, _, rfl, rfl, _, rfl, ?_⟩
  by_cases c1 : z < 1
  · refine if_true_of (decide_eq_true c1) (if_true_of rfl ?_)
    exact ⟨_, rfl, by decide, fun r nr => t.stays lt (no (.inl c1)) (same_upd nr) nr upd_same⟩
  refine if_false_of (decide_eq_false c1) ⟨_, rfl, _, _, rfl, rfl, _, rfl, ?_⟩
  by_cases c2 : 3 < z
  · refine if_true_of (decide_eq_true c2) (if_true_of rfl ?_)
    exact ⟨_, rfl, by decide, fun r nr => t.stays lt (no (.inr (.inl c2))) (same_upd nr) nr upd_same⟩
  refine if_false_of (decide_eq_false c2) ⟨_, rfl, _, _, rfl, rfl, _, rfl, ?_⟩
  by_cases c3 : y < 0
  · refine if_true_of (decide_eq_true c3) ?_
    exact ⟨_, rfl, by decide, fun r nr => t.stays lt (no (.inr (.inr c3))) (same_upd nr) nr upd_same⟩
  refine if_false_of (decide_eq_false c3) ?_
  rw [if_neg (by omega)] at st
  obtain ⟨c, rfl⟩ : ∃ c : Nat, z = c := ⟨z.toNat, by omega⟩
  obtain ⟨m, rfl⟩ : ∃ m : Nat, y = m := ⟨y.toNat, by omega⟩
  rw [Int.toNat_natCast, Int.toNat_natCast] at st
  refine ⟨_, rfl, _, rfl, a, C, dx, _, _, rfl, ha, T.cl, T.nS, lF_size _ _ _, c, s.n, rfl, by omega, by omega, ?_⟩
  have big : c ^ s.n ≤ 3 ^ 10 := Nat.le_trans (Nat.pow_le_pow_left (by omega) _) (Nat.pow_le_pow_right (by decide) n2)
  have b10 : 3 ^ 10 = 59049 := by decide
  refine ⟨_, rfl, a, C, dx, _, _, rfl, ha, T.cl, T.nG, lF_group _ _ _, gA, _, rfl, .inl (SqL.of li.group), _, rfl, _, _, rfl, rfl, .inl ⟨by rw [refs_len]; omega, by rw [refs_len]; omega⟩, _, _, rfl, rfl, _, rfl, ?_⟩
  rw [refs_len, ← Int.natCast_mul]
  by_cases c4 : 100000 < LG.length * c ^ s.n
  · refine if_true_of (decide_eq_true (by omega)) ?_
    rw [if_pos (by rw [eg]; exact c4)] at st
    exact ⟨_, rfl, by decide, fun r nr => t.stays lt st (same_upd nr) nr upd_same⟩
  refine if_false_of (decide_eq_false (by omega)) ?_
  rw [if_neg (by rw [eg]; exact c4)] at st
  refine ⟨_, rfl, _, rfl, by omega, by omega, ?_⟩
  rw [Int.toNat_natCast]
  have cp : 0 < c := by omega
  generalize hPp : (fun (c : List Nat) => decide (Wp03.first (Wp03.theGroup s) c = c)) = Pp at st
  refine for_range (lo := 0) (n := c ^ s.n) (fun i σ H' => ∃ (v5 v6 : Option V), σ = [some (.ref a), some (.int c), some (.int m), some (.int ((c ^ s.n : Nat) : Int)), some (.int (((((Wp03.all c s.n).take i).filter Pp).length : Nat) : Int)), v5, v6] ∧ Same H H' ∧ (((Wp03.all c s.n).take i).filter Pp).length ≤ m)
    ⟨none, none, rfl, Same.refl H, Nat.zero_le _⟩ ?_ ?_
  · rintro i σ H' hi ⟨v5, v6, rfl, s1, past⟩
    rw [Int.zero_add]
    refine ⟨_, rfl, _, rfl, _, rfl, a, C, dx, _, _, rfl, s1 _ _ ha, T.cl, T.nS, lF_size _ _ _, i, c, s.n, rfl, cp, by omega, by omega, fun H2 r s2 nr hr2 => ?_⟩
    rw [Nat.mod_eq_of_lt hi] at hr2
    have s12 := s1.trans s2
    have dl := dig_len c s.n i
    have at_ := all_get cp s.n i hi
    refine ⟨_, rfl, _, rfl, a, C, dx, _, _, rfl, s12 _ _ ha, T.cl, T.nG, lF_group _ _ _, r, gA, dig c s.n i, LG, s.n, rfl, SqT.of hr2, SqL.of (s12 _ _ li.group), fun q hq => SqT.of (s12 _ _ (li.tG q hq)), hP, dl, by omega, fun H3 s3 => ⟨_, rfl, ?_⟩⟩
    have s13 := s12.trans s3
    have eP : isF (dig c s.n i) LG = Pp (dig c s.n i) := by rw [isF_first li dl, ← hPp]
    have fs := filter_take_succ (P := Pp) at_
    rw [eP]
    cases e : Pp (dig c s.n i) with
    | false =>
      rw [e, if_neg Bool.false_ne_true, Nat.add_zero] at fs
      refine if_false_of rfl ⟨some (.int i), some (.ref r), ?_, s13, by rw [fs]; exact past⟩
      rw [fs]; rfl
    | true =>
      rw [e, if_pos rfl] at fs
      refine if_true_of rfl ⟨_, rfl, _, rfl, rfl, _, rfl, ?_⟩
      by_cases c5 : (((Wp03.all c s.n).take i).filter Pp).length = m
      · refine if_true_of (decide_eq_true (by rw [c5])) ⟨_, rfl, r, _, rfl, .inr (SqT.of (s3 _ _ hr2)), fun q nq => ?_⟩
        have fa := filter_at (P := Pp) at_ e
        rw [c5] at fa
        rw [fa] at st
        refine t.stays lt st (same_upd2 s13 (s13.free nq)) (s13.free nq) ?_
        rw [upd_same, List.map_map]; rfl
      · refine if_false_of (decide_eq_false (fun w => c5 (by have : (((((Wp03.all c s.n).take i).filter Pp).length : Nat) : Int) = (m : Int) := V.int.inj w; omega))) ⟨_, rfl, _, _, rfl, rfl, some (.int i), some (.ref r), ?_, s13, by rw [fs]; omega⟩
        rw [fs]; rfl
  · rintro σ H' ⟨v5, v6, rfl, s1, past⟩
    have el : (Wp03.all c s.n).take (c ^ s.n) = Wp03.all c s.n := List.take_of_length_le (by rw [all_len]; exact Nat.le_refl _)
    rw [el] at past
    rw [List.getElem?_eq_none past] at st
    exact ⟨_, rfl, by decide, fun r nr => t.stays lt st (same_upd2 s1 (s1.free nr)) (s1.free nr) upd_same⟩
/-! ### answer_alike -/
abbrev sAl : Stmt := top 36
def spAl (K : PySem.W.Frag) (C : Addr) : Sp := fun vs H Q _ => ∃ (a b b' : Addr) (ns ms : List Int) (s : Wp03.State) (k : Nat), vs = [.ref a, .ref b, .ref b'] ∧ LotAt C H a s k ∧ SqL K H b (ns.map V.int) ∧ ns.length ≤ 63 ∧ SqL K H b' (ms.map V.int) ∧ ms.length ≤ 63 ∧ Told C H Q a s k (.alike ns ms)
theorem scAl : FnScope ["lot", "numbers", "others", "other", "exchange"] ["lot", "numbers", "others"] (defScope sAl) := ⟨rfl, rfl, rfl, by decide +kernel, rfl, by decide +kernel, by decide +kernel⟩
theorem ok_al {f : Addr} {fd : FuncData} (F : Fun K "answer_alike" "answer_alike" sAl f fd) (T : Tx K mg C) (B : Bi mg) (DC : Df P w K mg base "is_colouring" 2 ["numbers", "size"] (spIsc K)) (DM : Df P w K mg base "moved" 1 ["colouring", "exchange"] (spMov K)) :
    FnOk P w K mg base CX0 3 f fd ["lot", "numbers", "others"] (spAl K C) := by
  obtain ⟨fC, fdC, okC, mC, kC, bC⟩ := DC
  obtain ⟨fM, fdM, okM, mM, kM, bM⟩ := DM
  refine F.ok scAl (fun vs H Q E h => ?_) (fun cdv A outer sh H vs Q E hr h => ?_)
  · obtain ⟨a, b, b', ns, ms, s, k, rfl, _⟩ := h
    rfl
  have hr1 := hr.mono (j := 1) (by decide)
  refine ⟨_, (pss_cons (ps_if (PW.pt (pw_or (pt_not (pt_val (pe_call okC hr (by rfl) mC kC bC .nil pass0 (pa_cons (pv 1) (pa_cons (pe_fld (pv 0) rfl) pa_nil))))) (pw_or1 (pt_not (pt_val (pe_call okC hr (by rfl) mC kC bC .nil pass0 (pa_cons (pv 2) (pa_cons (pe_fld (pv 0) rfl) pa_nil)))))))) (pss_one (ps_ret (pe_lst (pa_cons (pe_un un_neg pe_int) pa_nil)))) pss_nil)
    (pss_cons (ps_set (i := 3) scAl.nd rfl (Or.inl rfl) (pe_callTy call_tuple_of (by rfl) B.tuple (by decide +kernel) (pa_cons (pv 2) pa_nil)))
    (pss_cons (ps_for PassesOwn.never rfl (pi_list (pe_fld (pv 0) rfl)) (pg_name (i := 4) scAl.nd rfl (Or.inl rfl)) (pss_one (ps_if (pt_cmpR (op_eqD hr.units) (pe_call okM hr1 (by rfl) mM kM bM .nil pass0 (pa_cons (pv 1) (pa_cons (pv 4) pa_nil))) (pv 3) (nomark _)) (pss_one (ps_ret (pe_op op_cat (pe_lst (pa_cons pe_int pa_nil)) (pe_callTy call_list_of (by rfl) B.list (by decide +kernel) (pa_cons (pv 4) pa_nil))))) pss_nil)))
    (pss_one (ps_ret (pe_lst (pa_cons pe_int pa_nil))))))), ?_⟩
  obtain ⟨a, b, b', ns, ms, s, k, rfl, lt, hS, hn, hS', hn', t⟩ := h
  obtain ⟨dx, tA, gA, LT, LG, ha, li⟩ := id lt
  have n2 := li.n2
  have hP : ∀ q ∈ LG, PermN s.n q.2 := fun q hq => li.grp.perm (li.isG ▸ List.mem_map.mpr ⟨q, hq, rfl⟩)
  have st0 : Wp03.step s (.alike ns ms) = (s, match Wp03.colouringOf s.n ns, Wp03.colouringOf s.n ms with
    | some a, some b => (match (Wp03.theGroup s).find? fun (p : WpBase.Perm) => decide (Wp03.moved a p = b) with
      | none => [0]
      | some p => 1 :: p.map Wp03.nat)
    | _, _ => [-1]) := rfl
  refine ⟨_, rfl, _, rfl, a, C, dx, _, _, rfl, ha, T.cl, T.nS, lF_size _ _ _, b, ns, s.n, rfl, hS, by omega, fun H1 s1 => ⟨_, rfl, ?_⟩⟩
  cases c0 : isCol s.n ns with
  | false =>
    refine if_true_of rfl (if_true_of rfl ?_)
    have st : Wp03.step s (.alike ns ms) = (s, [-1]) := by rw [st0, isCol_no c0]
    exact ⟨_, rfl, by decide, fun r nr => t.stays lt st (same_upd2 s1 (s1.free nr)) (s1.free nr) upd_same⟩
  | true =>
  refine if_false_of rfl ⟨_, rfl, _, rfl, a, C, dx, _, _, rfl, s1 _ _ ha, T.cl, T.nS, lF_size _ _ _, b', ms, s.n, rfl, s1.seq hS', by omega, fun H2 s2 => ⟨_, rfl, ?_⟩⟩
  have s12 := s1.trans s2
  obtain ⟨ec, cl, cb, back⟩ := isCol_yes c0
  cases c1 : isCol s.n ms with
  | false =>
    refine if_true_of rfl ?_
    have st : Wp03.step s (.alike ns ms) = (s, [-1]) := by rw [st0, ec, isCol_no c1]
    exact ⟨_, rfl, by decide, fun r nr => t.stays lt st (same_upd2 s12 (s12.free nr)) (s12.free nr) upd_same⟩
  | true =>
  refine if_false_of rfl ?_
  obtain ⟨ec', cl', cb', back'⟩ := isCol_yes c1
  have eV := ints_tV back
  have eV' := ints_tV back'
  generalize hcd : ns.map Int.toNat = c at ec cl cb eV
  generalize hcd' : ms.map Int.toNat = c' at ec' cl' cb' eV'
  rw [eV] at hS
  rw [eV'] at hS'
  rw [ec, ec'] at st0
  have st0 : Wp03.step s (.alike ns ms) = (s, match (Wp03.theGroup s).find? fun (p : WpBase.Perm) => decide (Wp03.moved c p = c') with
      | none => [0]
      | some p => 1 :: p.map Wp03.nat) := st0
  refine ⟨_, rfl, b', _, rfl, .inl ⟨s12.seq hS', fun o no => ?_⟩⟩
  have s3 : Same H (upd H2 o (.tup (tV c'))) := same_upd2 s12 (s12.free no)
  have ho : upd H2 o (.tup (tV c')) o = some (.tup (tV c')) := upd_same
  generalize upd H2 o (.tup (tV c')) = H3 at s3 ho ⊢
  refine ⟨_, rfl, a, C, dx, _, _, rfl, s3 _ _ ha, T.cl, T.nG, lF_group _ _ _, gA, rfl, ⟨_, SqL.of (s3 _ _ li.group)⟩, for_list (K := K) (a := gA) (xs := refs LG) (fun i σ H' => ∃ v4 : Option V, σ = [some (.ref a), some (.ref b), some (.ref b'), some (.ref o), v4] ∧ Same H H' ∧ H' o = some (.tup (tV c')) ∧ ∀ j y, j < i → LG[j]? = some y → Wp03.moved c y.2 ≠ c')
    ⟨none, rfl, s3, ho, fun j y hj => by omega⟩ (fun i σ H' _ ⟨_, _, h, _⟩ => SqL.of (h _ _ li.group)) ?_ ?_⟩
  · rintro i x σ H' hi ⟨v4, rfl, s4, ho4, past⟩
    obtain ⟨y, hy, rfl⟩ := refs_get hi
    have hym := List.mem_of_getElem? hy
    refine ⟨_, rfl, _, rfl, b, y.1, c, y.2, s.n, rfl, .inl (s4.seq hS), SqT.of (s4 _ _ (li.tG y hym)), hP y hym, cl, by omega, fun H5 r s5 nr hr5 => ⟨_, rfl, tD (Wp03.moved c y.2), tD c', dp_tup (SqT.of hr5), dp_tup (SqT.of (s5 _ _ ho4)), tD_shaped _, tD_shaped _, _, rfl, ?_⟩⟩
    rw [tD_eqv]
    have s6 := s4.trans s5
    by_cases e : Wp03.moved c y.2 = c'
    · refine if_true_of (decide_eq_true e) ⟨(by show 1 ≤ sizeLine; decide), fun l1 nl1 => ⟨_, rfl, y.1, _, rfl, .inr (SqT.of (same_upd nl1 _ _ (s6 _ _ (li.tG y hym)))), fun l2 nl2 => ?_⟩⟩
      have l12 : l1 ≠ l2 := fun z => by rw [← z, upd_same] at nl2; cases nl2
      refine ⟨l1, l2, _, _, rfl, rfl, by rw [upd_ne l12, upd_same], upd_same, ?_, fun q nq => ?_⟩
      · rw [tV_len, (hP y hym).len, sizeLine_eq]; simp; omega
      have s7 := s6.trans ((same_upd (o := .lst [V.int 1]) nl1).trans (same_upd (o := .lst (tV y.2)) nl2))
      have ef : (Wp03.theGroup s).find? (fun (p : WpBase.Perm) => decide (Wp03.moved c p = c')) = some y.2 := by
        refine find_at (i := i) (by rw [← li.isG, List.getElem?_map, hy]; rfl) (decide_eq_true e) fun j p hj hp => ?_
        rw [← li.isG, List.getElem?_map] at hp
        obtain ⟨z, hz, rfl⟩ := Option.map_eq_some_iff.mp hp
        exact decide_eq_false (past j z hj hz)
      have st : Wp03.step s (.alike ns ms) = (s, 1 :: y.2.map Wp03.nat) := by rw [st0, ef]
      refine t.stays lt st (same_upd2 s7 (s7.free nq)) (s7.free nq) ?_
      rw [upd_same, List.map_cons, List.map_map]; rfl
    · refine if_false_of (decide_eq_false e) ⟨_, rfl, s6, s5 _ _ ho4, fun j z hj hz => ?_⟩
      by_cases w : j = i
      · subst w
        rw [hy] at hz
        cases hz
        exact e
      · exact past j z (by omega) hz
  · rintro σ H' ⟨v4, rfl, s4, ho4, past⟩
    rw [refs_len] at past
    have ef : (Wp03.theGroup s).find? (fun (p : WpBase.Perm) => decide (Wp03.moved c p = c')) = none := by
      rw [List.find?_eq_none]
      intro p hp
      rw [← li.isG] at hp
      obtain ⟨y, hy, rfl⟩ := List.mem_map.mp hp
      obtain ⟨j, hj, e⟩ := List.mem_iff_getElem.mp hy
      have := past j y hj (by rw [List.getElem?_eq_getElem hj, e])
      simpa using this
    have st : Wp03.step s (.alike ns ms) = (s, [0]) := by rw [st0, ef]
    exact ⟨(by show 1 ≤ sizeLine; decide), fun r nr => t.stays lt st (same_upd2 s4 (s4.free nr)) (s4.free nr) upd_same⟩
/-! ### answer_member -/
abbrev sMe : Stmt := top 37
def spMe (K : PySem.W.Frag) (C : Addr) : Sp := fun vs H Q _ => ∃ (a b : Addr) (ns : List Int) (s : Wp03.State) (k : Nat), vs = [.ref a, .ref b] ∧ LotAt C H a s k ∧ SqL K H b (ns.map V.int) ∧ ns.length ≤ 63 ∧ Told C H Q a s k (.member ns)
theorem scMe : FnScope ["lot", "numbers", "exchange"] ["lot", "numbers"] (defScope sMe) := ⟨rfl, rfl, rfl, by decide +kernel, rfl, by decide +kernel, by decide +kernel⟩
theorem ok_me {f : Addr} {fd : FuncData} (F : Fun K "answer_member" "answer_member" sMe f fd) (T : Tx K mg C) (B : Bi mg) (DE : Df P w K mg base "is_exchange" 1 ["numbers", "size"] (spIsEx K)) (DT : Df P w K mg base "times_till_all_stays" 2 ["exchange"] (spTim K)) :
    FnOk P w K mg base CX0 3 f fd ["lot", "numbers"] (spMe K C) := by
  obtain ⟨fE, fdE, okE, mE, kE, bE⟩ := DE
  obtain ⟨fT, fdT, okT, mT, kT, bT⟩ := DT
  refine F.ok scMe (fun vs H Q E h => ?_) (fun cdv A outer sh H vs Q E hr h => ?_)
  · obtain ⟨a, b, ns, s, k, rfl, _⟩ := h
    rfl
  have hr1 := hr.mono (j := 1) (by decide)
  refine ⟨_, (pss_cons (ps_if (pt_not (pt_val (pe_call okE hr1 (by rfl) mE kE bE .nil pass0 (pa_cons (pv 1) (pa_cons (pe_fld (pv 0) rfl) pa_nil))))) (pss_one (ps_ret (pe_lst (pa_cons (pe_un un_neg pe_int) pa_nil)))) pss_nil)
    (pss_cons (ps_set (i := 2) scMe.nd rfl (Or.inl rfl) (pe_callTy call_tuple_of (by rfl) B.tuple (by decide +kernel) (pa_cons (pv 1) pa_nil)))
    (pss_one (ps_ret (pe_lst (pa_cons (pe_ifExp (pt_cmpR (op_inD (room65 hr)) (pv 2) (pe_fld (pv 0) rfl) rfl) pe_int pe_int) (pa_cons (pe_call okT hr (by rfl) mT kT bT .nil pass0 (pa_cons (pv 2) pa_nil)) pa_nil))))))), ?_⟩
  obtain ⟨a, b, ns, s, k, rfl, lt, hS, hn, t⟩ := h
  obtain ⟨dx, tA, gA, LT, LG, ha, li⟩ := id lt
  have n2 := li.n2
  have st0 : Wp03.step s (.member ns) = (s, match Wp03.permOf s.n ns with
    | none => [-1]
    | some p => [if (Wp03.theGroup s).contains p = true then 1 else 0, Wp03.nat (WpBase.order p)]) := rfl
  refine ⟨_, rfl, _, rfl, a, C, dx, _, _, rfl, ha, T.cl, T.nS, lF_size _ _ _, b, ns, s.n, rfl, hS, by omega, by omega, fun H1 s1 => ⟨_, rfl, ?_⟩⟩
  cases c : isEx s.n ns with
  | false =>
    refine if_true_of rfl ?_
    have st : Wp03.step s (.member ns) = (s, [-1]) := by rw [st0, isEx_no c]
    exact ⟨_, rfl, by decide, fun r nr => t.stays lt st (same_upd2 s1 (s1.free nr)) (s1.free nr) upd_same⟩
  | true =>
  refine if_false_of rfl ?_
  obtain ⟨e1, hp, e3⟩ := isEx_perm c
  generalize hpd : ns.map Int.toNat = p at e1 hp e3
  rw [e1] at st0
  refine ⟨_, rfl, b, _, rfl, .inl ⟨s1.seq hS, fun x nx => ?_⟩⟩
  rw [e3]
  have s2 : Same H (upd H1 x (.tup (tV p))) := same_upd2 s1 (s1.free nx)
  have hx2 : upd H1 x (.tup (tV p)) x = some (.tup (tV p)) := upd_same
  generalize upd H1 x (.tup (tV p)) = H2 at s2 hx2 ⊢
  have li2 := li.keep (k' := k) (fun b o e _ => s2 b o e) (Nat.le_refl k)
  refine ⟨_, rfl, _, rfl, a, C, dx, _, _, rfl, s2 _ _ ha, T.cl, T.nG, lF_group _ _ _, tD p, LG.map (fun q => tD q.2), dp_tup (SqT.of hx2), .lst (SqL.of li2.group) (dp_tups fun q hq => SqT.of (li2.tG q hq)), tD_shaped p, tDs_shaped (fun q => q.2) LG, _, rfl, ?_⟩
  rw [tD_any, li.isG]
  have fin : ∀ v : Int, v = (if (Wp03.theGroup s).contains p = true then 1 else 0) → ∃ v1, [some (V.ref a), some (V.ref b), some (V.ref x)][2]? = some (some v1) ∧ spTim K ([v1]) H2 (fun y H3 => ([V.int v, y].length ≤ sizeLine ∧ ∀ q, H3 q = none → Q (.ref q) (upd H3 q (.lst [V.int v, y])))) E := fun v hv => by
    refine ⟨_, rfl, x, p, s.n, rfl, SqT.of hx2, hp, by omega, fun H3 s3 => ⟨(by show 2 ≤ sizeLine; decide), fun q nq => ?_⟩⟩
    have s4 := s2.trans s3
    refine t.stays lt st0 (same_upd2 s4 (s4.free nq)) (s4.free nq) ?_
    rw [upd_same, hv]; rfl
  by_cases c2 : p ∈ Wp03.theGroup s
  · refine if_true_of (decide_eq_true c2) (fin 1 ?_)
    rw [if_pos (List.contains_iff_mem.mpr c2)]
  · refine if_false_of (decide_eq_false c2) (fin 0 ?_)
    rw [if_neg (fun z => c2 (List.contains_iff_mem.mp z))]
end
end Cc
set_option Elab.async false
set_option maxRecDepth 100000
set_option maxHeartbeats 4000000
set_option pp.maxSteps 200
namespace Cc
open PySem PySem.Spec PyProof.Rows L2
/-! ### answer_call -/
abbrev sCall : Stmt := top 38
def spCall (K : PySem.W.Frag) (C : Addr) : Sp := fun vs H Q _ => ∃ (a b l : Addr) (p : Int) (ns : List Int) (L : List (Addr × List Int)) (s : Wp03.State) (k : Nat) (c : Wp03.Call), vs = [.ref a, .int p, .ref b, .ref l] ∧ LotAt C H a s k ∧ SqL K H b (ns.map V.int) ∧ SqL K H l (L.map fun q => V.ref q.1) ∧ (∀ q ∈ L, SqL K H q.1 (q.2.map V.int)) ∧ k < 2000 ∧ Fit p ns (L.map (·.2)) ∧ toCall p ns (L.map (·.2)) = some c ∧ Told C H Q a s k c
section
variable {P : Program} {w : World} {K : PySem.W.Frag} {mg : Str → Option Value} {base : Heap} {C : Addr}
theorem scCall : FnScope ["lot", "call", "numbers", "lists"] ["lot", "call", "numbers", "lists"] (defScope sCall) := ⟨rfl, rfl, rfl, by decide +kernel, rfl, by decide +kernel, by decide +kernel⟩
theorem ok_call {f : Addr} {fd : FuncData} (F : Fun K "answer_call" "answer_call" sCall f fd) (DPl : Df P w K mg base "answer_places" 2 ["lot", "size"] (spPlaces C)) (DTu : Df P w K mg base "answer_turn" 3 ["lot", "numbers"] (spTurn K C)) (DGr : Df P w K mg base "answer_group" 1 ["lot"] (spGrp C)) (DOr : Df P w K mg base "answer_orbits" 2 ["lot"] (spOrbs C)) (DKi : Df P w K mg base "answer_kinds" 3 ["lot"] (spKin C)) (DCo : Df P w K mg base "answer_count" 3 ["lot", "colours"] (spCnt C)) (DBy : Df P w K mg base "answer_by" 3 ["lot", "numbers"] (spBy K C)) (DFi : Df P w K mg base "answer_first" 3 ["lot", "numbers"] (spFi K C)) (DLi : Df P w K mg base "answer_listed" 3 ["lot", "colours", "number"] (spLi C)) (DAl : Df P w K mg base "answer_alike" 3 ["lot", "numbers", "others"] (spAl K C)) (DMe : Df P w K mg base "answer_member" 3 ["lot", "numbers"] (spMe K C)) :
    FnOk P w K mg base CX0 4 f fd ["lot", "call", "numbers", "lists"] (spCall K C) := by
  obtain ⟨fPl, fdPl, okPl, mPl, kPl, bPl⟩ := DPl
  obtain ⟨fTu, fdTu, okTu, mTu, kTu, bTu⟩ := DTu
  obtain ⟨fGr, fdGr, okGr, mGr, kGr, bGr⟩ := DGr
  obtain ⟨fOr, fdOr, okOr, mOr, kOr, bOr⟩ := DOr
  obtain ⟨fKi, fdKi, okKi, mKi, kKi, bKi⟩ := DKi
  obtain ⟨fCo, fdCo, okCo, mCo, kCo, bCo⟩ := DCo
  obtain ⟨fBy, fdBy, okBy, mBy, kBy, bBy⟩ := DBy
  obtain ⟨fFi, fdFi, okFi, mFi, kFi, bFi⟩ := DFi
  obtain ⟨fLi, fdLi, okLi, mLi, kLi, bLi⟩ := DLi
  obtain ⟨fAl, fdAl, okAl, mAl, kAl, bAl⟩ := DAl
  obtain ⟨fMe, fdMe, okMe, mMe, kMe, bMe⟩ := DMe
  refine F.ok scCall (fun vs H Q E h => ?_) (fun cdv A outer sh H vs Q E hr h => ?_)
  · obtain ⟨a, b, l, p, ns, L, s, k, c, rfl, _⟩ := h
    rfl
  have hr1 := hr.mono (j := 1) (by decide)
  have hr2 := hr.mono (j := 2) (by decide)
  refine ⟨_, (pss_cons (ps_if (pt_cmpR op_eq (pv 1) pe_int (nomark _)) (pss_one (ps_ret (pe_call okPl hr2 (by rfl) mPl kPl bPl .nil pass0 (pa_cons (pv 0) (pa_cons (pe_ix ix_list (pv 2) pe_int (fun _ _ => rfl)) pa_nil))))) pss_nil)
    (pss_cons (ps_if (pt_cmpR op_eq (pv 1) pe_int (nomark _)) (pss_one (ps_ret (pe_call okTu hr (by rfl) mTu kTu bTu .nil pass0 (pa_cons (pv 0) (pa_cons (pv 2) pa_nil))))) pss_nil)
    (pss_cons (ps_if (pt_cmpR op_eq (pv 1) pe_int (nomark _)) (pss_one (ps_ret (pe_call okGr hr1 (by rfl) mGr kGr bGr .nil pass0 (pa_cons (pv 0) pa_nil)))) pss_nil)
    (pss_cons (ps_if (pt_cmpR op_eq (pv 1) pe_int (nomark _)) (pss_one (ps_ret (pe_call okOr hr2 (by rfl) mOr kOr bOr .nil pass0 (pa_cons (pv 0) pa_nil)))) pss_nil)
    (pss_cons (ps_if (pt_cmpR op_eq (pv 1) pe_int (nomark _)) (pss_one (ps_ret (pe_call okKi hr (by rfl) mKi kKi bKi .nil pass0 (pa_cons (pv 0) pa_nil)))) pss_nil)
    (pss_cons (ps_if (pt_cmpR op_eq (pv 1) pe_int (nomark _)) (pss_one (ps_ret (pe_call okCo hr (by rfl) mCo kCo bCo .nil pass0 (pa_cons (pv 0) (pa_cons (pe_ix ix_list (pv 2) pe_int (fun _ _ => rfl)) pa_nil))))) pss_nil)
    (pss_cons (ps_if (pt_cmpR op_eq (pv 1) pe_int (nomark _)) (pss_one (ps_ret (pe_call okBy hr (by rfl) mBy kBy bBy .nil pass0 (pa_cons (pv 0) (pa_cons (pv 2) pa_nil))))) pss_nil)
    (pss_cons (ps_if (pt_cmpR op_eq (pv 1) pe_int (nomark _)) (pss_one (ps_ret (pe_call okFi hr (by rfl) mFi kFi bFi .nil pass0 (pa_cons (pv 0) (pa_cons (pv 2) pa_nil))))) pss_nil)
    (pss_cons (ps_if (pt_cmpR op_eq (pv 1) pe_int (nomark _)) (pss_one (ps_ret (pe_call okLi hr (by rfl) mLi kLi bLi .nil pass0 (pa_cons (pv 0) (pa_cons (pe_ix ix_list (pv 2) pe_int (fun _ _ => rfl)) (pa_cons (pe_ix ix_list (pv 2) pe_int (fun _ _ => rfl)) pa_nil)))))) pss_nil)
    (pss_cons (ps_if (pt_cmpR op_eq (pv 1) pe_int (nomark _)) (pss_one (ps_ret (pe_call okAl hr (by rfl) mAl kAl bAl .nil pass0 (pa_cons (pv 0) (pa_cons (pe_ix ix_list (pv 3) pe_int (fun _ _ => rfl)) (pa_cons (pe_ix ix_list (pv 3) pe_int (fun _ _ => rfl)) pa_nil)))))) pss_nil)
    (pss_cons (ps_if (pt_cmpR op_eq (pv 1) pe_int (nomark _)) (pss_one (ps_ret (pe_call okMe hr (by rfl) mMe kMe bMe .nil pass0 (pa_cons (pv 0) (pa_cons (pv 2) pa_nil))))) pss_nil)
    (pss_one ps_never)))))))))))), ?_⟩
  obtain ⟨a, b, l, p, ns, L, s, k, c, rfl, lt, hS, hLs, hR, hk, fit, tc, t⟩ := h
  generalize hL : L.map (·.2) = rws at fit tc
  cases fit with
  | places z =>
    have tc : some (Wp03.Call.places z) = some c := tc
    cases tc
    refine ⟨_, rfl, rfl, _, rfl, if_true_of (decide_eq_true rfl) ?_⟩
    exact ⟨_, rfl, _, rfl, b, _, _, _, rfl, rfl, hS, atI_nat (j := 0) rfl, a, z, s, k, rfl, lt, t⟩
  | turn _ hl =>
    have tc : some (Wp03.Call.turn ns) = some c := tc
    cases tc
    refine ⟨_, rfl, rfl, _, rfl, if_false_of (decide_eq_false (fun z => absurd (V.int.inj z) (by decide))) ?_⟩
    refine ⟨_, rfl, rfl, _, rfl, if_true_of (decide_eq_true rfl) ?_⟩
    exact ⟨_, rfl, _, rfl, a, b, ns, s, k, rfl, lt, hS, by omega, hk, t⟩
  | group =>
    have tc : some (Wp03.Call.group) = some c := tc
    cases tc
    refine ⟨_, rfl, rfl, _, rfl, if_false_of (decide_eq_false (fun z => absurd (V.int.inj z) (by decide))) ?_⟩
    refine ⟨_, rfl, rfl, _, rfl, if_false_of (decide_eq_false (fun z => absurd (V.int.inj z) (by decide))) ?_⟩
    refine ⟨_, rfl, rfl, _, rfl, if_true_of (decide_eq_true rfl) ?_⟩
    exact ⟨_, rfl, a, s, k, rfl, lt, t⟩
  | orbits =>
    have tc : some (Wp03.Call.orbits) = some c := tc
    cases tc
    refine ⟨_, rfl, rfl, _, rfl, if_false_of (decide_eq_false (fun z => absurd (V.int.inj z) (by decide))) ?_⟩
    refine ⟨_, rfl, rfl, _, rfl, if_false_of (decide_eq_false (fun z => absurd (V.int.inj z) (by decide))) ?_⟩
    refine ⟨_, rfl, rfl, _, rfl, if_false_of (decide_eq_false (fun z => absurd (V.int.inj z) (by decide))) ?_⟩
    refine ⟨_, rfl, rfl, _, rfl, if_true_of (decide_eq_true rfl) ?_⟩
    exact ⟨_, rfl, a, s, k, rfl, lt, t⟩
  | kinds =>
    have tc : some (Wp03.Call.kinds) = some c := tc
    cases tc
    refine ⟨_, rfl, rfl, _, rfl, if_false_of (decide_eq_false (fun z => absurd (V.int.inj z) (by decide))) ?_⟩
    refine ⟨_, rfl, rfl, _, rfl, if_false_of (decide_eq_false (fun z => absurd (V.int.inj z) (by decide))) ?_⟩
    refine ⟨_, rfl, rfl, _, rfl, if_false_of (decide_eq_false (fun z => absurd (V.int.inj z) (by decide))) ?_⟩
    refine ⟨_, rfl, rfl, _, rfl, if_false_of (decide_eq_false (fun z => absurd (V.int.inj z) (by decide))) ?_⟩
    refine ⟨_, rfl, rfl, _, rfl, if_true_of (decide_eq_true rfl) ?_⟩
    exact ⟨_, rfl, a, s, k, rfl, lt, t⟩
  | count z =>
    have tc : some (Wp03.Call.count z) = some c := tc
    cases tc
    refine ⟨_, rfl, rfl, _, rfl, if_false_of (decide_eq_false (fun z => absurd (V.int.inj z) (by decide))) ?_⟩
    refine ⟨_, rfl, rfl, _, rfl, if_false_of (decide_eq_false (fun z => absurd (V.int.inj z) (by decide))) ?_⟩
    refine ⟨_, rfl, rfl, _, rfl, if_false_of (decide_eq_false (fun z => absurd (V.int.inj z) (by decide))) ?_⟩
    refine ⟨_, rfl, rfl, _, rfl, if_false_of (decide_eq_false (fun z => absurd (V.int.inj z) (by decide))) ?_⟩
    refine ⟨_, rfl, rfl, _, rfl, if_false_of (decide_eq_false (fun z => absurd (V.int.inj z) (by decide))) ?_⟩
    refine ⟨_, rfl, rfl, _, rfl, if_true_of (decide_eq_true rfl) ?_⟩
    exact ⟨_, rfl, _, rfl, b, _, _, _, rfl, rfl, hS, atI_nat (j := 0) rfl, a, z, s, k, rfl, lt, t⟩
  | by_ _ hl =>
    have tc : some (Wp03.Call.by_ ns) = some c := tc
    cases tc
    refine ⟨_, rfl, rfl, _, rfl, if_false_of (decide_eq_false (fun z => absurd (V.int.inj z) (by decide))) ?_⟩
    refine ⟨_, rfl, rfl, _, rfl, if_false_of (decide_eq_false (fun z => absurd (V.int.inj z) (by decide))) ?_⟩
    refine ⟨_, rfl, rfl, _, rfl, if_false_of (decide_eq_false (fun z => absurd (V.int.inj z) (by decide))) ?_⟩
    refine ⟨_, rfl, rfl, _, rfl, if_false_of (decide_eq_false (fun z => absurd (V.int.inj z) (by decide))) ?_⟩
    refine ⟨_, rfl, rfl, _, rfl, if_false_of (decide_eq_false (fun z => absurd (V.int.inj z) (by decide))) ?_⟩
    refine ⟨_, rfl, rfl, _, rfl, if_false_of (decide_eq_false (fun z => absurd (V.int.inj z) (by decide))) ?_⟩
    refine ⟨_, rfl, rfl, _, rfl, if_true_of (decide_eq_true rfl) ?_⟩
    exact ⟨_, rfl, _, rfl, a, b, ns, s, k, rfl, lt, hS, by omega, t⟩
  | first _ hl =>
    have tc : some (Wp03.Call.first ns) = some c := tc
    cases tc
    refine ⟨_, rfl, rfl, _, rfl, if_false_of (decide_eq_false (fun z => absurd (V.int.inj z) (by decide))) ?_⟩
    refine ⟨_, rfl, rfl, _, rfl, if_false_of (decide_eq_false (fun z => absurd (V.int.inj z) (by decide))) ?_⟩
    refine ⟨_, rfl, rfl, _, rfl, if_false_of (decide_eq_false (fun z => absurd (V.int.inj z) (by decide))) ?_⟩
    refine ⟨_, rfl, rfl, _, rfl, if_false_of (decide_eq_false (fun z => absurd (V.int.inj z) (by decide))) ?_⟩
    refine ⟨_, rfl, rfl, _, rfl, if_false_of (decide_eq_false (fun z => absurd (V.int.inj z) (by decide))) ?_⟩
    refine ⟨_, rfl, rfl, _, rfl, if_false_of (decide_eq_false (fun z => absurd (V.int.inj z) (by decide))) ?_⟩
    refine ⟨_, rfl, rfl, _, rfl, if_false_of (decide_eq_false (fun z => absurd (V.int.inj z) (by decide))) ?_⟩
    refine ⟨_, rfl, rfl, _, rfl, if_true_of (decide_eq_true rfl) ?_⟩
    exact ⟨_, rfl, _, rfl, a, b, ns, s, k, rfl, lt, hS, by omega, t⟩
  | list z y =>
    have tc : some (Wp03.Call.list z y) = some c := tc
    cases tc
    refine ⟨_, rfl, rfl, _, rfl, if_false_of (decide_eq_false (fun z => absurd (V.int.inj z) (by decide))) ?_⟩
    refine ⟨_, rfl, rfl, _, rfl, if_false_of (decide_eq_false (fun z => absurd (V.int.inj z) (by decide))) ?_⟩
    refine ⟨_, rfl, rfl, _, rfl, if_false_of (decide_eq_false (fun z => absurd (V.int.inj z) (by decide))) ?_⟩
    refine ⟨_, rfl, rfl, _, rfl, if_false_of (decide_eq_false (fun z => absurd (V.int.inj z) (by decide))) ?_⟩
    refine ⟨_, rfl, rfl, _, rfl, if_false_of (decide_eq_false (fun z => absurd (V.int.inj z) (by decide))) ?_⟩
    refine ⟨_, rfl, rfl, _, rfl, if_false_of (decide_eq_false (fun z => absurd (V.int.inj z) (by decide))) ?_⟩
    refine ⟨_, rfl, rfl, _, rfl, if_false_of (decide_eq_false (fun z => absurd (V.int.inj z) (by decide))) ?_⟩
    refine ⟨_, rfl, rfl, _, rfl, if_false_of (decide_eq_false (fun z => absurd (V.int.inj z) (by decide))) ?_⟩
    refine ⟨_, rfl, rfl, _, rfl, if_true_of (decide_eq_true rfl) ?_⟩
    exact ⟨_, rfl, _, rfl, b, _, _, _, rfl, rfl, hS, atI_nat (j := 0) rfl, _, rfl, b, _, _, _, rfl, rfl, hS, atI_nat (j := 1) rfl, a, z, y, s, k, rfl, lt, t⟩
  | alike r q hl hl2 =>
    have tc : some (Wp03.Call.alike r q) = some c := tc
    cases tc
    refine ⟨_, rfl, rfl, _, rfl, if_false_of (decide_eq_false (fun z => absurd (V.int.inj z) (by decide))) ?_⟩
    refine ⟨_, rfl, rfl, _, rfl, if_false_of (decide_eq_false (fun z => absurd (V.int.inj z) (by decide))) ?_⟩
    refine ⟨_, rfl, rfl, _, rfl, if_false_of (decide_eq_false (fun z => absurd (V.int.inj z) (by decide))) ?_⟩
    refine ⟨_, rfl, rfl, _, rfl, if_false_of (decide_eq_false (fun z => absurd (V.int.inj z) (by decide))) ?_⟩
    refine ⟨_, rfl, rfl, _, rfl, if_false_of (decide_eq_false (fun z => absurd (V.int.inj z) (by decide))) ?_⟩
    refine ⟨_, rfl, rfl, _, rfl, if_false_of (decide_eq_false (fun z => absurd (V.int.inj z) (by decide))) ?_⟩
    refine ⟨_, rfl, rfl, _, rfl, if_false_of (decide_eq_false (fun z => absurd (V.int.inj z) (by decide))) ?_⟩
    refine ⟨_, rfl, rfl, _, rfl, if_false_of (decide_eq_false (fun z => absurd (V.int.inj z) (by decide))) ?_⟩
    refine ⟨_, rfl, rfl, _, rfl, if_false_of (decide_eq_false (fun z => absurd (V.int.inj z) (by decide))) ?_⟩
    refine ⟨_, rfl, rfl, _, rfl, if_true_of (decide_eq_true rfl) ?_⟩
    match L, hL with
    | [u, v], hL =>
      obtain ⟨e1, e2⟩ := List.cons.inj hL
      have e1 : u.2 = r := e1
      have e2 : v.2 = q := (List.cons.inj e2).1
      have h1 := hR u (by simp)
      have h2 := hR v (by simp)
      rw [e1] at h1
      rw [e2] at h2
      exact ⟨_, rfl, _, rfl, l, _, _, _, rfl, rfl, hLs, atI_nat (j := 0) rfl, _, rfl, l, _, _, _, rfl, rfl, hLs, atI_nat (j := 1) rfl, a, u.1, v.1, r, q, s, k, rfl, lt, h1, by omega, h2, by omega, t⟩
    | [], hL => simp at hL
    | [_], hL => simp at hL
    | _ :: _ :: _ :: _, hL => simp at hL
  | member _ hl =>
    have tc : some (Wp03.Call.member ns) = some c := tc
    cases tc
    refine ⟨_, rfl, rfl, _, rfl, if_false_of (decide_eq_false (fun z => absurd (V.int.inj z) (by decide))) ?_⟩
    refine ⟨_, rfl, rfl, _, rfl, if_false_of (decide_eq_false (fun z => absurd (V.int.inj z) (by decide))) ?_⟩
    refine ⟨_, rfl, rfl, _, rfl, if_false_of (decide_eq_false (fun z => absurd (V.int.inj z) (by decide))) ?_⟩
    refine ⟨_, rfl, rfl, _, rfl, if_false_of (decide_eq_false (fun z => absurd (V.int.inj z) (by decide))) ?_⟩
    refine ⟨_, rfl, rfl, _, rfl, if_false_of (decide_eq_false (fun z => absurd (V.int.inj z) (by decide))) ?_⟩
    refine ⟨_, rfl, rfl, _, rfl, if_false_of (decide_eq_false (fun z => absurd (V.int.inj z) (by decide))) ?_⟩
    refine ⟨_, rfl, rfl, _, rfl, if_false_of (decide_eq_false (fun z => absurd (V.int.inj z) (by decide))) ?_⟩
    refine ⟨_, rfl, rfl, _, rfl, if_false_of (decide_eq_false (fun z => absurd (V.int.inj z) (by decide))) ?_⟩
    refine ⟨_, rfl, rfl, _, rfl, if_false_of (decide_eq_false (fun z => absurd (V.int.inj z) (by decide))) ?_⟩
    refine ⟨_, rfl, rfl, _, rfl, if_false_of (decide_eq_false (fun z => absurd (V.int.inj z) (by decide))) ?_⟩
    refine ⟨_, rfl, rfl, _, rfl, if_true_of (decide_eq_true rfl) ?_⟩
    exact ⟨_, rfl, _, rfl, a, b, ns, s, k, rfl, lt, hS, by omega, t⟩
/-! ### counted_at -/
abbrev sCat : Stmt := top 39
def spCat (K : PySem.W.Frag) : Sp := fun vs H Q _ => ∃ (a : Addr) (ns : List Int) (i m : Nat), vs = [.ref a, .int i] ∧ SqL K H a (ns.map V.int) ∧ ns[i]? = some (m : Int) ∧ i + 1 + m ≤ ns.length ∧
  ∀ (H' : Hp) (p : Addr), Same H H' → H p = none → H' p = some (.lst (((ns.drop (i + 1)).take m).map V.int)) → Q (.ref p) H'
theorem scCat : FnScope ["calls", "position", "start"] ["calls", "position"] (defScope sCat) := ⟨rfl, rfl, rfl, by decide +kernel, rfl, by decide +kernel, by decide +kernel⟩
theorem at_int {ns : List Int} {i : Nat} {z : Int} (h : ns[i]? = some z) : atI (ns.map V.int) (i : Int) = some (.int z) := atI_nat (by rw [List.getElem?_map, h]; rfl)
theorem ok_cat {f : Addr} {fd : FuncData} (F : Fun K "counted_at" "counted_at" sCat f fd) : FnOk P w K mg base CX0 1 f fd ["calls", "position"] (spCat K) := by
  refine F.ok scCat (fun vs H Q E h => ?_) (fun cdv A outer sh H vs Q E hr h => ⟨_, (pss_cons (ps_set (i := 2) scCat.nd rfl (Or.inl rfl) (pe_op op_add (pv 1) pe_int))
    (pss_one (ps_ret (pe_slice sl_list (pv 0) (po_some (pv 2)) (po_some (pe_op op_add (pv 2) (pe_ix ix_list (pv 0) (pv 1) (fun _ _ => rfl)))))))), ?_⟩)
  · obtain ⟨a, ns, i, m, rfl, _⟩ := h
    rfl
  obtain ⟨a, ns, i, m, rfl, hS, hi, hl, k⟩ := h
  refine ⟨_, rfl, _, _, rfl, rfl, _, rfl, _, rfl, _, rfl, _, rfl, _, rfl, _, rfl, a, _, _, _, rfl, rfl, hS, at_int hi, _, _, rfl, rfl, _, rfl, a, _, rfl, hS, fun p np => k _ p (same_upd np) np ?_⟩
  rw [upd_same]
  congr 2
  show cutV (ns.map V.int) (some ((i : Int) + 1)) (some ((i : Int) + 1 + (m : Int))) = _
  unfold cutV
  rw [show (i : Int) + 1 = ((i + 1 : Nat) : Int) by omega, show ((i + 1 : Nat) : Int) + (m : Int) = ((i + 1 + m : Nat) : Int) by omega, HT.sIx_nat, HT.sIx_nat, List.length_map, Nat.min_eq_left hl, Nat.min_eq_left (show i + 1 ≤ ns.length by omega), ← List.map_drop, ← List.map_take, Nat.add_sub_cancel_left]
/-! ### answers -/
abbrev sAns : Stmt := top 40
def spAns (K : PySem.W.Frag) : Sp := fun vs H Q _ => ∃ (a : Addr) (ns : List Int), vs = [.ref a] ∧ SqL K H a (ns.map V.int) ∧ ns.length ≤ 1500 ∧ PyWp03.answers_asked ns = true ∧ ∀ (H' : Hp) (p : Addr), H' p = some (.lst ((PyWp03.answers ns).map V.int)) → Q (.ref p) H'
/-- the lot stands whatever stands at g -/
def LotBy (C : Addr) (H : Hp) (g a : Addr) (s : Wp03.State) (k : Nat) : Prop := ∀ o, LotAt C (upd H g o) a s k
theorem LotBy.same {H H' : Hp} {g a : Addr} {s : Wp03.State} {k k' : Nat} (h : LotBy C H g a s k) (e : Same H H') (hk : k ≤ k') : LotBy C H' g a s k' := fun o => (h o).same (fun b u q => by
  by_cases z : b = g
  · rw [z, upd_same] at q ⊢; exact q
  · rw [upd_ne z] at q ⊢; exact e b u q) hk
theorem lot_by {H : Hp} {g a : Addr} {s : Wp03.State} {k : Nat} {od : Obj} {u : HO} (h : LotAt C H a s k) (hg : H g = some (.frz od u)) : LotBy C H g a s k := fun o => by
  obtain ⟨dx, t, gA, LT, LG, h1, h2⟩ := h
  have ne : ∀ {b : Addr} {x : HO}, H b = some x → (∀ od u, x ≠ .frz od u) → b ≠ g := fun e n z => by
    rw [z, hg] at e
    exact n _ _ (Option.some.inj e).symm
  refine ⟨dx, t, gA, LT, LG, by rw [upd_ne (ne h1 fun _ _ z => nomatch z)]; exact h1, ⟨?_, ?_, fun q hq => ?_, fun q hq => ?_, h2.n1, h2.n2, h2.gp, h2.few, h2.isG, h2.same, h2.tP, h2.len⟩⟩
  · rw [upd_ne (ne h2.told fun _ _ z => nomatch z)]; exact h2.told
  · rw [upd_ne (ne h2.group fun _ _ z => nomatch z)]; exact h2.group
  · rw [upd_ne (ne (h2.tT q hq) fun _ _ z => nomatch z)]; exact h2.tT q hq
  · rw [upd_ne (ne (h2.tG q hq) fun _ _ z => nomatch z)]; exact h2.tG q hq
theorem LotBy.ne {H : Hp} {g a : Addr} {s : Wp03.State} {k : Nat} (h : LotBy C H g a s k) : a ≠ g := fun z => by
  obtain ⟨dx, t, gA, LT, LG, h1, _⟩ := h (.lst [])
  rw [z, upd_same] at h1
  cases h1
theorem LotBy.now {H : Hp} {g a : Addr} {s : Wp03.State} {k : Nat} {o : HO} (h : LotBy C H g a s k) (e : H g = some o) : LotAt C H a s k := by
  have := h o
  have e2 : upd H g o = H := by
    funext b
    by_cases z : b = g
    · rw [z, upd_same, e]
    · rw [upd_ne z]
  rwa [e2] at this
theorem drop_at {α : Type} {ns : List α} {i : Nat} {p : α} {r : List α} (h : ns.drop i = p :: r) : i < ns.length ∧ ns[i]? = some p ∧ ns.drop (i + 1) = r := by
  have hi : i < ns.length := by
    apply Decidable.byContradiction
    intro c
    rw [List.drop_eq_nil_of_le (by omega)] at h; cases h
  rw [List.drop_eq_getElem_cons hi] at h
  obtain ⟨h1, h2⟩ := List.cons.inj h
  exact ⟨hi, by rw [List.getElem?_eq_getElem hi, h1], h2⟩
theorem scAns : FnScope ["calls", "lot", "given", "position", "call", "numbers", "lists", "how_many", "step", "one", "answer"] ["calls"] (defScope sAns) := ⟨rfl, rfl, rfl, by decide +kernel, rfl, by decide +kernel, by decide +kernel⟩
theorem ok_ans {f fI : Addr} {fd fdI : FuncData} (F : Fun K "answers" "answers" sAns f fd) (T : Tx K mg C) (B : Bi mg) (M : Mk K C fI) (GI : FnOk P w K mg base CX0 2 fI fdI ["self"] (spInit C)) (bI : Binds K fdI ["self"] []) (DN : Df P w K mg base "counted_at" 1 ["calls", "position"] (spCat K)) (DA : Df P w K mg base "answer_call" 4 ["lot", "call", "numbers", "lists"] (spCall K C)) :
    FnOk P w K mg base CX0 5 f fd ["calls"] (spAns K) := by
  obtain ⟨fN, fdN, okN, mN, kN, bN⟩ := DN
  obtain ⟨fA, fdA, okA, mA, kA, bA⟩ := DA
  refine F.ok scAns (fun vs H Q E h => ?_) (fun cdv A outer sh H vs Q E hr h => ?_)
  · obtain ⟨a, ns, rfl, _⟩ := h
    rfl
  have hr1 := hr.mono (j := 1) (by decide)
  have hrI := hr.mono (j := 3) (by decide)
  refine ⟨_, (pss_cons (ps_set (i := 1) scAns.nd rfl (Or.inl rfl) (pe_make0 M GI hrI (by rfl) T.gC bI .nil pass0))
    (pss_cons (ps_set (i := 2) scAns.nd rfl (Or.inl rfl) (pe_lst pa_nil))
    (pss_cons (ps_set (i := 3) scAns.nd rfl (Or.inl rfl) pe_int)
    (pss_cons (ps_while PassesOwn.never (pt_cmpR op_lt (pv 3) (pe_callB call_len_seq (by rfl) B.len (by decide +kernel) (pa_cons (pv 0) pa_nil)) (nomark _)) (pss_cons (ps_set (i := 4) scAns.nd rfl (Or.inl rfl) (pe_ix ix_list (pv 0) (pv 3) (fun _ _ => rfl)))
    (pss_cons (ps_set (i := 5) scAns.nd rfl (Or.inl rfl) (pe_call okN hr1 (by rfl) mN kN bN .nil pass0 (pa_cons (pv 0) (pa_cons (pe_op op_add (pv 3) pe_int) pa_nil))))
    (pss_cons (ps_aug (i := 3) scAns.nd rfl (Or.inl rfl) (pe_op op_add pe_int (pe_callB call_len_seq (by rfl) B.len (by decide +kernel) (pa_cons (pv 5) pa_nil))) ip_add)
    (pss_cons (ps_set (i := 6) scAns.nd rfl (Or.inl rfl) (pe_lst pa_nil))
    (pss_cons (ps_set (i := 7) scAns.nd rfl (Or.inl rfl) (pe_ix ix_list (pv 0) (pv 3) (fun _ _ => rfl)))
    (pss_cons (ps_aug (i := 3) scAns.nd rfl (Or.inl rfl) pe_int ip_add)
    (pss_cons (ps_for PassesOwn.never rfl (pi_range1 (by rfl) B.range (pa_cons (pv 7) pa_nil)) (pg_name (i := 8) scAns.nd rfl (Or.inl rfl)) (pss_cons (ps_set (i := 9) scAns.nd rfl (Or.inl rfl) (pe_call okN hr1 (by rfl) mN kN bN .nil pass0 (pa_cons (pv 0) (pa_cons (pv 3) pa_nil))))
    (pss_cons (ps_expr (pe_bm PySem.F.plainAttrs_list PySem.F.slot_list_append PySem.F.type_list_append mt_append (pv 6) (pa_cons (pv 9) pa_nil)))
    (pss_one (ps_aug (i := 3) scAns.nd rfl (Or.inl rfl) (pe_op op_add pe_int (pe_callB call_len_seq (by rfl) B.len (by decide +kernel) (pa_cons (pv 9) pa_nil))) ip_add)))))
    (pss_cons (ps_set (i := 10) scAns.nd rfl (Or.inl rfl) (pe_lock (pe_call okA hr (by rfl) mA kA bA .nil pass0 (pa_cons (pv 1) (pa_cons (pv 4) (pa_cons (pv 5) (pa_cons (pv 6) pa_nil)))))))
    (pss_cons (ps_expr (pe_bm PySem.F.plainAttrs_list PySem.F.slot_list_append PySem.F.type_list_append mt_append (pv 2) (pa_cons (pe_callB call_len_seq (by rfl) B.len (by decide +kernel) (pa_cons (pv 10) pa_nil)) pa_nil)))
    (pss_one (ps_expr (pe_bm PySem.F.plainAttrs_list PySem.F.slot_list_extend PySem.F.type_list_extend mt_extend (pv 2) (pa_cons (pv 10) pa_nil))))))))))))))
    (pss_one (ps_ret (pv 2))))))), ?_⟩
  obtain ⟨a, ns, rfl, hS, hl, asked, k⟩ := h
  obtain ⟨cs0, ec0, _, fits0, len0, big, eAns, _⟩ := asked_parts asked
  intro x dx nx ndx nex
  refine ⟨x, dx, rfl, upd_same, fun H1 lot1 off1 => ⟨rfl, ?_⟩⟩
  have s1 : Same H H1 := fun b o e => by
    have bx : b ≠ x := fun z => by rw [z, nx] at e; cases e
    have bd : b ≠ dx := fun z => by rw [z, ndx] at e; cases e
    exact off1 b o (by rw [upd_ne bx, upd_ne bd]; exact e) bx
  refine ⟨Nat.zero_le _, fun g ng => ?_⟩
  have nx1 : x ≠ g := fun z => by
    obtain ⟨_, _, _, _, _, h1, _⟩ := lot1
    rw [z, ng] at h1; cases h1
  have lot2 : LotBy C (upd H1 g (.lst [])) g x Wp03.init 0 := fun o => by rw [upd_upd]; exact lot1.same (same_upd ng) (Nat.le_refl _)
  refine ⟨fun m σ H' => ∃ (i fu kc : Nat) (cs : List (List (List Int))) (s : Wp03.State) (G : List Int) (v4 v5 v6 v7 v8 v9 v10 : Option V), m = cs.length ∧ σ = [some (.ref a), some (.ref x), some (.ref g), some (.int i), v4, v5, v6, v7, v8, v9, v10] ∧ Same H H' ∧ H' g = some (.lst (G.map V.int)) ∧ LotBy C H' g x s kc ∧
    PyWide.calls fu (ns.drop i) = some cs ∧ (∀ c ∈ cs, PyWp03.fits c = true) ∧ kc + cs.length ≤ 40 ∧ G ++ PyFlat.told (PyFlat.played Wp03Neutral.step s cs) = PyWp03.answers ns,
    ⟨_, 0, ns.length, 0, cs0, Wp03.init, [], none, none, none, none, none, none, none, rfl, rfl, same_upd2 s1 (s1.free ng), upd_same, lot2, ec0, fits0, by omega, eAns.symm⟩, ?_⟩
  rintro m σ H2 ⟨i, fu, kc, cs, s, G, v4, v5, v6, v7, v8, v9, v10, rfl, rfl, s2, hg2, lot, ec, fits, lk, eG⟩
  refine ⟨_, rfl, _, rfl, a, _, rfl, .inl (s2.seq hS), _, _, rfl, rfl, _, rfl, ?_⟩
  rw [List.length_map]
  cases ed : ns.drop i with
  | nil =>
    have hi : ns.length ≤ i := List.drop_eq_nil_iff.mp ed
    refine if_false_of (decide_eq_false (by omega)) ⟨_, rfl, k _ g ?_⟩
    rw [ed] at ec
    have := calls_nil ec
    subst this
    have e0 : PyFlat.told (PyFlat.played Wp03Neutral.step s []) = [] := rfl
    rw [e0, List.append_nil] at eG
    rw [hg2, eG]
  | cons p r =>
    obtain ⟨hi, hp, hd1⟩ := drop_at ed
    refine if_true_of (decide_eq_true (by omega)) ?_
    rw [ed] at ec
    obtain ⟨fu', c, u, cs', rfl, ec1, ec2, rfl⟩ := calls_cons ec
    obtain ⟨mz, r', kz, t, xs, rfl, hm0, hml, hk, hk0, hrows, rfl⟩ := call_some ec1
    obtain ⟨mm, rfl⟩ : ∃ mm : Nat, mz = mm := ⟨mz.toNat, by omega⟩
    obtain ⟨kk, rfl⟩ : ∃ kk : Nat, kz = kk := ⟨kz.toNat, by omega⟩
    rw [Int.toNat_natCast] at hml hk hrows fits eG
    obtain ⟨hi1, hp1, hd2⟩ := drop_at hd1
    have fit := fits_fit (fits ((p :: r'.take mm) :: xs) List.mem_cons_self)
    have xl := rows_len kk hrows
    have x2 : xs.length ≤ 2 := by
      generalize r'.take mm = q at fit
      cases fit <;> simp
    have rl : r'.length = ns.length - (i + 2) := by rw [← hd2, List.length_drop]
    have hd3 : ns.drop (i + (2 + mm)) = (kk : Int) :: t := by
      rw [← hk, ← hd2, List.drop_drop]
      congr 1; omega
    obtain ⟨hi3, hp3, hd4⟩ := drop_at hd3
    obtain ⟨cl, hcl⟩ : ∃ cl, toCall p (r'.take mm) xs = some cl := by
      generalize r'.take mm = q at fit
      cases fit <;> exact ⟨_, rfl⟩
    have st : Wp03Neutral.step s ((p :: r'.take mm) :: xs) = Wp03.step s cl := by
      unfold Wp03Neutral.step
      have : Wp03Neutral.callOf ((p :: r'.take mm) :: xs) = some cl := hcl
      rw [this]
    have eT : PyFlat.told (PyFlat.played Wp03Neutral.step s (((p :: r'.take mm) :: xs) :: cs')) = ((Wp03.step s cl).2.length : Int) :: ((Wp03.step s cl).2 ++ PyFlat.told (PyFlat.played Wp03Neutral.step (Wp03.step s cl).1 cs')) := by
      rw [← st, ← told_cons]; rfl
    rw [eT] at eG
    have gl : G.length + 1 + (Wp03.step s cl).2.length ≤ 10000000 := by
      have := congrArg List.length eG
      rw [List.length_append, List.length_cons, List.length_append] at this
      omega
    refine ⟨fun σ' H' => ∃ (i' : Nat) (G' : List Int) (v4 v5 v6 v7 v8 v9 v10 : Option V), σ' = [some (.ref a), some (.ref x), some (.ref g), some (.int i'), v4, v5, v6, v7, v8, v9, v10] ∧ Same H H' ∧ H' g = some (.lst (G'.map V.int)) ∧ LotBy C H' g x (Wp03.step s cl).1 (kc + 1) ∧
      PyWide.calls fu' (ns.drop i') = some cs' ∧ G' ++ PyFlat.told (PyFlat.played Wp03Neutral.step (Wp03.step s cl).1 cs') = PyWp03.answers ns, ?_, ?_⟩
    · rintro σ' H' ⟨i', G', w4, w5, w6, w7, w8, w9, w10, rfl, q1, q2, q3, q4, q5⟩
      refine ⟨cs'.length, by simp, i', fu', kc + 1, cs', _, G', w4, w5, w6, w7, w8, w9, w10, rfl, rfl, q1, q2, q3, q4, fun c hc => fits c (List.mem_cons_of_mem _ hc), ?_, q5⟩
      rw [List.length_cons] at lk; omega
    -- call = calls[position]
    refine ⟨_, rfl, _, rfl, a, _, _, _, rfl, rfl, s2.seq hS, at_int hp, ?_⟩
    -- numbers
    refine ⟨_, rfl, _, rfl, _, _, rfl, rfl, a, ns, i + 1, mm, rfl, s2.seq hS, hp1, by omega, fun H3 b s3 nb hb3 => ?_⟩
    rw [hd2] at hb3
    have bl : (r'.take mm).length = mm := by rw [List.length_take]; omega
    have hS3 := (s2.trans s3).seq hS
    refine ⟨_, rfl, _, rfl, b, _, rfl, .inl (SqL.of hb3), _, _, rfl, rfl, _, _, rfl, rfl, ?_⟩
    rw [List.length_map, bl]
    refine ⟨Nat.zero_le _, fun l nl => ?_⟩
    have nl2 : H2 l = none := s3.free nl
    have s4 : Same H2 (upd H3 l (.lst [])) := same_upd2 s3 nl2
    have hb4 : upd H3 l (.lst []) b = some (.lst ((r'.take mm).map V.int)) := same_upd nl _ _ hb3
    have hl4 : upd H3 l (.lst []) l = some (.lst []) := upd_same
    generalize upd H3 l (.lst []) = H4 at s4 hb4 hl4 ⊢
    refine ⟨_, rfl, _, rfl, a, _, _, _, rfl, rfl, (s2.trans s4).seq hS, at_int hp3, _, rfl, _, _, rfl, rfl, ?_⟩
    refine ⟨_, rfl, _, rfl, by omega, by omega, ?_⟩
    rw [Int.toNat_natCast]
    have bl' : b ≠ l := fun z => by rw [z] at hb3; rw [hb3] at nl; cases nl
    refine for_range (lo := 0) (n := kk) (fun j σ H' => ∃ (pj : Nat) (L : List (Addr × List Int)) (v8 v9 : Option V), σ = [some (.ref a), some (.ref x), some (.ref g), some (.int pj), some (.int p), some (.ref b), some (.ref l), some (.int kk), v8, v9, v10] ∧ Same H2 H' ∧ H' b = some (.lst ((r'.take mm).map V.int)) ∧ H' l = some (.lst (L.map fun q => V.ref q.1)) ∧ (∀ q ∈ L, H' q.1 = some (.lst (q.2.map V.int)) ∧ q.1 ≠ l ∧ H2 q.1 = none) ∧ L.map (·.2) = xs.take j ∧ PyFlat.rows (kk - j) (ns.drop pj) = some (xs.drop j, u))
      ⟨i + (2 + mm) + 1, [], v8, v9, rfl, s4, hb4, hl4, fun q hq => (by cases hq), rfl, by rw [hd4]; exact hrows⟩ ?_ ?_
    · rintro j σ H5 hj ⟨pj, L, v8, v9, rfl, s5, hb5, hl5, hR, eL, hrw⟩
      obtain ⟨kj, ekj⟩ : ∃ kj, kk - j = kj + 1 := ⟨kk - j - 1, by omega⟩
      rw [ekj] at hrw
      obtain ⟨x1, s', ys, e1, e2, e3⟩ := rows_succ hrw
      obtain ⟨m1, r1, e4, hm1, hm2, e5, e6⟩ := row_some e1
      obtain ⟨mj, rfl⟩ : ∃ mj : Nat, m1 = mj := ⟨m1.toNat, by omega⟩
      rw [Int.toNat_natCast] at hm2 e5 e6
      obtain ⟨q1, q2, q3⟩ := drop_at e4
      obtain ⟨_, x2, x3⟩ := drop_at e3
      have r1l : r1.length = ns.length - (pj + 1) := by rw [← q3, List.length_drop]
      refine ⟨_, rfl, _, rfl, a, ns, pj, mj, rfl, (s2.trans s5).seq hS, q2, by omega, fun H6 o s6 no ho6 => ?_⟩
      rw [q3, ← e5] at ho6
      have hl6 := s6 _ _ hl5
      have ll : L.length ≤ j := by
        have := congrArg List.length eL
        rw [List.length_map, List.length_take] at this
        omega
      refine ⟨_, rfl, Or.inl ⟨rfl, _, SqL.of hl6⟩, _, rfl, l, _, _, rfl, rfl, hl6, by rw [List.length_map, sizeLine_eq]; omega, ?_⟩
      have ol : o ≠ l := fun z => by rw [z, hl5] at no; cases no
      have x1l : x1.length = mj := by rw [e5, List.length_take]; omega
      refine ⟨_, rfl, _, rfl, o, _, rfl, .inl (SqL.of (by rw [upd_ne ol]; exact ho6)), _, _, rfl, rfl, _, _, rfl, rfl, pj + (1 + mj), L ++ [(o, x1)], some (.int ((0 : Int) + (j : Int))), some (.ref o), ?_, same_upd2 (s5.trans s6) nl2, ?_, ?_, fun q hq => ?_, ?_, ?_⟩
      · rw [List.length_map, x1l]
        rfl
      · rw [upd_ne bl']; exact s6 _ _ hb5
      · rw [upd_same, List.map_append]; rfl
      · rcases List.mem_append.mp hq with hq | hq
        · obtain ⟨h1, h2, h3⟩ := hR q hq
          exact ⟨by rw [upd_ne h2]; exact s6 _ _ h1, h2, h3⟩
        · rw [List.mem_singleton] at hq
          subst hq
          exact ⟨by rw [upd_ne ol]; exact ho6, ol, s5.free no⟩
      · rw [List.map_append, eL, take_snoc x2]; rfl
      · rw [show kk - (j + 1) = kj by omega, x3, ← e2, e6, ← q3, List.drop_drop, Nat.add_assoc]
    · rintro σ H5 ⟨pj, L, v8, v9, rfl, s5, hb5, hl5, hR, eL, hrw⟩
      rw [Nat.sub_self] at hrw
      obtain ⟨_, eu⟩ := rows_zero hrw
      rw [List.take_of_length_le (by omega)] at eL
      have hgH : H g = none := s1.free ng
      have bg : b ≠ g := fun z => by rw [z, hg2] at nb; cases nb
      have lg : l ≠ g := fun z => by rw [z, hg2] at nl2; cases nl2
      have xg : x ≠ g := lot.ne
      refine ⟨g, HO.lst (G.map V.int), s5 _ _ hg2, trivial, fun od => ?_⟩
      refine ⟨_, rfl, _, rfl, _, rfl, _, rfl, x, b, l, p, r'.take mm, L, s, kc, cl, rfl, lot.same s5 (Nat.le_refl _) _, SqL.of (by rw [upd_ne bg]; exact hb5), SqL.of (by rw [upd_ne lg]; exact hl5), fun q hq => ?_, by omega, by rw [eL]; exact fit, by rw [eL]; exact hcl, fun H6 r lot6 off6 nr hr6 => ?_⟩
      · obtain ⟨h1, h2, h3⟩ := hR q hq
        exact SqL.of (by rw [upd_ne (fun z => by rw [z, hg2] at h3; cases h3)]; exact h1)
      have hfz : H6 g = some (.frz od (.lst (G.map V.int))) := off6 g _ upd_same (Ne.symm xg)
      have rg : r ≠ g := fun z => by rw [z, hfz] at hr6; cases hr6
      refine ⟨hfz, ?_⟩
      refine ⟨_, rfl, Or.inl ⟨rfl, _, SqL.of upd_same⟩, _, rfl, r, _, rfl, .inl (SqL.of (by rw [upd_ne rg]; exact hr6)), g, _, _, rfl, rfl, upd_same, by rw [List.length_map, sizeLine_eq]; omega, ?_⟩
      rw [upd_upd, List.length_map]
      refine ⟨_, rfl, Or.inl ⟨rfl, _, SqL.of upd_same⟩, _, rfl, g, r, _, _, rfl, rfl, upd_same, by rw [upd_ne rg]; exact hr6, ?_, ?_⟩
      · rw [List.length_append, List.length_map, List.length_map, sizeLine_eq]; simp; omega
      rw [upd_upd]
      refine ⟨pj, G ++ [((Wp03.step s cl).2.length : Int)] ++ (Wp03.step s cl).2, _, _, _, _, _, _, _, rfl, fun b' o' e => ?_, ?_, fun o => ?_, by rw [← eu]; exact ec2, ?_⟩
      · have bg' : b' ≠ g := fun z => by rw [z, hgH] at e; cases e
        have bx' : b' ≠ x := fun z => by rw [z, nx] at e; cases e
        rw [upd_ne bg']
        exact off6 b' o' (by rw [upd_ne bg']; exact (s2.trans s5) _ _ e) bx'
      · rw [upd_same, List.map_append, List.map_append]; rfl
      · rw [upd_upd]; exact lot_by lot6 hfz o
      · rw [← eG]; simp
end
end Cc
set_option Elab.async false
set_option maxRecDepth 100000
set_option maxHeartbeats 4000000
namespace Cc
open PySem PySem.Spec PyProof.Rows L2
open PySem.W (Codec)
theorem all_mk {P : Program} {w : World} {K : PySem.W.Frag} {h : Heap} {mg : Str → Option Value} {fa C f0 f1 f2 f3 f4 f5 f6 f7 f8 f9 f10 f11 f12 f13 f14 f15 f16 f17 f18 f19 f20 f21 f22 f23 f24 f25 f26 f27 f28 f29 f30 : Addr} (X : K.In h) (G : h.Ns mainGlobals mg) (hfa : mg "answers" = some (.ref fa))
    {od0 an0 od1 an1 od2 an2 od3 an3 od4 an4 od5 an5 od6 an6 od7 an7 od8 an8 od9 an9 od10 an10 od11 an11 od12 an12 od13 an13 od14 an14 od15 an15 od16 an16 od17 an17 od18 an18 od19 an19 od20 an20 od21 an21 od22 an22 od23 an23 od24 an24 od25 an25 od26 an26 od27 an27 od28 an28 od29 an29 od30 an30 : Option Addr} {sl0 sl1 sl2 sl3 sl4 sl5 sl6 sl7 sl8 sl9 sl10 sl11 sl12 sl13 sl14 sl15 sl16 sl17 sl18 sl19 sl20 sl21 sl22 sl23 sl24 sl25 sl26 sl27 sl28 sl29 sl30 : Array (Option Value)} {oc0 kV0 dc0 pm0 cd0 ct0 oc1 kV1 dc1 pm1 cd1 ct1 oc2 kV2 dc2 pm2 cd2 ct2 oc3 kV3 dc3 pm3 cd3 ct3 oc4 kV4 dc4 pm4 cd4 ct4 oc5 kV5 dc5 pm5 cd5 ct5 oc6 kV6 dc6 pm6 cd6 ct6 oc7 kV7 dc7 pm7 cd7 ct7 oc8 kV8 dc8 pm8 cd8 ct8 oc9 kV9 dc9 pm9 cd9 ct9 oc10 kV10 dc10 pm10 cd10 ct10 oc11 kV11 dc11 pm11 cd11 ct11 oc12 kV12 dc12 pm12 cd12 ct12 oc13 kV13 dc13 pm13 cd13 ct13 oc14 kV14 dc14 pm14 cd14 ct14 oc15 kV15 dc15 pm15 cd15 ct15 oc16 kV16 dc16 pm16 cd16 ct16 oc17 kV17 dc17 pm17 cd17 ct17 oc18 kV18 dc18 pm18 cd18 ct18 oc19 kV19 dc19 pm19 cd19 ct19 oc20 kV20 dc20 pm20 cd20 ct20 oc21 kV21 dc21 pm21 cd21 ct21 oc22 kV22 dc22 pm22 cd22 ct22 oc23 kV23 dc23 pm23 cd23 ct23 oc24 kV24 dc24 pm24 cd24 ct24 oc25 kV25 dc25 pm25 cd25 ct25 oc26 kV26 dc26 pm26 cd26 ct26 oc27 kV27 dc27 pm27 cd27 ct27 oc28 kV28 dc28 pm28 cd28 ct28 oc29 kV29 dc29 pm29 cd29 ct29 oc30 kV30 dc30 pm30 cd30 ct30 : Value} {tk0 tk1 tk2 tk3 tk4 tk5 tk6 tk7 : Tok}
    (aC : PySem.W.nsIn K mainGlobals "Lot" = some (some (.ref C)))
    (a0 : PySem.W.findIn K (.ref C) "__init__" = some (some (.ref f0))) (i0 : PySem.W.isFn K (.ref f0) = true) (l0 : K.lookup f0 = some ⟨oc0, od0, .func (PySem.W.fnOf "__init__" "Lot.__init__" (defArgs sInit) (defBody sInit) (defScope sInit) .none kV0 dc0 pm0 an0 cd0 ct0), sl0⟩) (c0 : PySem.W.codeIn K cd0 "Lot.__init__" = true) (k0 : PySem.W.keepIn K (.ref f0) = true)
    (a1 : PySem.W.nsIn K mainGlobals "all_stays" = some (some (.ref f1))) (l1 : K.lookup f1 = some ⟨oc1, od1, .func (PySem.W.fnOf "all_stays" "all_stays" (defArgs sStays) (defBody sStays) (defScope sStays) .none kV1 dc1 pm1 an1 cd1 ct1), sl1⟩) (c1 : PySem.W.codeIn K cd1 "all_stays" = true) (k1 : PySem.W.keepIn K (.ref f1) = true)
    (a2 : PySem.W.nsIn K mainGlobals "is_exchange" = some (some (.ref f2))) (l2 : K.lookup f2 = some ⟨oc2, od2, .func (PySem.W.fnOf "is_exchange" "is_exchange" (defArgs sIsEx) (defBody sIsEx) (defScope sIsEx) .none kV2 dc2 pm2 an2 cd2 ct2), sl2⟩) (c2 : PySem.W.codeIn K cd2 "is_exchange" = true) (k2 : PySem.W.keepIn K (.ref f2) = true)
    (a3 : PySem.W.nsIn K mainGlobals "done_behind" = some (some (.ref f3))) (l3 : K.lookup f3 = some ⟨oc3, od3, .func (PySem.W.fnOf "done_behind" "done_behind" (defArgs sBehind) (defBody sBehind) (defScope sBehind) .none kV3 dc3 pm3 an3 cd3 ct3), sl3⟩) (c3 : PySem.W.codeIn K cd3 "done_behind" = true) (k3 : PySem.W.keepIn K (.ref f3) = true)
    (a4 : PySem.W.nsIn K mainGlobals "group_of" = some (some (.ref f4))) (l4 : K.lookup f4 = some ⟨oc4, od4, .func (PySem.W.fnOf "group_of" "group_of" (defArgs sGroup) (defBody sGroup) (defScope sGroup) .none kV4 dc4 pm4 an4 cd4 ct4), sl4⟩) (c4 : PySem.W.codeIn K cd4 "group_of" = true) (k4 : PySem.W.keepIn K (.ref f4) = true)
    (a5 : PySem.W.nsIn K mainGlobals "ring_numbers" = some (some (.ref f5))) (l5 : K.lookup f5 = some ⟨oc5, od5, .func (PySem.W.fnOf "ring_numbers" "ring_numbers" (defArgs sRings) (defBody sRings) (defScope sRings) .none kV5 dc5 pm5 an5 cd5 ct5), sl5⟩) (c5 : PySem.W.codeIn K cd5 "ring_numbers" = true) (k5 : PySem.W.keepIn K (.ref f5) = true)
    (a6 : PySem.W.nsIn K mainGlobals "kinds_of" = some (some (.ref f6))) (l6 : K.lookup f6 = some ⟨oc6, od6, .func (PySem.W.fnOf "kinds_of" "kinds_of" (defArgs sKof) (defBody sKof) (defScope sKof) .none kV6 dc6 pm6 an6 cd6 ct6), sl6⟩) (c6 : PySem.W.codeIn K cd6 "kinds_of" = true) (k6 : PySem.W.keepIn K (.ref f6) = true)
    (a7 : PySem.W.nsIn K mainGlobals "power" = some (some (.ref f7))) (l7 : K.lookup f7 = some ⟨oc7, od7, .func (PySem.W.fnOf "power" "power" (defArgs sPower) (defBody sPower) (defScope sPower) .none kV7 dc7 pm7 an7 cd7 ct7), sl7⟩) (c7 : PySem.W.codeIn K cd7 "power" = true) (k7 : PySem.W.keepIn K (.ref f7) = true)
    (a8 : PySem.W.nsIn K mainGlobals "times_till_all_stays" = some (some (.ref f8))) (l8 : K.lookup f8 = some ⟨oc8, od8, .func (PySem.W.fnOf "times_till_all_stays" "times_till_all_stays" (defArgs sTim) (defBody sTim) (defScope sTim) .none kV8 dc8 pm8 an8 cd8 ct8), sl8⟩) (c8 : PySem.W.codeIn K cd8 "times_till_all_stays" = true) (k8 : PySem.W.keepIn K (.ref f8) = true)
    (a9 : PySem.W.nsIn K mainGlobals "all_up_to" = some (some (.ref f9))) (l9 : K.lookup f9 = some ⟨oc9, od9, .func (PySem.W.fnOf "all_up_to" "all_up_to" (defArgs sUp) (defBody sUp) (defScope sUp) .none kV9 dc9 pm9 an9 cd9 ct9), sl9⟩) (c9 : PySem.W.codeIn K cd9 "all_up_to" = true) (k9 : PySem.W.keepIn K (.ref f9) = true)
    (a10 : PySem.W.nsIn K mainGlobals "is_colouring" = some (some (.ref f10))) (l10 : K.lookup f10 = some ⟨oc10, od10, .func (PySem.W.fnOf "is_colouring" "is_colouring" (defArgs sIsc) (defBody sIsc) (defScope sIsc) .none kV10 dc10 pm10 an10 cd10 ct10), sl10⟩) (c10 : PySem.W.codeIn K cd10 "is_colouring" = true) (k10 : PySem.W.keepIn K (.ref f10) = true)
    (a11 : PySem.W.nsIn K mainGlobals "moved" = some (some (.ref f11))) (l11 : K.lookup f11 = some ⟨oc11, od11, .func (PySem.W.fnOf "moved" "moved" (defArgs sMov) (defBody sMov) (defScope sMov) .none kV11 dc11 pm11 an11 cd11 ct11), sl11⟩) (c11 : PySem.W.codeIn K cd11 "moved" = true) (k11 : PySem.W.keepIn K (.ref f11) = true)
    (a12 : PySem.W.nsIn K mainGlobals "is_first" = some (some (.ref f12))) (l12 : K.lookup f12 = some ⟨oc12, od12, .func (PySem.W.fnOf "is_first" "is_first" (defArgs sIsf) (defBody sIsf) (defScope sIsf) .none kV12 dc12 pm12 an12 cd12 ct12), sl12⟩) (c12 : PySem.W.codeIn K cd12 "is_first" = true) (k12 : PySem.W.keepIn K (.ref f12) = true)
    (a13 : PySem.W.nsIn K mainGlobals "colouring_numbered" = some (some (.ref f13))) (l13 : K.lookup f13 = some ⟨oc13, od13, .func (PySem.W.fnOf "colouring_numbered" "colouring_numbered" (defArgs sNum) (defBody sNum) (defScope sNum) .none kV13 dc13 pm13 an13 cd13 ct13), sl13⟩) (c13 : PySem.W.codeIn K cd13 "colouring_numbered" = true) (k13 : PySem.W.keepIn K (.ref f13) = true)
    (a14 : PySem.W.nsIn K mainGlobals "ring_coloured" = some (some (.ref f14))) (l14 : K.lookup f14 = some ⟨oc14, od14, .func (PySem.W.fnOf "ring_coloured" "ring_coloured" (defArgs sRc) (defBody sRc) (defScope sRc) .none kV14 dc14 pm14 an14 cd14 ct14), sl14⟩) (c14 : PySem.W.codeIn K cd14 "ring_coloured" = true) (k14 : PySem.W.keepIn K (.ref f14) = true)
    (a15 : PySem.W.nsIn K mainGlobals "ways_on_rings" = some (some (.ref f15))) (l15 : K.lookup f15 = some ⟨oc15, od15, .func (PySem.W.fnOf "ways_on_rings" "ways_on_rings" (defArgs sWr) (defBody sWr) (defScope sWr) .none kV15 dc15 pm15 an15 cd15 ct15), sl15⟩) (c15 : PySem.W.codeIn K cd15 "ways_on_rings" = true) (k15 : PySem.W.keepIn K (.ref f15) = true)
    (a16 : PySem.W.nsIn K mainGlobals "answer_places" = some (some (.ref f16))) (l16 : K.lookup f16 = some ⟨oc16, od16, .func (PySem.W.fnOf "answer_places" "answer_places" (defArgs sPlaces) (defBody sPlaces) (defScope sPlaces) .none kV16 dc16 pm16 an16 cd16 ct16), sl16⟩) (c16 : PySem.W.codeIn K cd16 "answer_places" = true) (k16 : PySem.W.keepIn K (.ref f16) = true)
    (a17 : PySem.W.nsIn K mainGlobals "answer_turn" = some (some (.ref f17))) (l17 : K.lookup f17 = some ⟨oc17, od17, .func (PySem.W.fnOf "answer_turn" "answer_turn" (defArgs sTurn) (defBody sTurn) (defScope sTurn) .none kV17 dc17 pm17 an17 cd17 ct17), sl17⟩) (c17 : PySem.W.codeIn K cd17 "answer_turn" = true) (k17 : PySem.W.keepIn K (.ref f17) = true)
    (a18 : PySem.W.nsIn K mainGlobals "answer_group" = some (some (.ref f18))) (l18 : K.lookup f18 = some ⟨oc18, od18, .func (PySem.W.fnOf "answer_group" "answer_group" (defArgs sGrp) (defBody sGrp) (defScope sGrp) .none kV18 dc18 pm18 an18 cd18 ct18), sl18⟩) (c18 : PySem.W.codeIn K cd18 "answer_group" = true) (k18 : PySem.W.keepIn K (.ref f18) = true)
    (a19 : PySem.W.nsIn K mainGlobals "orbit_of" = some (some (.ref f19))) (l19 : K.lookup f19 = some ⟨oc19, od19, .func (PySem.W.fnOf "orbit_of" "orbit_of" (defArgs sOrb) (defBody sOrb) (defScope sOrb) .none kV19 dc19 pm19 an19 cd19 ct19), sl19⟩) (c19 : PySem.W.codeIn K cd19 "orbit_of" = true) (k19 : PySem.W.keepIn K (.ref f19) = true)
    (a20 : PySem.W.nsIn K mainGlobals "answer_orbits" = some (some (.ref f20))) (l20 : K.lookup f20 = some ⟨oc20, od20, .func (PySem.W.fnOf "answer_orbits" "answer_orbits" (defArgs sOrbs) (defBody sOrbs) (defScope sOrbs) .none kV20 dc20 pm20 an20 cd20 ct20), sl20⟩) (c20 : PySem.W.codeIn K cd20 "answer_orbits" = true) (k20 : PySem.W.keepIn K (.ref f20) = true)
    (a21 : PySem.W.nsIn K mainGlobals "answer_kinds" = some (some (.ref f21))) (l21 : K.lookup f21 = some ⟨oc21, od21, .func (PySem.W.fnOf "answer_kinds" "answer_kinds" (defArgs sKin) (defBody sKin) (defScope sKin) .none kV21 dc21 pm21 an21 cd21 ct21), sl21⟩) (c21 : PySem.W.codeIn K cd21 "answer_kinds" = true) (k21 : PySem.W.keepIn K (.ref f21) = true)
    (a22 : PySem.W.nsIn K mainGlobals "answer_count" = some (some (.ref f22))) (l22 : K.lookup f22 = some ⟨oc22, od22, .func (PySem.W.fnOf "answer_count" "answer_count" (defArgs sCnt) (defBody sCnt) (defScope sCnt) .none kV22 dc22 pm22 an22 cd22 ct22), sl22⟩) (c22 : PySem.W.codeIn K cd22 "answer_count" = true) (k22 : PySem.W.keepIn K (.ref f22) = true)
    (a23 : PySem.W.nsIn K mainGlobals "answer_by" = some (some (.ref f23))) (l23 : K.lookup f23 = some ⟨oc23, od23, .func (PySem.W.fnOf "answer_by" "answer_by" (defArgs sBy) (defBody sBy) (defScope sBy) .none kV23 dc23 pm23 an23 cd23 ct23), sl23⟩) (c23 : PySem.W.codeIn K cd23 "answer_by" = true) (k23 : PySem.W.keepIn K (.ref f23) = true)
    (a24 : PySem.W.nsIn K mainGlobals "answer_first" = some (some (.ref f24))) (l24 : K.lookup f24 = some ⟨oc24, od24, .func (PySem.W.fnOf "answer_first" "answer_first" (defArgs sFi) (defBody sFi) (defScope sFi) .none kV24 dc24 pm24 an24 cd24 ct24), sl24⟩) (c24 : PySem.W.codeIn K cd24 "answer_first" = true) (k24 : PySem.W.keepIn K (.ref f24) = true)
    (a25 : PySem.W.nsIn K mainGlobals "answer_listed" = some (some (.ref f25))) (l25 : K.lookup f25 = some ⟨oc25, od25, .func (PySem.W.fnOf "answer_listed" "answer_listed" (defArgs sLi) (defBody sLi) (defScope sLi) .none kV25 dc25 pm25 an25 cd25 ct25), sl25⟩) (c25 : PySem.W.codeIn K cd25 "answer_listed" = true) (k25 : PySem.W.keepIn K (.ref f25) = true)
    (a26 : PySem.W.nsIn K mainGlobals "answer_alike" = some (some (.ref f26))) (l26 : K.lookup f26 = some ⟨oc26, od26, .func (PySem.W.fnOf "answer_alike" "answer_alike" (defArgs sAl) (defBody sAl) (defScope sAl) .none kV26 dc26 pm26 an26 cd26 ct26), sl26⟩) (c26 : PySem.W.codeIn K cd26 "answer_alike" = true) (k26 : PySem.W.keepIn K (.ref f26) = true)
    (a27 : PySem.W.nsIn K mainGlobals "answer_member" = some (some (.ref f27))) (l27 : K.lookup f27 = some ⟨oc27, od27, .func (PySem.W.fnOf "answer_member" "answer_member" (defArgs sMe) (defBody sMe) (defScope sMe) .none kV27 dc27 pm27 an27 cd27 ct27), sl27⟩) (c27 : PySem.W.codeIn K cd27 "answer_member" = true) (k27 : PySem.W.keepIn K (.ref f27) = true)
    (a28 : PySem.W.nsIn K mainGlobals "answer_call" = some (some (.ref f28))) (l28 : K.lookup f28 = some ⟨oc28, od28, .func (PySem.W.fnOf "answer_call" "answer_call" (defArgs sCall) (defBody sCall) (defScope sCall) .none kV28 dc28 pm28 an28 cd28 ct28), sl28⟩) (c28 : PySem.W.codeIn K cd28 "answer_call" = true) (k28 : PySem.W.keepIn K (.ref f28) = true)
    (a29 : PySem.W.nsIn K mainGlobals "counted_at" = some (some (.ref f29))) (l29 : K.lookup f29 = some ⟨oc29, od29, .func (PySem.W.fnOf "counted_at" "counted_at" (defArgs sCat) (defBody sCat) (defScope sCat) .none kV29 dc29 pm29 an29 cd29 ct29), sl29⟩) (c29 : PySem.W.codeIn K cd29 "counted_at" = true) (k29 : PySem.W.keepIn K (.ref f29) = true)
    (a30 : PySem.W.nsIn K mainGlobals "answers" = some (some (.ref f30))) (l30 : K.lookup f30 = some ⟨oc30, od30, .func (PySem.W.fnOf "answers" "answers" (defArgs sAns) (defBody sAns) (defScope sAns) .none kV30 dc30 pm30 an30 cd30 ct30), sl30⟩) (c30 : PySem.W.codeIn K cd30 "answers" = true) (k30 : PySem.W.keepIn K (.ref f30) = true)
    (n0 : PySem.W.nsIn K mainGlobals "MOST_PLACES" = some (some (.int 10 tk0))) (n1 : PySem.W.nsIn K mainGlobals "MOST_EXCHANGES" = some (some (.int 200 tk1))) (n2 : PySem.W.nsIn K mainGlobals "MOST_SHOWN" = some (some (.int 24 tk2))) (n3 : PySem.W.nsIn K mainGlobals "MOST_COLOURS" = some (some (.int 1000 tk3))) (n4 : PySem.W.nsIn K mainGlobals "MOST_NUMBERS" = some (some (.int 5 tk4))) (n5 : PySem.W.nsIn K mainGlobals "HIGHEST_COLOUR" = some (some (.int 9 tk5))) (n6 : PySem.W.nsIn K mainGlobals "MOST_LISTED_COLOURS" = some (some (.int 3 tk6))) (n7 : PySem.W.nsIn K mainGlobals "MOST_STEPS" = some (some (.int 100000 tk7)))
    (z0 : PySem.W.nsIn K mainGlobals "range" = some none) (z1 : PySem.W.nsIn K mainGlobals "tuple" = some none) (z2 : PySem.W.nsIn K mainGlobals "list" = some none) (z3 : PySem.W.nsIn K mainGlobals "len" = some none) (z4 : PySem.W.nsIn K mainGlobals "sorted" = some none) (z5 : PySem.W.nsIn K mainGlobals "sum" = some none) (z6 : PySem.W.nsIn K mainGlobals "set" = some none) (z7 : PySem.W.nsIn K mainGlobals "all" = some none) (z8 : PySem.W.nsIn K mainGlobals "min" = some none)
    (pg : PySem.W.plainGet K C Str.empty = true) (hd : PySem.W.hasDictIn K C = true) (po : PySem.W.plainOver K C = true) (sa : PySem.W.findIn K (.ref C) "__setattr__" = some (some (.builtin "object.__setattr__"))) (mk : PySem.W.makesIn K C = true) (kc : PySem.W.keepIn K (.ref C) = true)
    (nS : PySem.W.findIn K (.ref C) "size" = some none) (nT : PySem.W.findIn K (.ref C) "told" = some none) (nG : PySem.W.findIn K (.ref C) "group" = some none) :
    ∃ fd : FuncData, (∀ (s : Shared) (us : List Value), us.length = (["calls"] : List Str).length → BindsTo s fd ⟨us, []⟩ ((["calls"] : List Str).zip us)) ∧ ∀ base : Heap, K.In base → base.Ns mainGlobals mg → FnOk P w K mg base CX0 5 fa fd ["calls"] (spAns K) := by
  have e := hfa.symm.trans (PySem.W.mg_of X G a30)
  cases e
  have T : Tx K mg C := ⟨⟨pg, hd, po, sa⟩, nS, nT, nG, PySem.W.mg_of X G aC⟩
  have B : Bi mg := ⟨PySem.W.mg_none_of X G z0, PySem.W.mg_none_of X G z1, PySem.W.mg_none_of X G z2, PySem.W.mg_none_of X G z3, PySem.W.mg_none_of X G z4, PySem.W.mg_none_of X G z5, PySem.W.mg_none_of X G z6, PySem.W.mg_none_of X G z7, PySem.W.mg_none_of X G z8⟩
  have Co : Cs mg := ⟨⟨_, PySem.W.mg_of X G n0⟩, ⟨_, PySem.W.mg_of X G n1⟩, ⟨_, PySem.W.mg_of X G n2⟩, ⟨_, PySem.W.mg_of X G n3⟩, ⟨_, PySem.W.mg_of X G n4⟩, ⟨_, PySem.W.mg_of X G n5⟩, ⟨_, PySem.W.mg_of X G n6⟩, ⟨_, PySem.W.mg_of X G n7⟩⟩
  have F0 := fun_mk (st := sInit) l0 c0 k0
  have b0 := F0.binds (ps := ["self"]) fun _ _ _ _ _ _ us hl => match us, hl with | [_], _ => rfl
  have F1 := fun_mk (st := sStays) l1 c1 k1
  have b1 := F1.binds (ps := ["size"]) fun _ _ _ _ _ _ us hl => match us, hl with | [_], _ => rfl
  have D1 : ∀ base, Df P w K mg base "all_stays" 1 ["size"] spStays := fun base => ⟨_, _, ok_stays F1 B, PySem.W.mg_of X G a1, k1, b1⟩
  have F2 := fun_mk (st := sIsEx) l2 c2 k2
  have b2 := F2.binds (ps := ["numbers", "size"]) fun _ _ _ _ _ _ us hl => match us, hl with | [_, _], _ => rfl
  have D2 : ∀ base, Df P w K mg base "is_exchange" 1 ["numbers", "size"] (spIsEx K) := fun base => ⟨_, _, ok_isEx F2 B, PySem.W.mg_of X G a2, k2, b2⟩
  have F3 := fun_mk (st := sBehind) l3 c3 k3
  have b3 := F3.binds (ps := ["before", "after"]) fun _ _ _ _ _ _ us hl => match us, hl with | [_, _], _ => rfl
  have D3 : ∀ base, Df P w K mg base "done_behind" 1 ["before", "after"] (spBehind K) := fun base => ⟨_, _, ok_behind F3 B, PySem.W.mg_of X G a3, k3, b3⟩
  have F4 := fun_mk (st := sGroup) l4 c4 k4
  have b4 := F4.binds (ps := ["told", "size"]) fun _ _ _ _ _ _ us hl => match us, hl with | [_, _], _ => rfl
  have D4 : ∀ base, Df P w K mg base "group_of" 2 ["told", "size"] (spGroup K) := fun base => ⟨_, _, ok_group F4 B Co (D1 base) (D3 base), PySem.W.mg_of X G a4, k4, b4⟩
  have F5 := fun_mk (st := sRings) l5 c5 k5
  have b5 := F5.binds (ps := ["exchange"]) fun _ _ _ _ _ _ us hl => match us, hl with | [_], _ => rfl
  have D5 : ∀ base, Df P w K mg base "ring_numbers" 1 ["exchange"] (spRings K) := fun base => ⟨_, _, ok_rings F5 B, PySem.W.mg_of X G a5, k5, b5⟩
  have F6 := fun_mk (st := sKof) l6 c6 k6
  have b6 := F6.binds (ps := ["group"]) fun _ _ _ _ _ _ us hl => match us, hl with | [_], _ => rfl
  have D6 : ∀ base, Df P w K mg base "kinds_of" 2 ["group"] (spKof K) := fun base => ⟨_, _, ok_kof F6 (D5 base), PySem.W.mg_of X G a6, k6, b6⟩
  have F7 := fun_mk (st := sPower) l7 c7 k7
  have b7 := F7.binds (ps := ["base", "exponent"]) fun _ _ _ _ _ _ us hl => match us, hl with | [_, _], _ => rfl
  have D7 : ∀ base, Df P w K mg base "power" 1 ["base", "exponent"] spPower := fun base => ⟨_, _, ok_power F7 B, PySem.W.mg_of X G a7, k7, b7⟩
  have F8 := fun_mk (st := sTim) l8 c8 k8
  have b8 := F8.binds (ps := ["exchange"]) fun _ _ _ _ _ _ us hl => match us, hl with | [_], _ => rfl
  have D8 : ∀ base, Df P w K mg base "times_till_all_stays" 2 ["exchange"] (spTim K) := fun base => ⟨_, _, ok_tim F8 B (D1 base) (D3 base), PySem.W.mg_of X G a8, k8, b8⟩
  have F9 := fun_mk (st := sUp) l9 c9 k9
  have b9 := F9.binds (ps := ["numbers", "most"]) fun _ _ _ _ _ _ us hl => match us, hl with | [_, _], _ => rfl
  have D9 : ∀ base, Df P w K mg base "all_up_to" 1 ["numbers", "most"] (spUp K) := fun base => ⟨_, _, ok_up F9 B, PySem.W.mg_of X G a9, k9, b9⟩
  have F10 := fun_mk (st := sIsc) l10 c10 k10
  have b10 := F10.binds (ps := ["numbers", "size"]) fun _ _ _ _ _ _ us hl => match us, hl with | [_, _], _ => rfl
  have D10 : ∀ base, Df P w K mg base "is_colouring" 2 ["numbers", "size"] (spIsc K) := fun base => ⟨_, _, ok_isc F10 B Co (D9 base), PySem.W.mg_of X G a10, k10, b10⟩
  have F11 := fun_mk (st := sMov) l11 c11 k11
  have b11 := F11.binds (ps := ["colouring", "exchange"]) fun _ _ _ _ _ _ us hl => match us, hl with | [_, _], _ => rfl
  have D11 : ∀ base, Df P w K mg base "moved" 1 ["colouring", "exchange"] (spMov K) := fun base => ⟨_, _, ok_mov F11 B, PySem.W.mg_of X G a11, k11, b11⟩
  have F12 := fun_mk (st := sIsf) l12 c12 k12
  have b12 := F12.binds (ps := ["colouring", "group"]) fun _ _ _ _ _ _ us hl => match us, hl with | [_, _], _ => rfl
  have D12 : ∀ base, Df P w K mg base "is_first" 2 ["colouring", "group"] (spIsf K) := fun base => ⟨_, _, ok_isf F12 (D11 base), PySem.W.mg_of X G a12, k12, b12⟩
  have F13 := fun_mk (st := sNum) l13 c13 k13
  have b13 := F13.binds (ps := ["number", "colours", "size"]) fun _ _ _ _ _ _ us hl => match us, hl with | [_, _, _], _ => rfl
  have D13 : ∀ base, Df P w K mg base "colouring_numbered" 1 ["number", "colours", "size"] spNum := fun base => ⟨_, _, ok_num F13 B, PySem.W.mg_of X G a13, k13, b13⟩
  have F14 := fun_mk (st := sRc) l14 c14 k14
  have b14 := F14.binds (ps := ["ways", "length"]) fun _ _ _ _ _ _ us hl => match us, hl with | [_, _], _ => rfl
  have D14 : ∀ base, Df P w K mg base "ring_coloured" 1 ["ways", "length"] spRc := fun base => ⟨_, _, ok_rc F14 B, PySem.W.mg_of X G a14, k14, b14⟩
  have F15 := fun_mk (st := sWr) l15 c15 k15
  have b15 := F15.binds (ps := ["kind", "numbers"]) fun _ _ _ _ _ _ us hl => match us, hl with | [_, _], _ => rfl
  have D15 : ∀ base, Df P w K mg base "ways_on_rings" 2 ["kind", "numbers"] (spWr K) := fun base => ⟨_, _, ok_wr F15 B (D14 base), PySem.W.mg_of X G a15, k15, b15⟩
  have F16 := fun_mk (st := sPlaces) l16 c16 k16
  have b16 := F16.binds (ps := ["lot", "size"]) fun _ _ _ _ _ _ us hl => match us, hl with | [_, _], _ => rfl
  have D16 : ∀ base, Df P w K mg base "answer_places" 2 ["lot", "size"] (spPlaces C) := fun base => ⟨_, _, ok_places F16 T Co (D1 base), PySem.W.mg_of X G a16, k16, b16⟩
  have F17 := fun_mk (st := sTurn) l17 c17 k17
  have b17 := F17.binds (ps := ["lot", "numbers"]) fun _ _ _ _ _ _ us hl => match us, hl with | [_, _], _ => rfl
  have D17 : ∀ base, Df P w K mg base "answer_turn" 3 ["lot", "numbers"] (spTurn K C) := fun base => ⟨_, _, ok_turn F17 T B (D2 base) (D4 base), PySem.W.mg_of X G a17, k17, b17⟩
  have F18 := fun_mk (st := sGrp) l18 c18 k18
  have b18 := F18.binds (ps := ["lot"]) fun _ _ _ _ _ _ us hl => match us, hl with | [_], _ => rfl
  have D18 : ∀ base, Df P w K mg base "answer_group" 1 ["lot"] (spGrp C) := fun base => ⟨_, _, ok_grp F18 T B Co, PySem.W.mg_of X G a18, k18, b18⟩
  have F19 := fun_mk (st := sOrb) l19 c19 k19
  have b19 := F19.binds (ps := ["lot", "place"]) fun _ _ _ _ _ _ us hl => match us, hl with | [_, _], _ => rfl
  have D19 : ∀ base, Df P w K mg base "orbit_of" 1 ["lot", "place"] (spOrb C) := fun base => ⟨_, _, ok_orb F19 T B, PySem.W.mg_of X G a19, k19, b19⟩
  have F20 := fun_mk (st := sOrbs) l20 c20 k20
  have b20 := F20.binds (ps := ["lot"]) fun _ _ _ _ _ _ us hl => match us, hl with | [_], _ => rfl
  have D20 : ∀ base, Df P w K mg base "answer_orbits" 2 ["lot"] (spOrbs C) := fun base => ⟨_, _, ok_orbs F20 T B (D19 base), PySem.W.mg_of X G a20, k20, b20⟩
  have F21 := fun_mk (st := sKin) l21 c21 k21
  have b21 := F21.binds (ps := ["lot"]) fun _ _ _ _ _ _ us hl => match us, hl with | [_], _ => rfl
  have D21 : ∀ base, Df P w K mg base "answer_kinds" 3 ["lot"] (spKin C) := fun base => ⟨_, _, ok_kin F21 T B (D6 base), PySem.W.mg_of X G a21, k21, b21⟩
  have F22 := fun_mk (st := sCnt) l22 c22 k22
  have b22 := F22.binds (ps := ["lot", "colours"]) fun _ _ _ _ _ _ us hl => match us, hl with | [_, _], _ => rfl
  have D22 : ∀ base, Df P w K mg base "answer_count" 3 ["lot", "colours"] (spCnt C) := fun base => ⟨_, _, ok_cnt F22 T B Co (D7 base) (D6 base), PySem.W.mg_of X G a22, k22, b22⟩
  have F23 := fun_mk (st := sBy) l23 c23 k23
  have b23 := F23.binds (ps := ["lot", "numbers"]) fun _ _ _ _ _ _ us hl => match us, hl with | [_, _], _ => rfl
  have D23 : ∀ base, Df P w K mg base "answer_by" 3 ["lot", "numbers"] (spBy K C) := fun base => ⟨_, _, ok_by F23 T B Co (D9 base) (D6 base) (D15 base), PySem.W.mg_of X G a23, k23, b23⟩
  have F24 := fun_mk (st := sFi) l24 c24 k24
  have b24 := F24.binds (ps := ["lot", "numbers"]) fun _ _ _ _ _ _ us hl => match us, hl with | [_, _], _ => rfl
  have D24 : ∀ base, Df P w K mg base "answer_first" 3 ["lot", "numbers"] (spFi K C) := fun base => ⟨_, _, ok_fi F24 T B (D10 base) (D11 base), PySem.W.mg_of X G a24, k24, b24⟩
  have F25 := fun_mk (st := sLi) l25 c25 k25
  have b25 := F25.binds (ps := ["lot", "colours", "number"]) fun _ _ _ _ _ _ us hl => match us, hl with | [_, _, _], _ => rfl
  have D25 : ∀ base, Df P w K mg base "answer_listed" 3 ["lot", "colours", "number"] (spLi C) := fun base => ⟨_, _, ok_li F25 T B Co (D7 base) (D13 base) (D12 base), PySem.W.mg_of X G a25, k25, b25⟩
  have F26 := fun_mk (st := sAl) l26 c26 k26
  have b26 := F26.binds (ps := ["lot", "numbers", "others"]) fun _ _ _ _ _ _ us hl => match us, hl with | [_, _, _], _ => rfl
  have D26 : ∀ base, Df P w K mg base "answer_alike" 3 ["lot", "numbers", "others"] (spAl K C) := fun base => ⟨_, _, ok_al F26 T B (D10 base) (D11 base), PySem.W.mg_of X G a26, k26, b26⟩
  have F27 := fun_mk (st := sMe) l27 c27 k27
  have b27 := F27.binds (ps := ["lot", "numbers"]) fun _ _ _ _ _ _ us hl => match us, hl with | [_, _], _ => rfl
  have D27 : ∀ base, Df P w K mg base "answer_member" 3 ["lot", "numbers"] (spMe K C) := fun base => ⟨_, _, ok_me F27 T B (D2 base) (D8 base), PySem.W.mg_of X G a27, k27, b27⟩
  have F28 := fun_mk (st := sCall) l28 c28 k28
  have b28 := F28.binds (ps := ["lot", "call", "numbers", "lists"]) fun _ _ _ _ _ _ us hl => match us, hl with | [_, _, _, _], _ => rfl
  have D28 : ∀ base, Df P w K mg base "answer_call" 4 ["lot", "call", "numbers", "lists"] (spCall K C) := fun base => ⟨_, _, ok_call F28 (D16 base) (D17 base) (D18 base) (D20 base) (D21 base) (D22 base) (D23 base) (D24 base) (D25 base) (D26 base) (D27 base), PySem.W.mg_of X G a28, k28, b28⟩
  have F29 := fun_mk (st := sCat) l29 c29 k29
  have b29 := F29.binds (ps := ["calls", "position"]) fun _ _ _ _ _ _ us hl => match us, hl with | [_, _], _ => rfl
  have D29 : ∀ base, Df P w K mg base "counted_at" 1 ["calls", "position"] (spCat K) := fun base => ⟨_, _, ok_cat F29 , PySem.W.mg_of X G a29, k29, b29⟩
  have F30 := fun_mk (st := sAns) l30 c30 k30
  exact ⟨PySem.W.fnOf "answers" "answers" (defArgs sAns) (defBody sAns) (defScope sAns) .none kV30 dc30 pm30 an30 cd30 ct30, fun s us hu => match us, hu with | [_], _ => .of_eq rfl, fun base _ _ => ok_ans F30 T B ⟨mk, a0, i0, kc⟩ (ok_init F0 T (D1 base)) b0 (D29 base) (D28 base)⟩
end Cc
open PySem PySem.W PyProof.Rows
set_option maxRecDepth 100000 in
set_option maxHeartbeats 8000000 in
theorem PySem.Challenge.cw_countedcolours_s01_answers_holds : PySem.Challenge.rw_countedcolours_s01_answers.Holds := by
  w_on; k_headS; (case hw => exact ⟨[.list [.int 2, .int 0, .int 0]], by decide +kernel, by decide +kernel⟩)
  k_fillS
  refine L2.walk_specK (r := PySem.Challenge.rw_countedcolours_s01_answers) (k := 5) (CX := L2.CX0) (ps := ["calls"]) (sp := Cc.spAns) (by decide +kernel) rfl rfl ⟨rfl, by decide, by decide⟩ (fun w h Y => PySem.W.kIn_of Y) ?F ?S (fun _ _ _ _ z => z)
  case F =>
    intro w mg fa h Y KX G hmg
    refine' Cc.all_mk KX G hmg ?aC ?a0 ?i0 ?l0 ?c0 ?k0 ?a1 ?l1 ?c1 ?k1 ?a2 ?l2 ?c2 ?k2 ?a3 ?l3 ?c3 ?k3 ?a4 ?l4 ?c4 ?k4 ?a5 ?l5 ?c5 ?k5 ?a6 ?l6 ?c6 ?k6 ?a7 ?l7 ?c7 ?k7 ?a8 ?l8 ?c8 ?k8 ?a9 ?l9 ?c9 ?k9 ?a10 ?l10 ?c10 ?k10 ?a11 ?l11 ?c11 ?k11 ?a12 ?l12 ?c12 ?k12 ?a13 ?l13 ?c13 ?k13 ?a14 ?l14 ?c14 ?k14 ?a15 ?l15 ?c15 ?k15 ?a16 ?l16 ?c16 ?k16 ?a17 ?l17 ?c17 ?k17 ?a18 ?l18 ?c18 ?k18 ?a19 ?l19 ?c19 ?k19 ?a20 ?l20 ?c20 ?k20 ?a21 ?l21 ?c21 ?k21 ?a22 ?l22 ?c22 ?k22 ?a23 ?l23 ?c23 ?k23 ?a24 ?l24 ?c24 ?k24 ?a25 ?l25 ?c25 ?k25 ?a26 ?l26 ?c26 ?k26 ?a27 ?l27 ?c27 ?k27 ?a28 ?l28 ?c28 ?k28 ?a29 ?l29 ?c29 ?k29 ?a30 ?l30 ?c30 ?k30 ?n0 ?n1 ?n2 ?n3 ?n4 ?n5 ?n6 ?n7 ?z0 ?z1 ?z2 ?z3 ?z4 ?z5 ?z6 ?z7 ?z8 ?pg ?hd ?po ?sa ?mk ?kc ?nS ?nT ?nG
    (case aC => k_is)
    (case a0 => k_is)
    (case i0 => k_is)
    (case l0 => k_is)
    (case c0 => k_is)
    (case k0 => k_is)
    (case a1 => k_is)
    (case l1 => k_is)
    (case c1 => k_is)
    (case k1 => k_is)
    (case a2 => k_is)
    (case l2 => k_is)
    (case c2 => k_is)
    (case k2 => k_is)
    (case a3 => k_is)
    (case l3 => k_is)
    (case c3 => k_is)
    (case k3 => k_is)
    (case a4 => k_is)
    (case l4 => k_is)
    (case c4 => k_is)
    (case k4 => k_is)
    (case a5 => k_is)
    (case l5 => k_is)
    (case c5 => k_is)
    (case k5 => k_is)
    (case a6 => k_is)
    (case l6 => k_is)
    (case c6 => k_is)
    (case k6 => k_is)
    (case a7 => k_is)
    (case l7 => k_is)
    (case c7 => k_is)
    (case k7 => k_is)
    (case a8 => k_is)
    (case l8 => k_is)
    (case c8 => k_is)
    (case k8 => k_is)
    (case a9 => k_is)
    (case l9 => k_is)
    (case c9 => k_is)
    (case k9 => k_is)
    (case a10 => k_is)
    (case l10 => k_is)
    (case c10 => k_is)
    (case k10 => k_is)
    (case a11 => k_is)
    (case l11 => k_is)
    (case c11 => k_is)
    (case k11 => k_is)
    (case a12 => k_is)
    (case l12 => k_is)
    (case c12 => k_is)
    (case k12 => k_is)
    (case a13 => k_is)
    (case l13 => k_is)
    (case c13 => k_is)
    (case k13 => k_is)
    (case a14 => k_is)
    (case l14 => k_is)
    (case c14 => k_is)
    (case k14 => k_is)
    (case a15 => k_is)
    (case l15 => k_is)
    (case c15 => k_is)
    (case k15 => k_is)
    (case a16 => k_is)
    (case l16 => k_is)
    (case c16 => k_is)
    (case k16 => k_is)
    (case a17 => k_is)
    (case l17 => k_is)
    (case c17 => k_is)
    (case k17 => k_is)
    (case a18 => k_is)
    (case l18 => k_is)
    (case c18 => k_is)
    (case k18 => k_is)
    (case a19 => k_is)
    (case l19 => k_is)
    (case c19 => k_is)
    (case k19 => k_is)
    (case a20 => k_is)
    (case l20 => k_is)
    (case c20 => k_is)
    (case k20 => k_is)
    (case a21 => k_is)
    (case l21 => k_is)
    (case c21 => k_is)
    (case k21 => k_is)
    (case a22 => k_is)
    (case l22 => k_is)
    (case c22 => k_is)
    (case k22 => k_is)
    (case a23 => k_is)
    (case l23 => k_is)
    (case c23 => k_is)
    (case k23 => k_is)
    (case a24 => k_is)
    (case l24 => k_is)
    (case c24 => k_is)
    (case k24 => k_is)
    (case a25 => k_is)
    (case l25 => k_is)
    (case c25 => k_is)
    (case k25 => k_is)
    (case a26 => k_is)
    (case l26 => k_is)
    (case c26 => k_is)
    (case k26 => k_is)
    (case a27 => k_is)
    (case l27 => k_is)
    (case c27 => k_is)
    (case k27 => k_is)
    (case a28 => k_is)
    (case l28 => k_is)
    (case c28 => k_is)
    (case k28 => k_is)
    (case a29 => k_is)
    (case l29 => k_is)
    (case c29 => k_is)
    (case k29 => k_is)
    (case a30 => k_is)
    (case l30 => k_is)
    (case c30 => k_is)
    (case k30 => k_is)
    (case n0 => k_is)
    (case n1 => k_is)
    (case n2 => k_is)
    (case n3 => k_is)
    (case n4 => k_is)
    (case n5 => k_is)
    (case n6 => k_is)
    (case n7 => k_is)
    (case z0 => k_is)
    (case z1 => k_is)
    (case z2 => k_is)
    (case z3 => k_is)
    (case z4 => k_is)
    (case z5 => k_is)
    (case z6 => k_is)
    (case z7 => k_is)
    (case z8 => k_is)
    (case pg => k_is)
    (case hd => k_is)
    (case po => k_is)
    (case sa => k_is)
    (case mk => k_is)
    (case kc => k_is)
    (case nS => k_is)
    (case nT => k_is)
    (case nG => k_is)
  case S =>
    intro K H xs a hO hwi hask hx
    cases hx with
    | cons h1 h2 =>
      cases h2
      cases h1 with
      | lst hs ha =>
        have e := L2.ints_dw a.1 _ ha
        subst e
        have q : ((Codec.inLen 0 1500 a.1 && a.1.all (Codec.inInt (-4294967295) 4294967295)) && true) = true := hwi
        rw [Bool.and_eq_true, Bool.and_eq_true] at q
        exact ⟨_, a.1, rfl, hs, (Codec.inNat_iff.mp q.1.1).2, hask, fun H' p hp => .lst (L2.SqL.of hp) (L2.dw_ints _)⟩
#print axioms PySem.Challenge.cw_countedcolours_s01_answers_holds
